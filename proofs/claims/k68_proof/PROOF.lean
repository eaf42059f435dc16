import PyProof.Rows.All
import Wide.All
import OpenK.AllK
import Wide.FinOn
import Lean
import PyProof.EqAt
import PyProof.EqKinds
import PyProof.TupleCall
import KE.KSortTup
import PyProof.Rows.SortShellK
import PyProof.Rows.SortWalk
import KE.KDictList
import PySem.Challenge.RW_everalike_k68_joint_refused
set_option Elab.async false
set_option linter.all false
set_option maxRecDepth 100000
namespace L2
open PySem PySem.Spec PyProof.Rows
abbrev Key := Sum Int Str
def keyIs : Key → Value → Bool
  | .inl k, v => Value.isInt k v
  | .inr x, v => Value.isStrOf x v
def keyH (w : World) : Key → Int
  | .inl k => hashInt k
  | .inr x => hashStr w x
theorem keyIs_shape : ∀ {k : Key} {v : Value}, keyIs k v = true → (∃ i t, k = Sum.inl i ∧ v = Value.int i t) ∨ (∃ x t, k = Sum.inr x ∧ v = Value.str x t)
  | .inl i, v, h => by
    obtain ⟨t, e⟩ := Value.isInt_shape (k := i) (v := v) h
    exact .inl ⟨i, t, rfl, e⟩
  | .inr x, v, h => by
    obtain ⟨t, e⟩ := Value.isStrOf_shape (x := x) (v := v) h
    exact .inr ⟨x, t, rfl, e⟩
theorem keyIs_int (i : Int) (t : Tok) : keyIs (.inl i) (.int i t) = true := by simp [keyIs, Value.isInt]
theorem keyIs_str (x : Str) (t : Tok) : keyIs (.inr x) (.str x t) = true := by simp [keyIs, Value.isStrOf]
theorem key_ll (a b : Int) : decide ((Sum.inl a : Key) = Sum.inl b) = (a == b) := by
  by_cases e : a = b
  · subst e; simp
  · have h : ¬ (Sum.inl a : Key) = Sum.inl b := fun q => e (Sum.inl.inj q)
    rw [decide_eq_false h]
    exact (beq_eq_false_iff_ne.mpr e).symm
theorem key_rr (a b : Str) : decide ((Sum.inr a : Key) = Sum.inr b) = decide (a = b) := by
  by_cases e : a = b
  · subst e; simp
  · have h : ¬ (Sum.inr a : Key) = Sum.inr b := fun q => e (Sum.inr.inj q)
    rw [decide_eq_false h, decide_eq_false e]
theorem key_lr (a : Int) (b : Str) : decide ((Sum.inl a : Key) = Sum.inr b) = false := decide_eq_false (fun q => nomatch q)
theorem key_rl (a : Str) (b : Int) : decide ((Sum.inr a : Key) = Sum.inl b) = false := decide_eq_false (fun q => nomatch q)
def mixKind (prog : Program) (w : World) : PySem.KeyKind prog w Key where
  is := keyIs
  hash := keyH w
  inj := fun v a b ha hb => by
    rcases keyIs_shape ha with ⟨i, t, rfl, rfl⟩ | ⟨x, t, rfl, rfl⟩
    · rcases keyIs_shape hb with ⟨j, u, rfl, e⟩ | ⟨y, u, rfl, e⟩
      · injection e with e1 _; rw [e1]
      · exact nomatch e
    · rcases keyIs_shape hb with ⟨j, u, rfl, e⟩ | ⟨y, u, rfl, e⟩
      · exact nomatch e
      · injection e with e1 _; rw [e1]
  byValue := fun k v h => by
    rcases keyIs_shape h with ⟨i, t, rfl, rfl⟩ | ⟨x, t, rfl, rfl⟩ <;> rfl
  pyHash := fun hv h => by
    rcases keyIs_shape hv with ⟨i, t, rfl, rfl⟩ | ⟨x, t, rfl, rfl⟩
    · exact wpAny_pyHash_int h
    · exact wpAny_pyHash_str h
  eqBool := fun hu hv h => by
    rcases keyIs_shape hu with ⟨i, t, rfl, rfl⟩ | ⟨x, t, rfl, rfl⟩
    · rcases keyIs_shape hv with ⟨j, u, rfl, rfl⟩ | ⟨y, u, rfl, rfl⟩
      · rw [key_ll] at h; exact wpAny_eqBool_int h
      · rw [key_lr] at h; exact SeqAt.EqAt.int_str i t y u _ _ _ _ h
    · rcases keyIs_shape hv with ⟨j, u, rfl, rfl⟩ | ⟨y, u, rfl, rfl⟩
      · rw [key_rl] at h; exact SeqAt.EqAt.str_int x t j u _ _ _ _ h
      · rw [key_rr] at h; exact wpAny_eqBool_str h
  «strs» := fun k x t v h => by
    rcases keyIs_shape h with ⟨i, u, rfl, e⟩ | ⟨y, u, rfl, e⟩
    · exact nomatch e
    · injection e with e1 _
      subst e1
      cases v <;> rfl
theorem mixKind_int (prog : Program) (w : World) (i : Int) (t : Tok) : (mixKind prog w).is (.inl i) (.int i t) = true := keyIs_int i t
theorem mixKind_str (prog : Program) (w : World) (x : Str) (t : Tok) : (mixKind prog w).is (.inr x) (.str x t) = true := keyIs_str x t
end L2
namespace L2
open PySem PySem.Spec PyProof.Rows
inductive V where
  | non | bl (b : Bool) | int (i : Int) | str (x : Str) | byt (b : Array UInt8) | flt (b : UInt64) | ref (a : Addr) | ty (n : String)
  deriving DecidableEq
def RelV : V → Value → Prop
  | .non, u => u = Value.none
  | .bl b, u => u = Value.bool b
  | .int i, u => ∃ t, u = Value.int i t
  | .str x, u => ∃ t, u = Value.str x t
  | .byt b, u => ∃ t, u = Value.bytes b t
  | .flt b, u => ∃ t, u = Value.float b t
  | .ref a, u => u = Value.ref a
  | .ty n, u => u = Value.type n
abbrev Vals : List V → List Value → Prop := Paired RelV
theorem Vals.length {xs : List V} {us : List Value} (r : Vals xs us) : xs.length = us.length := Paired.length r
theorem Vals.get : ∀ {xs : List V} {us : List Value} {i : Nat} {x : V}, Vals xs us → xs[i]? = some x → ∃ u, us[i]? = some u ∧ RelV x u
  | _, _, _, _, .nil, e => by simp at e
  | _, _, 0, _, .cons r _, e => by simp at e; subst e; exact ⟨_, rfl, r⟩
  | _, _, i + 1, x, .cons _ t, e => by
    obtain ⟨u, h1, h2⟩ := Vals.get (i := i) (x := x) t (by simpa using e)
    exact ⟨u, by simpa using h1, h2⟩
theorem Vals.set {x : V} {u : Value} (r : RelV x u) : ∀ {xs : List V} {us : List Value} (i : Nat), Vals xs us → Vals (xs.set i x) (us.set i u)
  | _, _, _, .nil => .nil
  | _, _, 0, .cons _ t => .cons r t
  | _, _, i + 1, .cons q t => .cons q (Vals.set r i t)
theorem Vals.append : ∀ {xs ys : List V} {us ws : List Value}, Vals xs us → Vals ys ws → Vals (xs ++ ys) (us ++ ws)
  | _, _, _, _, .nil, s => s
  | _, _, _, _, .cons r t, s => .cons r (Vals.append t s)
theorem Vals.take : ∀ {xs : List V} {us : List Value} (n : Nat), Vals xs us → Vals (xs.take n) (us.take n)
  | _, _, 0, _ => .nil
  | _, _, _ + 1, .nil => .nil
  | _, _, n + 1, .cons r t => .cons r (Vals.take n t)
theorem Vals.drop : ∀ {xs : List V} {us : List Value} (n : Nat), Vals xs us → Vals (xs.drop n) (us.drop n)
  | _, _, 0, r => r
  | _, _, _ + 1, .nil => .nil
  | _, _, n + 1, .cons _ t => Vals.drop n t
def RelO : Option V → Option Value → Prop
  | some v, some u => RelV v u
  | none, none => True
  | _, _ => False
def KV {κ : Type} : List (κ × V) → List (κ × Value) → Prop := Paired fun (p : κ × V) (q : κ × Value) => p.1 = q.1 ∧ RelV p.2 q.2
def kV : Key → V
  | .inl i => .int i
  | .inr x => .str x
inductive HO where
  | lst (xs : List V)
  | tup (xs : List V)
  | dK (kvs : List (Key × V)) | dT (kvs : List (List Key × V))
  | set (S : Int → Bool) (n : Nat)
  | ins (C dx : Addr) (fs : List (Str × V))
  | own (x : Addr)
  | xd (fs : List (Str × V))
  | met (f x : Addr)
  | rng (lo hi : Int)
  | frz (o : Obj) (u : HO)
  | tbl (ps : Array Value)
  | ext (φ : Heap → Prop)
abbrev Hp := Addr → Option HO
def upd (H : Hp) (a : Addr) (o : HO) : Hp := fun b => if b = a then some o else H b
theorem upd_same {H : Hp} {a : Addr} {o : HO} : upd H a o a = some o := by unfold upd; rw [if_pos rfl]
theorem upd_ne {H : Hp} {a b : Addr} {o : HO} (h : b ≠ a) : upd H a o b = H b := by unfold upd; rw [if_neg h]
theorem ne_of {H : Hp} {a b : Addr} {o u : HO} (h : H a = some o) (h' : H b = some u) (d : o ≠ u) : a ≠ b := by
  intro e; subst e; rw [h] at h'; exact d (Option.some.inj h')
theorem ne_of_none {H : Hp} {a b : Addr} {o : HO} (h : H a = some o) (h' : H b = none) : a ≠ b := by
  intro e; subst e; rw [h] at h'; cases h'
section
variable (P : Program) (w : World)
def ObjOk (H : Hp) (h : Heap) (a : Addr) : HO → Prop
  | .lst xs => xs.length ≤ sizeLine ∧ ∃ (its : List Value) (n : Nat), Vals xs its ∧ h.get? a = some { cls := .type "list", data := .seq its.toArray n }
  | .tup xs => xs.length ≤ sizeLine ∧ ∃ its : List Value, Vals xs its ∧ IsTup h a its.toArray
  | .dK kvs => kvs.length ≤ sizeLine ∧ (a == sysModules) = false ∧ ∃ vs, KV kvs vs ∧ h.DictOf (mixKind P w) a vs
  | .dT kvs => kvs.length ≤ sizeLine ∧ (a == sysModules) = false ∧ ∃ xs : List (List Key × Addr × Value),
      Paired (fun (p : List Key × V) (q : List Key × Addr × Value) => p.1 = q.1 ∧ H q.2.1 = some (.tup (p.1.map kV)) ∧ RelV p.2 q.2.2) kvs xs ∧
      ∃ o es ep, h.get? a = some o ∧ o.ExactDict ∧ o.data = .dict es ep ∧ es.toList = xs.map (entryOfKey (tupleKind (mixKind P w))) ∧ (xs.map (·.1)).Nodup
  | .set S n => h.SetOf (intKind P w) a S n
  | .ins C dx fs => H dx = some (.own a) ∧ fs.length ≤ 1000 ∧ dx ≠ a ∧ h.get? a = some (PySem.W.instObj C dx) ∧
      ∃ mA, h.Ns1 dx mA ∧ (∀ f, RelO (fs.lookup f) (mA f)) ∧ PySem.Within mA (fs.map (·.1))
  | .own _ => ∃ o, h.get? a = some o
  | .xd fs => ∃ mA, h.Ns1 a mA ∧ ∀ f, RelO (fs.lookup f) (mA f)
  | .rng lo hi => ∃ t u v, h.get? a = some { cls := .type "range", data := .fields #[.int lo t, .int hi u, .int 1 v] }
  | .frz o u => h.get? a = some o ∧ ObjOk H h a u
  | .tbl ps => h.get? a = some { cls := .none, data := .fields ps }
  | .met f x => h.get? a = some (PySem.W.methodObj (.ref f) (.ref x))
  | .ext φ => φ h ∧ (∃ o, h.get? a = some o) ∧ ∀ h1 h2 : Heap, φ h1 → (∀ o, h1.get? a = some o → h2.get? a = some o) → φ h2
def HOk (H : Hp) (h : Heap) : Prop := ∀ a o, H a = some o → ObjOk P w H h a o
end
section
variable {P : Program} {w : World} {H H' : Hp} {h h' : Heap} {a : Addr} {o : HO}
theorem ObjOk.lt (x : ObjOk P w H h a o) : a < h.objs.size := by
  cases o with
  | lst xs => obtain ⟨_, _, _, _, e⟩ := x; exact Heap.lt_size e
  | tup xs => obtain ⟨_, _, _, p⟩ := x; exact p.lt
  | dK kvs => obtain ⟨_, _, _, _, o, _, _, e, _⟩ := x; exact Heap.lt_size e
  | dT kvs => obtain ⟨_, _, _, _, o, _, _, e, _⟩ := x; exact Heap.lt_size e
  | set S n => obtain ⟨o, _, _, _, e, _⟩ := x; exact Heap.lt_size e
  | ins C dx fs => obtain ⟨_, _, _, e, _⟩ := x; exact Heap.lt_size e
  | own y => obtain ⟨_, e⟩ := x; exact Heap.lt_size e
  | xd fs => obtain ⟨_, ⟨_, _, _, e, _⟩, _⟩ := x; exact Heap.lt_size e
  | rng lo hi => obtain ⟨_, _, _, e⟩ := x; exact Heap.lt_size e
  | frz ob u => obtain ⟨e, _⟩ := x; exact Heap.lt_size e
  | tbl ps => exact Heap.lt_size (show h.get? a = some _ from x)
  | met f y => exact Heap.lt_size (show h.get? a = some _ from x)
  | ext φ => obtain ⟨_, ⟨_, e⟩, _⟩ := x; exact Heap.lt_size e
theorem Paired.mapP {α β : Type} {F G : α → β → Prop} : ∀ {l₁ : List α} {l₂ : List β}, Paired F l₁ l₂ → (∀ a b, F a b → G a b) → Paired G l₁ l₂
  | _, _, .nil, _ => .nil
  | _, _, .cons r t, f => .cons (f _ _ r) (Paired.mapP t f)
theorem ObjOk.stay (x : ObjOk P w H h a o) (k : ∀ b u, (b = a ∨ H b = some (.own a)) → h.get? b = some u → h'.get? b = some u)
    (ho : ∀ b, H b = some (.own a) → H' b = some (.own a)) (ht : ∀ b xs, H b = some (.tup xs) → H' b = some (.tup xs)) : ObjOk P w H' h' a o := by
  induction o with
  | lst xs => obtain ⟨z, its, n, r, e⟩ := x; exact ⟨z, its, n, r, k _ _ (.inl rfl) e⟩
  | tup xs => obtain ⟨z, its, r, ob, e, c⟩ := x; exact ⟨z, its, r, ob, k _ _ (.inl rfl) e, c⟩
  | dK kvs => obtain ⟨z, y, vs, r, ob, es, ep, e, c⟩ := x; exact ⟨z, y, vs, r, ob, es, ep, k _ _ (.inl rfl) e, c⟩
  | dT kvs =>
    obtain ⟨z, y, xs, r, ob, es, ep, e, c⟩ := x
    exact ⟨z, y, xs, Paired.mapP r fun p q z => ⟨z.1, ht _ _ z.2.1, z.2.2⟩, ob, es, ep, k _ _ (.inl rfl) e, c⟩
  | set S n => obtain ⟨ob, es, ep, t, e, c⟩ := x; exact ⟨ob, es, ep, t, k _ _ (.inl rfl) e, c⟩
  | ins C dx fs =>
    obtain ⟨d, z, ne, e, mA, ⟨od, es, ep, e2, c⟩, r⟩ := x
    exact ⟨ho _ d, z, ne, k _ _ (.inl rfl) e, mA, ⟨od, es, ep, k _ _ (.inr d) e2, c⟩, r⟩
  | own y => obtain ⟨ob, e⟩ := x; exact ⟨ob, k _ _ (.inl rfl) e⟩
  | xd fs => obtain ⟨mA, ⟨od, es, ep, e, c⟩, r⟩ := x; exact ⟨mA, ⟨od, es, ep, k _ _ (.inl rfl) e, c⟩, r⟩
  | rng lo hi => obtain ⟨t, u, v, e⟩ := x; exact ⟨t, u, v, k _ _ (.inl rfl) e⟩
  | frz ob u ih => obtain ⟨e, q⟩ := x; exact ⟨k _ _ (.inl rfl) e, ih q⟩
  | tbl ps =>
    have e : h.get? a = some { cls := .none, data := .fields ps } := x
    show h'.get? a = some { cls := .none, data := .fields ps }
    exact k a _ (.inl rfl) e
  | met f y =>
    have e : h.get? a = some (PySem.W.methodObj (.ref f) (.ref y)) := x
    show h'.get? a = some (PySem.W.methodObj (.ref f) (.ref y))
    exact k a _ (.inl rfl) e
  | ext φ => obtain ⟨p, ⟨o, e⟩, st⟩ := x; exact ⟨st _ _ p fun o q => k _ _ (.inl rfl) q, ⟨o, k _ _ (.inl rfl) e⟩, st⟩
theorem HOk.lt (x : HOk P w H h) (e : H a = some o) : a < h.objs.size := (x a o e).lt
theorem HOk.fresh (x : HOk P w H h) (e : h.objs.size ≤ a) : H a = none := by
  cases q : H a with
  | none => rfl
  | some u => exact absurd (Nat.lt_of_lt_of_le (x.lt q) e) (Nat.lt_irrefl _)
theorem HOk.kept (x : HOk P w H h) (k : ∀ b u, h.get? b = some u → h'.get? b = some u) : HOk P w H h' := fun a o e =>
  (x a o e).stay (fun b u _ q => k b u q) (fun _ q => q) fun _ _ q => q
theorem HOk.laid (x : HOk P w H h) (k : ∀ b u, h.get? b = some u → h'.get? b = some u) (hp : h.objs.size ≤ a) (new : ObjOk P w (upd H a o) h' a o) : HOk P w (upd H a o) h' := fun b u e => by
  have hn := x.fresh hp
  by_cases hb : b = a
  · subst hb; rw [upd_same] at e; cases e; exact new
  · rw [upd_ne hb] at e
    exact (x b u e).stay (fun c v _ q => k c v q) (fun c q => by rw [upd_ne (ne_of_none q hn)]; exact q) fun c xs q => by rw [upd_ne (ne_of_none q hn)]; exact q
end
def Rd (H : Hp) (a : Addr) (u : HO) : Prop := H a = some u ∨ ∃ o, H a = some (.frz o u)
theorem Rd.ok {P : Program} {w : World} {H : Hp} {h : Heap} {a : Addr} {u : HO} (r : Rd H a u) (x : HOk P w H h) : ObjOk P w H h a u := by
  rcases r with r | ⟨o, r⟩
  · exact x a u r
  · obtain ⟨_, q⟩ := x a _ r
    exact q
def Mut : Option HO → Prop
  | some (.lst _) => True
  | some (.dK _) => True
  | some (.dT _) => True
  | some (.set _ _) => True
  | some (.ins _ _ _) => True
  | some (.ext _) => True
  | _ => False
section
variable {P : Program} {w : World} {H : Hp} {h h' : Heap} {x e : Addr} {o' : HO}
theorem HOk.write (ok : HOk P w H h) (mu : Mut (H x)) (he : e = x ∨ H e = some (.own x)) (k : ∀ b u, b ≠ e → h.get? b = some u → h'.get? b = some u) (heo : ∃ u, h'.get? e = some u)
    (new : ObjOk P w (upd H x o') h' x o') : HOk P w (upd H x o') h' := fun b u q => by
  have nown : ∀ c y, H c = some (.own y) → c ≠ x := fun c y r z => by subst z; rw [r] at mu; exact mu
  have ntup : ∀ c xs, H c = some (.tup xs) → c ≠ x := fun c xs r z => by subst z; rw [r] at mu; exact mu
  by_cases hb : b = x
  · subst hb; rw [upd_same] at q; cases q; exact new
  · rw [upd_ne hb] at q
    by_cases hbe : b = e
    · have q' : H b = some (.own x) := by
        rcases he with z | z
        · exact absurd (hbe.trans z) hb
        · rw [hbe]; exact z
      rw [q] at q'; cases q'
      obtain ⟨v, hv⟩ := heo
      exact ⟨v, by rw [hbe]; exact hv⟩
    · refine (ok b u q).stay (fun c v hc r => k c v ?_ r) (fun c r => by rw [upd_ne (nown c b r)]; exact r) fun c xs r => by rw [upd_ne (ntup c xs r)]; exact r
      rcases hc with rfl | hc
      · exact hbe
      · rintro rfl
        rcases he with z | z
        · exact nown c b hc z
        · rw [hc] at z; cases z; exact hb rfl
end
structure Un (fs ex : List Addr) (H H' : Hp) (h h' : Heap) : Prop where
  keep : ∀ b o, h.get? b = some o → H b = none → b ∉ fs → b ∉ ex → h'.get? b = some o
  slot : ∀ b o, h.get? b = some o → H b = none → b ∈ fs → b ∉ ex → ∃ sl, h'.get? b = some { o with slots := sl }
  free : ∀ b o, h.get? b = some o → H b = none → b ∉ ex → H' b = none
  there : ∀ b o, h.get? b = some o → b ∉ ex → ∃ o', h'.get? b = some o'
  tups : ∀ b xs, H b = some (.tup xs) → H' b = some (.tup xs)
  frzs : ∀ b o u, H b = some (.frz o u) → H' b = some (.frz o u)
  tbls : ∀ b ps, H b = some (.tbl ps) → ∃ more, H' b = some (.tbl (ps ++ more))
section
variable {fs fs' ex ex' : List Addr} {H H1 H2 : Hp} {h h1 h2 h' : Heap} {a x e : Addr} {o : HO}
theorem Un.any (u : Un fs ex H H1 h h1) {b : Addr} {ob : Obj} (q : h.get? b = some ob) (n : H b = none) (hx : b ∉ ex) : ∃ sl, h1.get? b = some { ob with slots := sl } := by
  by_cases hb : b ∈ fs
  · exact u.slot b ob q n hb hx
  · exact ⟨ob.slots, u.keep b ob q n hb hx⟩
theorem Un.kept (k : ∀ b u, h.get? b = some u → h'.get? b = some u) : Un fs ex H H h h' :=
  ⟨fun b ob q _ _ _ => k b ob q, fun b ob q _ _ _ => ⟨ob.slots, k b ob q⟩, fun _ _ _ n _ => n, fun b ob q _ => ⟨ob, k b ob q⟩, fun _ _ q => q, fun _ _ _ q => q, fun _ ps q => ⟨#[], by rw [q]; simp⟩⟩
theorem Un.refl : Un fs ex H H h h := Un.kept fun _ _ q => q
theorem Un.laid (k : ∀ b u, h.get? b = some u → h'.get? b = some u) (hp : h.objs.size ≤ a) (hn : H a = none) : Un fs ex H (upd H a o) h h' where
  keep := fun b u q _ _ _ => k b u q
  slot := fun b u q _ _ _ => ⟨u.slots, k b u q⟩
  free := fun b u q n _ => by rw [upd_ne (Nat.ne_of_lt (Nat.lt_of_lt_of_le (Heap.lt_size q) hp))]; exact n
  there := fun b u q _ => ⟨u, k b u q⟩
  tups := fun b xs q => by rw [upd_ne (ne_of_none q hn)]; exact q
  frzs := fun b u xs q => by rw [upd_ne (ne_of_none q hn)]; exact q
  tbls := fun b ps q => ⟨#[], by rw [upd_ne (ne_of_none q hn), q]; simp⟩
theorem Un.write (mu : Mut (H x)) (he : e = x ∨ H e = some (.own x)) (k : ∀ b u, b ≠ e → h.get? b = some u → h'.get? b = some u) (heo : ∃ u, h'.get? e = some u) : Un fs ex H (upd H x o) h h' := by
  have hx : ∀ b, H b = none → b ≠ x := fun b n z => by subst z; rw [n] at mu; exact mu
  have hb : ∀ b, H b = none → b ≠ e := fun b n z => by
    subst z
    rcases he with r | r
    · exact hx b n r
    · rw [n] at r; cases r
  have hm : ∀ b u, H b = some u → ¬ Mut (some u) → b ≠ x := fun b u q nm z => by subst z; rw [q] at mu; exact nm mu
  refine ⟨fun b u q n _ _ => k b u (hb b n) q, fun b u q n _ _ => ⟨u.slots, k b u (hb b n) q⟩, fun b u q n _ => by rw [upd_ne (hx b n)]; exact n, fun b u q _ => ?_,
    fun b xs q => by rw [upd_ne (hm b _ q fun z => z)]; exact q, fun b u xs q => by rw [upd_ne (hm b _ q fun z => z)]; exact q, fun b ps q => ⟨#[], by rw [upd_ne (hm b _ q fun z => z), q]; simp⟩⟩
  by_cases hbe : b = e
  · subst hbe; exact heo
  · exact ⟨u, k b u hbe q⟩
end
def trk (h : Heap) (H : Hp) : List Addr := (List.range h.objs.size).filter fun a => (H a).isSome
def hidT (h : Heap) (H : Hp) : Heap := PySem.W.hideAll h (trk h H)
theorem hidT_size (h : Heap) (H : Hp) : (hidT h H).objs.size = h.objs.size := PySem.W.hideAll_size _ _
theorem hidT_get {h : Heap} {H : Hp} {b : Addr} {o : Obj} (e : h.get? b = some o) (n : H b = none) : (hidT h H).get? b = some o :=
  PySem.W.hideAll_get _ e fun hm => by
    have q : (H b).isSome = true := (List.mem_filter.mp hm).2
    rw [n] at q; simp at q
theorem of_hidT {h : Heap} {H : Hp} {b : Addr} {o : Obj} (e : (hidT h H).get? b = some o) : h.get? b = some o ∧ H b = none := by
  have e' : h.get? b = some o := PySem.W.of_hideAll (trk h H) e
  refine ⟨e', ?_⟩
  cases q : H b with
  | none => rfl
  | some x =>
    have hm : b ∈ trk h H := List.mem_filter.mpr ⟨List.mem_range.mpr (Heap.lt_size e'), by simp [q]⟩
    have z : (hidT h H).get? b = none := PySem.W.hideAll_none (trk h H) hm
    rw [z] at e; cases e
def allNews (g h : Heap) (L : Addr) : List (Addr × Obj) := (List.range h.objs.size).filterMap fun a => if a = L ∨ (g.get? a).isSome = true then none else (h.get? a).map fun o => (a, o)
def rest (g h : Heap) (L d : Addr) : List (Addr × Obj) := (allNews g h L).filter fun p => decide (p.1 ≠ d)
end L2
namespace L2
open PySem PySem.Spec PyProof.Rows
structure Mod (K : PySem.W.Frag) (mg : Str → Option Value) (base : Heap) : Prop where
  kin : K.In base
  glob : base.Ns mainGlobals mg
  blt : ∃ mb, base.Ns builtinsNs mb ∧ ∀ x : Str, x ≠ "__name__" → mb x = bootBuiltins x
  nolimit : base.NoLimit
structure Cx where
  prog : Program
  w : World
  K : PySem.W.Frag
  mg : Str → Option Value
  base : Heap
  A : Around
  N : List Str
  s₀ : Shared
  H₀ : Hp
  env : Env
  outer : List Env
  stack : List Env
  ex : List Addr
  fn : Str → Bool
  calm : Bool
  pn : List (Addr × Obj)
  xe : Value → Shared → Prop
def frs (l : List Env) : List Addr := l.filterMap (·.frame)
abbrev Cx.fs (X : Cx) : List Addr := frs X.outer
def Vis (sc : Scope) (x : Str) : Prop := sc.names.lookup x = some .local ∨ sc.names.lookup x = some .cell ∨ sc.names.lookup x = some .free
def Loc (sc : Scope) (x : Str) : Prop := sc.names.lookup x = some .local ∨ sc.names.lookup x = some .cell
def Look (env : Env) (h : Heap) (m : Str → Option Value) (x : Str) (u : Value) : Prop :=
  (env.kindOf x = some .local ∧ m x = some u) ∨ ((env.kindOf x = some .cell ∨ env.kindOf x = some .free) ∧ ∃ c, env.cells.lookup x = some c ∧ h.IsCell c (some u))
structure Cx.Ok (X : Cx) : Prop where
  mod : Mod X.K X.mg X.base
  kind : X.env.scope.kind = .function
  glob : X.env.globals = mainGlobals
  blt : X.env.builtins = builtinsNs
  above : X.s₀.heap.objs.size ≤ X.env.locals
  inj : ∀ x y c, X.env.cells.lookup x = some c → X.env.cells.lookup y = some c → x = y
  has : ∀ x, (X.env.kindOf x = some .cell ∨ X.env.kindOf x = some .free) → ∃ c, X.env.cells.lookup x = some c
  cab : ∀ x c, X.fn x = true → X.env.cells.lookup x = some c → X.s₀.heap.objs.size ≤ c
  hd : X.calm = true → X.A.handled = none
  frames : X.A.frames = some X.stack
  stk : X.stack = X.outer ∨ (X.stack = X.env :: X.outer ∧ X.env.frame = some X.env.locals)
  exf : ∀ b ∈ X.ex, b ≠ X.env.locals ∧ ∀ x c, X.env.cells.lookup x = some c → c ≠ b
  bs : ∀ b o, X.base.get? b = some o → X.s₀.heap.get? b = some o ∧ X.H₀ b = none
  bsz : X.base.objs.size ≤ X.s₀.heap.objs.size
  noex : ∀ b o, X.base.get? b = some o → b ∉ X.ex
  exfs : ∀ b ∈ X.ex, b ∉ X.fs
  funs : X.s₀.heap.FunFrames X.base X.outer
  frf : ∀ b ∈ X.fs, X.H₀ b = none
structure Inv (X : Cx) (pins : List (Addr × Obj)) (σ : List (Option V)) (H : Hp) (s : Shared) : Prop where
  ok : X.Ok
  os : s.os = X.s₀.os
  bare : AllBare s.gens
  base : Un X.fs X.ex X.H₀ H X.s₀.heap s.heap
  loc : ∃ m, s.heap.Ns X.env.locals m ∧ ∀ (i : Nat) (x : Str) (v : V), X.N[i]? = some x → σ[i]? = some (some v) → Vis X.env.scope x → ∃ u, RelV v u ∧ Look X.env s.heap m x u
  cell : ∀ x c, X.env.cells.lookup x = some c → ∃ v, s.heap.IsCell c v
  free : H X.env.locals = none
  freeC : ∀ x c, X.env.cells.lookup x = some c → H c = none
  pin : ∀ p ∈ X.pn ++ pins, s.heap.get? p.1 = some p.2 ∧ H p.1 = none ∧ p.1 ≠ X.env.locals ∧ p.1 ∉ X.fs ∧ ∀ v, p.2.data ≠ .cell v
  hok : HOk X.prog X.w H s.heap
  len : σ.length = X.N.length
section
variable {X : Cx} {pins : List (Addr × Obj)} {σ : List (Option V)} {H H' : Hp} {s : Shared} {h' : Heap}
theorem Cx.Ok.nofr (ok : X.Ok) {b : Addr} {o : Obj} (e : X.base.get? b = some o) : b ∉ X.fs := fun hb => by
  have := (ok.funs.mem hb).1
  rw [e] at this; cases this
theorem Inv.bs (I : Inv X pins σ H s) : ∀ b o, X.base.get? b = some o → s.heap.get? b = some o ∧ H b = none := fun b o e =>
  ⟨I.base.keep b o (I.ok.bs b o e).1 (I.ok.bs b o e).2 (I.ok.nofr e) (I.ok.noex b o e), I.base.free b o (I.ok.bs b o e).1 (I.ok.bs b o e).2 (I.ok.noex b o e)⟩
theorem Inv.bk (I : Inv X pins σ H s) : ∀ b o, X.base.get? b = some o → s.heap.get? b = some o := fun b o e => (I.bs b o e).1
theorem Inv.mod (I : Inv X pins σ H s) : Mod X.K X.mg X.base := I.ok.mod
theorem Inv.kIn (I : Inv X pins σ H s) : X.K.In s.heap := I.ok.mod.kin.keeps I.bk
theorem Inv.lt (I : Inv X pins σ H s) : X.env.locals < s.heap.objs.size := let ⟨_, hn, _⟩ := I.loc; hn.lt
theorem Inv.sz (I : Inv X pins σ H s) : X.s₀.heap.objs.size ≤ s.heap.objs.size := Nat.le_trans I.ok.above (Nat.le_of_lt I.lt)
theorem Inv.nofs (I : Inv X pins σ H s) {a : Addr} (h : s.heap.objs.size ≤ a) : a ∉ X.fs := fun hb => by
  obtain ⟨_, o, ho, _⟩ := I.ok.funs.mem hb
  exact absurd (Nat.lt_of_lt_of_le (Heap.lt_size ho) (Nat.le_trans I.sz h)) (Nat.lt_irrefl _)
theorem Inv.cne (I : Inv X pins σ H s) : ∀ x c, X.env.cells.lookup x = some c → c ≠ X.env.locals := fun x c e z => by
  obtain ⟨v, o, ho, hd⟩ := I.cell x c e
  obtain ⟨m, ⟨o', es, ep, ho', hd', _⟩, _⟩ := I.loc
  rw [z, ho'] at ho; cases ho; rw [hd'] at hd; cases hd
theorem Inv.funs (I : Inv X pins σ H s) : s.heap.FunFrames X.base X.outer := by
  have all : ∀ (l : List Env), (∀ b ∈ frs l, b ∈ X.fs) → X.s₀.heap.FunFrames X.base l → s.heap.FunFrames X.base l := by
    intro l
    induction l with
    | nil => intro _ _; trivial
    | cons env r ih =>
      intro hs hl
      obtain ⟨hk, ⟨L, o, hf, hn, ho, hd⟩, hr⟩ := hl
      have hL : L ∈ X.fs := hs L (by unfold frs; rw [List.filterMap_cons, hf]; exact List.mem_cons_self)
      obtain ⟨sl, e⟩ := I.base.slot L o ho (I.ok.frf L hL) hL fun z => I.ok.exfs L z hL
      exact ⟨hk, ⟨L, _, hf, hn, e, hd⟩, ih (fun b hb => hs b (by unfold frs; rw [List.filterMap_cons, hf]; exact List.mem_cons_of_mem _ hb)) hr⟩
  exact all X.outer (fun _ hb => hb) I.ok.funs
theorem Inv.stack (I : Inv X pins σ H s) : s.heap.FunFrames X.base X.stack := by
  rcases I.ok.stk with e | ⟨e, hf⟩
  · rw [e]; exact I.funs
  · rw [e]
    obtain ⟨m, hn, _⟩ := I.loc
    refine .cons (by rw [I.ok.kind]; decide) hf hn ?_ I.funs
    exact Heap.get?_none_of_le (Nat.le_trans I.ok.bsz I.ok.above)
theorem Inv.stkSub (I : Inv X pins σ H s) : ∀ b ∈ frs X.stack, b ∈ X.env.locals :: X.fs := fun b hb => by
  rcases I.ok.stk with e | ⟨e, hf⟩
  · rw [e] at hb; exact List.mem_cons_of_mem _ hb
  · rw [e] at hb
    unfold frs at hb
    rw [List.filterMap_cons, hf] at hb
    exact hb
theorem Inv.stkFree (I : Inv X pins σ H s) : ∀ b ∈ frs X.stack, H b = none := fun b hb => by
  rcases List.mem_cons.mp (I.stkSub b hb) with e | hb
  · rw [e]; exact I.free
  · obtain ⟨_, o, ho, _⟩ := I.ok.funs.mem hb
    exact I.base.free b o ho (I.ok.frf b hb) fun z => I.ok.exfs b z hb
theorem Inv.step {g' : Array GenState} {t' : Nat} {d' : Drawn} {ch : List Addr} (I : Inv X pins σ H s)
    (hch : ∀ b ∈ ch, (b ∈ X.ex ∨ X.s₀.heap.objs.size ≤ b) ∧ b ≠ X.env.locals ∧ (∀ x c, X.env.cells.lookup x = some c → c ≠ b) ∧ ∀ p ∈ X.pn ++ pins, p.1 ≠ b)
    (keep : ∀ b o, b ≠ X.env.locals → b ∉ X.fs → b ∉ ch → s.heap.get? b = some o → H b = none → h'.get? b = some o)
    (slot : ∀ b o, b ≠ X.env.locals → b ∈ X.fs → b ∉ ch → s.heap.get? b = some o → H b = none → ∃ sl, h'.get? b = some { o with slots := sl }) (free : ∀ b o, b ∉ ch → s.heap.get? b = some o → H b = none → H' b = none)
    (there : ∀ b o, b ∉ ch → s.heap.get? b = some o → ∃ o', h'.get? b = some o')
    (tups : ∀ b xs, H b = some (.tup xs) → H' b = some (.tup xs)) (frzs : ∀ b o u, H b = some (.frz o u) → H' b = some (.frz o u)) (tbls : ∀ b ps, H b = some (.tbl ps) → ∃ more, H' b = some (.tbl (ps ++ more)))
    (ns : ∀ m, s.heap.Ns X.env.locals m → h'.Ns X.env.locals m) (hok : HOk X.prog X.w H' h') (hg : AllBare g') :
    Inv X pins σ H' { s with heap := h', gens := g', drawn := d', toks := t' } := by
  have neL : ∀ b o, X.s₀.heap.get? b = some o → b ≠ X.env.locals := fun b o e => Nat.ne_of_lt (Nat.lt_of_lt_of_le (Heap.lt_size e) I.ok.above)
  have neC : ∀ b o, X.s₀.heap.get? b = some o → b ∉ X.ex → b ∉ ch := fun b o e hx hb => by
    rcases (hch b hb).1 with z | z
    · exact hx z
    · exact absurd (Nat.lt_of_lt_of_le (Heap.lt_size e) z) (Nat.lt_irrefl _)
  have cellK : ∀ x c, X.env.cells.lookup x = some c → ∀ v, s.heap.IsCell c v → h'.IsCell c v := fun x c e v ⟨o, ho, hd⟩ => by
    have nch : c ∉ ch := fun z => (hch c z).2.2.1 x c e rfl
    by_cases hc : c ∈ X.fs
    · obtain ⟨sl, q⟩ := slot c o (I.cne x c e) hc nch ho (I.freeC x c e)
      exact ⟨_, q, hd⟩
    · exact ⟨o, keep c o (I.cne x c e) hc nch ho (I.freeC x c e), hd⟩
  refine ⟨I.ok, I.os, hg, ⟨fun b o e n hb hx => ?_, fun b o e n hb hx => ?_, fun b o e n hx => ?_, fun b o e hx => ?_, fun b xs e => tups b xs (I.base.tups b xs e), fun b o xs e => frzs b o xs (I.base.frzs b o xs e), fun b ps e => ?_⟩, ?_, fun x c e => ?_, ?_, fun x c e => ?_, fun p hp => ?_, hok, I.len⟩
  · exact keep b o (neL b o e) hb (neC b o e hx) (I.base.keep b o e n hb hx) (I.base.free b o e n hx)
  · obtain ⟨sl, e1⟩ := I.base.slot b o e n hb hx
    obtain ⟨sl', e2⟩ := slot b _ (neL b o e) hb (neC b o e hx) e1 (I.base.free b o e n hx)
    exact ⟨sl', e2⟩
  · obtain ⟨o', e1⟩ := I.base.there b o e hx
    exact free b o' (neC b o e hx) e1 (I.base.free b o e n hx)
  · obtain ⟨o', e1⟩ := I.base.there b o e hx
    exact there b o' (neC b o e hx) e1
  · obtain ⟨m1, e1⟩ := I.base.tbls b ps e
    obtain ⟨m2, e2⟩ := tbls b _ e1
    exact ⟨m1 ++ m2, by rw [e2, Array.append_assoc]⟩
  · obtain ⟨m, hn, hl⟩ := I.loc
    refine ⟨m, ns m hn, fun i x v e1 e2 e3 => ?_⟩
    obtain ⟨u, r, l⟩ := hl i x v e1 e2 e3
    refine ⟨u, r, ?_⟩
    rcases l with l | ⟨k, c, e, z⟩
    · exact .inl l
    · exact .inr ⟨k, c, e, cellK x c e _ z⟩
  · obtain ⟨v, z⟩ := I.cell x c e
    exact ⟨v, cellK x c e v z⟩
  · obtain ⟨m, ⟨o, _, _, ho, _⟩, _⟩ := I.loc
    exact free _ o (fun z => (hch _ z).2.1 rfl) ho I.free
  · obtain ⟨v, o, ho, hd⟩ := I.cell x c e
    exact free c o (fun z => (hch c z).2.2.1 x c e rfl) ho (I.freeC x c e)
  · obtain ⟨e, n, ne, nf, d⟩ := I.pin p hp
    have nch : p.1 ∉ ch := fun z => (hch p.1 z).2.2.2 p hp rfl
    exact ⟨keep p.1 p.2 ne nf nch e n, free p.1 p.2 nch e n, ne, nf, d⟩
theorem Inv.un {t' : Nat} (I : Inv X pins σ H s) (u : Un X.fs [] H H' s.heap h') (hok : HOk X.prog X.w H' h') : Inv X pins σ H' { s with heap := h', toks := t' } := by
  obtain ⟨m, ⟨o, es, ep, ho, r⟩, _⟩ := id I.loc
  obtain ⟨sl, hL⟩ := u.any ho I.free (by simp)
  exact I.step (g' := s.gens) (d' := s.drawn) (ch := []) (fun _ z => nomatch z) (fun b o _ hb _ e n => u.keep b o e n hb (by simp)) (fun b o _ hb _ e n => u.slot b o e n hb (by simp)) (fun b o _ e n => u.free b o e n (by simp)) (fun b o _ e => u.there b o e (by simp)) u.tups u.frzs u.tbls (fun m' hm => by
    obtain ⟨o', es', ep', ho', r'⟩ := hm
    rw [ho] at ho'; cases ho'
    exact ⟨_, es', ep', hL, r'⟩) hok I.bare
theorem Inv.call {g' : Array GenState} {t' : Nat} {d' : Drawn} {ch : List Addr} (I : Inv X pins σ H s) (u : Un (frs X.stack) ch H H' s.heap h') (hok : HOk X.prog X.w H' h') (hg : AllBare g')
    (hch : ∀ b ∈ ch, (b ∈ X.ex ∨ X.s₀.heap.objs.size ≤ b) ∧ b ≠ X.env.locals ∧ (∀ x c, X.env.cells.lookup x = some c → c ≠ b) ∧ ∀ p ∈ X.pn ++ pins, p.1 ≠ b) :
    Inv X pins σ H' { s with heap := h', gens := g', drawn := d', toks := t' } := by
  obtain ⟨m, ⟨o, es, ep, ho, r⟩, _⟩ := id I.loc
  obtain ⟨sl, hL⟩ := u.any ho I.free fun z => (hch _ z).2.1 rfl
  exact I.step (ch := ch) hch (fun b o hL hb hc e n => u.keep b o e n (fun z => (List.mem_cons.mp (I.stkSub b z)).elim hL hb) hc) (fun b o _ _ hc e n => u.any e n hc) (fun b o hc e n => u.free b o e n hc) (fun b o hc e => u.there b o e hc) u.tups u.frzs u.tbls (fun m' hm => by
    obtain ⟨o', es', ep', ho', r'⟩ := hm
    rw [ho] at ho'; cases ho'
    exact ⟨_, es', ep', hL, r'⟩) hok hg
theorem Inv.turned {t' : Nat} {it : Addr} (I : Inv X pins σ H s) (k : ∀ b o, b ≠ it → s.heap.get? b = some o → h'.get? b = some o) (hn : H it = none) (hL : it ≠ X.env.locals)
    (h1 : it ∈ X.ex ∨ X.s₀.heap.objs.size ≤ it) (h2 : ∀ x c, X.env.cells.lookup x = some c → c ≠ it) (h3 : ∀ p ∈ X.pn ++ pins, p.1 ≠ it) : Inv X pins σ H { s with heap := h', toks := t' } := by
  have nit : ∀ b u, H b = some u → b ≠ it := fun b u e z => by rw [z, hn] at e; cases e
  refine I.step (g' := s.gens) (d' := s.drawn) (ch := [it]) (fun b hb => ?_) (fun b o _ _ hc e _ => k b o (fun z => hc (by simp [z])) e) (fun b o _ _ hc e _ => ⟨o.slots, k b o (fun z => hc (by simp [z])) e⟩) (fun _ _ _ _ n => n)
    (fun b o hc e => ⟨o, k b o (fun z => hc (by simp [z])) e⟩) (fun _ _ e => e) (fun _ _ _ e => e) (fun b ps e => ⟨#[], by rw [e]; simp⟩) (fun m hm => ?_) (fun b u e => ?_) I.bare
  · have e : b = it := by simpa using hb
    subst e
    exact ⟨h1, hL, h2, h3⟩
  · obtain ⟨o, es, ep, ho, r⟩ := hm
    exact ⟨o, es, ep, k _ o (Ne.symm hL) ho, r⟩
  · refine (I.hok b u e).stay (fun c v hc q => k c v ?_ q) (fun _ q => q) fun _ _ q => q
    rcases hc with z | z
    · rw [z]; exact nit b u e
    · exact nit c _ z
theorem Inv.tok (I : Inv X pins σ H s) (t : Nat) : Inv X pins σ H { s with toks := t } := I.un (h' := s.heap) (t' := t) Un.refl I.hok
theorem Inv.kept {t' : Nat} (I : Inv X pins σ H s) (k : ∀ b u, s.heap.get? b = some u → h'.get? b = some u) : Inv X pins σ H { s with heap := h', toks := t' } := I.un (Un.kept k) (I.hok.kept k)
theorem Inv.laid {a : Addr} {o : HO} {t' : Nat} (I : Inv X pins σ H s) (k : ∀ b u, s.heap.get? b = some u → h'.get? b = some u) (hp : s.heap.objs.size ≤ a) (new : ObjOk X.prog X.w (upd H a o) h' a o) :
    Inv X pins σ (upd H a o) { s with heap := h', toks := t' } := I.un (Un.laid k hp (I.hok.fresh hp)) (I.hok.laid k hp new)
theorem Inv.write {x e : Addr} {o : HO} {t' : Nat} (I : Inv X pins σ H s) (mu : Mut (H x)) (he : e = x ∨ H e = some (.own x)) (k : ∀ b u, b ≠ e → s.heap.get? b = some u → h'.get? b = some u) (heo : ∃ u, h'.get? e = some u)
    (new : ObjOk X.prog X.w (upd H x o) h' x o) : Inv X pins σ (upd H x o) { s with heap := h', toks := t' } := I.un (Un.write mu he k heo) (I.hok.write mu he k heo new)
theorem Inv.pins_of {pins' : List (Addr × Obj)} (I : Inv X pins σ H s) (h : ∀ p ∈ pins', s.heap.get? p.1 = some p.2 ∧ H p.1 = none ∧ p.1 ≠ X.env.locals ∧ p.1 ∉ X.fs ∧ ∀ v, p.2.data ≠ .cell v) : Inv X pins' σ H s :=
  ⟨I.ok, I.os, I.bare, I.base, I.loc, I.cell, I.free, I.freeC, fun p hp => (List.mem_append.mp hp).elim (fun z => I.pin p (List.mem_append_left _ z)) (h p), I.hok, I.len⟩
theorem nodup_ix {N : List Str} (hN : N.Nodup) {i j : Nat} {x : Str} (a : N[i]? = some x) (b : N[j]? = some x) : i = j := by
  obtain ⟨h1, e1⟩ := List.getElem?_eq_some_iff.mp a
  obtain ⟨h2, e2⟩ := List.getElem?_eq_some_iff.mp b
  exact (List.getElem_inj hN).mp (e1.trans e2.symm)
theorem store_ok2 {M : Model} {A : Around} {E : Value → Shared → Prop} {i : Nat} {x : Str} {v : V} {u : Value} {Q : Unit → Shared → Prop} (I : Inv X pins σ H s) (hN : X.N.Nodup) (hi : X.N[i]? = some x) (hx : Loc X.env.scope x) (r : RelV v u)
    (h : ∀ s', Inv X pins (σ.set i (some v)) H s' → (∃ a, Heap.SameBut a s.heap s'.heap ∧ (a = X.env.locals ∨ X.env.cells.lookup x = some a)) → Q () s') (hf : X.fn x = true ∨ X.env.scope.names.lookup x = some .local := by first | exact .inl rfl | exact .inr rfl | assumption) : wpAny M A (storeName X.env x u) Q E s := by
  obtain ⟨m, hn, hl⟩ := id I.loc
  have hcls : (X.env.scope.kind == .class || (X.env.scope.kind == .module && X.env.locals != X.env.globals)) = false := by rw [I.ok.kind]; rfl
  have hiσ : i < σ.length := by rw [I.len]; exact (List.getElem?_eq_some_iff.mp hi).1
  have cne := I.cne
  have tracked : ∀ {a : Addr} {h' : Heap}, (∃ o, s.heap.get? a = some o ∧ H a = none) → Heap.SameBut a s.heap h' → HOk X.prog X.w H h' := fun {a h'} ha hs b ob e => by
    obtain ⟨_, _, hfree⟩ := ha
    refine (I.hok b ob e).stay (fun c w' hc q => (hs.2 c ?_).trans q) (fun _ q => q) fun _ _ q => q
    rintro rfl
    rcases hc with rfl | hc
    · rw [hfree] at e; cases e
    · rw [hfree] at hc; cases hc
  rcases hx with hk | hk
  · refine wpAny_storeName_local hk hn (fun h' hn' hs => ?_) hcls
    obtain ⟨oL, _, _, hoL, _⟩ := id hn
    refine h _ ⟨I.ok, I.os, I.bare, ⟨fun b o e n hb hx => ?_, fun b o e n hb hx => ?_, I.base.free, fun b o e hx => ?_, I.base.tups, I.base.frzs, I.base.tbls⟩, ⟨_, hn', fun j y v' e1 e2 e3 => ?_⟩, fun y c e => ?_, I.free, I.freeC, fun p hp => ?_, tracked ⟨oL, hoL, I.free⟩ hs, by simpa using I.len⟩ ⟨_, hs, .inl rfl⟩
    · exact (hs.2 b (Nat.ne_of_lt (Nat.lt_of_lt_of_le (Heap.lt_size e) I.ok.above))).trans (I.base.keep b o e n hb hx)
    · obtain ⟨sl, e1⟩ := I.base.slot b o e n hb hx
      exact ⟨sl, (hs.2 b (Nat.ne_of_lt (Nat.lt_of_lt_of_le (Heap.lt_size e) I.ok.above))).trans e1⟩
    · obtain ⟨o', e1⟩ := I.base.there b o e hx
      exact ⟨o', (hs.2 b (Nat.ne_of_lt (Nat.lt_of_lt_of_le (Heap.lt_size e) I.ok.above))).trans e1⟩
    · by_cases hj : j = i
      · subst hj
        rw [hi] at e1; cases e1
        rw [List.getElem?_set_self hiσ] at e2
        cases e2
        exact ⟨u, r, .inl ⟨hk, by simp⟩⟩
      · rw [List.getElem?_set_ne (Ne.symm hj)] at e2
        obtain ⟨u', r', q⟩ := hl j y v' e1 e2 e3
        refine ⟨u', r', ?_⟩
        rcases q with ⟨k, e⟩ | ⟨k, c, e, z⟩
        · refine .inl ⟨k, ?_⟩
          have : y ≠ x := fun e => hj (nodup_ix hN e1 (e ▸ hi))
          simp [this, e]
        · exact .inr ⟨k, c, e, z.sameBut hs (cne y c e)⟩
    · obtain ⟨w', z⟩ := I.cell y c e
      exact ⟨w', z.sameBut hs (cne y c e)⟩
    · obtain ⟨e, n, ne, nf, d⟩ := I.pin p hp
      exact ⟨(hs.2 p.1 ne).trans e, n, ne, nf, d⟩
  · have hfn : X.fn x = true := by
      rcases hf with z | z
      · exact z
      · rw [z] at hk; cases hk
    obtain ⟨c, hc⟩ := I.ok.has x (.inl hk)
    obtain ⟨w', z⟩ := I.cell x c hc
    refine wpAny_storeName_cell I.ok.kind hk hc z (fun h' hc' hs => ?_)
    obtain ⟨oc, hoc, hocd⟩ := id z
    refine h { s with heap := h' } ⟨I.ok, I.os, I.bare, ⟨fun b o e n hb hx => ?_, fun b o e n hb hx => ?_, I.base.free, fun b o e hx => ?_, I.base.tups, I.base.frzs, I.base.tbls⟩, ⟨m, hn.sameBut hs (Ne.symm (cne x c hc)), fun j y v' e1 e2 e3 => ?_⟩, fun y c' e => ?_, I.free, I.freeC, fun p hp => ?_, tracked ⟨oc, hoc, I.freeC x c hc⟩ hs, by simpa using I.len⟩ ⟨c, hs, .inr hc⟩
    · exact (hs.2 b (Nat.ne_of_lt (Nat.lt_of_lt_of_le (Heap.lt_size e) (I.ok.cab x c hfn hc)))).trans (I.base.keep b o e n hb hx)
    · obtain ⟨sl, e1⟩ := I.base.slot b o e n hb hx
      exact ⟨sl, (hs.2 b (Nat.ne_of_lt (Nat.lt_of_lt_of_le (Heap.lt_size e) (I.ok.cab x c hfn hc)))).trans e1⟩
    · obtain ⟨o', e1⟩ := I.base.there b o e hx
      exact ⟨o', (hs.2 b (Nat.ne_of_lt (Nat.lt_of_lt_of_le (Heap.lt_size e) (I.ok.cab x c hfn hc)))).trans e1⟩
    · by_cases hj : j = i
      · subst hj
        rw [hi] at e1; cases e1
        rw [List.getElem?_set_self hiσ] at e2
        cases e2
        exact ⟨u, r, .inr ⟨.inl hk, c, hc, hc'⟩⟩
      · rw [List.getElem?_set_ne (Ne.symm hj)] at e2
        obtain ⟨u', r', q⟩ := hl j y v' e1 e2 e3
        refine ⟨u', r', ?_⟩
        rcases q with q | ⟨k, c', e, z'⟩
        · exact .inl q
        · refine .inr ⟨k, c', e, z'.sameBut hs ?_⟩
          rintro rfl
          exact hj (nodup_ix hN e1 (I.ok.inj _ _ _ e hc ▸ hi))
    · by_cases hcc : c' = c
      · subst hcc; exact ⟨_, hc'⟩
      · obtain ⟨w2, z2⟩ := I.cell y c' e
        exact ⟨w2, z2.sameBut hs hcc⟩
    · obtain ⟨e, n, ne, nf, d⟩ := I.pin p hp
      refine ⟨(hs.2 p.1 ?_).trans e, n, ne, nf, d⟩
      intro q
      rw [q, hoc] at e
      have q' : oc = p.2 := Option.some.inj e
      exact d w' (by rw [← q']; exact hocd)
theorem store_ok {M : Model} {A : Around} {E : Value → Shared → Prop} {i : Nat} {x : Str} {v : V} {u : Value} {Q : Unit → Shared → Prop} (I : Inv X pins σ H s) (hN : X.N.Nodup) (hi : X.N[i]? = some x) (hx : Loc X.env.scope x) (r : RelV v u)
    (h : ∀ s', Inv X pins (σ.set i (some v)) H s' → Q () s') (hf : X.fn x = true ∨ X.env.scope.names.lookup x = some .local := by first | exact .inl rfl | exact .inr rfl | assumption) : wpAny M A (storeName X.env x u) Q E s :=
  store_ok2 I hN hi hx r (fun s' I' _ => h s' I') hf
theorem Inv.call' {s' : Shared} {ch : List Addr} (I : Inv X pins σ H s) (ho : s'.os = s.os) (u : Un (frs X.stack) ch H H' s.heap s'.heap) (hok : HOk X.prog X.w H' s'.heap) (hg : AllBare s'.gens)
    (hch : ∀ b ∈ ch, (b ∈ X.ex ∨ X.s₀.heap.objs.size ≤ b) ∧ b ≠ X.env.locals ∧ (∀ x c, X.env.cells.lookup x = some c → c ≠ b) ∧ ∀ p ∈ X.pn ++ pins, p.1 ≠ b) : Inv X pins σ H' s' := by
  obtain ⟨h', g', d', t', o'⟩ := s'
  have e : o' = s.os := ho
  subst e
  exact I.call (g' := g') (t' := t') (d' := d') u hok hg hch
end
abbrev XK := Value → Option Addr → Hp → Prop
abbrev St := List (Option V)
abbrev VK := V → Hp → Prop
abbrev TE := St → Hp → VK → Prop
abbrev TT := St → Hp → (Bool → Hp → Prop) → Prop
abbrev TA := St → Hp → (List V → Hp → Prop) → Prop
structure Ends where
  nx : St → Hp → Prop
  rt : VK
  bk : St → Hp → Prop := fun _ _ => False
  ct : St → Hp → Prop := fun _ _ => False
abbrev TS := Ends → St → Hp → Prop
def EP (X : Cx) (pins : List (Addr × Obj)) (σ : St) (Q : VK) (u : Value) (s' : Shared) : Prop := ∃ v H', Inv X pins σ H' s' ∧ RelV v u ∧ Q v H'
def TP (X : Cx) (pins : List (Addr × Obj)) (σ : St) (Q : Bool → Hp → Prop) (b : Bool) (s' : Shared) : Prop := ∃ H', Inv X pins σ H' s' ∧ Q b H'
def AP (X : Cx) (pins : List (Addr × Obj)) (σ : St) (Q : List V → Hp → Prop) (us : List Value) (s' : Shared) : Prop := ∃ vs H', Inv X pins σ H' s' ∧ Vals vs us ∧ Q vs H'
def SP (X : Cx) (pins : List (Addr × Obj)) (D : Ends) (f : Flow) (s' : Shared) : Prop :=
  match f with
  | .next => ∃ σ' H', Inv X pins σ' H' s' ∧ D.nx σ' H'
  | .brk => ∃ σ' H', Inv X pins σ' H' s' ∧ D.bk σ' H'
  | .cont => ∃ σ' H', Inv X pins σ' H' s' ∧ D.ct σ' H'
  | .ret u => ∃ v σ' H', Inv X pins σ' H' s' ∧ RelV v u ∧ D.rt v H'
def PE (X : Cx) (e : Expr) (t : TE) : Prop :=
  ∀ (pins : List (Addr × Obj)) (s : Shared) (σ : St) (H : Hp) (Q : VK), Inv X pins σ H s → t σ H Q → wpAny (model X.prog X.w) X.A (eval e X.env) (EP X pins σ Q) X.xe s
def PT (X : Cx) (e : Expr) (t : TT) : Prop :=
  ∀ (pins : List (Addr × Obj)) (s : Shared) (σ : St) (H : Hp) (Q : Bool → Hp → Prop), Inv X pins σ H s → t σ H Q → wpAny (model X.prog X.w) X.A (isTrue e X.env (eval e X.env)) (TP X pins σ Q) X.xe s
def PW (X : Cx) (e : Expr) (t : TT) : Prop :=
  ∀ (whole : Sem Value) (pins : List (Addr × Obj)) (s : Shared) (σ : St) (H : Hp) (Q : Bool → Hp → Prop), Inv X pins σ H s → t σ H Q → wpAny (model X.prog X.w) X.A (isTrue e X.env whole) (TP X pins σ Q) X.xe s
theorem PW.pt {X : Cx} {e : Expr} {t : TT} (h : PW X e t) : PT X e t := h _
def PA (X : Cx) (es : List Expr) (t : TA) : Prop :=
  ∀ (pos : Pos) (pins : List (Addr × Obj)) (s : Shared) (σ : St) (H : Hp) (Q : List V → Hp → Prop), Inv X pins σ H s → t σ H Q → wpAny (model X.prog X.w) X.A (spliced (backTo pos (starEach es X.env))) (AP X pins σ Q) X.xe s
def PS (X : Cx) (st : Stmt) (t : TS) : Prop :=
  ∀ (pins : List (Addr × Obj)) (s : Shared) (σ : St) (H : Hp) (D : Ends), Inv X pins σ H s → t D σ H → wpAny (model X.prog X.w) X.A (exec st X.env) (SP X pins D) X.xe s
def PSs (X : Cx) (st : List Stmt) (t : TS) : Prop :=
  ∀ (pins : List (Addr × Obj)) (s : Shared) (σ : St) (H : Hp) (D : Ends), Inv X pins σ H s → t D σ H → wpAny (model X.prog X.w) X.A (execs st X.env) (SP X pins D) X.xe s
theorem thn {α : Type} {t : Sem α} {Q Q' : α → Shared → Prop} {M : Model} {A : Around} {E : Value → Shared → Prop} {s : Shared} (h : wpAny M A t Q E s) (hQ : ∀ a s, Q a s → Q' a s) : wpAny M A t Q' E s := wpAny_mono h hQ fun _ _ x => x
end L2
namespace L2
open PySem PySem.Spec PyProof.Rows
section
variable {X : Cx}
def tVar (i : Nat) : TE := fun σ H Q => ∃ v, σ[i]? = some (some v) ∧ Q v H
def tC (v : V) : TE := fun _ H Q => Q v H
theorem pe_var {i : Nat} {x : Str} {pos : Pos} (hN : X.N[i]? = some x) (hv : Vis X.env.scope x) (hd : (x == ("__debug__" : Str)) = false := by decide) (hcd : (x == ("__classdict__" : Str)) = false := by decide) : PE X (.Name x pos) (tVar i) := by
  intro pins s σ H Q I h
  obtain ⟨v, e, h⟩ := h
  obtain ⟨m, hn, hl⟩ := I.loc
  obtain ⟨u, r, l⟩ := hl i x v hN e hv
  have fin : EP X pins σ Q u s := ⟨v, H, I, r, h⟩
  rcases l with ⟨hk, hm⟩ | ⟨hk, c, hc, hcell⟩
  · exact wpAny_Name (wpAny_loadName_local I.ok.kind hk hn hm fin) hd
  · rcases hk with hk | hk
    · exact wpAny_Name (wpAny_loadName_cell I.ok.kind hk hc hcell fin) hd
    · exact wpAny_Name (wpAny_loadName_free I.ok.kind hk hc hcell fin hcd) hd
theorem pe_int {i j pos} : PE X (.Constant (.int i) j pos) (tC (.int i)) := fun _ _ _ H _ I h => wpAny_Constant_int ⟨.int i, H, I.tok _, ⟨_, rfl⟩, h⟩
theorem pe_bl {b j pos} : PE X (.Constant (.bool b) j pos) (tC (.bl b)) := fun _ _ _ H _ I h => Constant_bool ⟨.bl b, H, I, rfl, h⟩
theorem pe_non {j pos} : PE X (.Constant .none j pos) (tC .non) := fun _ _ _ H _ I h => Constant_none ⟨.non, H, I, rfl, h⟩
theorem pe_str {x j pos} : PE X (.Constant (.str x) j pos) (tC (.str x)) := fun _ _ _ H _ I h => Calls.Constant_str ⟨.str x, H, I.tok _, ⟨_, rfl⟩, h⟩
def Gl (X : Cx) (x : Str) : Prop := X.env.kindOf x = some .globalImplicit
theorem ld_glob {E : Value → Shared → Prop} {pins : List (Addr × Obj)} {s : Shared} {σ : St} {H : Hp} {x : Str} {u : Value} {pos : Pos} {Q : Value → Shared → Prop} (I : Inv X pins σ H s) (hg : Gl X x) (hm : X.mg x = some u) (h : Q u s)
    (hd : (x == ("__debug__" : Str)) = false := by decide) : wpAny (model X.prog X.w) X.A (eval (.Name x pos) X.env) Q E s :=
  Calls.Name_function_global I.ok.kind hg (Calls.loadGlobal_global (by rw [I.ok.glob]; exact I.mod.glob.keeps I.bk) hm h) hd
theorem ld_blt {E : Value → Shared → Prop} {pins : List (Addr × Obj)} {s : Shared} {σ : St} {H : Hp} {x : Str} {u : Value} {pos : Pos} {Q : Value → Shared → Prop} (I : Inv X pins σ H s) (hg : Gl X x) (hm : X.mg x = none) (hv : bootBuiltins x = some u) (h : Q u s)
    (hn : x ≠ "__name__" := by decide) (hd : (x == ("__debug__" : Str)) = false := by decide) : wpAny (model X.prog X.w) X.A (eval (.Name x pos) X.env) Q E s := by
  obtain ⟨mb, h1, h2⟩ := I.mod.blt
  exact Calls.Name_function_global I.ok.kind hg (Calls.loadGlobal_builtin (by rw [I.ok.glob]; exact I.mod.glob.keeps I.bk) hm (by rw [I.ok.blt]; exact h1.keeps I.bk) ((h2 x hn).trans hv) h) hd
theorem pe_glob {x : Str} {v : V} {u : Value} {pos : Pos} (hg : Gl X x) (hm : X.mg x = some u) (r : RelV v u) (hd : (x == ("__debug__" : Str)) = false := by decide) : PE X (.Name x pos) (tC v) :=
  fun _ _ _ H _ I h => ld_glob I hg hm ⟨v, H, I, r, h⟩ hd
theorem pe_bltn {x : Str} {v : V} {u : Value} {pos : Pos} (hg : Gl X x) (hm : X.mg x = none) (hv : bootBuiltins x = some u) (r : RelV v u) (hn : x ≠ "__name__" := by decide) (hd : (x == ("__debug__" : Str)) = false := by decide) : PE X (.Name x pos) (tC v) :=
  fun _ _ _ H _ I h => ld_blt I hg hm hv ⟨v, H, I, r, h⟩ hn hd
variable {a b : Expr} {ta tb : TE} {pos : Pos}
def tB (t : TE) : TT := fun σ H Q => t σ H fun x H1 => ∃ c, x = .bl c ∧ Q c H1
theorem pt_val {e : Expr} {t : TE} (h : PE X e t) (he : ∀ whole, isTrue e X.env whole = (do let v ← whole; standAt e.pos; holding [v] (truthy v)) := by intro _; rfl) : PT X e (tB t) := by
  intro pins s σ H Q I hw
  refine isTrue_plain (thn (h pins s σ H _ I hw) fun v s1 ⟨x, H1, I1, r1, q1⟩ => ?_) (he _)
  obtain ⟨d, rfl, q⟩ := q1
  cases r1
  exact wpAny_truthy_bool ⟨H1, I1, q⟩
variable {tA tB' : TT} {rest : List Expr}
def tAnd (t u : TT) : TT := fun σ H Q => t σ H fun c H1 => if c = true then u σ H1 Q else Q false H1
def tOr (t u : TT) : TT := fun σ H Q => t σ H fun c H1 => if c = true then Q true H1 else u σ H1 Q
def tNot (t : TT) : TT := fun σ H Q => t σ H fun c H1 => Q (!c) H1
theorem pw_and1 (ha : PT X a tA) : PW X (.BoolOp .And [a] pos) tA := by
  intro wh pins s σ H Q I h
  refine isTrue_and (thn (ha pins s σ H Q I h) fun c s1 e => ?_)
  cases c with
  | true => exact isTrue_and_nil e
  | false => exact e
theorem pw_or1 (ha : PT X a tA) : PW X (.BoolOp .Or [a] pos) tA := by
  intro wh pins s σ H Q I h
  refine isTrue_or (thn (ha pins s σ H Q I h) fun c s1 e => ?_)
  cases c with
  | false => exact isTrue_or_nil e
  | true => exact e
theorem pw_and (ha : PT X a tA) (hb : PW X (.BoolOp .And (b :: rest) pos) tB') : PW X (.BoolOp .And (a :: b :: rest) pos) (tAnd tA tB') := by
  intro wh pins s σ H Q I h
  refine isTrue_and (thn (ha pins s σ H _ I h) fun c s1 ⟨H1, I1, q1⟩ => ?_)
  cases c with
  | true => exact hb wh pins s1 σ H1 Q I1 q1
  | false => exact ⟨H1, I1, q1⟩
theorem pw_or (ha : PT X a tA) (hb : PW X (.BoolOp .Or (b :: rest) pos) tB') : PW X (.BoolOp .Or (a :: b :: rest) pos) (tOr tA tB') := by
  intro wh pins s σ H Q I h
  refine isTrue_or (thn (ha pins s σ H _ I h) fun c s1 ⟨H1, I1, q1⟩ => ?_)
  cases c with
  | true => exact ⟨H1, I1, q1⟩
  | false => exact hb wh pins s1 σ H1 Q I1 q1
theorem pt_not (ha : PT X a tA) : PT X (.UnaryOp .Not a pos) (tNot tA) := by
  intro pins s σ H Q I h
  exact isTrue_not (ha pins s σ H (fun c H1 => Q (!c) H1) I h)
theorem pe_one {op} {t : TE} (h : PE X a t) : PE X (.BoolOp op [a] pos) t := fun pins s σ H Q I hw => BoolOp_one (h pins s σ H Q I hw)
def tIf (t : TT) (ta tb : TE) : TE := fun σ H Q => t σ H fun c H1 => if c = true then ta σ H1 Q else tb σ H1 Q
theorem pe_ifExp {c : Expr} (hc : PT X c tA) (ha : PE X a ta) (hb : PE X b tb) : PE X (.IfExp c a b pos) (tIf tA ta tb) := by
  intro pins s σ H Q I h
  refine wpAny_IfExp (thn (hc pins s σ H _ I h) fun d s1 ⟨H1, I1, q1⟩ => ?_)
  cases d with
  | true => exact ha pins s1 σ H1 Q I1 q1
  | false => exact hb pins s1 σ H1 Q I1 q1
end
end L2
namespace L2
open PySem PySem.Spec PyProof.Rows
def SqL (K : PySem.W.Frag) (H : Hp) (a : Addr) (xs : List V) : Prop :=
  Rd H a (.lst xs) ∨
    ∃ (o : Obj) (its : Array Value) (n : Nat), K.lookup a = some o ∧ o.cls = .type "list" ∧ o.dict = none ∧ o.data = .seq its n ∧ its.size ≤ sizeLine ∧ Vals xs its.toList
def SqT (K : PySem.W.Frag) (H : Hp) (a : Addr) (xs : List V) : Prop :=
  Rd H a (.tup xs) ∨
    ∃ (o : Obj) (its : Array Value) (n : Nat), K.lookup a = some o ∧ o.cls = .type "tuple" ∧ o.data = .seq its n ∧ its.size ≤ sizeLine ∧ Vals xs its.toList
def absV : Value → Option V
  | .none => some .non
  | .bool b => some (.bl b)
  | .int i _ => some (.int i)
  | .str x _ => some (.str x)
  | .bytes b _ => some (.byt b)
  | .float b _ => some (.flt b)
  | .ref a => some (.ref a)
  | .type n => some (.ty n)
  | _ => none
theorem RelV.abs {x : V} {u : Value} (r : RelV x u) : absV u = some x := by
  cases x with
  | non => cases r; rfl
  | bl _ => cases r; rfl
  | int _ => obtain ⟨t, rfl⟩ := r; rfl
  | str _ => obtain ⟨t, rfl⟩ := r; rfl
  | byt _ => obtain ⟨t, rfl⟩ := r; rfl
  | flt _ => obtain ⟨t, rfl⟩ := r; rfl
  | ref _ => cases r; rfl
  | ty _ => cases r; rfl
theorem RelV.inj {x y : V} {u : Value} (r : RelV x u) (q : RelV y u) : x = y := Option.some.inj (r.abs.symm.trans q.abs)
theorem Vals.inj : ∀ {xs ys : List V} {us : List Value}, Vals xs us → Vals ys us → xs = ys
  | _, _, _, .nil, .nil => rfl
  | _, _, _, .cons r t, .cons r' t' => by rw [r.inj r', Vals.inj t t']
section
variable {X : Cx} {pins : List (Addr × Obj)} {σ : St} {H : Hp} {s : Shared} {a : Addr} {xs ys : List V}
theorem SqL.of {K : PySem.W.Frag} (h : H a = some (.lst xs)) : SqL K H a xs := .inl (.inl h)
theorem SqT.of {K : PySem.W.Frag} (h : H a = some (.tup xs)) : SqT K H a xs := .inl (.inl h)
theorem Inv.list (I : Inv X pins σ H s) (h : SqL X.K H a xs) : ∃ its : List Value, Vals xs its ∧ PlainL s.heap a its.toArray ∧ xs.length ≤ sizeLine := by
  rcases h with h | ⟨o, its, n, hk, hc, hd, hs, hz, r⟩
  · obtain ⟨z, its, n, r, e⟩ := h.ok I.hok
    exact ⟨its, r, ⟨_, n, e, rfl, rfl, rfl⟩, z⟩
  · refine ⟨its.toList, r, ⟨o, n, I.kIn a o hk, hc, hd, by simpa using hs⟩, ?_⟩
    have e := r.length
    simp only [Array.length_toList] at e
    omega
theorem Inv.tuple (I : Inv X pins σ H s) (h : SqT X.K H a xs) : ∃ its : List Value, Vals xs its ∧ IsTup s.heap a its.toArray ∧ xs.length ≤ sizeLine := by
  rcases h with h | ⟨o, its, n, hk, hc, hs, hz, r⟩
  · obtain ⟨z, its, r, p⟩ := h.ok I.hok
    exact ⟨its, r, p, z⟩
  · refine ⟨its.toList, r, ⟨o, I.kIn a o hk, hc, n, by simpa using hs⟩, ?_⟩
    have e := r.length
    simp only [Array.length_toList] at e
    omega
theorem Inv.list_inj (I : Inv X pins σ H s) (h : SqL X.K H a xs) (h' : SqL X.K H a ys) : xs = ys := by
  obtain ⟨its, r, ⟨o, n, e, _, _, d⟩, _⟩ := I.list h
  obtain ⟨its', r', ⟨o', n', e', _, _, d'⟩, _⟩ := I.list h'
  rw [e] at e'; cases e'
  rw [d] at d'
  injection d' with d1 _
  have : its = its' := by simpa using congrArg Array.toList d1
  subst this
  exact r.inj r'
theorem Inv.tuple_inj (I : Inv X pins σ H s) (h : SqT X.K H a xs) (h' : SqT X.K H a ys) : xs = ys := by
  obtain ⟨its, r, ⟨o, e, _, n, d⟩, _⟩ := I.tuple h
  obtain ⟨its', r', ⟨o', e', _, n', d'⟩, _⟩ := I.tuple h'
  rw [e] at e'; cases e'
  rw [d] at d'
  injection d' with d1 _
  have : its = its' := by simpa using congrArg Array.toList d1
  subst this
  exact r.inj r'
end
abbrev Cx.wish (X : Cx) (E : Value → Shared → Prop) : Cx := { X with xe := E }
abbrev Cx.nox (X : Cx) : Cx := X.wish fun _ _ => False
theorem Cx.Ok.wish {X : Cx} (ok : X.Ok) (E : Value → Shared → Prop) : (X.wish E).Ok :=
  ⟨ok.mod, ok.kind, ok.glob, ok.blt, ok.above, ok.inj, ok.has, ok.cab, ok.hd, ok.frames, ok.stk, ok.exf, ok.bs, ok.bsz, ok.noex, ok.exfs, ok.funs, ok.frf⟩
theorem Cx.Ok.unwish {X : Cx} {E : Value → Shared → Prop} (ok : (X.wish E).Ok) : X.Ok :=
  ⟨ok.mod, ok.kind, ok.glob, ok.blt, ok.above, ok.inj, ok.has, ok.cab, ok.hd, ok.frames, ok.stk, ok.exf, ok.bs, ok.bsz, ok.noex, ok.exfs, ok.funs, ok.frf⟩
section
variable {X : Cx} {pins : List (Addr × Obj)} {σ : St} {H : Hp} {s : Shared} {E : Value → Shared → Prop}
theorem Inv.wish (I : Inv X pins σ H s) (E : Value → Shared → Prop) : Inv (X.wish E) pins σ H s := ⟨I.ok.wish E, I.os, I.bare, I.base, I.loc, I.cell, I.free, I.freeC, I.pin, I.hok, I.len⟩
theorem Inv.unwish (I : Inv (X.wish E) pins σ H s) : Inv X pins σ H s := ⟨I.ok.unwish, I.os, I.bare, I.base, I.loc, I.cell, I.free, I.freeC, I.pin, I.hok, I.len⟩
theorem SP.unwish {D : Ends} {f : Flow} {s' : Shared} (h : SP (X.wish E) pins D f s') : SP X pins D f s' := by
  cases f with
  | next => obtain ⟨σ', H', I, q⟩ := h; exact ⟨σ', H', I.unwish, q⟩
  | brk => obtain ⟨σ', H', I, q⟩ := h; exact ⟨σ', H', I.unwish, q⟩
  | cont => obtain ⟨σ', H', I, q⟩ := h; exact ⟨σ', H', I.unwish, q⟩
  | ret u => obtain ⟨v, σ', H', I, r, q⟩ := h; exact ⟨v, σ', H', I.unwish, r, q⟩
end
section
variable {X : Cx} {st : Stmt} {rest : List Stmt} {t u : TS} {e : Expr} {te : TE} {pos : Pos}
def tNext : TS := fun D σ H => D.nx σ H
def tSeq (t u : TS) : TS := fun D σ H => t { D with nx := u D } σ H
theorem pss_nil : PSs X [] tNext := fun _ _ σ H _ I h => wpAny_execs_nil ⟨σ, H, I, h⟩
theorem pss_cons (h1 : PS X st t) (h2 : PSs X rest u) : PSs X (st :: rest) (tSeq t u) := by
  intro pins s σ H D I h
  refine wpAny_execs_cons (thn (h1 pins s σ H { D with nx := u D } I h) fun f s1 q => ?_)
  cases f with
  | next =>
    obtain ⟨σ', H', I', q⟩ := q
    exact h2 pins s1 σ' H' D I' q
  | ret v => exact q
  | brk => exact q
  | cont => exact q
theorem pss_one (h1 : PS X st t) : PSs X [st] t := by
  intro pins s σ H D I h
  refine wpAny_execs_cons (thn (h1 pins s σ H D I h) fun f s1 q => ?_)
  cases f with
  | next => exact wpAny_execs_nil q
  | ret v => exact q
  | brk => exact q
  | cont => exact q
theorem Inv.quiet {pins : List (Addr × Obj)} {σ : St} {H : Hp} {s : Shared} (I : Inv X pins σ H s) : interactive X.env = false := by simp [interactive, I.ok.kind]
def tDrop (te : TE) : TS := fun D σ H => te σ H fun _ H1 => D.nx σ H1
theorem ps_expr (he : PE X e te) (hs : swapsWith e none pos.line X.env = pure false := by rfl) : PS X (.Expr e pos) (tDrop te) := by
  intro pins s σ H D I h
  exact wpAny_Expr_any (thn (he pins s σ H _ I h) fun v s1 ⟨x, H1, I1, r1, q1⟩ => ⟨σ, H1, I1, q1⟩) I.quiet hs
def tRet (te : TE) : TS := fun D σ H => te σ H D.rt
theorem ps_ret (he : PE X e te) : PS X (.Return (some e) pos) (tRet te) := by
  intro pins s σ H D I h
  exact wpAny_Return_some (thn (he pins s σ H _ I h) fun v s1 ⟨x, H1, I1, r1, q1⟩ => ⟨x, σ, H1, I1, r1, q1⟩)
def tIfS (c : TT) (t u : TS) : TS := fun D σ H => c σ H fun b H1 => if b = true then t D σ H1 else u D σ H1
theorem ps_if {c : Expr} {a b : List Stmt} {tc : TT} (hc : PT X c tc) (ha : PSs X a t) (hb : PSs X b u) : PS X (.If c a b pos) (tIfS tc t u) := by
  intro pins s σ H D I h
  refine wpAny_If (thn (hc pins s σ H _ I h) fun d s1 ⟨H1, I1, q1⟩ => ?_)
  cases d with
  | true => exact ha pins s1 σ H1 D I1 q1
  | false => exact hb pins s1 σ H1 D I1 q1
end
abbrev TG := V → St → Hp → (St → Hp → Prop) → Prop
abbrev TGs := List V → St → Hp → (St → Hp → Prop) → Prop
def PG (X : Cx) (target : Expr) (t : TG) : Prop :=
  ∀ (pins : List (Addr × Obj)) (s : Shared) (σ : St) (H : Hp) (v : V) (u : Value) (Q : St → Hp → Prop), Inv X pins σ H s → RelV v u → t v σ H Q →
    wpAny (model X.prog X.w) X.A (assign target X.env u) (fun _ s' => ∃ σ' H', Inv X pins σ' H' s' ∧ Q σ' H') X.xe s
def PGs (X : Cx) (ts : List Expr) (t : TGs) : Prop :=
  ∀ (pins : List (Addr × Obj)) (s : Shared) (σ : St) (H : Hp) (vs : List V) (us : List Value) (Q : St → Hp → Prop), Inv X pins σ H s → Vals vs us → t vs σ H Q →
    wpAny (model X.prog X.w) X.A (assignInOrder ((assignEach ts X.env).map (·.2)) us) (fun _ s' => ∃ σ' H', Inv X pins σ' H' s' ∧ Q σ' H') X.xe s
abbrev TSet := V → V → V → Hp → (Hp → Prop) → Prop
def PSet (X : Cx) (t : TSet) : Prop :=
  ∀ (pins : List (Addr × Obj)) (s : Shared) (σ : St) (H : Hp) (o i v : V) (ov iv u : Value) (Q : Hp → Prop), Inv X pins σ H s → RelV o ov → RelV i iv → RelV v u → t o i v H Q →
    wpAny (model X.prog X.w) X.A (setItem ov iv u) (fun _ s' => ∃ H', Inv X pins σ H' s' ∧ Q H') X.xe s
section
variable {X : Cx} {pos : Pos}
def gName (i : Nat) : TG := fun v σ H Q => Q (σ.set i (some v)) H
theorem pg_name {i : Nat} {x : Str} (hN : X.N.Nodup) (hi : X.N[i]? = some x) (hx : Loc X.env.scope x) (hf : X.fn x = true ∨ X.env.scope.names.lookup x = some .local := by first | exact .inl rfl | exact .inr rfl | assumption) : PG X (.Name x pos) (gName i) := by
  intro pins s σ H v u Q I r h
  exact wpAny_assign_Name (store_ok I hN hi hx r (fun s' I' => ⟨_, H, I', h⟩) hf)
def gNil : TGs := fun vs σ H Q => vs = [] ∧ Q σ H
def gCons (t : TG) (u : TGs) : TGs := fun vs σ H Q => ∃ v r, vs = v :: r ∧ t v σ H fun σ' H' => u r σ' H' Q
theorem pgs_nil : PGs X [] gNil := by
  intro pins s σ H vs us Q I r h
  obtain ⟨e, h⟩ := h
  subst e
  cases r
  exact assignInOrder_nil ⟨σ, H, I, h⟩
theorem pgs_cons {e : Expr} {es : List Expr} {t : TG} {u : TGs} (h1 : PG X e t) (h2 : PGs X es u)
    (hs : (assignEach (e :: es) X.env).map (·.2) = assign e X.env :: (assignEach es X.env).map (·.2) := by rfl) : PGs X (e :: es) (gCons t u) := by
  intro pins s σ H vs us Q I r h
  obtain ⟨v, vr, e1, h⟩ := h
  subst e1
  cases r with
  | cons r rr =>
    rw [hs]
    refine assignInOrder_cons (thn (h1 pins s σ H _ _ _ I r h) fun _ s1 ⟨σ1, H1, I1, q1⟩ => ?_)
    exact h2 pins s1 σ1 H1 _ _ Q I1 rr q1
def gTup (K : PySem.W.Frag) (n : Nat) (t : TGs) : TG := fun v σ H Q => ∃ a xs, v = .ref a ∧ SqT K H a xs ∧ xs.length = n ∧ t xs σ H Q
theorem pg_tup {es : List Expr} {k : Nat} {t : TGs} {n : Nat} (hc : X.calm = true) (h : PGs X es t)
    (hn : (assignEach es X.env).length = n := by rfl) (hst : (assignEach es X.env).findIdx? (·.1) = none := by rfl) : PG X (.Tuple es k pos) (gTup X.K n t) := by
  intro pins s σ H v u Q I r hw
  obtain ⟨a, xs, e1, hq, hl, hw⟩ := hw
  subst e1
  cases r
  obtain ⟨its, rv, ht, hz⟩ := I.tuple hq
  refine assign_Tuple_tuple (I.ok.hd hc) ht (by simp [hn, ← hl, rv.length]) hst fun h' hx => ?_
  have I1 : Inv X pins σ H { s with heap := h' } := I.kept (t' := s.toks) fun b o e => hx b o (Nat.ne_of_lt (Heap.lt_size e)) e
  exact h pins _ σ H xs _ Q I1 (by simpa using rv) hw
def gSub (to ti : TE) (t : TSet) : TG := fun v σ H Q => to σ H fun o H1 => ti σ H1 fun i H2 => t o i v H2 fun H3 => Q σ H3
theorem pg_sub {o i : Expr} {to ti : TE} {t : TSet} (ho : PE X o to) (hi : PE X i ti) (hs : PSet X t)
    (ha : ∀ v, assign (.Subscript o i pos) X.env v = (do
      let ov ← holding [v] (eval o X.env)
      let iv ← holding [v, ov] (eval i X.env)
      standAt pos
      holding [v, ov, iv] (setItem ov iv v)
      release [v, ov, iv] []) := by intro _; rfl) : PG X (.Subscript o i pos) (gSub to ti t) := by
  intro pins s σ H v u Q I r h
  rw [ha]
  refine wpAny_bind (wpAny_holding (thn (ho pins s σ H _ I h) fun ov s1 ⟨x, H1, I1, r1, q1⟩ => ?_))
  refine wpAny_bind (wpAny_holding (thn (hi pins s1 σ H1 _ I1 q1) fun iv s2 ⟨y, H2, I2, r2, q2⟩ => ?_))
  refine wpAny_bind (wpAny_standAt (wpAny_bind (wpAny_holding (thn (hs pins s2 σ H2 x y v ov iv u _ I2 r1 r2 r q2) fun _ s3 ⟨H3, I3, q3⟩ => ?_))))
  exact wpAny_release ⟨σ, H3, I3, q3⟩
def tAsg (te : TE) (g : TG) : TS := fun D σ H => te σ H fun x H1 => g x σ H1 D.nx
theorem ps_asg {tg e : Expr} {te : TE} {g : TG} (he : PE X e te) (hg : PG X tg g) (hs : swapsWithSole [tg] e pos.line X.env = pure false := by rfl) (hw : swappedStores [tg] e X.env = pure none := by rfl)
    (h1 : (assignEach [tg] X.env).map (·.2) = [assign tg X.env] := by rfl) : PS X (.Assign [tg] e pos) (tAsg te g) := by
  intro pins s σ H D I h
  refine wpAny_Assign_stores (thn (he pins s σ H _ I h) fun v s1 ⟨x, H1, I1, r1, q1⟩ => ?_) hs hw
  rw [h1]
  exact thn (hg pins s1 σ H1 x v _ I1 r1 q1) fun _ s2 q => q
theorem ps_set {i : Nat} {x : Str} {e : Expr} {te : TE} {pos' : Pos} (hN : X.N.Nodup) (hi : X.N[i]? = some x) (hx : Loc X.env.scope x) (he : PE X e te) (hs : swapsWith e (some (.Name x pos')) pos.line X.env = pure false := by rfl) (hf : X.fn x = true ∨ X.env.scope.names.lookup x = some .local := by first | exact .inl rfl | exact .inr rfl | assumption) :
    PS X (.Assign [.Name x pos'] e pos) (tAsg te (gName i)) := by
  intro pins s σ H D I h
  refine wpAny_Assign_Name (thn (he pins s σ H _ I h) fun v s1 ⟨y, H1, I1, r1, q1⟩ => ?_) hs
  exact store_ok I1 hN hi hx r1 (fun s2 I2 => ⟨_, H1, I2, q1⟩) hf
def tPar (i j : Nat) (ta : TA) : TS := fun D σ H => ta σ H fun vs H1 => ∃ v w, vs = [v, w] ∧ D.nx ((σ.set i (some v)).set j (some w)) H1
theorem ps_par {i j : Nat} {x y : Str} {a b : Expr} {ta : TA} {px py pt : Pos} {kt k2 pt2} (hc : X.calm = true) (hN : X.N.Nodup) (hi : X.N[i]? = some x) (hj : X.N[j]? = some y) (hij : i ≠ j)
    (hx : X.env.scope.names.lookup x = some .local) (hy : X.env.scope.names.lookup y = some .local) (ha : PA X [a, b] ta)
    (hw : swappedStores [.Tuple [.Name x px, .Name y py] kt pt] (.Tuple [a, b] k2 pt2) X.env = pure (some [x, y]))
    (hs : swapsWithSole [.Tuple [.Name x px, .Name y py] kt pt] (.Tuple [a, b] k2 pt2) pos.line X.env = pure false := by rfl) :
    PS X (.Assign [.Tuple [.Name x px, .Name y py] kt pt] (.Tuple [a, b] k2 pt2) pos) (tPar i j ta) := by
  intro pins s σ H D I h
  rw [exec_Assign_arm]
  refine wpAny_bind (wpAny_standAt ?_)
  rw [hs]
  refine wpAny_bind (wpAny_pure ?_)
  rw [if_neg (by decide)]
  refine wpAny_bind (Tuple_ (thn (ha _ pins s σ H _ I h) fun us s1 ⟨vs, H1, I1, r1, q1⟩ => ?_))
  obtain ⟨v, w, e1, q1⟩ := q1
  subst e1
  obtain ⟨u1, u2, rfl, rv, rw'⟩ : ∃ u1 u2, us = [u1, u2] ∧ RelV v u1 ∧ RelV w u2 := by
    cases r1 with
    | cons p q =>
      cases q with
      | cons p' q' =>
        cases q'
        exact ⟨_, _, rfl, p, p'⟩
  refine wpAny_newObj_type ?_ (by show 2 ≤ sizeLine; decide)
  have I2 : Inv X pins σ H1 { s1 with heap := s1.heap.push { cls := .type "tuple", data := .seq [u1, u2].toArray } } := I1.kept (t' := s1.toks) fun b o e => Heap.get?_push_of_some _ e
  rw [hw]
  refine wpAny_bind (wpAny_pure ?_)
  show wpAny (model X.prog X.w) X.A (do rule "assign.swapped-stores"; let items ← unpackItems (.ref s1.heap.objs.size) 2 none; assignInOrder [fun v => bindName X.env y v, fun v => bindName X.env x v] items.reverse; pure Flow.next) _ _ _
  refine wpAny_bind (wpAny_rule (wpAny_bind (unpackItems_tuple (items := #[u1, u2]) (I.ok.hd hc) (IsTup.new s1.heap _) fun h' hx' => ?_)))
  have I3 := I2.kept (h' := h') (t' := s1.toks) fun b o e => hx' b o (Nat.ne_of_lt (Heap.lt_size e)) e
  show wpAny _ _ (assignInOrder [fun v => bindName X.env y v, fun v => bindName X.env x v] [u2, u1] >>= fun _ => pure Flow.next) _ _ _
  refine wpAny_bind (assignInOrder_cons (wpAny_bindName (store_ok I3 hN hj (.inl hy) rw' (fun s2 I4 => ?_) (.inr hy))))
  refine assignInOrder_cons (wpAny_bindName (store_ok I4 hN hi (.inl hx) rv (fun s3 I5 => assignInOrder_nil (wpAny_pure ?_)) (.inr hx)))
  rw [List.set_comm _ _ (Ne.symm hij)] at I5
  exact ⟨_, H1, I5, q1⟩
end
section
variable {X : Cx} {pos : Pos}
end
structure It where
  go : Nat → Hp → Prop
  yld : Nat → Hp → V → Hp → Prop
  stop : Nat → Hp → Prop
def FpOk (X : Cx) (pins : List (Addr × Obj)) (H : Hp) (b : Addr) : Prop :=
  H b = none ∧ b ≠ X.env.locals ∧ b ∉ X.fs ∧ (b ∈ X.ex ∨ X.s₀.heap.objs.size ≤ b) ∧ (∀ x c, X.env.cells.lookup x = some c → c ≠ b) ∧ ∀ p ∈ X.pn ++ pins, p.1 ≠ b
theorem Inv.fpOk {X : Cx} {pins : List (Addr × Obj)} {σ : St} {H H' : Hp} {s : Shared} {b : Addr} (I : Inv X pins σ H s) (hb : s.heap.objs.size ≤ b) (hn : H' b = none) : FpOk X pins H' b := by
  refine ⟨hn, Nat.ne_of_gt (Nat.lt_of_lt_of_le I.lt hb), I.nofs hb, .inr (Nat.le_trans I.sz hb), fun x c e z => ?_, fun p hp z => ?_⟩
  · obtain ⟨v, q⟩ := I.cell x c e
    exact absurd (Nat.lt_of_lt_of_le q.lt (by rw [z]; exact hb)) (Nat.lt_irrefl _)
  · exact absurd (Nat.lt_of_lt_of_le (Heap.lt_size (I.pin p hp).1) (by rw [z]; exact hb)) (Nat.lt_irrefl _)
structure Turn (P : Program) (w : World) (K : PySem.W.Frag) (tg : Expr) (J : It) (fp : List Addr) (it : Addr) (tn : Nat → Heap → Prop) : Prop where
  mem : it ∈ fp
  obj : ∀ i h, tn i h → ∀ b ∈ fp, ∃ o, h.get? b = some o ∧ ∀ v, o.data ≠ .cell v
  keep : ∀ i h h', tn i h → (∀ b ∈ fp, ∀ o, h.get? b = some o → h'.get? b = some o) → tn i h'
  item : ∀ (X : Cx), X.prog = P → X.w = w → X.K = K → X.calm = true → ∀ (i : Nat) (pins : List (Addr × Obj)) (s : Shared) (σ : St) (H : Hp) (E : Value → Shared → Prop), Inv X pins σ H s → (∀ b ∈ fp, FpOk X pins H b) → tn i s.heap → J.go i H →
    wpAny (model P w) X.A (pyNext (.ref it)) (fun r s1 => ∃ u, r = some u ∧
      wpAny (model P w) X.A (letOwnedTupleGo tg (.ref it) u) (fun _ s2 => ∃ x H', Inv X pins σ H' s2 ∧ RelV x u ∧ J.yld i H x H' ∧ tn (i + 1) s2.heap ∧ ∀ b ∈ fp, H' b = none) E s1) E s
  done : ∀ (X : Cx), X.prog = P → X.w = w → X.K = K → X.calm = true → ∀ (i : Nat) (pins : List (Addr × Obj)) (s : Shared) (σ : St) (H : Hp) (E : Value → Shared → Prop), Inv X pins σ H s → (∀ b ∈ fp, FpOk X pins H b) → tn i s.heap → J.stop i H →
    wpAny (model P w) X.A (pyNext (.ref it)) (fun r s1 => r = none ∧ Inv X pins σ H s1) E s
  self : ∀ (A : Around) (i : Nat) (s : Shared) (Q : Value → Shared → Prop) (E : Value → Shared → Prop), tn i s.heap → Q (.ref it) s → wpAny (model P w) A (pyIter (.ref it)) Q E s
abbrev TI := St → Hp → (It → Hp → Prop) → Prop
def PIE (X : Cx) (pins : List (Addr × Obj)) (σ : St) (tg : Expr) (R : It → Hp → Prop) (itv : Value) (s2 : Shared) : Prop :=
  ∃ (it : Addr) (fp : List Addr) (tn : Nat → Heap → Prop) (J : It) (H' : Hp), itv = .ref it ∧ Inv X pins σ H' s2 ∧ Turn X.prog X.w X.K tg J fp it tn ∧ tn 0 s2.heap ∧ (∀ b ∈ fp, FpOk X pins H' b) ∧ R J H'
def PI (X : Cx) (tg iter : Expr) (wi : TI) : Prop :=
  ∀ (pins : List (Addr × Obj)) (s : Shared) (σ : St) (H : Hp) (R : It → Hp → Prop), Inv X pins σ H s → wi σ H R →
    wpAny (model X.prog X.w) X.A (eval iter X.env) (fun v s1 => wpAny (model X.prog X.w) X.A (pyIter v) (PIE X pins σ tg R) X.xe s1) X.xe s
theorem go_of {M : Model} {A : Around} {E : Value → Shared → Prop} {s : Shared} {tg : Expr} {it : Addr} {u : Value} {o : Obj} {n : String} {vs : Array Value} {Q : Unit → Shared → Prop} (ho : s.heap.get? it = some o) (hc : o.cls = .type n) (hd : o.data = .fields vs)
    (hn : ["enumerate", "zip", "dict_itemiterator", "dict_reverseitemiterator", "odict_iterator", "itertools.zip_longest", "itertools.pairwise"].contains n = false) (hQ : Q () s) : wpAny M A (letOwnedTupleGo tg (.ref it) u) Q E s := by
  unfold letOwnedTupleGo
  cases tg <;> first
    | exact wpAny_pure hQ
    | (cases u <;> first
        | exact wpAny_pure hQ
        | (refine wpAny_bind (wpAny_load ho ?_)
           rw [hc, hd]
           show wpAny M A (if (["enumerate", "zip", "dict_itemiterator", "dict_reverseitemiterator", "odict_iterator", "itertools.zip_longest", "itertools.pairwise"].contains n && vs[0]? == some (rawInt _)) = true then _ else _) Q E s
           rw [if_neg (by intro h; rw [hn, Bool.false_and] at h; cases h)]
           exact wpAny_pure hQ))
def Itl (K : PySem.W.Frag) (a : Addr) : It :=
  ⟨fun i H => ∃ xs x, SqL K H a xs ∧ xs[i]? = some x, fun i H x H' => H' = H ∧ ∀ xs, SqL K H a xs → xs[i]? = some x, fun i H => ∃ xs, SqL K H a xs ∧ xs.length ≤ i⟩
def Itt (K : PySem.W.Frag) (a : Addr) : It :=
  ⟨fun i H => ∃ xs x, SqT K H a xs ∧ xs[i]? = some x, fun i H x H' => H' = H ∧ ∀ xs, SqT K H a xs → xs[i]? = some x, fun i H => ∃ xs, SqT K H a xs ∧ xs.length ≤ i⟩
def Itr (lo : Int) (n : Nat) : It := ⟨fun i _ => i < n, fun i H x H' => H' = H ∧ x = .int (lo + i), fun i _ => n ≤ i⟩
theorem turn_list {P : Program} {w : World} {K : PySem.W.Frag} {tg : Expr} (a it : Addr) : Turn P w K tg (Itl K a) [it] it (fun i h => h.IsListIter it a i) where
  mem := by simp
  obj := fun i h st b hb => by
    have e : b = it := by simpa using hb
    subst e
    obtain ⟨o, e, c, d⟩ := st
    exact ⟨o, e, fun v z => by rw [d] at z; cases z⟩
  keep := fun i h h' st k => st.at fun o e => k it (by simp) o e
  item := by
    intro X hP hw hK hc i pins s σ H E I hf st hg
    subst hP hw hK
    obtain ⟨xs, x, hq, hx⟩ := hg
    obtain ⟨its, rv, p, hz⟩ := I.list hq
    obtain ⟨u, hu, ru⟩ := rv.get hx
    obtain ⟨f0, f1, f2, f3, f4, f5⟩ := hf it (by simp)
    refine wpAny_pyNext_list_item st p.isList (x := u) (by simpa using hu) fun h' st' sb => ?_
    have I1 : Inv X pins σ H { s with heap := h' } := I.turned (t' := s.toks) (fun b o hb e => (sb.2 b hb).trans e) f0 f1 f3 f4 f5
    obtain ⟨o, e, c, d⟩ := id st'
    exact ⟨u, rfl, go_of (s := { s with heap := h' }) e c d (by decide) ⟨x, H, I1, ru, ⟨rfl, fun ys hy => by rw [I.list_inj hy hq]; exact hx⟩, st', fun b hb => (hf b hb).1⟩⟩
  done := by
    intro X hP hw hK hc i pins s σ H E I hf st hg
    subst hP hw hK
    obtain ⟨xs, hq, hx⟩ := hg
    obtain ⟨its, rv, p, hz⟩ := I.list hq
    obtain ⟨f0, f1, f2, f3, f4, f5⟩ := hf it (by simp)
    have hl := rv.length
    exact wpAny_pyNext_list_end (I.ok.hd hc) st p.isList (by simp; omega) fun h' eb => ⟨rfl, I.turned (t' := s.toks) (fun b o hb e => eb b o hb e) f0 f1 f3 f4 f5⟩
  self := fun _ _ _ _ _ st h => wpAny_pyIter_listiter st h
theorem turn_tuple {P : Program} {w : World} {K : PySem.W.Frag} {tg : Expr} (a it : Addr) : Turn P w K tg (Itt K a) [it] it (fun i h => h.IsTupleIter it a i) where
  mem := by simp
  obj := fun i h st b hb => by
    have e : b = it := by simpa using hb
    subst e
    obtain ⟨o, e, c, d⟩ := st
    exact ⟨o, e, fun v z => by rw [d] at z; cases z⟩
  keep := fun i h h' st k => st.at fun o e => k it (by simp) o e
  item := by
    intro X hP hw hK hc i pins s σ H E I hf st hg
    subst hP hw hK
    obtain ⟨xs, x, hq, hx⟩ := hg
    obtain ⟨its, rv, p, hz⟩ := I.tuple hq
    obtain ⟨u, hu, ru⟩ := rv.get hx
    obtain ⟨f0, f1, f2, f3, f4, f5⟩ := hf it (by simp)
    refine wpAny_pyNext_tuple_item st (show s.heap.IsTuple a its.toArray from p) (x := u) (by simpa using hu) fun h' st' sb => ?_
    have I1 : Inv X pins σ H { s with heap := h' } := I.turned (t' := s.toks) (fun b o hb e => (sb.2 b hb).trans e) f0 f1 f3 f4 f5
    obtain ⟨o, e, c, d⟩ := id st'
    exact ⟨u, rfl, go_of (s := { s with heap := h' }) e c d (by decide) ⟨x, H, I1, ru, ⟨rfl, fun ys hy => by rw [I.tuple_inj hy hq]; exact hx⟩, st', fun b hb => (hf b hb).1⟩⟩
  done := by
    intro X hP hw hK hc i pins s σ H E I hf st hg
    subst hP hw hK
    obtain ⟨xs, hq, hx⟩ := hg
    obtain ⟨its, rv, p, hz⟩ := I.tuple hq
    obtain ⟨f0, f1, f2, f3, f4, f5⟩ := hf it (by simp)
    have hl := rv.length
    exact wpAny_pyNext_tuple_end (I.ok.hd hc) st (show s.heap.IsTuple a its.toArray from p) (by simp; omega) fun h' eb => ⟨rfl, I.turned (t' := s.toks) (fun b o hb e => eb b o hb e) f0 f1 f3 f4 f5⟩
  self := fun _ _ _ _ _ st h => wpAny_pyIter_tupleiter st h
theorem turn_range {P : Program} {w : World} {K : PySem.W.Frag} {tg : Expr} (it : Addr) (lo : Int) (n : Nat) : Turn P w K tg (Itr lo n) [it] it (fun i h => IsRangeIter h it (lo + (i : Nat) * 1) ((n : Int) - (i : Nat)) 1) where
  mem := by simp
  obj := fun i h st b hb => by
    have e : b = it := by simpa using hb
    subst e
    exact ⟨_, st, fun v z => by
      have z' : Data.fields _ = Data.cell v := z
      cases z'⟩
  keep := fun i h h' st k => k it (by simp) _ st
  item := by
    intro X hP hw hK hc i pins s σ H E I hf st hg
    subst hP hw hK
    obtain ⟨f0, f1, f2, f3, f4, f5⟩ := hf it (by simp)
    have W := Walks.range (prog := X.prog) (w := X.w) (I.ok.hd hc) it lo 1 n
    refine W.item i s _ _ hg st fun v h' tk hv st' kk => ?_
    obtain ⟨t, rfl⟩ := hv
    have I1 : Inv X pins σ H { s with heap := h', toks := tk } := I.turned (fun b o hb e => kk b o (by simpa using hb) e) f0 f1 f3 f4 f5
    refine ⟨_, rfl, go_of (s := { s with heap := h', toks := tk }) (n := "range_iterator") st' rfl rfl (by decide) ⟨.int (lo + i), H, I1, ⟨t, ?_⟩, ⟨rfl, rfl⟩, st', fun b hb => (hf b hb).1⟩⟩
    rw [Int.mul_one]
  done := by
    intro X hP hw hK hc i pins s σ H E I hf st hg
    subst hP hw hK
    obtain ⟨f0, f1, f2, f3, f4, f5⟩ := hf it (by simp)
    exact wpAny_pyNext_range_end (I.ok.hd hc) st (by have : n ≤ i := hg; omega) fun h' eb => ⟨rfl, I.turned (t' := s.toks) (fun b o hb e => eb b o hb e) f0 f1 f3 f4 f5⟩
  self := fun _ _ _ _ _ st h => wpAny_pyIter_rangeiter st h
end L2
namespace L2
open PySem PySem.Spec PyProof.Rows
section
variable {X : Cx} {tg : Expr}
def iList (K : PySem.W.Frag) (tl : TE) : TI := fun σ H R => tl σ H fun x H1 => ∃ a, x = .ref a ∧ (∃ xs, SqL K H1 a xs) ∧ R (Itl K a) H1
def iTup (K : PySem.W.Frag) (tl : TE) : TI := fun σ H R => tl σ H fun x H1 => ∃ a, x = .ref a ∧ (∃ xs, SqT K H1 a xs) ∧ R (Itt K a) H1
theorem pi_list {l : Expr} {tl : TE} (hl : PE X l tl) : PI X tg l (iList X.K tl) := by
  intro pins s σ H R I h
  refine thn (hl pins s σ H _ I h) fun v s1 ⟨x, H1, I1, r1, q1⟩ => ?_
  obtain ⟨a, e, ⟨xs, hq⟩, q⟩ := q1
  subst e
  cases r1
  obtain ⟨its, rv, p, hz⟩ := I1.list hq
  refine wpAny_pyIter_list p.isList ?_
  refine ⟨s1.heap.objs.size, [s1.heap.objs.size], _, _, H1, rfl, I1.kept (t' := s1.toks) fun b o e => Heap.get?_push_of_some _ e, turn_list a _, ⟨_, Heap.get?_push_size _ rfl, rfl, rfl⟩, fun b hb => ?_, q⟩
  have e : b = s1.heap.objs.size := by simpa using hb
  subst e
  exact I1.fpOk (Nat.le_refl _) (I1.hok.fresh (Nat.le_refl _))
theorem pi_tup {l : Expr} {tl : TE} (hl : PE X l tl) : PI X tg l (iTup X.K tl) := by
  intro pins s σ H R I h
  refine thn (hl pins s σ H _ I h) fun v s1 ⟨x, H1, I1, r1, q1⟩ => ?_
  obtain ⟨a, e, ⟨xs, hq⟩, q⟩ := q1
  subst e
  cases r1
  obtain ⟨its, rv, p, hz⟩ := I1.tuple hq
  refine wpAny_pyIter_tuple (show s1.heap.IsTuple a its.toArray from p) ?_
  refine ⟨s1.heap.objs.size, [s1.heap.objs.size], _, _, H1, rfl, I1.kept (t' := s1.toks) fun b o e => Heap.get?_push_of_some _ e, turn_tuple a _, ⟨_, Heap.get?_push_size _ rfl, rfl, rfl⟩, fun b hb => ?_, q⟩
  have e : b = s1.heap.objs.size := by simpa using hb
  subst e
  exact I1.fpOk (Nat.le_refl _) (I1.hok.fresh (Nat.le_refl _))
theorem range_it {pins : List (Addr × Obj)} {σ : St} {H : Hp} {s : Shared} {R : It → Hp → Prop} {E : Value → Shared → Prop} {lo hi : Int} {t u v : Tok} {tk : Nat} (I : Inv X pins σ H s) (h1 : -(2 ^ 62) ≤ lo) (h2 : lo < 2 ^ 62) (h3 : -(2 ^ 62) ≤ hi) (h4 : hi < 2 ^ 62)
    (q : R (Itr lo (hi - lo).toNat) H) : wpAny (model X.prog X.w) X.A (pyIter (.ref s.heap.objs.size)) (PIE X pins σ tg R) E { s with heap := s.heap.push { cls := .type "range", data := .fields #[.int lo t, .int hi u, .int 1 v] }, toks := tk } := by
  refine wpAny_pyIter_range (IsRange.new ..) (small_one h1 h2 h3 h4) ?_
  have I1 : Inv X pins σ H { s with heap := s.heap.push { cls := .type "range", data := .fields #[.int lo t, .int hi u, .int 1 v] }, toks := tk } := I.kept fun b o e => Heap.get?_push_of_some _ e
  refine ⟨(s.heap.push { cls := .type "range", data := .fields #[.int lo t, .int hi u, .int 1 v] }).objs.size, [(s.heap.push { cls := .type "range", data := .fields #[.int lo t, .int hi u, .int 1 v] }).objs.size], _, _, H, rfl,
    I1.kept (t' := tk) fun b o e => Heap.get?_push_of_some _ e, turn_range _ lo (hi - lo).toNat, ?_, fun b hb => ?_, q⟩
  · have e1 : lo + ((0 : Nat) : Int) * 1 = lo := by simp
    have e2 : (((hi - lo).toNat : Nat) : Int) - ((0 : Nat) : Int) = Builtin.Range.rangeSize lo hi 1 := by rw [rangeSize_one]; split <;> omega
    show IsRangeIter _ _ (lo + ((0 : Nat) : Int) * 1) ((((hi - lo).toNat : Nat) : Int) - ((0 : Nat) : Int)) 1
    rw [e1, e2]
    exact Heap.get?_push_size _ rfl
  · have e : b = (s.heap.push { cls := .type "range", data := .fields #[.int lo t, .int hi u, .int 1 v] }).objs.size := by simpa using hb
    subst e
    exact I1.fpOk (Nat.le_refl _) (I1.hok.fresh (Nat.le_refl _))
def iRng1 (ta : TA) : TI := fun σ H R => ta σ H fun vs H1 => ∃ j : Int, vs = [.int j] ∧ -(2 ^ 62) ≤ j ∧ j < 2 ^ 62 ∧ R (Itr 0 j.toNat) H1
theorem pi_range1 {a : Expr} {ta : TA} {p pos : Pos} (hg : Gl X "range") (hm : X.mg "range" = none) (ha : PA X [a] ta) (hs : starEach [a] X.env = [(false, eval a X.env)] := by rfl) : PI X tg (.Call (.Name "range" p) [a] [] pos) (iRng1 ta) := by
  intro pins s σ H R I h
  refine Call_ (ld_blt I hg hm boot_range (PyProof.Rows.callWith_type1 (thn (ha pos pins s σ H _ I h) fun us s1 ⟨vs, H1, I1, r1, q1⟩ => ?_) hs rfl))
  obtain ⟨j, e, q1, q2, q⟩ := q1
  subst e
  cases r1 with
  | cons r rr =>
    cases rr
    obtain ⟨t, rfl⟩ := r
    exact call_range_1 (range_it I1 (by omega) (by omega) q1 q2 (by simpa using q))
def tFor (wi : TI) (g : TG) (tb : TS) : TS := fun D σ H => wi σ H fun J H1 => ∃ W : Nat → Nat → St → Hp → Prop, (∃ m, W 0 m σ H1) ∧ ∀ i m σ H, W i m σ H →
  (J.stop i H ∧ D.nx σ H) ∨ (J.go i H ∧ ∃ N : St → Hp → Prop, (∀ σ' H', N σ' H' → ∃ m', m' < m ∧ W (i + 1) m' σ' H') ∧ ∀ x H', J.yld i H x H' → g x σ H' fun σ2 H2 => tb { D with nx := N, ct := N, bk := D.nx } σ2 H2)
def pinsAt (fp : List Addr) (h : Heap) : List (Addr × Obj) := fp.filterMap fun b => (h.get? b).map fun o => (b, o)
theorem mem_pinsAt {fp : List Addr} {h : Heap} {b : Addr} {o : Obj} (hb : b ∈ fp) (e : h.get? b = some o) : (b, o) ∈ pinsAt fp h := List.mem_filterMap.mpr ⟨b, hb, by rw [e]; rfl⟩
theorem of_pinsAt {fp : List Addr} {h : Heap} {p : Addr × Obj} (hp : p ∈ pinsAt fp h) : p.1 ∈ fp ∧ h.get? p.1 = some p.2 := by
  obtain ⟨b, hb, e⟩ := List.mem_filterMap.mp hp
  cases q : h.get? b with
  | none => rw [q] at e; cases e
  | some o =>
    rw [q] at e
    have e' : (b, o) = p := Option.some.inj e
    subst e'
    exact ⟨hb, q⟩
theorem Inv.pinned {pins : List (Addr × Obj)} {σ : St} {H : Hp} {s : Shared} {fp : List Addr} (I : Inv X pins σ H s) (hf : ∀ b ∈ fp, FpOk X pins H b) (ho : ∀ b ∈ fp, ∃ o, s.heap.get? b = some o ∧ ∀ v, o.data ≠ .cell v) : Inv X (pins ++ pinsAt fp s.heap) σ H s :=
  I.pins_of fun p hp => (List.mem_append.mp hp).elim (fun z => I.pin p (List.mem_append_right _ z)) fun z => by
    obtain ⟨hb, e⟩ := of_pinsAt z
    obtain ⟨f0, f1, f2, _⟩ := hf p.1 hb
    obtain ⟨o, e', d⟩ := ho p.1 hb
    rw [e] at e'; cases e'
    exact ⟨e, f0, f1, f2, d⟩
theorem Inv.unpinned {pins pl : List (Addr × Obj)} {σ : St} {H : Hp} {s : Shared} (I : Inv X (pins ++ pl) σ H s) : Inv X pins σ H s := I.pins_of fun p hp => I.pin p (List.mem_append_right _ (List.mem_append_left _ hp))
theorem ps_for {iter : Expr} {body : List Stmt} {wi : TI} {g : TG} {tb : TS} {pos : Pos} (hp : PassesOwn (model X.prog X.w) X.A X.env X.xe) (hc : X.calm = true) (hi : PI X tg iter wi) (hg : PG X tg g) (hb : PSs X body tb)
    (hs : ∀ x, foldedSetIterable iter X.env x = pure x := by intro _; rfl) : PS X (.For tg iter body [] pos) (tFor wi g tb) := by
  intro pins s σ H D I h
  refine wpAny_For (thn (hi pins s σ H _ I h) fun v s1 h1 => thn h1 fun itv s2 h2 => ?_) hs
  obtain ⟨it, fp, tn, J, H2, e, I2, T, st2, f2, W, ⟨m0, w0⟩, turn⟩ := h2
  subst e
  -- what stays true of the iterator's objects through the loop
  have stat : ∀ {H' : Hp}, (∀ b ∈ fp, H' b = none) → ∀ b ∈ fp, FpOk X pins H' b := fun hn b hb => ⟨hn b hb, (f2 b hb).2⟩
  refine codeAny_forLoop_any (fun n s' => ∃ i σ' H', Inv X pins σ' H' s' ∧ tn i s'.heap ∧ (∀ b ∈ fp, H' b = none) ∧ W i n σ' H') ?_ m0 ⟨0, σ, H2, I2, st2, fun b hb => (f2 b hb).1, w0⟩
  rintro n s3 ⟨i, σ3, H3, I3, st3, fr3, w3⟩
  rcases turn i n σ3 H3 w3 with ⟨stop, qn⟩ | ⟨go, N, hN, step⟩
  · refine wpAny_passesOwn hp (thn (T.done X rfl rfl rfl hc i pins s3 σ3 H3 X.xe I3 (stat fr3) st3 stop) fun r s4 ⟨hr, I4⟩ => ?_)
    subst hr
    exact wpAny_execs_nil ⟨σ3, H3, I4, qn⟩
  · refine wpAny_passesOwn hp (thn (T.item X rfl rfl rfl hc i pins s3 σ3 H3 X.xe I3 (stat fr3) st3 go) fun r s4 ⟨u, hr, h4⟩ => ?_)
    subst hr
    refine wpAny_passesOwn hp (thn h4 fun _ s5 ⟨x, H5, I5, r5, y5, st5, fr5⟩ => ?_)
    have I5' := I5.pinned (stat fr5) (T.obj _ _ st5)
    refine wpAny_passesOwn hp (thn (hg _ s5 σ3 H5 x u _ I5' r5 (step x H5 y5)) fun _ s6 ⟨σ6, H6, I6, q6⟩ => ?_)
    refine wpAny_passesOwn hp (thn (hb _ s6 σ6 H6 _ I6 q6) fun f s7 q7 => ?_)
    have again : ∀ {σ7 : St} {H7 : Hp}, Inv X (pins ++ pinsAt fp s5.heap) σ7 H7 s7 → N σ7 H7 → ∃ m, m < n ∧ ∃ i σ' H', Inv X pins σ' H' s7 ∧ tn i s7.heap ∧ (∀ b ∈ fp, H' b = none) ∧ W i m σ' H' := fun {σ7 H7} I7 n7 => by
      obtain ⟨m', hm, w7⟩ := hN σ7 H7 n7
      refine ⟨m', hm, i + 1, σ7, H7, I7.unpinned, T.keep _ _ _ st5 fun b hb o e => (I7.pin (b, o) (List.mem_append_right _ (List.mem_append_right _ (mem_pinsAt hb e)))).1, fun b hb => ?_, w7⟩
      obtain ⟨o, e, d⟩ := T.obj _ _ st5 b hb
      exact (I7.pin (b, o) (List.mem_append_right _ (List.mem_append_right _ (mem_pinsAt hb e)))).2.1
    cases f with
    | next => obtain ⟨σ7, H7, I7, n7⟩ := q7; exact again I7 n7
    | cont => obtain ⟨σ7, H7, I7, n7⟩ := q7; exact again I7 n7
    | brk => obtain ⟨σ7, H7, I7, q7⟩ := q7; exact ⟨σ7, H7, I7.unpinned, q7⟩
    | ret v => obtain ⟨x7, σ7, H7, I7, r7, q7⟩ := q7; exact ⟨x7, σ7, H7, I7.unpinned, r7, q7⟩
end
end L2
namespace L2
open PySem PySem.Spec PyProof.Rows
abbrev R2 := V → V → Hp → VK → Prop
def OpR (X : Cx) (f : Value → Value → Sem Value) (r : R2) : Prop :=
  ∀ (pins : List (Addr × Obj)) (s : Shared) (σ : St) (H : Hp) (x y : V) (v u : Value) (Q : VK), Inv X pins σ H s → RelV x v → RelV y u → r x y H Q →
    wpAny (model X.prog X.w) X.A (f v u) (EP X pins σ Q) X.xe s
def UnR (X : Cx) (f : Value → Sem Value) (r : V → Hp → VK → Prop) : Prop :=
  ∀ (pins : List (Addr × Obj)) (s : Shared) (σ : St) (H : Hp) (x : V) (v : Value) (Q : VK), Inv X pins σ H s → RelV x v → r x H Q →
    wpAny (model X.prog X.w) X.A (f v) (EP X pins σ Q) X.xe s
def CallR (X : Cx) (f : Value) (r : List V → Hp → VK → Prop) : Prop :=
  ∀ (pins : List (Addr × Obj)) (s : Shared) (σ : St) (H : Hp) (xs : List V) (us : List Value) (Q : VK), Inv X pins σ H s → Vals xs us → r xs H Q →
    wpAny (model X.prog X.w) X.A (call f us) (EP X pins σ Q) X.xe s
def TruR (X : Cx) (r : V → Hp → (Bool → Hp → Prop) → Prop) : Prop :=
  ∀ (pins : List (Addr × Obj)) (s : Shared) (σ : St) (H : Hp) (x : V) (v : Value) (Q : Bool → Hp → Prop), Inv X pins σ H s → RelV x v → r x H Q →
    wpAny (model X.prog X.w) X.A (truthy v) (TP X pins σ Q) X.xe s
def tOp (r : R2) (ta tb : TE) : TE := fun σ H Q => ta σ H fun x H1 => tb σ H1 fun y H2 => r x y H2 Q
def tUn (r : V → Hp → VK → Prop) (ta : TE) : TE := fun σ H Q => ta σ H fun x H1 => r x H1 Q
def rI (C : Int → Int → Prop) (g : Int → Int → V) : R2 := fun x y H Q => ∃ i j, x = .int i ∧ y = .int j ∧ C i j ∧ Q (g i j) H
def rI0 (g : Int → Int → V) : R2 := fun x y H Q => ∃ i j, x = .int i ∧ y = .int j ∧ Q (g i j) H
def rU (g : Int → V) : V → Hp → VK → Prop := fun x H Q => ∃ i, x = .int i ∧ Q (g i) H
section
variable {X : Cx} {a b c : Expr} {ta tb tc : TE} {pos : Pos}
theorem binT (ha : PE X a ta) (hb : PE X b tb) {pins : List (Addr × Obj)} {s : Shared} {σ : St} {H : Hp} {R : V → V → Hp → Prop} (I : Inv X pins σ H s)
    (h : ta σ H fun x H1 => tb σ H1 fun y H2 => R x y H2) {Q : Value → Shared → Prop} {f : Value → Value → Sem Value}
    (hf : ∀ v u s2 x y H2, Inv X pins σ H2 s2 → RelV x v → RelV y u → R x y H2 → wpAny (model X.prog X.w) X.A (f v u) Q X.xe s2) :
    wpAny (model X.prog X.w) X.A (eval a X.env) (fun v s₁ => wpAny (model X.prog X.w) X.A (eval b X.env) (fun u s₂ => wpAny (model X.prog X.w) X.A (f v u) Q X.xe s₂) X.xe s₁) X.xe s := by
  refine thn (ha pins s σ H _ I h) fun v s1 ⟨x, H1, I1, r1, q1⟩ => ?_
  refine thn (hb pins s1 σ H1 _ I1 q1) fun u s2 ⟨y, H2, I2, r2, q2⟩ => ?_
  exact hf v u s2 x y H2 I2 r1 r2 q2
theorem pe_op {op : Operator} {r : R2} (ho : OpR X (binaryOp op) r) (ha : PE X a ta) (hb : PE X b tb) : PE X (.BinOp a op b pos) (tOp r ta tb) := by
  intro pins s σ H Q I h
  exact wpAny_BinOp (binT ha hb I h fun v u s2 x y H2 I2 rx ry q => ho pins s2 σ H2 x y v u Q I2 rx ry q)
theorem pe_un {op : UnaryOp} {r : V → Hp → VK → Prop} (ho : UnR X (unaryOp op) r) (ha : PE X a ta) : PE X (.UnaryOp op a pos) (tUn r ta) := by
  intro pins s σ H Q I h
  exact UnaryOp_ (thn (ha pins s σ H _ I h) fun v s1 ⟨x, H1, I1, r1, q1⟩ => ho pins s1 σ H1 x v Q I1 r1 q1)
theorem opI {f : Value → Value → Sem Value} {C : Int → Int → Prop} {g : Int → Int → Int}
    (rule : ∀ (i j : Int) (t u : Tok) (s : Shared) (Q : Value → Shared → Prop) (E : Value → Shared → Prop), C i j → Q (.int (g i j) s.toks) { s with toks := s.toks + 1 } → wpAny (model X.prog X.w) X.A (f (.int i t) (.int j u)) Q E s) :
    OpR X f (rI C fun i j => .int (g i j)) := by
  intro pins s σ H x y v u Q I rx ry h
  obtain ⟨i, j, rfl, rfl, hc, q⟩ := h
  obtain ⟨t, rfl⟩ := rx
  obtain ⟨t', rfl⟩ := ry
  exact rule i j t t' s _ _ hc ⟨.int (g i j), H, I.tok _, ⟨_, rfl⟩, q⟩
theorem opI0 {f : Value → Value → Sem Value} {g : Int → Int → Int}
    (rule : ∀ (i j : Int) (t u : Tok) (s : Shared) (Q : Value → Shared → Prop) (E : Value → Shared → Prop), Q (.int (g i j) s.toks) { s with toks := s.toks + 1 } → wpAny (model X.prog X.w) X.A (f (.int i t) (.int j u)) Q E s) :
    OpR X f (rI0 fun i j => .int (g i j)) := by
  intro pins s σ H x y v u Q I rx ry h
  obtain ⟨i, j, rfl, rfl, q⟩ := h
  obtain ⟨t, rfl⟩ := rx
  obtain ⟨t', rfl⟩ := ry
  exact rule i j t t' s _ _ ⟨.int (g i j), H, I.tok _, ⟨_, rfl⟩, q⟩
theorem opB0 {f : Value → Value → Sem Value} {g : Int → Int → Bool}
    (rule : ∀ (i j : Int) (t u : Tok) (s : Shared) (Q : Value → Shared → Prop) (E : Value → Shared → Prop), Q (.bool (g i j)) s → wpAny (model X.prog X.w) X.A (f (.int i t) (.int j u)) Q E s) :
    OpR X f (rI0 fun i j => .bl (g i j)) := by
  intro pins s σ H x y v u Q I rx ry h
  obtain ⟨i, j, rfl, rfl, q⟩ := h
  obtain ⟨t, rfl⟩ := rx
  obtain ⟨t', rfl⟩ := ry
  exact rule i j t t' s _ _ ⟨.bl (g i j), H, I, rfl, q⟩
def CDiv (i j : Int) : Prop := 0 < j ∧ j < 1073741824
def CPow (i j : Int) : Prop := 0 ≤ j ∧ j ≤ 1000000 ∧ i.natAbs < 2 ^ 64
def CMul (i j : Int) : Prop := (-(2 ^ 64) < i ∧ i < 2 ^ 64) ∨ (-(2 ^ 64) < j ∧ j < 2 ^ 64)
theorem CMul.ok {i j : Int} (h : CMul i j) : IntMulOk i j := by
  rcases h with ⟨h1, h2⟩ | ⟨h1, h2⟩
  · exact .of_left (intBits_le_64 h1 h2)
  · exact .of_right (intBits_le_64 h1 h2)
theorem op_add : OpR X (binaryOp .Add) (rI0 fun i j => .int (i + j)) := opI0 fun _ _ _ _ _ _ _ q => add_int q
theorem op_sub : OpR X (binaryOp .Sub) (rI0 fun i j => .int (i - j)) := opI0 fun _ _ _ _ _ _ _ q => sub_int q
theorem op_mul : OpR X (binaryOp .Mult) (rI CMul fun i j => .int (i * j)) := opI fun _ _ _ _ _ _ _ hc q => mul_int q hc.ok
theorem op_fdiv : OpR X (binaryOp .FloorDiv) (rI CDiv fun i j => .int (i / j)) := opI fun i j _ _ _ _ _ hc q => by
  have h1 : (0 : Int) < j := hc.1
  have h2 : j < 1073741824 := hc.2
  exact floordiv_int (by omega) (by rw [Int.fdiv_eq_ediv_of_nonneg i (by omega)]; exact q) (.inl (PyProof.noPylong_small (by omega)))
theorem op_mod : OpR X (binaryOp .Mod) (rI (fun _ j => 0 < j) fun i j => .int (i % j)) := opI fun i j _ _ _ _ _ hc q => by
  have h1 : (0 : Int) < j := hc
  exact mod_int' (by omega) (by rw [Int.fmod_eq_emod_of_nonneg i (by omega)]; exact q)
theorem op_pow : OpR X (binaryOp .Pow) (rI CPow fun i j => .int (i ^ j.toNat)) := opI fun _ _ _ _ _ _ _ hc q => pow_int_small hc.1 hc.2.1 hc.2.2 q
theorem unI {f : Value → Sem Value} {g : Int → Int}
    (rule : ∀ (i : Int) (t : Tok) (s : Shared) (Q : Value → Shared → Prop) (E : Value → Shared → Prop), Q (.int (g i) s.toks) { s with toks := s.toks + 1 } → wpAny (model X.prog X.w) X.A (f (.int i t)) Q E s) :
    UnR X f (rU fun i => .int (g i)) := by
  intro pins s σ H x v Q I rx h
  obtain ⟨i, rfl, q⟩ := h
  obtain ⟨t, rfl⟩ := rx
  exact rule i t s _ _ ⟨.int (g i), H, I.tok _, ⟨_, rfl⟩, q⟩
theorem un_neg : UnR X (unaryOp .USub) (rU fun i => .int (-i)) := unI fun _ _ _ _ _ q => neg_int q
end
def scal : V → V → Bool
  | .non, .non => true | .non, .int _ => true | .int _, .non => true | .non, .bl _ => true | .bl _, .non => true | .non, .str _ => true | .str _, .non => true
  | .int _, .int _ => true | .bl _, .bl _ => true | .str _, .str _ => true | .byt _, .byt _ => true
  | .int _, .str _ => true | .str _, .int _ => true | .bl _, .str _ => true | .str _, .bl _ => true
  | _, _ => false
def rEq : R2 := fun x y H Q => scal x y = true ∧ Q (.bl (decide (x = y))) H
def rNe : R2 := fun x y H Q => scal x y = true ∧ Q (.bl (!decide (x = y))) H
theorem dec_int {i j : Int} : decide (V.int i = V.int j) = (i == j) := by
  rw [Bool.eq_iff_iff]
  simp
theorem dec_bl {i j : Bool} : decide (V.bl i = V.bl j) = (i == j) := by
  rw [Bool.eq_iff_iff]
  simp
theorem dec_str {i j : Str} : decide (V.str i = V.str j) = (i == j) := by
  rw [Bool.eq_iff_iff]
  simp
theorem dec_byt {i j : Array UInt8} : decide (V.byt i = V.byt j) = (i.toList == j.toList) := by
  rw [Bool.eq_iff_iff]
  cases i
  cases j
  simp
section
variable {X : Cx} {a b c : Expr} {ta tb tc : TE} {pos : Pos}
theorem fin_bl {pins : List (Addr × Obj)} {σ : St} {H : Hp} {s : Shared} {Q : VK} {k k' : Bool} (I : Inv X pins σ H s) (q : Q (.bl k) H) (e : k = k') : EP X pins σ Q (.bool k') s := by
  subst e
  exact ⟨.bl k, H, I, rfl, q⟩
theorem op_eq : OpR X (compareOp .Eq) rEq := by
  intro pins s σ H x y v u Q I rx ry h
  obtain ⟨hs, q⟩ := h
  cases x with
  | non =>
    cases rx
    cases y with
    | non => cases ry; exact PySem.EqNone.eq_none_none (fin_bl I q (by simp))
    | bl j => cases ry; exact PySem.EqNone.eq_none_bool (fin_bl I q (by simp))
    | int j => obtain ⟨t', rfl⟩ := ry; exact PySem.EqNone.eq_none_int (fin_bl I q (by simp))
    | str j => obtain ⟨t', rfl⟩ := ry; exact PySem.EqNone.eq_none_str (fin_bl I q (by simp))
    | _ => exact absurd (show false = true from hs) Bool.false_ne_true
  | bl i =>
    cases rx
    cases y with
    | non => cases ry; exact PySem.EqNone.eq_bool_none (fin_bl I q (by simp))
    | bl j => cases ry; exact eq_bool (fin_bl I q dec_bl)
    | str j => obtain ⟨t', rfl⟩ := ry; exact PySem.EqMixed.eq_bool_str (fin_bl I q (by simp))
    | _ => exact absurd (show false = true from hs) Bool.false_ne_true
  | int i =>
    obtain ⟨t, rfl⟩ := rx
    cases y with
    | non => cases ry; exact PySem.EqNone.eq_int_none (fin_bl I q (by simp))
    | int j => obtain ⟨t', rfl⟩ := ry; exact eq_int (fin_bl I q dec_int)
    | str j => obtain ⟨t', rfl⟩ := ry; exact PySem.EqMixed.eq_int_str (fin_bl I q (by simp))
    | _ => exact absurd (show false = true from hs) Bool.false_ne_true
  | str i =>
    obtain ⟨t, rfl⟩ := rx
    cases y with
    | non => cases ry; exact PySem.EqNone.eq_str_none (fin_bl I q (by simp))
    | bl j => cases ry; exact PySem.EqMixed.eq_str_bool (fin_bl I q (by simp))
    | int j => obtain ⟨t', rfl⟩ := ry; exact PySem.EqMixed.eq_str_int (fin_bl I q (by simp))
    | str j => obtain ⟨t', rfl⟩ := ry; exact eq_str (fin_bl I q dec_str)
    | _ => exact absurd (show false = true from hs) Bool.false_ne_true
  | byt i =>
    obtain ⟨t, rfl⟩ := rx
    cases y with
    | byt j => obtain ⟨t', rfl⟩ := ry; exact PySem.W.eq_bytes (fin_bl I q dec_byt)
    | _ => exact absurd (show false = true from hs) Bool.false_ne_true
  | _ => cases y <;> exact absurd (show false = true from hs) Bool.false_ne_true
theorem op_ne : OpR X (compareOp .NotEq) rNe := by
  intro pins s σ H x y v u Q I rx ry h
  obtain ⟨hs, q⟩ := h
  cases x with
  | non =>
    cases rx
    cases y with
    | non => cases ry; exact PySem.EqNone.ne_none_none (fin_bl I q (by simp))
    | bl j => cases ry; exact PySem.EqNone.ne_none_bool (fin_bl I q (by simp))
    | int j => obtain ⟨t', rfl⟩ := ry; exact PySem.EqNone.ne_none_int (fin_bl I q (by simp))
    | str j => obtain ⟨t', rfl⟩ := ry; exact PySem.EqNone.ne_none_str (fin_bl I q (by simp))
    | _ => exact absurd (show false = true from hs) Bool.false_ne_true
  | bl i =>
    cases rx
    cases y with
    | non => cases ry; exact PySem.EqNone.ne_bool_none (fin_bl I q (by simp))
    | bl j => cases ry; exact ne_bool (fin_bl I q (congrArg not dec_bl))
    | str j => obtain ⟨t', rfl⟩ := ry; exact PySem.EqMixed.ne_bool_str (fin_bl I q (by simp))
    | _ => exact absurd (show false = true from hs) Bool.false_ne_true
  | int i =>
    obtain ⟨t, rfl⟩ := rx
    cases y with
    | non => cases ry; exact PySem.EqNone.ne_int_none (fin_bl I q (by simp))
    | int j => obtain ⟨t', rfl⟩ := ry; exact ne_int (fin_bl I q (congrArg not dec_int))
    | str j => obtain ⟨t', rfl⟩ := ry; exact PySem.EqMixed.ne_int_str (fin_bl I q (by simp))
    | _ => exact absurd (show false = true from hs) Bool.false_ne_true
  | str i =>
    obtain ⟨t, rfl⟩ := rx
    cases y with
    | non => cases ry; exact PySem.EqNone.ne_str_none (fin_bl I q (by simp))
    | bl j => cases ry; exact PySem.EqMixed.ne_str_bool (fin_bl I q (by simp))
    | int j => obtain ⟨t', rfl⟩ := ry; exact PySem.EqMixed.ne_str_int (fin_bl I q (by simp))
    | str j => obtain ⟨t', rfl⟩ := ry; exact ne_str (fin_bl I q (congrArg not dec_str))
    | _ => exact absurd (show false = true from hs) Bool.false_ne_true
  | byt i =>
    obtain ⟨t, rfl⟩ := rx
    cases y with
    | byt j => obtain ⟨t', rfl⟩ := ry; exact PySem.W.ne_bytes (fin_bl I q (congrArg not dec_byt))
    | _ => exact absurd (show false = true from hs) Bool.false_ne_true
  | _ => cases y <;> exact absurd (show false = true from hs) Bool.false_ne_true
theorem op_le : OpR X (compareOp .LtE) (rI0 fun i j => .bl (decide (i ≤ j))) := opB0 fun _ _ _ _ _ _ _ q => le_int q
theorem op_gt : OpR X (compareOp .Gt) (rI0 fun i j => .bl (decide (j < i))) := opB0 fun _ _ _ _ _ _ _ q => gt_int q
theorem op_in_str : OpR X (compareOp .In) (fun x y H Q => ∃ i j, x = .str i ∧ y = .str j ∧ Q (.bl (!(Builtin.Str.occurrences j i 0 j.length 1).isEmpty)) H) := by
  intro pins s σ H x y v u Q I rx ry h
  obtain ⟨i, j, rfl, rfl, q⟩ := h
  obtain ⟨t, rfl⟩ := rx
  obtain ⟨t', rfl⟩ := ry
  exact in_str (fin_bl I q rfl)
theorem op_notin_str : OpR X (compareOp .NotIn) (fun x y H Q => ∃ i j, x = .str i ∧ y = .str j ∧ Q (.bl (!(!(Builtin.Str.occurrences j i 0 j.length 1).isEmpty))) H) := by
  intro pins s σ H x y v u Q I rx ry h
  obtain ⟨i, j, rfl, rfl, q⟩ := h
  obtain ⟨t, rfl⟩ := rx
  obtain ⟨t', rfl⟩ := ry
  exact notIn_str (fin_bl I q rfl)
theorem OpR.or {f : Value → Value → Sem Value} {r r' : R2} (h : OpR X f r) (h' : OpR X f r') : OpR X f (fun x y H Q => r x y H Q ∨ r' x y H Q) := by
  intro pins s σ H x y v u Q I rx ry q
  rcases q with q | q
  · exact h pins s σ H x y v u Q I rx ry q
  · exact h' pins s σ H x y v u Q I rx ry q
theorem nomark (b : Expr) {op : CmpOp} (h : op ≠ .In := by decide) (h2 : op ≠ .NotIn := by decide) : behindInMarks op b = false := by
  have e1 : (op == CmpOp.In) = false := by cases op <;> first | rfl | exact absurd rfl h
  have e2 : (op == CmpOp.NotIn) = false := by cases op <;> first | rfl | exact absurd rfl h2
  cases b <;> simp [behindInMarks, e1, e2]
theorem pe_cmpR {op : CmpOp} {r : R2} (ho : OpR X (compareOp op) r) (ha : PE X a ta) (hb : PE X b tb) (hm : behindInMarks op b = false) : PE X (.Compare a [op] [b] pos) (tOp r ta tb) := by
  intro pins s σ H Q I h
  exact wpAny_Compare1 (binT ha hb I h fun v u s2 x y H2 I2 rx ry q => ho pins s2 σ H2 x y v u Q I2 rx ry q) hm
def tTest (t : TE) : TT := fun σ H Q => t σ H fun x H' => ∃ k, x = .bl k ∧ Q k H'
theorem pt_cmpR {op : CmpOp} {r : R2} (ho : OpR X (compareOp op) r) (ha : PE X a ta) (hb : PE X b tb) (hm : behindInMarks op b = false) : PT X (.Compare a [op] [b] pos) (tTest (tOp r ta tb)) := by
  intro pins s σ H Q I h
  refine wpAny_isTrue_Compare1 (thn (ha pins s σ H _ I h) fun v s1 ⟨x, H1, I1, r1, q1⟩ => thn (hb pins s1 σ H1 _ I1 q1) fun u s2 ⟨y, H2, I2, r2, q2⟩ =>
    thn (ho pins s2 σ H2 x y v u _ I2 r1 r2 q2) fun c s3 ⟨z, H3, I3, r3, k, e, q3⟩ => ?_) hm
  subst e
  cases r3
  exact wpAny_truthy_bool ⟨H3, I3, q3⟩
def tChain (r r' : R2) (ta tb tc : TE) : TE := fun σ H Q => ta σ H fun x H1 => tb σ H1 fun y H2 => r x y H2 fun z H3 => ∃ k, z = .bl k ∧
  (if k = true then tc σ H3 fun w' H4 => r' y w' H4 Q else Q (.bl false) H3)
theorem pe_chain {op op' : CmpOp} {r r' : R2} (ho : OpR X (compareOp op) r) (ho' : OpR X (compareOp op') r') (ha : PE X a ta) (hb : PE X b tb) (hc : PE X c tc)
    (hm : lastMarks [op, op'] [b, c] = false := by with_unfolding_all rfl) : PE X (.Compare a [op, op'] [b, c] pos) (tChain r r' ta tb tc) := by
  intro pins s σ H Q I h
  refine Compare_chain (thn (ha pins s σ H _ I h) fun v s1 ⟨x, H1, I1, r1, q1⟩ => chain_link (thn (hb pins s1 σ H1 _ I1 q1) fun u s2 ⟨y, H2, I2, r2, q2⟩ =>
    thn (ho pins s2 σ H2 x y v u _ I2 r1 r2 q2) fun d s3 ⟨z, H3, I3, r3, k, e, q3⟩ => ?_)) hm
  subst e
  cases r3
  refine wpAny_truthy_bool ?_
  cases k with
  | false => exact ite_ff ⟨.bl false, H3, I3, rfl, q3⟩
  | true => exact ite_tt (chain_last (thn (hc pins s3 σ H3 _ I3 q3) fun w' s4 ⟨z', H4, I4, r4, q4⟩ => ho' pins s4 σ H4 y z' u w' Q I4 r2 r4 q4))
theorem pt_chain {op op' : CmpOp} {r r' : R2} (ho : OpR X (compareOp op) r) (ho' : OpR X (compareOp op') r') (ha : PE X a ta) (hb : PE X b tb) (hc : PE X c tc)
    (hm : lastMarks [op, op'] [b, c] = false := by with_unfolding_all rfl) : PT X (.Compare a [op, op'] [b, c] pos) (tTest (tChain r r' ta tb tc)) := by
  intro pins s σ H Q I h
  refine isTrue_chain (thn (ha pins s σ H _ I h) fun v s1 ⟨x, H1, I1, r1, q1⟩ => test_link (thn (hb pins s1 σ H1 _ I1 q1) fun u s2 ⟨y, H2, I2, r2, q2⟩ =>
    thn (ho pins s2 σ H2 x y v u _ I2 r1 r2 q2) fun d s3 ⟨z, H3, I3, r3, k, e, q3⟩ => ?_)) hm
  subst e
  cases r3
  refine wpAny_truthy_bool ?_
  cases k with
  | false =>
    obtain ⟨k', e', q'⟩ := q3
    cases e'
    exact ite_ff ⟨H3, I3, q'⟩
  | true =>
    refine ite_tt (test_last (thn (hc pins s3 σ H3 _ I3 q3) fun w' s4 ⟨z', H4, I4, r4, q4⟩ => thn (ho' pins s4 σ H4 y z' u w' _ I4 r2 r4 q4) fun d' s5 ⟨z2, H5, I5, r5, k2, e2, q5⟩ => ?_))
    subst e2
    cases r5
    exact wpAny_truthy_bool ⟨H5, I5, q5⟩
def TruV (K : PySem.W.Frag) (x : V) (H : Hp) (k : Bool) : Prop :=
  match x with
  | .non => k = false
  | .bl b => k = b
  | .int i => k = (i != 0)
  | .str y => y.length ≤ sizeLine ∧ k = ((y.length : Int) != 0)
  | .byt y => y.size ≤ sizeLine ∧ k = ((y.size : Int) != 0)
  | .ref p => (∃ xs, SqL K H p xs ∧ k = !xs.isEmpty) ∨ (∃ xs, SqT K H p xs ∧ k = !xs.isEmpty) ∨ ∃ kvs, H p = some (.dK kvs) ∧ k = !kvs.isEmpty
  | _ => False
theorem isEmpty_kv {κ : Type} {kvs : List (κ × V)} {vs : List (κ × Value)} (r : KV kvs vs) : (!vs.isEmpty) = !kvs.isEmpty := by
  cases r <;> rfl
theorem isEmpty_of {xs : List V} {its : List Value} (r : Vals xs its) : (!its.toArray.isEmpty) = !xs.isEmpty := by
  cases r <;> simp
theorem line63 : (sizeLine : Nat) < 2 ^ 63 := by rw [sizeLine_eq]; decide
theorem tru_ok : TruR X (fun x H Q => ∃ k, TruV X.K x H k ∧ Q k H) := by
  intro pins s σ H x v Q I rx h
  obtain ⟨k, e, q⟩ := h
  have hl := line63
  have hs : sizeLine = 16777216 := sizeLine_eq
  cases x with
  | non =>
    cases rx
    have e' : k = false := e
    subst e'
    exact truthy_none ⟨H, I, q⟩
  | bl b =>
    cases rx
    have e' : k = b := e
    subst e'
    exact wpAny_truthy_bool ⟨H, I, q⟩
  | int i =>
    obtain ⟨t, rfl⟩ := rx
    have e' : k = (i != 0) := e
    subst e'
    exact PySem.P.truthy_int ⟨H, I, q⟩
  | str y =>
    obtain ⟨t, rfl⟩ := rx
    obtain ⟨hy, e'⟩ : y.length ≤ sizeLine ∧ k = ((y.length : Int) != 0) := e
    subst e'
    exact PySem.P.truthy_str (by omega) ⟨H, I.tok _, q⟩
  | byt y =>
    obtain ⟨t, rfl⟩ := rx
    obtain ⟨hy, e'⟩ : y.size ≤ sizeLine ∧ k = ((y.size : Int) != 0) := e
    subst e'
    exact PySem.W.truthy_bytes (by omega) ⟨H, I.tok _, q⟩
  | ref p =>
    cases rx
    have e' : (∃ xs, SqL X.K H p xs ∧ k = !xs.isEmpty) ∨ (∃ xs, SqT X.K H p xs ∧ k = !xs.isEmpty) ∨ ∃ kvs, H p = some (.dK kvs) ∧ k = !kvs.isEmpty := e
    rcases e' with ⟨xs, hx, e'⟩ | ⟨xs, hx, e'⟩ | ⟨kvs, hx, e'⟩
    · subst e'
      obtain ⟨its, r, pl, hz⟩ := I.list hx
      have hlen := r.length
      exact wpAny_truthy_list pl.isList (by simp only [List.size_toArray]; omega) ⟨H, I.tok _, by rw [isEmpty_of r]; exact q⟩
    · subst e'
      obtain ⟨its, r, pl, hz⟩ := I.tuple hx
      have hlen := r.length
      exact truthy_tuple pl (by simp only [List.size_toArray]; omega) ⟨H, I.tok _, by rw [isEmpty_of r]; exact q⟩
    · subst e'
      obtain ⟨hz, hS, vs, r, m⟩ : kvs.length ≤ sizeLine ∧ (p == sysModules) = false ∧ ∃ vs, KV kvs vs ∧ s.heap.DictOf (mixKind X.prog X.w) p vs := I.hok p _ hx
      have hlen : kvs.length = vs.length := Paired.length r
      exact wpAny_truthy_dict hS m (by omega) ⟨H, I.tok _, by rw [isEmpty_kv r]; exact q⟩
  | _ => exact (show False from e).elim
theorem pt_truth (ha : PE X a ta) (he : ∀ whole, isTrue a X.env whole = (do let v ← whole; standAt a.pos; holding [v] (truthy v))) :
    PT X a (fun σ H Q => ta σ H fun x H' => ∃ k, TruV X.K x H' k ∧ Q k H') := by
  intro pins s σ H Q I h
  exact isTrue_plain (thn (ha pins s σ H _ I h) fun v s1 ⟨x, H1, I1, r1, q1⟩ => tru_ok pins s1 σ H1 x v Q I1 r1 q1) (he _)
theorem op_add_str : OpR X (binaryOp .Add) (fun x y H Q => ∃ i j, x = .str i ∧ y = .str j ∧ i.length + j.length ≤ sizeLine ∧ Q (.str (i ++ j)) H) := by
  intro pins s σ H x y v u Q I rx ry h
  obtain ⟨i, j, rfl, rfl, hz, q⟩ := h
  obtain ⟨t, rfl⟩ := rx
  obtain ⟨t', rfl⟩ := ry
  exact add_str (fun t' tk => ⟨.str (i ++ j), H, I.tok _, ⟨_, rfl⟩, q⟩) hz
theorem vals1 {x : V} {us : List Value} (r : Vals [x] us) : ∃ u, us = [u] ∧ RelV x u := by
  cases r with
  | cons r1 r2 => cases r2; exact ⟨_, rfl, r1⟩
theorem vals2 {x y : V} {us : List Value} (r : Vals [x, y] us) : ∃ u w', us = [u, w'] ∧ RelV x u ∧ RelV y w' := by
  cases r with
  | cons r1 r2 =>
    cases r2 with
    | cons r3 r4 => cases r4; exact ⟨_, _, rfl, r1, r3⟩
theorem call_abs : CallR X (.builtin "abs") (fun xs H Q => ∃ i, xs = [.int i] ∧ Q (.int (if i < 0 then -i else i)) H) := by
  intro pins s σ H xs us Q I r h
  obtain ⟨i, rfl, q⟩ := h
  obtain ⟨u, rfl, t, rfl⟩ := vals1 r
  exact call_abs_int fun u tk => ⟨.int (if i < 0 then -i else i), H, I.tok _, ⟨_, rfl⟩, q⟩
theorem call_max2 (hc : X.calm = true) : CallR X (.builtin "max") (fun xs H Q => ∃ i j, xs = [.int i, .int j] ∧ Q (.int (if j > i then j else i)) H) := by
  intro pins s σ H xs us Q I r h
  obtain ⟨i, j, rfl, q⟩ := h
  obtain ⟨u, w', rfl, ⟨t, rfl⟩, ⟨t', rfl⟩⟩ := vals2 r
  refine max_two_ints (I.ok.hd hc) fun h' tk k => ⟨_, H, I.kept k, ?_, q⟩
  by_cases hj : j > i
  · rw [if_pos hj, if_pos hj]; exact ⟨_, rfl⟩
  · rw [if_neg hj, if_neg hj]; exact ⟨_, rfl⟩
theorem call_min2 (hc : X.calm = true) : CallR X (.builtin "min") (fun xs H Q => ∃ i j, xs = [.int i, .int j] ∧ Q (.int (if j < i then j else i)) H) := by
  intro pins s σ H xs us Q I r h
  obtain ⟨i, j, rfl, q⟩ := h
  obtain ⟨u, w', rfl, ⟨t, rfl⟩, ⟨t', rfl⟩⟩ := vals2 r
  refine min_two_ints (I.ok.hd hc) fun h' tk k => ⟨_, H, I.kept k, ?_, q⟩
  by_cases hj : j < i
  · rw [if_pos hj, if_pos hj]; exact ⟨_, rfl⟩
  · rw [if_neg hj, if_neg hj]; exact ⟨_, rfl⟩
theorem call_int1 : CallR X (.type "int") (fun xs H Q => (∃ i, xs = [.int i] ∧ Q (.int i) H) ∨ ∃ k, xs = [.bl k] ∧ Q (.int (if k then 1 else 0)) H) := by
  intro pins s σ H xs us Q I r h
  rcases h with ⟨i, rfl, q⟩ | ⟨k, rfl, q⟩
  · obtain ⟨u, rfl, t, rfl⟩ := vals1 r
    exact call_int_int ⟨.int i, H, I, ⟨_, rfl⟩, q⟩
  · obtain ⟨u, rfl, r1⟩ := vals1 r
    cases r1
    exact call_int_bool ⟨.int (if k then 1 else 0), H, I.tok _, ⟨_, rfl⟩, q⟩
def LenV (K : PySem.W.Frag) (x : V) (H : Hp) (n : Nat) : Prop :=
  match x with
  | .str y => y.length ≤ sizeLine ∧ n = y.length
  | .byt y => y.size ≤ sizeLine ∧ n = y.size
  | .ref p => (∃ xs, SqL K H p xs ∧ n = xs.length) ∨ ∃ xs, SqT K H p xs ∧ n = xs.length
  | _ => False
theorem call_len : CallR X (.builtin "len") (fun xs H Q => ∃ x n, xs = [x] ∧ LenV X.K x H n ∧ Q (.int n) H) := by
  intro pins s σ H xs us Q I r h
  obtain ⟨x, n, rfl, e, q⟩ := h
  obtain ⟨u, rfl, rx⟩ := vals1 r
  have hl := line63
  have hs : sizeLine = 16777216 := sizeLine_eq
  cases x with
  | str y =>
    obtain ⟨t, rfl⟩ := rx
    obtain ⟨hy, e'⟩ : y.length ≤ sizeLine ∧ n = y.length := e
    subst e'
    exact len_str (by omega) ⟨.int _, H, I.tok _, ⟨_, rfl⟩, q⟩
  | byt y =>
    obtain ⟨t, rfl⟩ := rx
    obtain ⟨hy, e'⟩ : y.size ≤ sizeLine ∧ n = y.size := e
    subst e'
    exact PySem.W.len_bytes (by omega) ⟨.int _, H, I.tok _, ⟨_, rfl⟩, q⟩
  | ref p =>
    cases rx
    have e' : (∃ xs, SqL X.K H p xs ∧ n = xs.length) ∨ ∃ xs, SqT X.K H p xs ∧ n = xs.length := e
    rcases e' with ⟨xs, hx, e'⟩ | ⟨xs, hx, e'⟩
    · subst e'
      obtain ⟨its, r', pl, hz⟩ := I.list hx
      have hlen := r'.length
      exact Calls.call_len_list pl.isList (by simp only [List.size_toArray]; omega) ⟨.int xs.length, H, I.tok _, ⟨_, by simp only [List.size_toArray]; rw [hlen]⟩, q⟩
    · subst e'
      obtain ⟨its, r', pl, hz⟩ := I.tuple hx
      have hlen := r'.length
      exact len_tuple pl (by simp only [List.size_toArray]; omega) ⟨.int xs.length, H, I.tok _, ⟨_, by simp only [List.size_toArray]; rw [hlen]⟩, q⟩
  | _ => exact (show False from e).elim
theorem call_divmod : CallR X (.builtin "divmod") (fun xs H Q => ∃ i j, xs = [.int i, .int j] ∧ CDiv i j ∧ ∀ p, H p = none → Q (.ref p) (upd H p (.tup [.int (i / j), .int (i % j)]))) := by
  intro pins s σ H xs us Q I r h
  obtain ⟨i, j, rfl, ⟨h1, h2⟩, q⟩ := h
  obtain ⟨u, w', rfl, ⟨t, rfl⟩, ⟨t', rfl⟩⟩ := vals2 r
  refine divmod_int (by omega) ?_ (.inl (PyProof.noPylong_small (by omega)))
  rw [Int.fdiv_eq_ediv_of_nonneg i (by omega), Int.fmod_eq_emod_of_nonneg i (by omega)]
  have hn : H s.heap.objs.size = none := I.hok.fresh (Nat.le_refl _)
  refine ⟨.ref s.heap.objs.size, _, ?_, rfl, q _ hn⟩
  refine I.laid (fun b o e => Heap.get?_push_of_some _ e) (Nat.le_refl _) ⟨by simp only [List.length_cons, List.length_nil]; rw [sizeLine_eq]; decide, [.int (i / j) s.toks, .int (i % j) (s.toks + 1)], .cons ⟨_, rfl⟩ (.cons ⟨_, rfl⟩ .nil), ?_⟩
  exact ⟨_, Heap.get?_push_size s.heap rfl, rfl, 0, rfl⟩
end
end L2
namespace L2
open PySem PySem.Spec PyProof.Rows
structure ObjM (h : Heap) (x dx C : Addr) (mA : Str → Option Value) : Prop where
  obj : h.get? x = some (PySem.W.instObj C dx)
  ns : h.Ns1 dx mA
  ne : dx ≠ x
theorem lookIn_ns {h : Heap} {dx : Addr} {mA : Str → Option Value} (n : h.Ns1 dx mA) : ∃ od, h.get? dx = some od ∧ ∀ name, PySem.W.lookIn name od = some (mA name) := by
  obtain ⟨o, es, ep, ho, hd, hk, _, hm⟩ := n
  refine ⟨o, ho, fun name => ?_⟩
  have e := hm name
  unfold nsFind findBy at e
  rw [← Array.find?_toList] at e
  unfold PySem.W.lookIn
  rw [hd]
  dsimp only
  split
  · rename_i y q
    rw [q] at e
    exact congrArg some e
  · rename_i q
    rw [q] at e
    have a : es.toList.any (·.refKey) = false := by
      rw [List.any_eq_false]
      intro y hy
      obtain ⟨z, t, hkey⟩ := hk y (Array.mem_toList_iff.mp hy)
      simp [DictEntry.refKey, hkey]
    have a' : ¬ es.toList.any (·.refKey) = true := by rw [a]; exact Bool.false_ne_true
    rw [if_neg a']
    exact congrArg some e
theorem ObjM.look {h : Heap} {x dx C : Addr} {mA : Str → Option Value} (I : ObjM h x dx C mA) : ∃ od, PySem.W.InstAt h x (PySem.W.instObj C dx) C (some od) ∧ ∀ name, PySem.W.lookIn name od = some (mA name) :=
  let ⟨od, ho, hl⟩ := lookIn_ns I.ns
  ⟨od, ⟨I.obj, rfl, rfl, ho⟩, hl⟩
section
variable {prog : Program} {w : World} {A : Around} {E : Value → Shared → Prop} {s : Shared} {K : PySem.W.Frag} {x dx C f : Addr} {mA : Str → Option Value} {name : Str} {v : Value}
end
theorem RelO.some_of {v : V} {o : Option Value} (r : RelO (some v) o) : ∃ u, o = some u ∧ RelV v u := by
  cases o with
  | none => exact (show False from r).elim
  | some u => exact ⟨u, rfl, r⟩
section
variable {P : Program} {w : World} {H H' : Hp} {h h' : Heap} {a C dx : Addr} {fs fs' : List (Str × V)}
theorem ins_get (hok : HOk P w H h) (e : H a = some (.ins C dx fs)) : ∃ mA, ObjM h a dx C mA ∧ (∀ f, RelO (fs.lookup f) (mA f)) ∧ PySem.Within mA (fs.map (·.1)) ∧ fs.length ≤ 1000 ∧ H dx = some (.own a) := by
  obtain ⟨d, z, ne, ob, mA, n, r, q⟩ := (show ObjOk P w H h a (.ins C dx fs) from hok a _ e)
  exact ⟨mA, ⟨ob, n, ne⟩, r, q, z, d⟩
end
structure Cls (K : PySem.W.Frag) (C : Addr) : Prop where
  pg : PySem.W.plainGet K C Str.empty = true
  hd : PySem.W.hasDictIn K C = true
  po : PySem.W.plainOver K C = true
  sa : PySem.W.findIn K (.ref C) "__setattr__" = some (some (.builtin "object.__setattr__"))
theorem Cls.get {K : PySem.W.Frag} {C : Addr} (c : Cls K C) (f : Str) : PySem.W.plainGet K C f = true := c.pg
section
variable {X : Cx} {pins : List (Addr × Obj)} {σ : St} {H : Hp} {s : Shared} {a C dx : Addr} {fs : List (Str × V)} {f : Str} {v : V} {A : Around} {E : Value → Shared → Prop}
end
section
variable {X : Cx} {o e value : Expr} {f : Str} {pos pos' tpos : Pos} {ta tv : TE}
end
section
variable {X : Cx} {pins : List (Addr × Obj)} {σ : St} {H : Hp} {s : Shared} {A : Around} {E : Value → Shared → Prop} {Q : Value → Shared → Prop} {c : Value} {b : Bool}
inductive TyOf (K : PySem.W.Frag) (H : Hp) : V → Value → Prop where
  | non : TyOf K H .non (.type "NoneType")
  | bl (x : Bool) : TyOf K H (.bl x) (.type "bool")
  | int (i : Int) : TyOf K H (.int i) (.type "int")
  | str (x : Str) : TyOf K H (.str x) (.type "str")
  | flt (x : UInt64) : TyOf K H (.flt x) (.type "float")
  | lst {a : Addr} {xs : List V} (e : H a = some (.lst xs)) : TyOf K H (.ref a) (.type "list")
  | frz {a : Addr} {o : Obj} {xs : List V} (e : H a = some (.frz o (.lst xs))) : TyOf K H (.ref a) (.type "list")
  | tup {a : Addr} {xs : List V} (e : H a = some (.tup xs)) : TyOf K H (.ref a) (.type "tuple")
  | dK {a : Addr} {kvs : List (Key × V)} (e : H a = some (.dK kvs)) : TyOf K H (.ref a) (.type "dict")
  | dT {a : Addr} {kvs : List (List Key × V)} (e : H a = some (.dT kvs)) : TyOf K H (.ref a) (.type "dict")
  | ins {a C dx : Addr} {fs : List (Str × V)} (e : H a = some (.ins C dx fs)) (cl : Cls K C) (ha : PySem.W.findIn K (.ref C) "__class__" = some (some (.builtin "object.__class__")))
      (hn : PySem.W.specialIn K (.builtin "object.__class__") "__get__" = some (some (.builtin "getset_descriptor.__get__"))) (htk : PySem.W.takesIn K (.builtin "object.__class__") = some true)
      (hm : PySem.W.mroIn K C (.type "object") = some true) : TyOf K H (.ref a) (.ref C)
theorem isinst_ok {x : V} {u t : Value} (I : Inv X pins σ H s) (rx : RelV x u) (ty : TyOf X.K H x t) (e : PySem.W.kitOne X.K t c = some b) (h : ∀ tk, Q (.bool b) { s with toks := tk }) :
    wpAny (model X.prog X.w) A (call (.builtin "isinstance") [u, c]) Q E s := by
  cases ty with
  | non => cases (show u = Value.none from rx); exact PySem.W.kia_one PySem.W.kitx_none I.kIn True.intro e (fun z => nomatch z) h
  | bl y => cases (show u = Value.bool y from rx); exact PySem.W.kia_one PySem.W.kitx_bool I.kIn True.intro e (fun z => nomatch z) h
  | int i => obtain ⟨t, q⟩ := (show ∃ t, u = Value.int i t from rx); cases q; exact PySem.W.kia_one PySem.W.kitx_int I.kIn True.intro e (fun z => nomatch z) h
  | str y => obtain ⟨t, q⟩ := (show ∃ t, u = Value.str y t from rx); cases q; exact PySem.W.kia_one PySem.W.kitx_str I.kIn True.intro e (fun z => nomatch z) h
  | flt y => obtain ⟨t, q⟩ := (show ∃ t, u = Value.float y t from rx); cases q; exact PySem.W.kia_one PySem.W.kitx_float I.kIn True.intro e (fun z => nomatch z) h
  | @lst a xs ea =>
    cases (show u = Value.ref a from rx)
    obtain ⟨_, _, n, _, h1⟩ := (show ObjOk X.prog X.w H s.heap a (.lst xs) from I.hok a _ ea)
    exact PySem.W.kia_one PySem.W.kitx_list I.kIn ⟨_, h1, rfl⟩ e (fun z => nomatch z) h
  | @frz a ob xs ea =>
    cases (show u = Value.ref a from rx)
    obtain ⟨_, _, _, n, _, h1⟩ := (show ObjOk X.prog X.w H s.heap a (.frz ob (.lst xs)) from I.hok a _ ea)
    exact PySem.W.kia_one PySem.W.kitx_list I.kIn ⟨_, h1, rfl⟩ e (fun z => nomatch z) h
  | @tup a xs ea =>
    cases (show u = Value.ref a from rx)
    obtain ⟨_, _, _, p⟩ := (show ObjOk X.prog X.w H s.heap a (.tup xs) from I.hok a _ ea)
    obtain ⟨o, h1, h2, _⟩ := p
    exact PySem.W.kia_one PySem.W.kitx_tuple I.kIn ⟨o, h1, h2⟩ e (fun z => nomatch z) h
  | @dK a kvs ea =>
    cases (show u = Value.ref a from rx)
    obtain ⟨_, _, vs, _, p⟩ := (show ObjOk X.prog X.w H s.heap a (.dK kvs) from I.hok a _ ea)
    obtain ⟨o, es, ep, h1, h2, _⟩ := p
    exact PySem.W.kia_one PySem.W.kitx_dict I.kIn ⟨o, h1, h2.1⟩ e (fun z => nomatch z) h
  | @dT a kvs ea =>
    cases (show u = Value.ref a from rx)
    obtain ⟨_, _, xs, _, o, es, ep, h1, h2, _⟩ := (show ObjOk X.prog X.w H s.heap a (.dT kvs) from I.hok a _ ea)
    exact PySem.W.kia_one PySem.W.kitx_dict I.kIn ⟨o, h1, h2.1⟩ e (fun z => nomatch z) h
  | @ins a C dx fs ea cl ha hn htk hm =>
    cases (show u = Value.ref a from rx)
    obtain ⟨mA, O, _⟩ := ins_get I.hok ea
    obtain ⟨od, J, _⟩ := O.look
    exact PySem.W.kia_one (PySem.W.kitx_own (cl.get _) cl.hd ha hn htk hm) I.kIn J e (fun z => nomatch z) h
end
end L2
namespace L2
open PySem PySem.Spec PyProof.Rows
structure Room (k : Nat) (A : Around) : Prop where
  hd : A.handled = none
  dp : A.depth + 3 * k + 5 < recursionLimit
  un : A.units + 16 * k + 200 < cLine
  gd : A.guards = some []
theorem Room.mono {j k : Nat} {A : Around} (r : Room k A) (h : j ≤ k) : Room j A := ⟨r.hd, by have := r.dp; omega, by have := r.un; omega, r.gd⟩
theorem Room.deeper {k : Nat} {A : Around} (r : Room (k + 1) A) (env : Env) : Room k (A.deeper env) :=
  ⟨r.hd, by have := r.dp; show A.depth + 1 + 3 * k + 5 < _; omega, by have := r.un; show A.units + 3 + 16 * k + 200 < _; omega, r.gd⟩
theorem Room.depth {k : Nat} {A : Around} (r : Room k A) : A.depth < recursionLimit := by have := r.dp; omega
theorem Room.units {k : Nat} {A : Around} (r : Room k A) : A.units + 64 < cLine := by have := r.un; omega
def tNil : TA := fun _ H Q => Q [] H
def tCons (ta : TE) (tr : TA) : TA := fun σ H Q => ta σ H fun x H1 => tr σ H1 fun xs H2 => Q (x :: xs) H2
section
variable {X : Cx} {e : Expr} {es : List Expr} {te : TE} {t : TA} {pos : Pos}
theorem pa_nil : PA X [] tNil := fun _ _ _ _ H Q I h => Calls.spliced_nil ⟨[], H, I, .nil, h⟩
theorem pa_cons (ha : PE X e te) (hr : PA X es t) (hs : starEach (e :: es) X.env = (false, eval e X.env) :: starEach es X.env := by rfl) : PA X (e :: es) (tCons te t) := by
  intro pos pins s σ H Q I h
  rw [hs]
  show wpAny _ _ (spliced ((false, eval e X.env) :: backTo pos (starEach es X.env))) _ _ s
  refine Calls.spliced_cons (thn (ha pins s σ H _ I h) fun u s1 ⟨x, H1, I1, r1, q1⟩ => ?_)
  exact thn (hr pos pins s1 σ H1 _ I1 q1) fun us s2 ⟨xs, H2, I2, r2, q2⟩ => ⟨x :: xs, H2, I2, .cons r1 r2, q2⟩
def tTup (t : TA) : TE := fun σ H Q => t σ H fun xs H1 => xs.length ≤ sizeLine ∧ ∀ p, H1 p = none → Q (.ref p) (upd H1 p (.tup xs))
def tLst (t : TA) : TE := fun σ H Q => t σ H fun xs H1 => xs.length ≤ sizeLine ∧ ∀ p, H1 p = none → Q (.ref p) (upd H1 p (.lst xs))
theorem pe_tup {x1} (h : PA X es t) : PE X (.Tuple es x1 pos) (tTup t) := by
  intro pins s σ H Q I hq
  refine wpAny_Tuple_spliced (thn (h pos pins s σ H _ I hq) fun us s1 ⟨xs, H1, I1, r, z, q⟩ => ⟨by rw [← r.length]; exact z, ?_⟩)
  have hf : H1 s1.heap.objs.size = none := I1.hok.fresh (Nat.le_refl _)
  refine ⟨.ref s1.heap.objs.size, upd H1 s1.heap.objs.size (.tup xs), I1.laid (t' := s1.toks) (fun b u e => Heap.get?_push_of_some _ e) (Nat.le_refl _) ?_, rfl, q _ hf⟩
  exact ⟨z, us, r, ⟨_, Heap.get?_push_size _ rfl, rfl, _, rfl⟩⟩
theorem pe_lst (h : PA X es t) : PE X (.List es pos) (tLst t) := by
  intro pins s σ H Q I hq
  refine wpAny_List_spliced (thn (h pos pins s σ H _ I hq) fun us s1 ⟨xs, H1, I1, r, z, q⟩ => ⟨by rw [← r.length]; exact z, ?_⟩)
  have hf : H1 s1.heap.objs.size = none := I1.hok.fresh (Nat.le_refl _)
  refine ⟨.ref s1.heap.objs.size, upd H1 s1.heap.objs.size (.lst xs), I1.laid (t' := s1.toks) (fun b u e => Heap.get?_push_of_some _ e) (Nat.le_refl _) ?_, rfl, q _ hf⟩
  exact ⟨z, us, 0, r, Heap.get?_push_size _ rfl⟩
end
abbrev Sp := List V → Hp → VK → XK → Prop
abbrev CXT := List Env → Hp → Shared → XK → Value → Shared → Prop
structure Env0 (P : Program) (w : World) (K : PySem.W.Frag) (mg : Str → Option Value) (base : Heap) (A : Around) (outer : List Env) (s : Shared) (H : Hp) : Prop where
  frames : A.frames = some outer
  mod : Mod K mg base
  bs : ∀ b o, base.get? b = some o → s.heap.get? b = some o ∧ H b = none
  bsz : base.objs.size ≤ s.heap.objs.size
  funs : s.heap.FunFrames base outer
  frf : ∀ b ∈ frs outer, H b = none
  hok : HOk P w H s.heap
  bare : AllBare s.gens
def CE (outer : List Env) (P : Program) (w : World) (H : Hp) (s : Shared) (Q : VK) (u : Value) (s' : Shared) : Prop :=
  ∃ v H', s'.os = s.os ∧ AllBare s'.gens ∧ Un (frs outer) [] H H' s.heap s'.heap ∧ HOk P w H' s'.heap ∧ RelV v u ∧ Q v H'
def CR (CX : CXT) (outer : List Env) (P : Program) (w : World) (H : Hp) (s : Shared) (Q : VK) (E : XK) (r : Result) (s' : Shared) : Prop :=
  match r with
  | .ok (.ret u) => CE outer P w H s Q u s'
  | .ok _ => False
  | .error e => CX outer H s E e s'
structure FnOk (P : Program) (w : World) (K : PySem.W.Frag) (mg : Str → Option Value) (base : Heap) (CX : CXT) (k : Nat) (f : Addr) (fd : FuncData) (ps : List Str) (sp : Sp) : Prop where
  len : ∀ vs H Q E, sp vs H Q E → vs.length = ps.length
  run : ∀ (A : Around) (outer : List Env) (s : Shared) (H : Hp) (args : Args) (us : List Value) (vs : List V) (Q : VK) (E : XK), Room k A → Env0 P w K mg base A outer s H → BindsTo s fd args (ps.zip us) → Vals vs us → sp vs H Q E →
    codeAny (model P w) A (.call (.ref f) args) (CR CX outer P w H s Q E) s
theorem FnOk.imp {P : Program} {w : World} {K : PySem.W.Frag} {mg : Str → Option Value} {base : Heap} {CX : CXT} {k : Nat} {f : Addr} {fd : FuncData} {ps : List Str} {sp sp' : Sp} (F : FnOk P w K mg base CX k f fd ps sp)
    (h : ∀ vs H Q E, sp' vs H Q E → sp vs H Q E) : FnOk P w K mg base CX k f fd ps sp' :=
  ⟨fun vs H Q E q => F.len vs H Q E (h _ _ _ _ q), fun A outer s H args us vs Q E hr he hb hv hs => F.run A outer s H args us vs Q E hr he hb hv (h _ _ _ _ hs)⟩
section
variable {X : Cx} {pins : List (Addr × Obj)} {σ : St} {H : Hp} {s s' : Shared}
theorem Inv.env0 (I : Inv X pins σ H s) : Env0 X.prog X.w X.K X.mg X.base X.A X.stack s H :=
  ⟨I.ok.frames, I.ok.mod, I.bs, Nat.le_trans I.ok.bsz I.sz, I.stack, I.stkFree, I.hok, I.bare⟩
theorem Inv.after {Q : VK} {u : Value} (I : Inv X pins σ H s) (h : CE X.stack X.prog X.w H s Q u s') : EP X pins σ Q u s' := by
  obtain ⟨v, H', os, bare, un, hok, r, q⟩ := h
  obtain ⟨hh, g, d, t, os'⟩ := s'
  obtain rfl : os' = s.os := os
  exact ⟨v, H', I.call (h' := hh) (g' := g) (d' := d) (t' := t) (ch := []) un hok bare (fun b z => absurd z (by simp)), r, q⟩
end
def tCall (sp : Sp) (dvs : List V) (E : XK) (t : TA) : TE := fun σ H Q => t σ H fun vs H1 => sp (vs ++ dvs) H1 Q E
def Binds (K : PySem.W.Frag) (fd : FuncData) (ps : List Str) (ds : List Value) : Prop :=
  ∀ (s : Shared) (us : List Value), K.In s.heap → (us ++ ds).length = ps.length → BindsTo s fd ⟨us, []⟩ (ps.zip (us ++ ds))
theorem Binds.all {K : PySem.W.Frag} {fd : FuncData} {ps : List Str} (h : ∀ us : List Value, us.length = ps.length → bindArgs fd ⟨us, []⟩ = pure (ps.zip us)) : Binds K fd ps [] := fun s us _ hl => by
  rw [List.append_nil] at hl ⊢
  exact .of_eq (h us hl)
def Passes (CX : CXT) (X : Cx) (E : XK) : Prop := ∀ (pins : List (Addr × Obj)) (σ : St) (H : Hp) (s : Shared) (e : Value) (s' : Shared), Inv X pins σ H s → CX X.stack H s E e s' → X.xe e s'
section
variable {X : Cx} {CX : CXT} {k : Nat} {f C : Addr} {fd : FuncData} {ps : List Str} {sp : Sp} {dvs : List V} {ds : List Value} {E : XK} {x m : Str} {p pos apos : Pos} {e o : Expr} {es : List Expr} {ta : TE} {t : TA}
theorem run_fn {pins : List (Addr × Obj)} {σ : St} {H : Hp} {s : Shared} {Q : VK} {us : List Value} {vs : List V} (F : FnOk X.prog X.w X.K X.mg X.base CX k f fd ps sp) (hr : Room k X.A) (hb : Binds X.K fd ps ds) (hd : Vals dvs ds) (hx : Passes CX X E)
    (I : Inv X pins σ H s) (r : Vals vs us) (h : sp (vs ++ dvs) H Q E) : wpAny (model X.prog X.w) X.A (call (.ref f) us) (EP X pins σ Q) X.xe s := by
  have r2 : Vals (vs ++ dvs) (us ++ ds) := r.append hd
  have hl : (us ++ ds).length = ps.length := by rw [← r2.length]; exact F.len _ _ _ _ h
  refine wpAny_call (codeAny_mono (F.run X.A X.stack s H ⟨us, []⟩ (us ++ ds) (vs ++ dvs) Q E hr I.env0 (hb s us I.kIn hl) r2 h) fun r s' hq => ?_)
  cases r with
  | error e => exact hx pins σ H s e s' I hq
  | ok fl =>
    cases fl with
    | ret u => exact I.after hq
    | next => exact False.elim hq
    | brk => exact False.elim hq
    | cont => exact False.elim hq
theorem pe_call (F : FnOk X.prog X.w X.K X.mg X.base CX k f fd ps sp) (hr : Room k X.A) (hg : Gl X x) (hm : X.mg x = some (.ref f)) (hk : PySem.W.keepIn X.K (.ref f) = true) (hb : Binds X.K fd ps ds) (hd : Vals dvs ds) (hx : Passes CX X E)
    (ha : PA X (e :: es) t) (hdb : (x == ("__debug__" : Str)) = false := by decide) (he : starEach (e :: es) X.env = (false, eval e X.env) :: starEach es X.env := by rfl) (hpl : (backTo pos (starEach es X.env)).any (·.1) = false := by rfl) :
    PE X (.Call (.Name x p) (e :: es) [] pos) (tCall sp dvs E t) := by
  intro pins s σ H Q I h
  refine wpAny_Call_Name_kw (ld_glob I hg hm ?_ hdb)
  refine PySem.W.callWith_K (h₀ := X.base) I.ok.mod.kin hk (thn (ha pos pins s σ H _ I h) fun us s1 ⟨vs, H1, I1, r, q⟩ => ⟨I1.kIn, ?_⟩) he hpl
  exact run_fn F hr hb hd hx I1 r q
end
section
variable {X : Cx} {CX : CXT} {k : Nat} {f C : Addr} {fd : FuncData} {ps ks : List Str} {sp : Sp} {E : XK} {x m : Str} {p pos apos kpos : Pos} {e o : Expr} {es : List Expr} {kws : List Keyword} {te ta : TE} {t tk : TA} {nm : Option Str}
variable {g : List Value → List Value → List Value} {gV : List V → List V → List V}
end
structure FnScope (N P : List Str) (sc : Scope) : Prop where
  kind : sc.kind = .function
  co : sc.isCoroutine = false
  gen : sc.isGenerator = false
  nd : N.Nodup
  pre : N.take P.length = P
  par : ∀ x ∈ P, sc.names.lookup x = some .local ∨ sc.names.lookup x = some .cell
  nofree : ∀ y ∈ sc.names, y.2 ≠ .free
theorem bindL_out {kindOf : Str → Option NameKind} {x : Str} : ∀ {binds : List (Str × Value)} {m : Str → Option Value}, (∀ v, (x, v) ∉ binds) → bindL kindOf binds m x = m x
  | [], _, _ => rfl
  | (n, v) :: r, m, h => by
    unfold bindL
    rw [bindL_out fun w hw => h w (List.mem_cons_of_mem _ hw)]
    split
    · have : x ≠ n := by rintro rfl; exact h v List.mem_cons_self
      simp [this]
    · rfl
theorem bindC_out {kindOf : Str → Option NameKind} {x : Str} : ∀ {binds : List (Str × Value)} {m : Str → Option Value}, (∀ v, (x, v) ∉ binds) → bindC kindOf binds m x = m x
  | [], _, _ => rfl
  | (n, v) :: r, m, h => by
    unfold bindC
    rw [bindC_out fun w hw => h w (List.mem_cons_of_mem _ hw)]
    split
    · rfl
    · have : x ≠ n := by rintro rfl; exact h v List.mem_cons_self
      simp [this]
theorem bindL_get {kindOf : Str → Option NameKind} {x : Str} {v : Value} : ∀ {P : List Str} {vs : List Value} {i : Nat} {m : Str → Option Value}, P.Nodup → P[i]? = some x → vs[i]? = some v → kindOf x = some .local →
    bindL kindOf (P.zip vs) m x = some v
  | [], _, _, _, _, h, _, _ => by simp at h
  | _ :: _, [], _, _, _, _, h, _ => by simp at h
  | p :: P, w :: vs, 0, m, nd, h1, h2, hk => by
    simp at h1 h2; subst h1; subst h2
    show bindL kindOf ((p, w) :: P.zip vs) m p = _
    unfold bindL
    rw [bindL_out fun v hv => (List.nodup_cons.mp nd).1 (List.of_mem_zip hv).1, if_pos hk]
    simp
  | p :: P, w :: vs, i + 1, m, nd, h1, h2, hk => by
    show bindL kindOf ((p, w) :: P.zip vs) m x = _
    unfold bindL
    exact bindL_get (i := i) (List.nodup_cons.mp nd).2 (by simpa using h1) (by simpa using h2) hk
theorem bindC_get {kindOf : Str → Option NameKind} {x : Str} {v : Value} : ∀ {P : List Str} {vs : List Value} {i : Nat} {m : Str → Option Value}, P.Nodup → P[i]? = some x → vs[i]? = some v → kindOf x ≠ some .local →
    bindC kindOf (P.zip vs) m x = some v
  | [], _, _, _, _, h, _, _ => by simp at h
  | _ :: _, [], _, _, _, _, h, _ => by simp at h
  | p :: P, w :: vs, 0, m, nd, h1, h2, hk => by
    simp at h1 h2; subst h1; subst h2
    show bindC kindOf ((p, w) :: P.zip vs) m p = _
    unfold bindC
    rw [bindC_out fun v hv => (List.nodup_cons.mp nd).1 (List.of_mem_zip hv).1, if_neg hk]
    simp
  | p :: P, w :: vs, i + 1, m, nd, h1, h2, hk => by
    show bindC kindOf ((p, w) :: P.zip vs) m x = _
    unfold bindC
    exact bindC_get (i := i) (List.nodup_cons.mp nd).2 (by simpa using h1) (by simpa using h2) hk
def start (N : List Str) (vs : List V) : St := vs.map some ++ List.replicate (N.length - vs.length) none
def cxOf (CX : CXT) (P : Program) (w : World) (K : PySem.W.Frag) (mg : Str → Option Value) (base : Heap) (N : List Str) (qual : Str) (scope : Scope) (f : Addr) (cd : Value) (A : Around) (outer : List Env) (s : Shared) (H : Hp) (E : XK) : Cx where
  prog := P
  w := w
  K := K
  mg := mg
  base := base
  A := A.deeper (envOfC qual scope s.heap.objs.size f cd)
  N := N
  s₀ := s
  H₀ := H
  env := envOfC qual scope s.heap.objs.size f cd
  outer := outer
  stack := envOfC qual scope s.heap.objs.size f cd :: outer
  ex := []
  calm := true
  fn := fun _ => true
  pn := []
  xe := fun e s' => wpAny (model P w) (A.deeper (envOfC qual scope s.heap.objs.size f cd)) (leaving (envOfC qual scope s.heap.objs.size f cd) e) (fun _ s'' => CX outer H s E e s'') (fun e' s'' => CX outer H s E e' s'') s'
theorem cell_has {sc : Scope} {n : Nat} {x : Str} (h : sc.names.lookup x = some .cell) : ∃ c, (cellsFrom n sc.names []).lookup x = some c := by
  have q := PySem.W.cellsFrom_some sc.names n [] (.inl h)
  exact Option.isSome_iff_exists.mp q
theorem inv_start {CX : CXT} {P : Program} {w : World} {K : PySem.W.Frag} {mg : Str → Option Value} {base : Heap} {N ps : List Str} {qual : Str} {scope : Scope} {f : Addr} {cd : Value} {A : Around} {outer : List Env} {s s1 : Shared} {H : Hp} {E : XK} {us : List Value} {vs : List V}
    (S : FnScope N ps scope) (hd : A.handled = none) (e0 : Env0 P w K mg base A outer s H) (hl : vs.length = ps.length) (r : Vals vs us)
    (x : InCallC s s.heap.objs.size (bindL (envOfC qual scope s.heap.objs.size f cd).kindOf (ps.zip us) fun _ => none) (cellsFrom (s.heap.objs.size + 1) scope.names []) (bindC (envOfC qual scope s.heap.objs.size f cd).kindOf (ps.zip us) fun _ => none) s1) :
    Inv (cxOf CX P w K mg base N qual scope f cd A outer s H E) [] (start N vs) H s1 := by
  have hpl : ps.length ≤ N.length := by have := congrArg List.length S.pre; rw [List.length_take] at this; omega
  obtain ⟨h1, tk, rfl, hk⟩ := x.done
  have noA : ∀ b : Addr, b ∉ (cxOf CX P w K mg base N qual scope f cd A outer s H E).ex := fun b z => absurd (show b ∈ ([] : List Addr) from z) (by simp)
  refine ⟨⟨e0.mod, S.kind, rfl, rfl, Nat.le_refl _, fun y z c h1 h2 => ?_, fun y hy => ?_, fun y c _ h => ?_, fun _ => hd, Around.frames_deeper e0.frames, .inr ⟨rfl, rfl⟩, fun b z => absurd z (noA b), e0.bs, e0.bsz, fun b _ _ => noA b, fun b z => absurd z (noA b), e0.funs, e0.frf⟩,
    rfl, e0.bare, Un.kept hk, ⟨_, x.toInCall.ns, fun i y v h1 h2 h3 => ?_⟩, fun y c h => ⟨_, x.cell y c h⟩, e0.hok.fresh (Nat.le_refl _), fun y c h => ?_, fun p hp => absurd (show p ∈ ([] : List (Addr × Obj)) from hp) (by simp), e0.hok.kept hk, ?_⟩
  · exact name_of_addr x.apart (PySem.mem_of_lookup h1) (PySem.mem_of_lookup h2)
  · have hy : scope.names.lookup y = some .cell ∨ scope.names.lookup y = some .free := hy
    rcases hy with hy | hy
    · exact cell_has hy
    · exact absurd rfl (S.nofree _ (PySem.mem_of_lookup hy))
  · exact Nat.le_of_lt (x.above y c (PySem.mem_of_lookup h))
  · have hi : i < vs.length := by
      unfold start at h2
      by_cases hi : i < vs.length
      · exact hi
      · rw [List.getElem?_append_right (by simpa using hi)] at h2
        rw [List.getElem?_replicate] at h2
        split at h2 <;> cases h2
    have ha : vs[i]? = some v := by
      unfold start at h2
      rw [List.getElem?_append_left (by simpa using hi), List.getElem?_map] at h2
      cases e : vs[i]? with
      | none => rw [e] at h2; cases h2
      | some a => rw [e] at h2; cases h2; rfl
    obtain ⟨u, hu, rv⟩ := r.get ha
    have hp : ps[i]? = some y := by
      rw [← S.pre, List.getElem?_take_of_lt (by omega)]; exact h1
    have ndP : ps.Nodup := by rw [← S.pre]; exact S.nd.sublist (List.take_sublist _ _)
    refine ⟨u, rv, ?_⟩
    rcases S.par y (List.mem_of_getElem? hp) with k | k
    · exact .inl ⟨k, bindL_get ndP hp hu k⟩
    · obtain ⟨c, e⟩ := cell_has (n := s.heap.objs.size + 1) k
      refine .inr ⟨.inl k, c, e, ?_⟩
      have q := x.cell y c e
      rw [bindC_get ndP hp hu (by show scope.names.lookup y ≠ _; rw [k]; decide)] at q
      exact q
  · exact e0.hok.fresh (Nat.le_of_lt (x.above y c (PySem.mem_of_lookup h)))
  · unfold start
    show _ = N.length
    rw [List.length_append, List.length_map, List.length_replicate]
    omega
theorem fn_of {CX : CXT} {P : Program} {w : World} {K : PySem.W.Frag} {mg : Str → Option Value} {base : Heap} {k : Nat} {f : Addr} {name qual : Str} {params : Arguments} {body : List Stmt} {scope : Scope} {dV kV doc pm cdv ct oc : Value} {an od : Option Addr}
    {osl : Array (Option Value)} {N ps : List Str} {sp : Sp} (lk : K.lookup f = some ⟨oc, od, .func (PySem.W.fnOf name qual params body scope dV kV doc pm an cdv ct), osl⟩) (hcd : PySem.W.codeIn K cdv qual = true) (S : FnScope N ps scope)
    (len : ∀ vs H Q E, sp vs H Q E → vs.length = ps.length)
    (hbody : ∀ (A : Around) (outer : List Env) (s : Shared) (H : Hp) (vs : List V) (Q : VK) (E : XK), Room k (A.deeper (envOfC qual scope s.heap.objs.size f cdv)) → sp vs H Q E →
      ∃ t, PSs (cxOf CX P w K mg base N qual scope f cdv A outer s H E) body t ∧ t { nx := fun _ H' => Q .non H', rt := Q } (start N vs) H) :
    FnOk P w K mg base CX (k + 1) f (PySem.W.fnOf name qual params body scope dV kV doc pm an cdv ct) ps sp := by
  refine ⟨len, fun A outer s H args us vs Q E hr e0 hb r hsp => ?_⟩
  have hl := len _ _ _ _ hsp
  have KX : K.In s.heap := e0.mod.kin.keeps fun b o e => (e0.bs b o e).1
  have lim : s.heap.NoLimit := e0.mod.nolimit.keeps fun b o e => (e0.bs b o e).1
  have hkind : ∀ y ∈ ps.zip us, scope.names.lookup y.1 = some .local ∨ (scope.names.lookup y.1 = some .cell ∧ ((cellsFrom (s.heap.objs.size + 1) scope.names []).lookup y.1).isSome = true) := fun ⟨n, v⟩ hy => by
    rcases S.par n (List.of_mem_zip hy).1 with q | q
    · exact .inl q
    · exact .inr ⟨q, PySem.W.cellsFrom_some _ _ _ (.inl q)⟩
  refine codeAny_call_function hr.depth (KX _ _ lk) rfl S.co S.gen rfl (PySem.W.codeRec_of KX hcd) (hb _ _ _ _ ?_)
  refine wpAny_newFunctionEnv_cells S.kind hkind fun env he s1 x => ?_
  subst he
  refine ⟨lim.keeps x.toInCall.keep, codeAny_func ?_⟩
  obtain ⟨t, ht, hq⟩ := hbody A outer s H vs Q E (hr.deeper _) hsp
  have I : Inv (cxOf CX P w K mg base N qual scope f cdv A outer s H E) [] (start N vs) H s1 := inv_start S hr.hd e0 hl r x
  refine wpAny_mono (ht [] s1 (start N vs) H _ I hq) (fun fl s' hs => ?_) fun e s' hs => hs
  have fin : ∀ {σ' : St} {H' : Hp} {v : V} {u : Value}, Inv (cxOf CX P w K mg base N qual scope f cdv A outer s H E) [] σ' H' s' → RelV v u → Q v H' → CE outer P w H s Q u s' :=
    fun {σ' H' v u} J rv q => ⟨v, H', J.os, J.bare, J.base, J.hok, rv, q⟩
  cases fl with
  | ret u =>
    obtain ⟨v, σ', H', J, rv, q⟩ := hs
    exact fin J rv q
  | next =>
    obtain ⟨σ', H', J, q⟩ := hs
    exact fin (v := V.non) (u := Value.none) J rfl q
  | brk =>
    obtain ⟨_, _, _, q⟩ := hs
    exact False.elim q
  | cont =>
    obtain ⟨_, _, _, q⟩ := hs
    exact False.elim q
end L2
namespace L2
open PySem PySem.Spec PyProof.Rows
section
variable {X : Cx} {x : Str} {p pos : Pos} {e : Expr} {es : List Expr} {t : TA} {id T : String} {r : List V → Hp → VK → Prop}
def tCB (r : List V → Hp → VK → Prop) (t : TA) : TE := fun σ H Q => t σ H fun vs H1 => r vs H1 Q
theorem pe_callB (hc : CallR X (.builtin id) r) (hg : Gl X x) (hm : X.mg x = none) (hv : bootBuiltins x = some (.builtin id)) (ha : PA X (e :: es) t) (hn : x ≠ "__name__" := by decide) (hdb : (x == ("__debug__" : Str)) = false := by decide)
    (he : starEach (e :: es) X.env = (false, eval e X.env) :: starEach es X.env := by rfl) (hpl : (backTo pos (starEach es X.env)).any (·.1) = false := by rfl) : PE X (.Call (.Name x p) (e :: es) [] pos) (tCB r t) := by
  intro pins s σ H Q I h
  refine wpAny_Call_Name_kw (ld_blt I hg hm hv ?_ hn hdb)
  exact PyProof.Rows.callWith_builtin1 (thn (ha pos pins s σ H _ I h) fun us s1 ⟨vs, H1, I1, r1, q1⟩ => hc pins s1 σ H1 vs us Q I1 r1 q1) he hpl
theorem pe_callTy (hc : CallR X (.type T) r) (hg : Gl X x) (hm : X.mg x = none) (hv : bootBuiltins x = some (.type T)) (ha : PA X (e :: es) t) (hn : x ≠ "__name__" := by decide) (hdb : (x == ("__debug__" : Str)) = false := by decide)
    (he : starEach (e :: es) X.env = (false, eval e X.env) :: starEach es X.env := by rfl) (hpl : (backTo pos (starEach es X.env)).any (·.1) = false := by rfl) : PE X (.Call (.Name x p) (e :: es) [] pos) (tCB r t) := by
  intro pins s σ H Q I h
  refine wpAny_Call_Name_kw (ld_blt I hg hm hv ?_ hn hdb)
  exact PyProof.Rows.callWith_type1 (thn (ha pos pins s σ H _ I h) fun us s1 ⟨vs, H1, I1, r1, q1⟩ => hc pins s1 σ H1 vs us Q I1 r1 q1) he hpl
end
end L2
namespace HT
open PySem PyProof.Rows
section
open PySem.SeqAt
open PySem.AutoSeq1 (wpAny_loadPart')
open PySem.MeetsSeq PySem.MeetsSeq2 PySem.MeetsSeq3
end
section
variable {prog : Program} {w : World} {A : Around} {E : Value → Shared → Prop} {s : Shared}
theorem cat_tup {t b : Addr} {vs ws : List Value} {Q : Value → Shared → Prop} (ht : IsTup s.heap t vs.toArray) (hb : IsTup s.heap b ws.toArray) (hv : vs ≠ [])
    (h1 : ws = [] → Q (.ref t) s) (h2 : ws ≠ [] → Q (.ref s.heap.objs.size) { s with heap := s.heap.push { cls := .type "tuple", data := .seq (vs ++ ws).toArray } })
    (hsz : vs.length + ws.length ≤ sizeLine) : wpAny (model prog w) A (binaryOp .Add (.ref t) (.ref b)) Q E s := by
  obtain ⟨⟨cls, dd, data, sl⟩, ho, hc, n, hd⟩ := id ht
  obtain ⟨⟨cls2, dd2, data2, sl2⟩, ho2, hc2, n2, hd2⟩ := id hb
  simp only at hc hd hc2 hd2
  subst hc hd hc2 hd2
  have e : vs.toArray ++ ws.toArray = (vs ++ ws).toArray := by simp
  by_cases hw : ws = []
  · exact concat_meets ⟨_, ho, rfl⟩ ⟨_, ho2, rfl⟩ noFill_tuple_add seq_tuple_add PySem.F.slot_tuple_add PySem.F.entry_tuple_add (PySem.F.args_tuple_add_2 _ _)
      (tuple_addW1 t b vs.toArray ws.toArray n n2 dd dd2 sl sl2 (by simpa using hv) (by simp [hw])) ⟨ho, ho2, h1 hw⟩
  · refine concat_meets ⟨_, ho, rfl⟩ ⟨_, ho2, rfl⟩ noFill_tuple_add seq_tuple_add PySem.F.slot_tuple_add PySem.F.entry_tuple_add (PySem.F.args_tuple_add_2 _ _)
      (tuple_addW2 t b vs.toArray ws.toArray n n2 dd dd2 sl sl2 (by simpa using hv) (by simpa using hw) (by rw [List.size_toArray, List.size_toArray]; exact hsz)) ⟨ho, ho2, ?_⟩
    rw [e]
    exact h2 hw
def sIx (n d : Nat) : Option Int → Nat
  | none => d
  | some v => if v < 0 then (v + (n : Int)).toNat else min v.toNat n
theorem sIx_le (n d : Nat) (hd : d ≤ n) (o : Option Int) : sIx n d o ≤ n := by
  cases o with
  | none => exact hd
  | some v =>
    show (if v < 0 then (v + (n : Int)).toNat else min v.toNat n) ≤ n
    by_cases hv : v < 0
    · rw [if_pos hv]; omega
    · rw [if_neg hv]; exact Nat.min_le_right _ _
theorem clip_eq (v : Int) (n d : Nat) : (if v < 0 then max (v + (n : Int)) 0 else min v (n : Int)) = ((sIx n d (some v) : Nat) : Int) := by
  show (if v < 0 then max (v + (n : Int)) 0 else min v (n : Int)) = (((if v < 0 then (v + (n : Int)).toNat else min v.toNat n) : Nat) : Int)
  by_cases hv : v < 0
  · simp only [if_pos hv]; omega
  · simp only [if_neg hv]; omega
theorem adjust_gen (lo hi : Option Int) (n : Nat) : Builtin.Slice.sliceAdjust lo hi 1 (n : Int) = (((sIx n 0 lo : Nat) : Int), ((sIx n n hi : Nat) : Int)) := by
  have h1 : ¬ ((1 : Int) < 0) := by omega
  unfold Builtin.Slice.sliceAdjust
  simp only [h1, if_false]
  refine Prod.ext ?_ ?_
  · cases lo with
    | none => rfl
    | some v => exact clip_eq v n 0
  · cases hi with
    | none => rfl
    | some v => exact clip_eq v n n
theorem places_gen (i j : Nat) : Builtin.Slice.slicePlaces (i : Int) (j : Int) 1 = j - i := by
  unfold Builtin.Slice.slicePlaces
  have h1 : (1 : Int) > 0 := by omega
  simp only [h1, if_true, Int.ediv_one]
  split <;> omega
theorem slicePart_ {v : Value} {o : Option Int} {Q : Option Int → Shared → Prop} (p : IsPart v o) (h : Q o s) : wpAny (model prog w) A (Builtin.Slice.slicePartIndex v) Q E s := by
  cases p with
  | none => exact slicePart_none h
  | int i t => exact slicePart_int h
theorem sliceApplied_gen {sl : Addr} {vl vu : Value} {lo hi : Option Int} {n : Nat} {Q : Int × Int × Nat → Shared → Prop} (hs : s.heap.IsSliceOf sl vl vu .none) (pl : IsPart vl lo) (pu : IsPart vu hi)
    (h : Q (((sIx n 0 lo : Nat) : Int), 1, sIx n n hi - sIx n 0 lo) s) : wpAny (model prog w) A (Builtin.Slice.sliceApplied (.ref sl) (pure (n : Int))) Q E s := by
  obtain ⟨os, hos, hcs, hds⟩ := id hs
  unfold Builtin.Slice.sliceApplied Builtin.Slice.sliceFields
  refine wpAny_bind (wpAny_bind (wpAny_field hos hds (x := vl) rfl (wpAny_bind (wpAny_field hos hds (x := vu) rfl (wpAny_bind (wpAny_field hos hds (x := .none) rfl (wpAny_pure ?_)))))))
  refine wpAny_bind (slicePart_none ?_)
  show wpAny _ _ (if ((1 : Int) == 0) = true then _ else _) _ _ s
  rw [if_neg (by decide)]
  refine wpAny_bind (slicePart_ pl (wpAny_bind (slicePart_ pu (wpAny_bind (wpAny_pure ?_)))))
  show wpAny _ _ (match Builtin.Slice.sliceAdjust lo hi 1 (n : Int) with | (lo, hi) => pure (lo, (1 : Int), Builtin.Slice.slicePlaces lo hi 1)) _ _ s
  rw [adjust_gen lo hi n]
  show wpAny _ _ (pure (((sIx n 0 lo : Nat) : Int), (1 : Int), Builtin.Slice.slicePlaces ((sIx n 0 lo : Nat) : Int) ((sIx n n hi : Nat) : Int) 1)) _ _ s
  rw [places_gen]
  exact wpAny_pure h
theorem pick_gen (xs : Array Value) (i k : Nat) : ((List.range k).filterMap fun (m : Nat) => xs[((i : Int) + (m : Int) * 1).toNat]?).toArray = ((xs.toList.drop i).take k).toArray := by
  have e : (fun (m : Nat) => xs[((i : Int) + (m : Int) * 1).toNat]?) = fun m => xs[i + m]? := by
    funext m
    have : ((i : Int) + (m : Int) * 1).toNat = i + m := by omega
    rw [this]
  rw [e]
  have := pick_run xs i k
  rw [List.filterMap_map] at this
  have e2 : ((fun x => xs[x]?) ∘ fun x => i + x) = fun m => xs[i + m]? := rfl
  rw [e2] at this
  rw [this]
theorem getItem_tuple_cut {t sl : Addr} {items : Array Value} {vl vu : Value} {lo hi : Option Int} {Q : Value → Shared → Prop} (ht : IsTup s.heap t items) (hs : s.heap.IsSliceOf sl vl vu .none) (pl : IsPart vl lo) (pu : IsPart vu hi)
    (hw : ¬ (sIx items.size 0 lo = 0 ∧ sIx items.size items.size hi = items.size))
    (h : Q (.ref s.heap.objs.size) { s with heap := s.heap.push { cls := .type "tuple", data := .seq ((items.toList.drop (sIx items.size 0 lo)).take (sIx items.size items.size hi - sIx items.size 0 lo)).toArray } })
    (hsz : items.size ≤ sizeLine) : wpAny (model prog w) A (getItem (.ref t) (.ref sl)) Q E s := by
  have htake : sizeOk (.seq ((items.toList.drop (sIx items.size 0 lo)).take (sIx items.size items.size hi - sIx items.size 0 lo)).toArray) := by
    show ((items.toList.drop (sIx items.size 0 lo)).take (sIx items.size items.size hi - sIx items.size 0 lo)).toArray.size ≤ sizeLine
    rw [List.size_toArray, List.length_take, List.length_drop, Array.length_toList]
    omega
  have hj : sIx items.size items.size hi ≤ items.size := sIx_le _ _ (Nat.le_refl _) hi
  obtain ⟨os, hos, hcs, hds⟩ := id hs
  have hTs : s.TypeIs (.ref sl) "slice" := ⟨os, hos, hcs⟩
  unfold getItem
  try with_reducible refine wpAny_holding ?_
  first | refine wpAny_bind (wpAny_pure ?_) | skip
  refine wpAny_bind (wpAny_sequenceKey ht.typeIs (by decide) ?_)
  refine wpAny_bind (wpAny_callSpecial?_slot (name := Str.ofString "__getitem__") ht.typeIs PyProof.Rows.slot_tuple_getitem
    (wpAny_call_entry PyProof.Rows.slot_tuple_getitem ht.typeIs entry_tuple_getitem ?_ (args_tuple_getitem _ _)))
  show wpAny _ _ (Builtin.Tuple.tupleItemsOf (.ref t) >>= _) _ _ s
  refine wpAny_bind (tupleItemsOf_ ht ?_)
  refine wpAny_bind (wpAny_typeOf hTs ?_)
  rw [if_pos (by decide)]
  refine wpAny_bind (sliceApplied_gen hs pl pu ?_)
  have hno : ¬ ((((sIx items.size 0 lo : Nat) : Int) == 0 && (1 : Int) == 1 && (sIx items.size items.size hi - sIx items.size 0 lo) == items.size) = true) := by
    intro q
    rw [Bool.and_eq_true, Bool.and_eq_true] at q
    have q1 : ((sIx items.size 0 lo : Nat) : Int) = 0 := eq_of_beq q.1.1
    have q2 : sIx items.size items.size hi - sIx items.size 0 lo = items.size := eq_of_beq q.2
    exact hw ⟨by omega, by omega⟩
  show wpAny _ _ (if (((sIx items.size 0 lo : Nat) : Int) == 0 && (1 : Int) == 1 && (sIx items.size items.size hi - sIx items.size 0 lo) == items.size) = true then _ else _) _ _ s
  rw [if_neg hno, pick_gen]
  first
    | exact wpAny_bind (m := Builtin.Tuple.tupleExact _) (wpAny_newObj_type (wpAny_pure ⟨_, rfl, wpAny_pure h⟩) htake)
    | exact wpAny_bind (m := Builtin.Tuple.tupleExact _) (wpAny_newObj_type (wpAny_bind (wpAny_pure (wpAny_pure ⟨_, rfl, wpAny_pure h⟩))) htake)
    | exact wpAny_bind (wpAny_bind (m := Builtin.Tuple.tupleExact _) (wpAny_newObj_type (wpAny_pure (wpAny_pure ⟨_, rfl, wpAny_pure h⟩)) htake))
    | exact wpAny_bind (wpAny_bind (m := Builtin.Tuple.tupleExact _) (wpAny_newObj_type (wpAny_pure ⟨_, rfl, wpAny_pure h⟩) htake))
end
end HT
namespace L2
open PySem PySem.Spec PyProof.Rows
abbrev TO := St → Hp → (Option Int → Hp → Prop) → Prop
def PO (X : Cx) (e : Option Expr) (t : TO) : Prop :=
  ∀ (pins : List (Addr × Obj)) (s : Shared) (σ : St) (H : Hp) (Q : Option Int → Hp → Prop), Inv X pins σ H s → t σ H Q →
    wpAny (model X.prog X.w) X.A (evalPart e X.env) (fun u s' => ∃ o H', Inv X pins σ H' s' ∧ IsPart u o ∧ Q o H') X.xe s
def tNoPart : TO := fun _ H Q => Q none H
def tPart (t : TE) : TO := fun σ H Q => t σ H fun x H1 => ∃ i, x = .int i ∧ Q (some i) H1
section
variable {X : Cx} {e : Expr} {te : TE} {lo hi : Option Expr} {tl th : TO} {pos p2 : Pos}
theorem po_none : PO X none tNoPart := by
  intro pins s σ H Q I h
  rw [evalPart_none]
  exact wpAny_pure ⟨none, H, I, .none, h⟩
theorem po_some (h : PE X e te) : PO X (some e) (tPart te) := by
  intro pins s σ H Q I hw
  rw [evalPart_some]
  refine thn (h pins s σ H _ I hw) fun u s1 ⟨x, H1, I1, r1, q1⟩ => ?_
  obtain ⟨i, rfl, q⟩ := q1
  obtain ⟨t, rfl⟩ := r1
  exact ⟨some i, H1, I1, .int i t, q⟩
def SlR (X : Cx) (r : V → Option Int → Option Int → Hp → VK → Prop) : Prop :=
  ∀ (pins : List (Addr × Obj)) (s : Shared) (σ : St) (H : Hp) (x : V) (v vl vu : Value) (lo hi : Option Int) (sl : Addr) (Q : VK), Inv X pins σ H s → RelV x v → s.heap.IsSliceOf sl vl vu .none → IsPart vl lo → IsPart vu hi → r x lo hi H Q →
    ∃ T id, typeLookup (.type T) "__getitem__" = pure (some (.builtin id)) ∧ s.TypeIs v T ∧ wpAny (model X.prog X.w) X.A (getItem v (.ref sl)) (EP X pins σ Q) X.xe s
def tSl (r : V → Option Int → Option Int → Hp → VK → Prop) (te : TE) (tl th : TO) : TE := fun σ H Q => te σ H fun x H1 => tl σ H1 fun l H2 => th σ H2 fun u H3 => r x l u H3 Q
theorem pe_slice {r : V → Option Int → Option Int → Hp → VK → Prop} (hr : SlR X r) (he : PE X e te) (hl : PO X lo tl) (hu : PO X hi th) : PE X (.Subscript e (.Slice lo hi none p2) pos) (tSl r te tl th) := by
  intro pins s σ H Q I h
  refine Subscript_ (thn (he pins s σ H _ I h) fun v s1 ⟨x, H1, I1, r1, q1⟩ => ?_)
  refine wpAny_Slice (thn (hl pins s1 σ H1 _ I1 q1) fun vl s2 ⟨l, H2, I2, pl, q2⟩ => thn (hu pins s2 σ H2 _ I2 q2) fun vu s3 ⟨u, H3, I3, pu, q3⟩ => ?_)
  rw [evalPart_none]
  refine wpAny_pure ?_
  have I4 : Inv X pins σ H3 { s3 with heap := s3.heap.push { cls := .type "slice", data := .fields #[vl, vu, .none] } } := I3.kept (t' := s3.toks) fun b ob q => Heap.get?_push_of_some _ q
  obtain ⟨T, id, hT, ht, hg⟩ := hr pins { s3 with heap := s3.heap.push { cls := .type "slice", data := .fields #[vl, vu, .none] } } σ H3 x v vl vu l u s3.heap.objs.size Q I4 r1 (Heap.IsSliceOf.new ..) pl pu q3
  show wpAny (model X.prog X.w) X.A (subscriptTail e (.Slice lo hi none p2) v (.ref s3.heap.objs.size)) (EP X pins σ Q) X.xe { s3 with heap := s3.heap.push { cls := .type "slice", data := .fields #[vl, vu, .none] } }
  exact tail_any (ops := [.ref s3.heap.objs.size, v]) ht hT hg (by with_unfolding_all rfl)
def cutV (xs : List V) (lo hi : Option Int) : List V := (xs.drop (HT.sIx xs.length 0 lo)).take (HT.sIx xs.length xs.length hi - HT.sIx xs.length 0 lo)
theorem cutV_length (xs : List V) (lo hi : Option Int) : (cutV xs lo hi).length ≤ xs.length := by
  unfold cutV
  rw [List.length_take, List.length_drop]
  omega
def rSlT (K : PySem.W.Frag) : V → Option Int → Option Int → Hp → VK → Prop := fun x lo hi H Q => ∃ a xs, x = .ref a ∧ SqT K H a xs ∧
  ¬ (HT.sIx xs.length 0 lo = 0 ∧ HT.sIx xs.length xs.length hi = xs.length) ∧ ∀ p, H p = none → Q (.ref p) (upd H p (.tup (cutV xs lo hi)))
theorem sl_tup : SlR X (rSlT X.K) := by
  intro pins s σ H x v vl vu lo hi sl Q I rx hs pl pu h
  obtain ⟨a, xs, rfl, hx, hw, q⟩ := h
  cases rx
  obtain ⟨its, r, ht, hz⟩ := I.tuple hx
  have hlen : its.toArray.size = xs.length := by rw [List.size_toArray]; exact r.length.symm
  refine ⟨"tuple", _, PyProof.Rows.slot_tuple_getitem.lookup, ht.typeIs, ?_⟩
  refine HT.getItem_tuple_cut ht hs pl pu (by rw [hlen]; exact hw) ?_ (by rw [hlen]; exact hz)
  rw [hlen]
  refine ⟨.ref s.heap.objs.size, _, I.laid (t' := s.toks) (o := .tup (cutV xs lo hi)) (fun b ob q => Heap.get?_push_of_some _ q) (Nat.le_refl _) ?_, rfl, q _ (I.hok.fresh (Nat.le_refl _))⟩
  exact ⟨Nat.le_trans (cutV_length xs lo hi) hz, _, (r.drop (HT.sIx xs.length 0 lo)).take (HT.sIx xs.length xs.length hi - HT.sIx xs.length 0 lo), IsTup.new _ _⟩
def rCatT (K : PySem.W.Frag) : R2 := fun x y H Q => ∃ a b xs ys, x = .ref a ∧ y = .ref b ∧ SqT K H a xs ∧ SqT K H b ys ∧ xs ≠ [] ∧ xs.length + ys.length ≤ sizeLine ∧
  (ys = [] → Q (.ref a) H) ∧ (ys ≠ [] → ∀ p, H p = none → Q (.ref p) (upd H p (.tup (xs ++ ys))))
theorem Vals.nil_iff {xs : List V} {us : List Value} (r : Vals xs us) : us = [] ↔ xs = [] := by
  cases r with
  | nil => simp
  | cons _ _ => simp
theorem op_catT : OpR X (binaryOp .Add) (rCatT X.K) := by
  intro pins s σ H x y v u Q I rx ry h
  obtain ⟨a, b, xs, ys, rfl, rfl, ha, hb, hx, hz, q1, q2⟩ := h
  cases rx
  cases ry
  obtain ⟨its, r1, p1, _⟩ := I.tuple ha
  obtain ⟨its2, r2, p2, _⟩ := I.tuple hb
  refine HT.cat_tup p1 p2 (fun z => hx (r1.nil_iff.mp z)) (fun z => ⟨.ref a, H, I, rfl, q1 (r2.nil_iff.mp z)⟩) (fun z => ?_) (by rw [← r1.length, ← r2.length]; exact hz)
  refine ⟨.ref s.heap.objs.size, _, I.laid (t' := s.toks) (o := .tup (xs ++ ys)) (fun b ob q => Heap.get?_push_of_some _ q) (Nat.le_refl _) ?_, rfl, q2 (fun w => z (r2.nil_iff.mpr w)) _ (I.hok.fresh (Nat.le_refl _))⟩
  exact ⟨by rw [List.length_append]; exact hz, _, r1.append r2, IsTup.new _ _⟩
end
end L2
namespace L2
open PySem PySem.Spec PyProof.Rows
def ixN (n : Nat) (i : Int) : Option Nat := if 0 ≤ i then (if i < n then some i.toNat else none) else if -(n : Int) ≤ i then some (i + n).toNat else none
def atI {α : Type} (xs : List α) (i : Int) : Option α := (ixN xs.length i).bind fun j => xs[j]?
theorem ixN_seq {n : Nat} {i : Int} {j : Nat} (h : ixN n i = some j) : seqIndex? i n = some j ∧ j < n ∧ -(n : Int) ≤ i ∧ i < n := by
  unfold ixN at h
  by_cases h0 : 0 ≤ i
  · rw [if_pos h0] at h
    by_cases h1 : i < n
    · rw [if_pos h1] at h
      have e : i.toNat = j := Option.some.inj h
      exact ⟨by rw [seqIndex_of h0 h1, e], by omega, by omega, h1⟩
    · rw [if_neg h1] at h; cases h
  · rw [if_neg h0] at h
    by_cases h1 : -(n : Int) ≤ i
    · rw [if_pos h1] at h
      have e : (i + n).toNat = j := Option.some.inj h
      exact ⟨by rw [seqIndex_neg (by omega) h1, e], by omega, h1, by omega⟩
    · rw [if_neg h1] at h; cases h
theorem atI_get {α : Type} {xs : List α} {i : Int} {v : α} (h : atI xs i = some v) : ∃ j, seqIndex? i xs.length = some j ∧ xs[j]? = some v ∧ j < xs.length ∧ -(xs.length : Int) ≤ i ∧ i < xs.length := by
  unfold atI at h
  cases e : ixN xs.length i with
  | none => rw [e] at h; cases h
  | some j =>
    rw [e] at h
    obtain ⟨h1, h2, h3, h4⟩ := ixN_seq e
    exact ⟨j, h1, h, h2, h3, h4⟩
theorem atI_nat {α : Type} {xs : List α} {j : Nat} {v : α} (h : xs[j]? = some v) : atI xs (j : Int) = some v := by
  have hj : j < xs.length := (List.getElem?_eq_some_iff.mp h).1
  have e : ixN xs.length (j : Int) = some j := by
    unfold ixN
    rw [if_pos (by omega), if_pos (by omega)]; simp
  unfold atI; rw [e]; exact h
def PlainIx (b : Expr) : Prop := ∀ o i, subscripted b false o i = operate [o, i] (getItem o i)
def IxR (X : Cx) (r : R2) : Prop :=
  ∀ (value slice : Expr) (pins : List (Addr × Obj)) (s : Shared) (σ : St) (H : Hp) (x y : V) (v u : Value) (Q : VK), Inv X pins σ H s → RelV x v → RelV y u → r x y H Q →
    subscripted slice false v u = operate [v, u] (getItem v u) → wpAny (model X.prog X.w) X.A (subscriptTail value slice v u) (EP X pins σ Q) X.xe s
def MtR (X : Cx) (id : String) (r : V → List V → Hp → VK → Prop) : Prop :=
  ∀ (pins : List (Addr × Obj)) (s : Shared) (σ : St) (H : Hp) (x : V) (xs : List V) (v : Value) (us : List Value) (Q : VK), Inv X pins σ H s → RelV x v → Vals xs us → r x xs H Q →
    wpAny (model X.prog X.w) X.A (call (.builtin id) (v :: us)) (EP X pins σ Q) X.xe s
section
variable {X : Cx} {a b : Expr} {ta tb : TE} {pos : Pos}
theorem pe_ix {r : R2} (hr : IxR X r) (ha : PE X a ta) (hb : PE X b tb) (hs : PlainIx b) : PE X (.Subscript a b pos) (tOp r ta tb) := by
  intro pins s σ H Q I h
  exact Subscript_ (binT ha hb I h fun v u s2 x y H2 I2 rx ry q => hr a b pins s2 σ H2 x y v u Q I2 rx ry q (hs _ _))
def rIxL (K : PySem.W.Frag) : R2 := fun x y H Q => ∃ p xs i v, x = .ref p ∧ y = .int i ∧ SqL K H p xs ∧ atI xs i = some v ∧ Q v H
def rIxT (K : PySem.W.Frag) : R2 := fun x y H Q => ∃ p xs i v, x = .ref p ∧ y = .int i ∧ SqT K H p xs ∧ atI xs i = some v ∧ Q v H
theorem ix_list : IxR X (rIxL X.K) := by
  intro value slice pins s σ H x y v u Q I rx ry h hs
  obtain ⟨p, xs, i, z, rfl, rfl, hq, he, q⟩ := h
  cases rx
  obtain ⟨t, rfl⟩ := ry
  obtain ⟨its, r, pl, hz⟩ := I.list hq
  obtain ⟨j, h1, h2, h3, h4, h5⟩ := atI_get he
  obtain ⟨w, ew, rw'⟩ := r.get h2
  have hl := r.length
  have hn := line63
  have fin : EP X pins σ Q w s := ⟨z, H, I, rw', q⟩
  by_cases h0 : 0 ≤ i
  · have hj : i.toNat = j := by
      rw [seqIndex_of h0 h5] at h1
      exact Option.some.inj h1
    exact item_listR pl.isList h0 (by omega) (by rw [hj]; simpa using ew) fin hs
  · have hj : (i + (its.toArray.size : Int)).toNat = j := by
      rw [seqIndex_neg (by omega) h4] at h1
      rw [List.size_toArray, ← hl]
      exact Option.some.inj h1
    exact subscriptTail_builtinR (x := w) pl.isList.typeIs slot_list_getitem.lookup
      (wpAny_getItem_list_neg (Q := fun r s' => r = w ∧ EP X pins σ Q r s') pl.isList (by omega) (by rw [List.size_toArray] <;> omega) (by omega) (by rw [hj]; simpa using ew) ⟨rfl, fin⟩) hs
theorem ix_tup : IxR X (rIxT X.K) := by
  intro value slice pins s σ H x y v u Q I rx ry h hs
  obtain ⟨p, xs, i, z, rfl, rfl, hq, he, q⟩ := h
  cases rx
  obtain ⟨t, rfl⟩ := ry
  obtain ⟨its, r, pl, hz⟩ := I.tuple hq
  obtain ⟨j, h1, h2, h3, h4, h5⟩ := atI_get he
  obtain ⟨w, ew, rw'⟩ := r.get h2
  have hl := r.length
  have hn := line63
  have fin : EP X pins σ Q w s := ⟨z, H, I, rw', q⟩
  exact subscriptTail_builtinR (x := w) pl.typeIs slot_tuple_getitem.lookup
    (getItem_tuple (j := j) (Q := fun r s' => r = w ∧ EP X pins σ Q r s') pl (by omega) (by omega) (by rw [List.size_toArray, ← hl]; exact h1) (by simpa using ew) ⟨rfl, fin⟩) hs
theorem mapSeq_set (its : List Value) (n j : Nat) (u : Value) : Obj.mapSeq (·.setIfInBounds j u) { cls := .type "list", data := .seq its.toArray n } = { cls := .type "list", data := .seq (its.set j u).toArray n } := by
  simp [Obj.mapSeq]
theorem Inv.lst {pins : List (Addr × Obj)} {σ : St} {H : Hp} {s : Shared} {p : Addr} {xs : List V} (I : Inv X pins σ H s) (h : H p = some (.lst xs)) :
    ∃ (its : List Value) (n : Nat), Vals xs its ∧ s.heap.get? p = some { cls := .type "list", data := .seq its.toArray n } ∧ xs.length ≤ sizeLine := by
  obtain ⟨z, its, n, r, e⟩ := I.hok p _ h
  exact ⟨its, n, r, e, z⟩
theorem Inv.lstUpd {pins : List (Addr × Obj)} {σ : St} {H : Hp} {s : Shared} {p : Addr} {xs ys : List V} {its its' : List Value} {n n' : Nat} {f : Obj → Obj} (I : Inv X pins σ H s) (h : H p = some (.lst xs))
    (ho : s.heap.get? p = some { cls := .type "list", data := .seq its.toArray n }) (hf : f { cls := .type "list", data := .seq its.toArray n } = { cls := .type "list", data := .seq its'.toArray n' }) (r : Vals ys its') (hz : ys.length ≤ sizeLine) (t : Nat) :
    Inv X pins σ (upd H p (.lst ys)) { s with heap := s.heap.update p f, toks := t } := by
  have e : (s.heap.update p f).get? p = some { cls := .type "list", data := .seq its'.toArray n' } := by
    rw [Heap.get?_update_self f ho (by rw [hf] <;> rfl), hf]
  refine I.write (x := p) (e := p) (by rw [h]; trivial) (.inl rfl) (fun b u hb q => (Heap.get?_update_other _ _ (Ne.symm hb)).trans q) ⟨_, e⟩ ?_
  exact ⟨hz, its', n', r, e⟩
def rSetL : V → V → V → Hp → (Hp → Prop) → Prop := fun o i v H Q => ∃ p xs k j, o = .ref p ∧ i = .int k ∧ H p = some (.lst xs) ∧ ixN xs.length k = some j ∧ Q (upd H p (.lst (xs.set j v)))
theorem set_list : PSet X rSetL := by
  intro pins s σ H o i v ov iv u Q I ro ri rv h
  obtain ⟨p, xs, k, j, rfl, rfl, hp, hj, q⟩ := h
  cases ro
  obtain ⟨t, rfl⟩ := ri
  obtain ⟨its, n, r, ho, hz⟩ := I.lst hp
  obtain ⟨h1, h2, h3, h4⟩ := ixN_seq hj
  have hl := r.length
  have hn := line63
  have I' : Inv X pins σ (upd H p (.lst (xs.set j v))) { s with heap := s.heap.update p (Obj.mapSeq (·.setIfInBounds j u)) } :=
    I.lstUpd hp ho (mapSeq_set its n j u) (r.set rv j) (by rw [List.length_set]; exact hz) s.toks
  by_cases h0 : 0 ≤ k
  · have hk : k.toNat = j := by
      rw [seqIndex_of h0 h4] at h1
      exact Option.some.inj h1
    exact PySem.W.ki_setAt ho h0 (by omega) (by rw [List.size_toArray, ← hl]; exact h4) (by rw [hk]; exact ⟨_, I', q⟩)
  · have hk : (k + (its.toArray.size : Int)).toNat = j := by
      rw [seqIndex_neg (by omega) h3] at h1
      rw [List.size_toArray, ← hl]
      exact Option.some.inj h1
    exact PySem.W.ki_setBack ho (by omega) (by rw [List.size_toArray, ← hl]; exact h3) (by omega) (by rw [hk]; exact ⟨_, I', q⟩)
theorem slice_bounds (lo hi : Option Int) (n : Nat) : (sliceBounds lo hi none n).1 = ((HT.sIx n 0 lo : Nat) : Int) ∧ (sliceBounds lo hi none n).2.1 = ((HT.sIx n n hi : Nat) : Int) ∧ (sliceBounds lo hi none n).2.2 = 1 := by
  refine ⟨?_, ?_, rfl⟩
  · cases lo with
    | none => simp [sliceBounds, HT.sIx]
    | some i =>
      simp only [sliceBounds, HT.sIx, Option.getD_none, show (1 : Int) > 0 by decide, if_true]
      by_cases h : i < 0
      · simp only [h, if_true] <;> omega
      · simp only [h, if_false] <;> omega
  · cases hi with
    | none => simp [sliceBounds, HT.sIx]
    | some i =>
      simp only [sliceBounds, HT.sIx, Option.getD_none, show (1 : Int) > 0 by decide, if_true]
      by_cases h : i < 0
      · simp only [h, if_true] <;> omega
      · simp only [h, if_false] <;> omega
theorem slicePick_cut (its : List Value) (lo hi : Option Int) : slicePick its.toArray lo hi none = ((its.drop (HT.sIx its.length 0 lo)).take (HT.sIx its.length its.length hi - HT.sIx its.length 0 lo)).toArray := by
  obtain ⟨h1, h2, h3⟩ := slice_bounds lo hi its.toArray.size
  unfold slicePick
  rw [h1, h2, h3]
  simp only [sliceRange_one, pick_run, List.size_toArray] <;> rfl
def rSlL (K : PySem.W.Frag) : V → Option Int → Option Int → Hp → VK → Prop := fun x lo hi H Q => ∃ a xs, x = .ref a ∧ SqL K H a xs ∧ ∀ p, H p = none → Q (.ref p) (upd H p (.lst (cutV xs lo hi)))
theorem sl_list : SlR X (rSlL X.K) := by
  intro pins s σ H x v vl vu lo hi sl Q I rx hs pl pu h
  obtain ⟨a, xs, rfl, hx, q⟩ := h
  cases rx
  obtain ⟨its, r, ht, hz⟩ := I.list hx
  have hlen := r.length
  refine ⟨"list", _, slot_list_getitem.lookup, ht.isList.typeIs, ?_⟩
  refine wpAny_getItem_list_slice ht.isList hs pl pu .none (by simp) ?_ (by rw [List.size_toArray] <;> omega)
  rw [slicePick_cut, ← hlen]
  refine ⟨.ref s.heap.objs.size, _, I.laid (t' := s.toks) (o := .lst (cutV xs lo hi)) (fun b ob q => Heap.get?_push_of_some _ q) (Nat.le_refl _) ?_, rfl, q _ (I.hok.fresh (Nat.le_refl _))⟩
  exact ⟨Nat.le_trans (cutV_length xs lo hi) hz, _, 0, (r.drop (HT.sIx xs.length 0 lo)).take (HT.sIx xs.length xs.length hi - HT.sIx xs.length 0 lo), Heap.get?_push_size _ rfl⟩
theorem CallR.or {f : Value} {r r' : List V → Hp → VK → Prop} (h : CallR X f r) (h' : CallR X f r') : CallR X f (fun xs H Q => r xs H Q ∨ r' xs H Q) := by
  intro pins s σ H xs us Q I rs q
  rcases q with q | q
  · exact h pins s σ H xs us Q I rs q
  · exact h' pins s σ H xs us Q I rs q
theorem call_list_of : CallR X (.type "list") (fun xs H Q => ∃ p ys, xs = [.ref p] ∧ (SqL X.K H p ys ∨ SqT X.K H p ys) ∧ ∀ l, H l = none → Q (.ref l) (upd H l (.lst ys))) := by
  intro pins s σ H xs us Q I r h
  obtain ⟨p, ys, rfl, hq, q⟩ := h
  obtain ⟨u, rfl, rx⟩ := vals1 r
  cases rx
  have fin : ∀ (its : List Value), Vals ys its → ys.length ≤ sizeLine → ∀ (h' : Heap) (c' : Nat), (∀ b o', s.heap.get? b = some o' → h'.get? b = some o') →
      h'.get? s.heap.objs.size = some { cls := .type "list", dict := none, data := .seq its.toArray c', slots := #[] } → EP X pins σ Q (.ref s.heap.objs.size) { s with heap := h' } := fun its r' hz h' c' kp e =>
    ⟨.ref s.heap.objs.size, _, I.laid (t' := s.toks) kp (Nat.le_refl _) (show ObjOk X.prog X.w _ h' _ (.lst ys) from ⟨hz, its, c', r', e⟩), rfl, q _ (I.hok.fresh (Nat.le_refl _))⟩
  rcases hq with hq | hq
  · obtain ⟨its, r', pl, hz⟩ := I.list hq
    have hlen := r'.length
    obtain ⟨o, ho, hc, n, hd⟩ := pl.isList
    exact call_list_seq p (.inl rfl) ho hc hd (fun h' c' kp e => fin its r' hz h' c' kp e) (by simp only [List.size_toArray] <;> omega)
  · obtain ⟨its, r', pl, hz⟩ := I.tuple hq
    have hlen := r'.length
    obtain ⟨o, ho, hc, n, hd⟩ := pl
    exact call_list_seq p (.inr rfl) ho hc hd (fun h' c' kp e => fin its r' hz h' c' kp e) (by simp only [List.size_toArray] <;> omega)
theorem call_tuple_of : CallR X (.type "tuple") (fun xs H Q => ∃ p ys, xs = [.ref p] ∧ ((SqL X.K H p ys ∧ ∀ l, H l = none → Q (.ref l) (upd H l (.tup ys))) ∨ (SqT X.K H p ys ∧ Q (.ref p) H))) := by
  intro pins s σ H xs us Q I r h
  obtain ⟨p, ys, rfl, h⟩ := h
  obtain ⟨u, rfl, rx⟩ := vals1 r
  cases rx
  rcases h with ⟨hq, q⟩ | ⟨hq, q⟩
  · obtain ⟨its, r', pl, hz⟩ := I.list hq
    have hlen := r'.length
    refine call_tuple_list pl.isList (fun h' kp => ?_) (by simp only [List.size_toArray] <;> omega)
    have I1 : Inv X pins σ H { s with heap := h' } := I.kept (t' := s.toks) kp
    have I2 : Inv X pins σ (upd H h'.objs.size (.tup ys)) { s with heap := h'.push { cls := .type "tuple", data := .seq its.toArray } } :=
      I1.laid (t' := s.toks) (fun b o e => Heap.get?_push_of_some _ e) (Nat.le_refl _) (show ObjOk X.prog X.w _ _ _ (.tup ys) from ⟨hz, its, r', IsTup.new _ _⟩)
    exact ⟨.ref h'.objs.size, _, I2, rfl, q _ (I1.hok.fresh (Nat.le_refl _))⟩
  · obtain ⟨its, r', pl, hz⟩ := I.tuple hq
    exact call_tuple_same pl ⟨.ref p, H, I, rfl, q⟩
def tyV (K : PySem.W.Frag) (T : String) (x : V) (H : Hp) : Prop := match x with
  | .str _ => T = "str"
  | .int _ => T = "int"
  | .ref p => (T = "list" ∧ ∃ xs, SqL K H p xs) ∨ (T = "tuple" ∧ ∃ o, K.lookup p = some o ∧ o.cls = .type "tuple" ∧ o.dict = none) ∨
      (T = "dict" ∧ ((∃ kvs, H p = some (.dK kvs)) ∨ ∃ kvs, H p = some (.dT kvs))) ∨ (T = "set" ∧ ∃ S n, H p = some (.set S n))
  | _ => False
theorem tyV_is {pins : List (Addr × Obj)} {σ : St} {H : Hp} {s : Shared} {T : String} {x : V} {v : Value} (I : Inv X pins σ H s) (r : RelV x v) (ty : tyV X.K T x H) :
    s.TypeIs v T ∧ ∀ a, v = .ref a → ∃ ob, s.heap.get? a = some ob ∧ ob.dict = none := by
  cases x with
  | str z =>
    obtain ⟨t, rfl⟩ := r
    cases (show T = "str" from ty)
    exact ⟨typeIs_str s z t, fun _ e => nomatch e⟩
  | int i =>
    obtain ⟨t, rfl⟩ := r
    cases (show T = "int" from ty)
    exact ⟨typeIs_int s i t, fun _ e => nomatch e⟩
  | ref p =>
    cases r
    rcases ty with ⟨rfl, xs, hq⟩ | ⟨rfl, o, hk, hc, hd⟩ | ⟨rfl, hk⟩ | ⟨rfl, S, n, hk⟩
    · obtain ⟨its, _, pl, _⟩ := I.list hq
      refine ⟨pl.isList.typeIs, fun a e => ?_⟩
      cases e
      obtain ⟨o, n, e, c, hd, _⟩ := pl
      exact ⟨o, e, hd⟩
    · refine ⟨⟨o, I.kIn p o hk, hc⟩, fun a e => ?_⟩
      cases e
      exact ⟨o, I.kIn _ o hk, hd⟩
    · have z : ∃ o, s.heap.get? p = some o ∧ o.ExactDict := by
        rcases hk with ⟨kvs, hk⟩ | ⟨kvs, hk⟩
        · obtain ⟨_, _, _, _, o, _, _, e, ex, _⟩ := I.hok p _ hk
          exact ⟨o, e, ex⟩
        · obtain ⟨_, _, _, _, o, _, _, e, ex, _⟩ := I.hok p _ hk
          exact ⟨o, e, ex⟩
      obtain ⟨o, e, ex⟩ := z
      refine ⟨⟨o, e, ex.1⟩, fun a e2 => ?_⟩
      cases e2
      exact ⟨o, e, ex.2.1⟩
    · obtain ⟨o, _, _, _, e, ex, _⟩ := I.hok p _ hk
      refine ⟨⟨o, e, ex.1⟩, fun a e2 => ?_⟩
      cases e2
      exact ⟨o, e, ex.2.1⟩
  | _ => exact False.elim ty
def tBM (K : PySem.W.Frag) (T : String) (r : V → List V → Hp → VK → Prop) (to : TE) (t : TA) : TE := fun σ H Q => to σ H fun x H1 => tyV K T x H1 ∧ t σ H1 fun xs H2 => r x xs H2 Q
variable {o e : Expr} {es : List Expr} {to : TE} {t : TA} {name : Str} {apos cpos : Pos} {T id : String} {r : V → List V → Hp → VK → Prop}
theorem pe_bm (pa : PlainAttrs T) (slot : Slot T name id) (hty : typeOf (.builtin id) = pure (.type "method_descriptor")) (hm : MtR X id r) (ho : PE X o to) (ha : PA X (e :: es) t)
    (hbase : attributeBase o name X.env (eval o X.env) = eval o X.env := by rfl)
    (hfew : ((backTo cpos (starEach (e :: es) X.env)).all (fun x => !x.1) && (backToKw cpos (keywordEach [] X.env)).all (fun x => x.1.isSome)
      && decide ((e :: es).length + ([] : List Keyword).length + (if ([] : List Keyword).isEmpty then 0 else 1) < 30)) = true := by rfl)
    (hline : (apos.endLine == cpos.line) = true := by rfl) (hs : starEach (e :: es) X.env = (false, eval e X.env) :: starEach es X.env := by rfl) (hplain : (backTo cpos (starEach es X.env)).any (·.1) = false := by rfl) :
    PE X (.Call (.Attribute o name apos) (e :: es) [] cpos) (tBM X.K T r to t) := by
  intro pins s σ H Q I h
  refine wpAny_Call_method_late hbase hfew hline rfl (thn (ho pins s σ H _ I h) fun v s1 ⟨x, H1, I1, r1, ty, q1⟩ => ?_)
  obtain ⟨h1, h2⟩ := tyV_is I1 r1 ty
  refine ⟨T, id, pa, slot, hty, h1, h2, ?_⟩
  have hA := ha cpos pins s1 σ H1 _ I1 q1
  rw [hs] at hA ⊢
  refine Calls.callWith_builtin (by show (false || (backTo cpos (starEach es X.env)).any (·.1)) = false; rw [hplain] <;> rfl) (Calls.evalArgs_plain ?_)
  exact thn hA fun us s2 ⟨vs, H2, I2, r2, q2⟩ => hm pins s2 σ H2 x vs v us Q I2 r1 r2 q2
/- xs.append(e), list.index on a module's tuple .. are MtR facts of 06m -/
end
end L2
namespace L2
open PySem PySem.Spec PyProof.Rows
def MtM (X : Cx) (id : String) (r : V → List V → Hp → VK → Prop) : Prop :=
  ∀ (pins : List (Addr × Obj)) (s : Shared) (σ : St) (H : Hp) (x : V) (xs : List V) (v : Value) (us : List Value) (Q : VK), Inv X pins σ H s → RelV x v → Vals xs us → r x xs H Q →
    wpAny (model X.prog X.w) X.A (call (.builtin id) (v :: us)) (EP X pins σ Q) X.xe s
theorem Vals.one : ∀ {x : V} {us : List Value}, Vals [x] us → ∃ u, us = [u] ∧ RelV x u
  | _, _, .cons r .nil => ⟨_, rfl, r⟩
theorem Vals.rep {xs : List V} {us : List Value} (h : Vals xs us) : ∀ k : Nat, Vals (List.replicate k xs).flatten (List.replicate k us).flatten
  | 0 => .nil
  | k + 1 => by
    rw [List.replicate_succ, List.replicate_succ, List.flatten_cons, List.flatten_cons]
    exact Vals.append h (Vals.rep h k)
theorem foldl_rep (its : List Value) : ∀ (k : Nat) (acc : List Value),
    List.foldl (fun x1 x2 => x1 ++ x2) acc.toArray (List.replicate k its.toArray) = (acc ++ (List.replicate k its).flatten).toArray
  | 0, acc => by simp
  | k + 1, acc => by
    have e : acc.toArray ++ its.toArray = (acc ++ its).toArray := by simp
    have e2 : (acc ++ its) ++ (List.replicate k its).flatten = acc ++ (List.replicate (k + 1) its).flatten := by
      rw [List.replicate_succ, List.flatten_cons, List.append_assoc]
    rw [← e2, ← foldl_rep its k (acc ++ its), ← e, List.replicate_succ, List.foldl_cons]
section
variable {X : Cx} {pins : List (Addr × Obj)} {σ : St} {H : Hp} {s : Shared} {l b : Addr} {xs ys zs : List V}
theorem Inv.lset {its its' : List Value} {n : Nat} {f : Array Value → Array Value} {t' : Nat} (I : Inv X pins σ H s) (hH : H l = some (.lst xs))
    (e : s.heap.get? l = some { cls := .type "list", data := .seq its.toArray n }) (hf : f its.toArray = its'.toArray) (hv : Vals ys its') (hz : ys.length ≤ sizeLine) :
    Inv X pins σ (upd H l (.lst ys)) { s with heap := s.heap.update l (Obj.mapSeq f), toks := t' } := by
  have q := PySem.IsL.update e f
  rw [hf] at q
  refine I.write (x := l) (e := l) (by rw [hH]; exact trivial) (.inl rfl) (fun b' u hb hu => (Heap.get?_update_other s.heap (Obj.mapSeq f) (Ne.symm hb)).trans hu) ⟨_, q⟩ ?_
  exact ⟨hz, its', _, hv, q⟩
theorem Inv.lnew {its : List Value} {t' : Nat} (I : Inv X pins σ H s) (hv : Vals ys its) (hz : ys.length ≤ sizeLine) :
    Inv X pins σ (upd H s.heap.objs.size (.lst ys)) { s with heap := s.heap.push { cls := .type "list", data := .seq its.toArray }, toks := t' } :=
  I.laid (fun _ _ q => Heap.get?_push_of_some _ q) (Nat.le_refl _) ⟨hz, its, 0, hv, Heap.get?_push_size _ rfl⟩
theorem Inv.fresh (I : Inv X pins σ H s) : H s.heap.objs.size = none := I.hok.fresh (Nat.le_refl _)
theorem Inv.lstM (I : Inv X pins σ H s) (hH : H l = some (.lst xs)) : xs.length ≤ sizeLine ∧ ∃ (its : List Value) (n : Nat), Vals xs its ∧ xs.length = its.length ∧ s.heap.get? l = some { cls := .type "list", data := .seq its.toArray n } := by
  obtain ⟨z, its, n, r, e⟩ := I.hok l _ hH
  exact ⟨z, its, n, r, r.length, e⟩
theorem notLongL {n : Nat} (h : n ≤ sizeLine) : Builtin.List.listTooLong n = false := by
  unfold Builtin.List.listTooLong
  exact decide_eq_false (by omega)
end
section
variable {X : Cx}
def rAppend : V → List V → Hp → VK → Prop := fun x vs H Q => ∃ l xs y, x = .ref l ∧ vs = [y] ∧ H l = some (.lst xs) ∧ xs.length < sizeLine ∧ Q .non (upd H l (.lst (xs ++ [y])))
theorem mt_append : MtM X "list.append" rAppend := by
  intro pins s σ H x vs v us Q I rx rv h
  obtain ⟨l, xs, y, rfl, rfl, hH, hz, q⟩ := h
  cases rx
  obtain ⟨u, rfl, ru⟩ := rv.one
  obtain ⟨z, its, n, r, hl, e⟩ := I.lstM hH
  refine call_meets F.slot_list_append ⟨_, e, rfl⟩ F.entry_list_append (F.args_list_append_2 _ _) (PySem.list_append l its.toArray n u (by rw [List.size_toArray]; omega)) ⟨e, ?_⟩
  refine ⟨.non, _, I.lset (its' := its ++ [u]) hH e (by simp) (r.append (.cons ru .nil)) ?_, rfl, q⟩
  rw [List.length_append, List.length_singleton]
  omega
def rCat : R2 := fun x y H Q => ∃ l b xs zs, x = .ref l ∧ y = .ref b ∧ H l = some (.lst xs) ∧ H b = some (.lst zs) ∧ xs.length + zs.length ≤ sizeLine ∧ ∀ p, H p = none → Q (.ref p) (upd H p (.lst (xs ++ zs)))
theorem op_cat : OpR X (binaryOp .Add) rCat := by
  intro pins s σ H x y v u Q I rx ry h
  obtain ⟨l, b, xs, zs, rfl, rfl, hH, hB, hz, q⟩ := h
  cases rx
  cases ry
  obtain ⟨z, its, n, r, hl, e⟩ := I.lstM hH
  obtain ⟨z2, its2, n2, r2, hl2, e2⟩ := I.lstM hB
  refine PySem.P.add_list e e2 ?_ (by rw [List.size_toArray, List.size_toArray]; omega)
  have ea : its.toArray ++ its2.toArray = (its ++ its2).toArray := by simp
  rw [ea]
  exact ⟨.ref _, _, I.lnew (t' := s.toks) (r.append r2) (by rw [List.length_append]; omega), rfl, q _ I.fresh⟩
def rRep : R2 := fun x y H Q => ∃ l k xs, x = .ref l ∧ y = .int k ∧ H l = some (.lst xs) ∧ -(2 ^ 63) ≤ k ∧ k < 2 ^ 63 ∧ xs.length * k.toNat ≤ sizeLine ∧
  ∀ p, H p = none → Q (.ref p) (upd H p (.lst (List.replicate k.toNat xs).flatten))
theorem len_rep {α : Type} (xs : List α) (k : Nat) : (List.replicate k xs).flatten.length = k * xs.length := by
  induction k with
  | zero => simp
  | succ k ih => rw [List.replicate_succ, List.flatten_cons, List.length_append, ih, Nat.succ_mul, Nat.add_comm]
theorem op_rep : OpR X (binaryOp .Mult) rRep := by
  intro pins s σ H x y v u Q I rx ry h
  obtain ⟨l, k, xs, rfl, rfl, hH, h1, h2, hz, q⟩ := h
  cases rx
  obtain ⟨t, rfl⟩ := ry
  obtain ⟨z, its, n, r, hl, e⟩ := I.lstM hH
  have hlen : its.toArray.size * k.toNat ≤ sizeLine := by rw [List.size_toArray, ← hl]; exact hz
  have hcap : ¬ its.toArray.size * k.toNat > (2 ^ 63 - 1) / 8 := by
    have : (sizeLine : Nat) ≤ (2 ^ 63 - 1) / 8 := by decide
    omega
  have hfit : ¬ (!Builtin.List.listFitsIndex k) = true := by
    rw [fitsIndex_both h1 h2]
    exact Bool.false_ne_true
  have hlong : ¬ Builtin.List.listTooLong (its.toArray.size * k.toNat) = true := by
    rw [notLongL hlen]
    exact Bool.false_ne_true
  have hnew : List.foldl (fun x1 x2 => x1 ++ x2) #[] (List.replicate (if its.toArray.isEmpty = true then 0 else k.toNat) its.toArray) = (List.replicate k.toNat its).flatten.toArray := by
    have f0 : ∀ m : Nat, List.foldl (fun x1 x2 => x1 ++ x2) #[] (List.replicate m its.toArray) = (List.replicate m its).flatten.toArray := fun m => by
      have := foldl_rep its m []
      rw [List.nil_append] at this
      exact this
    rw [f0]
    cases its with
    | nil => simp
    | cons a r' => rw [if_neg (by simp)]
  refine wpAny_binaryOp_repeat_ref (T := "list") (U := "int") (by decide) ⟨_, e, rfl⟩ (fun s' => typeIs_int s' k t) noFill_list_mul F.fills_int_mul F.slot_int_rmul repeat_list F.slot_int_index.lookup
    (call_meets F.slot_int_rmul (typeIs_int s k t) F.entry_int_rmul (F.args_int_rmul_2 _ _) (int___rmul___int_list k t l its.toArray n)
      ⟨e, rfl, ⟨_, e, rfl⟩, call_meets F.slot_list_mul ⟨_, e, rfl⟩ F.entry_list_mul (F.args_list_mul_2 _ _) (AutoListH.list___mul___list_int_3 l its.toArray n k t hfit hcap hlong) ⟨e, ?_⟩⟩)
  rw [hnew]
  exact ⟨.ref _, _, I.lnew (t' := s.toks) (r.rep k.toNat) (by rw [len_rep, Nat.mul_comm]; exact hz), rfl, q _ I.fresh⟩
end
section
variable {prog : Program} {w : World} {A : Around} {E : Value → Shared → Prop} {s : Shared}
end
section
variable {X : Cx}
end
end L2
namespace Att
open PySem PySem.W PySem.Calls PyProof.Rows
theorem ints_of_wellAll {P : Params} {h : Heap} : ∀ (ns : List Int) (vs : List Value), WellAll P h vs (ns.map WData.int) → IntsAre vs ns := by
  intro ns
  induction ns with
  | nil =>
    intro vs w
    rw [List.map_nil] at w
    cases w
    exact .nil
  | cons n ns ih =>
    intro vs w
    rw [List.map_cons] at w
    cases w with
    | cons a b =>
      cases a
      exact .cons _ _ (ih _ b)
theorem script_of {l : OpenLaw} {n : Nat} (hn : l.most = some n) {P : Params} {h : Heap} {args : List WData} {vals : List Value}
    (hpre : l.row.toRowW.claim.pre args = true) (hwl : WellAll P h vals args) :
    ∃ a vs ns, vals = [Value.ref a] ∧ args = [WData.list (ns.map WData.int)] ∧ h.get? a = some { cls := .type "list", data := .seq vs.toArray } ∧ IntsAre vs ns ∧ ns.length ≤ n := by
  have hsh : WShape.hasAll [] args [.list .int] = true := (pre_splitW hpre).1
  have hc : l.pre.holds [] { args := args } = true := (pre_splitW hpre).2
  obtain ⟨d, r, rfl, h1, h2⟩ := hasAllW_cons hsh
  obtain rfl := hasAllW_nil h2
  obtain ⟨xs, rfl, h3⟩ := hasW_list h1
  obtain ⟨ns, rfl⟩ := items_int h3
  have hlen : ns.length ≤ n := by
    unfold OpenLaw.pre at hc
    have h4 : (WTm.not (.lt (.lit (.int (n : Int))) (.len (.arg 0)))).holds [] { args := [.list (ns.map .int)] } = true := by
      have h4 := (holds_andW hc).1
      rw [hn] at h4
      exact h4
    have h5 := condW_of h4 (w_not (w_lt w_lit (w_len_list (w_arg rfl))))
    rw [List.length_map] at h5
    refine Nat.le_of_not_lt fun q => ?_
    have q' : (n : Int) < ((ns.length : Nat) : Int) := by omega
    first
      | (rw [decide_eq_true q'] at h5; exact absurd h5 (by decide))
      | (simp at h5; omega)
  cases hwl with
  | cons w1 w2 =>
    cases w2
    cases w1 with
    | list ho hall => exact ⟨_, _, ns, rfl, rfl, ho, ints_of_wellAll ns _ hall, hlen⟩
theorem post_true (l : OpenLaw) (args : List WData) : l.row.toRowW.claim.post args (.bool true) args = true :=
  postW_of (r := l.row.toRowW) (X := (true == true))
    (show WShape.has [] (.bool true) .bool = true by first | rfl | decide | simp [WShape.has, WShape.arms, WShape.armsAll])
    (show (WTm.eq .res (.lit (.bool true))).value [] { args := args, res := some (.bool true), after := args } = some (.bool (true == true)) from w_eq_bool (w_res rfl) w_lit) rfl
theorem attach_call {l : OpenLaw} {n : Nat} {q : Program} {loose : List Str} {XP : (Str → Option Value) → Heap → Prop} {YP : World → Heap → Prop} {d : DefRec}
    (hn : l.most = some n) (hdf : d.params.defaults = [])
    (call : ∀ (w : World) (s₀ s₁ : Shared) (mg mb : Str → Option Value) (fa : Addr) (o : Obj) (pm cd doc : Value) (a : Addr) (vs : List Value) (ns : List Int),
      Ground q loose [] XP w s₀ mg mb s₁.heap → YP w s₁.heap →
      s₁.heap.get? fa = some o → o.data = .func (docDef d.name d.params d.body d.scope pm cd doc) → s₁.heap.CodeRec cd d.name → mg d.name = some (.ref fa) →
      s₁.heap.get? a = some { cls := .type "list", data := .seq vs.toArray } → IntsAre vs ns → ns.length ≤ n → s₁.gens = #[] →
      codeAny (model l.prog w) callerA (.call (.ref fa) ⟨[.ref a], []⟩) (fun r s' => r = .ok (.ret (.bool true)) ∧ OldK s₁.heap s'.heap ∧ s'.os = s₁.os ∧ AllBare s'.gens) s₁) :
    WalkO q loose XP YP l.row.toRowW d [] (fun f vs => PySem.call f vs) := by
  intro w s₀ s₁ mg mb G Y fa o pm cd doc dV kV ho hd hcd hD hmg hg args vals as hpre hlay hrd hwl hlo
  obtain rfl : dV = .none := Dflts.none hD hdf
  obtain rfl : kV = .none := Dflts.noKw hD
  obtain ⟨a, vs, ns, rfl, rfl, hobj, hints, hlen⟩ := script_of hn hpre hwl
  refine enter_call (codeAny_mono (call w s₀ s₁ mg mb fa o pm cd doc a vs ns G Y ho (fd_plain hd) hcd hmg hobj hints hlen hg) fun r s' hq => ?_)
  obtain ⟨rfl, h2, h3, h4⟩ := hq
  exact ⟨.inl ⟨.bool true, .bool true, [], rfl, fun _ => rfl, .bool true, post_true l _, fun _ => ⟨List.Pairwise.nil, fun _ hm => (nomatch hm)⟩⟩, h2, h3, h4⟩
section
variable {prog : Program} {w : World} {A : Around} {E : Value → Shared → Prop} {s : Shared} {K : Frag}
end
end Att
namespace L2
open PySem PySem.Spec PyProof.Rows
theorem vals_ints : ∀ {vs : List Value} {ns : List Int}, IntsAre vs ns → Vals (ns.map V.int) vs
  | _, _, .nil => .nil
  | _, _, .cons n t h => .cons ⟨t, rfl⟩ (vals_ints h)
end L2
namespace L2
open PySem PySem.Spec PyProof.Rows
end L2
/- THE LAST THEOREM (shape; LID, My.* are yours):
   My.Adr: a structure of the addresses that your layer names (classes, functions); My.Txt K t: a structure (Prop) of the equations over K;
   My.txt_mk : {K} {implicit addresses ..} (e1 : nsIn K mainGlobals "law" = some (some (.ref f))) (e2 : K.lookup f = some ⟨oc, od, .func (fnOf "law" "law" params body scope dV kV doc pm an cdv ct), sl⟩) (e3 : codeIn K cdv "law" = true) .. : ∃ t, My.Txt K t
set_option maxRecDepth 100000 in
set_option maxHeartbeats 0 in
theorem PySem.Challenge.cw_LID_holds : PySem.Challenge.rw_LID.Holds := by
  w_on; o_law; k_head; (case hw => w_witness2)
  k_fill
  refine L2.walk_of (l := PySem.Challenge.rw_LID) (n := 63) (k := 40) (x := "script") (CX := fun w => ..) (sp := fun _ => My.sp_law) rfl (by decide) rfl ⟨rfl, by decide, by decide⟩ (fun w h Y => PySem.W.kIn_of Y) ?F ?S ?C
  case F =>
    intro w mg fa h KX G hmg
    have T : ∃ t, My.Txt (L2.KOf KX) t := by
      dsimp only [L2.KOf]                          -- K must stand as «<heap const> w.params» for k_is
      refine' My.txt_mk ?e1 ?e2 ?e3 ..
      (case e1 => PySem.W.k_is)                    -- in the order: a name -> its address -> its object -> its parts
      (case e2 => PySem.W.k_is)
      ..
    obtain ⟨t, T⟩ := T
    have e0 := hmg.symm.trans (PySem.W.mg_of KX G T.law)
    cases e0                                       -- fa is the law's own address
    exact ⟨_, fun s u => .of_eq rfl, fun base kb nb => My.law_fn T kb nb⟩     -- if «.of_eq rfl» comes too early: refine' ⟨_, ?b, fun base kb nb => My.law_fn T kb nb⟩; exact fun s u => .of_eq rfl
  case S => exact fun w H a ns hl hO hS => ..
  case C => exact ..
(the tactic k_is has no namespace: write k_is) -/
namespace L2
open PySem PySem.Spec PyProof.Rows
def defArgs (s : Stmt) : Arguments := match s with
  | .FunctionDef _ a _ _ _ _ _ _ _ _ => a
  | _ => { posonlyargs := [], args := [], vararg := none, kwonlyargs := [], kw_defaults := [], kwarg := none, defaults := [] }
def defBody (s : Stmt) : List Stmt := match s with
  | .FunctionDef _ _ b _ _ _ _ _ _ _ => b
  | _ => []
def defScope (s : Stmt) : Scope := match s with
  | .FunctionDef _ _ _ _ _ _ sc _ _ _ => sc
  | _ => { kind := .function, names := [], isGenerator := false, isCoroutine := false }
abbrev CX0 : CXT := fun _ _ _ _ _ _ => False
abbrev E0 : XK := fun _ _ _ => False
structure Fun (K : PySem.W.Frag) (x qual : Str) (st : Stmt) (f : Addr) (fd : FuncData) : Prop where
  ex : ∃ (oc : Value) (od : Option Addr) (kV doc pm : Value) (an : Option Addr) (cdv ct : Value) (osl : Array (Option Value)),
    fd = PySem.W.fnOf x qual (defArgs st) (defBody st) (defScope st) .none kV doc pm an cdv ct ∧ K.lookup f = some ⟨oc, od, .func fd, osl⟩ ∧ PySem.W.codeIn K cdv qual = true
  kp : PySem.W.keepIn K (.ref f) = true
section
variable {P : Program} {w : World} {K : PySem.W.Frag} {mg : Str → Option Value} {base : Heap}
theorem Fun.binds {x qual : Str} {st : Stmt} {f : Addr} {fd : FuncData} {ps : List Str} (F : Fun K x qual st f fd)
    (h : ∀ (kV doc pm : Value) (an : Option Addr) (cdv ct : Value) (us : List Value), us.length = ps.length → bindArgs (PySem.W.fnOf x qual (defArgs st) (defBody st) (defScope st) .none kV doc pm an cdv ct) ⟨us, []⟩ = pure (ps.zip us)) : Binds K fd ps [] := by
  obtain ⟨oc, od, kV, doc, pm, an, cdv, ct, osl, rfl, lk, hcd⟩ := F.ex
  exact .all (h kV doc pm an cdv ct)
theorem fun_mk {x qual : Str} {st : Stmt} {f : Addr} {oc : Value} {od an : Option Addr} {osl : Array (Option Value)} {kV doc pm cdv ct : Value} (l : K.lookup f = some ⟨oc, od, .func (PySem.W.fnOf x qual (defArgs st) (defBody st) (defScope st) .none kV doc pm an cdv ct), osl⟩)
    (c : PySem.W.codeIn K cdv qual = true) (k : PySem.W.keepIn K (.ref f) = true) : Fun K x qual st f (PySem.W.fnOf x qual (defArgs st) (defBody st) (defScope st) .none kV doc pm an cdv ct) := ⟨⟨oc, od, kV, doc, pm, an, cdv, ct, osl, rfl, l, c⟩, k⟩
end
section
variable {X : Cx}
theorem pv (i : Nat) {x : Str} {pos : Pos} (hN : X.N[i]? = some x := by rfl) (hv : Vis X.env.scope x := by first | exact Or.inl rfl | exact Or.inr (Or.inl rfl) | exact Or.inr (Or.inr rfl)) (hd : (x == ("__debug__" : Str)) = false := by decide)
    (hcd : (x == ("__classdict__" : Str)) = false := by decide) : PE X (.Name x pos) (tVar i) := pe_var hN hv hd hcd
end
theorem iteF {A B : Prop} (h : B) : if false = true then A else B := by
  rw [if_neg Bool.false_ne_true]
  exact h
def Same (H H' : Hp) : Prop := ∀ b o, H b = some o → H' b = some o
theorem Same.refl (H : Hp) : Same H H := fun _ _ h => h
theorem Same.trans {H H1 H2 : Hp} (a : Same H H1) (b : Same H1 H2) : Same H H2 := fun c o h => b c o (a c o h)
theorem Same.free {H H' : Hp} (e : Same H H') {l : Addr} (h : H' l = Option.none) : H l = Option.none := by
  cases q : H l with
  | none => rfl
  | some o =>
    rw [e l o q] at h
    cases h
theorem Same.seq {K : PySem.W.Frag} {H H' : Hp} {a : Addr} {xs : List V} (e : Same H H') (h : SqL K H a xs) : SqL K H' a xs := by
  rcases h with (h | ⟨o, h⟩) | h
  · exact .inl (.inl (e _ _ h))
  · exact .inl (.inr ⟨o, e _ _ h⟩)
  · exact .inr h
end L2
namespace L2
open PySem PySem.Spec PyProof.Rows
def closL (cells : List (Str × Addr)) : List (Str × NameKind) → List (Str × Addr) → List (Str × Addr)
  | [], acc => acc
  | (n, k) :: r, acc => if k == .free then closL cells r ((n, (cells.lookup n).getD 0) :: acc) else closL cells r acc
theorem clos_forIn {env : Env} : ∀ (names : List (Str × NameKind)) (acc : List (Str × Addr)), (∀ n, (n, NameKind.free) ∈ names → ∃ c, env.cells.lookup n = some c) →
    (forIn (m := Sem) names acc fun (x : Str × NameKind) (cs : List (Str × Addr)) => match x with
      | (name, kind) => if (kind == NameKind.free) = true then (do let a ← cellOf env name; pure (ForInStep.yield ((name, a) :: cs))) else pure (ForInStep.yield cs)) = pure (closL env.cells names acc)
  | [], acc, _ => by rw [List.forIn_nil]; rfl
  | (n, k) :: r, acc, h => by
    rw [List.forIn_cons]
    unfold closL
    by_cases hk : (k == NameKind.free) = true
    · obtain ⟨c, hc⟩ := h n (by have := eq_of_beq hk; subst this; exact List.mem_cons_self)
      have e : cellOf env n = pure c := by unfold cellOf; rw [hc]
      simp only [hk, if_true]
      rw [e, hc]
      exact clos_forIn r _ fun m hm => h m (List.mem_cons_of_mem _ hm)
    · simp only [hk]
      exact clos_forIn r _ fun m hm => h m (List.mem_cons_of_mem _ hm)
theorem closureFor_eq {scope : Scope} {env : Env} (h : ∀ n, (n, NameKind.free) ∈ scope.names → ∃ c, env.cells.lookup n = some c) : closureFor scope env = pure (closL env.cells scope.names []) := by
  have q := clos_forIn (env := env) scope.names [] h
  unfold closureFor
  exact (congrArg (fun m => m >>= fun cs => pure cs) q)
theorem closL_not {cells : List (Str × Addr)} {x : Str} : ∀ {names : List (Str × NameKind)} {acc : List (Str × Addr)}, (x, NameKind.free) ∉ names → (closL cells names acc).lookup x = acc.lookup x
  | [], _, _ => rfl
  | (n, k) :: r, acc, h => by
    unfold closL
    by_cases hk : (k == NameKind.free) = true
    · rw [if_pos hk, closL_not fun z => h (List.mem_cons_of_mem _ z), List.lookup_cons]
      have : (x == n) = false := by
        cases e : x == n with
        | false => rfl
        | true =>
          have e1 := eq_of_beq e
          have e2 := eq_of_beq hk
          subst e1; subst e2
          exact absurd List.mem_cons_self h
      rw [this]
    · rw [if_neg hk, closL_not fun z => h (List.mem_cons_of_mem _ z)]
theorem closL_free {cells : List (Str × Addr)} {x : Str} : ∀ {names : List (Str × NameKind)} {acc : List (Str × Addr)}, (x, NameKind.free) ∈ names → (closL cells names acc).lookup x = some ((cells.lookup x).getD 0)
  | (n, k) :: r, acc, h => by
    unfold closL
    by_cases hr : (x, NameKind.free) ∈ r
    · by_cases hk : (k == NameKind.free) = true
      · rw [if_pos hk]; exact closL_free hr
      · rw [if_neg hk]; exact closL_free hr
    · rcases List.mem_cons.mp h with e | e
      · cases e
        rw [if_pos (show (NameKind.free == NameKind.free) = true from rfl), closL_not hr, List.lookup_cons]
        simp
      · exact absurd e hr
theorem cellsFrom_acc : ∀ (names : List (Str × NameKind)) (n : Nat) (acc : List (Str × Addr)), cellsFrom n names acc = cellsFrom n names [] ++ acc
  | [], _, _ => rfl
  | (x, k) :: r, n, acc => by
    unfold cellsFrom
    by_cases hk : (k == NameKind.cell) = true
    · rw [if_pos hk, if_pos hk, cellsFrom_acc r (n + 1) ((x, n) :: acc), cellsFrom_acc r (n + 1) [(x, n)], List.append_assoc]; rfl
    · rw [if_neg hk, if_neg hk]; exact cellsFrom_acc r n acc
theorem cellsFrom_mem {x : Str} {c : Addr} : ∀ {names : List (Str × NameKind)} {n : Nat}, (x, c) ∈ cellsFrom n names [] → (x, NameKind.cell) ∈ names ∧ n ≤ c
  | [], _, h => nomatch h
  | (y, k) :: r, n, h => by
    unfold cellsFrom at h
    by_cases hk : (k == NameKind.cell) = true
    · rw [if_pos hk, cellsFrom_acc] at h
      rcases List.mem_append.mp h with h | h
      · obtain ⟨h1, h2⟩ := cellsFrom_mem h
        exact ⟨List.mem_cons_of_mem _ h1, by omega⟩
      · have e : (x, c) = (y, n) := by simpa using h
        cases e
        have := eq_of_beq hk
        subst this
        exact ⟨List.mem_cons_self, Nat.le_refl _⟩
    · rw [if_neg hk] at h
      obtain ⟨h1, h2⟩ := cellsFrom_mem h
      exact ⟨List.mem_cons_of_mem _ h1, h2⟩
structure CompScope (sc : Scope) (N own : List Str) (scope : Scope) : Prop where
  kind : scope.kind = .function
  frees : ∀ n, (n, NameKind.free) ∈ scope.names → sc.names.lookup n = some .cell ∨ sc.names.lookup n = some .free
  own : ∀ x ∈ own, (x, NameKind.free) ∉ scope.names
  out : ∀ x ∈ N, scope.names.lookup x ≠ some .local ∧ scope.names.lookup x ≠ some .cell
  uniq : ∀ p ∈ scope.names, scope.names.lookup p.1 = some p.2
def compLook (sc : Scope) (N own : List Str) (scope : Scope) : Bool :=
  (scope.kind == .function) && scope.names.all (fun p => p.2 != .free || (sc.names.lookup p.1 == some .cell) || (sc.names.lookup p.1 == some .free)) &&
  own.all (fun x => scope.names.all fun p => !(p.1 == x && p.2 == .free)) && N.all (fun x => scope.names.lookup x != some .local && scope.names.lookup x != some .cell) &&
  scope.names.all (fun p => scope.names.lookup p.1 == some p.2)
theorem CompScope.of {sc : Scope} {N own : List Str} {scope : Scope} (h : compLook sc N own scope = true) : CompScope sc N own scope := by
  unfold compLook at h
  simp only [Bool.and_eq_true] at h
  obtain ⟨⟨⟨⟨h1, h2⟩, h3⟩, h4⟩, h5⟩ := h
  refine ⟨eq_of_beq h1, fun n hn => ?_, fun x hx hn => ?_, fun x hx => ?_, fun p hp => ?_⟩
  · have := List.all_eq_true.mp h2 _ hn
    simp only [Bool.or_eq_true, bne_self_eq_false, Bool.false_eq_true, false_or] at this
    rcases this with q | q
    · exact .inl (eq_of_beq q)
    · exact .inr (eq_of_beq q)
  · have := List.all_eq_true.mp (List.all_eq_true.mp h3 x hx) _ hn
    simp at this
  · have := List.all_eq_true.mp h4 x hx
    simp only [Bool.and_eq_true, bne_iff_ne] at this
    exact this
  · exact eq_of_beq (List.all_eq_true.mp h5 p hp)
theorem lookup_relabel {env : Env} {x : Str} : ∀ (names : List (Str × NameKind)),
    (names.map fun (n, k) => if (k == NameKind.free && env.scope.kind == .function && env.kindOf n == some .cell) then (n, NameKind.cell) else (n, k)).lookup x
      = (names.lookup x).map fun k => if (k == NameKind.free && env.scope.kind == .function && env.kindOf x == some .cell) then NameKind.cell else k
  | [] => rfl
  | (n, k) :: r => by
    have ih := lookup_relabel (env := env) (x := x) r
    rw [List.map_cons]
    show List.lookup x ((if (k == NameKind.free && env.scope.kind == .function && env.kindOf n == some .cell) = true then (n, NameKind.cell) else (n, k)) :: _) = _
    by_cases hc : (k == NameKind.free && env.scope.kind == .function && env.kindOf n == some .cell) = true
    · rw [if_pos hc, List.lookup_cons, List.lookup_cons]
      cases hx : x == n with
      | true => have := eq_of_beq hx; subst this; exact congrArg some (if_pos hc).symm
      | false => exact ih
    · rw [if_neg hc, List.lookup_cons, List.lookup_cons]
      cases hx : x == n with
      | true => have := eq_of_beq hx; subst this; exact congrArg some (if_neg hc).symm
      | false => exact ih
theorem mem_of_lookupK {names : List (Str × NameKind)} {x : Str} {k : NameKind} (h : names.lookup x = some k) : (x, k) ∈ names := PySem.mem_of_lookup h
def cenvOf (scope : Scope) (C : Addr) (env : Env) : Env :=
  { scope := relabel scope env, locals := C, globals := env.globals, cells := cellsFrom (C + 1) scope.names (closL env.cells scope.names []), qual := env.qual, func := none, code := env.code, frame := env.frame, builtins := env.builtins }
theorem wp_newCompEnv {M : Model} {A : Around} {E : Value → Shared → Prop} {s : Shared} {scope : Scope} {env : Env} {cl : List (Str × Addr)} {Q : Env → Shared → Prop}
    (hQ : Q { scope := scope, locals := s.heap.objs.size, globals := env.globals, cells := cellsFrom (s.heap.objs.size + 1) scope.names cl, qual := env.qual, func := none, code := env.code, frame := env.frame, builtins := env.builtins }
      { s with heap := pushCells (s.heap.push { cls := .type "dict", data := .dict #[] }) scope.names }) :
    wpAny M A (newFunctionEnv scope env.globals cl [] env.qual none .none (some env)) Q E s := by
  simp only [newFunctionEnv, Option.isSome_some, if_true]
  refine wpAny_bind (wpAny_alloc ?_)
  refine wpAny_bind (wpAny_layCells _ (fun name kind cells => by cases hkc : kind == NameKind.cell <;> simp [hkc]) _ _ _ _ ?_)
  rw [show ({ s with heap := s.heap.push { cls := .type "dict", data := .dict #[] } } : Shared).heap.objs.size = s.heap.objs.size + 1 from Heap.size_push ..]
  exact wpAny_pure hQ
def cxComp (X : Cx) (own : List Str) (scope : Scope) (C : Addr) (s2 : Shared) (H2 : Hp) (fp : List Addr) (pins : List (Addr × Obj)) : Cx where
  prog := X.prog
  w := X.w
  K := X.K
  mg := X.mg
  base := X.base
  A := X.A
  N := own ++ X.N
  s₀ := s2
  H₀ := H2
  env := cenvOf scope C X.env
  outer := X.stack
  stack := X.stack
  ex := fp
  fn := fun x => own.any (· == x)
  calm := X.calm
  pn := X.pn ++ pins
  xe := fun _ _ => False
section
variable {X : Cx} {own : List Str} {scope : Scope} {pins : List (Addr × Obj)} {σ : St} {H2 : Hp} {s2 : Shared} {fp : List Addr}
theorem relabel_lookup (x : Str) : (relabel scope X.env).names.lookup x = (scope.names.lookup x).map fun k => if (k == NameKind.free && X.env.scope.kind == .function && X.env.kindOf x == some .cell) then NameKind.cell else k :=
  lookup_relabel _
theorem cells_split {C : Addr} {x : Str} {c : Addr} (h : (cenvOf scope C X.env).cells.lookup x = some c) : ((x, c) ∈ cellsFrom (C + 1) scope.names [] ∧ (x, NameKind.cell) ∈ scope.names ∧ C + 1 ≤ c) ∨ (closL X.env.cells scope.names []).lookup x = some c := by
  have h' : (cellsFrom (C + 1) scope.names (closL X.env.cells scope.names [])).lookup x = some c := h
  rw [cellsFrom_acc, List.lookup_append] at h'
  cases e : (cellsFrom (C + 1) scope.names []).lookup x with
  | some d =>
    rw [e] at h'
    cases h'
    have m := PySem.mem_of_lookup e
    exact .inl ⟨m, cellsFrom_mem m⟩
  | none =>
    rw [e] at h'
    exact .inr h'
theorem clos_old (I : Inv X pins σ H2 s2) (CS : CompScope X.env.scope X.N own scope) {x : Str} {c : Addr} (h : (closL X.env.cells scope.names []).lookup x = some c) : (x, NameKind.free) ∈ scope.names ∧ X.env.cells.lookup x = some c := by
  by_cases hf : (x, NameKind.free) ∈ scope.names
  · refine ⟨hf, ?_⟩
    rw [closL_free hf] at h
    obtain ⟨d, hd⟩ := I.ok.has x (CS.frees x hf)
    rw [hd] at h
    cases h
    exact hd
  · rw [closL_not hf] at h
    cases h
theorem comp_ok (I : Inv X pins σ H2 s2) (CS : CompScope X.env.scope X.N own scope) {C : Addr} (hC : s2.heap.objs.size ≤ C) (hf : ∀ b ∈ fp, FpOk X pins H2 b) (hl : ∀ b ∈ fp, b < s2.heap.objs.size) : (cxComp X own scope C s2 H2 fp pins).Ok := by
  have old : ∀ x c, (closL X.env.cells scope.names []).lookup x = some c → X.env.cells.lookup x = some c ∧ c < s2.heap.objs.size := fun x c h => by
    obtain ⟨_, q⟩ := clos_old I CS h
    obtain ⟨v, z⟩ := I.cell x c q
    exact ⟨q, z.lt⟩
  refine ⟨I.ok.mod, CS.kind, I.ok.glob, I.ok.blt, hC, fun x y c h1 h2 => ?_, fun x hx => ?_, fun x c hx h => ?_, I.ok.hd, I.ok.frames, .inl rfl, fun b hb => ⟨?_, fun x c h => ?_⟩, I.bs, Nat.le_trans I.ok.bsz I.sz, fun b o e hb => ?_, fun b hb z => ?_, I.stack, I.stkFree⟩
  · rcases cells_split h1 with ⟨a1, _, a2⟩ | a1 <;> rcases cells_split h2 with ⟨b1, _, b2⟩ | b1
    · have ap := (cellsFrom_ok scope.names { (default : Heap) with objs := Array.replicate (C + 1) default } (C + 1) [] ⟨fun _ _ hm => (nomatch hm), List.Pairwise.nil⟩ (by simp)).apart
      simp only [Array.size_replicate] at ap
      exact name_of_addr ap a1 b1
    · exact absurd (Nat.lt_of_lt_of_le (old y c b1).2 (Nat.le_trans hC (Nat.le_trans (Nat.le_succ _) a2))) (Nat.lt_irrefl _)
    · exact absurd (Nat.lt_of_lt_of_le (old x c a1).2 (Nat.le_trans hC (Nat.le_trans (Nat.le_succ _) b2))) (Nat.lt_irrefl _)
    · exact I.ok.inj x y c (old x c a1).1 (old y c b1).1
  · have hx' : (relabel scope X.env).names.lookup x = some .cell ∨ (relabel scope X.env).names.lookup x = some .free := hx
    rw [relabel_lookup] at hx'
    show ∃ c, (cellsFrom (C + 1) scope.names (closL X.env.cells scope.names [])).lookup x = some c
    refine Option.isSome_iff_exists.mp (PySem.W.cellsFrom_some _ _ _ ?_)
    cases e : scope.names.lookup x with
    | none => rw [e] at hx'; simp at hx'
    | some k =>
      rw [e] at hx'
      by_cases hk : k = .free
      · subst hk
        exact .inr (by rw [closL_free (mem_of_lookupK e)]; rfl)
      · have hb : (k == NameKind.free) = false := by simpa using hk
        simp only [Option.map_some, hb, Bool.false_and, Bool.false_eq_true, if_false, Option.some.injEq] at hx'
        rcases hx' with q | q
        · exact .inl (by rw [q])
        · exact absurd q hk
  · obtain ⟨y, hy, e⟩ := List.any_eq_true.mp hx
    have := eq_of_beq e
    subst this
    rcases cells_split h with ⟨_, _, a⟩ | a
    · exact Nat.le_trans hC (Nat.le_trans (Nat.le_succ _) a)
    · exact absurd (clos_old I CS a).1 (CS.own _ hy)
  · exact Nat.ne_of_lt (Nat.lt_of_lt_of_le (hl b hb) hC)
  · rcases cells_split h with ⟨_, _, a⟩ | a
    · exact Ne.symm (Nat.ne_of_lt (Nat.lt_of_lt_of_le (hl b hb) (Nat.le_trans hC (Nat.le_trans (Nat.le_succ _) a))))
    · exact (hf b hb).2.2.2.2.1 x c (old x c a).1
  · rcases (hf b hb).2.2.2.1 with z | z
    · exact I.ok.noex b o e z
    · exact absurd (Nat.lt_of_lt_of_le (Heap.lt_size e) (Nat.le_trans I.ok.bsz z)) (Nat.lt_irrefl _)
  · rcases List.mem_cons.mp (I.stkSub b z) with e | e
    · exact (hf b hb).2.1 e
    · exact (hf b hb).2.2.1 e
theorem comp_loc (I : Inv X pins σ H2 s2) (CS : CompScope X.env.scope X.N own scope) {C : Addr} {h : Heap} (hc : ∀ c v, s2.heap.IsCell c v → (∃ x, X.env.cells.lookup x = some c) → h.IsCell c v) {m : Str → Option Value} :
    ∀ (i : Nat) (x : Str) (v : V), (own ++ X.N)[i]? = some x → (List.replicate own.length (none : Option V) ++ σ)[i]? = some (some v) → Vis (relabel scope X.env) x → ∃ u, RelV v u ∧ Look (cenvOf scope C X.env) h m x u := by
  intro i x v h1 h2 h3
  have hi : own.length ≤ i := by
    by_cases hi : own.length ≤ i
    · exact hi
    · rw [List.getElem?_append_left (by simpa using hi), List.getElem?_replicate] at h2
      split at h2 <;> cases h2
  rw [List.getElem?_append_right hi] at h1
  rw [List.getElem?_append_right (by simpa using hi), List.length_replicate] at h2
  have hN := CS.out x (List.mem_of_getElem? h1)
  have hfr : scope.names.lookup x = some .free := by
    unfold Vis at h3
    rw [relabel_lookup] at h3
    cases e : scope.names.lookup x with
    | none => rw [e] at h3; simp at h3
    | some k =>
      rw [e] at h3 hN
      by_cases hk : k = .free
      · rw [hk]
      · have hb : (k == NameKind.free) = false := by simpa using hk
        simp only [Option.map_some, hb, Bool.false_and, Bool.false_eq_true, if_false, Option.some.injEq] at h3
        rcases h3 with q | q | q
        · exact absurd (by rw [q]) hN.1
        · exact absurd (by rw [q]) hN.2
        · exact absurd q hk
  have hm := mem_of_lookupK hfr
  have hk := CS.frees x hm
  obtain ⟨mX, hn, hl⟩ := I.loc
  obtain ⟨u, r, l⟩ := hl _ x v h1 h2 (hk.elim (fun z => .inr (.inl z)) fun z => .inr (.inr z))
  refine ⟨u, r, ?_⟩
  rcases l with ⟨z, _⟩ | ⟨_, c, hcx, z⟩
  · have z' : X.env.scope.names.lookup x = some .local := z
    rcases hk with q | q <;> rw [q] at z' <;> cases z'
  · refine .inr ⟨?_, c, ?_, hc c _ z ⟨x, hcx⟩⟩
    · show (relabel scope X.env).names.lookup x = some .cell ∨ (relabel scope X.env).names.lookup x = some .free
      rw [relabel_lookup, hfr]
      simp only [Option.map_some]
      split
      · exact .inl rfl
      · exact .inr rfl
    · show (cellsFrom (C + 1) scope.names (closL X.env.cells scope.names [])).lookup x = some c
      rw [cellsFrom_acc, List.lookup_append]
      have no : (cellsFrom (C + 1) scope.names []).lookup x = none := by
        cases e : (cellsFrom (C + 1) scope.names []).lookup x with
        | none => rfl
        | some d =>
          have := CS.uniq _ (cellsFrom_mem (PySem.mem_of_lookup e)).1
          simp only [] at this
          rw [hfr] at this
          cases this
      rw [no, closL_free hm, hcx]
      rfl
end
end L2
namespace L2
open PySem PySem.Spec PyProof.Rows
theorem loop_turns {prog : Program} {w : World} {A : Around} {R : Result → Shared → Prop} {s : Shared} {elt target iter : Expr} {ifs : List Expr} {scope : Scope} {pos : Pos} {it acc : Value} {env : Env} (I : Nat → Shared → Prop)
    (turn : ∀ n s, I n s → wpAny (model prog w) A (pyNext it) (fun r s1 => match r with
      | none => R (.ok .next) s1
      | some v => wpAny (model prog w) A (letOwnedTupleGo target it v) (fun _ s2 => wpAny (model prog w) A (assign target env v) (fun _ s3 =>
          wpAny (model prog w) A (forIn ifs true fun c r => if r = true then do let ok ← isTrue c env (eval c env); pure (ForInStep.yield ok) else pure (ForInStep.yield r)) (fun ok s4 =>
            if ok = true then wpAny (model prog w) A (eval elt env) (fun x s5 =>
              wpAny (model prog w) A (call (.builtin "list.append") [acc, x]) (fun _ s6 => ∃ m, m < n ∧ I m s6) (fun _ _ => False) s5) (fun _ _ => False) s4
            else ∃ m, m < n ∧ I m s4) (fun _ _ => False) s3) (fun _ _ => False) s2) (fun _ _ => False) s1) (fun _ _ => False) s)
    (n : Nat) (h : I n s) :
    codeAny (model prog w) A (.compLoop (.ListComp elt [⟨target, iter, ifs, 0⟩] scope pos) 0 it acc env) R s := by
  refine codeAny_loop rfl I (fun n s hI => ?_) n h
  show wpAny _ A ((compTurn (.ListComp elt [⟨target, iter, ifs, 0⟩] scope pos) 0 it acc env).onRaise (fun x => do noteFrame x env; theTreesLotGoes x)) _ _ s
  refine wpAny_noted ?_
  rw [compTurn_list]
  refine wpAny_mono (E := fun _ _ => False) (E' := _) (Q' := _) ?_ (fun _ _ q => q) fun _ _ z => z.elim
  refine wpAny_bind (wpAny_standAt (wpAny_bind (thn (turn n s hI) (fun r s1 h1 => ?_))))
  cases r with
  | none => exact wpAny_pure h1
  | some v =>
    refine wpAny_bind (thn h1 fun _ s2 h2 => ?_)
    refine wpAny_bind (thn h2 fun _ s3 h3 => wpAny_bind (thn h3 fun ok s4 h4 => ?_))
    cases ok with
    | false => exact wpAny_pure ⟨rfl, h4⟩
    | true => exact wpAny_bind (wpAny_bind (thn h4 fun x s5 h5 => wpAny_bind (thn h5 fun _ s6 h6 => wpAny_pure (wpAny_pure ⟨rfl, h6⟩))))
def PTs (X : Cx) (ifs : List Expr) (t : TT) : Prop :=
  ∀ (pins : List (Addr × Obj)) (s : Shared) (σ : St) (H : Hp) (Q : Bool → Hp → Prop), Inv X pins σ H s → t σ H Q →
    wpAny (model X.prog X.w) X.A (forIn ifs true fun c r => if r = true then do let ok ← isTrue c X.env (eval c X.env); pure (ForInStep.yield ok) else pure (ForInStep.yield r)) (TP X pins σ Q) X.xe s
def tYes : TT := fun _ H Q => Q true H
theorem pts_nil {X : Cx} : PTs X [] tYes := fun _ _ _ H _ I h => wpAny_tests_nil ⟨H, I, h⟩
theorem pts_one {X : Cx} {c : Expr} {t : TT} (h : PT X c t) : PTs X [c] t := fun pins s σ H Q I q => wpAny_tests_one (h pins s σ H Q I q)
def compW (n : Nat) (J : It) (g : TG) (tc : TT) (te : TE) (σ : St) (H : Hp) (Q : VK) : Prop :=
  ∃ W : Nat → Nat → List V → Hp → Prop, (∃ m, W 0 m [] H) ∧ ∀ i m ys H, W i m ys H →
    (J.stop i H ∧ ys.length ≤ sizeLine ∧ ∀ p, H p = none → Q (.ref p) (upd H p (.lst ys))) ∨
    (J.go i H ∧ ys.length ≤ sizeLine ∧ ∃ N : List V → Hp → Prop, (∀ ys' H', N ys' H' → ∃ m', m' < m ∧ W (i + 1) m' ys' H') ∧ ∀ x H', J.yld i H x H' → g x (List.replicate n none ++ σ) H' fun σ2 H2 => tc σ2 H2 fun b H3 =>
      if b = true then te σ2 H3 fun y H4 => N (ys ++ [y]) H4 else N ys H3)
theorem comp_block {X : Cx} {own : List Str} {scope : Scope} {pins : List (Addr × Obj)} {σ : St} {H2 : Hp} {s2 : Shared} {fp : List Addr} {it : Addr} {tn : Nat → Heap → Prop} {J : It} {elt tg iter : Expr} {ifs : List Expr} {pos : Pos} {g : TG} {tc : TT} {te : TE} {Q : VK}
    {RR : Value → Addr → Result → Shared → Prop} {E : Value → Shared → Prop} (I : Inv X pins σ H2 s2) (CS : CompScope X.env.scope X.N own scope) (hc : X.calm = true) (T : Turn X.prog X.w X.K tg J fp it tn) (st : tn 0 s2.heap) (hf : ∀ b ∈ fp, FpOk X pins H2 b)
    (hg : ∀ C s2 H2 fp pins, PG (cxComp X own scope C s2 H2 fp pins) tg g) (ht : ∀ C s2 H2 fp pins, PTs (cxComp X own scope C s2 H2 fp pins) ifs tc) (he : ∀ C s2 H2 fp pins, PE (cxComp X own scope C s2 H2 fp pins) elt te)
    (hW : compW own.length J g tc te σ H2 Q)
    (hR : ∀ D C H' s', Inv X pins σ H' s' → FpOk X pins H' C → (∃ m, s'.heap.Ns C m) → Q (.ref D) H' → RR (.ref D) C (.ok .next) s') :
    wpAny (model X.prog X.w) X.A (newList []) (fun acc s3 => wpAny (model X.prog X.w) X.A (newFunctionEnv scope X.env.globals (closL X.env.cells scope.names []) [] X.env.qual none .none (some X.env)) (fun cenv s4 =>
      codeAny (model X.prog X.w) X.A (.compStart (.ListComp elt [⟨tg, iter, ifs, 0⟩] scope pos) 0 (.ref it) acc { cenv with scope := relabel scope X.env }) (RR acc cenv.locals) s4) E s3) E s2 := by
  refine wpAny_newObj_type (wp_newCompEnv ?_)
  dsimp only
  generalize hH : s2.heap.push { cls := .type "list", dict := none, data := .seq ([] : List Value).toArray } = h3
  have hDC : h3.objs.size = s2.heap.objs.size + 1 := by rw [← hH, Heap.size_push]
  have eC : ({ scope := relabel scope X.env, locals := h3.objs.size, globals := X.env.globals, cells := cellsFrom (h3.objs.size + 1) scope.names (closL X.env.cells scope.names []), qual := X.env.qual, func := none, code := X.env.code, frame := X.env.frame, builtins := X.env.builtins } : Env) = cenvOf scope h3.objs.size X.env := rfl
  rw [eC]
  generalize eD : s2.heap.objs.size = D at *
  generalize eCC : h3.objs.size = C at *
  have hl : ∀ b ∈ fp, b < s2.heap.objs.size := fun b hb => by
    obtain ⟨o, e, _⟩ := T.obj 0 _ st b hb
    exact Heap.lt_size e
  have hC : s2.heap.objs.size ≤ C := by omega
  generalize hH4 : pushCells (h3.push { cls := .type "dict", data := .dict #[] }) scope.names = h4
  have k34 : ∀ b o, (h3.push { cls := .type "dict", data := .dict #[] }).get? b = some o → h4.get? b = some o := fun b o e => by rw [← hH4]; exact pushCells_keeps _ _ b o e
  have k24 : ∀ b o, s2.heap.get? b = some o → h4.get? b = some o := fun b o e => k34 b o (Heap.get?_push_of_some _ (by rw [← hH]; exact Heap.get?_push_of_some _ e))
  have nsC : h4.Ns C fun _ => none := by
    have := Heap.Ns.new h3 (.type "dict")
    rw [eCC] at this
    exact this.keeps k34
  have accD : h4.get? D = some { cls := .type "list", data := .seq (([] : List Value).toArray) } := k34 _ _ (Heap.get?_push_of_some _ (by rw [← hH, ← eD]; exact Heap.get?_push_size _ rfl))
  have cellN : ∀ x c, (x, c) ∈ cellsFrom (C + 1) scope.names [] → h4.IsCell c none ∧ C + 1 ≤ c := fun x c hm => by
    have ok := cellsFrom_ok scope.names (h3.push { cls := .type "dict", data := .dict #[] }) (C + 1) [] ⟨fun _ _ hm => (nomatch hm), List.Pairwise.nil⟩ (by rw [Heap.size_push]; omega)
    rw [Heap.size_push, eCC, hH4] at ok
    exact ok.empty x c hm
  have hne : H2 D = none := by rw [← eD]; exact I.hok.fresh (Nat.le_refl _)
  have ok' : (cxComp X own scope C s2 H2 fp pins).Ok := comp_ok I CS hC hf hl
  -- the outer names, at any later state
  have rebase : ∀ {σ' : St} {H' : Hp} {ps : List (Addr × Obj)} {s' : Shared}, Inv (cxComp X own scope C s2 H2 fp pins) ps σ' H' s' → Inv (cxComp X own scope C s2 H2 fp pins) ps (List.replicate own.length none ++ σ) H' s' := fun {σ' H' ps s'} J' => by
    obtain ⟨m, hn, _⟩ := J'.loc
    refine ⟨J'.ok, J'.os, J'.bare, J'.base, ⟨m, hn, comp_loc I CS fun c v z ⟨x, hx⟩ => ?_⟩, J'.cell, J'.free, J'.freeC, J'.pin, J'.hok, ?_⟩
    · obtain ⟨o, ho, hd⟩ := z
      obtain ⟨sl, e⟩ := J'.base.any ho (I.freeC x c hx) fun hb => (hf c hb).2.2.2.2.1 x c hx rfl
      exact ⟨_, e, hd⟩
    · show (List.replicate own.length none ++ σ).length = (own ++ X.N).length
      rw [List.length_append, List.length_append, List.length_replicate, I.len]
  have start : Inv (cxComp X own scope C s2 H2 fp pins) [] (List.replicate own.length none ++ σ) H2 { s2 with heap := h4 } := by
    have I4 : Inv X pins σ H2 { s2 with heap := h4 } := I.kept (t' := s2.toks) k24
    refine ⟨ok', rfl, I.bare, Un.kept k24, ⟨_, nsC, comp_loc I CS fun c v z _ => z.keeps k24⟩, fun x c h => ?_, I.hok.fresh hC, fun x c h => ?_, fun p hp => ?_, I4.hok, ?_⟩
    · rcases cells_split h with ⟨a, _, _⟩ | a
      · exact ⟨_, (cellN x c a).1⟩
      · obtain ⟨v, z⟩ := I.cell x c (clos_old I CS a).2
        exact ⟨v, z.keeps k24⟩
    · rcases cells_split h with ⟨_, _, a⟩ | a
      · exact I.hok.fresh (Nat.le_trans hC (Nat.le_trans (Nat.le_succ _) a))
      · exact I.freeC x c (clos_old I CS a).2
    · have hp' : p ∈ X.pn ++ pins := by
        rcases List.mem_append.mp hp with z | z
        · exact z
        · exact nomatch z
      obtain ⟨e, n, ne, nf, d⟩ := I.pin p hp'
      refine ⟨k24 _ _ e, n, Nat.ne_of_lt (Nat.lt_of_lt_of_le (Heap.lt_size e) hC), fun z => ?_, d⟩
      rcases List.mem_cons.mp (I.stkSub _ z) with q | q
      · exact ne q
      · exact nf q
    · show (List.replicate own.length none ++ σ).length = (own ++ X.N).length
      rw [List.length_append, List.length_append, List.length_replicate, I.len]
  obtain ⟨W, ⟨m0, w0⟩, turn⟩ := hW
  -- the block's iterator and list
  have nfs : ∀ b, s2.heap.objs.size ≤ b → b ∉ (cxComp X own scope C s2 H2 fp pins).fs := fun b hb z => by
    rcases List.mem_cons.mp (I.stkSub b z) with q | q
    · rw [q] at hb; exact absurd (Nat.lt_of_lt_of_le I.lt hb) (Nat.lt_irrefl _)
    · exact I.nofs hb q
  have fpD : ∀ {H' : Hp}, H' D = none → FpOk (cxComp X own scope C s2 H2 fp pins) [] H' D := fun {H'} hn => by
    refine ⟨hn, Nat.ne_of_lt (by show D < C; omega), nfs D (by omega), .inr (by show s2.heap.objs.size ≤ D; omega), fun x c h z => ?_, fun p hp z => ?_⟩
    · rcases cells_split h with ⟨_, _, a⟩ | a
      · rw [z] at a; exact absurd (Nat.lt_of_lt_of_le (show D < C + 1 by omega) a) (Nat.lt_irrefl _)
      · obtain ⟨v, q⟩ := I.cell x c (clos_old I CS a).2
        have := q.lt
        rw [z, eD] at this
        exact Nat.lt_irrefl _ this
    · have hp' : p ∈ X.pn ++ pins := by
        rcases List.mem_append.mp hp with z | z
        · exact z
        · exact nomatch z
      have := Heap.lt_size (I.pin p hp').1
      rw [z, eD] at this
      exact Nat.lt_irrefl _ this
  have nD : D ∉ fp := fun z => by have := hl D z; rw [eD] at this; exact Nat.lt_irrefl _ this
  have stat : ∀ {H' : Hp} {ps : List (Addr × Obj)}, (∀ p ∈ ps, p.1 = D) → (∀ b ∈ fp, H' b = none) → ∀ b ∈ fp, FpOk (cxComp X own scope C s2 H2 fp pins) ps H' b := fun {H' ps} hps hn b hb => by
    obtain ⟨f0, f1, f2, f3, f4, f5⟩ := hf b hb
    refine ⟨hn b hb, (ok'.exf b hb).1, ok'.exfs b hb, .inl hb, (ok'.exf b hb).2, fun p hp => ?_⟩
    rcases List.mem_append.mp hp with z | z
    · exact f5 p z
    · rw [hps p z]
      exact fun q => nD (q ▸ hb)
  -- the loop
  let LI : Nat → Shared → Prop := fun n s' => ∃ i ys its k H', Inv (cxComp X own scope C s2 H2 fp pins) [] (List.replicate own.length none ++ σ) H' s' ∧ tn i s'.heap ∧ (∀ b ∈ fp, H' b = none) ∧ H' D = none ∧
    s'.heap.get? D = some { cls := .type "list", data := .seq (List.toArray its) k } ∧ Vals ys its ∧ W i n ys H'
  have l0 : LI m0 { s2 with heap := h4 } := ⟨0, [], [], 0, H2, start, T.keep _ _ _ st fun b _ o e => k24 b o e, fun b hb => (hf b hb).1, hne, accD, .nil, w0⟩
  have loop : codeAny (model X.prog X.w) X.A (.compLoop (.ListComp elt [⟨tg, iter, ifs, 0⟩] scope pos) 0 (.ref it) (.ref D) (cenvOf scope C X.env)) (RR (.ref D) C) { s2 with heap := h4 } := by
    refine loop_turns LI ?_ m0 l0
    rintro n s3 ⟨i, ys, its, k, H3, I3, st3, fr3, d3, a3, v3, w3⟩
    rcases turn i n ys H3 w3 with ⟨stop, hz, qn⟩ | ⟨go, hz, NN, hNN, step⟩
    · have I3p := I3.pinned (fp := [D]) (fun b hb => (List.mem_singleton.mp hb) ▸ fpD d3) fun b hb => ⟨_, (List.mem_singleton.mp hb) ▸ a3, fun v z => (by cases z)⟩
      refine thn (T.done (cxComp X own scope C s2 H2 fp pins) rfl rfl rfl hc i _ s3 _ H3 _ I3p (stat (fun p hp => by have q : p ∈ pinsAt [D] s3.heap := hp; have := (of_pinsAt q).1; simpa using this) fr3) st3 stop) fun r s4 ⟨hr, I4⟩ => ?_
      subst hr
      have a4 : s4.heap.get? D = _ := (I4.pin (D, _) (List.mem_append_right _ (List.mem_append_right _ (mem_pinsAt (by simp) a3)))).1
      have u4 : Un (frs X.stack) fp H2 H3 s2.heap s4.heap := I4.base
      have okD : HOk X.prog X.w (upd H3 D (.lst ys)) s4.heap := fun b o e => by
        by_cases hb : b = D
        · subst hb
          rw [upd_same] at e
          cases e
          exact ⟨hz, its, k, v3, a4⟩
        · rw [upd_ne hb] at e
          exact (I4.hok b o e).stay (fun _ _ _ q => q) (fun c q => by rw [upd_ne (ne_of_none q d3)]; exact q) fun c xs q => by rw [upd_ne (ne_of_none q d3)]; exact q
      have nDo : ∀ b o, s2.heap.get? b = some o → b ≠ D := fun b o e => by rw [← eD]; exact Nat.ne_of_lt (Heap.lt_size e)
      have uD : Un (frs X.stack) fp H2 (upd H3 D (.lst ys)) s2.heap s4.heap := ⟨u4.keep, u4.slot, fun b o e n hx => by rw [upd_ne (nDo b o e)]; exact u4.free b o e n hx, u4.there,
        fun b xs e => by rw [upd_ne (ne_of_none e hne)]; exact u4.tups b xs e, fun b o xs e => by rw [upd_ne (ne_of_none e hne)]; exact u4.frzs b o xs e, fun b ps e => by rw [upd_ne (ne_of_none e hne)]; exact u4.tbls b ps e⟩
      have I5 : Inv X pins σ (upd H3 D (.lst ys)) s4 := I.call' (I4.os) uD okD I4.bare fun b hb => ⟨(hf b hb).2.2.2.1, (hf b hb).2.1, (hf b hb).2.2.2.2.1, (hf b hb).2.2.2.2.2⟩
      obtain ⟨m, hn, _⟩ := I4.loc
      refine hR D C _ s4 I5 ⟨by rw [upd_ne (show C ≠ D by omega)]; exact I4.free, Nat.ne_of_gt (Nat.lt_of_lt_of_le I.lt hC), I.nofs hC, .inr (Nat.le_trans I.sz hC), fun x c e z => ?_, fun p hp z => ?_⟩ ⟨m, hn⟩ (qn D d3)
      · obtain ⟨v, q⟩ := I.cell x c e
        exact absurd (Nat.lt_of_lt_of_le q.lt (by rw [z]; exact hC)) (Nat.lt_irrefl _)
      · exact absurd (Nat.lt_of_lt_of_le (Heap.lt_size (I.pin p hp).1) (by rw [z]; exact hC)) (Nat.lt_irrefl _)
    · have I3p := I3.pinned (fp := [D]) (fun b hb => (List.mem_singleton.mp hb) ▸ fpD d3) fun b hb => ⟨_, (List.mem_singleton.mp hb) ▸ a3, fun v z => (by cases z)⟩
      have onlyD : ∀ p ∈ ([] ++ pinsAt [D] s3.heap), p.1 = D := fun p hp => by have q : p ∈ pinsAt [D] s3.heap := hp; have := (of_pinsAt q).1; simpa using this
      refine thn (T.item (cxComp X own scope C s2 H2 fp pins) rfl rfl rfl hc i _ s3 _ H3 _ I3p (stat onlyD fr3) st3 go) fun r s4 ⟨u, hr, h4'⟩ => ?_
      subst hr
      refine thn h4' fun _ s5 ⟨x, H5, I5, r5, y5, st5, fr5⟩ => ?_
      have I5p := I5.pinned (fp := fp) (stat onlyD fr5) (T.obj _ _ st5)
      have cont : ∀ {s6 : Shared} {σ6 : St} {H6 : Hp}, Inv (cxComp X own scope C s2 H2 fp pins) (([] ++ pinsAt [D] s3.heap) ++ pinsAt fp s5.heap) σ6 H6 s6 →
          Inv (cxComp X own scope C s2 H2 fp pins) [] (List.replicate own.length none ++ σ) H6 s6 ∧ tn (i + 1) s6.heap ∧ (∀ b ∈ fp, H6 b = none) ∧ H6 D = none ∧ s6.heap.get? D = some { cls := .type "list", data := .seq (List.toArray its) k } := fun {s6 σ6 H6} I6 => by
        have pD := I6.pin (D, _) (List.mem_append_right _ (List.mem_append_left _ (List.mem_append_right _ (mem_pinsAt (by simp) a3))))
        refine ⟨rebase (I6.pins_of fun p hp => nomatch hp), T.keep _ _ _ st5 fun b hb o e => (I6.pin (b, o) (List.mem_append_right _ (List.mem_append_right _ (mem_pinsAt hb e)))).1, fun b hb => ?_, pD.2.1, pD.1⟩
        obtain ⟨o, e, _⟩ := T.obj _ _ st5 b hb
        exact (I6.pin (b, o) (List.mem_append_right _ (List.mem_append_right _ (mem_pinsAt hb e)))).2.1
      refine thn (hg C s2 H2 fp pins _ s5 _ H5 x u _ I5p r5 (step x H5 y5)) fun _ s6 ⟨σ6, H6, I6, q6⟩ => ?_
      refine thn (ht C s2 H2 fp pins _ s6 σ6 H6 _ I6 q6) fun b s7 ⟨H7, I7, q7⟩ => ?_
      cases b with
      | false =>
        have q7' : NN ys H7 := q7
        obtain ⟨m', hm, w7⟩ := hNN _ _ q7'
        obtain ⟨c1, c2, c3, c4, c5⟩ := cont I7
        exact ⟨m', hm, i + 1, ys, its, k, H7, c1, c2, c3, c4, c5, v3, w7⟩
      | true =>
        refine thn (he C s2 H2 fp pins _ s7 σ6 H7 _ I7 q7) fun v s8 ⟨y, H8, I8, r8, q8⟩ => ?_
        obtain ⟨m', hm, w8⟩ := hNN _ _ q8
        obtain ⟨c1, c2, c3, c4, c5⟩ := cont I8
        refine wpAny_list_append_plain ⟨k, c5⟩ (fun h' hp hs => ?_) (by rw [List.size_toArray, ← v3.length]; exact hz)
        obtain ⟨k', e'⟩ := hp
        obtain ⟨f0, f1, f2, f3, f4, f5⟩ := fpD c4
        refine ⟨m', hm, i + 1, ys ++ [y], its ++ [v], k', H8, c1.turned (t' := s8.toks) (fun b o hb e => (hs.2 b hb).trans e) f0 f1 f3 f4 f5, T.keep _ _ _ c2 fun b hb o e => (hs.2 b fun z => nD (z ▸ hb)).trans e, c3, c4, ?_, v3.append (.cons r8 .nil), w8⟩
        show h'.get? D = _
        rw [e']
        simp
  exact codeAny_compStart_list loop (T.self X.A 0 { s2 with heap := h4 } _ _ (T.keep _ _ _ st fun b _ o e => k24 b o e) loop)
end L2
namespace L2
open PySem PySem.Spec PyProof.Rows
section
variable {X : Cx} {own : List Str} {scope : Scope} {elt tg iter : Expr} {ifs : List Expr} {pos : Pos} {wi : TI} {g : TG} {tc : TT} {te : TE}
def tComp (n : Nat) (wi : TI) (g : TG) (tc : TT) (te : TE) : TE := fun σ H Q => wi σ H fun J H1 => compW n J g tc te σ H1 Q
theorem comp_names {sc : Scope} {N : List Str} (CS : CompScope sc N own scope) : ∀ x ∈ scope.names, x.2 = .local → scope.names.lookup x.1 = some .local := fun x hx e => by rw [CS.uniq x hx, e]
theorem pe_comp (own : List Str) (CS : compLook X.env.scope X.N own scope = true) (hc : X.calm = true) (hi : PI X tg iter wi) (hg : ∀ C s2 H2 fp pins, PG (cxComp X own scope C s2 H2 fp pins) tg g)
    (ht : ∀ C s2 H2 fp pins, PTs (cxComp X own scope C s2 H2 fp pins) ifs tc) (he : ∀ C s2 H2 fp pins, PE (cxComp X own scope C s2 H2 fp pins) elt te) (hs : ∀ x, foldedSetIterable iter X.env x = pure x := by intro _; rfl) :
    PE X (.ListComp elt [⟨tg, iter, ifs, 0⟩] scope pos) (tComp own.length wi g tc te) := by
  intro pins s σ H Q I h
  have CS := CompScope.of CS
  rw [eval_ListComp]
  refine wpAny_comprehension_free (use := none) (g := ⟨tg, iter, ifs, 0⟩) rfl hs (closureFor_eq fun n hn => I.ok.has n (CS.frees n hn)) CS.kind (comp_names CS) (thn (hi pins s σ H _ I h) fun v s1 h1 => thn h1 fun itv s2 h2 => ?_)
  obtain ⟨it, fp, tn, J, H2, e, I2, T, st2, f2, hW⟩ := h2
  subst e
  refine comp_block (RR := fun acc C => compPost (model X.prog X.w) X.A X.xe none (EP X pins σ Q) acc C) I2 CS hc T st2 f2 hg ht he hW fun D C H' s' I' fC ⟨m, hn⟩ q => ?_
  refine ⟨m, hn, fun h' hs' => ⟨.ref D, H', ?_, rfl, q⟩⟩
  obtain ⟨f0, f1, _, f3, f4, f5⟩ := fC
  exact I'.turned (t' := s'.toks) (fun b o hb e => (hs'.2 b hb).trans e) f0 f1 f3 f4 f5
end
section
variable {g : TG} {tc : TT} {te : TE} {σ : St} {H : Hp} {Q : VK} {n : Nat}
end
end L2
namespace L2
open PySem PySem.Spec PyProof.Rows
structure Nx (P : Program) (w : World) (i l : Addr) (st : Nat → Heap → Prop) (xs : List Value) : Prop where
  obj : ∀ k h, st k h → ∃ o vs, h.get? i = some o ∧ o.data = .fields vs
  keep : ∀ k h h', st k h → (∀ o, h.get? i = some o → h'.get? i = some o) → (∀ o, h.get? l = some o → h'.get? l = some o) → st k h'
  item : ∀ (A : Around) k (s : Shared) x (Q : Value → Shared → Prop) (E : Value → Shared → Prop), st k s.heap → xs[k]? = some x → (∀ h', st (k + 1) h' → Heap.SameBut i s.heap h' → Q x { s with heap := h' }) →
    wpAny (model P w) A (Builtin.SmallTypes.nextOf (.ref i)) Q E s
  done : ∀ (A : Around) k (s : Shared) (Q : Value → Shared → Prop) (E : Value → Shared → Prop), A.handled = none → st k s.heap → xs[k]? = none →
    (∀ h' e, Heap.ExtBut i s.heap h' → (∃ o, h'.get? e = some o ∧ o.cls = .type "StopIteration") → E (.ref e) { s with heap := h' }) → wpAny (model P w) A (Builtin.SmallTypes.nextOf (.ref i)) Q E s
section
variable {P : Program} {w : World} {A : Around} {E : Value → Shared → Prop} {s : Shared}
theorem ne_iter_tup {h : Heap} {i l : Addr} {k : Nat} {its : Array Value} (a : h.IsTupleIter i l k) (b : h.IsTuple l its) : i ≠ l := fun e => by
  obtain ⟨o, h1, c1, _⟩ := a
  obtain ⟨o', h2, c2, _⟩ := b
  rw [e, h2] at h1; cases h1
  rw [c2] at c1
  exact absurd c1 (by decide)
theorem nextOf_tup {it t : Addr} {k : Nat} {its : Array Value} {x : Value} {Q : Value → Shared → Prop} (a : s.heap.IsTupleIter it t k) (b : s.heap.IsTuple t its) (hx : its[k]? = some x)
    (q : ∀ h', h'.IsTupleIter it t (k + 1) → Heap.SameBut it s.heap h' → Q x { s with heap := h' }) : wpAny (model P w) A (Builtin.SmallTypes.nextOf (.ref it)) Q E s := by
  obtain ⟨oi, gi, ci, di⟩ := id a
  obtain ⟨ot, gt, _, nt, dt⟩ := b
  unfold Builtin.SmallTypes.nextOf
  refine wpAny_bind (wpAny_callSpecial?_slot (name := Str.ofString "__next__") a.typeIs F.slot_tuple_iterator_next (wpAny_call_entry F.slot_tuple_iterator_next a.typeIs F.entry_tuple_iterator_next ?_ (F.args_tuple_iterator_next_1 _)))
  show wpAny _ _ (field (Value.ref it) 0 >>= _) _ _ s
  refine wpAny_bind (wpAny_field (x := Value.ref t) gi di rfl ?_)
  rw [if_neg (show ¬ (Value.ref t == Value.none) = true from Bool.false_ne_true)]
  show wpAny _ _ (field (Value.ref it) 1 >>= _) _ _ s
  refine wpAny_bind (wpAny_field (x := Value.int k 0) gi di rfl ?_)
  show wpAny _ _ (seqItems? (Value.ref t) >>= _) _ _ s
  refine wpAny_bind (wpAny_seqItems gt dt ?_)
  simp only [hx, Int.toNat_natCast]
  refine wpAny_bind (wpAny_setField gi di (by simp) (wpAny_pure ⟨x, rfl, wpAny_pure (q _ ⟨_, Heap.get?_update_self _ gi (Obj.isFreed_of_fields (Obj.data_mapFields di _)), (Obj.cls_mapFields ..).trans ci, ?_⟩ (Heap.SameBut.update ..))⟩))
  rw [Obj.data_mapFields di]
  simp [rawInt]
theorem nextOf_tup_end {it t : Addr} {k : Nat} {its : Array Value} {Q : Value → Shared → Prop} (hh : A.handled = none) (a : s.heap.IsTupleIter it t k) (b : s.heap.IsTuple t its) (hx : its[k]? = none)
    (q : ∀ h' e, Heap.ExtBut it s.heap h' → (∃ o, h'.get? e = some o ∧ o.cls = .type "StopIteration") → E (.ref e) { s with heap := h' }) : wpAny (model P w) A (Builtin.SmallTypes.nextOf (.ref it)) Q E s := by
  obtain ⟨oi, gi, ci, di⟩ := id a
  obtain ⟨ot, gt, _, nt, dt⟩ := b
  unfold Builtin.SmallTypes.nextOf
  refine wpAny_bind (wpAny_callSpecial?_slot (name := Str.ofString "__next__") a.typeIs F.slot_tuple_iterator_next (wpAny_call_entry F.slot_tuple_iterator_next a.typeIs F.entry_tuple_iterator_next ?_ (F.args_tuple_iterator_next_1 _)))
  show wpAny _ _ (field (Value.ref it) 0 >>= _) _ _ s
  refine wpAny_bind (wpAny_field (x := Value.ref t) gi di rfl ?_)
  rw [if_neg (show ¬ (Value.ref t == Value.none) = true from Bool.false_ne_true)]
  show wpAny _ _ (field (Value.ref it) 1 >>= _) _ _ s
  refine wpAny_bind (wpAny_field (x := Value.int k 0) gi di rfl ?_)
  show wpAny _ _ (seqItems? (Value.ref t) >>= _) _ _ s
  refine wpAny_bind (wpAny_seqItems gt dt ?_)
  simp only [hx, Int.toNat_natCast]
  refine wpAny_bind (wpAny_rule (wpAny_bind (wpAny_setField gi di (by simp) ?_)))
  show wpAny _ _ (newExc (Value.type "StopIteration") [] >>= _) _ _ _
  refine wpAny_bind ?_
  simp only [newTuple, newExc]
  refine wpAny_bind (wpAny_newObj_type ?_ (by size_fits))
  refine wpAny_bind (m := firstArgMember _ _) (wpAny_of_eq (a := Value.none) (by first | rfl | (unfold firstArgMember; rfl)) ?_)
  refine wpAny_newObj_type ?_ (by size_fits)
  unfold raiseNew
  refine wpAny_bind (wpAny_handled ?_)
  rw [show A.in1.handled = none from hh]
  exact wpAny_bind (wpAny_pure (wpAny_throw (q _ _ (((Heap.SameBut.update ..).extBut.push _).push _) ⟨_, Heap.get?_push_size _ rfl, rfl⟩)))
theorem nx_tup (i l : Addr) (xs : List Value) : Nx P w i l (fun k h => h.IsTupleIter i l k ∧ h.IsTuple l xs.toArray) xs where
  obj := fun k h ⟨⟨o, a, _, c⟩, _⟩ => ⟨o, _, a, c⟩
  keep := fun k h h' ⟨a, b⟩ k1 k2 => ⟨a.at k1, let ⟨o, e, r⟩ := b; ⟨o, k2 o e, r⟩⟩
  item := fun A k s x Q E ⟨a, b⟩ hx q => nextOf_tup a b (by simpa using hx) fun h' a' sb => q h' ⟨a', let ⟨o, e, r⟩ := b; ⟨o, (sb.2 l (ne_iter_tup a b).symm).trans e, r⟩⟩ sb
  done := fun A k s Q E hh ⟨a, b⟩ hx q => nextOf_tup_end hh a b (by simpa using hx) q
structure ZA (z TI TO i1 i2 l1 l2 : Addr) : Prop where
  a1 : TI ≠ z
  a2 : TO ≠ z
  a3 : i1 ≠ z
  a4 : i2 ≠ z
  a5 : TI ≠ TO
  a6 : TI ≠ i1
  a7 : TI ≠ i2
  a8 : TO ≠ i1
  a9 : TO ≠ i2
  b1 : i1 ≠ i2
  b2 : l1 ≠ z
  b3 : l1 ≠ TO
  b4 : l1 ≠ i2
  b5 : l2 ≠ z
  b6 : l2 ≠ TO
  b7 : l2 ≠ i1
variable {st1 st2 : Nat → Heap → Prop} {xs ys : List Value} {z TI TO i1 i2 l1 l2 : Addr} {k : Nat} {a b : Value}
theorem sb_get {h h' : Heap} {c d : Addr} {o : Obj} (sb : Heap.SameBut c h h') (ne : d ≠ c) (e : h.get? d = some o) : h'.get? d = some o := (sb.2 d ne).trans e
theorem zip_item (D : ZA z TI TO i1 i2 l1 l2) (N1 : Nx P w i1 l1 st1 xs) (N2 : Nx P w i2 l2 st2 ys) {x y : Value} {Q : Value → Shared → Prop} (hz : IsZip s.heap z TI TO .none) (hI : IsPair s.heap TI (.ref i1) (.ref i2)) (hO : IsPair s.heap TO a b)
    (s1 : st1 k s.heap) (s2 : st2 k s.heap) (hx : xs[k]? = some x) (hy : ys[k]? = some y)
    (q : ∀ h', IsZip h' z TI TO (rawInt s.heap.objs.size) → IsPair h' TO x y → st1 (k + 1) h' → st2 (k + 1) h' → IsPair h' s.heap.objs.size x y →
      (∀ c o, c ≠ z → c ≠ TO → c ≠ i1 → c ≠ i2 → s.heap.get? c = some o → h'.get? c = some o) → Q (.ref s.heap.objs.size) { s with heap := h' }) :
    wpAny (model P w) A (Builtin.«zip.__next__» ⟨[.ref z], []⟩) (fun fin s' => ∃ v, fin = .done (.ret v) ∧ Q v s') E s := by
  show wpAny _ _ (field (Value.ref z) 2 >>= _) _ _ _
  refine wpAny_bind (wpAny_field (x := Value.bool false) hz rfl rfl ?_)
  show wpAny _ _ (field (Value.ref z) 3 >>= _) _ _ _
  refine wpAny_bind (wpAny_field (x := Value.ref TI) hz rfl rfl ?_)
  refine wpAny_bind (wpAny_seqItems hI rfl ?_)
  show wpAny _ _ (Builtin.SmallTypes.ownedTupleIsFree (Value.ref z) >>= _) _ _ _
  refine wpAny_bind ?_
  unfold Builtin.SmallTypes.ownedTupleIsFree
  refine wpAny_bind (wpAny_field (x := Value.none) hz rfl rfl (wpAny_pure ?_))
  simp only [if_true]
  refine wpAny_bind (wpAny_rule (wpAny_bind (wpAny_field (x := Value.ref TO) hz rfl rfl ?_)))
  refine wpAny_bind (wpAny_setField_rec hz (by simp) fun g1 z1 e1 => ?_)
  have z1 : IsZip g1 z TI TO .ellipsis := z1
  refine wpAny_bind ?_
  simp only [List.zipIdx_nil, List.zipIdx_cons, List.forIn_nil, List.forIn_cons]
  refine wpAny_bind (wpAny_bind (wpAny_onRaise ?_))
  show wpAny _ _ (Builtin.SmallTypes.nextOf (Value.ref i1) >>= _) _ _ _
  refine wpAny_bind (N1.item _ k _ x _ _ (N1.keep _ _ _ s1 (fun o => sb_get e1 D.a3) fun o => sb_get e1 D.b2) hx fun g2 t1 e2 => wpAny_pure ?_)
  have O2 : IsPair g2 TO a b := sb_get e2 D.a8 (sb_get e1 D.a2 hO)
  refine wpAny_bind (wpAny_seqItems O2 rfl (wpAny_bind (wpAny_updateSeq_pair O2 fun g3 O3 e3 => ?_)))
  have O3 : IsPair g3 TO x b := O3
  refine wpAny_bind (wpAny_letGo (wpAny_pure (wpAny_bind (wpAny_bind (wpAny_onRaise ?_)))))
  show wpAny _ _ (Builtin.SmallTypes.nextOf (Value.ref i2) >>= _) _ _ _
  refine wpAny_bind (N2.item _ k _ y _ _ (N2.keep _ _ _ s2 (fun o e => sb_get e3 D.a9.symm (sb_get e2 D.b1.symm (sb_get e1 D.a4 e))) fun o e => sb_get e3 D.b6 (sb_get e2 D.b7 (sb_get e1 D.b5 e))) hy fun g4 t2 e4 => wpAny_pure ?_)
  have O4 : IsPair g4 TO x b := sb_get e4 D.a9 O3
  refine wpAny_bind (wpAny_seqItems O4 rfl (wpAny_bind (wpAny_updateSeq_pair O4 fun g5 O5 e5 => ?_)))
  have O5 : IsPair g5 TO x y := O5
  refine wpAny_bind (wpAny_letGo (wpAny_pure (wpAny_pure (wpAny_bind (wpAny_seqItems O5 rfl (wpAny_bind (wpAny_newTuple ?_)))))))
  have sz : g5.objs.size = s.heap.objs.size := by rw [e5.1, e4.1, e3.1, e2.1, e1.1]
  have z5 : IsZip g5 z TI TO .ellipsis := sb_get e5 D.a2.symm (sb_get e4 D.a4.symm (sb_get e3 D.a2.symm (sb_get e2 D.a3.symm z1)))
  have zlt : z < g5.objs.size := Heap.lt_size z5
  have u1 : st1 (k + 1) g5 := N1.keep _ _ _ t1 (fun o e => sb_get e5 D.a8.symm (sb_get e4 D.b1 (sb_get e3 D.a8.symm e))) fun o e => sb_get e5 D.b3 (sb_get e4 D.b4 (sb_get e3 D.b3 e))
  have u2 : st2 (k + 1) g5 := N2.keep _ _ _ t2 (fun o e => sb_get e5 D.a9.symm e) fun o e => sb_get e5 D.b6 e
  show wpAny _ _ (Builtin.SmallTypes.ownedTupleHandOut (Value.ref z) (.ref g5.objs.size) >>= _) _ _ _
  refine wpAny_bind ?_
  unfold Builtin.SmallTypes.ownedTupleHandOut
  have z6 : IsZip (g5.push { cls := .type "tuple", data := .seq #[x, y] }) z TI TO .ellipsis := Heap.get?_push_of_some _ z5
  refine wpAny_bind (wpAny_setField_rec z6 (by simp) fun g7 z7 e7 => ?_)
  have z7 : IsZip g7 z TI TO (rawInt g5.objs.size) := z7
  refine wpAny_setField_rec z7 (by simp) fun g8 z8 e8 => ?_
  have z8 : IsZip g8 z TI TO (rawInt g5.objs.size) := z8
  have up : ∀ c o, c ≠ z → g5.get? c = some o → g8.get? c = some o := fun c o n e => sb_get e8 n (sb_get e7 n (Heap.get?_push_of_some _ e))
  have nw : IsPair g8 g5.objs.size x y := sb_get e8 (Nat.ne_of_gt zlt) (sb_get e7 (Nat.ne_of_gt zlt) (Heap.get?_push_size _ rfl))
  rw [sz] at z8 nw
  refine wpAny_pure ⟨_, rfl, ?_⟩
  show Q (.ref g5.objs.size) _
  rw [sz]
  exact q g8 z8 (up _ _ D.a2 O5) (N1.keep _ _ _ u1 (fun o => up _ o D.a3) fun o => up _ o D.b2) (N2.keep _ _ _ u2 (fun o => up _ o D.a4) fun o => up _ o D.b5) nw fun c o n1 n2 n3 n4 e =>
    up c o n1 (sb_get e5 n2 (sb_get e4 n4 (sb_get e3 n2 (sb_get e2 n3 (sb_get e1 n1 e)))))
theorem zip_end (hh : A.handled = none) (D : ZA z TI TO i1 i2 l1 l2) (N1 : Nx P w i1 l1 st1 xs) (N2 : Nx P w i2 l2 st2 ys) {Q : PySem.Fin → Shared → Prop} (hz : IsZip s.heap z TI TO .none) (hI : IsPair s.heap TI (.ref i1) (.ref i2)) (hO : IsPair s.heap TO a b)
    (s1 : st1 k s.heap) (s2 : st2 k s.heap) (hend : xs[k]? = none ∨ ys[k]? = none)
    (q : ∀ h' e, (∀ c o, c ≠ z → c ≠ TO → c ≠ i1 → c ≠ i2 → s.heap.get? c = some o → h'.get? c = some o) → (∃ o, h'.get? e = some o ∧ o.cls = .type "StopIteration") → E (.ref e) { s with heap := h' }) :
    wpAny (model P w) A (Builtin.«zip.__next__» ⟨[.ref z], []⟩) Q E s := by
  show wpAny _ _ (field (Value.ref z) 2 >>= _) _ _ _
  refine wpAny_bind (wpAny_field (x := Value.bool false) hz rfl rfl ?_)
  show wpAny _ _ (field (Value.ref z) 3 >>= _) _ _ _
  refine wpAny_bind (wpAny_field (x := Value.ref TI) hz rfl rfl ?_)
  refine wpAny_bind (wpAny_seqItems hI rfl ?_)
  show wpAny _ _ (Builtin.SmallTypes.ownedTupleIsFree (Value.ref z) >>= _) _ _ _
  refine wpAny_bind ?_
  unfold Builtin.SmallTypes.ownedTupleIsFree
  refine wpAny_bind (wpAny_field (x := Value.none) hz rfl rfl (wpAny_pure ?_))
  simp only [if_true]
  refine wpAny_bind (wpAny_rule (wpAny_bind (wpAny_field (x := Value.ref TO) hz rfl rfl ?_)))
  refine wpAny_bind (wpAny_setField_rec hz (by simp) fun g1 z1 e1 => ?_)
  have z1 : IsZip g1 z TI TO .ellipsis := z1
  refine wpAny_bind ?_
  simp only [List.zipIdx_nil, List.zipIdx_cons, List.forIn_nil, List.forIn_cons]
  refine wpAny_bind (wpAny_bind (wpAny_onRaise ?_))
  show wpAny _ _ (Builtin.SmallTypes.nextOf (Value.ref i1) >>= _) _ _ _
  have t1 : st1 k g1 := N1.keep _ _ _ s1 (fun o => sb_get e1 D.a3) fun o => sb_get e1 D.b2
  cases hx : xs[k]? with
  | none =>
    refine wpAny_bind (N1.done _ k _ _ _ hh t1 hx fun g2 e e2 ⟨oe, he, ce⟩ => ?_)
    have z2 : IsZip g2 z TI TO .ellipsis := e2 _ _ D.a3.symm z1
    have ne : e ≠ z := fun r => by
      rw [r, z2] at he
      cases he
      exact absurd (show Value.type "zip" = Value.type "StopIteration" from ce) (by decide)
    exact wpAny_setField_rec z2 (by simp) fun g3 _ e3 => q g3 e (fun c o n1 _ n3 _ r => sb_get e3 n1 (e2 _ _ n3 (sb_get e1 n1 r))) ⟨oe, sb_get e3 ne he, ce⟩
  | some x =>
    have hy : ys[k]? = none := by
      rcases hend with r | r
      · rw [hx] at r; cases r
      · exact r
    refine wpAny_bind (N1.item _ k _ x _ _ t1 hx fun g2 t1 e2 => wpAny_pure ?_)
    have O2 : IsPair g2 TO a b := sb_get e2 D.a8 (sb_get e1 D.a2 hO)
    refine wpAny_bind (wpAny_seqItems O2 rfl (wpAny_bind (wpAny_updateSeq_pair O2 fun g3 O3 e3 => ?_)))
    refine wpAny_bind (wpAny_letGo (wpAny_pure (wpAny_bind (wpAny_bind (wpAny_onRaise ?_)))))
    show wpAny _ _ (Builtin.SmallTypes.nextOf (Value.ref i2) >>= _) _ _ _
    refine wpAny_bind (N2.done _ k _ _ _ hh (N2.keep _ _ _ s2 (fun o e => sb_get e3 D.a9.symm (sb_get e2 D.b1.symm (sb_get e1 D.a4 e))) fun o e => sb_get e3 D.b6 (sb_get e2 D.b7 (sb_get e1 D.b5 e))) hy fun g4 e e4 ⟨oe, he, ce⟩ => ?_)
    have z4 : IsZip g4 z TI TO .ellipsis := e4 _ _ D.a4.symm (sb_get e3 D.a2.symm (sb_get e2 D.a3.symm z1))
    have ne : e ≠ z := fun r => by
      rw [r, z4] at he
      cases he
      exact absurd (show Value.type "zip" = Value.type "StopIteration" from ce) (by decide)
    exact wpAny_setField_rec z4 (by simp) fun g5 _ e5 => q g5 e (fun c o n1 n2 n3 n4 r => sb_get e5 n1 (e4 _ _ n4 (sb_get e3 n2 (sb_get e2 n3 (sb_get e1 n1 r))))) ⟨oe, sb_get e5 ne he, ce⟩
end
end L2
namespace L2
open PySem PySem.Spec PyProof.Rows
section
variable {P : Program} {w : World} {A : Around} {E : Value → Shared → Prop} {s : Shared}
structure ZNew (h h' : Heap) (l1 l2 : Addr) : Prop where
  z : IsZip h' (h.objs.size + 4) (h.objs.size + 2) (h.objs.size + 3) .none
  ti : IsPair h' (h.objs.size + 2) (.ref h.objs.size) (.ref (h.objs.size + 1))
  to : IsPair h' (h.objs.size + 3) .none .none
  i1 : h'.IsTupleIter h.objs.size l1 0
  i2 : h'.IsTupleIter (h.objs.size + 1) l2 0
  sz : h'.objs.size = h.objs.size + 5
  keep : ∀ c o, h.get? c = some o → h'.get? c = some o
abbrev zh1 (h : Heap) (u : Addr) : Heap := h.push { cls := .type "tuple_iterator", data := .fields #[.ref u, .int 0 0] }
abbrev zh3 (h : Heap) (a b : Addr) : Heap := h.push { cls := .type "tuple", data := .seq #[.ref a, .ref b] }
abbrev zh4 (h : Heap) : Heap := h.push { cls := .type "tuple", data := .seq #[.none, .none] }
abbrev zh5 (h : Heap) (a b : Addr) : Heap := h.push { cls := .type "zip", data := .fields #[.none, .bool false, .bool false, .ref a, .ref b] }
abbrev zAll (h : Heap) (l1 l2 : Addr) : Heap := zh5 (zh4 (zh3 (zh1 (zh1 h l1) l2) h.objs.size (zh1 h l1).objs.size)) (zh1 (zh1 h l1) l2).objs.size (zh3 (zh1 (zh1 h l1) l2) h.objs.size (zh1 h l1).objs.size).objs.size
theorem zAll_new (h : Heap) (l1 l2 : Addr) : ZNew h (zAll h l1 l2) l1 l2 := by
  have e1 : (zh1 h l1).objs.size = h.objs.size + 1 := Heap.size_push ..
  have e2 : (zh1 (zh1 h l1) l2).objs.size = h.objs.size + 2 := by rw [Heap.size_push, e1]
  have e3 : (zh3 (zh1 (zh1 h l1) l2) h.objs.size (zh1 h l1).objs.size).objs.size = h.objs.size + 3 := by rw [Heap.size_push, e2]
  have e4 : (zh4 (zh3 (zh1 (zh1 h l1) l2) h.objs.size (zh1 h l1).objs.size)).objs.size = h.objs.size + 4 := by rw [Heap.size_push, e3]
  have p5 : (zAll h l1 l2).get? (zh4 (zh3 (zh1 (zh1 h l1) l2) h.objs.size (zh1 h l1).objs.size)).objs.size = some _ := Heap.get?_push_size _ rfl
  have p4 : (zAll h l1 l2).get? (zh3 (zh1 (zh1 h l1) l2) h.objs.size (zh1 h l1).objs.size).objs.size = some _ := Heap.get?_push_of_some _ (Heap.get?_push_size _ rfl)
  have p3 : (zAll h l1 l2).get? (zh1 (zh1 h l1) l2).objs.size = some _ := Heap.get?_push_of_some _ (Heap.get?_push_of_some _ (Heap.get?_push_size _ rfl))
  have p2 : (zAll h l1 l2).get? (zh1 h l1).objs.size = some _ := Heap.get?_push_of_some _ (Heap.get?_push_of_some _ (Heap.get?_push_of_some _ (Heap.get?_push_size _ rfl)))
  have p1 : (zAll h l1 l2).get? h.objs.size = some _ := Heap.get?_push_of_some _ (Heap.get?_push_of_some _ (Heap.get?_push_of_some _ (Heap.get?_push_of_some _ (Heap.get?_push_size _ rfl))))
  rw [e2, e3, e4] at p5
  rw [e3] at p4
  rw [e2, e1] at p3
  rw [e1] at p2
  exact ⟨p5, p3, p4, ⟨_, p1, rfl, rfl⟩, ⟨_, p2, rfl, rfl⟩, by rw [Heap.size_push, e4], fun c o e => Heap.get?_push_of_some _ (Heap.get?_push_of_some _ (Heap.get?_push_of_some _ (Heap.get?_push_of_some _ (Heap.get?_push_of_some _ e))))⟩
theorem zip_new_tup (l1 l2 : Addr) (xs ys : Array Value) :
    Meets (Builtin.«zip.__new__» ⟨[.type "zip", .ref l1, .ref l2], []⟩) (fun _ R s => s.heap.IsTuple l1 xs ∧ s.heap.IsTuple l2 ys ∧ R (.ok (.ret (.ref (zh4 (zh3 (zh1 (zh1 s.heap l1) l2) s.heap.objs.size (zh1 s.heap l1).objs.size)).objs.size))) { s with heap := zAll s.heap l1 l2 }) :=
  .of_wp fun prog w A R s h => by
    obtain ⟨hp, g, d, tk, os⟩ := s
    obtain ⟨t1, t2, h⟩ := h
    have hsub := sub_zip
    have T1 : Heap.IsTuple (Shared.heap ⟨hp, g, d, tk, os⟩) l1 xs := t1
    have T2 : Heap.IsTuple (Shared.heap ⟨hp.push { cls := .type "tuple_iterator", data := .fields #[.ref l1, .int 0 0] }, g, d, tk, os⟩) l2 ys := Heap.IsTuple.push t2 _
    wp_walk using wpAny_pyIter_tuple T1, wpAny_pyIter_tuple T2
    exact ⟨_, rfl, h⟩
theorem call_zip_tup {l1 l2 : Addr} {xs ys : Array Value} {Q : Value → Shared → Prop} (t1 : s.heap.IsTuple l1 xs) (t2 : s.heap.IsTuple l2 ys) (q : ∀ h', ZNew s.heap h' l1 l2 → Q (.ref (s.heap.objs.size + 4)) { s with heap := h' }) :
    wpAny (model P w) A (call (.type "zip") [.ref l1, .ref l2]) Q E s := by
  refine callType_new F.called_zip (by decide) (F.typeCall_zip_2 _ _) (F.newCall_zip_2 _ _) (fun obj => F.args_object_init_3 obj _ _) F.entry_zip_new (zip_new_tup l1 l2 xs ys) ⟨t1, t2, ?_⟩
  have n := zAll_new s.heap l1 l2
  have e4 : (zh4 (zh3 (zh1 (zh1 s.heap l1) l2) s.heap.objs.size (zh1 s.heap l1).objs.size)).objs.size = s.heap.objs.size + 4 := by
    have := n.sz
    rw [Heap.size_push] at this
    omega
  show _ ∧ _
  rw [e4]
  exact ⟨⟨_, n.z, rfl⟩, q _ n⟩
theorem next_zip_item {z TI TO i1 i2 l1 l2 : Addr} {k : Nat} {xs ys : List Value} {x y a b : Value} {Q : Option Value → Shared → Prop} (D : ZA z TI TO i1 i2 l1 l2) (hz : IsZip s.heap z TI TO .none) (hI : IsPair s.heap TI (.ref i1) (.ref i2)) (hO : IsPair s.heap TO a b)
    (t1 : s.heap.IsTupleIter i1 l1 k) (t2 : s.heap.IsTupleIter i2 l2 k) (h1 : s.heap.IsTuple l1 xs.toArray) (h2 : s.heap.IsTuple l2 ys.toArray) (hx : xs[k]? = some x) (hy : ys[k]? = some y)
    (q : ∀ h', IsZip h' z TI TO (rawInt s.heap.objs.size) → IsPair h' TO x y → h'.IsTupleIter i1 l1 (k + 1) → h'.IsTupleIter i2 l2 (k + 1) → IsPair h' s.heap.objs.size x y →
      (∀ c o, c ≠ z → c ≠ TO → c ≠ i1 → c ≠ i2 → s.heap.get? c = some o → h'.get? c = some o) → Q (some (.ref s.heap.objs.size)) { s with heap := h' }) : wpAny (model P w) A (pyNext (.ref z)) Q E s := by
  have hT : s.TypeIs (.ref z) "zip" := ⟨_, hz, rfl⟩
  unfold pyNext
  refine wpAny_bind (wpAny_attempt (wpAny_callSpecial?_slot (name := Str.ofString "__next__") hT F.slot_zip_next (wpAny_call_entry F.slot_zip_next hT F.entry_zip_next ?_ (F.args_zip_next_1 _))))
  exact zip_item D (nx_tup i1 l1 xs) (nx_tup i2 l2 ys) hz hI hO ⟨t1, h1⟩ ⟨t2, h2⟩ hx hy fun h' a1 a2 a3 a4 a5 a6 => wpAny_pure (q h' a1 a2 a3.1 a4.1 a5 a6)
theorem next_zip_end {z TI TO i1 i2 l1 l2 : Addr} {k : Nat} {xs ys : List Value} {a b : Value} {Q : Option Value → Shared → Prop} (hh : A.handled = none) (D : ZA z TI TO i1 i2 l1 l2) (hz : IsZip s.heap z TI TO .none) (hI : IsPair s.heap TI (.ref i1) (.ref i2)) (hO : IsPair s.heap TO a b)
    (t1 : s.heap.IsTupleIter i1 l1 k) (t2 : s.heap.IsTupleIter i2 l2 k) (h1 : s.heap.IsTuple l1 xs.toArray) (h2 : s.heap.IsTuple l2 ys.toArray) (hend : xs[k]? = none ∨ ys[k]? = none)
    (q : ∀ h', (∀ c o, c ≠ z → c ≠ TO → c ≠ i1 → c ≠ i2 → s.heap.get? c = some o → h'.get? c = some o) → Q none { s with heap := h' }) : wpAny (model P w) A (pyNext (.ref z)) Q E s := by
  have hT : s.TypeIs (.ref z) "zip" := ⟨_, hz, rfl⟩
  unfold pyNext
  refine wpAny_bind (wpAny_attempt (wpAny_callSpecial?_slot (name := Str.ofString "__next__") hT F.slot_zip_next (wpAny_call_entry F.slot_zip_next hT F.entry_zip_next ?_ (F.args_zip_next_1 _))))
  refine zip_end (A := A.in1) hh D (nx_tup i1 l1 xs) (nx_tup i2 l2 ys) hz hI hO ⟨t1, h1⟩ ⟨t2, h2⟩ hend fun h' e hk ⟨o, ho, hc⟩ => ?_
  exact wpAny_bind (wpAny_isInstance (T := "StopIteration") (b := true) ⟨o, ho, hc⟩ isSubtype_stop (wpAny_pure (q _ hk)))
end
def Itz (K : PySem.W.Frag) (a1 a2 : Addr) : It :=
  ⟨fun i H => ∃ xs ys x y, SqT K H a1 xs ∧ SqT K H a2 ys ∧ xs[i]? = some x ∧ ys[i]? = some y,
   fun i H v H' => ∃ p x y, v = .ref p ∧ H p = none ∧ H' = upd H p (.tup [x, y]) ∧ (∀ xs, SqT K H a1 xs → xs[i]? = some x) ∧ ∀ ys, SqT K H a2 ys → ys[i]? = some y,
   fun i H => ∃ xs ys, SqT K H a1 xs ∧ SqT K H a2 ys ∧ (xs.length ≤ i ∨ ys.length ≤ i)⟩
theorem turn_zip {P : Program} {w : World} {K : PySem.W.Frag} {es : List Expr} {kk : _} {tpos : Pos} (a1 a2 z TI TO i1 i2 : Addr) (D : ZA z TI TO i1 i2 a1 a2) : Turn P w K (.Tuple es kk tpos) (Itz K a1 a2) [z, TI, TO, i1, i2] z
    (fun k h => IsZip h z TI TO .none ∧ IsPair h TI (.ref i1) (.ref i2) ∧ (∃ a b, IsPair h TO a b) ∧ h.IsTupleIter i1 a1 k ∧ h.IsTupleIter i2 a2 k) where
  mem := List.mem_cons_self
  obj := fun k h st b hb => by
    obtain ⟨hz, hI, ⟨a, c, hO⟩, ⟨o1, e1, _, d1⟩, ⟨o2, e2, _, d2⟩⟩ := st
    simp only [List.mem_cons, List.not_mem_nil, or_false] at hb
    rcases hb with rfl | rfl | rfl | rfl | rfl
    · exact ⟨_, hz, fun v r => by cases r⟩
    · exact ⟨_, hI, fun v r => by cases r⟩
    · exact ⟨_, hO, fun v r => by cases r⟩
    · exact ⟨_, e1, fun v r => by rw [d1] at r; cases r⟩
    · exact ⟨_, e2, fun v r => by rw [d2] at r; cases r⟩
  keep := fun k h h' st kp => by
    obtain ⟨hz, hI, ⟨a, c, hO⟩, t1, t2⟩ := st
    exact ⟨kp z (by simp) _ hz, kp TI (by simp) _ hI, ⟨a, c, kp TO (by simp) _ hO⟩, t1.at (kp i1 (by simp)), t2.at (kp i2 (by simp))⟩
  item := by
    intro X hP hw hK hc i pins s σ H E I hf st hg
    subst hP hw hK
    obtain ⟨xs, ys, x, y, q1, q2, hx, hy⟩ := hg
    obtain ⟨its1, r1, p1, _⟩ := I.tuple q1
    obtain ⟨its2, r2, p2, _⟩ := I.tuple q2
    obtain ⟨u1, hu1, ru1⟩ := r1.get hx
    obtain ⟨u2, hu2, ru2⟩ := r2.get hy
    obtain ⟨hz, hI, ⟨a, c, hO⟩, t1, t2⟩ := st
    refine next_zip_item D hz hI hO t1 t2 (show s.heap.IsTuple a1 its1.toArray from p1) (show s.heap.IsTuple a2 its2.toArray from p2) hu1 hu2 fun h' z' o' t1' t2' nw kp => ?_
    refine ⟨_, rfl, wpAny_letOwnedTupleGo_zip z' fun h2 z2 sb => ?_⟩
    have lt : ∀ {b : Addr} {o : Obj}, s.heap.get? b = some o → b ≠ s.heap.objs.size := fun e => Nat.ne_of_lt (Heap.lt_size e)
    have nz : s.heap.objs.size ≠ z := (lt hz).symm
    have hf0 : H s.heap.objs.size = none := I.hok.fresh (Nat.le_refl _)
    have hI2 : IsPair h2 TI (.ref i1) (.ref i2) := sb_get sb D.a1 (kp _ _ D.a1 D.a5 D.a6 D.a7 hI)
    have kall : ∀ b o, b ∉ [z, TI, TO, i1, i2] → s.heap.get? b = some o → h2.get? b = some o := fun b o hb e => by
      simp only [List.mem_cons, List.not_mem_nil, or_false, not_or] at hb
      exact sb_get sb hb.1 (kp b o hb.1 hb.2.2.1 hb.2.2.2.1 hb.2.2.2.2 e)
    have trk : ∀ {b : Addr} {u : HO}, H b = some u → b ∉ [z, TI, TO, i1, i2] := fun {b u} e hb => by
      rw [(hf b hb).1] at e; cases e
    have there : ∀ b o, s.heap.get? b = some o → ∃ o', h2.get? b = some o' := fun b o e => by
      by_cases hb : b ∈ [z, TI, TO, i1, i2]
      · simp only [List.mem_cons, List.not_mem_nil, or_false] at hb
        rcases hb with rfl | rfl | rfl | rfl | rfl
        · exact ⟨_, z2⟩
        · exact ⟨_, hI2⟩
        · exact ⟨_, sb_get sb D.a2 o'⟩
        · obtain ⟨_, e1, _⟩ := t1'
          exact ⟨_, sb_get sb D.a3 e1⟩
        · obtain ⟨_, e1, _⟩ := t2'
          exact ⟨_, sb_get sb D.a4 e1⟩
      · exact ⟨o, kall b o hb e⟩
    have hokN : HOk X.prog X.w (upd H s.heap.objs.size (.tup [x, y])) h2 := fun b u e => by
      by_cases hb : b = s.heap.objs.size
      · subst hb
        rw [upd_same] at e
        cases e
        exact ⟨by show 2 ≤ sizeLine; decide, [u1, u2], .cons ru1 (.cons ru2 .nil), ⟨_, sb_get sb nz nw, rfl, _, rfl⟩⟩
      · rw [upd_ne hb] at e
        refine (I.hok b u e).stay (fun d v hd r => kall d v ?_ r) (fun d r => by rw [upd_ne (ne_of_none r hf0)]; exact r) fun d vs r => by rw [upd_ne (ne_of_none r hf0)]; exact r
        rcases hd with rfl | hd
        · exact trk e
        · exact trk hd
    have I2 : Inv X pins σ (upd H s.heap.objs.size (.tup [x, y])) { s with heap := h2 } := by
      refine I.step (g' := s.gens) (d' := s.drawn) (t' := s.toks) (ch := [z, TI, TO, i1, i2]) (fun b hb => ⟨(hf b hb).2.2.2.1, (hf b hb).2.1, (hf b hb).2.2.2.2.1, (hf b hb).2.2.2.2.2⟩) (fun b o _ _ hb e _ => kall b o hb e) (fun b o _ _ hb e _ => ⟨o.slots, kall b o hb e⟩)
        (fun b o _ e n => by rw [upd_ne (lt e)]; exact n) (fun b o _ e => there b o e) (fun b vs e => by rw [upd_ne (ne_of_none e hf0)]; exact e) (fun b o v e => by rw [upd_ne (ne_of_none e hf0)]; exact e) (fun b ps e => ⟨#[], by rw [upd_ne (ne_of_none e hf0), e]; simp⟩) (fun m hm => ?_) hokN I.bare
      obtain ⟨o, es', ep, e, r⟩ := hm
      exact ⟨o, es', ep, kall _ o (fun hb => (hf _ hb).2.1 rfl) e, r⟩
    refine ⟨.ref s.heap.objs.size, _, I2, rfl, ⟨_, x, y, rfl, hf0, rfl, fun vs h => by rw [I.tuple_inj h q1]; exact hx, fun vs h => by rw [I.tuple_inj h q2]; exact hy⟩, ⟨z2, hI2, ⟨_, _, sb_get sb D.a2 o'⟩, t1'.at fun o e => sb_get sb D.a3 e, t2'.at fun o e => sb_get sb D.a4 e⟩, fun b hb => ?_⟩
    have hb' := (hf b hb).1
    by_cases e : b = s.heap.objs.size
    · exfalso
      simp only [List.mem_cons, List.not_mem_nil, or_false] at hb
      rcases hb with r | r | r | r | r
      · exact lt hz (r ▸ e)
      · exact lt hI (r ▸ e)
      · exact lt hO (r ▸ e)
      · obtain ⟨_, e1, _⟩ := t1; exact lt e1 (r ▸ e)
      · obtain ⟨_, e1, _⟩ := t2; exact lt e1 (r ▸ e)
    · rw [upd_ne e]; exact hb'
  done := by
    intro X hP hw hK hc i pins s σ H E I hf st hg
    subst hP hw hK
    obtain ⟨xs, ys, q1, q2, hl⟩ := hg
    obtain ⟨its1, r1, p1, _⟩ := I.tuple q1
    obtain ⟨its2, r2, p2, _⟩ := I.tuple q2
    obtain ⟨hz, hI, ⟨a, c, hO⟩, t1, t2⟩ := st
    refine next_zip_end (I.ok.hd hc) D hz hI hO t1 t2 (show s.heap.IsTuple a1 its1.toArray from p1) (show s.heap.IsTuple a2 its2.toArray from p2) ?_ fun h' kp => ⟨rfl, ?_⟩
    · have e1 := r1.length
      have e2 := r2.length
      rcases hl with r | r
      · exact .inl (List.getElem?_eq_none_iff.mpr (by omega))
      · exact .inr (List.getElem?_eq_none_iff.mpr (by omega))
    · have kall : ∀ b o, b ∉ [z, TI, TO, i1, i2] → s.heap.get? b = some o → h'.get? b = some o := fun b o hb e => by
        simp only [List.mem_cons, List.not_mem_nil, or_false, not_or] at hb
        exact kp b o hb.1 hb.2.2.1 hb.2.2.2.1 hb.2.2.2.2 e
      have trk : ∀ {b : Addr} {u : HO}, H b = some u → b ∉ [z, TI, TO, i1, i2] := fun {b u} e hb => by
        rw [(hf b hb).1] at e; cases e
      refine I.step (g' := s.gens) (d' := s.drawn) (t' := s.toks) (ch := [z, TI, TO, i1, i2]) (fun b hb => ⟨(hf b hb).2.2.2.1, (hf b hb).2.1, (hf b hb).2.2.2.2.1, (hf b hb).2.2.2.2.2⟩) (fun b o _ _ hb e _ => kall b o hb e) (fun b o _ _ hb e _ => ⟨o.slots, kall b o hb e⟩)
        (fun b o _ e n => n) (fun b o hb e => ⟨o, kall b o hb e⟩) (fun b vs e => e) (fun b o v e => e) (fun b ps e => ⟨#[], by rw [e]; simp⟩) (fun m hm => ?_) (fun b u e => (I.hok b u e).stay (fun d v hd r => kall d v ?_ r) (fun _ r => r) fun _ _ r => r) I.bare
      · obtain ⟨o, es', ep, e, r⟩ := hm
        exact ⟨o, es', ep, kall _ o (fun hb => (hf _ hb).2.1 rfl) e, r⟩
      · rcases hd with rfl | hd
        · exact trk e
        · exact trk hd
  self := fun _ _ _ _ _ st h => wpAny_pyIter_zip st.1 h
section
variable {X : Cx} {es : List Expr} {kk : Nat} {tpos : Pos}
theorem nene (a b : Nat) (h : a ≠ b) : @Ne Addr a b := h
theorem za_of (n a b : Nat) (h1 : a < n) (h2 : b < n) : ZA (n + 4) (n + 2) (n + 3) n (n + 1) a b := by
  constructor <;> refine nene _ _ ?_ <;> omega
def iZip (K : PySem.W.Frag) (ta : TA) : TI := fun σ H R => ta σ H fun vs H1 => ∃ a1 a2 xs ys, vs = [.ref a1, .ref a2] ∧ SqT K H1 a1 xs ∧ SqT K H1 a2 ys ∧ R (Itz K a1 a2) H1
theorem pi_zip {e1 e2 : Expr} {ta : TA} {p pos : Pos} (hg : Gl X "zip") (hm : X.mg "zip" = none) (ha : PA X [e1, e2] ta) (hs : starEach [e1, e2] X.env = [(false, eval e1 X.env), (false, eval e2 X.env)] := by rfl) (hs2 : starEach [e2] X.env = [(false, eval e2 X.env)] := by rfl) :
    PI X (.Tuple es kk tpos) (.Call (.Name "zip" p) [e1, e2] [] pos) (iZip X.K ta) := by
  intro pins s σ H R I h
  refine Call_ (ld_blt I hg hm (by decide +kernel : bootBuiltins "zip" = some (.type "zip")) (PyProof.Rows.callWith_type1 (thn (ha pos pins s σ H _ I h) fun us s1 ⟨vs, H1, I1, r1, q1⟩ => ?_) (by rw [hs, hs2]) (by rw [hs2]; rfl)))
  obtain ⟨a1, a2, xs, ys, e, t1, t2, q⟩ := q1
  subst e
  cases r1 with
  | cons r rr =>
    cases rr with
    | cons r' rr =>
      cases rr
      cases r
      cases r'
      obtain ⟨its1, v1, p1, _⟩ := I1.tuple t1
      obtain ⟨its2, v2, p2, _⟩ := I1.tuple t2
      have L1 : a1 < s1.heap.objs.size := by obtain ⟨_, e, _⟩ := p1; exact Heap.lt_size e
      have L2 : a2 < s1.heap.objs.size := by obtain ⟨_, e, _⟩ := p2; exact Heap.lt_size e
      refine call_zip_tup (show s1.heap.IsTuple a1 its1.toArray from p1) (show s1.heap.IsTuple a2 its2.toArray from p2) fun h' N => ?_
      refine wpAny_pyIter_zip (s := { s1 with heap := h' }) N.z ?_
      have I2 : Inv X pins σ H1 { s1 with heap := h' } := I1.kept (t' := s1.toks) N.keep
      refine ⟨s1.heap.objs.size + 4, [s1.heap.objs.size + 4, s1.heap.objs.size + 2, s1.heap.objs.size + 3, s1.heap.objs.size, s1.heap.objs.size + 1], _, _, H1, rfl, I2, turn_zip a1 a2 _ _ _ _ _ (za_of _ _ _ L1 L2), ⟨N.z, N.ti, ⟨_, _, N.to⟩, N.i1, N.i2⟩, fun b hb => ?_, q⟩
      have ge : s1.heap.objs.size ≤ b := by
        simp only [List.mem_cons, List.not_mem_nil, or_false] at hb
        rcases hb with rfl | rfl | rfl | rfl | rfl
        · exact Nat.le_add_right _ _
        · exact Nat.le_add_right _ _
        · exact Nat.le_add_right _ _
        · exact Nat.le_refl _
        · exact Nat.le_add_right _ _
      exact I1.fpOk ge (I1.hok.fresh ge)
end
end L2
namespace L2
open PySem PySem.Spec PyProof.Rows
section
variable {κ : Type} [DecidableEq κ]
def valV (kvs : List (κ × V)) (k : κ) : Option V := (kvs.find? fun kv => decide (kv.1 = k)).map (·.2)
def putK (kvs : List (κ × V)) (k : κ) (v : V) : List (κ × V) :=
  if (kvs.any fun kv => decide (kv.1 = k)) = true then kvs.map (fun kv => if kv.1 = k then (kv.1, v) else kv) else kvs ++ [(k, v)]
theorem valV_pos {p : κ × V} {r : List (κ × V)} {k : κ} (e : p.1 = k) : valV (p :: r) k = some p.2 := by simp [valV, List.find?_cons, e]
theorem valV_neg {p : κ × V} {r : List (κ × V)} {k : κ} (e : ¬ p.1 = k) : valV (p :: r) k = valV r k := by simp [valV, List.find?_cons, e]
theorem valV_any (k : κ) : ∀ kvs : List (κ × V), (kvs.any fun kv => decide (kv.1 = k)) = (valV kvs k).isSome
  | [] => rfl
  | p :: r => by
    rw [List.any_cons]
    by_cases e : p.1 = k
    · simp only [valV_pos e, decide_eq_true e, Bool.true_or, Option.isSome_some]
    · rw [valV_neg e, decide_eq_false e, Bool.false_or]; exact valV_any k r
theorem length_putK (kvs : List (κ × V)) (k : κ) (v : V) : (putK kvs k v).length ≤ kvs.length + 1 := by
  unfold putK
  split
  · rw [List.length_map]; omega
  · rw [List.length_append, List.length_cons, List.length_nil]; omega
theorem RelO.isSome_eq {o : Option V} {u : Option Value} (r : RelO o u) : o.isSome = u.isSome := by
  cases o with
  | none => cases u with
    | none => rfl
    | some _ => exact (show False from r).elim
  | some _ => cases u with
    | none => exact (show False from r).elim
    | some _ => rfl
theorem KV.val {kvs : List (κ × V)} {vs : List (κ × Value)} (r : KV kvs vs) (k : κ) : RelO (valV kvs k) (valueAt vs k) := by
  unfold KV at r
  induction r with
  | nil => exact True.intro
  | @cons p q ps qs h t ih =>
    obtain ⟨h1, h2⟩ := h
    by_cases e : p.1 = k
    · have e' : q.1 = k := h1.symm.trans e
      have b : valueAt (q :: qs) k = some q.2 := by simp [valueAt, List.find?_cons, e']
      rw [valV_pos e, b]; exact h2
    · have e' : ¬ q.1 = k := fun z => e (h1.trans z)
      have b : valueAt (q :: qs) k = valueAt qs k := by simp [valueAt, List.find?_cons, e']
      rw [valV_neg e, b]; exact ih
theorem KV.any {kvs : List (κ × V)} {vs : List (κ × Value)} (r : KV kvs vs) (k : κ) : (kvs.any fun kv => decide (kv.1 = k)) = vs.any fun kv => decide (kv.1 = k) := by
  unfold KV at r
  induction r with
  | nil => rfl
  | cons h t ih => rw [List.any_cons, List.any_cons, ih, h.1]
theorem KV.repl {kvs : List (κ × V)} {vs : List (κ × Value)} (r : KV kvs vs) (k : κ) {y : V} {u : Value} (ry : RelV y u) :
    KV (kvs.map fun kv => if kv.1 = k then (kv.1, y) else kv) (vs.map fun kv => if kv.1 = k then (kv.1, u) else kv) := by
  unfold KV at r ⊢
  induction r with
  | nil => exact .nil
  | @cons p q ps qs h t ih =>
    rw [List.map_cons, List.map_cons]
    refine .cons ?_ ih
    obtain ⟨h1, h2⟩ := h
    by_cases e : p.1 = k
    · rw [if_pos e, if_pos (h1.symm.trans e)]; exact ⟨h1, ry⟩
    · rw [if_neg e, if_neg (fun z => e (h1.trans z))]; exact ⟨h1, h2⟩
theorem KV.put {kvs : List (κ × V)} {vs : List (κ × Value)} (r : KV kvs vs) (k : κ) {y : V} {u : Value} (ry : RelV y u) : KV (putK kvs k y) (stored vs k u) := by
  unfold putK stored
  rw [r.any k]
  by_cases e : (vs.any fun kv => decide (kv.1 = k)) = true
  · rw [if_pos e, if_pos e]; exact r.repl k ry
  · rw [if_neg e, if_neg e]; exact Paired.snoc r ⟨rfl, ry⟩
theorem KV.length {kvs : List (κ × V)} {vs : List (κ × Value)} (r : KV kvs vs) : kvs.length = vs.length := Paired.length r
end
theorem kV_is {P : Program} {w : World} {k : Key} {u : Value} (r : RelV (kV k) u) : (mixKind P w).is k u = true := by
  cases k with
  | inl i => obtain ⟨t, e⟩ := (show ∃ t, u = Value.int i t from r); subst e; exact mixKind_int P w i t
  | inr x => obtain ⟨t, e⟩ := (show ∃ t, u = Value.str x t from r); subst e; exact mixKind_str P w x t
theorem items_are {P : Program} {w : World} : ∀ {ks : List Key} {us : List Value}, Vals (ks.map kV) us → ItemsAre (mixKind P w) ks us
  | [], _, r => by rw [List.map_nil] at r; cases r; exact .nil
  | k :: ks, _, r => by
    rw [List.map_cons] at r
    cases r with
    | cons h t => exact .cons (kV_is h) (items_are t)
abbrev KT (H : Hp) : List (List Key × V) → List (List Key × Addr × Value) → Prop := Paired fun p q => p.1 = q.1 ∧ H q.2.1 = some (.tup (p.1.map kV)) ∧ RelV p.2 q.2.2
theorem KT.val {H : Hp} {kvs : List (List Key × V)} {xs : List (List Key × Addr × Value)} (r : KT H kvs xs) (k : List Key) : RelO (valV kvs k) ((atKey xs k).map (·.2)) := by
  induction r with
  | nil => exact True.intro
  | @cons p q ps qs h t ih =>
    obtain ⟨h1, _, h2⟩ := h
    by_cases e : p.1 = k
    · have e' : q.1 = k := h1.symm.trans e
      have b : atKey (q :: qs) k = some q.2 := by simp [atKey, List.find?_cons, e']
      rw [valV_pos e, b]; exact h2
    · have e' : ¬ q.1 = k := fun z => e (h1.trans z)
      have b : atKey (q :: qs) k = atKey qs k := by simp [atKey, List.find?_cons, e']
      rw [valV_neg e, b]; exact ih
theorem KT.repl {H : Hp} {kvs : List (List Key × V)} {xs : List (List Key × Addr × Value)} (r : KT H kvs xs) (k : List Key) {y : V} {u : Value} (ry : RelV y u) :
    KT H (kvs.map fun kv => if kv.1 = k then (kv.1, y) else kv) (xs.map (putAt k u)) := by
  induction r with
  | nil => exact .nil
  | @cons p q ps qs h t ih =>
    rw [List.map_cons, List.map_cons]
    refine .cons ?_ ih
    obtain ⟨h1, h2, h3⟩ := h
    unfold putAt
    by_cases e : p.1 = k
    · rw [if_pos e, if_pos (h1.symm.trans e)]; exact ⟨h1, h2, ry⟩
    · rw [if_neg e, if_neg (fun z => e (h1.trans z))]; exact ⟨h1, h2, h3⟩
theorem KT.put {H : Hp} {kvs : List (List Key × V)} {xs : List (List Key × Addr × Value)} (r : KT H kvs xs) (k : List Key) {b : Addr} {y : V} {u : Value} (hb : H b = some (.tup (k.map kV))) (ry : RelV y u) :
    KT H (putK kvs k y) (storedH xs k b u) := by
  have e : (kvs.any fun kv => decide (kv.1 = k)) = (atKey xs k).isSome := by
    rw [valV_any, (r.val k).isSome_eq, Option.isSome_map]
  unfold putK storedH
  rw [e]
  by_cases q : (atKey xs k).isSome = true
  · rw [if_pos q, if_pos q]; exact r.repl k ry
  · rw [if_neg q, if_neg q]; exact Paired.snoc r ⟨rfl, hb, ry⟩
theorem KT.keeps {H H' : Hp} {kvs : List (List Key × V)} {xs : List (List Key × Addr × Value)} (r : KT H kvs xs) (ht : ∀ b ys, H b = some (.tup ys) → H' b = some (.tup ys)) : KT H' kvs xs :=
  Paired.mapP r fun _ _ z => ⟨z.1, ht _ _ z.2.1, z.2.2⟩
section
variable {P : Program} {w : World} {H : Hp} {h : Heap} {a : Addr}
theorem rd_of {u : HO} (ok : HOk P w H h) (e : Rd H a u) : ObjOk P w H h a u := e.ok ok
theorem dk_rd {kvs : List (Key × V)} (ok : HOk P w H h) (e : Rd H a (.dK kvs)) : kvs.length ≤ sizeLine ∧ (a == sysModules) = false ∧ ∃ vs, KV kvs vs ∧ h.DictOf (mixKind P w) a vs :=
  show ObjOk P w H h a (.dK kvs) from rd_of ok e
theorem dk_of {kvs : List (Key × V)} (ok : HOk P w H h) (e : H a = some (.dK kvs)) : kvs.length ≤ sizeLine ∧ (a == sysModules) = false ∧ ∃ vs, KV kvs vs ∧ h.DictOf (mixKind P w) a vs := dk_rd ok (.inl e)
theorem key_of {ks : List Key} (ok : HOk P w H h) (e : H a = some (.tup (ks.map kV))) : (tupleKind (mixKind P w)).is h ks a := by
  obtain ⟨_, its, r, o, h1, h2, n, h3⟩ := (show ObjOk P w H h a (.tup (ks.map kV)) from ok a _ e)
  exact ⟨o, its.toArray, n, h1, h2, h3, by simpa using items_are r⟩
theorem dt_rd {kvs : List (List Key × V)} (ok : HOk P w H h) (e : Rd H a (.dT kvs)) : kvs.length ≤ sizeLine ∧ (a == sysModules) = false ∧
    ∃ xs, KT H kvs xs ∧ h.DictOfH (tupleKind (mixKind P w)) a xs := by
  obtain ⟨z, y, xs, r, o, es, ep, h1, h2, h3, h4, h5⟩ := (show ObjOk P w H h a (.dT kvs) from rd_of ok e)
  refine ⟨z, y, xs, r, o, es, ep, h1, h2, h3, h4, fun x hx => ?_, h5⟩
  have all : ∀ {l : List (List Key × V)} {m : List (List Key × Addr × Value)}, KT H l m → ∀ x ∈ m, (tupleKind (mixKind P w)).is h x.1 x.2.1 := by
    intro l m q
    induction q with
    | nil => intro x hx; exact nomatch hx
    | @cons p q ps qs hq t ih =>
      intro x hx
      rcases List.mem_cons.mp hx with e | hx
      · subst e
        exact key_of ok (by rw [← hq.1]; exact hq.2.1)
      · exact ih x hx
  exact all r x hx
theorem dt_of {kvs : List (List Key × V)} (ok : HOk P w H h) (e : H a = some (.dT kvs)) : kvs.length ≤ sizeLine ∧ (a == sysModules) = false ∧
    ∃ xs, KT H kvs xs ∧ h.DictOfH (tupleKind (mixKind P w)) a xs := dt_rd ok (.inl e)
end
def DGet (H : Hp) (a : Addr) (y : V) (r : Option V) : Prop :=
  (∃ kvs k, Rd H a (.dK kvs) ∧ y = kV k ∧ r = valV kvs k) ∨ ∃ kvs k b, Rd H a (.dT kvs) ∧ y = .ref b ∧ H b = some (.tup (k.map kV)) ∧ r = valV kvs k
def DPut (H : Hp) (a : Addr) (y v : V) (H' : Hp) : Prop :=
  (∃ kvs k, H a = some (.dK kvs) ∧ y = kV k ∧ kvs.length < sizeLine ∧ H' = upd H a (.dK (putK kvs k v))) ∨
  ∃ kvs k b, H a = some (.dT kvs) ∧ y = .ref b ∧ H b = some (.tup (k.map kV)) ∧ kvs.length < sizeLine ∧ H' = upd H a (.dT (putK kvs k v))
theorem DGet.k {H : Hp} {a : Addr} {kvs : List (Key × V)} {k : Key} (e : H a = some (.dK kvs)) : DGet H a (kV k) (valV kvs k) := .inl ⟨kvs, k, .inl e, rfl, rfl⟩
theorem DPut.k {H : Hp} {a : Addr} {kvs : List (Key × V)} {k : Key} {v : V} (e : H a = some (.dK kvs)) (hl : kvs.length < sizeLine) : DPut H a (kV k) v (upd H a (.dK (putK kvs k v))) := .inl ⟨kvs, k, e, rfl, hl, rfl⟩
section
variable {X : Cx} {pins : List (Addr × Obj)} {σ : St} {H : Hp} {s : Shared} {a : Addr} {y v : V} {u r : Value} {o : Option V} {A : Around} {E : Value → Shared → Prop}
theorem Inv.big (I : Inv X pins σ H s) : sysModules < s.heap.objs.size := by
  have h : mainGlobals < s.heap.objs.size := (I.mod.glob.keeps I.bk).lt
  exact Nat.lt_trans (by decide) h
theorem d_getItem {Q : Value → Shared → Prop} (hu : A.units + 1 < cLine) (I : Inv X pins σ H s) (g : DGet H a y (some v)) (ry : RelV y u) (h : ∀ w' s', Inv X pins σ H s' → RelV v w' → Q w' s') :
    wpAny (model X.prog X.w) A (getItem (.ref a) u) Q E s := by
  rcases g with ⟨kvs, k, e, ey, l⟩ | ⟨kvs, k, b, e, ey, eb, l⟩
  · subst ey
    obtain ⟨z, hd, vs, rel, dd⟩ := dk_rd I.hok e
    obtain ⟨w', hw, rw'⟩ := RelO.some_of (v := v) (o := valueAt vs k) (by rw [l]; exact rel.val k)
    exact wpAny_getItem_of (kV_is ry) dd.mapOf hw (h w' _ (I.tok _) rw')
  · subst ey
    cases (show u = Value.ref b from ry)
    obtain ⟨z, hd, xs, rel, dd⟩ := dt_rd I.hok e
    obtain ⟨w', hw, rw'⟩ := RelO.some_of (v := v) (o := (atKey xs k).map (·.2)) (by rw [l]; exact rel.val k)
    obtain ⟨p, hp, hp2⟩ := Option.map_eq_some_iff.mp hw
    refine wpAny_getItem_heap (tupleKind_room_in1 hu) (key_of I.hok eb) dd hp ?_
    rw [hp2]
    exact h w' _ (I.tok _) rw'
theorem d_in {Q : Value → Shared → Prop} (hu : A.units + 1 < cLine) (I : Inv X pins σ H s) (g : DGet H a y o) (ry : RelV y u) (h : ∀ s', Inv X pins σ H s' → Q (.bool o.isSome) s') :
    wpAny (model X.prog X.w) A (compareOp .In u (.ref a)) Q E s := by
  rcases g with ⟨kvs, k, e, ey, l⟩ | ⟨kvs, k, b, e, ey, eb, l⟩
  · subst ey
    obtain ⟨z, hd, vs, rel, dd⟩ := dk_rd I.hok e
    refine wpAny_in_of (kV_is ry) hd dd.mapOf ?_
    rw [← (rel.val k).isSome_eq, ← l]
    exact h _ (I.tok _)
  · subst ey
    cases (show u = Value.ref b from ry)
    obtain ⟨z, hd, xs, rel, dd⟩ := dt_rd I.hok e
    refine wpAny_in_heap (tupleKind_room_in1 hu) (key_of I.hok eb) hd dd ?_
    have q := (rel.val k).isSome_eq
    rw [Option.isSome_map] at q
    rw [← q, ← l]
    exact h _ (I.tok _)
theorem d_notIn {Q : Value → Shared → Prop} (hu : A.units + 1 < cLine) (I : Inv X pins σ H s) (g : DGet H a y o) (ry : RelV y u) (h : ∀ s', Inv X pins σ H s' → Q (.bool (!o.isSome)) s') :
    wpAny (model X.prog X.w) A (compareOp .NotIn u (.ref a)) Q E s := by
  rcases g with ⟨kvs, k, e, ey, l⟩ | ⟨kvs, k, b, e, ey, eb, l⟩
  · subst ey
    obtain ⟨z, hd, vs, rel, dd⟩ := dk_rd I.hok e
    refine wpAny_notIn_of (kV_is ry) hd dd.mapOf ?_
    rw [← (rel.val k).isSome_eq, ← l]
    exact h _ (I.tok _)
  · subst ey
    cases (show u = Value.ref b from ry)
    obtain ⟨z, hd, xs, rel, dd⟩ := dt_rd I.hok e
    refine wpAny_notIn_heap (tupleKind_room_in1 hu) (key_of I.hok eb) hd dd ?_
    have q := (rel.val k).isSome_eq
    rw [Option.isSome_map] at q
    rw [← q, ← l]
    exact h _ (I.tok _)
theorem d_write {h' : Heap} {t' : Nat} {ob : HO} (I : Inv X pins σ H s) (mu : Mut (H a)) (hs : Heap.SameBut a s.heap h') (he : ∃ q, h'.get? a = some q) (new : ObjOk X.prog X.w (upd H a ob) h' a ob) :
    Inv X pins σ (upd H a ob) { s with heap := h', toks := t' } :=
  I.write (x := a) (e := a) mu (.inl rfl) (fun b q hb z => (hs.2 b hb).trans z) he new
theorem dk_new {P : Program} {w : World} {H' : Hp} {h' : Heap} {kvs : List (Key × V)} {vs : List (Key × Value)} (z : kvs.length ≤ sizeLine) (hd : (a == sysModules) = false) (rel : KV kvs vs) (dd : h'.DictOf (mixKind P w) a vs) :
    ObjOk P w H' h' a (.dK kvs) := ⟨z, hd, vs, rel, dd⟩
theorem d_setItem {H' : Hp} {Q : Unit → Shared → Prop} (hu : A.units + 1 < cLine) (I : Inv X pins σ H s) (g : DPut H a y v H') (ry : RelV y u) (rv : RelV v r) (h : ∀ s', Inv X pins σ H' s' → Q () s') :
    wpAny (model X.prog X.w) A (setItem (.ref a) u r) Q E s := by
  rcases g with ⟨kvs, k, e, ey, l, eH⟩ | ⟨kvs, k, b, e, ey, eb, l, eH⟩
  · subst ey eH
    obtain ⟨z, hd, vs, rel, dd⟩ := dk_of I.hok e
    have hz : vs.length ≤ sizeLine := by rw [← rel.length]; exact z
    have hl : (putK kvs k v).length ≤ sizeLine := by have := length_putK kvs k v; omega
    refine wpAny_setItem_pairs (hsz := hz) (kV_is ry) dd fun h' dd' hs => h _ ?_
    have he : ∃ q, h'.get? a = some q := let ⟨q, _, _, hq, _⟩ := dd'; ⟨q, hq⟩
    exact d_write I (by rw [e]; exact True.intro) hs he (dk_new hl hd (rel.put k rv) dd')
  · subst ey eH
    cases (show u = Value.ref b from ry)
    obtain ⟨z, hd, xs, rel, dd⟩ := dt_of I.hok e
    have hz : xs.length ≤ sizeLine := by rw [← Paired.length rel]; exact z
    have hl : (putK kvs k v).length ≤ sizeLine := by have := length_putK kvs k v; omega
    refine wpAny_setItem_heap (hsz := hz) (tupleKind_room_in1 hu) (key_of I.hok eb) dd fun h' dd' hs => h _ ?_
    obtain ⟨q, es, ep, hq, h2, h3, h4, _, h5⟩ := dd'
    refine d_write I (by rw [e]; exact True.intro) hs ⟨q, hq⟩ ⟨hl, hd, _, (rel.put k eb rv).keeps fun c ys ec => ?_, q, es, ep, hq, h2, h3, h4, h5⟩
    rw [upd_ne (ne_of ec e (fun z => nomatch z))]
    exact ec
end
section
variable {X : Cx} {pins : List (Addr × Obj)} {σ : St} {H : Hp} {s : Shared} {a : Addr} {kvs : List (Key × V)} {k : Key} {u : Value} {A : Around} {E : Value → Shared → Prop}
end
section
variable {X : Cx} {o i e value : Expr} {pos pos' tpos : Pos} {td ty tv : TE}
end
theorem dk_empty {P : Program} {w : World} {H : Hp} (h : Heap) (hb : sysModules < h.objs.size) : ObjOk P w H (h.push { cls := .type "dict", data := .dict #[] }) h.objs.size (.dK []) :=
  ⟨Nat.zero_le _, beq_eq_false_iff_ne.mpr (Ne.symm (Nat.ne_of_lt hb)), [], .nil, Heap.DictOf.new h⟩
def tDNewK : TE := fun _ H Q => ∀ p, H p = none → Q (.ref p) (upd H p (.dK []))
section
variable {X : Cx} {pos : Pos}
theorem pe_dnewK : PE X (.Dict [] [] pos) tDNewK := fun pins s σ H Q I h =>
  wpAny_Dict_empty ⟨.ref s.heap.objs.size, _, I.laid (a := s.heap.objs.size) (o := .dK []) (t' := s.toks) (fun _ _ q => Heap.get?_push_of_some _ q) (Nat.le_refl _) (dk_empty s.heap I.big), rfl, h _ (I.hok.fresh (Nat.le_refl _))⟩
end
def tPairs : List (TE × TE) → St → Hp → (List (V × V) → Hp → Prop) → Prop
  | [], _, H, Q => Q [] H
  | (tk, tv) :: r, σ, H, Q => tk σ H fun x H1 => tv σ H1 fun y H2 => tPairs r σ H2 fun ps H3 => Q ((x, y) :: ps) H3
abbrev VV : List (V × V) → List (Value × Value) → Prop := Paired fun p q => RelV p.1 q.1 ∧ RelV p.2 q.2
def PPs (X : Cx) (pos : Pos) (keys : List (Option Expr)) (values : List Expr) (trs : List (TE × TE)) : Prop :=
  ∀ (pins : List (Addr × Obj)) (s : Shared) (σ : St) (H : Hp) (Q : List (V × V) → Hp → Prop), Inv X pins σ H s → tPairs trs σ H Q →
    wpAny (model X.prog X.w) X.A (evalPairs (pairTrees keys values X.env pos)) (fun vs s' => ∃ ps H', Inv X pins σ H' s' ∧ VV ps vs ∧ Q ps H') X.xe s
theorem pps_nil {X : Cx} {pos : Pos} : PPs X pos [] [] [] := fun pins s σ H Q I h => pairTrees_nil_walk ⟨[], H, I, .nil, h⟩
theorem pps_cons {X : Cx} {pos : Pos} {k v : Expr} {ks : List (Option Expr)} {vs : List Expr} {tk tv : TE} {trs : List (TE × TE)} (hk : PE X k tk) (hv : PE X v tv) (hr : PPs X pos ks vs trs) :
    PPs X pos (some k :: ks) (v :: vs) ((tk, tv) :: trs) := fun pins s σ H Q I h =>
  pairTrees_cons_walk (thn (hk pins s σ H _ I h) fun u s1 ⟨x, H1, I1, rx, q1⟩ => thn (hv pins s1 σ H1 _ I1 q1) fun w2 s2 ⟨y, H2, I2, ry, q2⟩ =>
    thn (hr pins s2 σ H2 _ I2 q2) fun ws s3 ⟨ps, H3, I3, rel, q3⟩ => ⟨(x, y) :: ps, H3, I3, .cons ⟨rx, ry⟩ rel, q3⟩)
def mergeK (kvs more : List (Key × V)) : List (Key × V) := more.foldl (fun acc kv => putK acc kv.1 kv.2) kvs
theorem KV.merge : ∀ {more : List (Key × V)} {rs : List (Key × Value)} {kvs : List (Key × V)} {vs : List (Key × Value)}, KV more rs → KV kvs vs → KV (mergeK kvs more) (merged vs rs) := by
  intro more rs kvs vs r
  unfold KV at r
  induction r generalizing kvs vs with
  | nil => intro q; exact q
  | @cons p q ps qs h t ih =>
    intro r0
    have e : KV (putK kvs p.1 p.2) (stored vs q.1 q.2) := by
      have := r0.put p.1 h.2
      rw [← h.1]; exact this
    exact ih e
theorem length_mergeK : ∀ (more kvs : List (Key × V)), (mergeK kvs more).length ≤ kvs.length + more.length
  | [], kvs => by show kvs.length ≤ kvs.length + 0; omega
  | p :: r, kvs => by
    have h1 := length_mergeK r (putK kvs p.1 p.2)
    have h2 := length_putK kvs p.1 p.2
    show (mergeK (putK kvs p.1 p.2) r).length ≤ _
    rw [List.length_cons]; omega
theorem carries_of {P : Program} {w : World} : ∀ {kvs : List (Key × V)} {ws : List (Value × Value)}, VV (kvs.map fun kv => (kV kv.1, kv.2)) ws → ∃ rs, Carries (mixKind P w) ws rs ∧ KV kvs rs
  | [], _, r => by rw [List.map_nil] at r; cases r; exact ⟨[], True.intro, .nil⟩
  | p :: kvs, _, r => by
    rw [List.map_cons] at r
    cases r with
    | @cons a b as bs h t =>
      obtain ⟨rs, c, q⟩ := carries_of (P := P) (w := w) t
      obtain ⟨b1, b2⟩ := b
      exact ⟨(p.1, b2) :: rs, ⟨kV_is h.1, rfl, c⟩, .cons ⟨rfl, h.2⟩ q⟩
def tDisp (trs : List (TE × TE)) : TE := fun σ H Q => ∀ p, H p = none → tPairs trs σ (upd H p (.dK [])) fun ps H2 => H2 p = some (.dK []) ∧ ∃ kvs : List (Key × V), ps = kvs.map (fun kv => (kV kv.1, kv.2)) ∧ kvs.length ≤ 15 ∧ Q (.ref p) (upd H2 p (.dK (mergeK [] kvs)))
theorem pe_disp {X : Cx} {pos : Pos} {keys : List (Option Expr)} {values : List Expr} {trs : List (TE × TE)} (h : PPs X pos keys values trs) (hall : keys.all (·.isSome) = true) (hl : keys.length = values.length) (h0 : keys ≠ [])
    (h15 : keys.length ≤ 15) : PE X (.Dict keys values pos) (tDisp trs) := by
  intro pins s σ H Q I q
  have hn := I.hok.fresh (Nat.le_refl s.heap.objs.size)
  have I1 := I.laid (a := s.heap.objs.size) (o := .dK []) (h' := s.heap.push { cls := .type "dict", data := .dict #[] }) (t' := s.toks) (fun _ _ q => Heap.get?_push_of_some _ q) (Nat.le_refl _) (dk_empty s.heap I.big)
  refine wpAny_Dict_walk (knd := mixKind X.prog X.w) hall hl h0 h15 (thn (h pins _ σ _ _ I1 (q _ hn)) fun ws s2 ⟨ps, H2, I2, rel, e, kvs, ep, lk, q2⟩ => ?_)
  subst ep
  obtain ⟨rs, c, rk⟩ := carries_of (P := X.prog) (w := X.w) rel
  obtain ⟨z, hd, vs0, r0, dd⟩ := dk_of I2.hok e
  cases r0
  refine ⟨rs, c, dd, fun h' dd' hs => ⟨.ref s.heap.objs.size, _, ?_, rfl, q2⟩⟩
  have hz : (mergeK [] kvs).length ≤ sizeLine := by
    have h1 := length_mergeK kvs []
    rw [List.length_nil] at h1
    rw [sizeLine_eq]; omega
  have he : ∃ q, h'.get? s.heap.objs.size = some q := let ⟨q, _, _, hq, _⟩ := dd'; ⟨q, hq⟩
  exact d_write I2 (by rw [e]; exact True.intro) hs he (dk_new hz hd (rk.merge .nil) dd')
section
variable {X : Cx} {pins : List (Addr × Obj)} {σ : St} {H : Hp} {s : Shared} {a : Addr} {y d : V} {u r : Value} {o : Option V} {A : Around} {E : Value → Shared → Prop}
end
section
variable {X : Cx} {o e f : Expr} {apos cpos : Pos} {td ty tx : TE}
end
section
variable {X : Cx} {pins : List (Addr × Obj)} {σ : St} {H : Hp} {s : Shared} {a : Addr} {kvs : List (Key × V)} {A : Around} {E : Value → Shared → Prop}
end
section
variable {X : Cx} {pins : List (Addr × Obj)} {σ : St} {H : Hp} {s : Shared} {a : Addr} {y : V} {u : Value} {A : Around} {E : Value → Shared → Prop}
end
end L2
namespace L2
open PySem PySem.Spec PyProof.Rows
section
variable {κ : Type} [DecidableEq κ]
end
end L2
namespace L2
open PySem PySem.Spec PyProof.Rows
theorem turn_walks {P : Program} {w : World} {K : PySem.W.Frag} {tg : Expr} {it : Addr} {n : Nat} {Pv : Nat → Value → Prop} {St : Nat → Heap → Prop} {f : Nat → V} (W : ∀ A : Around, A.handled = none → Walks P w A it [it] [it] n Pv St)
    (ob : ∀ i h, St i h → ∃ (o : Obj) (m : String) (vs : Array Value), h.get? it = some o ∧ o.cls = .type m ∧ o.data = .fields vs ∧ ["enumerate", "zip", "dict_itemiterator", "dict_reverseitemiterator", "odict_iterator", "itertools.zip_longest", "itertools.pairwise"].contains m = false)
    (rel : ∀ i v, i < n → Pv i v → RelV (f i) v) (sf : ∀ (A : Around) (i : Nat) (s : Shared) (Q : Value → Shared → Prop) (E : Value → Shared → Prop), St i s.heap → Q (.ref it) s → wpAny (model P w) A (pyIter (.ref it)) Q E s) : Turn P w K tg ⟨fun i _ => i < n, fun i H x H' => H' = H ∧ x = f i, fun i _ => i = n⟩ [it] it St where
  mem := by simp
  obj := fun i h st b hb => by
    have e : b = it := by simpa using hb
    subst e
    obtain ⟨o, m, vs, e, _, d, _⟩ := ob i h st
    exact ⟨o, e, fun v z => by rw [d] at z; cases z⟩
  keep := fun i h h' st k => (W { handled := none, depth := 0, frames := none, guards := none, units := 0 } rfl).frame i h h' st fun b hb o e => k b hb o e
  item := by
    intro X hP hw hK hc i pins s σ H E I hf st hg
    subst hP hw hK
    obtain ⟨f0, f1, f2, f3, f4, f5⟩ := hf it (by simp)
    refine (W X.A (I.ok.hd hc)).item i s _ _ hg st fun v h' tk hv st' kk => ?_
    have I1 : Inv X pins σ H { s with heap := h', toks := tk } := I.turned (fun b o hb e => kk b o (by simpa using hb) e) f0 f1 f3 f4 f5
    obtain ⟨o, m, vs, e, c, d, nm⟩ := ob _ _ st'
    exact ⟨v, rfl, go_of (s := { s with heap := h', toks := tk }) e c d nm ⟨f i, H, I1, rel i v hg hv, ⟨rfl, rfl⟩, st', fun b hb => (hf b hb).1⟩⟩
  done := by
    intro X hP hw hK hc i pins s σ H E I hf st hg
    subst hP hw hK
    obtain ⟨f0, f1, f2, f3, f4, f5⟩ := hf it (by simp)
    have hg' : i = n := hg
    subst hg'
    exact (W X.A (I.ok.hd hc)).done s _ _ st fun h' tk kk => ⟨rfl, I.turned (fun b o hb e => kk b o (by simpa using hb) e) f0 f1 f3 f4 f5⟩
  self := sf
def sgn (x : Str) (i : Nat) : V := .str ⟨#[x.cps.getD i 0]⟩
def Its (x : Str) : It := ⟨fun i _ => i < x.cps.size, fun i H v H' => H' = H ∧ v = sgn x i, fun i _ => i = x.cps.size⟩
theorem rel_sgn {x : Str} (i : Nat) (v : Value) (hi : i < x.cps.size) (h : SignAt x i v) : RelV (sgn x i) v := by
  obtain ⟨c, u, e, rfl⟩ := h
  refine ⟨u, ?_⟩
  have : x.cps.getD i 0 = c := by rw [Array.getD_eq_getD_getElem?, e]; rfl
  rw [this]
section
variable {X : Cx} {tg : Expr}
def iStr (tl : TE) : TI := fun σ H R => tl σ H fun v H1 => ∃ x, v = .str x ∧ R (Its x) H1
theorem pi_str {l : Expr} {tl : TE} (hl : PE X l tl) : PI X tg l (iStr tl) := by
  intro pins s σ H R I h
  refine thn (hl pins s σ H _ I h) fun v s1 ⟨x, H1, I1, r1, q1⟩ => ?_
  obtain ⟨x, e, q⟩ := q1
  subst e
  obtain ⟨t, rfl⟩ := r1
  have fp : ∀ b ∈ [s1.heap.objs.size], FpOk X pins H1 b := fun b hb => by
    have e : b = s1.heap.objs.size := by simpa using hb
    subst e
    exact I1.fpOk (Nat.le_refl _) (I1.hok.fresh (Nat.le_refl _))
  cases ha : x.cps.all (· < 128) with
  | false =>
    refine wpAny_pyIter_wide ha ?_
    refine ⟨s1.heap.objs.size, [s1.heap.objs.size], _, Its x, H1, rfl, I1.kept (t' := s1.toks) fun b o e => Heap.get?_push_of_some _ e,
      turn_walks (fun A hA => Walks.strWide hA _ x t) (fun i h ⟨o, e, c, d⟩ => ⟨o, _, _, e, c, d, by decide⟩) rel_sgn fun A i s Q E st h => wpAny_pyIter_striter_wide st h, ⟨_, Heap.get?_push_size _ rfl, rfl, rfl⟩, fp, q⟩
  | true =>
    refine wpAny_pyIter_ascii ha ?_
    refine ⟨s1.heap.objs.size, [s1.heap.objs.size], _, Its x, H1, rfl, I1.kept (t' := s1.toks) fun b o e => Heap.get?_push_of_some _ e,
      turn_walks (fun A hA => Walks.strAscii hA _ x t) (fun i h ⟨o, e, c, d⟩ => ⟨o, _, _, e, c, d, by decide⟩) rel_sgn fun A i s Q E st h => wpAny_pyIter_striter_ascii st h, ⟨_, Heap.get?_push_size _ rfl, rfl, rfl⟩, fp, q⟩
end
section
variable {g : TG} {tc : TT} {te : TE} {σ : St} {H : Hp} {Q : VK} {n : Nat}
end
section
variable {X : Cx}
theorem all_range (bs : List Bool) : ((List.range bs.length).all fun i => (bs[i]?).getD true) = bs.all id := by
  rw [Bool.eq_iff_iff]
  simp only [List.all_eq_true, List.mem_range, id]
  constructor
  · intro h b hb
    obtain ⟨i, hi, rfl⟩ := List.mem_iff_getElem.mp hb
    simpa [hi] using h i hi
  · intro h i hi
    simp only [hi, List.getElem?_eq_getElem, Option.getD_some]
    exact h _ (List.getElem_mem hi)
theorem call_all (hc : X.calm = true) : CallR X (.builtin "all") (fun xs H Q => ∃ (l : Addr) (bs : List Bool), xs = [.ref l] ∧ SqL X.K H l (bs.map V.bl) ∧ Q (.bl (bs.all id)) H) := by
  intro pins s σ H vs us Q I r h
  obtain ⟨l, bs, rfl, hq, q⟩ := h
  cases r with
  | cons r rr =>
    cases rr
    cases r
    obtain ⟨its, rv, p, _⟩ := I.list hq
    have pl := p.isList
    have hlt : l < s.heap.objs.size := by obtain ⟨_, e, _⟩ := pl; exact Heap.lt_size e
    refine call_all_walk (wpAny_pyIter_list pl ?_)
    refine ⟨s.heap.objs.size, [s.heap.objs.size, l], [s.heap.objs.size], its.toArray.size, _, _, fun i => (bs[i]?).getD true, rfl, Walks.list (A := X.A.in1) (I.ok.hd hc) _ l (Nat.ne_of_lt hlt) its.toArray, ⟨⟨_, Heap.get?_push_size _ rfl, rfl, rfl⟩, pl.push _⟩, fun i v s' Q' E' hP hQ => ?_, fun h' tk hk => ?_⟩
    · have hP' : its[i]? = some v := by simpa using hP
      have hi : i < (bs.map V.bl).length := by rw [rv.length]; exact (List.getElem?_eq_some_iff.mp hP').1
      obtain ⟨u, hu, ru⟩ := rv.get (i := i) (x := (bs.map V.bl)[i]) (by simp [hi])
      rw [hP'] at hu
      cases hu
      rw [List.length_map] at hi
      simp only [List.getElem_map] at ru
      obtain rfl : v = Value.bool bs[i] := ru
      have hQ' := hQ
      simp only [hi, List.getElem?_eq_getElem, Option.getD_some] at hQ'
      exact wpAny_truthy_bool hQ'
    · have e : ((List.range its.toArray.size).all fun i => (bs[i]?).getD true) = bs.all id := by
        rw [List.size_toArray, ← rv.length, List.length_map]; exact all_range bs
      rw [e]
      exact ⟨.bl _, H, I.kept fun b o e => hk b o (fun hm => by rw [List.mem_singleton.mp hm] at e; exact Nat.lt_irrefl _ (Heap.lt_size e)) (Heap.get?_push_of_some _ e), rfl, q⟩
theorem op_le_str : OpR X (compareOp .LtE) (fun x y H Q => ∃ i j, x = .str i ∧ y = .str j ∧ Q (.bl (!decide (j.cps.toList < i.cps.toList))) H) := by
  intro pins s σ H x y v u Q I rx ry h
  obtain ⟨i, j, rfl, rfl, q⟩ := h
  obtain ⟨t, rfl⟩ := rx
  obtain ⟨t', rfl⟩ := ry
  exact P.le_str ⟨.bl _, H, I, rfl, q⟩
end
end L2
namespace L2
open PySem PySem.Spec PyProof.Rows
def scalD : V → Option PyData
  | .non => some .none
  | .bl b => some (.bool b)
  | .int i => some (.int i)
  | .str x => some (.str x)
  | _ => none
def keyD : Key → PyData
  | .inl i => .int i
  | .inr x => .str x
def pairsD : List (Key × V) → Option (List (PyData × PyData))
  | [] => some []
  | (k, v) :: r => match scalD v, pairsD r with
    | some d, some ds => some ((keyD k, d) :: ds)
    | _, _ => none
mutual
def Rep (H : Hp) : PyData → V → Prop
  | .none, v => v = .non
  | .bool b, v => v = .bl b
  | .int i, v => v = .int i
  | .str x, v => v = .str x
  | .tuple ds, v => ∃ a vs, v = .ref a ∧ H a = some (.tup vs) ∧ Reps H ds vs
  | .list ds, v => ∃ a vs, v = .ref a ∧ H a = some (.lst vs) ∧ Reps H ds vs
  | .dict kvs, v => ∃ a ks, v = .ref a ∧ H a = some (.dK ks) ∧ pairsD ks = some kvs
def Reps (H : Hp) : List PyData → List V → Prop
  | [], vs => vs = []
  | d :: ds, vs => ∃ w ws, vs = w :: ws ∧ Rep H d w ∧ Reps H ds ws
end
mutual
theorem Rep.same {H H' : Hp} (s : Same H H') : ∀ {d : PyData} {v : V}, Rep H d v → Rep H' d v
  | .none, _, h => h
  | .bool _, _, h => h
  | .int _, _, h => h
  | .str _, _, h => h
  | .tuple ds, _, ⟨a, vs, e, h, r⟩ => ⟨a, vs, e, s _ _ h, Reps.same s r⟩
  | .list ds, _, ⟨a, vs, e, h, r⟩ => ⟨a, vs, e, s _ _ h, Reps.same s r⟩
  | .dict _, _, ⟨a, ks, e, h, r⟩ => ⟨a, ks, e, s _ _ h, r⟩
theorem Reps.same {H H' : Hp} (s : Same H H') : ∀ {ds : List PyData} {vs : List V}, Reps H ds vs → Reps H' ds vs
  | [], _, h => h
  | _ :: _, _, ⟨w, ws, e, h, r⟩ => ⟨w, ws, e, Rep.same s h, Reps.same s r⟩
end
theorem Reps.length {H : Hp} : ∀ {ds : List PyData} {vs : List V}, Reps H ds vs → vs.length = ds.length
  | [], _, h => by cases h; rfl
  | _ :: ds, _, ⟨w, ws, e, _, r⟩ => by rw [e, List.length_cons, List.length_cons, Reps.length r]
theorem Reps.get {H : Hp} : ∀ {ds : List PyData} {vs : List V} {i : Nat} {v : V}, Reps H ds vs → vs[i]? = some v → ∃ d, ds[i]? = some d ∧ Rep H d v
  | [], _, i, v, h, e => by cases h; simp at e
  | d :: ds, _, 0, v, ⟨w, ws, e0, h, r⟩, e => by subst e0; simp at e; subst e; exact ⟨d, rfl, h⟩
  | d :: ds, _, i + 1, v, ⟨w, ws, e0, h, r⟩, e => by
    subst e0
    obtain ⟨u, e1, e2⟩ := Reps.get (i := i) r (by simpa using e)
    exact ⟨u, by simpa using e1, e2⟩
theorem Reps.get' {H : Hp} : ∀ {ds : List PyData} {vs : List V} {i : Nat} {d : PyData}, Reps H ds vs → ds[i]? = some d → ∃ v, vs[i]? = some v ∧ Rep H d v
  | [], _, i, v, h, e => by simp at e
  | d :: ds, _, 0, v, ⟨w, ws, e0, h, r⟩, e => by subst e0; simp at e; subst e; exact ⟨w, rfl, h⟩
  | d :: ds, _, i + 1, v, ⟨w, ws, e0, h, r⟩, e => by
    subst e0
    obtain ⟨u, e1, e2⟩ := Reps.get' (i := i) r (by simpa using e)
    exact ⟨u, by simpa using e1, e2⟩
theorem Reps.append {H : Hp} : ∀ {ds es : List PyData} {vs us : List V}, Reps H ds vs → Reps H es us → Reps H (ds ++ es) (vs ++ us)
  | [], _, _, _, h, r => by cases h; exact r
  | d :: ds, _, _, _, ⟨w, ws, e, h, q⟩, r => by subst e; exact ⟨w, _, rfl, h, Reps.append q r⟩
theorem Reps.nil {H : Hp} : Reps H [] [] := rfl
theorem Reps.cons {H : Hp} {d : PyData} {ds : List PyData} {v : V} {vs : List V} (h : Rep H d v) (r : Reps H ds vs) : Reps H (d :: ds) (v :: vs) := ⟨v, vs, rfl, h, r⟩
theorem Reps.one {H : Hp} {d : PyData} {v : V} (h : Rep H d v) : Reps H [d] [v] := .cons h .nil
theorem Reps.take {H : Hp} : ∀ {ds : List PyData} {vs : List V} (n : Nat), Reps H ds vs → Reps H (ds.take n) (vs.take n)
  | [], _, n, h => by cases h; simp [Reps]
  | d :: ds, _, 0, ⟨w, ws, e, h, r⟩ => by subst e; exact rfl
  | d :: ds, _, n + 1, ⟨w, ws, e, h, r⟩ => by subst e; exact .cons h (Reps.take n r)
theorem Reps.drop {H : Hp} : ∀ {ds : List PyData} {vs : List V} (n : Nat), Reps H ds vs → Reps H (ds.drop n) (vs.drop n)
  | [], _, n, h => by cases h; simp [Reps]
  | d :: ds, _, 0, h => h
  | d :: ds, _, n + 1, ⟨w, ws, e, h, r⟩ => by subst e; exact Reps.drop n r
theorem scal_reads {h : Heap} {v : V} {u : Value} {d : PyData} (e : scalD v = some d) (r : RelV v u) : Reads h u d [] := by
  cases v with
  | non => cases e; cases r; exact .none
  | bl b => cases e; cases r; exact .bool b
  | int i => cases e; obtain ⟨t, rfl⟩ := r; exact .int i t
  | str x => cases e; obtain ⟨t, rfl⟩ := r; exact .str x t
  | _ => cases e
theorem key_reads {h : Heap} {k : Key} {u : Value} (e : keyIs k u = true) : Reads h u (keyD k) [] := by
  rcases keyIs_shape e with ⟨i, t, rfl, rfl⟩ | ⟨x, t, rfl, rfl⟩
  · exact .int i t
  · exact .str x t
theorem pairs_reads {P : Program} {w : World} {h : Heap} : ∀ {ks : List (Key × V)} {vs : List (Key × Value)} {es : List DictEntry} {kvs : List (PyData × PyData)}, pairsD ks = some kvs → KV ks vs → Pairs (mixKind P w) es vs →
    ReadsAll h (es.map (·.key)) (kvs.map (·.1)) [] ∧ ReadsAll h (es.map (·.val)) (kvs.map (·.2)) []
  | [], _, es, kvs, e, r, p => by
    cases e
    cases r
    cases es with
    | nil => exact ⟨.nil, .nil⟩
    | cons _ _ => exact (by cases p)
  | (k, v) :: ks, _, es, kvs, e, r, p => by
    cases r with
    | cons r1 r2 =>
      rename_i q vs'
      obtain ⟨k', u⟩ := q
      obtain ⟨e1, e2⟩ := r1
      simp only at e1 e2
      subst e1
      cases p with
      | cons hk hv hr =>
        unfold pairsD at e
        cases e1 : scalD v with
        | none => rw [e1] at e; cases e
        | some d =>
          cases e3 : pairsD ks with
          | none => rw [e1, e3] at e; cases e
          | some ds =>
            rw [e1, e3] at e
            cases e
            obtain ⟨z1, z2⟩ := pairs_reads e3 r2 hr
            exact ⟨.cons (as := []) (bs := []) (key_reads hk) z1, .cons (as := []) (bs := []) (by show Reads h (DictEntry.val _) d []; rw [hv]; exact scal_reads e1 e2) z2⟩
section
variable {X : Cx} {pins : List (Addr × Obj)} {σ : St} {H : Hp} {s : Shared}
mutual
theorem Rep.reads (I : Inv X pins σ H s) : ∀ {d : PyData} {v : V} {u : Value}, Rep H d v → RelV v u → ∃ as, Reads s.heap u d as
  | .none, _, u, h, r => by cases h; cases r; exact ⟨_, .none⟩
  | .bool b, _, u, h, r => by cases h; cases r; exact ⟨_, .bool b⟩
  | .int i, _, u, h, r => by cases h; obtain ⟨t, rfl⟩ := r; exact ⟨_, .int i t⟩
  | .str x, _, u, h, r => by cases h; obtain ⟨t, rfl⟩ := r; exact ⟨_, .str x t⟩
  | .tuple ds, _, u, ⟨a, vs, e, h, q⟩, r => by
    subst e
    cases r
    obtain ⟨_, its, rv, o, ho, hc, n, hd⟩ := I.hok a _ h
    obtain ⟨as, z⟩ := Reps.reads I q rv
    exact ⟨_, .tuple ho hc hd (by simpa using z)⟩
  | .list ds, _, u, ⟨a, vs, e, h, q⟩, r => by
    subst e
    cases r
    obtain ⟨_, its, n, rv, ho⟩ := I.hok a _ h
    obtain ⟨as, z⟩ := Reps.reads I q rv
    exact ⟨_, .list ho rfl rfl (by simpa using z)⟩
  | .dict kvs, _, u, ⟨a, ks, e, h, q⟩, r => by
    subst e
    cases r
    obtain ⟨_, _, vs, rk, o, es, ep, ho, hx, hd, _, hp, _⟩ := I.hok a _ h
    obtain ⟨z1, z2⟩ := pairs_reads (P := X.prog) (w := X.w) (h := s.heap) q rk hp
    exact ⟨_, .dict ho hx.1 hd z1 z2⟩
theorem Reps.reads (I : Inv X pins σ H s) : ∀ {ds : List PyData} {vs : List V} {us : List Value}, Reps H ds vs → Vals vs us → ∃ as, ReadsAll s.heap us ds as
  | [], _, us, h, r => by cases h; cases r; exact ⟨_, .nil⟩
  | d :: ds, _, us, ⟨w, ws, e, h, q⟩, r => by
    subst e
    cases r with
    | cons r1 r2 =>
      obtain ⟨as, z⟩ := Rep.reads I h r1
      obtain ⟨bs, y⟩ := Reps.reads I q r2
      exact ⟨_, .cons z y⟩
end
end
section
variable {X : Cx} {k : Nat}
def tyD : PyData → String
  | .none => "NoneType"
  | .bool _ => "bool"
  | .int _ => "int"
  | .str _ => "str"
  | .tuple _ => "tuple"
  | .list _ => "list"
  | .dict _ => "dict"
theorem Rep.ty {H : Hp} {K : PySem.W.Frag} {d : PyData} {v : V} (h : Rep H d v) : TyOf K H v (.type (tyD d)) := by
  cases d with
  | none => cases h; exact .non
  | bool b => cases h; exact .bl b
  | int i => cases h; exact .int i
  | str x => cases h; exact .str x
  | tuple ds => obtain ⟨a, vs, rfl, e, _⟩ := h; exact .tup e
  | list ds => obtain ⟨a, vs, rfl, e, _⟩ := h; exact .lst e
  | dict ds => obtain ⟨a, ks, rfl, e, _⟩ := h; exact .dK e
theorem call_isi : CallR X (.builtin "isinstance") (fun xs H Q => ∃ x n t b, xs = [x, .ty n] ∧ TyOf X.K H x t ∧ PySem.W.kitOne X.K t (.type n) = some b ∧ Q (.bl b) H) := by
  intro pins s σ H vs us Q I r h
  obtain ⟨x, n, t, b, rfl, ty, e, q⟩ := h
  cases r with
  | cons r rr =>
    cases rr with
    | cons r' rr =>
      cases rr
      cases r'
      exact isinst_ok I r ty e fun tk => ⟨.bl b, H, I.tok _, rfl, q⟩
theorem kit_tuple (K : PySem.W.Frag) (d : PyData) : PySem.W.kitOne K (.type (tyD d)) (.type "tuple") = some (match d with | .tuple _ => true | _ => false) := by
  cases d <;> first | rfl | decide
theorem kit_str (K : PySem.W.Frag) (d : PyData) : PySem.W.kitOne K (.type (tyD d)) (.type "str") = some (match d with | .str _ => true | _ => false) := by
  cases d <;> first | rfl | decide
end
end L2
namespace L2
open PySem PySem.Spec PyProof.Rows
section
variable {X : Cx} {x : Str} {ps : List Str} {k : Nat} {sp : Sp} {e : Expr} {es : List Expr} {t : TA} {p pos : Pos}
end
theorem Same.upd {H H' : Hp} {p : Addr} {o : HO} (s : Same H H') (hp : H' p = none) : Same H (upd H' p o) := fun b u e => by rw [upd_ne (ne_of_none (s b u e) hp)]; exact s b u e
theorem Same.new {H : Hp} {p : Addr} {o : HO} (hp : H p = none) : Same H (L2.upd H p o) := (Same.refl H).upd hp
section
variable {g : TG} {te : TE} {σ : St} {H : Hp} {Q : VK} {n : Nat}
end
theorem bt_isinstance : bootBuiltins "isinstance" = some (.builtin "isinstance") := by decide +kernel
theorem bt_len : bootBuiltins "len" = some (.builtin "len") := by decide +kernel
theorem bt_all : bootBuiltins "all" = some (.builtin "all") := by decide +kernel
theorem bt_sorted : bootBuiltins "sorted" = some (.builtin "sorted") := by decide +kernel
theorem bt_divmod : bootBuiltins "divmod" = some (.builtin "divmod") := by decide +kernel
theorem bt_abs : bootBuiltins "abs" = some (.builtin "abs") := by decide +kernel
theorem bt_min : bootBuiltins "min" = some (.builtin "min") := by decide +kernel
theorem bt_max : bootBuiltins "max" = some (.builtin "max") := by decide +kernel
theorem bt_str : bootBuiltins "str" = some (.type "str") := by decide +kernel
theorem bt_tuple : bootBuiltins "tuple" = some (.type "tuple") := by decide +kernel
theorem bt_list : bootBuiltins "list" = some (.type "list") := by decide +kernel
section
variable {X : Cx} {e e2 : Expr} {te te2 : TE} {t : TA} {p p2 pos : Pos}
def isTup : PyData → Bool | .tuple _ => true | _ => false
def isStr : PyData → Bool | .str _ => true | _ => false
end
def mapO (f : Expr → Option PyData) : List Expr → Option (List PyData)
  | [] => some []
  | e :: es => match f e, mapO f es with
    | some d, some ds => some (d :: ds)
    | _, _ => none
def litD : Nat → Expr → Option PyData
  | 0, _ => none
  | n + 1, e => match e with
    | .Constant .none _ _ => some .none
    | .Constant (.bool b) _ _ => some (.bool b)
    | .Constant (.int i) _ _ => some (.int i)
    | .Constant (.str x) _ _ => some (.str x)
    | .Tuple es _ _ => if es.length ≤ 1000 then (mapO (litD n) es).map .tuple else none
    | .List es _ => if es.length ≤ 1000 then (mapO (litD n) es).map .list else none
    | .UnaryOp .USub (.Constant (.int i) _ _) _ => some (.int (-i))
    | .BinOp (.Constant (.int a) _ _) .Pow (.Constant (.int b) _ _) _ => if 0 ≤ b ∧ b ≤ 1000000 ∧ a.natAbs < 2 ^ 64 then some (.int (a ^ b.toNat)) else none
    | .Dict [] [] _ => some (.dict [])
    | .Dict [some (.Constant (.str k) _ _)] [.Constant (.int i) _ _] _ => some (.dict [(.str k, .int i)])
    | _ => none
abbrev litDs (n : Nat) (es : List Expr) : Option (List PyData) := mapO (litD n) es
def NewIn (H H' N : Hp) : Prop := ∀ c o, N c = some o → H c = none ∧ H' c = some o
def tLit (d : PyData) : TE := fun _ H Q => ∀ r H' N, Same H H' → NewIn H H' N → Rep N d r → Q r H'
def tLits (ds : List PyData) : TA := fun _ H Q => ∀ rs H' N, Same H H' → NewIn H H' N → Reps N ds rs → Q rs H'
def noHp : Hp := fun _ => none
theorem NewIn.no {H H' : Hp} : NewIn H H' noHp := fun _ _ e => by cases e
theorem NewIn.same {H H' N : Hp} (n : NewIn H H' N) : Same N H' := fun c o e => (n c o e).2
def plusHp (N M : Hp) : Hp := fun c => match N c with | some o => some o | none => M c
theorem plus_l {N M : Hp} : Same N (plusHp N M) := fun c o e => by simp only [plusHp, e]
theorem plus_r {H H1 H2 N M : Hp} (n : NewIn H H1 N) (m : NewIn H1 H2 M) : Same M (plusHp N M) := fun c o e => by
  have h1 := (m c o e).1
  cases q : N c with
  | none => simp only [plusHp, q, e]
  | some u => rw [(n c u q).2] at h1; cases h1
theorem NewIn.plus {H H1 H2 N M : Hp} (s1 : Same H H1) (s2 : Same H1 H2) (n : NewIn H H1 N) (m : NewIn H1 H2 M) : NewIn H H2 (plusHp N M) := fun c o e => by
  cases q : N c with
  | some u =>
    simp only [plusHp, q] at e
    cases e
    exact ⟨(n c _ q).1, s2 _ _ (n c _ q).2⟩
  | none =>
    simp only [plusHp, q] at e
    exact ⟨s1.free (m c o e).1, (m c o e).2⟩
theorem NewIn.put {H H1 N : Hp} {p : Addr} {o : HO} (s1 : Same H H1) (n : NewIn H H1 N) (hp : H1 p = none) : NewIn H (upd H1 p o) (upd N p o) ∧ Same N (upd N p o) := by
  have np : ∀ c u, N c = some u → c ≠ p := fun c u e z => by subst z; rw [(n c u e).2] at hp; cases hp
  refine ⟨fun c u e => ?_, fun c u e => by rw [upd_ne (np c u e)]; exact e⟩
  by_cases hc : c = p
  · subst hc
    rw [upd_same] at e
    cases e
    exact ⟨s1.free hp, upd_same⟩
  · rw [upd_ne hc] at e
    exact ⟨(n c u e).1, by rw [upd_ne hc]; exact (n c u e).2⟩
theorem litDs_length : ∀ {es : List Expr} {n : Nat} {ds : List PyData}, litDs n es = some ds → ds.length = es.length
  | [], n, ds, h => by unfold litDs mapO at h; cases h; rfl
  | e :: es, n, ds, h => by
    unfold litDs mapO at h
    split at h
    · rename_i d ds' h1 h2
      cases h
      rw [List.length_cons, List.length_cons, litDs_length h2]
    · cases h
section
variable {X : Cx}
theorem pa_lits {n : Nat} (ih : ∀ (e : Expr) (d : PyData), litD n e = some d → PE X e (tLit d) ∧ ∀ es : List Expr, starEach (e :: es) X.env = (false, eval e X.env) :: starEach es X.env) : ∀ (es : List Expr) (ds : List PyData), litDs n es = some ds → PA X es (tLits ds)
  | [], ds, h => by
    unfold litDs mapO at h
    cases h
    intro pos pins s σ H Q I q
    exact pa_nil pos pins s σ H Q I (q [] H noHp (Same.refl H) .no rfl)
  | e :: es, ds, h => by
    unfold litDs mapO at h
    split at h
    · rename_i d ds' h1 h2
      cases h
      obtain ⟨a, b⟩ := ih e d h1
      intro pos pins s σ H Q I q
      refine pa_cons a (pa_lits ih es ds' h2) (b es) pos pins s σ H Q I fun r H1 N1 s1 n1 hr rs H2 N2 s2 n2 hrs => q _ H2 _ (s1.trans s2) (n1.plus s1 s2 n2) (.cons (hr.same plus_l) (hrs.same (plus_r n1 n2)))
    · cases h
theorem pe_lit_aux : ∀ (n : Nat) (e : Expr) (d : PyData), litD n e = some d → PE X e (tLit d) ∧ ∀ es : List Expr, starEach (e :: es) X.env = (false, eval e X.env) :: starEach es X.env := by
  intro n
  induction n with
  | zero => intro e d h; unfold litD at h; cases h
  | succ n ih =>
    intro e d h
    unfold litD at h
    split at h
    · cases h; exact ⟨fun pins s σ H Q I q => pe_non pins s σ H Q I (q _ H noHp (Same.refl H) .no rfl), fun _ => rfl⟩
    · cases h; exact ⟨fun pins s σ H Q I q => pe_bl pins s σ H Q I (q _ H noHp (Same.refl H) .no rfl), fun _ => rfl⟩
    · cases h; exact ⟨fun pins s σ H Q I q => pe_int pins s σ H Q I (q _ H noHp (Same.refl H) .no rfl), fun _ => rfl⟩
    · cases h; exact ⟨fun pins s σ H Q I q => pe_str pins s σ H Q I (q _ H noHp (Same.refl H) .no rfl), fun _ => rfl⟩
    · rename_i es k' p'
      split at h
      · rename_i hl
        cases h1 : mapO (litD n) es with
        | none => rw [h1] at h; cases h
        | some ds =>
          rw [h1] at h
          cases h
          refine ⟨fun pins s σ H Q I q => pe_tup (pa_lits ih es ds h1) pins s σ H Q I fun rs H1 N1 s1 n1 hrs => ⟨?_, fun p hp => q _ _ _ (s1.upd hp) (n1.put s1 hp).1 ⟨p, rs, rfl, upd_same, hrs.same (n1.put s1 hp).2⟩⟩, fun _ => rfl⟩
          rw [hrs.length, litDs_length h1]
          exact Nat.le_trans hl (by decide)
      · cases h
    · rename_i es p'
      split at h
      · rename_i hl
        cases h1 : mapO (litD n) es with
        | none => rw [h1] at h; cases h
        | some ds =>
          rw [h1] at h
          cases h
          refine ⟨fun pins s σ H Q I q => pe_lst (pa_lits ih es ds h1) pins s σ H Q I fun rs H1 N1 s1 n1 hrs => ⟨?_, fun p hp => q _ _ _ (s1.upd hp) (n1.put s1 hp).1 ⟨p, rs, rfl, upd_same, hrs.same (n1.put s1 hp).2⟩⟩, fun _ => rfl⟩
          rw [hrs.length, litDs_length h1]
          exact Nat.le_trans hl (by decide)
      · cases h
    · cases h; exact ⟨fun pins s σ H Q I q => pe_un un_neg pe_int pins s σ H Q I ⟨_, rfl, q _ H noHp (Same.refl H) .no rfl⟩, fun _ => rfl⟩
    · split at h
      · rename_i hl
        cases h
        exact ⟨fun pins s σ H Q I q => pe_op op_pow pe_int pe_int pins s σ H Q I ⟨_, _, rfl, rfl, hl, q _ H noHp (Same.refl H) .no rfl⟩, fun _ => rfl⟩
      · cases h
    · cases h; exact ⟨fun pins s σ H Q I q => pe_dnewK pins s σ H Q I fun p hp => q _ _ (upd noHp p (.dK [])) (Same.new hp) (NewIn.put (Same.refl H) .no hp).1 ⟨p, [], rfl, upd_same, rfl⟩, fun _ => rfl⟩
    · rename_i k k1 p1 i i1 p2 p3
      cases h
      refine ⟨fun pins s σ H Q I q => pe_disp (pps_cons pe_str pe_int pps_nil) rfl rfl (by simp) (by show 1 ≤ 15; decide) pins s σ H Q I fun p hp => ⟨upd_same, [(Sum.inr k, V.int i)], rfl, by show 1 ≤ 15; decide, ?_⟩, fun _ => rfl⟩
      refine q _ _ (upd noHp p (.dK [(Sum.inr k, V.int i)])) (fun b o e => ?_) (fun c o e => ?_) ⟨p, [(Sum.inr k, V.int i)], rfl, upd_same, rfl⟩
      · rw [upd_ne (ne_of_none e hp), upd_ne (ne_of_none e hp)]
        exact e
      · by_cases hc : c = p
        · subst hc
          rw [upd_same] at e
          cases e
          exact ⟨hp, upd_same⟩
        · rw [upd_ne hc] at e
          cases e
    · cases h
@[irreducible] def Lit (n : Nat) (e : Expr) (d : PyData) : Prop := litD n e = some d
theorem Lit.of {n : Nat} {e : Expr} {d : PyData} (h : litD n e = some d) : Lit n e d := by unfold Lit; exact h
theorem Lit.eq {n : Nat} {e : Expr} {d : PyData} (h : Lit n e d) : litD n e = some d := by unfold Lit at h; exact h
theorem pe_lit (n : Nat) {e : Expr} {d : PyData} (h : Lit n e d) : PE X e (tLit d) := (pe_lit_aux n e d h.eq).1
end
end L2
namespace L2
open PySem PySem.Spec PyProof.Rows
section
open PySem.SeqAt
open PySem.AutoSeq1 (wpAny_loadPart')
open PySem.MeetsSeq PySem.MeetsSeq2 PySem.MeetsSeq3
end
section
variable {X : Cx} {k : Nat}
def cutD (ds : List PyData) (lo hi : Option Int) : List PyData := (ds.drop (HT.sIx ds.length 0 lo)).take (HT.sIx ds.length ds.length hi - HT.sIx ds.length 0 lo)
theorem getItem_whole {P : Program} {w : World} {A : Around} {E : Value → Shared → Prop} {s : Shared} {t sl : Addr} {items : Array Value} {vl vu : Value} {lo hi : Option Int} {Q : Value → Shared → Prop} (ht : IsTup s.heap t items) (hs : s.heap.IsSliceOf sl vl vu .none) (pl : IsPart vl lo) (pu : IsPart vu hi)
    (h0 : HT.sIx items.size 0 lo = 0) (h1 : HT.sIx items.size items.size hi = items.size) (q : Q (.ref t) s) : wpAny (model P w) A (getItem (.ref t) (.ref sl)) Q E s := by
  obtain ⟨os, hos, hcs, hds⟩ := id hs
  have hTs : s.TypeIs (.ref sl) "slice" := ⟨os, hos, hcs⟩
  unfold getItem
  try with_reducible refine wpAny_holding ?_
  first | refine wpAny_bind (wpAny_pure ?_) | skip
  refine wpAny_bind (wpAny_sequenceKey ht.typeIs (by decide) ?_)
  refine wpAny_bind (wpAny_callSpecial?_slot (name := Str.ofString "__getitem__") ht.typeIs PyProof.Rows.slot_tuple_getitem (wpAny_call_entry PyProof.Rows.slot_tuple_getitem ht.typeIs entry_tuple_getitem ?_ (args_tuple_getitem _ _)))
  show wpAny _ _ (Builtin.Tuple.tupleItemsOf (.ref t) >>= _) _ _ s
  refine wpAny_bind (tupleItemsOf_ ht (wpAny_bind (wpAny_typeOf hTs ?_)))
  rw [if_pos (by decide)]
  refine wpAny_bind (HT.sliceApplied_gen hs pl pu ?_)
  rw [h0, h1]
  show wpAny _ _ (if ((((0 : Nat) : Int) == 0 && (1 : Int) == 1 && (items.size - 0) == items.size) = true) then _ else _) _ _ s
  rw [if_pos (by simp)]
  unfold Builtin.Tuple.tupleIsExact
  refine wpAny_bind (wpAny_bind (wpAny_typeOf ht.typeIs (wpAny_pure ?_)))
  first
    | exact wpAny_bind (wpAny_rule (wpAny_bind (wpAny_pure (wpAny_pure ⟨_, rfl, wpAny_pure q⟩))))
    | exact wpAny_bind (wpAny_rule (wpAny_pure ⟨_, rfl, wpAny_pure q⟩))
    | (rw [if_pos (by decide)]; exact wpAny_bind (wpAny_rule (wpAny_bind (wpAny_pure (wpAny_pure ⟨_, rfl, wpAny_pure q⟩)))))
    | (rw [if_pos (by decide)]; exact wpAny_bind (wpAny_rule (wpAny_pure ⟨_, rfl, wpAny_pure q⟩)))
end
end L2
namespace L2
open PySem PySem.Spec PyProof.Rows
theorem ObjOk.obj {P : Program} {w : World} {H : Hp} {h : Heap} {a : Addr} {o : HO} (x : ObjOk P w H h a o) : ∃ ob, h.get? a = some ob := by
  cases o with
  | lst xs => obtain ⟨_, _, _, _, e⟩ := x; exact ⟨_, e⟩
  | tup xs => obtain ⟨_, _, _, ob, e, _⟩ := x; exact ⟨ob, e⟩
  | dK kvs => obtain ⟨_, _, _, _, ob, _, _, e, _⟩ := x; exact ⟨ob, e⟩
  | dT kvs => obtain ⟨_, _, _, _, ob, _, _, e, _⟩ := x; exact ⟨ob, e⟩
  | set S n => obtain ⟨ob, _, _, _, e, _⟩ := x; exact ⟨ob, e⟩
  | ins C dx fs => obtain ⟨_, _, _, e, _⟩ := x; exact ⟨_, e⟩
  | own y => exact x
  | xd fs => obtain ⟨_, ⟨ob, _, _, e, _⟩, _⟩ := x; exact ⟨ob, e⟩
  | rng lo hi => obtain ⟨_, _, _, e⟩ := x; exact ⟨_, e⟩
  | frz ob u => exact ⟨_, x.1⟩
  | tbl ps => exact ⟨_, x⟩
  | met f y => exact ⟨_, x⟩
  | ext φ => exact x.2.1
def Fly (P : Program) (w : World) : CXT := fun outer H s E e s' =>
  ∃ (a : Addr) (cls : Value) (t : Addr) (B : Heap) (H' : Hp), e = .ref a ∧ s'.os = s.os ∧ AllBare s'.gens ∧ Un (frs outer) [] H H' s.heap s'.heap ∧ HOk P w H' s'.heap ∧ Heap.FlyingW B outer a cls (.ref t) s'.heap ∧
    (∀ b o, s.heap.get? b = some o → b ∉ frs outer → ∃ o', s'.heap.get? b = some o' ∧ B.get? b = some o') ∧ (∀ b u, H' b = some u → ∃ o', s'.heap.get? b = some o' ∧ B.get? b = some o') ∧ E cls none H'
section
variable {P : Program} {w : World} {K : PySem.W.Frag} {mg : Str → Option Value} {base : Heap} {N : List Str} {qual : Str} {scope : Scope} {f : Addr} {cd : Value} {A : Around} {outer : List Env} {s : Shared} {H : Hp} {E : XK}
theorem fly_pass : Passes (Fly P w) (cxOf (Fly P w) P w K mg base N qual scope f cd A outer s H E) E := by
  intro pins σ H1 s1 e s' I ⟨a, cls, t, B, H', e1, os, bare, un, hok, fl, old, trk, q⟩
  subst e1
  have J := I.call' os un hok bare (fun b z => nomatch z)
  have hfr : (A.deeper (envOfC qual scope s.heap.objs.size f cd)).frames = some (envOfC qual scope s.heap.objs.size f cd :: outer) := I.ok.frames
  have noA : ∀ b : Addr, b ∉ (cxOf (Fly P w) P w K mg base N qual scope f cd A outer s H E).ex := fun b z => nomatch z
  have inB : ∀ b o, s.heap.get? b = some o → b ∉ frs outer → ∃ o', s'.heap.get? b = some o' ∧ B.get? b = some o' := fun b o e hb => by
    obtain ⟨o1, e1⟩ := I.base.there b o e (noA b)
    refine old b o1 e1 fun z => ?_
    rcases List.mem_cons.mp (I.stkSub b z) with z | z
    · have z2 : b = s.heap.objs.size := z
      exact absurd (Heap.lt_size e) (by rw [z2]; exact Nat.lt_irrefl _)
    · exact hb z
  refine wpAny_leaves_onW hfr rfl fl fun h' fl' up => ?_
  refine ⟨a, cls, t, B, H', rfl, os.trans I.os, bare, ⟨fun b o e n hb _ => ?_, fun b o e n hb _ => ?_, fun b o e n _ => J.base.free b o e n (noA b), fun b o e _ => ?_, J.base.tups, J.base.frzs, J.base.tbls⟩, fun b u e => ?_, fl', fun b o e hb => ?_, fun b u e => ?_, q⟩
  · have e2 := J.base.keep b o e n hb (noA b)
    obtain ⟨o', e3, e4⟩ := inB b o e hb
    rw [e2] at e3; cases e3
    exact fl'.1 b o e4
  · obtain ⟨sl, e2⟩ := J.base.slot b o e n hb (noA b)
    obtain ⟨_, o', e3, nf⟩ := J.funs.mem hb
    rw [e2] at e3; cases e3
    obtain ⟨sl', e4⟩ := up b _ e2 nf
    exact ⟨sl', e4⟩
  · by_cases hb : b ∈ frs outer
    · obtain ⟨o2, e2⟩ := J.base.there b o e (noA b)
      obtain ⟨_, o', e3, nf⟩ := J.funs.mem hb
      obtain ⟨sl', e4⟩ := up b _ e3 nf
      exact ⟨_, e4⟩
    · obtain ⟨o', e3, e4⟩ := inB b o e hb
      exact ⟨o', fl'.1 b o' e4⟩
  · refine (hok b u e).stay (fun c v hc z => ?_) (fun _ z => z) fun _ _ z => z
    have : ∃ u', H' c = some u' := by
      rcases hc with hc | hc
      · exact ⟨u, hc ▸ e⟩
      · exact ⟨_, hc⟩
    obtain ⟨u', hu⟩ := this
    obtain ⟨o', e3, e4⟩ := trk c u' hu
    rw [z] at e3; cases e3
    exact fl'.1 c v e4
  · obtain ⟨o', e3, e4⟩ := inB b o e hb
    exact ⟨o', fl'.1 b o' e4, e4⟩
  · obtain ⟨o', e3, e4⟩ := trk b u e
    exact ⟨o', fl'.1 b o' e4, e4⟩
structure XCls (K : PySem.W.Frag) (mg : Str → Option Value) (x : Str) (C : Addr) (bmB : List Value) (newId : String) : Prop where
  ns : PySem.W.nsIn K mainGlobals x = some (some (.ref C))
  ex : PySem.W.excIn K C bmB newId = true
theorem XCls.own {X : Cx} {pins : List (Addr × Obj)} {σ : St} {H : Hp} {s : Shared} {x : Str} {C : Addr} {bmB : List Value} {newId : String} (c : XCls X.K X.mg x C bmB newId) (I : Inv X pins σ H s) : OwnCls x C bmB newId X.mg X.base := by
  refine ⟨PySem.W.mg_of I.mod.kin I.mod.glob c.ns, ?_⟩
  have q := c.ex
  have X0 := I.mod.kin
  unfold PySem.W.excIn at q
  split at q
  · rename_i dd cd sl ho
    split at q
    · rename_i C' bm k0 k1 k2 k3 n k5 hm hs
      simp only [Bool.and_eq_true, beq_iff_eq, Bool.not_eq_true'] at q
      obtain ⟨⟨⟨⟨⟨rfl, rfl⟩, hdel⟩, ht⟩, hok⟩, hni⟩ := q
      obtain ⟨nm, bs, mro, ns, qn, hd, sn, sub, ab, col, del⟩ := cd
      dsimp only at hm hdel hok hni
      subst hm hdel
      have hsl : sl = #[k0, k1, k2, k3, some (.builtin n), k5] := by
        obtain ⟨l⟩ := sl
        simp only at hs
        rw [hs]
      subst hsl
      exact ⟨bm, ns, nm, qn, bs, hd, sn, sub, ab, col, dd, k0, k1, k2, k3, k5, _, X0 _ _ ho, .of_isNs (PySem.W.isNs_of_in X0 hok), PySem.W.nsMap_none_of_in X0 hok hni, PySem.W.tail_of_in X0 ht⟩
    · cases q
  · cases q
def tRaise (E : XK) (C : Addr) (t : TA) : TS := fun _ σ H => t σ H fun vs H1 => vs.length ≤ sizeLine ∧ E (.ref C) none H1
theorem ps_raise {B newId initId : String} {bmB : List Value} {C : Addr} {x : Str} {e : Expr} {es : List Expr} {t : TA} {np cpos pos : Pos} (c : XCls K mg x C bmB newId) (FB : ExcBaseFacts B newId initId bmB) (hd : A.handled = none)
    (hg : Gl (cxOf (Fly P w) P w K mg base N qual scope f cd A outer s H E) x) (ha : PA (cxOf (Fly P w) P w K mg base N qual scope f cd A outer s H E) (e :: es) t)
    (he : starEach (e :: es) (envOfC qual scope s.heap.objs.size f cd) = (false, eval e (envOfC qual scope s.heap.objs.size f cd)) :: starEach es (envOfC qual scope s.heap.objs.size f cd) := by rfl)
    (hplain : (backTo cpos (starEach es (envOfC qual scope s.heap.objs.size f cd))).any (·.1) = false := by rfl) (hdb : (x == ("__debug__" : Str)) = false := by decide) :
    PS (cxOf (Fly P w) P w K mg base N qual scope f cd A outer s H E) (.Raise (some (.Call (.Name x np) (e :: es) [] cpos)) none pos) (tRaise E C t) := by
  intro pins s1 σ H1 D I h
  have O := XCls.own (X := cxOf (Fly P w) P w K mg base N qual scope f cd A outer s H E) c I
  obtain ⟨tl, Nn, nm, q, bs, hdct, sn, sub, ab, col, dd, k0, k1, k2, k3, k5, mN, hC, hN, hni, T⟩ := O.obj
  refine wpAny_Raise_call_subT (C := C) (nm := nm) (q := q) (N := Nn) (bs := bs) (bm := tl) (hdct := hdct) (sn := sn) (sub := sub) (ab := ab) (col := col) (dd := dd) (k0 := k0) (k1 := k1) (k2 := k2) (k3 := k3) (k5 := k5)
    FB (mN := mN) (T.hasType FB.hasBase) hd (by show (backTo cpos (starEach (e :: es) (envOfC qual scope s.heap.objs.size f cd))).any (·.1) = false; rw [he]; show (false || (backTo cpos (starEach es (envOfC qual scope s.heap.objs.size f cd))).any (·.1)) = false; rw [hplain]; rfl) hni
    (ld_glob I hg O.bound ⟨rfl, ?_⟩ hdb)
  have h1 := ha cpos pins s1 σ H1 _ I h
  show wpAny _ _ (evalArgs (.ref C) true (backTo cpos (starEach (e :: es) (envOfC qual scope s.heap.objs.size f cd))) []) _ _ _
  have h1' : wpAny (model P w) (A.deeper (envOfC qual scope s.heap.objs.size f cd)) (spliced (backTo cpos (starEach (e :: es) (envOfC qual scope s.heap.objs.size f cd)))) _ _ s1 := h1
  rw [he] at h1' ⊢
  refine Calls.evalArgs_plain (wpAny_mono h1' (fun vs s2 ⟨xs, H2, I2, r, hz, qE⟩ => ?_) fun _ _ y => y)
  have k2 : ∀ b o, base.get? b = some o → s2.heap.get? b = some o := I2.bk
  refine ⟨rfl, by rw [← r.length]; exact hz, k2 _ _ hC, hN.keeps k2, T.keeps k2, fun h' a hm => ?_⟩
  -- it leaves the frame
  have hfr : (A.deeper (envOfC qual scope s.heap.objs.size f cd)).frames = some (envOfC qual scope s.heap.objs.size f cd :: outer) := I.ok.frames
  have noA : ∀ b : Addr, b ∉ (cxOf (Fly P w) P w K mg base N qual scope f cd A outer s H E).ex := fun b z => nomatch z
  have ffs : s2.heap.FunFrames base (envOfC qual scope s.heap.objs.size f cd :: outer) := I2.stack
  have hin : ∀ env ∈ (envOfC qual scope s.heap.objs.size f cd :: outer), ∀ b, env.frame = some b → b ∈ frs (envOfC qual scope s.heap.objs.size f cd :: outer) := fun env he b hb => List.mem_filterMap.mpr ⟨env, he, hb⟩
  show wpAny _ _ (leaving (envOfC qual scope s.heap.objs.size f cd) (.ref a)) _ _ _
  refine wpAny_leaves_madeW (base := PySem.W.hideAll s2.heap (frs (envOfC qual scope s.heap.objs.size f cd :: outer))) hfr rfl (fun b o z => PySem.W.of_hideAll _ z) (PySem.W.funFrames_hide ffs hin) hm fun h'' t fl tup nt up => ?_
  have inB : ∀ b o, s2.heap.get? b = some o → b ∉ frs (envOfC qual scope s.heap.objs.size f cd :: outer) → (PySem.W.hideAll s2.heap (frs (envOfC qual scope s.heap.objs.size f cd :: outer))).get? b = some o := fun b o z hb => PySem.W.hideAll_get _ z hb
  have notL : ∀ b o, s.heap.get? b = some o → b ∉ frs outer → b ∉ frs (envOfC qual scope s.heap.objs.size f cd :: outer) := fun b o z hb m => by
    rcases List.mem_cons.mp (I2.stkSub b m) with z' | z'
    · have z2 : b = s.heap.objs.size := z'
      exact absurd (Heap.lt_size z) (by rw [z2]; exact Nat.lt_irrefl _)
    · exact hb z'
  have trkB : ∀ b u, H2 b = some u → ∃ o', s2.heap.get? b = some o' ∧ (PySem.W.hideAll s2.heap (frs (envOfC qual scope s.heap.objs.size f cd :: outer))).get? b = some o' := fun b u z => by
    obtain ⟨o', e'⟩ := (I2.hok b u z).obj
    refine ⟨o', e', inB b o' e' fun m => ?_⟩
    have := I2.stkFree b m
    rw [z] at this; cases this
  refine ⟨a, .ref C, t, _, H2, rfl, I2.os, I2.bare, ⟨fun b o z n hb _ => ?_, fun b o z n hb _ => ?_, fun b o z n _ => I2.base.free b o z n (noA b), fun b o z _ => ?_, I2.base.tups, I2.base.frzs, I2.base.tbls⟩, fun b u z => ?_, fl, fun b o z hb => ?_, fun b u z => ?_, qE⟩
  · have e2 := I2.base.keep b o z n hb (noA b)
    exact fl.1 b o (inB b o e2 (notL b o z hb))
  · obtain ⟨sl, e2⟩ := I2.base.slot b o z n hb (noA b)
    obtain ⟨_, o', e3, nf⟩ := I2.funs.mem hb
    rw [e2] at e3; cases e3
    obtain ⟨sl', e4⟩ := up b _ (hm.keeps _ _ e2) nf
    exact ⟨sl', e4⟩
  · by_cases hb : b ∈ frs outer
    · obtain ⟨_, o', e3, nf⟩ := I2.funs.mem hb
      obtain ⟨sl', e4⟩ := up b _ (hm.keeps _ _ e3) nf
      exact ⟨_, e4⟩
    · obtain ⟨o2, e2⟩ := I2.base.there b o z (noA b)
      exact ⟨o2, fl.1 b o2 (inB b o2 e2 (notL b o z hb))⟩
  · refine (I2.hok b u z).stay (fun c v hc y => ?_) (fun _ y => y) fun _ _ y => y
    have : ∃ u', H2 c = some u' := by
      rcases hc with hc | hc
      · exact ⟨u, hc ▸ z⟩
      · exact ⟨_, hc⟩
    obtain ⟨u', hu⟩ := this
    obtain ⟨o', e3, e4⟩ := trkB c u' hu
    rw [y] at e3; cases e3
    exact fl.1 c v e4
  · obtain ⟨o2, e2⟩ := I2.base.there b o z (noA b)
    exact ⟨o2, fl.1 b o2 (inB b o2 e2 (notL b o z hb)), inB b o2 e2 (notL b o z hb)⟩
  · obtain ⟨o', e3, e4⟩ := trkB b u z
    exact ⟨o', fl.1 b o' e4, e4⟩
end
end L2
namespace L2
open PySem PySem.Spec PyProof.Rows
structure FnOkS (P : Program) (w : World) (K : PySem.W.Frag) (mg : Str → Option Value) (base : Heap) (CX : CXT) (k : Nat) (f : Addr) (fd : FuncData) (ps : List Str) (sp : Shared → Sp) : Prop where
  len : ∀ s vs H Q E, sp s vs H Q E → vs.length = ps.length
  run : ∀ (A : Around) (outer : List Env) (s : Shared) (H : Hp) (args : Args) (us : List Value) (vs : List V) (Q : VK) (E : XK), Room k A → Env0 P w K mg base A outer s H → BindsTo s fd args (ps.zip us) → Vals vs us → sp s vs H Q E →
    codeAny (model P w) A (.call (.ref f) args) (CR CX outer P w H s Q E) s
abbrev Cx.held (X : Cx) (a : Addr) : Cx := { X with A := X.A.mark (some (.ref a)), calm := false, xe := fun _ _ => False }
theorem Inv.held {X : Cx} {pins : List (Addr × Obj)} {σ : St} {H : Hp} {s : Shared} (I : Inv X pins σ H s) (a : Addr) : Inv (X.held a) pins σ H s :=
  ⟨⟨I.ok.mod, I.ok.kind, I.ok.glob, I.ok.blt, I.ok.above, I.ok.inj, I.ok.has, I.ok.cab, (fun z => nomatch z), I.ok.frames, I.ok.stk, I.ok.exf, I.ok.bs, I.ok.bsz, I.ok.noex, I.ok.exfs, I.ok.funs, I.ok.frf⟩, I.os, I.bare, I.base, I.loc, I.cell, I.free, I.freeC, I.pin, I.hok, I.len⟩
def isClsAt (a : Addr) (cls : Value) : Heap → Prop := fun h => ∃ o, h.get? a = some o ∧ o.cls = cls
theorem isClsAt.ok {P : Program} {w : World} {H : Hp} {h : Heap} {a : Addr} {cls : Value} (x : isClsAt a cls h) : ObjOk P w H h a (.ext (isClsAt a cls)) :=
  ⟨x, let ⟨o, e, _⟩ := x; ⟨o, e⟩, fun h1 h2 ⟨o, e, c⟩ k => ⟨o, k o e, c⟩⟩
theorem fly_un {P : Program} {w : World} {l : List Env} {H H' : Hp} {g h h' : Heap} {B : Heap} (un : Un (frs l) [] H H' g h) (hok : HOk P w H' h) (st : B.StaysIn h') (up : h.UpToSlots h') (ff : h.FunFrames B l)
    (old : ∀ b o, g.get? b = some o → b ∉ frs l → ∃ o', h.get? b = some o' ∧ B.get? b = some o') (trk : ∀ b u, H' b = some u → ∃ o', h.get? b = some o' ∧ B.get? b = some o') : Un (frs l) [] H H' g h' ∧ HOk P w H' h' := by
  have no : ∀ b : Addr, b ∉ ([] : List Addr) := fun b z => nomatch z
  refine ⟨⟨fun b o e n hb _ => ?_, fun b o e n hb _ => ?_, fun b o e n _ => un.free b o e n (no b), fun b o e _ => ?_, un.tups, un.frzs, un.tbls⟩, fun b u e => ?_⟩
  · have e2 := un.keep b o e n hb (no b)
    obtain ⟨o', e3, e4⟩ := old b o e hb
    rw [e2] at e3; cases e3
    exact st b o e4
  · obtain ⟨sl, e2⟩ := un.slot b o e n hb (no b)
    obtain ⟨_, o', e3, nf⟩ := ff.mem hb
    rw [e2] at e3; cases e3
    obtain ⟨sl', e4⟩ := up b _ e2 nf
    exact ⟨sl', e4⟩
  · by_cases hb : b ∈ frs l
    · obtain ⟨_, o', e3, nf⟩ := ff.mem hb
      obtain ⟨sl', e4⟩ := up b _ e3 nf
      exact ⟨_, e4⟩
    · obtain ⟨o', e3, e4⟩ := old b o e hb
      exact ⟨o', st b o' e4⟩
  · refine (hok b u e).stay (fun c v hc z => ?_) (fun _ z => z) fun _ _ z => z
    have : ∃ u', H' c = some u' := by
      rcases hc with hc | hc
      · exact ⟨u, hc ▸ e⟩
      · exact ⟨_, hc⟩
    obtain ⟨u', hu⟩ := this
    obtain ⟨o', e3, e4⟩ := trk c u' hu
    rw [z] at e3; cases e3
    exact st c v e4
theorem named_xe {α : Type} {M : Model} {A : Around} {t : Sem α} {Q1 : α → Shared → Prop} {E1 : Value → Shared → Prop} {s1 : Shared} (T : ∀ XE, XE = E1 → wpAny M A t Q1 XE s1) : wpAny M A t Q1 E1 s1 := T E1 rfl
theorem fn_try {P : Program} {w : World} {K : PySem.W.Frag} {mg : Str → Option Value} {base : Heap} {k : Nat} {f : Addr} {name qual : Str} {params : Arguments} {body : List Stmt} {scope : Scope} {dV kV doc pm cdv ct oc : Value} {an od : Option Addr}
    {osl : Array (Option Value)} {N ps : List Str} {sp : Shared → Sp} {n D : Str} {DC : Addr} {b0 : Stmt} {suite : List Stmt} {tpos hpos np : Pos} {i : Nat}
    (lk : K.lookup f = some ⟨oc, od, .func (PySem.W.fnOf name qual params [.Try body [.ExceptHandler (some (.Name D np)) (some n) (b0 :: suite) hpos] [] [] tpos] scope dV kV doc pm an cdv ct), osl⟩) (hcd : PySem.W.codeIn K cdv qual = true) (S : FnScope N ps scope)
    (hD : mg D = some (.ref DC)) (hi : N[i]? = some n) (hn : scope.names.lookup n = some .local) (hgD : scope.names.lookup D = some .globalImplicit) (hdb : (D == ("__debug__" : Str)) = false)
    (len : ∀ s vs H Q E, sp s vs H Q E → vs.length = ps.length)
    (hbody : ∀ (A : Around) (outer : List Env) (s : Shared) (H : Hp) (vs : List V) (Q : VK) (E : XK), Room k (A.deeper (envOfC qual scope s.heap.objs.size f cdv)) → sp s vs H Q E →
      ∃ (tb : XK → TS) (th : TS), (∀ EH XE, Passes (Fly P w) ((cxOf CX0 P w K mg base N qual scope f cdv A outer s H E).wish XE) EH → PSs ((cxOf CX0 P w K mg base N qual scope f cdv A outer s H E).wish XE) body (tb EH)) ∧
        (∀ a, PSs ((cxOf CX0 P w K mg base N qual scope f cdv A outer s H E).held a) (b0 :: suite) th) ∧
        tb (fun cls _ H' => PySem.W.exmOne K cls (.ref DC) = some true ∧ ∀ (a : Addr) (σ' : St), H' a = none → σ'.length = N.length → th { nx := fun _ H'' => Q .non H'', rt := Q } (σ'.set i (some (.ref a))) (upd H' a (.ext (isClsAt a cls)))) { nx := fun _ H' => Q .non H', rt := Q } (start N vs) H) :
    FnOkS P w K mg base CX0 (k + 1) f (PySem.W.fnOf name qual params [.Try body [.ExceptHandler (some (.Name D np)) (some n) (b0 :: suite) hpos] [] [] tpos] scope dV kV doc pm an cdv ct) ps sp := by
  refine ⟨len, fun A outer s H args us vs Q E hr e0 hb r hsp => ?_⟩
  have hl := len _ _ _ _ _ hsp
  have KX : K.In s.heap := e0.mod.kin.keeps fun b o e => (e0.bs b o e).1
  have lim : s.heap.NoLimit := e0.mod.nolimit.keeps fun b o e => (e0.bs b o e).1
  have hkind : ∀ y ∈ ps.zip us, scope.names.lookup y.1 = some .local ∨ (scope.names.lookup y.1 = some .cell ∧ ((cellsFrom (s.heap.objs.size + 1) scope.names []).lookup y.1).isSome = true) := fun ⟨n, v⟩ hy => by
    rcases S.par n (List.of_mem_zip hy).1 with q | q
    · exact .inl q
    · exact .inr ⟨q, PySem.W.cellsFrom_some _ _ _ (.inl q)⟩
  refine codeAny_call_function hr.depth (KX _ _ lk) rfl S.co S.gen rfl (PySem.W.codeRec_of KX hcd) (hb _ _ _ _ ?_)
  refine wpAny_newFunctionEnv_cells S.kind hkind fun env he s1 x => ?_
  subst he
  refine ⟨lim.keeps x.toInCall.keep, codeAny_func ?_⟩
  obtain ⟨tb, th, hb1, hs1, hq⟩ := hbody A outer s H vs Q E (hr.deeper _) hsp
  have I : Inv (cxOf CX0 P w K mg base N qual scope f cdv A outer s H E) [] (start N vs) H s1 := inv_start S hr.hd e0 hl r x
  generalize hX : cxOf CX0 P w K mg base N qual scope f cdv A outer s H E = X at I hb1 hs1
  have hP : X.prog = P := by rw [← hX]; rfl
  have hw : X.w = w := by rw [← hX]; rfl
  have hA : X.A = A.deeper (envOfC qual scope s.heap.objs.size f cdv) := by rw [← hX]; rfl
  have henv : X.env = envOfC qual scope s.heap.objs.size f cdv := by rw [← hX]; rfl
  have hs0 : X.s₀ = s := by rw [← hX]; rfl
  have hH0 : X.H₀ = H := by rw [← hX]; rfl
  have hout : X.outer = outer := by rw [← hX]; rfl
  have hex : X.ex = [] := by rw [← hX]; rfl
  have hstk : X.stack = X.env :: X.outer := by rw [← hX]; rfl
  have hfrm : X.env.frame = some X.env.locals := by rw [← hX]; rfl
  have hN : X.N = N := by rw [← hX]; rfl
  have hK : X.K = K := by rw [← hX]; rfl
  have hmg : X.mg = mg := by rw [← hX]; rfl
  have hkn : X.env.kindOf n = some .local := by rw [← hX]; exact hn
  have hkD : Gl X D := by rw [← hX]; exact hgD
  have hcls : (X.env.scope.kind == .class || (X.env.scope.kind == .module && X.env.locals != X.env.globals)) = false := by rw [I.ok.kind]; rfl
  -- the end of the call
  have fin : ∀ {σ' : St} {H' : Hp} {v : V} {u : Value} {s' : Shared}, Inv X [] σ' H' s' → RelV v u → Q v H' → CE outer X.prog X.w H s Q u s' := fun {σ' H' v u s'} J rv q => by
    refine ⟨v, H', by rw [← hs0]; exact J.os, J.bare, ?_, J.hok, rv, q⟩
    have := J.base
    unfold Cx.fs at this
    rw [hout, hex, hH0, hs0] at this
    exact this
  show wpAny (model P w) (A.deeper (envOfC qual scope s.heap.objs.size f cdv)) (execs [.Try body [.ExceptHandler (some (.Name D np)) (some n) (b0 :: suite) hpos] [] [] tpos] (envOfC qual scope s.heap.objs.size f cdv)) (fun fl s' => CR CX0 outer P w H s Q E (.ok (.ret (match fl with | .ret v => v | _ => .none))) s') _ s1
  rw [← hA, ← henv]
  have NX : N.Nodup := S.nd
  -- what a raised exception meets
  refine wpAny_execs_cons (wpAny_Try_except ?_)
  rw [← hP, ← hw]
  refine named_xe fun XE hXE => ?_
  refine thn (hb1 (fun cls _ H' => PySem.W.exmOne K cls (.ref DC) = some true ∧ ∀ (a : Addr) (σ' : St), H' a = none → σ'.length = N.length → th { nx := fun _ H'' => Q .non H'', rt := Q } (σ'.set i (some (.ref a))) (upd H' a (.ext (isClsAt a cls)))) XE ?_ [] s1 (start N vs) H _ (I.wish XE) hq) (fun fl s' hs => ?_)
  · -- the handler
    intro pins σ' H1 s2 e s' I1 ⟨a, cls, t, B, H', e1, os, bare, un, hok, fl, old, trk, hm, hq2⟩
    subst e1
    show XE (.ref a) s'
    rw [hXE]
    have hok : HOk X.prog X.w H' s'.heap := by rw [hP, hw]; exact hok
    have I0 : Inv X [] σ' H1 s2 := I1.unwish.pins_of fun p hp => nomatch hp
    have hfr : X.A.frames = some (X.env :: X.outer) := by rw [I0.ok.frames, hstk]
    have fl : Heap.FlyingW B (X.env :: X.outer) a cls (.ref t) s'.heap := by rw [← hstk]; exact fl
    refine wpAny_looks_onW hfr hfrm fl fun h4 held4 up4 => wpAny_landsW held4 fun h5 fl5 up5 => ?_
    have up45 := up4.trans up5
    have ff : s'.heap.FunFrames B X.stack := by rw [hstk]; exact fl.2.2.1
    have na : H' a = none := by
      cases q : H' a with
      | none => rfl
      | some u =>
        obtain ⟨o', _, e4⟩ := trk a u q
        rw [fl.2.1] at e4; cases e4
    have nold : s2.heap.get? a = none := by
      cases q : s2.heap.get? a with
      | none => rfl
      | some o =>
        by_cases hb : a ∈ frs X.stack
        · obtain ⟨_, o', e3, nf⟩ := ff.mem hb
          obtain ⟨oe, ws, hoe, _, hoed, _⟩ := fl.first
          rw [e3] at hoe; cases hoe
          exact absurd hoed (nf ws)
        · obtain ⟨o', _, e4⟩ := old a o q hb
          rw [fl.2.1] at e4; cases e4
    have J5 : Inv X [] σ' H' { s' with heap := h5 } := by
      obtain ⟨u5, k5⟩ := fly_un un hok fl5.1 up45 ff old trk
      exact I0.call' os u5 k5 bare (fun b z => nomatch z)
    refine wpAny_handleBy_cons (codeAny_handlers_test (ld_glob (X := X.held a) (J5.held a) hkD (by show X.mg D = _; rw [hmg]; exact hD) ?_ hdb)) (by intro q; cases q)
    have LT : PySem.W.Looks (model X.prog X.w) h5 (typeOf (.ref a)) cls := by
      obtain ⟨ob, hob, hc⟩ := fl5.there
      subst hc
      exact (PySem.W.Looks.ld hob).andThen .now
    have KX5 : K.In h5 := by rw [← hK]; exact J5.kIn
    refine (PySem.W.exm_one KX5 LT hm).here ?_
    refine codeAny_handlers_suite_as (lands_againW fl5 fun h6 fl6 up6 => ?_)
    have J6 : Inv X [] σ' (upd H' a (.ext (isClsAt a cls))) { s' with heap := h6 } := by
      obtain ⟨u6, k6⟩ := fly_un un hok fl6.1 (up45.trans up6) ff old trk
      refine I0.call' os ⟨u6.keep, u6.slot, fun b o z n' h' => ?_, u6.there, fun b xs z => ?_, fun b o xs z => ?_, fun b ps z => ?_⟩ (fun b u z => ?_) bare (fun b z => nomatch z)
      · have hne : b ≠ a := fun y => by rw [y, nold] at z; cases z
        rw [upd_ne hne]; exact u6.free b o z n' h'
      · have y := u6.tups b xs z
        rw [upd_ne (ne_of_none y na)]; exact y
      · have y := u6.frzs b o xs z
        rw [upd_ne (ne_of_none y na)]; exact y
      · obtain ⟨more, y⟩ := u6.tbls b ps z
        exact ⟨more, by rw [upd_ne (ne_of_none y na)]; exact y⟩
      · by_cases hba : b = a
        · subst hba
          rw [upd_same] at z; cases z
          exact isClsAt.ok (let ⟨ob, hob, hc⟩ := fl6.there; ⟨ob, hob, hc⟩)
        · rw [upd_ne hba] at z
          refine (k6 b u z).stay (fun _ _ _ y => y) (fun c y => ?_) fun c xs y => ?_
          · rw [upd_ne (ne_of_none y na)]; exact y
          · rw [upd_ne (ne_of_none y na)]; exact y
    refine store_ok (X := X.held a) (J6.held a) (by show X.N.Nodup; rw [hN]; exact NX) (by show X.N[i]? = _; rw [hN]; exact hi) (.inl hkn) (v := .ref a) rfl (fun s7 I7 => ?_) (.inr hkn)
    refine wpAny_mono (hs1 a [] s7 _ _ _ I7 (hq2 a σ' na (by rw [I0.len, hN]))) (fun fl' s8 hs => ?_) fun _ _ z => False.elim z
    -- behind the suite
    have done : ∀ {σ8 : St} {H8 : Hp} {v : V} {u : Value}, Inv (X.held a) [] σ8 H8 s8 → RelV v u → Q v H8 → ∀ h9 tk, Heap.SameBut X.env.locals s8.heap h9 → CE outer X.prog X.w H s Q u { s8 with heap := h9, toks := tk } := fun {σ8 H8 v u} J rv q h9 tk sb => by
      have hsz : s.heap.objs.size ≤ X.env.locals := by have := J.ok.above; rw [show (X.held a).s₀ = X.s₀ from rfl, hs0] at this; exact this
      have bs := J.base
      have noE : ∀ b : Addr, b ∉ (X.held a).ex := fun b z => by rw [show (X.held a).ex = X.ex from rfl, hex] at z; cases z
      have hne : ∀ b o, s.heap.get? b = some o → b ≠ X.env.locals := fun b o z y => absurd (Heap.lt_size z) (by rw [y]; exact Nat.not_lt.mpr hsz)
      have e1 : (X.held a).s₀ = s := hs0
      have e2 : (X.held a).H₀ = H := hH0
      have e3 : (X.held a).fs = frs outer := by show frs X.outer = _; rw [hout]
      rw [e1, e2, e3] at bs
      refine ⟨v, H8, by rw [← hs0]; exact J.os, J.bare, ⟨fun b o z n' hb _ => (sb.2 b (hne b o z)).trans (bs.keep b o z n' hb (noE b)), fun b o z n' hb _ => ?_, fun b o z n' _ => bs.free b o z n' (noE b), fun b o z _ => ?_, bs.tups, bs.frzs, bs.tbls⟩, ?_, rv, q⟩
      · obtain ⟨sl, y⟩ := bs.slot b o z n' hb (noE b)
        exact ⟨sl, (sb.2 b (hne b o z)).trans y⟩
      · obtain ⟨o', y⟩ := bs.there b o z (noE b)
        exact ⟨o', (sb.2 b (hne b o z)).trans y⟩
      · intro b u' z
        have hb : b ≠ X.env.locals := fun y => by have := J.free; rw [show (X.held a).env.locals = X.env.locals from rfl, ← y, z] at this; cases this
        refine (J.hok b u' z).stay (fun c v' hc y => (sb.2 c ?_).trans y) (fun _ y => y) fun _ _ y => y
        rcases hc with hc | hc
        · rw [hc]; exact hb
        · intro y
          have := J.free; rw [show (X.held a).env.locals = X.env.locals from rfl, ← y, hc] at this; cases this
    cases fl' with
    | ret u =>
      obtain ⟨v, σ8, H8, J, rv, q⟩ := hs
      obtain ⟨m8, hn8, _⟩ := id J.loc
      exact wpAny_nameGoes_keeps hkn hn8 hcls fun h9 v9 _ sb => done J rv q h9 _ sb
    | next =>
      obtain ⟨σ8, H8, J, q⟩ := hs
      obtain ⟨m8, hn8, _⟩ := id J.loc
      exact wpAny_nameGoes_keeps hkn hn8 hcls fun h9 v9 _ sb => wpAny_execs_nil (done (v := .non) (u := .none) J rfl q h9 _ sb)
    | brk => obtain ⟨_, _, _, q⟩ := hs; exact False.elim q
    | cont => obtain ⟨_, _, _, q⟩ := hs; exact False.elim q
  · cases fl with
    | ret u => obtain ⟨v, σ', H', J, rv, q⟩ := hs; exact fin J.unwish rv q
    | next => obtain ⟨σ', H', J, q⟩ := hs; exact wpAny_execs_nil (wpAny_execs_nil (fin (v := .non) (u := .none) J.unwish rfl q))
    | brk => obtain ⟨_, _, _, q⟩ := hs; exact False.elim q
    | cont => obtain ⟨_, _, _, q⟩ := hs; exact False.elim q
end L2
namespace PySem.W
open PySem PySem.Spec PySem.Calls PyProof.Rows Builtin Builtin.ObjectAttr Builtin.Getset_descriptor
section
variable {prog : Program} {w : World} {K : Frag} {y D : Addr}
theorem exc_find {M : Model} {h : Heap} {nm : Str} {at1 g1 : Value} (X : K.In h) (ha : findIn K (.ref D) nm = some (some at1)) (hn : specialIn K at1 "__get__" = some (some g1)) (htk : takesIn K at1 = some true) :
    Looks M h (find (.ref y) (.ref D) nm) (.bind g1 at1) := by
  have K1 := looks_findIn (M := M) X ha
  have K2 : Looks M h (getOf (some at1)) (some g1) := looks_specialIn X hn
  have K3 := looks_takesIn (M := M) X htk
  exact K1.andThen (K2.andThen ((show Looks M h (dataDescriptor? (some at1) (some g1)) (some (g1, at1)) from K3.andThen .now).andThen (Looks.tag .now)))
theorem exc_cls_get {A : Around} {R : Result → Shared → Prop} {s : Shared} {tp : Value} (X : K.In s.heap) (LT : Looks (model prog w) s.heap (typeOf (.ref y)) (.ref D)) (hm : mroIn K D (.type "object") = some true) (k : R (.ok (.ret (.ref D))) s) :
    codeAny (model prog w) A (.call (.builtin "getset_descriptor.__get__") ⟨[.builtin "object.__class__", .ref y, tp], []⟩) R s := by
  obtain ⟨h1, gs, dr, tk, os⟩ := s
  have LM := looks_mroIn (M := model prog w) X hm
  refine codeAny_call_builtin KF.slot_gs.plain KF.entry_gs (KF.slot_gs.check _ _ _ _ _ _ _ _ KF.type_class (KF.args_gs _ _ _) ?_)
  unfold Builtin.«getset_descriptor.__get__»
  unfold descrGet
  rw [dga_obj]
  refine wpAny_bind (wpAny_pure ?_)
  unfold descrGetter descrCheckInstance
  unfold descrNameAndClass isInstance
  simp only [KF.owner_class]
  repeat lk
  refine ⟨Code.quiet_builtin _ (by decide +kernel), codeAny_builtin KF.entry_class ?_⟩
  unfold Builtin.«object.__class__»
  unfold shownTypeOf
  repeat lk
  exact k
structure ExcLook (K : Frag) (D : Addr) : Prop where
  g1 : findIn K (.ref D) "__getattribute__" = some (some (.builtin "BaseException.__getattribute__"))
  g2 : findIn K (.ref D) "__getattr__" = some none
  be : mroIn K D (.type "BaseException") = some true
  a : findIn K (.ref D) "__class__" = some (some (.builtin "object.__class__"))
  n : specialIn K (.builtin "object.__class__") "__get__" = some (some (.builtin "getset_descriptor.__get__"))
  t : takesIn K (.builtin "object.__class__") = some true
  m : mroIn K D (.type "object") = some true
theorem exc_check {M : Model} {A : Around} {E : Value → Shared → Prop} {nameV : Value} {Q : Unit → Shared → Prop} {s : Shared} (L : ExcLook K D) (X : K.In s.heap) (LT : Looks M s.heap (typeOf (.ref y)) (.ref D)) (hq : Q () s) :
    wpAny M A (checkBuiltinCall "BaseException.__getattribute__" ⟨[.ref y, nameV], []⟩) Q E s := by
  obtain ⟨h1, gs, dr, tk, os⟩ := s
  have LM := looks_mroIn (M := M) X L.be
  have hk : builtinKind "BaseException.__getattribute__" = some .slot := by decide +kernel
  have hsplit : splitId "BaseException.__getattribute__" = some ("BaseException", "__getattribute__") := by decide +kernel
  have ha := F.args_bexc_ga (.ref y) nameV
  simp only [checkBuiltinCall, hk, hsplit]
  refine wpAny_bind ?_
  unfold isInstance
  repeat (first | lk | wp_step)
  exact hq
theorem exc_entry {A : Around} {E : Value → Shared → Prop} {tk : Tok} {Q : Fin → Shared → Prop} {s : Shared} (L : ExcLook K D) (X : K.In s.heap) (LT : Looks (model prog w) s.heap (typeOf (.ref y)) (.ref D)) (hq : Q (.done (.ret (.ref D))) s) :
    wpAny (model prog w) A (Builtin.«object.__getattribute__» ⟨[.ref y, .str "__class__" tk], []⟩) Q E s := by
  obtain ⟨h1, gs, dr, tk', os⟩ := s
  have K3 := exc_find (M := model prog w) (y := y) X L.a L.n L.t
  unfold Builtin.«object.__getattribute__»
  have e1 : slotArgs "__getattribute__" 1 ⟨[.ref y, .str "__class__" tk], []⟩ = pure (.ref y, [.str "__class__" tk]) := rfl
  have e2 : attrName (.str "__class__" tk) = pure "__class__" := rfl
  dsimp only
  rw [e1]
  refine wpAny_bind (wpAny_pure ?_)
  dsimp only
  rw [e2]
  refine wpAny_bind (wpAny_pure (wpAny_bind (LT.at (wpAny_bind (K3.at ?_)))))
  show wpAny _ _ (holding [.builtin "object.__class__"] (call (.builtin "getset_descriptor.__get__") [.builtin "object.__class__", .ref y, .ref D]) >>= ret) _ _ _
  exact wpAny_bind (wpAny_holding (wpAny_call (exc_cls_get X LT L.m (wpAny_pure hq))))
theorem exc_cls {A : Around} {E : Value → Shared → Prop} {Q : Option Value → Shared → Prop} {s : Shared} (L : ExcLook K D)
    (X : K.In s.heap) (LT : Looks (model prog w) s.heap (typeOf (.ref y)) (.ref D)) (k : Q (some (.ref D)) { s with toks := s.toks + 1 }) : wpAny (model prog w) A (getAttr? (.ref y) "__class__") Q E s := by
  obtain ⟨h1, gs, dr, tk, os⟩ := s
  have K1 := looks_findIn (M := model prog w) X L.g1
  have K2 := looks_findIn (M := model prog w) X L.g2
  have f3 := F.excAttr_ValueError.ga.bind (.ref y)
  unfold getAttr? getAttrBy?
  unfold getAttrBy
  refine wpAny_bind (wpAny_mkText (wpAny_bind (wpAny_attempt (wpAny_holding (wpAny_bind (LT.at (wpAny_bind (K1.at ?_))))))))
  have e1 : (Value.builtin "BaseException.__getattribute__" == Value.builtin "object.__getattribute__") = false := by decide +kernel
  have e0 : (onTheHeap (Value.ref D) && (Value.builtin "BaseException.__getattribute__" == Value.builtin "object.__getattribute__")) = false := by rw [e1]; rfl
  dsimp only
  rw [e0]
  show wpAny _ _ (getAttrByItsOwn _ _ _ _ _ _) _ _ _
  unfold getAttrByItsOwn
  refine wpAny_bind (K2.at ?_)
  refine wpAny_bind (wpAny_attempt (wpAny_holding ?_))
  show wpAny _ _ (boundAndCalled _ _ _) _ _ _
  unfold boundAndCalled
  rw [f3]
  refine wpAny_bind (wpAny_pure ?_)
  refine wpAny_call (codeAny_call_builtin F.excAttr_ValueError.ga.plain F.entry_bexc_ga (exc_check L X LT (exc_entry L X LT ?_)))
  exact handed_on rfl (wpAny_pure k)
theorem kitx_exc (hcl : (clsIn K D).isSome = true) (L : ExcLook K D) :
    KitX K (.ref y) (.ref D) (L2.isClsAt y (.ref D)) where
  ty := fun M h _ ⟨o, e, c⟩ => c ▸ (Looks.ld e).andThen .now
  it := fun _ _ X _ => by
    obtain ⟨cd0, z⟩ := Option.isSome_iff_exists.mp hcl
    unfold clsIn at z
    split at z
    · rename_i ho
      intro A1 Q1 E1 s1 kp q
      unfold isType
      unfold loadHead
      exact wpAny_bind (wpAny_loadPart (kp _ _ (X _ _ ho)) (wpAny_pure q))
    · cases z
  ne := fun h tp dd its n sl X htp => by
    obtain ⟨cd0, z⟩ := Option.isSome_iff_exists.mp hcl
    refine Bool.eq_false_iff.mpr fun q => ?_
    have e : D = tp := Value.ref.inj (beq_iff_eq.mp q)
    subst e
    unfold clsIn at z
    split at z
    · rename_i ho
      have bad := (X _ _ ho).symm.trans htp
      cases bad
    · cases z
  ca := fun X p k => exc_cls L X (let ⟨o, e, c⟩ := p; c ▸ (Looks.ld e).andThen .now) k
end
end PySem.W
namespace L2
open PySem PySem.Spec PyProof.Rows
structure RoomH (k : Nat) (A : Around) : Prop where
  dp : A.depth + 3 * k + 5 < recursionLimit
  un : A.units + 16 * k + 200 < cLine
  gd : A.guards = some []
theorem Room.held {k : Nat} {A : Around} (r : Room k A) (e : Option Value) : RoomH k (A.mark e) := ⟨r.dp, r.un, r.gd⟩
theorem RoomH.deep {k : Nat} {A : Around} (r : RoomH (k + 1) A) (env : Env) : RoomH k (A.deeper env) :=
  ⟨by have := r.dp; show A.depth + 1 + 3 * k + 5 < _; omega, by have := r.un; show A.units + 3 + 16 * k + 200 < _; omega, r.gd⟩
theorem RoomH.dpt {k : Nat} {A : Around} (r : RoomH k A) : A.depth < recursionLimit := by have := r.dp; omega
structure FnOkH (P : Program) (w : World) (K : PySem.W.Frag) (mg : Str → Option Value) (base : Heap) (k : Nat) (f : Addr) (fd : FuncData) (ps : List Str) (sp : Sp) : Prop where
  len : ∀ vs H Q E, sp vs H Q E → vs.length = ps.length
  run : ∀ (A : Around) (outer : List Env) (s : Shared) (H : Hp) (args : Args) (us : List Value) (vs : List V) (Q : VK) (E : XK), RoomH k A → Env0 P w K mg base A outer s H → BindsTo s fd args (ps.zip us) → Vals vs us → sp vs H Q E →
    codeAny (model P w) A (.call (.ref f) args) (CR CX0 outer P w H s Q E) s
abbrev cxH (P : Program) (w : World) (K : PySem.W.Frag) (mg : Str → Option Value) (base : Heap) (N : List Str) (qual : Str) (scope : Scope) (f : Addr) (cd : Value) (A : Around) (outer : List Env) (s : Shared) (H : Hp) (E : XK) : Cx :=
  { cxOf CX0 P w K mg base N qual scope f cd A outer s H E with calm := false, xe := fun _ _ => False }
theorem fn_ofH {P : Program} {w : World} {K : PySem.W.Frag} {mg : Str → Option Value} {base : Heap} {k : Nat} {f : Addr} {name qual : Str} {params : Arguments} {body : List Stmt} {scope : Scope} {dV kV doc pm cdv ct oc : Value} {an od : Option Addr}
    {osl : Array (Option Value)} {N ps : List Str} {sp : Sp} (lk : K.lookup f = some ⟨oc, od, .func (PySem.W.fnOf name qual params body scope dV kV doc pm an cdv ct), osl⟩) (hcd : PySem.W.codeIn K cdv qual = true) (S : FnScope N ps scope)
    (len : ∀ vs H Q E, sp vs H Q E → vs.length = ps.length)
    (hbody : ∀ (A : Around) (outer : List Env) (s : Shared) (H : Hp) (vs : List V) (Q : VK) (E : XK), RoomH k (A.deeper (envOfC qual scope s.heap.objs.size f cdv)) → sp vs H Q E →
      ∃ t, PSs (cxH P w K mg base N qual scope f cdv A outer s H E) body t ∧ t { nx := fun _ H' => Q .non H', rt := Q } (start N vs) H) :
    FnOkH P w K mg base (k + 1) f (PySem.W.fnOf name qual params body scope dV kV doc pm an cdv ct) ps sp := by
  refine ⟨len, fun A outer s H args us vs Q E hr e0 hb r hsp => ?_⟩
  have hl := len _ _ _ _ hsp
  have kb : ∀ b o, base.get? b = some o → s.heap.get? b = some o := fun b o e => (e0.bs b o e).1
  have hkind : ∀ y ∈ ps.zip us, scope.names.lookup y.1 = some .local ∨ (scope.names.lookup y.1 = some .cell ∧ ((cellsFrom (s.heap.objs.size + 1) scope.names []).lookup y.1).isSome = true) := fun ⟨n, v⟩ hy => by
    rcases S.par n (List.of_mem_zip hy).1 with q | q
    · exact .inl q
    · exact .inr ⟨q, PySem.W.cellsFrom_some _ _ _ (.inl q)⟩
  refine codeAny_call_function hr.dpt (e0.mod.kin.keeps kb _ _ lk) rfl S.co S.gen rfl (PySem.W.codeRec_of (e0.mod.kin.keeps kb) hcd) (hb _ _ _ _ ?_)
  refine wpAny_newFunctionEnv_cells S.kind hkind fun env he s1 x => ?_
  subst he
  refine ⟨(e0.mod.nolimit.keeps kb).keeps x.toInCall.keep, codeAny_func ?_⟩
  obtain ⟨t, ht, hq⟩ := hbody A outer s H vs Q E (hr.deep _) hsp
  have e1 : Env0 P w K mg base { A with handled := none } outer s H := ⟨e0.frames, e0.mod, e0.bs, e0.bsz, e0.funs, e0.frf, e0.hok, e0.bare⟩
  have I0 : Inv (cxOf CX0 P w K mg base N qual scope f cdv { A with handled := none } outer s H E) [] (start N vs) H s1 := inv_start S rfl e1 hl r x
  have I : Inv (cxH P w K mg base N qual scope f cdv A outer s H E) [] (start N vs) H s1 :=
    ⟨⟨I0.ok.mod, I0.ok.kind, I0.ok.glob, I0.ok.blt, I0.ok.above, I0.ok.inj, I0.ok.has, I0.ok.cab, (fun z => nomatch z), I0.ok.frames, I0.ok.stk, I0.ok.exf, I0.ok.bs, I0.ok.bsz, I0.ok.noex, I0.ok.exfs, I0.ok.funs, I0.ok.frf⟩, I0.os, I0.bare, I0.base, I0.loc, I0.cell, I0.free, I0.freeC, I0.pin, I0.hok, I0.len⟩
  refine wpAny_mono (ht [] s1 (start N vs) H _ I hq) (fun fl s' hs => ?_) fun e s' hs => False.elim hs
  cases fl with
  | ret u =>
    obtain ⟨v, σ', H', J, rv, q⟩ := hs
    exact ⟨v, H', J.os, J.bare, J.base, J.hok, rv, q⟩
  | next =>
    obtain ⟨σ', H', J, q⟩ := hs
    exact ⟨.non, H', J.os, J.bare, J.base, J.hok, rfl, q⟩
  | brk => obtain ⟨_, _, _, q⟩ := hs; exact False.elim q
  | cont => obtain ⟨_, _, _, q⟩ := hs; exact False.elim q
theorem Fun.okH {P : Program} {w : World} {K : PySem.W.Frag} {mg : Str → Option Value} {base : Heap} {x qual : Str} {st : Stmt} {f : Addr} {fd : FuncData} {N ps : List Str} {k : Nat} {sp : Sp} (F : Fun K x qual st f fd) (S : FnScope N ps (defScope st)) (len : ∀ vs H Q E, sp vs H Q E → vs.length = ps.length)
    (hbody : ∀ (cdv : Value) (A : Around) (outer : List Env) (s : Shared) (H : Hp) (vs : List V) (Q : VK) (E : XK), RoomH k (A.deeper (envOfC qual (defScope st) s.heap.objs.size f cdv)) → sp vs H Q E →
      ∃ t, PSs (cxH P w K mg base N qual (defScope st) f cdv A outer s H E) (defBody st) t ∧ t { nx := fun _ H' => Q .non H', rt := Q } (start N vs) H) : FnOkH P w K mg base (k + 1) f fd ps sp := by
  obtain ⟨oc, od, kV, doc, pm, an, cdv, ct, osl, rfl, lk, hcd⟩ := F.ex
  exact fn_ofH lk hcd S len fun A outer s H vs Q E hr hsp => hbody cdv A outer s H vs Q E hr hsp
structure HasFnH (P : Program) (w : World) (K : PySem.W.Frag) (mg : Str → Option Value) (base : Heap) (x : Str) (ps : List Str) (k : Nat) (sp : Sp) : Prop where
  ex : ∃ (f : Addr) (fd : FuncData), mg x = some (.ref f) ∧ PySem.W.keepIn K (.ref f) = true ∧ Binds K fd ps [] ∧ FnOkH P w K mg base k f fd ps sp
theorem pe_fnH {X : Cx} {x : Str} {ps : List Str} {k : Nat} {sp : Sp} {e : Expr} {es : List Expr} {t : TA} {p pos : Pos} (F : HasFnH X.prog X.w X.K X.mg X.base x ps k sp) (hr : RoomH k X.A) (hg : Gl X x) (ha : PA X (e :: es) t) (hdb : (x == ("__debug__" : Str)) = false := by decide)
    (he : starEach (e :: es) X.env = (false, eval e X.env) :: starEach es X.env := by rfl) (hpl : (backTo pos (starEach es X.env)).any (·.1) = false := by rfl) : PE X (.Call (.Name x p) (e :: es) [] pos) (tCall sp [] E0 t) := by
  obtain ⟨f, fd, hm, hk, hb, F⟩ := F.ex
  intro pins s σ H Q I h
  refine wpAny_Call_Name_kw (ld_glob I hg hm ?_ hdb)
  refine PySem.W.callWith_K (h₀ := X.base) I.ok.mod.kin hk (thn (ha pos pins s σ H _ I h) fun us s1 ⟨vs, H1, I1, r1, q1⟩ => ⟨I1.kIn, ?_⟩) he hpl
  have r2 : Vals (vs ++ []) (us ++ []) := r1.append .nil
  have hl : (us ++ []).length = ps.length := by rw [← r2.length]; exact F.len _ _ _ _ q1
  refine wpAny_call (codeAny_mono (F.run X.A X.stack s1 H1 ⟨us, []⟩ (us ++ []) (vs ++ []) Q E0 hr I1.env0 (hb s1 us I1.kIn hl) r2 q1) fun r s' hq => ?_)
  cases r with
  | error e => exact hq.elim
  | ok fl =>
    cases fl with
    | ret u => exact I1.after hq
    | next => exact False.elim hq
    | brk => exact False.elim hq
    | cont => exact False.elim hq
theorem pe_never {X : Cx} {e : Expr} : PE X e (fun _ _ _ => False) := fun _ _ _ _ _ _ h => h.elim
structure ECls (K : PySem.W.Frag) (D : Addr) : Prop where
  c : (PySem.W.clsIn K D).isSome = true
  l : PySem.W.ExcLook K D
def clsV : V → Option Value
  | .ref C => some (.ref C)
  | .ty n => some (.type n)
  | _ => none
def rIsiE (K : PySem.W.Frag) : List V → Hp → VK → Prop := fun xs H Q => ∃ a D v c b, xs = [.ref a, v] ∧ clsV v = some c ∧ H a = some (.ext (isClsAt a (.ref D))) ∧ ECls K D ∧ PySem.W.kitOne K (.ref D) c = some b ∧ Q (.bl b) H
section
variable {X : Cx}
theorem call_isiE : CallR X (.builtin "isinstance") (rIsiE X.K) := by
  intro pins s σ H vs us Q I r h
  obtain ⟨a, D, v, c, b, rfl, hv, ha, ec, e, q⟩ := h
  cases r with
  | cons r rr =>
    cases rr with
    | cons r' rr =>
      cases rr
      cases r
      rename_i u2
      have hc : c = u2 := by
        cases v with
        | ref C => simp only [clsV, Option.some.injEq] at hv; cases r'; exact hv.symm
        | ty n => simp only [clsV, Option.some.injEq] at hv; cases r'; exact hv.symm
        | _ => simp [clsV] at hv
      subst hc
      obtain ⟨p, _, _⟩ := (show ObjOk X.prog X.w H s.heap a (.ext (isClsAt a (.ref D))) from I.hok a _ ha)
      exact PySem.W.kia_one (PySem.W.kitx_exc ec.c ec.l) I.kIn p e (fun z => nomatch z) fun tk => ⟨.bl b, H, I.tok _, rfl, q⟩
theorem bools_of {bs : List Bool} : ∀ {us : List Value}, Vals (bs.map V.bl) us → us = bs.map Value.bool := by
  induction bs with
  | nil => intro us r; cases r; rfl
  | cons b bs ih =>
    intro us r
    cases r with
    | cons r rr => rw [ih rr]; cases r; rfl
def rCountB : V → List V → Hp → VK → Prop := fun x vs H Q => ∃ (l : Addr) (bs : List Bool), x = .ref l ∧ vs = [.bl true] ∧ H l = some (.lst (bs.map V.bl)) ∧ Q (.int ((bs.countP fun b => b) : Nat)) H
theorem mt_countB : MtM X "list.count" rCountB := by
  intro pins s σ H x vs v us Q I rx rv h
  obtain ⟨l, bs, rfl, rfl, hH, q⟩ := h
  cases rx
  obtain ⟨u, rfl, ru⟩ := rv.one
  cases ru
  obtain ⟨z, its, n, r, hl, e⟩ := I.lstM hH
  have hi := bools_of r
  subst hi
  refine call_meets F.slot_list_count ⟨_, e, rfl⟩ F.entry_list_count (F.args_list_count_2 _ _) (PySem.SeqAt.list_countAt l _ n none #[] (.bool true) (fun y => match y with | .bool b => b | _ => false)) ⟨e, fun y hy => ?_, ?_⟩
  · obtain ⟨b, _, rfl⟩ := List.mem_map.mp (by simpa using hy : y ∈ bs.map Value.bool)
    have := PySem.SeqAt.EqAt.bool_bool (A := X.A.in1) (s := s) b true
    cases b <;> exact this
  · have hc : List.countP (fun y => match y with | Value.bool b => b | _ => false) (List.map Value.bool bs).toArray.toList = bs.countP fun b => b := by
      rw [List.toList_toArray, List.countP_map]
      rfl
    rw [hc]
    exact ⟨.int ((bs.countP fun b => b) : Nat), H, I.tok _, ⟨_, rfl⟩, q⟩
def rIndexB : V → List V → Hp → VK → Prop := fun x vs H Q => ∃ (l : Addr) (bs : List Bool) (j : Nat), x = .ref l ∧ vs = [.bl true] ∧ H l = some (.lst (bs.map V.bl)) ∧ bs[j]? = some true ∧ (∀ m, m < j → bs[m]? = some false) ∧ j < 1000 ∧ Q (.int (j : Nat)) H
theorem mt_indexB : MtM X "list.index" rIndexB := by
  intro pins s σ H x vs v us Q I rx rv h
  obtain ⟨l, bs, j, rfl, rfl, hH, hj, hno, hs, q⟩ := h
  cases rx
  obtain ⟨u, rfl, ru⟩ := rv.one
  cases ru
  obtain ⟨z, its, n, r, hl, e⟩ := I.lstM hH
  have hi := bools_of r
  subst hi
  obtain ⟨hj1, hj2⟩ := List.getElem?_eq_some_iff.mp hj
  refine call_meets F.slot_list_index ⟨_, e, rfl⟩ F.entry_list_index (F.args_list_index_2 _ _) (PySem.SeqAt.list_indexAt l _ n none #[] (.bool true) (fun y => match y with | .bool b => b | _ => false) j (by simpa using hj1) (by omega) (by simp [hj2]) (fun m hm hmj => ?_)) ⟨e, fun y hy => ?_, ?_⟩
  · obtain ⟨h1, h2⟩ := List.getElem?_eq_some_iff.mp (hno m hmj)
    simp [h2]
  · obtain ⟨b, _, rfl⟩ := List.mem_map.mp (by simpa using hy : y ∈ bs.map Value.bool)
    have := PySem.SeqAt.EqAt.bool_bool (A := X.A.in1) (s := s) b true
    cases b <;> exact this
  · exact ⟨.int (j : Nat), H, I.tok _, ⟨_, rfl⟩, q⟩
end
end L2
namespace L2
open PySem PySem.Spec PyProof.Rows
theorem fly_passG {X : Cx} {E : XK} (hstk : X.stack = X.env :: X.outer) (hfrm : X.env.frame = some X.env.locals) (hex : X.ex = [])
    (hxe : ∀ e s', wpAny (model X.prog X.w) X.A (leaving X.env e) (fun _ s'' => Fly X.prog X.w X.outer X.H₀ X.s₀ E e s'') (fun e' s'' => Fly X.prog X.w X.outer X.H₀ X.s₀ E e' s'') s' → X.xe e s') : Passes (Fly X.prog X.w) X E := by
  intro pins σ H1 s1 e s' I ⟨a, cls, t, B, H', e1, os, bare, un, hok, fl, old, trk, q⟩
  subst e1
  have J := I.call' os un hok bare (fun b z => nomatch z)
  have hfr : X.A.frames = some (X.env :: X.outer) := by rw [I.ok.frames, hstk]
  have noA : ∀ b : Addr, b ∉ X.ex := fun b z => by rw [hex] at z; cases z
  have inB : ∀ b o, X.s₀.heap.get? b = some o → b ∉ frs X.outer → ∃ o', s'.heap.get? b = some o' ∧ B.get? b = some o' := fun b o e hb => by
    obtain ⟨o1, e1⟩ := I.base.there b o e (noA b)
    refine old b o1 e1 fun z => ?_
    rcases List.mem_cons.mp (I.stkSub b z) with z | z
    · exact absurd (Heap.lt_size e) (by rw [z]; exact Nat.not_lt.mpr I.ok.above)
    · exact hb z
  refine hxe _ _ ?_
  rw [hstk] at fl
  refine wpAny_leaves_onW hfr hfrm fl fun h' fl' up => ?_
  have ub : Un (frs X.outer) [] X.H₀ H' X.s₀.heap s'.heap := by
    have := J.base
    rw [hex] at this
    exact this
  obtain ⟨u2, k2⟩ := fly_un ub J.hok fl'.1 up fl.2.2.1.2.2 inB trk
  refine ⟨a, cls, t, B, H', rfl, os.trans I.os, bare, u2, k2, fl', fun b o e hb => ?_, fun b u e => ?_, q⟩
  · obtain ⟨o', _, e4⟩ := inB b o e hb
    exact ⟨o', fl'.1 b o' e4, e4⟩
  · obtain ⟨o', _, e4⟩ := trk b u e
    exact ⟨o', fl'.1 b o' e4, e4⟩
abbrev lamEnv (qual : Str) (scope : Scope) (L f : Addr) (cd : Value) (clos : List (Str × Addr)) : Env := PySem.W.envX qual scope L f cd clos
def cxLam (P : Program) (w : World) (K : PySem.W.Frag) (mg : Str → Option Value) (base : Heap) (N : List Str) (qual : Str) (scope : Scope) (f : Addr) (cd : Value) (clos : List (Str × Addr)) (A : Around) (outer : List Env) (s : Shared) (H : Hp) (E : XK) : Cx where
  prog := P
  w := w
  K := K
  mg := mg
  base := base
  A := A.deeper (lamEnv qual scope s.heap.objs.size f cd clos)
  N := N
  s₀ := s
  H₀ := H
  env := lamEnv qual scope s.heap.objs.size f cd clos
  outer := outer
  stack := lamEnv qual scope s.heap.objs.size f cd clos :: outer
  ex := []
  calm := true
  fn := fun _ => false
  pn := []
  xe := fun e s' => wpAny (model P w) (A.deeper (lamEnv qual scope s.heap.objs.size f cd clos)) (leaving (lamEnv qual scope s.heap.objs.size f cd clos) e) (fun _ s'' => Fly P w outer H s E e s'') (fun e' s'' => Fly P w outer H s E e' s'') s'
theorem lam_pass {P : Program} {w : World} {K : PySem.W.Frag} {mg : Str → Option Value} {base : Heap} {N : List Str} {qual : Str} {scope : Scope} {f : Addr} {cd : Value} {clos : List (Str × Addr)} {A : Around} {outer : List Env} {s : Shared} {H : Hp} {E : XK} :
    Passes (Fly P w) (cxLam P w K mg base N qual scope f cd clos A outer s H E) E := fly_passG (X := cxLam P w K mg base N qual scope f cd clos A outer s H E) rfl rfl rfl fun _ _ h => h
structure LamScope (scope : Scope) : Prop where
  co : scope.isCoroutine = false
  gen : scope.isGenerator = false
  kind : scope.kind = .function
  nocell : ∀ x ∈ scope.names, x.2 ≠ .cell
theorem lam_run {P : Program} {w : World} {K : PySem.W.Frag} {mg : Str → Option Value} {base : Heap} {N : List Str} {qual name : Str} {params : Arguments} {scope : Scope} {body : Expr} {f c' : Addr} {clos : List (Str × Addr)} {pm ctv : Value} {o : Obj} {A : Around} {outer : List Env} {s : Shared} {H : Hp} {Q : VK} {E : XK} {vs : List V} {k : Nat} {t : TE}
    (S : LamScope scope) (hr : Room (k + 1) A) (e0 : Env0 P w K mg base A outer s H) (ho : s.heap.get? f = some o) (hd : o.data = .func (PySem.W.kla_fn name qual params body scope clos pm (.ref c') ctv)) (hcd : s.heap.CodeRec (.ref c') qual)
    (hbind : bindArgs (PySem.W.kla_fn name qual params body scope clos pm (.ref c') ctv) ⟨[], []⟩ = pure [])
    (hinj : ∀ x y c, clos.lookup x = some c → clos.lookup y = some c → x = y) (hhas : ∀ x, scope.names.lookup x = some .free → ∃ c, clos.lookup x = some c)
    (hcell : ∀ x c, clos.lookup x = some c → (∃ v, s.heap.IsCell c v) ∧ H c = none) (hN : N.length = vs.length)
    (hv : ∀ (i : Nat) (x : Str) (v : V), N[i]? = some x → vs[i]? = some v → scope.names.lookup x = some .free ∧ ∃ c u, clos.lookup x = some c ∧ s.heap.IsCell c (some u) ∧ RelV v u)
    (hb : Room k (A.deeper (lamEnv qual scope s.heap.objs.size f (.ref c') clos)) → PE (cxLam P w K mg base N qual scope f (.ref c') clos A outer s H E) body t) (hq : t (vs.map some) H Q) :
    codeAny (model P w) A (.call (.ref f) ⟨[], []⟩) (CR (Fly P w) outer P w H s Q E) s := by
  have kb : ∀ b o, base.get? b = some o → s.heap.get? b = some o := fun b o e => (e0.bs b o e).1
  refine PySem.W.kla_callFunE hr.depth ho hd S.co S.gen rfl hcd ?_
  rw [hbind]
  refine wpAny_pure (wpAny_newFunctionEnv S.nocell (fun x hx => nomatch hx) (fun h₁ hns hsb => ?_) S.kind)
  have hk₁ : ∀ b o, s.heap.get? b = some o → h₁.get? b = some o := fun b o e => (hsb.2 b (Nat.ne_of_lt (Heap.lt_size e))).trans (Heap.get?_push_of_some _ e)
  refine ⟨(e0.mod.nolimit.keeps kb).keeps hk₁, ?_⟩
  show codeAny _ _ (.expr body (lamEnv qual scope s.heap.objs.size f (.ref c') clos)) _ _
  refine PySem.W.kla_codeExpr ?_
  have isK : ∀ {c : Addr} {v : Option Value}, s.heap.IsCell c v → h₁.IsCell c v := fun ⟨ob, e, d⟩ => ⟨ob, hk₁ _ _ e, d⟩
  have noA : ∀ b : Addr, b ∉ ([] : List Addr) := fun b z => nomatch z
  have I : Inv (cxLam P w K mg base N qual scope f (.ref c') clos A outer s H E) [] (vs.map some) H { s with heap := h₁, toks := s.toks + ([] : List (Str × Value)).length } := by
    refine ⟨⟨e0.mod, S.kind, rfl, rfl, Nat.le_refl _, hinj, fun y hy => ?_, (fun y c hf _ => nomatch hf), fun _ => hr.hd, Around.frames_deeper e0.frames, .inr ⟨rfl, rfl⟩, fun b z => absurd z (noA b), e0.bs, e0.bsz, fun b _ _ => noA b, fun b z => absurd z (noA b), e0.funs, e0.frf⟩,
      rfl, e0.bare, Un.kept hk₁, ⟨_, hns, fun i x v h1 h2 h3 => ?_⟩, fun x c h => ?_, e0.hok.fresh (Nat.le_refl _), fun x c h => (hcell x c h).2, (fun p hp => nomatch hp), e0.hok.kept hk₁, ?_⟩
    · have hy : scope.names.lookup y = some .cell ∨ scope.names.lookup y = some .free := hy
      rcases hy with hy | hy
      · exact absurd rfl (S.nocell _ (PySem.mem_of_lookup hy))
      · exact hhas y hy
    · have h2' : vs[i]? = some v := by
        rw [List.getElem?_map] at h2
        cases e : vs[i]? with
        | none => rw [e] at h2; cases h2
        | some u => rw [e] at h2; cases h2; rfl
      obtain ⟨hf, c, u, hc, hic, rv⟩ := hv i x v h1 h2'
      exact ⟨u, rv, .inr ⟨.inr hf, c, hc, isK hic⟩⟩
    · obtain ⟨⟨v, hv'⟩, _⟩ := hcell x c h
      exact ⟨v, isK hv'⟩
    · rw [List.length_map]
      exact hN.symm
  refine wpAny_mono (hb (hr.deeper _) [] _ _ H Q I hq) (fun u s' ⟨v, H', J, rv, q⟩ => ?_) fun e s' h => h
  exact ⟨v, H', J.os, J.bare, J.base, J.hok, rv, q⟩
def LamC (P : Program) (w : World) (K : PySem.W.Frag) (mg : Str → Option Value) (base : Heap) (s : Shared) (H : Hp) (f : Addr) (k : Nat) (G : VK → XK → Prop) : Prop :=
  (∃ o fd, s.heap.get? f = some o ∧ o.data = .func fd) ∧ H f = none ∧
  ∀ (A : Around) (outer : List Env) (s2 : Shared) (fs : List Addr) (Q : VK) (E : XK), Room k A → Env0 P w K mg base A outer s2 H → Un fs [] H H s.heap s2.heap → G Q E → codeAny (model P w) A (.call (.ref f) ⟨[], []⟩) (CR (Fly P w) outer P w H s2 Q E) s2
def tLam (G : VK → XK → Prop) (EH : XK) (i : Nat) (H0 : Hp) (f : Addr) : TE := fun σ H Q => σ[i]? = some (some (.ref f)) ∧ H = H0 ∧ G Q EH
theorem pe_lamCall {X : Cx} {i : Nat} {x : Str} {p pos : Pos} {f : Addr} {k : Nat} {G : VK → XK → Prop} {EH : XK} (hN : X.N[i]? = some x) (hl : X.env.scope.names.lookup x = some .local) (hdb : (x == ("__debug__" : Str)) = false) (hcd : (x == ("__classdict__" : Str)) = false) (hex : X.ex = [])
    (L : LamC X.prog X.w X.K X.mg X.base X.s₀ X.H₀ f k G) (hr : Room k X.A) (hx : Passes (Fly X.prog X.w) X EH) : PE X (.Call (.Name x p) [] [] pos) (tLam G EH i X.H₀ f) := by
  intro pins s σ H Q I ⟨h1, h2, h3⟩
  subst h2
  have ub : Un X.fs [] X.H₀ X.H₀ X.s₀.heap s.heap := by
    have := I.base
    rw [hex] at this
    exact this
  obtain ⟨⟨o, fd, ho, hfd⟩, hf0, hrun⟩ := L
  refine wpAny_Call_Name_kw (thn (pe_var hN (.inl hl) hdb hcd pins s σ X.H₀ (fun v H' => v = .ref f ∧ H' = X.H₀) I ⟨_, h1, rfl, rfl⟩) fun u s1 ⟨v, H1, I1, r1, q1, q2⟩ => ?_)
  subst q1
  subst q2
  cases r1
  have ub1 : Un X.fs [] X.H₀ X.H₀ X.s₀.heap s1.heap := by
    have := I1.base
    rw [hex] at this
    exact this
  obtain ⟨sl, e1⟩ := ub1.any ho hf0 (fun z => nomatch z)
  obtain ⟨oc, od, dat, osl⟩ := o
  cases hfd
  refine PySem.W.callWith_F0 ⟨_, _, _, _, e1⟩ ?_
  refine wpAny_call (codeAny_mono (hrun X.A X.stack s1 X.fs Q EH hr I1.env0 ub1 h3) fun r s' hq => ?_)
  cases r with
  | error e => exact hx pins σ _ s1 e s' I1 hq
  | ok fl =>
    cases fl with
    | ret u => exact I1.after hq
    | next => exact False.elim hq
    | brk => exact False.elim hq
    | cont => exact False.elim hq
end L2
namespace L2
open PySem
def hid (H : Hp) (b : Addr) : Hp := fun a => if a = b then none else H a
theorem hid_ne {H : Hp} {a b : Addr} (h : a ≠ b) : hid H b a = H a := if_neg h
theorem hid_self {H : Hp} {b : Addr} : hid H b b = none := if_pos rfl
theorem hid_get {H : Hp} {a b : Addr} {o : HO} (h : hid H b a = some o) : a ≠ b ∧ H a = some o := by
  by_cases e : a = b
  · subst e; rw [hid_self] at h; cases h
  · rw [hid_ne e] at h; exact ⟨e, h⟩
section
variable {X : Cx} {e : Expr} {te : TE} {p pos : Pos}
end
end L2
namespace L2
open PySem PySem.Spec PyProof.Rows
structure Ext (H G H' G' : Hp) : Prop where
  sh : Same H H'
  sg : Same G G'
  gs : Same G' H'
  old : ∀ c, H c ≠ none → G' c = G c
theorem Ext.refl {H G : Hp} (s : Same G H) : Ext H G H G := ⟨Same.refl H, Same.refl G, s, fun _ _ => rfl⟩
theorem Ext.new {H G : Hp} {p : Addr} {o : HO} (s : Same G H) (hp : H p = none) : Ext H G (upd H p o) (upd G p o) := by
  refine ⟨Same.new hp, Same.new (s.free hp), fun c u e => ?_, fun c hc => upd_ne fun z => hc (z ▸ hp)⟩
  by_cases h : c = p
  · subst h; rw [upd_same] at e ⊢; exact e
  · rw [upd_ne h] at e ⊢; exact s c u e
section
variable {X : Cx} {k : Nat}
def rCatG : R2 := fun x y H Q => ∃ G ds es, Same G H ∧ Rep G (.tuple ds) x ∧ Rep G (.tuple es) y ∧ ds.length + es.length ≤ sizeLine ∧ ∀ r H' G', Ext H G H' G' → Rep G' (.tuple (ds ++ es)) r → Q r H'
theorem op_catG : OpR X (binaryOp .Add) rCatG := by
  intro pins s σ H x y v u Q I rx ry h
  obtain ⟨G, ds, es, sg, h1, h2, hz, q⟩ := h
  obtain ⟨a, vs, rfl, ha, r1⟩ := id h1
  obtain ⟨b, us, rfl, hb, r2⟩ := id h2
  by_cases hv : vs = []
  · subst hv
    have hd : ds = [] := List.length_eq_zero_iff.mp r1.length.symm
    subst hd
    cases rx
    cases ry
    obtain ⟨its1, v1, ⟨⟨c1, d1, e1, l1⟩, p1, g1, n1, z1⟩, _⟩ := I.tuple (SqT.of (K := X.K) (sg _ _ ha))
    obtain ⟨its2, v2, ⟨⟨c2, d2, e2, l2⟩, p2, g2, n2, z2⟩, _⟩ := I.tuple (SqT.of (K := X.K) (sg _ _ hb))
    simp only at g1 z1 g2 z2
    subst g1 z1 g2 z2
    cases v1
    exact concat_meets ⟨_, p1, rfl⟩ ⟨_, p2, rfl⟩ noFill_tuple_add seq_tuple_add PySem.F.slot_tuple_add PySem.F.entry_tuple_add (PySem.F.args_tuple_add_2 _ _) (tuple_addW0 a b _ _ n1 n2 d1 d2 l1 l2 rfl) ⟨p1, p2, ⟨.ref b, H, I, rfl, q _ H G (Ext.refl sg) h2⟩⟩
  · refine op_catT pins s σ H _ _ v u Q I rx ry ⟨a, b, vs, us, rfl, rfl, SqT.of (sg _ _ ha), SqT.of (sg _ _ hb), hv, by rw [r1.length, r2.length]; exact hz, fun e => ?_, fun e p hp => ?_⟩
    · subst e
      have he : es = [] := List.length_eq_zero_iff.mp r2.length.symm
      subst he
      exact q _ H G (Ext.refl sg) (by rw [List.append_nil]; exact h1)
    · have x := Ext.new (o := .tup (vs ++ us)) sg hp
      exact q _ _ _ x ⟨p, _, rfl, upd_same, Reps.append (r1.same x.sg) (r2.same x.sg)⟩
def rSlG : V → Option Int → Option Int → Hp → VK → Prop := fun x lo hi H Q => ∃ G ds, Same G H ∧ Rep G (.tuple ds) x ∧ ∀ r H' G', Ext H G H' G' → Rep G' (.tuple (cutD ds lo hi)) r → Q r H'
theorem sl_tupG : SlR X rSlG := by
  intro pins s σ H x v vl vu lo hi sl Q I rx hs pl pu h
  obtain ⟨G, ds, sg, h1, q⟩ := h
  obtain ⟨a, xs, rfl, ha, r1⟩ := id h1
  cases rx
  obtain ⟨its, rv, ht, hz⟩ := I.tuple (SqT.of (K := X.K) (sg _ _ ha))
  have hl : its.toArray.size = xs.length := by rw [List.size_toArray]; exact rv.length.symm
  by_cases hw : HT.sIx xs.length 0 lo = 0 ∧ HT.sIx xs.length xs.length hi = xs.length
  · refine ⟨"tuple", _, PyProof.Rows.slot_tuple_getitem.lookup, ht.typeIs, getItem_whole ht hs pl pu (by rw [hl]; exact hw.1) (by rw [hl]; exact hw.2) ⟨.ref a, H, I, rfl, q _ H G (Ext.refl sg) ?_⟩⟩
    have e : cutD ds lo hi = ds := by
      unfold cutD
      rw [← r1.length, hw.1, hw.2, List.drop_zero, Nat.sub_zero, r1.length, List.take_length]
    rw [e]
    exact h1
  · refine sl_tup pins s σ H (.ref a) _ vl vu lo hi sl Q I rfl hs pl pu ⟨a, xs, rfl, SqT.of (sg _ _ ha), hw, fun p hp => ?_⟩
    have x := Ext.new (o := .tup (cutV xs lo hi)) sg hp
    refine q _ _ _ x ⟨p, _, rfl, upd_same, ?_⟩
    have e : cutD ds lo hi = (ds.drop (HT.sIx xs.length 0 lo)).take (HT.sIx xs.length xs.length hi - HT.sIx xs.length 0 lo) := by
      unfold cutD
      rw [r1.length]
    rw [e]
    exact ((r1.same x.sg).drop _).take _
end
end L2
namespace L2
open PySem PySem.Spec PyProof.Rows
end L2
namespace L2
open PySem PySem.Spec PyProof.Rows
section
variable {X : Cx} {o e : Expr} {es : List Expr} {to te : TE} {t : TA} {name : Str} {apos cpos p pos : Pos} {T id : String} {r : V → List V → Hp → VK → Prop}
end
end L2
namespace L2
open PySem PySem.Spec PyProof.Rows
theorem Vals.ofGet : ∀ (us : List Value) (f : Nat → V), (∀ j v, us[j]? = some v → RelV (f j) v) → Vals ((List.range us.length).map f) us
  | [], _, _ => .nil
  | u :: us, f, h => by
    rw [List.length_cons, List.range_succ_eq_map, List.map_cons, List.map_map]
    exact .cons (h 0 u rfl) (Vals.ofGet us (f ∘ Nat.succ) fun j v e => h (j + 1) v e)
section
variable {X : Cx}
theorem call_tupleS (hc : X.calm = true) : CallR X (.type "tuple") (fun xs H Q => ∃ x, xs = [.str x] ∧ x.cps.size ≤ sizeLine ∧ ∀ p, H p = none → Q (.ref p) (upd H p (.tup ((List.range x.cps.size).map (sgn x))))) := by
  intro pins s σ H xs us Q I r h
  obtain ⟨x, rfl, hz, q⟩ := h
  obtain ⟨u, rfl, rx⟩ := vals1 r
  obtain ⟨t, rfl⟩ := rx
  refine call_tuple_str (I.ok.hd hc) x t (fun h' tk acc kp hacc => ?_) hz
  have I1 : Inv X pins σ H { s with heap := h', toks := tk } := I.kept (t' := tk) kp
  have hv : Vals ((List.range x.cps.size).map (sgn x)) acc.toList := by
    have e : acc.toList.length = x.cps.size := by rw [Array.length_toList, hacc.1]
    rw [← e]
    refine Vals.ofGet _ _ fun j v ev => rel_sgn j v ?_ (hacc.2 j v (by simpa using ev))
    rw [← e]
    exact (List.getElem?_eq_some_iff.mp ev).1
  have I2 : Inv X pins σ (upd H h'.objs.size (.tup ((List.range x.cps.size).map (sgn x)))) { s with heap := h'.push { cls := .type "tuple", data := .seq acc }, toks := tk } := by
    refine I1.laid (t' := tk) (fun b o e => Heap.get?_push_of_some _ e) (Nat.le_refl _) (show ObjOk X.prog X.w _ _ _ (.tup _) from ⟨by rw [List.length_map, List.length_range]; exact hz, acc.toList, hv, ?_⟩)
    have := IsTup.new h' acc
    simpa using this
  exact ⟨.ref h'.objs.size, _, I2, rfl, q _ (I1.hok.fresh (Nat.le_refl _))⟩
end
end L2
namespace L2
open PySem
end L2
namespace L2
open PySem PySem.Spec PyProof.Rows
def recAt (c : Addr) (q : Str) : Heap → Prop := fun h => h.CodeRec (.ref c) q
theorem recAt.ok {P : Program} {w : World} {H : Hp} {h : Heap} {c : Addr} {q : Str} (x : recAt c q h) : ObjOk P w H h c (.ext (recAt c q)) := by
  have st : ∀ h1 h2 : Heap, recAt c q h1 → (∀ o, h1.get? c = some o → h2.get? c = some o) → recAt c q h2 := fun h1 h2 ⟨c1, oc, vs, t, e, e1, e2, e3⟩ k => by
    cases e
    exact ⟨c, oc, vs, t, rfl, k _ e1, e2, e3⟩
  exact ⟨x, (by obtain ⟨c1, oc, vs, t, e, e1, _⟩ := x; cases e; exact ⟨oc, e1⟩), st⟩
def TabOk (H : Hp) (P : Addr) (q : Str) : Prop := ∃ ps : Array Value, H P = some (.tbl ps) ∧ TriplesOk ps.toList ∧ ∀ (pos : Pos) (c : Value), codeAmong pos ps.toList = some c → ∃ a, c = .ref a ∧ a ≠ P ∧ H a = some (.ext (recAt a q))
theorem triples_moreN {a b : Int} {t u : Tok} {c : Value} : ∀ (n : Nat) (l : List Value), l.length ≤ n → TriplesOk l → TriplesOk (l ++ [.int a t, .int b u, c])
  | _, [], _, _ => trivial
  | 0, _ :: _, h, _ => absurd h (by simp)
  | n + 1, v :: l, hn, ht => by
    unfold TriplesOk at ht
    split at ht
    · rename_i e; cases e
    · rename_i x y x' y' z r e
      cases e
      have hl : r.length ≤ n := by simp only [List.length_cons] at hn; omega
      exact triples_moreN n r hl ht
    · exact ht.elim
theorem triples_more {l : List Value} {a b : Int} {t u : Tok} {c : Value} (h : TriplesOk l) : TriplesOk (l ++ [.int a t, .int b u, c]) := triples_moreN l.length l (Nat.le_refl _) h
theorem among_moreN (pos : Pos) {a b : Int} {t u : Tok} {c d : Value} : ∀ (n : Nat) (l : List Value), l.length ≤ n → TriplesOk l → codeAmong pos (l ++ [.int a t, .int b u, c]) = some d → codeAmong pos l = some d ∨ d = c
  | _, [], _, _, h => by
    simp only [List.nil_append, codeAmong] at h
    split at h
    · cases h; exact .inr rfl
    · cases h
  | 0, _ :: _, h, _, _ => absurd h (by simp)
  | n + 1, v :: l, hn, ht, h => by
    unfold TriplesOk at ht
    split at ht
    · rename_i e; cases e
    · rename_i x y x' y' z r e
      cases e
      have hl : r.length ≤ n := by simp only [List.length_cons] at hn; omega
      have h' : codeAmong pos (.int x y :: .int x' y' :: z :: (r ++ [.int a t, .int b u, c])) = some d := h
      unfold codeAmong at h' ⊢
      split at h'
      · rename_i q; rw [if_pos q]; exact .inl h'
      · rename_i q; rw [if_neg q]; exact among_moreN pos n r hl ht h'
    · exact ht.elim
theorem among_more (pos : Pos) {l : List Value} {a b : Int} {t u : Tok} {c d : Value} (ht : TriplesOk l) (h : codeAmong pos (l ++ [.int a t, .int b u, c]) = some d) : codeAmong pos l = some d ∨ d = c := among_moreN pos l.length l (Nat.le_refl _) ht h
structure BMod (base : Heap) (mg : Str → Option Value) (bm : Addr) : Prop where
  g : mg "__builtins__" = some (.ref bm)
  n1 : bm ≠ builtinsNs
  ob : ∃ o, base.get? bm = some o ∧ o.cls = .type "module" ∧ o.dict = some builtinsNs ∧ o.data = .plain
section
variable {X : Cx} {pins : List (Addr × Obj)} {σ : St} {H : Hp} {s : Shared}
theorem lam_eval {c P bm : Addr} {params : Arguments} {body : Expr} {lscope : Scope} {lpos : Pos} {Q : Value → Shared → Prop} {E : Value → Shared → Prop} (I : Inv X pins σ H s) (hcode : X.env.code = .ref c) (ht : PySem.W.codeHdIn X.K c P = true) (B : BMod X.base X.mg bm)
    (tb : TabOk H P (X.env.qual ++ "<lambda>")) (hdef : defaultsOf params X.env = ([], [])) (hfree : ∀ n, (n, NameKind.free) ∈ lscope.names → X.env.kindOf n = some .cell ∨ X.env.kindOf n = some .free)
    (k : ∀ f o c' pm ctv H' s', Inv X pins σ H' s' → s'.heap.get? f = some o → o.data = .func (PySem.W.kla_fn "<lambda>" (X.env.qual ++ "<lambda>") params body lscope (closL X.env.cells lscope.names []) pm (.ref c') ctv) → H' f = none → H' c' = some (.ext (recAt c' (X.env.qual ++ "<lambda>"))) →
      TabOk H' P (X.env.qual ++ "<lambda>") → Same (hid H P) (hid H' P) → Q (.ref f) s') :
    wpAny (model X.prog X.w) X.A (eval (.Lambda params body lscope lpos) X.env) Q E s := by
  obtain ⟨ps, hP, htr, hcs⟩ := id tb
  have hPo : s.heap.get? P = some (PySem.W.tabObj ps) := (show ObjOk X.prog X.w H s.heap P (.tbl ps) from I.hok P _ hP)
  have C : PySem.W.CodeHd s.heap c P := PySem.W.codeHd_of_K I.kIn ht
  have hgs : s.heap.Ns mainGlobals X.mg := I.mod.glob.keeps I.bk
  obtain ⟨ob, hbo, hb1, hb2, hb3⟩ := B.ob
  have hbh := I.bk _ _ hbo
  have hgP : mainGlobals ≠ P := fun z => by
    obtain ⟨o, es, ep, e, hd, _⟩ := hgs
    rw [z, hPo] at e; cases e; cases hd
  have hbP : bm ≠ P := fun z => by rw [z, hPo] at hbh; cases hbh; cases hb1
  have hbG : bm ≠ mainGlobals := fun z => by
    obtain ⟨o, es, ep, e, hd, _⟩ := id hgs
    rw [← z, hbh] at e; cases e; rw [hb3] at hd; cases hd
  have hb : s.heap.BuiltinsAt X.mg P := ⟨bm, _, B.g, B.n1, hbG, hbP, hbh, hb1, hb2, hb3⟩
  have hcl := closureFor_eq (scope := lscope) (env := X.env) fun n hn => I.ok.has n (hfree n hn)
  refine PySem.W.kla_eval hdef ?_
  cases hca : codeAmong lpos ps.toList with
  | some cv =>
    obtain ⟨a, rfl, hne, ha⟩ := hcs lpos cv hca
    refine PySem.W.kla_makeFunctionHit (mg := X.mg) hcl I.ok.glob hgs hcode C hPo htr hca hb fun ctv h' tk hk hsz => ?_
    have kp : ∀ b u, s.heap.get? b = some u → (h'.push { cls := .type "function", data := .func (PySem.W.kla_fn "<lambda>" (X.env.qual ++ "<lambda>") params body lscope (closL X.env.cells lscope.names []) ((X.mg "__name__").getD .none) (.ref a) ctv) }).get? b = some u := fun b u e => Heap.get?_push_of_some _ (hk b u e)
    exact k h'.objs.size _ a _ ctv H _ (I.kept (t' := tk) kp) (Heap.get?_push_size _ rfl) rfl (I.hok.fresh hsz) ha tb (Same.refl _)
  | none =>
    refine PySem.W.kla_makeFunction (mg := X.mg) hcl I.ok.glob hgs hcode C hPo htr hca hgP hb fun c' ctv h' tk hx hge hlt hrec htb => ?_
    have hc0 : H c' = none := I.hok.fresh hge
    have hcP : c' ≠ P := fun z => by rw [z, hP] at hc0; cases hc0
    have hf0 : H h'.objs.size = none := I.hok.fresh (Nat.le_of_lt (Nat.lt_of_le_of_lt hge hlt))
    have hsz : s.heap.objs.size ≤ h'.objs.size := Nat.le_of_lt (Nat.lt_of_le_of_lt hge hlt)
    have hfc : h'.objs.size ≠ c' := Nat.ne_of_gt hlt
    have hfP : h'.objs.size ≠ P := fun z => by rw [← z, hf0] at hP; cases hP
    have kp : ∀ b u, b ≠ P → s.heap.get? b = some u → (h'.push (PySem.W.kla_obj "<lambda>" (X.env.qual ++ "<lambda>") params body lscope (closL X.env.cells lscope.names []) ((X.mg "__name__").getD .none) c' ctv)).get? b = some u := fun b u n e => Heap.get?_push_of_some _ (hx b u n e)
    have hPn : (h'.push (PySem.W.kla_obj "<lambda>" (X.env.qual ++ "<lambda>") params body lscope (closL X.env.cells lscope.names []) ((X.mg "__name__").getD .none) c' ctv)).get? P = some (PySem.W.tabObj (ps ++ #[rawInt lpos.line, rawInt lpos.col, .ref c'])) := Heap.get?_push_of_some _ htb
    have hrecn : recAt c' (X.env.qual ++ "<lambda>") (h'.push (PySem.W.kla_obj "<lambda>" (X.env.qual ++ "<lambda>") params body lscope (closL X.env.cells lscope.names []) ((X.mg "__name__").getD .none) c' ctv)) := by
      obtain ⟨c1, oc, vs, t, e, e1, e2, e3⟩ := hrec
      cases e
      exact ⟨c', oc, vs, t, rfl, Heap.get?_push_of_some _ e1, e2, e3⟩
    have hfn : (h'.push (PySem.W.kla_obj "<lambda>" (X.env.qual ++ "<lambda>") params body lscope (closL X.env.cells lscope.names []) ((X.mg "__name__").getD .none) c' ctv)).get? h'.objs.size = some (PySem.W.kla_obj "<lambda>" (X.env.qual ++ "<lambda>") params body lscope (closL X.env.cells lscope.names []) ((X.mg "__name__").getD .none) c' ctv) := Heap.get?_push_size _ rfl
    generalize h'.push (PySem.W.kla_obj "<lambda>" (X.env.qual ++ "<lambda>") params body lscope (closL X.env.cells lscope.names []) ((X.mg "__name__").getD .none) c' ctv) = g at kp hPn hrecn hfn
    have nP : ∀ b, H b = none → b ≠ P := fun b n z => by rw [z, hP] at n; cases n
    have J : Inv X pins σ (upd (upd H P (.tbl (ps ++ #[rawInt lpos.line, rawInt lpos.col, .ref c']))) c' (.ext (recAt c' (X.env.qual ++ "<lambda>")))) { s with heap := g, gens := s.gens, drawn := s.drawn, toks := tk } := by
      refine I.step (g' := s.gens) (d' := s.drawn) (t' := tk) (ch := []) (fun _ z => nomatch z) (fun b o _ _ _ e n => kp b o (nP b n) e) (fun b o _ _ _ e n => ⟨o.slots, kp b o (nP b n) e⟩) (fun b o _ e n => ?_) (fun b o _ e => ?_) (fun b xs e => ?_) (fun b o u e => ?_) (fun b qs e => ?_) (fun m hm => ?_) (fun b u e => ?_) I.bare
      · have bc : b ≠ c' := Nat.ne_of_lt (Nat.lt_of_lt_of_le (Heap.lt_size e) hge)
        rw [upd_ne bc, upd_ne (nP b n)]; exact n
      · by_cases hb' : b = P
        · subst hb'; exact ⟨_, hPn⟩
        · exact ⟨o, kp b o hb' e⟩
      · have bP : b ≠ P := fun z => by rw [z, hP] at e; cases e
        rw [upd_ne (ne_of_none e hc0), upd_ne bP]; exact e
      · have bP : b ≠ P := fun z => by rw [z, hP] at e; cases e
        rw [upd_ne (ne_of_none e hc0), upd_ne bP]; exact e
      · by_cases hb' : b = P
        · subst hb'
          rw [hP] at e; cases e
          exact ⟨_, by rw [upd_ne (Ne.symm hcP), upd_same]⟩
        · exact ⟨#[], by rw [upd_ne (ne_of_none e hc0), upd_ne hb', e]; simp⟩
      · obtain ⟨o, es, ep, ho, r⟩ := hm
        exact ⟨o, es, ep, kp _ o (nP _ I.free) ho, r⟩
      · by_cases hbc : b = c'
        · subst hbc
          rw [upd_same] at e; cases e
          exact recAt.ok hrecn
        · rw [upd_ne hbc] at e
          by_cases hb' : b = P
          · subst hb'
            rw [upd_same] at e; cases e
            exact hPn
          · rw [upd_ne hb'] at e
            refine (I.hok b u e).stay (fun d v hd z => kp d v ?_ z) (fun d z => ?_) fun d xs z => ?_
            · rcases hd with hd | hd
              · rw [hd]; exact hb'
              · intro y; rw [y, hP] at hd; cases hd
            · have dP : d ≠ P := fun y => by rw [y, hP] at z; cases z
              rw [upd_ne (ne_of_none z hc0), upd_ne dP]; exact z
            · have dP : d ≠ P := fun y => by rw [y, hP] at z; cases z
              rw [upd_ne (ne_of_none z hc0), upd_ne dP]; exact z
    have sH : Same (hid H P) (hid (upd (upd H P (.tbl (ps ++ #[rawInt lpos.line, rawInt lpos.col, .ref c']))) c' (.ext (recAt c' (X.env.qual ++ "<lambda>")))) P) := fun b o e => by
      obtain ⟨n1, e1⟩ := hid_get e
      rw [hid_ne n1, upd_ne (ne_of_none e1 hc0), upd_ne n1]; exact e1
    refine k h'.objs.size _ c' _ ctv _ _ J hfn rfl (by rw [upd_ne hfc, upd_ne hfP]; exact hf0) upd_same ⟨_, by rw [upd_ne (Ne.symm hcP), upd_same], ?_, fun pos d z => ?_⟩ sH
    · rw [Array.toList_append]
      exact triples_more htr
    · rw [Array.toList_append] at z
      rcases among_more pos htr z with z | z
      · obtain ⟨a, h1, h2, h3⟩ := hcs pos d z
        exact ⟨a, h1, h2, by rw [upd_ne (ne_of_none h3 hc0), upd_ne h2]; exact h3⟩
      · exact ⟨c', z, hcP, upd_same⟩
end
end L2
namespace L2
open PySem PySem.Spec PyProof.Rows
structure HasFnS (P : Program) (w : World) (K : PySem.W.Frag) (mg : Str → Option Value) (base : Heap) (x : Str) (ps : List Str) (k : Nat) (sp : Shared → Sp) : Prop where
  ex : ∃ (f : Addr) (fd : FuncData), mg x = some (.ref f) ∧ PySem.W.keepIn K (.ref f) = true ∧ Binds K fd ps [] ∧ FnOkS P w K mg base CX0 k f fd ps sp
def spLam (P : Program) (w : World) (K : PySem.W.Frag) (mg : Str → Option Value) (base : Heap) (k : Nat) (M : (VK → XK → Prop) → VK → Prop) : Shared → Sp := fun s vs H Q _ => ∃ f G, vs = [.ref f] ∧ LamC P w K mg base s H f k G ∧ M G Q
theorem closL_some {cells : List (Str × Addr)} {names : List (Str × NameKind)} {x : Str} {c : Addr} (hh : ∀ n, (n, NameKind.free) ∈ names → ∃ c, cells.lookup n = some c) (h : (closL cells names []).lookup x = some c) : (x, NameKind.free) ∈ names ∧ cells.lookup x = some c := by
  by_cases hm : (x, NameKind.free) ∈ names
  · rw [closL_free hm] at h
    obtain ⟨c', e⟩ := hh x hm
    rw [e] at h
    cases h
    exact ⟨hm, e⟩
  · rw [closL_not hm] at h
    cases h
def tLamArg (tb : XK → TE) (idx : List Nat) (P : Addr) (q : Str) (M : (VK → XK → Prop) → VK → Prop) : TE := fun σ H Q => ∃ vs : List V, vs.length = idx.length ∧ (∀ (j : Nat) (v : V), vs[j]? = some v → ∃ i, idx[j]? = some i ∧ σ[i]? = some (some v)) ∧ TabOk H P q ∧
  ∀ H1, TabOk H1 P q → Same (hid H P) (hid H1 P) → M (fun Q' E' => tb E' (vs.map some) H1 Q') Q
section
variable {X : Cx}
theorem pe_lamArg {g : Str} {pn : Str} {k kl : Nat} {M : (VK → XK → Prop) → VK → Prop} {c P bm : Addr} {params : Arguments} {body : Expr} {lscope : Scope} {lpos p pos : Pos} {N2 : List Str} {idx : List Nat} {tb : XK → TE}
    (F : HasFnS X.prog X.w X.K X.mg X.base g [pn] k (spLam X.prog X.w X.K X.mg X.base (kl + 1) M)) (hr : Room k X.A) (hg : Gl X g) (hcode : X.env.code = .ref c) (ht : PySem.W.codeHdIn X.K c P = true) (B : BMod X.base X.mg bm)
    (S : LamScope lscope) (hdef : defaultsOf params X.env = ([], [])) (hfree : ∀ n, (n, NameKind.free) ∈ lscope.names → X.env.kindOf n = some .cell ∨ X.env.kindOf n = some .free) (hlk : ∀ x, (x, NameKind.free) ∈ lscope.names → lscope.names.lookup x = some .free)
    (hbind : ∀ clos pm c' ctv, bindArgs (PySem.W.kla_fn "<lambda>" (X.env.qual ++ "<lambda>") params body lscope clos pm (.ref c') ctv) ⟨[], []⟩ = pure [])
    (hN2 : N2.length = idx.length) (hix : ∀ (j : Nat) (x : Str), N2[j]? = some x → ∃ i, idx[j]? = some i ∧ X.N[i]? = some x ∧ (x, NameKind.free) ∈ lscope.names)
    (hbody : ∀ (f c' : Addr) (clos : List (Str × Addr)) (A : Around) (outer : List Env) (s : Shared) (H : Hp) (E : XK), Room kl (A.deeper (lamEnv (X.env.qual ++ "<lambda>") lscope s.heap.objs.size f (.ref c') clos)) → PE (cxLam X.prog X.w X.K X.mg X.base N2 (X.env.qual ++ "<lambda>") lscope f (.ref c') clos A outer s H E) body (tb E))
    (hdb : (g == ("__debug__" : Str)) = false := by decide) (hs : starEach [.Lambda params body lscope lpos] X.env = (false, eval (.Lambda params body lscope lpos) X.env) :: starEach [] X.env := by rfl) :
    PE X (.Call (.Name g p) [.Lambda params body lscope lpos] [] pos) (tLamArg tb idx P (X.env.qual ++ "<lambda>") M) := by
  obtain ⟨fg, fd, hm, hk, hb, FS⟩ := F.ex
  intro pins s σ H Q I ⟨vs, hvl, hvs, tab, km⟩
  refine wpAny_Call_Name_kw (ld_glob I hg hm ?_ hdb)
  refine PySem.W.callWith_K (h₀ := X.base) I.ok.mod.kin hk ?_ hs rfl
  rw [hs]
  refine Calls.spliced_cons (lam_eval I hcode ht B tab hdef hfree fun f o c' pm ctv H1 s1 I1 ho hd hf0 hc' tab1 sH => ?_)
  refine Calls.spliced_nil ⟨I1.kIn, ?_⟩
  have hh : ∀ n, (n, NameKind.free) ∈ lscope.names → ∃ c, X.env.cells.lookup n = some c := fun n hn => I1.ok.has n (hfree n hn)
  have LC : LamC X.prog X.w X.K X.mg X.base s1 H1 f (kl + 1) (fun Q' E' => tb E' (vs.map some) H1 Q') := by
    refine ⟨⟨o, _, ho, hd⟩, hf0, fun A outer s2 fs Q' E' hr' e0 un hG => ?_⟩
    have no : ∀ b : Addr, b ∉ ([] : List Addr) := fun b z => nomatch z
    obtain ⟨sl, e1⟩ := un.any ho hf0 (no f)
    have cellU : ∀ x cc v, X.env.cells.lookup x = some cc → s1.heap.IsCell cc v → s2.heap.IsCell cc v := fun x cc v hx ⟨ob, eo, dd⟩ => by
      obtain ⟨sl', e'⟩ := un.any eo (I1.freeC x cc hx) (no cc)
      exact ⟨_, e', dd⟩
    obtain ⟨rec, _⟩ := (show ObjOk X.prog X.w H1 s2.heap c' (.ext (recAt c' (X.env.qual ++ "<lambda>"))) from e0.hok c' _ hc')
    refine lam_run (N := N2) (vs := vs) (t := tb E') (o := { o with slots := sl }) S hr' e0 e1 hd rec (hbind _ _ _ _) (fun x y cc h1 h2 => ?_) (fun x hx => ?_) (fun x cc h1 => ?_) (by rw [hN2, hvl]) (fun j x v h1 h2 => ?_) (hbody f c' _ A outer s2 H1 E') hG
    · exact I1.ok.inj x y cc (closL_some hh h1).2 (closL_some hh h2).2
    · have hm' := PySem.mem_of_lookup hx
      obtain ⟨cc, e⟩ := hh x hm'
      exact ⟨cc, by rw [closL_free hm', e]; rfl⟩
    · have hx := (closL_some hh h1).2
      obtain ⟨v, hv⟩ := I1.cell x cc hx
      exact ⟨⟨v, cellU x cc v hx hv⟩, I1.freeC x cc hx⟩
    · obtain ⟨i, hi, hNi, hmx⟩ := hix j x h1
      obtain ⟨i', hi', hσ⟩ := hvs j v h2
      rw [hi] at hi'; cases hi'
      obtain ⟨m, hns, hl⟩ := I1.loc
      have vis : Vis X.env.scope x := (hfree x hmx).elim (fun z => .inr (.inl z)) (fun z => .inr (.inr z))
      obtain ⟨u, rv, look⟩ := hl i x v hNi hσ vis
      refine ⟨hlk x hmx, ?_⟩
      rcases look with ⟨kl', _⟩ | ⟨_, cc, hc, hcell⟩
      · rcases hfree x hmx with z | z
        · rw [kl'] at z; cases z
        · rw [kl'] at z; cases z
      · exact ⟨cc, u, by rw [closL_free hmx, hc]; rfl, cellU x cc _ hc hcell, rv⟩
  have hsp : spLam X.prog X.w X.K X.mg X.base (kl + 1) M s1 [.ref f] H1 Q E0 := ⟨f, _, rfl, LC, km H1 tab1 sH⟩
  have r2 : Vals [V.ref f] [Value.ref f] := .cons rfl .nil
  have hl : ([Value.ref f] ++ []).length = [pn].length := rfl
  refine wpAny_call (codeAny_mono (FS.run X.A X.stack s1 H1 ⟨[.ref f], []⟩ ([.ref f] ++ []) [.ref f] Q E0 hr I1.env0 (hb s1 [.ref f] I1.kIn hl) r2 hsp) fun r s' hq => ?_)
  cases r with
  | error e => exact hq.elim
  | ok fl =>
    cases fl with
    | ret u => exact I1.after hq
    | next => exact False.elim hq
    | brk => exact False.elim hq
    | cont => exact False.elim hq
end
end L2
namespace PySem.SeqAt
open PySem PySem.MeetsSeq PySem.AutoSeq1
theorem str_eq_no_dict (b : Str) (u : Tok) (l : Addr) (es : Array DictEntry) (n : Nat) (dd : Option Addr) (sl : Array (Option Value)) :
    Meets (Builtin.«str.__eq__» ⟨[.str b u, .ref l], []⟩) (fun _ R s => s.heap.get? l = some { cls := .type "dict", dict := dd, data := .dict es n, slots := sl } ∧ R (.ok (.ret .notImplemented)) s) :=
  .of_wp fun prog w A R s h => by
    obtain ⟨hp, g, d, tk, os⟩ := s
    obtain ⟨hl, h⟩ := h
    wp_walk using wpAny_loadPart' hl, wpAny_load hl
    exact ⟨_, rfl, h⟩
theorem dict_eq_no_str (b : Str) (u : Tok) (l : Addr) (es : Array DictEntry) (n : Nat) (dd : Option Addr) (sl : Array (Option Value)) :
    Meets (Builtin.«dict.__eq__» ⟨[.ref l, .str b u], []⟩) (fun _ R s => s.heap.get? l = some { cls := .type "dict", dict := dd, data := .dict es n, slots := sl } ∧ R (.ok (.ret .notImplemented)) s) :=
  .of_wp fun prog w A R s h => by
    obtain ⟨hp, g, d, tk, os⟩ := s
    obtain ⟨hl, h⟩ := h
    have f1 := F.sub_str_dict
    wp_walk using wpAny_loadPart' hl, wpAny_load hl
    exact ⟨_, rfl, h⟩
theorem EqAt.str_dct {A : Around} {s : Shared} {l : Addr} {es : Array DictEntry} {n : Nat} {dd : Option Addr} {sl : Array (Option Value)} (b : Str) (u : Tok) (hl : s.heap.get? l = some { cls := .type "dict", dict := dd, data := .dict es n, slots := sl }) (hu : A.units < cLine) : EqAt A s (.str b u) (.ref l) false := fun prog w E Q h => by
  unfold eqBool
  refine wpAny_holding (wpAny_ite_split (fun hab => absurd (eq_of_beq hab) nofun) (fun _ => wpAny_bind ?_))
  refine rc_eq_decline_or (k := false) (typeIs_str s b u) ⟨_, hl, rfl⟩ (by decide) F.sub_dict_str F.slot_str_eq F.slot_dict_eq_refl
    (fun _ hq => call_meets F.slot_str_eq (typeIs_str s b u) F.entry_str_eq (F.args_str_eq_2 _ _) (str_eq_no_dict b u l es n dd sl) ⟨hl, hq⟩)
    (fun _ hq => call_meets F.slot_dict_eq_refl ⟨_, hl, rfl⟩ F.entry_dict_eq (F.args_dict_eq_2 _ _) (dict_eq_no_str b u l es n dd sl) ⟨hl, hq⟩)
    (fun _ hq => wpAny_of_eq (rfl : isSame (.str b u) (.ref l) = pure false) hq) (.inr hu) (wpAny_truthy_bool h)
end PySem.SeqAt
set_option maxHeartbeats 4000000
namespace PySem.W
open PySem PySem.Calls PyProof.Rows
def KasT.Run {α : Type} (lt : Nat → Nat → Bool) (n : Nat) : KasT α → (α → Prop) → Prop
  | .ret a, P => P a
  | .ask i j k, P => i < n ∧ j < n ∧ (k (lt i j)).Run lt n P
theorem KasT.run_bind {α β : Type} {lt : Nat → Nat → Bool} {n : Nat} {f : α → KasT β} {P : β → Prop} :
    ∀ (t : KasT α), t.Run lt n (fun a => (f a).Run lt n P) → (t.bind f).Run lt n P
  | .ret _, h => h
  | .ask _ _ k, h => ⟨h.1, h.2.1, KasT.run_bind (k _) h.2.2⟩
theorem KasT.run_mono {α : Type} {lt : Nat → Nat → Bool} {n : Nat} {P Q : α → Prop} (hq : ∀ a, P a → Q a) :
    ∀ (t : KasT α), t.Run lt n P → t.Run lt n Q
  | .ret a, h => hq a h
  | .ask _ _ k, h => ⟨h.1, h.2.1, KasT.run_mono hq (k _) h.2.2⟩
theorem KasT.run_wp {α : Type} {lt : Nat → Nat → Bool} {n : Nat} {P : α → Prop} {Q : α → Shared → Prop} {I : Shared → Prop}
    {cmp : Nat → Nat → (Bool → Shared → Prop) → Shared → Prop}
    (hc : ∀ i j C s, i < n → j < n → I s → (∀ s', I s' → C (lt i j) s') → cmp i j C s) (hq : ∀ a s, P a → I s → Q a s) :
    ∀ (t : KasT α) (s : Shared), t.Run lt n P → I s → t.kasWp cmp Q s
  | .ret a, s, h, hi => hq a s h hi
  | .ask i j k, s, h, hi => hc i j _ s h.1 h.2.1 hi (fun s' hs' => KasT.run_wp hc hq (k _) s' h.2.2 hs')
structure SOrd (lt : Nat → Nat → Bool) (n : Nat) : Prop where
  as : ∀ a b, a < n → b < n → lt a b = true → lt b a = false
  tr : ∀ a b c, a < n → b < n → c < n → lt b a = false → lt c b = false → lt c a = false
abbrev pat (p : Array Nat) (k : Nat) : Nat := p.getD k 0
theorem pat_eq (p : Array Nat) (k : Nat) : pat p k = p[k]?.getD 0 := by
  show p.getD k 0 = _
  simp [Array.getD_eq_getD_getElem?]
structure SPerm (n : Nat) (p : Array Nat) : Prop where
  perm : p.toList.Perm (List.range n)
theorem SPerm.size {n : Nat} {p : Array Nat} (h : SPerm n p) : p.size = n := by
  have := h.perm.length_eq
  simpa using this
theorem SPerm.lt {n : Nat} {p : Array Nat} (h : SPerm n p) {k : Nat} (hk : k < n) : pat p k < n := by
  have hs : k < p.size := by rw [h.size]; exact hk
  have e : pat p k = p[k] := by rw [pat_eq, getElem?_pos p k hs]; rfl
  rw [e]
  have : p[k] ∈ p.toList := by simp
  exact List.mem_range.mp (h.perm.mem_iff.mp this)
theorem SPerm.of {n : Nat} {p q : Array Nat} (h : SPerm n p) (e : q.Perm p) : SPerm n q :=
  ⟨(Array.perm_iff_toList_perm.mp e).trans h.perm⟩
theorem SPerm.rev {n : Nat} {p : Array Nat} (h : SPerm n p) (i j : Nat) : SPerm n (kas_rev p i j) := h.of (mirror_perm _ _ _ _)
theorem pat_rev {n : Nat} {p : Array Nat} (h : SPerm n p) {i j : Nat} (hj : j ≤ n) (k : Nat) :
    pat (kas_rev p i j) k = if i ≤ k ∧ k < j then pat p (i + j - 1 - k) else pat p k := by
  rw [pat_eq]
  unfold kas_rev
  rw [getElem?_mirror_all (by rw [h.size]; exact hj)]
  split <;> rw [pat_eq]
theorem pat_bub {n : Nat} {p : Array Nat} (h : SPerm n p) {k d : Nat} (hk : k < n) (hd : d ≤ k) (i : Nat) :
    pat (bubble p k d) i = if i = k - d then pat p k else if k - d < i ∧ i ≤ k then pat p (i - 1) else pat p i := by
  rw [pat_eq, getElem?_bubble (by rw [h.size]; exact hk) d hd]
  split
  · rw [pat_eq]
  · split <;> rw [pat_eq]
section
variable {lt : Nat → Nat → Bool} {n : Nat}
def SUp (lt : Nat → Nat → Bool) (p : Array Nat) (m : Nat) : Prop := ∀ i j, i < j → j < m → lt (pat p j) (pat p i) = false
def SDown (lt : Nat → Nat → Bool) (p : Array Nat) (m : Nat) : Prop := ∀ i j, i < j → j < m → lt (pat p i) (pat p j) = false
theorem SOrd.irr (O : SOrd lt n) {x : Nat} (hx : x < n) : lt x x = false := by
  cases hh : lt x x with
  | false => rfl
  | true => have := O.as _ _ hx hx hh; rw [hh] at this; exact this
theorem SUp.more (O : SOrd lt n) {p : Array Nat} (hp : SPerm n p) {m : Nat} (h1 : 1 ≤ m) (hm : m < n) (u : SUp lt p m) (h : lt (pat p m) (pat p (m - 1)) = false) : SUp lt p (m + 1) := by
  intro i j hij hj
  rcases Nat.lt_or_ge j m with h' | h'
  · exact u i j hij h'
  · obtain rfl : j = m := by omega
    rcases Nat.lt_or_ge i (j - 1) with h'' | h''
    · exact O.tr _ _ _ (hp.lt (by omega)) (hp.lt (by omega)) (hp.lt hm) (u i (j - 1) h'' (by omega)) h
    · obtain rfl : i = j - 1 := by omega
      exact h
theorem SDown.more (O : SOrd lt n) {p : Array Nat} (hp : SPerm n p) {m : Nat} (h1 : 1 ≤ m) (hm : m < n) (u : SDown lt p m) (h : lt (pat p (m - 1)) (pat p m) = false) : SDown lt p (m + 1) := by
  intro i j hij hj
  rcases Nat.lt_or_ge j m with h' | h'
  · exact u i j hij h'
  · obtain rfl : j = m := by omega
    rcases Nat.lt_or_ge i (j - 1) with h'' | h''
    · exact O.tr _ _ _ (hp.lt hm) (hp.lt (by omega)) (hp.lt (by omega)) h (u i (j - 1) h'' (by omega))
    · obtain rfl : i = j - 1 := by omega
      exact h
theorem run_asc (O : SOrd lt n) {p : Array Nat} (hp : SPerm n p) : ∀ (f m : Nat), 1 ≤ m → m + f ≤ n → SUp lt p m →
    (kas_asc p f m).Run lt n (fun r => m ≤ r ∧ r ≤ m + f ∧ SUp lt p r ∧ (r < m + f → lt (pat p r) (pat p (r - 1)) = true))
  | 0, m, h1, hm, u => ⟨Nat.le_refl _, Nat.le_refl _, u, fun h => absurd h (Nat.lt_irrefl _)⟩
  | f + 1, m, h1, hm, u => by
    refine ⟨hp.lt (by omega), hp.lt (by omega), ?_⟩
    cases hc : lt (pat p m) (pat p (m - 1)) with
    | true =>
      simp only [if_true]
      exact ⟨Nat.le_refl _, by omega, u, fun _ => hc⟩
    | false =>
      have hc' := hc
      simp only [Bool.false_eq_true, if_false]
      refine KasT.run_mono (fun r hr => ?_) _ (run_asc O hp f (m + 1) (by omega) (by omega) (u.more O hp h1 (by omega) hc'))
      exact ⟨by omega, by omega, hr.2.2.1, fun h => hr.2.2.2 (by omega)⟩
def SEq (lt : Nat → Nat → Bool) (p : Array Nat) (a b : Nat) : Prop := ∀ i j, a ≤ i → i < b → a ≤ j → j < b → lt (pat p i) (pat p j) = false
theorem rev_down {p : Array Nat} (hp : SPerm n p) {a b m : Nat} (hb : b ≤ m) (hm : m ≤ n) (d : SDown lt p m) (e : SEq lt p a b) : SDown lt (kas_rev p a b) m := by
  intro i j hij hj
  rw [pat_rev hp (by omega), pat_rev hp (by omega)]
  split
  · split
    · exact e _ _ (by omega) (by omega) (by omega) (by omega)
    · exact d _ _ (by omega) (by omega)
  · split
    · exact d _ _ (by omega) (by omega)
    · exact d _ _ hij hj
theorem rev_up {p : Array Nat} (hp : SPerm n p) {m : Nat} (hm : m ≤ n) (d : SDown lt p m) : SUp lt (kas_rev p 0 m) m := by
  intro i j hij hj
  rw [pat_rev hp hm, pat_rev hp hm, if_pos (by omega), if_pos (by omega)]
  exact d _ _ (by omega) (by omega)
theorem SDown.zero {p : Array Nat} : SDown lt p 1 := fun i j h h' => by omega
theorem run_desc (O : SOrd lt n) : ∀ (f : Nat) (p : Array Nat) (m q : Nat), SPerm n p → q + 1 ≤ m → m + f ≤ n → SDown lt p m → SEq lt p (m - (q + 1)) m →
    (kas_desc f p m q).Run lt n (fun r => SPerm n r.1 ∧ r.2.2 + 1 ≤ r.2.1 ∧ r.2.1 ≤ m + f ∧ SDown lt r.1 r.2.1 ∧ SEq lt r.1 (r.2.1 - (r.2.2 + 1)) r.2.1)
  | 0, p, m, q, hp, hq, hm, d, e => ⟨hp, hq, Nat.le_refl _, d, e⟩
  | f + 1, p, m, q, hp, hq, hm, d, e => by
    refine ⟨hp.lt (by omega), hp.lt (by omega), ?_⟩
    cases hc : lt (p.getD m 0) (p.getD (m - 1) 0) with
    | true =>
      simp only [if_true]
      have h1 : lt (pat p (m - 1)) (pat p m) = false := O.as _ _ (hp.lt (by omega)) (hp.lt (by omega)) hc
      split
      · have hd2 := rev_down (n := n) hp (Nat.le_refl m) (by omega) d e
        have hp2 := hp.rev (m - (q + 1)) m
        refine KasT.run_mono (fun r hr => ⟨hr.1, hr.2.1, by have := hr.2.2.1; omega, hr.2.2.2⟩) _ (run_desc O f _ (m + 1) 0 hp2 (by omega) (by omega) ?_ ?_)
        · refine hd2.more O hp2 (by omega) (by omega) ?_
          rw [pat_rev hp (by omega), pat_rev hp (by omega), if_pos (by omega), if_neg (by omega)]
          refine O.tr _ _ _ (hp.lt (by omega)) (hp.lt (by omega)) (hp.lt (by omega)) h1 ?_
          exact e _ _ (by omega) (by omega) (by omega) (by omega)
        · intro i j h1 h2 h3 h4
          obtain rfl : i = m := by omega
          obtain rfl : j = i := by omega
          cases hh : lt (pat (kas_rev p (j - (q + 1)) j) j) (pat (kas_rev p (j - (q + 1)) j) j) with
          | false => rfl
          | true => exact (O.as _ _ (hp2.lt (by omega)) (hp2.lt (by omega)) hh).symm.trans hh ▸ rfl
      · refine KasT.run_mono (fun r hr => ⟨hr.1, hr.2.1, by have := hr.2.2.1; omega, hr.2.2.2⟩) _ (run_desc O f _ (m + 1) 0 hp (by omega) (by omega) (d.more O hp (by omega) (by omega) h1) ?_)
        intro i j h1 h2 h3 h4
        obtain rfl : i = m := by omega
        obtain rfl : j = i := by omega
        cases hh : lt (pat p j) (pat p j) with
        | false => rfl
        | true => exact (O.as _ _ (hp.lt (by omega)) (hp.lt (by omega)) hh).symm.trans hh ▸ rfl
    | false =>
      simp only [Bool.false_eq_true, if_false]
      refine ⟨hp.lt (by omega), hp.lt (by omega), ?_⟩
      cases hc2 : lt (p.getD (m - 1) 0) (p.getD m 0) with
      | true =>
        simp only [if_true]
        exact ⟨hp, hq, by show m ≤ _; omega, d, e⟩
      | false =>
        simp only [Bool.false_eq_true, if_false]
        refine KasT.run_mono (fun r hr => ⟨hr.1, hr.2.1, by have := hr.2.2.1; omega, hr.2.2.2⟩) _ (run_desc O f _ (m + 1) (q + 1) hp (by omega) (by omega) (d.more O hp (by omega) (by omega) hc2) ?_)
        have irr : lt (pat p m) (pat p m) = false := by
          cases hh : lt (pat p m) (pat p m) with
          | false => rfl
          | true => exact (O.as _ _ (hp.lt (by omega)) (hp.lt (by omega)) hh).symm.trans hh ▸ rfl
        intro i j h1 h2 h3 h4
        rcases Nat.lt_or_ge i m with hi | hi
        · rcases Nat.lt_or_ge j m with hj | hj
          · exact e _ _ (by omega) hi (by omega) hj
          · obtain rfl : j = m := by omega
            exact O.tr _ _ _ (hp.lt (by omega)) (hp.lt (show j - 1 < n by omega)) (hp.lt (by omega)) hc2 (e _ _ (by omega) hi (by omega) (by omega))
        · obtain rfl : i = m := by omega
          rcases Nat.lt_or_ge j i with hj | hj
          · exact O.tr _ _ _ (hp.lt (by omega)) (hp.lt (show i - 1 < n by omega)) (hp.lt (by omega)) (e _ _ (by omega) (by omega) (by omega) hj) hc
          · obtain rfl : j = i := by omega
            exact irr
def SGood (lt : Nat → Nat → Bool) (n : Nat) (r : Nat × Array Nat) : Prop := SPerm n r.2 ∧ 1 ≤ r.1 ∧ r.1 ≤ n ∧ SUp lt r.2 r.1
theorem run_tail3 (O : SOrd lt n) {p : Array Nat} (hp : SPerm n p) {m : Nat} (h1 : 1 ≤ m) (hm : m ≤ n) (d : SDown lt p m) : (kas_tail3 m n p).Run lt n (SGood lt n) := by
  unfold kas_tail3
  refine KasT.run_bind _ (KasT.run_mono (fun r hr => ?_) _ (run_asc O (hp.rev 0 m) (n - m) m h1 (by omega) (rev_up hp hm d)))
  exact ⟨hp.rev 0 m, by show 1 ≤ r; omega, by show r ≤ n; omega, hr.2.2.1⟩
theorem run_descPart (O : SOrd lt n) {p : Array Nat} (hp : SPerm n p) {m : Nat} (h1 : 1 ≤ m) (hm : m < n) (d : SDown lt p (m + 1)) : (kas_descPart m n p).Run lt n (SGood lt n) := by
  unfold kas_descPart
  refine KasT.run_bind _ (KasT.run_mono (fun r hr => ?_) _ (run_desc O (n - (m + 1)) p (m + 1) 0 hp (by omega) (by omega) d ?_))
  · split
    · exact run_tail3 O (hr.1.rev _ _) (by omega) (by omega) (rev_down hr.1 (Nat.le_refl _) (by omega) hr.2.2.2.1 hr.2.2.2.2)
    · exact run_tail3 O hr.1 (by omega) (by omega) hr.2.2.2.1
  · intro i j h1 h2 h3 h4
    obtain rfl : i = m := by omega
    obtain rfl : j = i := by omega
    cases hh : lt (pat p j) (pat p j) with
    | false => rfl
    | true => exact (O.as _ _ (hp.lt (by omega)) (hp.lt (by omega)) hh).symm.trans hh ▸ rfl
theorem run_count (O : SOrd lt n) {p : Array Nat} (hp : SPerm n p) (h1 : 1 ≤ n) : (kas_count n p).Run lt n (SGood lt n) := by
  unfold kas_count
  refine KasT.run_bind _ (KasT.run_mono (fun r hr => ?_) _ (run_asc O hp (n - 1) 1 (Nat.le_refl _) (by omega) fun i j h h' => by omega))
  obtain ⟨hr1, hr2, up, st⟩ := hr
  split
  · exact ⟨hp, hr1, by show r ≤ n; omega, up⟩
  · rename_i hne
    have hlt : r < n := by
      have : r ≠ n := fun e => hne (by simp [e])
      omega
    have hs := st (by omega)
    split
    · rename_i hgt
      refine ⟨hp.lt (by omega), hp.lt (by omega), ?_⟩
      dsimp only
      split
      · exact ⟨hp, hr1, by show r ≤ n; omega, up⟩
      · rename_i hc
        have hc : lt (pat p 0) (pat p (r - 1)) = false := by simpa using hc
        have eqs : SEq lt p 0 r := by
          have lo : ∀ i, i < r → lt (pat p i) (pat p 0) = false := fun i hi => by
            rcases Nat.eq_zero_or_pos i with rfl | h
            · cases hh : lt (pat p 0) (pat p 0) with
              | false => rfl
              | true => exact (O.as _ _ (hp.lt (by omega)) (hp.lt (by omega)) hh).symm.trans hh ▸ rfl
            · exact up 0 i h hi
          have hi : ∀ i, i < r → lt (pat p (r - 1)) (pat p i) = false := fun i hi => by
            rcases Nat.lt_or_ge i (r - 1) with h | h
            · exact up i (r - 1) h (by omega)
            · obtain rfl : i = r - 1 := by omega
              exact O.irr (hp.lt (by omega))
          intro i j _ h2 _ h4
          have a1 : lt (pat p 0) (pat p j) = false := O.tr _ _ _ (hp.lt (by omega)) (hp.lt (show r - 1 < n by omega)) (hp.lt (by omega)) (hi j h4) hc
          exact O.tr _ _ _ (hp.lt (by omega)) (hp.lt (show 0 < n by omega)) (hp.lt (by omega)) a1 (lo i h2)
        have dn : SDown lt (kas_rev p 0 r) r := rev_down hp (Nat.le_refl r) (by omega) (fun i j h h' => eqs _ _ (by omega) (by omega) (by omega) h') eqs
        refine run_descPart O (hp.rev 0 r) (by omega) hlt (dn.more O (hp.rev 0 r) (by omega) hlt ?_)
        rw [pat_rev hp (by omega), pat_rev hp (by omega), if_pos (by omega), if_neg (by omega)]
        refine O.tr _ _ _ (hp.lt (by omega)) (hp.lt (show r - 1 < n by omega)) (hp.lt (by omega)) (O.as _ _ (hp.lt (by omega)) (hp.lt (by omega)) hs) ?_
        exact eqs _ _ (by omega) (by omega) (by omega) (by omega)
    · obtain rfl : r = 1 := by omega
      exact run_descPart O hp (by omega) hlt ((SDown.zero).more O hp (by omega) hlt (O.as _ _ (hp.lt (by omega)) (hp.lt (by omega)) hs))
theorem run_place (O : SOrd lt n) {p : Array Nat} (hp : SPerm n p) {k : Nat} (hk : k < n) (u : SUp lt p k) : ∀ (f l r : Nat), l ≤ r → r ≤ k → r - l ≤ f →
    (∀ i, i < l → lt (pat p k) (pat p i) = false) → (∀ i, r ≤ i → i < k → lt (pat p i) (pat p k) = false) →
    (kas_place p k f l r).Run lt n (fun m => m ≤ k ∧ (∀ i, i < m → lt (pat p k) (pat p i) = false) ∧ (∀ i, m ≤ i → i < k → lt (pat p i) (pat p k) = false))
  | 0, l, r, h1, h2, h3, a, b => ⟨by show l ≤ k; omega, a, fun i hi => b i (by omega)⟩
  | f + 1, l, r, h1, h2, h3, a, b => by
    unfold kas_place
    split
    · exact ⟨by show l ≤ k; omega, a, fun i hi => b i (by omega)⟩
    · rename_i hlr
      refine ⟨hp.lt hk, hp.lt (by omega), ?_⟩
      dsimp only
      split
      · rename_i hc
        refine run_place O hp hk u f l ((l + r) / 2) (by omega) (by omega) (by omega) a fun i hi hik => ?_
        have hm : lt (pat p ((l + r) / 2)) (pat p k) = false := O.as _ _ (hp.lt hk) (hp.lt (by omega)) hc
        rcases Nat.lt_or_ge ((l + r) / 2) i with h | h
        · exact O.tr _ _ _ (hp.lt hk) (hp.lt (show (l + r) / 2 < n by omega)) (hp.lt (by omega)) hm (u _ _ h hik)
        · obtain rfl : i = (l + r) / 2 := by omega
          exact hm
      · rename_i hc
        have hc : lt (pat p k) (pat p ((l + r) / 2)) = false := by simpa using hc
        refine run_place O hp hk u f ((l + r) / 2 + 1) r (by omega) h2 (by omega) (fun i hi => ?_) b
        rcases Nat.lt_or_ge i ((l + r) / 2) with h | h
        · exact O.tr _ _ _ (hp.lt (by omega)) (hp.lt (show (l + r) / 2 < n by omega)) (hp.lt hk) (u _ _ h (by omega)) hc
        · obtain rfl : i = (l + r) / 2 := by omega
          exact hc
theorem run_bin (O : SOrd lt n) : ∀ (f : Nat) (p : Array Nat) (k : Nat), SPerm n p → k + f = n → SUp lt p k → (kas_bin f p k).Run lt n (fun p => SPerm n p ∧ SUp lt p n)
  | 0, p, k, hp, hk, u => ⟨hp, by obtain rfl : k = n := by omega
                                  exact u⟩
  | f + 1, p, k, hp, hk, u => by
    unfold kas_bin
    refine KasT.run_bind _ (KasT.run_mono (fun m hm => ?_) _ (run_place O hp (by omega) u k 0 k (Nat.zero_le _) (Nat.le_refl _) (by omega) (fun i h => by omega) (fun i h h' => by omega)))
    obtain ⟨hmk, lo, hi⟩ := hm
    refine run_bin O f _ (k + 1) (hp.of (bubble_perm _ _ _)) (by omega) ?_
    intro i j hij hj
    have hd : k - (k - m) = m := by omega
    rw [pat_bub hp (by omega) (by omega), pat_bub hp (by omega) (by omega), hd]
    by_cases j1 : j = m
    · rw [if_pos j1, if_neg (show ¬ i = m by omega), if_neg (by omega)]
      exact lo i (by omega)
    · rw [if_neg j1]
      by_cases i1 : i = m
      · rw [if_pos i1, if_pos (by omega)]
        exact hi _ (by omega) (by omega)
      · rw [if_neg i1]
        by_cases j2 : m < j ∧ j ≤ k
        · rw [if_pos j2]
          by_cases i2 : m < i ∧ i ≤ k
          · rw [if_pos i2]
            exact u _ _ (by omega) (by omega)
          · rw [if_neg i2]
            exact u _ _ (by omega) (by omega)
        · rw [if_neg j2, if_neg (by omega)]
          exact u _ _ hij (by omega)
theorem run_sort (O : SOrd lt n) (h : 1 ≤ n) : (kas_sort n).Run lt n (fun p => SPerm n p ∧ SUp lt p n) := by
  unfold kas_sort
  refine KasT.run_bind _ (KasT.run_mono (fun r hr => ?_) _ (run_count O (p := List.toArray (List.range n)) ⟨List.Perm.refl _⟩ h))
  obtain ⟨hp, h1, h2, u⟩ := hr
  split
  · rename_i hlt
    have : max r.1 1 = r.1 := by omega
    rw [this]
    exact run_bin O _ _ _ hp (by omega) u
  · refine ⟨hp, ?_⟩
    have e : r.1 = n := by omega
    rw [e] at u
    exact u
end
end PySem.W
set_option maxHeartbeats 4000000
namespace PySem.W
open PySem PySem.Calls PyProof.Rows
section
variable {prog : Program} {w : World} {A : Around} {E : Value → Shared → Prop} {s : Shared}
def Asks (prog : Program) (w : World) (A : Around) (vs : List Value) (lt : Nat → Nat → Bool) (s : Shared) : Prop :=
  wpAny (model prog w) A (keyKind' vs.toArray) (fun κ s' => s' = s ∧ ∀ i j C, i < vs.length → j < vs.length → C (lt i j) s →
    wpAny (model prog w) A (keyLt' κ (vs.getD i Value.none) (vs.getD j Value.none)) C (fun _ _ => False) s) (fun _ _ => False) s
theorem list_sort_ask {a : Addr} {vs : List Value} {lt : Nat → Nat → Bool} {n : Nat} {P : PySem.Fin → Shared → Prop} (ho : s.heap.get? a = some (seqObj "list" vs.toArray n))
    (O : SOrd lt vs.length) (h64 : vs.length < 64)
    (hk : ∀ h', (∀ b o, b ≠ a → s.heap.get? b = some o → h'.get? b = some o) → 2 ≤ vs.length → Asks prog w A vs lt { s with heap := h' })
    (h : ∀ p : Array Nat, SPerm vs.length p → SUp lt p vs.length → P (.done (.ret .none)) { s with heap := sortedHeap s.heap a vs (p.toList.map fun i => vs.getD i Value.none).toArray }) :
    wpAny (model prog w) A (Builtin.«list.sort» ⟨[.ref a], []⟩) P E s := by
  rw [list_sort_plain]
  have ha : a < s.heap.objs.size := Heap.lt_size ho
  refine wpAny_bind (listItems_at ho rfl ?_)
  refine wpAny_bind (listUpdate_at ho rfl ?_)
  obtain ⟨e1, ho1⟩ : ∃ e1, (s.heap.update a (Obj.mapSeq fun _ => #[])).get? a = some (seqObj "list" #[] e1) := ⟨_, get?_update_seq ho (fun _ => #[])⟩
  refine wpAny_bind (seqEpoch_at ho1 rfl ?_)
  refine wpAny_bind (wpAny_newTuple ?_)
  refine wpAny_bind (wpAny_newList ?_)
  refine wpAny_holding ?_
  have ho6 : (((s.heap.update a (Obj.mapSeq fun _ => #[])).push (seqObj "tuple" vs.toArray 0)).push (seqObj "list" #[] 0)).get? a = some (seqObj "list" #[] e1) := by
    rw [Heap.get?_push_ne _ _ _ (by rw [size_push', Heap.size_update]; exact Nat.ne_of_lt (Nat.lt_succ_of_lt ha)), Heap.get?_push_ne _ _ _ (by rw [Heap.size_update]; exact Nat.ne_of_lt ha)]
    exact ho1
  show wpAny (model prog w) A _ P E { s with heap := ((s.heap.update a (Obj.mapSeq fun _ => #[])).push (seqObj "tuple" vs.toArray 0)).push (seqObj "list" #[] 0) }
  dsimp only
  by_cases h2 : vs.toArray.size < 2
  · rw [if_pos h2, if_pos h2]
    refine wpAny_bind (wpAny_pure ?_)
    rw [StateT.run_pure]
    refine wpAny_bind (wpAny_pure ?_)
    dsimp only
    refine wpAny_bind (seqEpoch_at ho6 rfl ?_)
    refine wpAny_bind (listUpdate_at ho6 rfl ?_ (hsz2 := by rw [Array.size_map]; show (pairsOf vs).size ≤ _; rw [pairsOf_size, sizeLine_eq]; omega))
    simp only [bne_self_eq_false, Bool.false_eq_true, if_false]
    have hl : vs.length < 2 := by simpa using h2
    have e : (arrOf (SortSt.mk' general' (vs.toArray.zip vs.toArray) #[] 7 none)).map (·.2) = (((List.range vs.length).toArray).toList.map fun i => vs.getD i Value.none).toArray := by
      show (vs.toArray.zip vs.toArray).map (·.2) = _
      match vs, hl with
      | [], _ => simp
      | [x], _ => simp [List.range_succ]
    rw [e]
    exact wpAny_pure (h _ ⟨List.Perm.refl _⟩ fun i j h1 h2 => by omega)
  · rw [if_neg h2, if_neg h2]
    have hl : 2 ≤ vs.length := by simp at h2; exact h2
    refine wpAny_bind (wpAny_mono (hk _ (fun b o hb q => ?_) hl) (fun κ s' hκ => ?_) fun _ _ x => x.elim)
    · have hbs : b < s.heap.objs.size := Heap.lt_size q
      rw [Heap.get?_push_ne _ _ _ (by rw [size_push', Heap.size_update]; exact Nat.ne_of_lt (Nat.lt_succ_of_lt hbs)), Heap.get?_push_ne _ _ _ (by rw [Heap.size_update]; exact Nat.ne_of_lt hbs), Heap.get?_update_ne _ _ _ _ hb]
      exact q
    · obtain ⟨rfl, hc⟩ := hκ
      refine wpAny_bind (wpAny_mono (kat_run (E := E) (vs := vs) (ks := vs) (κ := κ) (G := fun p s' => s' = { s with heap := ((s.heap.update a (Obj.mapSeq fun _ => #[])).push (seqObj "tuple" vs.toArray 0)).push (seqObj "list" #[] 0) } ∧ SPerm vs.length p ∧ SUp lt p vs.length)
        (Q := fun st' s' => s' = { s with heap := ((s.heap.update a (Obj.mapSeq fun _ => #[])).push (seqObj "tuple" vs.toArray 0)).push (seqObj "list" #[] 0) } ∧ failedOf st' = none ∧ ∃ p, SPerm vs.length p ∧ SUp lt p vs.length ∧ (arrOf st').map (·.2) = List.toArray (p.toList.map fun i => vs.getD i Value.none))
        rfl hl h64 (fun p st' s' a1 a2 a3 a4 => ⟨a4.1, a3, p, a4.2.1, a4.2.2, kat_snds rfl a2⟩) ?_) ?_ fun _ _ e => e)
      · refine KasT.run_wp (lt := lt) (n := vs.length) (P := fun p => SPerm vs.length p ∧ SUp lt p vs.length) (I := fun s' => s' = { s with heap := ((s.heap.update a (Obj.mapSeq fun _ => #[])).push (seqObj "tuple" vs.toArray 0)).push (seqObj "list" #[] 0) }) ?_ ?_ _ _ (run_sort O (by omega)) rfl
        · rintro i j C s' hi hj rfl q
          exact hc i j C hi hj (q _ rfl)
        · rintro p s' hp rfl
          exact ⟨rfl, hp⟩
      · rintro ⟨⟨⟩, st'⟩ s' ⟨rfl, hf, p, hp, hu, e⟩
        dsimp only at hf e ⊢
        rw [e]
        refine wpAny_bind (seqEpoch_at ho6 rfl ?_)
        refine wpAny_bind (listUpdate_at ho6 rfl ?_ (hsz2 := by rw [List.size_toArray, List.length_map, Array.length_toList, hp.size, sizeLine_eq]; omega))
        rw [hf]
        simp only [bne_self_eq_false, Bool.false_eq_true, if_false]
        exact wpAny_pure (h p hp hu)
theorem sorted_ask {l : Addr} {vs : List Value} {lt : Nat → Nat → Bool} {Q : Value → Shared → Prop} (hl : s.heap.IsList l vs.toArray) (O : SOrd lt vs.length) (h64 : vs.length < 64)
    (hk : ∀ h', (∀ b o, s.heap.get? b = some o → h'.get? b = some o) → 2 ≤ vs.length → Asks prog w A.in1.in1 vs lt { s with heap := h' })
    (h : ∀ p : Array Nat, SPerm vs.length p → SUp lt p vs.length → Q (.ref (s.heap.objs.size + 1)) { s with heap := sortedAll s.heap vs (p.toList.map fun i => vs.getD i Value.none).toArray }) :
    wpAny (model prog w) A (call (.builtin "sorted") [.ref l]) Q E s := by
  refine Calls.call_function_entry kind_sorted plain_sorted entry_sorted (args_sorted1 _) ?_
  unfold Builtin.«sorted»
  refine wpAny_bind (m := checkCount "sorted" 1 1 _) (wpAny_pure ?_)
  refine wpAny_bind (collect_list hl ?_)
  refine wpAny_bind (wpAny_newList ?_)
  have hsz : ((s.heap.push (seqObj "list" #[] 0)).update s.heap.objs.size (Obj.mapSeq (· ++ vs.toArray))).objs.size = s.heap.objs.size + 1 := by
    rw [Heap.size_update, size_push']
  have hoL : (((s.heap.push (seqObj "list" #[] 0)).update s.heap.objs.size (Obj.mapSeq (· ++ vs.toArray))).push (seqObj "list" vs.toArray 0)).get? (s.heap.objs.size + 1) = some (seqObj "list" vs.toArray 0) := by
    rw [← hsz]; exact Heap.get?_push_size _ rfl
  show wpAny _ _ _ _ _ { s with heap := ((s.heap.push (seqObj "list" #[] 0)).update s.heap.objs.size (Obj.mapSeq (· ++ vs.toArray))).push (seqObj "list" vs.toArray 0) }
  rw [hsz]
  refine wpAny_bind (wpAny_holding (wpAny_call_entry slot_list_sort ⟨_, hoL, rfl⟩ entry_list_sort (list_sort_ask hoL O h64 (fun h' k h2 => hk h' (fun b o q => ?_) h2) fun p a1 a2 => ⟨_, rfl, ?_⟩) (args_list_sort _)))
  · have hlt : b < s.heap.objs.size := Heap.lt_size q
    refine k b o (Nat.ne_of_lt (Nat.lt_succ_of_lt hlt)) ?_
    show (((s.heap.push (seqObj "list" #[] 0)).update s.heap.objs.size (Obj.mapSeq (· ++ vs.toArray))).push (seqObj "list" vs.toArray 0)).get? b = some o
    rw [Heap.get?_push_ne _ _ _ (by rw [hsz]; exact Nat.ne_of_lt (Nat.lt_succ_of_lt hlt)), Heap.get?_update_ne _ _ _ _ (Nat.ne_of_lt hlt), Heap.get?_push_ne _ _ _ (Nat.ne_of_lt hlt)]
    exact q
  · exact wpAny_pure ⟨_, rfl, h p a1 a2⟩
end
end PySem.W
namespace L2
open PySem PySem.Spec PyProof.Rows
open PySem.W (SOrd SPerm SUp Asks sorted_ask KatLex kat_lt kat_one kas_mapM kas_first_eq Looks pat)
def ltS (x y : Str) : Bool := decide (x.cps.toList < y.cps.toList)
theorem ltS_irr (x : Str) : ltS x x = false := strKind.irrefl _
theorem ltS_tr {x y z : Str} (h : ltS x y = true) (h' : ltS y z = true) : ltS x z = true := strKind.trans _ _ _ h h'
theorem ltS_as {x y : Str} (h : ltS x y = true) : ltS y x = false := by
  cases e : ltS y x with
  | false => rfl
  | true => have := ltS_tr h e; rw [ltS_irr] at this; exact this.symm
theorem ltS_tot {x y : Str} (h : ltS x y = false) (h' : ltS y x = false) : x = y := by
  have e := strKind.total x.cps.toList y.cps.toList h h'
  cases x; cases y
  simpa using e
section
variable {P : Program} {w : World} {A : Around} {E : Value → Shared → Prop} {s : Shared}
theorem one_type {M : Model} {vs : List Value} {T : Value} {Q : Option Value → Shared → Prop} (h2 : 1 ≤ vs.length) (hT : ∀ v ∈ vs, Looks M s.heap (typeOf v) T) (hT2 : (T == T) = true) (h : Q (some T) s) :
    wpAny M A (oneTypeOnly' vs.toArray) Q E s := by
  obtain ⟨v, rest, rfl⟩ : ∃ v rest, vs = v :: rest := by
    match vs, h2 with
    | v :: r, _ => exact ⟨v, r, rfl⟩
  rw [oneTypeOnly'_eq, List.mapM_toArray, map_eq_pure_bind]
  refine wpAny_bind (wpAny_bind (kas_mapM (r := T) _ (fun v hv Q' hq => (hT v hv).here hq) (wpAny_pure ?_)))
  have hall : ((List.map (fun _ => T) (v :: rest)).toArray.all fun x => x == T) = true := by
    simp only [List.all_toArray, List.all_map, List.all_eq_true]
    intro _ _
    exact hT2
  have h0 : (List.map (fun _ => T) (v :: rest)).toArray[0]? = some T := by simp
  rw [h0]
  simp only [hall, if_true]
  exact wpAny_pure h
end
section
variable {X : Cx} {k : Nat}
theorem perm_map_get {α : Type} (d : α) : ∀ (xs : List α), (List.range xs.length).map (fun i => xs.getD i d) = xs
  | [] => rfl
  | x :: xs => by
    rw [List.length_cons, List.range_succ_eq_map, List.map_cons, List.map_map]
    have := perm_map_get d xs
    simp only [List.getD_cons_zero, List.cons.injEq, true_and]
    conv => rhs; rw [← this]
    exact List.map_congr_left fun i _ => by simp
theorem vals_getD {vs : List V} {us : List Value} (r : Vals vs us) (i : Nat) (hi : i < vs.length) : RelV (vs.getD i .non) (us.getD i .none) := by
  obtain ⟨u, h1, h2⟩ := r.get (i := i) (x := vs[i]) (by simp [hi])
  have e1 : vs.getD i .non = vs[i] := by simp [hi]
  have e2 : us.getD i .none = u := by simp [List.getD, h1]
  rw [e1, e2]
  exact h2
theorem vals_pick {vs : List V} {us : List Value} (r : Vals vs us) : ∀ (l : List Nat), (∀ i ∈ l, i < vs.length) → Vals (l.map fun i => vs.getD i .non) (l.map fun i => us.getD i .none)
  | [], _ => .nil
  | i :: l, h => .cons (vals_getD r i (h i (.head _))) (vals_pick r l fun j hj => h j (.tail _ hj))
theorem reps_pick {ds : List PyData} {vs : List V} (r : Reps H ds vs) (dd : PyData) : ∀ (l : List Nat), (∀ i ∈ l, i < vs.length) → Reps H (l.map fun i => ds.getD i dd) (l.map fun i => vs.getD i .non)
  | [], _ => Reps.nil
  | i :: l, h => by
    refine Reps.cons ?_ (reps_pick r dd l fun j hj => h j (.tail _ hj))
    have hi := h i (.head _)
    obtain ⟨d, h1, h2⟩ := r.get (i := i) (v := vs[i]) (by simp [hi])
    have e1 : vs.getD i .non = vs[i] := by simp [hi]
    have e2 : ds.getD i dd = d := by simp [List.getD, h1]
    show Rep H (ds.getD i dd) (vs.getD i .non)
    rw [e1, e2]
    exact h2
end
end L2
namespace Ml
open PySem
structure Xc where
  cls : Str
  args : List PyData
inductive D where
  | dat (d : PyData)
  | ref (i : Nat)
  | dct (t : Bool) (kvs : List (PyData × PyData))
  | set (xs : List PyData)
  | fn (n : Str)
  | exc (x : Xc)
  | scr (ns : List Int)
  | ktup (xs : List PyData)
  | rpr (x : Str)
inductive MO where
  | lst (xs : List D)
  | dct (t : Bool) (kvs : List (PyData × PyData))
  | ins (C : Str) (fs : List (Str × D))
  | tab (P : Addr) (q : Str)
abbrev Hm := List MO
abbrev Fm := List (Option D)
inductive R (α : Type) where
  | ok (a : α) (h : Hm)
  | exc (x : Xc) (h : Hm)
  | bad
def R.bind {α β : Type} : R α → (α → Hm → R β) → R β
  | .ok a h, f => f a h
  | .exc x h, _ => .exc x h
  | .bad, _ => .bad
def R.noX {α : Type} : R α → R α
  | .exc _ _ => .bad
  | r => r
@[simp] theorem R.noX_ok {α : Type} {a : α} {h : Hm} : (R.ok a h).noX = .ok a h := rfl
@[simp] theorem R.noX_bad {α : Type} : (R.bad : R α).noX = .bad := rfl
@[simp] theorem R.noX_exc {α : Type} {x : Xc} {h : Hm} : (R.exc x h : R α).noX = .bad := rfl
@[simp] theorem R.bind_ok {α β : Type} {a : α} {h : Hm} {f : α → Hm → R β} : (R.ok a h).bind f = f a h := rfl
@[simp] theorem R.bind_exc {α β : Type} {x : Xc} {h : Hm} {f : α → Hm → R β} : (R.exc x h).bind f = .exc x h := rfl
@[simp] theorem R.bind_bad {α β : Type} {f : α → Hm → R β} : R.bad.bind f = .bad := rfl
theorem R.bind_assoc {α β γ : Type} (r : R α) (f : α → Hm → R β) (g : β → Hm → R γ) : (r.bind f).bind g = r.bind fun a h => (f a h).bind g := by cases r <;> rfl
abbrev ME := Fm → Hm → R D
abbrev MT := Fm → Hm → R Bool
abbrev MA := Fm → Hm → R (List D)
inductive Fl where
  | nx (ρ : Fm)
  | rt (d : D)
  | bk (ρ : Fm)
  | ct (ρ : Fm)
abbrev MS := Fm → Hm → R Fl
abbrev Fn := List D → Hm → R D
abbrev D.none : D := .dat .none
abbrev D.bool (b : Bool) : D := .dat (.bool b)
abbrev D.int (i : Int) : D := .dat (.int i)
abbrev D.str (s : Str) : D := .dat (.str s)
def eVar (i : Nat) : ME := fun ρ h => match ρ[i]? with
  | some (some d) => .ok d h
  | _ => .bad
def eDat (d : PyData) : ME := fun _ h => .ok (.dat d) h
def eFn (n : Str) : ME := fun _ h => .ok (.fn n) h
def aNil : MA := fun _ h => .ok [] h
def aCons (e : ME) (a : MA) : MA := fun ρ h => (e ρ h).bind fun x h1 => (a ρ h1).bind fun xs h2 => .ok (x :: xs) h2
def eBin (f : D → D → Hm → R D) (a b : ME) : ME := fun ρ h => (a ρ h).bind fun x h1 => (b ρ h1).bind fun y h2 => f x y h2
def eUn (f : D → Hm → R D) (a : ME) : ME := fun ρ h => (a ρ h).bind fun x h1 => f x h1
def eCall (f : Fn) (a : MA) : ME := fun ρ h => (a ρ h).bind fun xs h1 => f xs h1
def tBool (e : ME) : MT := fun ρ h => (e ρ h).bind fun x h1 => match x with
  | .dat (.bool b) => .ok b h1
  | _ => .bad
def tNot (t : MT) : MT := fun ρ h => (t ρ h).bind fun b h1 => .ok (!b) h1
def tAnd (t u : MT) : MT := fun ρ h => (t ρ h).bind fun b h1 => if b then u ρ h1 else .ok false h1
def tOr (t u : MT) : MT := fun ρ h => (t ρ h).bind fun b h1 => if b then .ok true h1 else u ρ h1
def eAnd (a b : ME) : ME := fun ρ h => (tBool a ρ h).bind fun c h1 => if c then b ρ h1 else .ok (.bool false) h1
def eOr (a b : ME) : ME := fun ρ h => (tBool a ρ h).bind fun c h1 => if c then .ok (.bool true) h1 else b ρ h1
def eNot (a : ME) : ME := fun ρ h => (tBool a ρ h).bind fun c h1 => .ok (.bool !c) h1
def eIf (t : MT) (a b : ME) : ME := fun ρ h => (t ρ h).bind fun c h1 => if c then a ρ h1 else b ρ h1
def D.data : D → Option PyData
  | .dat d => some d
  | _ => Option.none
def datas : List D → Option (List PyData)
  | [] => some []
  | x :: xs => match x.data, datas xs with
    | some d, some ds => some (d :: ds)
    | _, _ => Option.none
theorem datas_map (ds : List PyData) : datas (ds.map D.dat) = some ds := by
  induction ds with
  | nil => rfl
  | cons d ds ih => simp [datas, D.data, ih]
def szOk (n : Nat) : Bool := decide (n ≤ 16777216)
def mkTup (xs : List D) (h : Hm) : R D := match datas xs with
  | some ds => if szOk ds.length then .ok (.dat (.tuple ds)) h else .bad
  | Option.none => .bad
def mkLst (xs : List D) (h : Hm) : R D := match datas xs with
  | some ds => if szOk ds.length then .ok (.dat (.list ds)) h else .bad
  | Option.none => .bad
def mkMut (xs : List D) (h : Hm) : R D := if szOk xs.length then .ok (.ref h.length) (h ++ [.lst xs]) else .bad
def eTup (a : MA) : ME := eCall mkTup a
def eLst (a : MA) : ME := eCall mkLst a
def eMut (a : MA) : ME := eCall mkMut a
def sNext : MS := fun ρ h => .ok (.nx ρ) h
def sSeq (a b : MS) : MS := fun ρ h => (a ρ h).bind fun f h1 => match f with
  | .nx ρ1 => b ρ1 h1
  | f => .ok f h1
def sSet (i : Nat) (e : ME) : MS := fun ρ h => (e ρ h).bind fun x h1 => .ok (.nx (ρ.set i (some x))) h1
def sExpr (e : ME) : MS := fun ρ h => (e ρ h).bind fun _ h1 => .ok (.nx ρ) h1
def sRet (e : ME) : MS := fun ρ h => (e ρ h).bind fun x h1 => .ok (.rt x) h1
def sIf (t : MT) (a b : MS) : MS := fun ρ h => (t ρ h).bind fun c h1 => if c then a ρ h1 else b ρ h1
def sBreak : MS := fun ρ h => .ok (.bk ρ) h
def sCont : MS := fun ρ h => .ok (.ct ρ) h
abbrev MG := D → Fm → Hm → R Fm
def gName (i : Nat) : MG := fun x ρ h => .ok (ρ.set i (some x)) h
abbrev MGs := List D → Fm → Hm → R Fm
def gNil : MGs := fun xs ρ h => match xs with
  | [] => .ok ρ h
  | _ => .bad
def gCons (g : MG) (gs : MGs) : MGs := fun xs ρ h => match xs with
  | [] => .bad
  | x :: xs => (g x ρ h).bind fun ρ1 h1 => gs xs ρ1 h1
def gTup (gs : MGs) : MG := fun x ρ h => match x with
  | .dat (.tuple ds) => gs (ds.map D.dat) ρ h
  | _ => .bad
def sAsg (g : MG) (e : ME) : MS := fun ρ h => (e ρ h).bind fun x h1 => (g x ρ h1).bind fun ρ1 h2 => .ok (.nx ρ1) h2
def setAll : List Nat → List D → Fm → Option Fm
  | [], [], ρ => some ρ
  | i :: is, x :: xs, ρ => setAll is xs (ρ.set i (some x))
  | _, _, _ => Option.none
def sPar (is : List Nat) (a : MA) : MS := fun ρ h => (a ρ h).bind fun xs h1 => match setAll is xs ρ with
  | some ρ1 => .ok (.nx ρ1) h1
  | Option.none => .bad
def itTup (e : ME) : MA := fun ρ h => (e ρ h).bind fun x h1 => match x with
  | .dat (.tuple ds) => .ok (ds.map D.dat) h1
  | _ => .bad
def itLst (e : ME) : MA := fun ρ h => (e ρ h).bind fun x h1 => match x with
  | .dat (.list ds) => .ok (ds.map D.dat) h1
  | _ => .bad
def signs (x : Str) : List D := (List.range x.cps.size).map fun (i : Nat) => D.str ⟨#[x.cps.getD i 0]⟩
def itStr (e : ME) : MA := fun ρ h => (e ρ h).bind fun x h1 => match x with
  | .dat (.str s) => .ok (signs s) h1
  | _ => .bad
def nums (lo : Int) (n : Nat) : List D := (List.range n).map fun (i : Nat) => D.int (lo + (i : Int))
def itRng (a : MA) : MA := fun ρ h => (a ρ h).bind fun xs h1 => match xs with
  | [.dat (.int j)] => if -(2 ^ 62) ≤ j ∧ j < 2 ^ 62 then .ok (nums 0 j.toNat) h1 else .bad
  | _ => .bad
def itRng2 (a : MA) : MA := fun ρ h => (a ρ h).bind fun xs h1 => match xs with
  | [.dat (.int i), .dat (.int j)] => if -(2 ^ 62) ≤ i ∧ i < 2 ^ 62 ∧ -(2 ^ 62) ≤ j ∧ j < 2 ^ 62 then .ok (nums i (j - i).toNat) h1 else .bad
  | _ => .bad
def zipD : List PyData → List PyData → List D
  | x :: xs, y :: ys => .dat (.tuple [x, y]) :: zipD xs ys
  | _, _ => []
def itZip (a : MA) : MA := fun ρ h => (a ρ h).bind fun xs h1 => match xs with
  | [.dat (.tuple ds), .dat (.tuple es)] => .ok (zipD ds es) h1
  | _ => .bad
def forGo (g : MG) (b : MS) : List D → Fm → Hm → R Fl
  | [], ρ, h => .ok (.nx ρ) h
  | x :: xs, ρ, h => (g x ρ h).noX.bind fun ρ1 h1 => (b ρ1 h1).noX.bind fun f h2 => match f with
    | .nx ρ2 => forGo g b xs ρ2 h2
    | .ct ρ2 => forGo g b xs ρ2 h2
    | .bk ρ2 => .ok (.nx ρ2) h2
    | .rt d => .ok (.rt d) h2
def sFor (it : MA) (g : MG) (b : MS) : MS := fun ρ h => (it ρ h).noX.bind fun xs h1 => forGo g b xs ρ h1
def compGo (n : Nat) (ρ : Fm) (g : MG) (t : MT) (e : ME) : List D → Hm → R (List D)
  | [], h => .ok [] h
  | x :: xs, h => (g x (List.replicate n none ++ ρ) h).noX.bind fun ρ1 h1 => (t ρ1 h1).noX.bind fun c h2 =>
    if c then (e ρ1 h2).noX.bind fun y h3 => (compGo n ρ g t e xs h3).bind fun ys h4 => .ok (y :: ys) h4
    else compGo n ρ g t e xs h2
def tTrue : MT := fun _ h => .ok true h
def aComp (n : Nat) (it : MA) (g : MG) (t : MT) (e : ME) : MA := fun ρ h => (it ρ h).bind fun xs h1 => if szOk xs.length then compGo n ρ g t e xs h1 else .bad
def eComp (n : Nat) (it : MA) (g : MG) (t : MT) (e : ME) : ME := eCall mkLst (aComp n it g t e)
def endFn : Fl → Hm → R D
  | .rt d, h => .ok d h
  | .nx _, h => .ok D.none h
  | _, _ => .bad
def runFn (p n : Nat) (b : MS) : Fn := fun xs h => if xs.length = p then (b (xs.map some ++ List.replicate (n - p) none) h).bind endFn else .bad
def D.below (n : Nat) : D → Bool
  | .ref i => decide (i < n)
  | _ => true
def MO.below (n : Nat) : MO → Bool
  | .lst xs => xs.all (D.below n)
  | .dct _ _ => true
  | .ins _ fs => fs.all fun p => p.2.below n
  | .tab _ _ => true
def scopd (f : Fn) : Fn := fun xs h => match f xs h with
  | .ok d h' => if d.below h.length && (h'.take h.length).all (MO.below h.length) && decide (h.length ≤ h'.length) then .ok d (h'.take h.length) else .bad
  | .exc x h' => if (h'.take h.length).all (MO.below h.length) && decide (h.length ≤ h'.length) then .exc x (h'.take h.length) else .bad
  | .bad => .bad
end Ml
namespace Ml
open PySem
def mapO (f : D → Option PyData) : List D → Option (List PyData)
  | [] => some []
  | x :: xs => match f x, mapO f xs with
    | some d, some ds => some (d :: ds)
    | _, _ => Option.none
def deN (h : Hm) : Nat → D → Option PyData
  | _, .dat d => some d
  | _, .ktup xs => some (.tuple xs)
  | n + 1, .ref i => match h[i]? with
    | some (.lst xs) => (mapO (deN h n) xs).map .list
    | _ => Option.none
  | _, _ => Option.none
abbrev deD (h : Hm) (x : D) : Option PyData := deN h 3 x
@[simp] theorem deN_dat (h : Hm) (n : Nat) (d : PyData) : deN h n (.dat d) = some d := by cases n <;> rfl
def listOf (x : D) (h : Hm) : Option (List PyData) := match x with
  | .dat (.list ds) => some ds
  | .ref i => match h[i]? with
    | some (.lst ys) => datas ys
    | _ => Option.none
  | _ => Option.none
def oAdd (x y : D) (h : Hm) : R D := match x, y with
  | .dat (.int i), .dat (.int j) => .ok (.int (i + j)) h
  | .dat (.str s), .dat (.str t) => if szOk (s.length + t.length) then .ok (.str (s ++ t)) h else .bad
  | .dat (.tuple xs), .dat (.tuple ys) => if szOk (xs.length + ys.length) then .ok (.dat (.tuple (xs ++ ys))) h else .bad
  | .dat (.list xs), .dat (.list ys) => if szOk (xs.length + ys.length) then .ok (.dat (.list (xs ++ ys))) h else .bad
  | _, _ => .bad
def oSub (x y : D) (h : Hm) : R D := match x, y with
  | .dat (.int i), .dat (.int j) => .ok (.int (i - j)) h
  | _, _ => .bad
def mulOk (i j : Int) : Bool := (decide (-(2 ^ 64) < i) && decide (i < 2 ^ 64)) || (decide (-(2 ^ 64) < j) && decide (j < 2 ^ 64))
def oMul (x y : D) (h : Hm) : R D := match x, y with
  | .dat (.int i), .dat (.int j) => if mulOk i j then .ok (.int (i * j)) h else .bad
  | .dat (.list xs), .dat (.int k) => if szOk (xs.length * k.toNat) && decide (-(2 ^ 63) ≤ k) && decide (k < 2 ^ 63) then .ok (.dat (.list (List.replicate k.toNat xs).flatten)) h else .bad
  | _, _ => .bad
def oMod (x y : D) (h : Hm) : R D := match x, y with
  | .dat (.int i), .dat (.int j) => if 0 < j then .ok (.int (i % j)) h else .bad
  | _, _ => .bad
def oFdiv (x y : D) (h : Hm) : R D := match x, y with
  | .dat (.int i), .dat (.int j) => if 0 < j ∧ j < 1073741824 then .ok (.int (i / j)) h else .bad
  | _, _ => .bad
def oNeg (x : D) (h : Hm) : R D := match x with
  | .dat (.int i) => .ok (.int (-i)) h
  | _ => .bad
def noDict (d : PyData) : Bool := !d.hasDict
def eqQ (d e : PyData) : Option Bool := if noDict d && noDict e && decide (min d.depth e.depth ≤ 40) then some (PyData.eqv d e) else Option.none
def eqP (d e : PyData) : Option Bool := match d, e with
  | .str _, .dict _ => some false
  | .tuple ds, .dict _ => if noDict (.tuple ds) then some false else Option.none
  | d, e => eqQ d e
def oEq (x y : D) (h : Hm) : R D := match x, y with
  | .rpr s, .rpr t => .ok (.bool (decide (s = t))) h
  | x, y => match deD h x, deD h y with
    | some d, some e => match eqQ d e with
      | some b => .ok (.bool b) h
      | Option.none => .bad
    | _, _ => .bad
def oNe (x y : D) (h : Hm) : R D := match x, y with
  | .rpr s, .rpr t => .ok (.bool (!decide (s = t))) h
  | x, y => match deD h x, deD h y with
    | some d, some e => match eqQ d e with
      | some b => .ok (.bool !b) h
      | Option.none => .bad
    | _, _ => .bad
def ltS (x y : Str) : Bool := decide (x.cps.toList < y.cps.toList)
mutual
def ltP : PyData → PyData → Option Bool
  | .int i, .int j => some (decide (i < j))
  | .str x, .str y => some (ltS x y)
  | .tuple xs, .tuple ys => ltPs xs ys
  | _, _ => Option.none
def ltPs : List PyData → List PyData → Option Bool
  | [], [] => some false
  | [], _ :: _ => some true
  | _ :: _, [] => some false
  | x :: xs, y :: ys => if PyData.eqv x y then ltPs xs ys else ltP x y
end
def oLt (x y : D) (h : Hm) : R D := match x, y with
  | .dat d, .dat e => if noDict d && noDict e && decide (min d.depth e.depth ≤ 40) then match ltP d e with
    | some b => .ok (.bool b) h
    | Option.none => .bad
    else .bad
  | _, _ => .bad
def oLe (x y : D) (h : Hm) : R D := match x, y with
  | .dat (.int i), .dat (.int j) => .ok (.bool (decide (i ≤ j))) h
  | .dat (.str s), .dat (.str t) => .ok (.bool (!ltS t s)) h
  | _, _ => .bad
def oGt (x y : D) (h : Hm) : R D := match x, y with
  | .dat (.int i), .dat (.int j) => .ok (.bool (decide (j < i))) h
  | _, _ => .bad
def oGe (x y : D) (h : Hm) : R D := match x, y with
  | .dat (.int i), .dat (.int j) => .ok (.bool (decide (j ≤ i))) h
  | _, _ => .bad
def inP (x : PyData) : List PyData → Option Bool
  | [] => some false
  | y :: ys => match eqP y x, inP x ys with
    | some a, some b => some (a || b)
    | _, _ => Option.none
def isKeyT : PyData → Bool
  | .tuple _ => true
  | _ => false
def isKeyS : PyData → Bool
  | .str _ => true
  | _ => false
def keyIn (k : PyData) (kvs : List (PyData × PyData)) : Bool := kvs.any fun p => PyData.eqv p.1 k
def dctOf (y : D) (h : Hm) : Option (Bool × List (PyData × PyData)) := match y with
  | .dct t kvs => some (t, kvs)
  | .ref i => match h[i]? with
    | some (.dct t kvs) => some (t, kvs)
    | _ => Option.none
  | _ => Option.none
mutual
def isSTree : PyData → Bool
  | .str _ => true
  | .tuple ds => areSTrees ds
  | _ => false
def areSTrees : List PyData → Bool
  | [] => true
  | d :: ds => isSTree d && areSTrees ds
end
def keyOk (t : Bool) (k : PyData) : Bool := if t then isKeyT k && isSTree k && decide (k.depth ≤ 8) else isKeyS k
def seekIn (x : D) (kvs : List (PyData × PyData)) (t : Bool) : Option Bool := match x with
  | .dat d => if keyOk t d then some (keyIn d kvs) else Option.none
  | _ => Option.none
def findSeq (x y : D) (h : Hm) : Option Bool := match y with
  | .dat (.str s) => match x with
    | .dat (.str t) => some (!(Builtin.Str.occurrences s t 0 s.length 1).isEmpty)
    | _ => Option.none
  | y => match deD h x, deD h y with
    | some d, some (.tuple ds) => inP d ds
    | some d, some (.list ds) => inP d ds
    | _, _ => Option.none
def findIn (x y : D) (h : Hm) : Option Bool := match dctOf y h with
  | some p => seekIn x p.2 p.1
  | Option.none => findSeq x y h
def oIn (x y : D) (h : Hm) : R D := match findIn x y h with
  | some b => .ok (.bool b) h
  | Option.none => .bad
def flatP : PyData → Bool
  | .none | .bool _ | .int _ | .str _ => true
  | _ => false
def dput (kvs : List (PyData × PyData)) (k v : PyData) : List (PyData × PyData) :=
  if keyIn k kvs then kvs.map (fun p => if PyData.eqv p.1 k then (p.1, v) else p) else kvs ++ [(k, v)]
def dget (kvs : List (PyData × PyData)) (k : PyData) : Option PyData := (kvs.find? fun p => PyData.eqv p.1 k).map (·.2)
def ixN (n : Nat) (i : Int) : Option Nat := if 0 ≤ i then (if i < n then some i.toNat else Option.none) else if -(n : Int) ≤ i then some (i + n).toNat else Option.none
def atI {α : Type} (xs : List α) (i : Int) : Option α := (ixN xs.length i).bind fun j => xs[j]?
def oIxS (x y : D) (h : Hm) : R D := match y with
  | .dat (.int i) => match x with
    | .dat (.tuple ds) => match atI ds i with | some d => .ok (.dat d) h | Option.none => .bad
    | .dat (.list ds) => match atI ds i with | some d => .ok (.dat d) h | Option.none => .bad
    | .ref j => match h[j]? with
      | some (.lst xs) => match atI xs i with | some d => .ok d h | Option.none => .bad
      | _ => .bad
    | .scr ns => match atI ns i with | some n => .ok (.int n) h | Option.none => .bad
    | _ => .bad
  | _ => .bad
def oIx (x y : D) (h : Hm) : R D := match dctOf x h with
  | some p => match y with
    | .dat (.str k) => if p.1 then .bad else match dget p.2 (.str k) with
      | some v => .ok (.dat v) h
      | Option.none => .bad
    | _ => .bad
  | Option.none => oIxS x y h
def sIx (n d : Nat) : Option Int → Nat
  | Option.none => d
  | some v => if v < 0 then (v + (n : Int)).toNat else min v.toNat n
def cut {α : Type} (ds : List α) (lo hi : Option Int) : List α := (ds.drop (sIx ds.length 0 lo)).take (sIx ds.length ds.length hi - sIx ds.length 0 lo)
abbrev MO' := Fm → Hm → R (Option Int)
def pNone : MO' := fun _ h => .ok Option.none h
def pSome (e : ME) : MO' := fun ρ h => (e ρ h).bind fun x h1 => match x with
  | .dat (.int i) => .ok (some i) h1
  | _ => .bad
def slD (x : D) (lo hi : Option Int) (h : Hm) : R D := match x with
  | .dat (.tuple ds) => .ok (.dat (.tuple (cut ds lo hi))) h
  | .dat (.list ds) => .ok (.dat (.list (cut ds lo hi))) h
  | _ => .bad
def eSl (e : ME) (lo hi : MO') : ME := fun ρ h => (e ρ h).bind fun x h1 => (lo ρ h1).bind fun l h2 => (hi ρ h2).bind fun u h3 => slD x l u h3
def bLen : Fn := fun xs h => match xs with
  | [.dat (.str s)] => if szOk s.length then .ok (.int s.length) h else .bad
  | [.dat (.tuple ds)] => .ok (.int ds.length) h
  | [.dat (.list ds)] => .ok (.int ds.length) h
  | [.ref i] => match h[i]? with
    | some (.lst ys) => .ok (.int ys.length) h
    | _ => .bad
  | [.scr ns] => .ok (.int ns.length) h
  | _ => .bad
def bools : List PyData → Option (List Bool)
  | [] => some []
  | .bool b :: ds => (bools ds).map (b :: ·)
  | _ => Option.none
theorem bools_map (bs : List Bool) : bools (bs.map .bool) = some bs := by
  induction bs with
  | nil => rfl
  | cons b bs ih => simp [bools, ih]
def bAll : Fn := fun xs h => match xs with
  | [.dat (.list ds)] => match bools ds with
    | some bs => .ok (.bool (bs.all id)) h
    | Option.none => .bad
  | _ => .bad
def isTup : PyData → Bool | .tuple _ => true | _ => false
def isStr : PyData → Bool | .str _ => true | _ => false
def isInt : PyData → Bool | .int _ | .bool _ => true | _ => false
def isBoo : PyData → Bool | .bool _ => true | _ => false
def bIsi (f : PyData → Bool) : D → Hm → R D := fun x h => match x with
  | .dat d => .ok (.bool (f d)) h
  | _ => .bad
def signsP (x : Str) : List PyData := (List.range x.cps.size).map fun (i : Nat) => .str ⟨#[x.cps.getD i 0]⟩
def bTuple : Fn := fun xs h => match xs with
  | [.dat (.tuple ds)] => .ok (.dat (.tuple ds)) h
  | [.dat (.str s)] => if szOk s.cps.size then .ok (.dat (.tuple (signsP s))) h else .bad
  | [x] => match listOf x h with
    | some ds => .ok (.dat (.tuple ds)) h
    | Option.none => .bad
  | _ => .bad
def bListS : Fn := fun xs h => match xs with
  | [.dat (.tuple ds)] => .ok (.dat (.list ds)) h
  | [x] => match listOf x h with
    | some ds => .ok (.dat (.list ds)) h
    | Option.none => .bad
  | _ => .bad
def bList : Fn := fun xs h => match xs with
  | [x] => match dctOf x h with
    | some p => .ok (.dat (.list (p.2.map (·.1)))) h
    | Option.none => bListS [x] h
  | _ => .bad
def insP (lt : PyData → PyData → Bool) (x : PyData) : List PyData → List PyData
  | [] => [x]
  | y :: ys => if lt y x then y :: insP lt x ys else x :: y :: ys
def sortP (lt : PyData → PyData → Bool) : List PyData → List PyData
  | [] => []
  | x :: xs => insP lt x (sortP lt xs)
def ltB (d e : PyData) : Bool := (ltP d e).getD false
def bDivmod : Fn := fun xs h => match xs with
  | [.dat (.int i), .dat (.int j)] => if 0 < j ∧ j < 1073741824 then .ok (.dat (.tuple [.int (i / j), .int (i % j)])) h else .bad
  | _ => .bad
def bAbs : Fn := fun xs h => match xs with
  | [.dat (.int i)] => .ok (.int (if i < 0 then -i else i)) h
  | _ => .bad
def bMax : Fn := fun xs h => match xs with
  | [.dat (.int i), .dat (.int j)] => .ok (.int (if j > i then j else i)) h
  | _ => .bad
def bMin : Fn := fun xs h => match xs with
  | [.dat (.int i), .dat (.int j)] => .ok (.int (if j < i then j else i)) h
  | _ => .bad
def bInt : Fn := fun xs h => match xs with
  | [.dat (.int i)] => .ok (.int i) h
  | [.dat (.bool b)] => .ok (.int (if b then 1 else 0)) h
  | _ => .bad
def mAppend (x y : D) (h : Hm) : R D := match x with
  | .ref i => match h[i]? with
    | some (.lst xs) => if decide (xs.length < 16777216) then .ok D.none (h.set i (.lst (xs ++ [y]))) else .bad
    | _ => .bad
  | _ => .bad
def mSetL (x y v : D) (h : Hm) : R Unit := match x, y with
  | .ref i, .dat (.int k) => match h[i]? with
    | some (.lst xs) => match ixN xs.length k with
      | some j => .ok () (h.set i (.lst (xs.set j v)))
      | Option.none => .bad
    | _ => .bad
  | _, _ => .bad
def mSetD (i : Nat) (t : Bool) (kvs : List (PyData × PyData)) (y v : D) (h : Hm) : R Unit := match y, v with
  | .dat k, .dat d => if keyOk t k && (t || flatP d) && decide (kvs.length < 16777216) then .ok () (h.set i (.dct t (dput kvs k d))) else .bad
  | _, _ => .bad
def mSetIx (x y v : D) (h : Hm) : R Unit := match x with
  | .ref i => match h[i]? with
    | some (.dct t kvs) => mSetD i t kvs y v h
    | _ => mSetL x y v h
  | _ => .bad
def gSub (eo ei : ME) : MG := fun v ρ h => (eo ρ h).bind fun o h1 => (ei ρ h1).bind fun i h2 => (mSetIx o i v h2).bind fun _ h3 => .ok ρ h3
def truth (x : D) (h : Hm) : Option Bool := match x with
  | .dat .none => some false
  | .dat (.bool b) => some b
  | .dat (.int i) => some (i != 0)
  | .dat (.str s) => if szOk s.length then some ((s.length : Int) != 0) else Option.none
  | .dat (.tuple ds) => some !ds.isEmpty
  | .dat (.list ds) => some !ds.isEmpty
  | .ref i => match h[i]? with
    | some (.lst xs) => some !xs.isEmpty
    | _ => Option.none
  | _ => Option.none
def tTruth (e : ME) : MT := fun ρ h => (e ρ h).bind fun x h1 => match truth x h1 with
  | some b => .ok b h1
  | Option.none => .bad
end Ml
namespace Ml
open PySem
mutual
def sOk : PyData → Bool
  | .str x => PyData.strOk x
  | .list xs | .tuple xs => sOks xs
  | _ => true
def sOks : List PyData → Bool
  | [] => true
  | x :: xs => sOk x && sOks xs
end
mutual
theorem lay_of : ∀ {d : PyData}, sOk d = true → d.hasDict = false → d.canLay0 = true
  | .none, _, _ => by simp [PyData.canLay0]
  | .bool _, _, _ => by simp [PyData.canLay0]
  | .int _, _, _ => by simp [PyData.canLay0]
  | .str x, h, _ => by simp only [sOk] at h; simpa [PyData.canLay0] using h
  | .tuple ds, h, k => by simp only [sOk] at h; simp only [PyData.hasDict] at k; simp only [PyData.canLay0]; exact lays_of h k
  | .list ds, h, k => by simp only [sOk] at h; simp only [PyData.hasDict] at k; simp only [PyData.canLay0]; exact lays_of h k
  | .dict _, _, k => by simp [PyData.hasDict] at k
theorem lays_of : ∀ {ds : List PyData}, sOks ds = true → PyData.hasDictAll ds = false → PyData.canLayAll0 ds = true
  | [], _, _ => by simp [PyData.canLayAll0]
  | d :: ds, h, k => by
    simp only [sOks, Bool.and_eq_true] at h
    simp only [PyData.hasDictAll, Bool.or_eq_false_iff] at k
    simp only [PyData.canLayAll0, Bool.and_eq_true]
    exact ⟨lay_of h.1 k.1, lays_of h.2 k.2⟩
end
mutual
def isTree : PyData → Bool
  | .int _ | .str _ => true
  | .tuple ds => areTrees ds
  | _ => false
def areTrees : List PyData → Bool
  | [] => true
  | d :: ds => isTree d && areTrees ds
end
theorem areTrees_mem : ∀ {ds : List PyData} {d : PyData}, areTrees ds = true → d ∈ ds → isTree d = true
  | _ :: _, d, h, m => by
    simp only [areTrees, Bool.and_eq_true] at h
    rcases List.mem_cons.mp m with rfl | m
    · exact h.1
    · exact areTrees_mem h.2 m
theorem areTrees_of : ∀ {ds : List PyData}, (∀ d ∈ ds, isTree d = true) → areTrees ds = true
  | [], _ => by simp [areTrees]
  | d :: ds, h => by simp only [areTrees, Bool.and_eq_true]; exact ⟨h d (by simp), areTrees_of fun e m => h e (by simp [m])⟩
mutual
theorem eqv_tree : ∀ {d e : PyData}, isTree d = true → isTree e = true → (PyData.eqv d e = true ↔ d = e)
  | .int i, .int j, _, _ => by simp [PyData.eqv]
  | .str x, .str y, _, _ => by simp [PyData.eqv]
  | .tuple xs, .tuple ys, h, k => by
    simp only [isTree] at h k
    simp only [PyData.eqv, PyData.tuple.injEq]
    exact eqvs_tree h k
  | .int _, .str _, _, _ => by simp [PyData.eqv]
  | .int _, .tuple _, _, _ => by simp [PyData.eqv]
  | .str _, .int _, _, _ => by simp [PyData.eqv]
  | .str _, .tuple _, _, _ => by simp [PyData.eqv]
  | .tuple _, .int _, _, _ => by simp [PyData.eqv]
  | .tuple _, .str _, _, _ => by simp [PyData.eqv]
  | .none, _, h, _ => by simp [isTree] at h
  | .bool _, _, h, _ => by simp [isTree] at h
  | .list _, _, h, _ => by simp [isTree] at h
  | .dict _, _, h, _ => by simp [isTree] at h
  | .int _, .none, _, h => by simp [isTree] at h
  | .int _, .bool _, _, h => by simp [isTree] at h
  | .int _, .list _, _, h => by simp [isTree] at h
  | .int _, .dict _, _, h => by simp [isTree] at h
  | .str _, .none, _, h => by simp [isTree] at h
  | .str _, .bool _, _, h => by simp [isTree] at h
  | .str _, .list _, _, h => by simp [isTree] at h
  | .str _, .dict _, _, h => by simp [isTree] at h
  | .tuple _, .none, _, h => by simp [isTree] at h
  | .tuple _, .bool _, _, h => by simp [isTree] at h
  | .tuple _, .list _, _, h => by simp [isTree] at h
  | .tuple _, .dict _, _, h => by simp [isTree] at h
theorem eqvs_tree : ∀ {xs ys : List PyData}, areTrees xs = true → areTrees ys = true → (PyData.eqvAll xs ys = true ↔ xs = ys)
  | [], [], _, _ => by simp [PyData.eqvAll]
  | [], _ :: _, _, _ => by simp [PyData.eqvAll]
  | _ :: _, [], _, _ => by simp [PyData.eqvAll]
  | x :: xs, y :: ys, h, k => by
    simp only [areTrees, Bool.and_eq_true] at h k
    simp only [PyData.eqvAll, Bool.and_eq_true, List.cons.injEq]
    rw [eqv_tree h.1 k.1, eqvs_tree h.2 k.2]
end
mutual
theorem tree_noDict : ∀ {d : PyData}, isTree d = true → d.hasDict = false
  | .int _, _ => rfl
  | .str _, _ => rfl
  | .tuple ds, h => by simp only [isTree] at h; simp only [PyData.hasDict]; exact trees_noDict h
  | .none, h => by simp [isTree] at h
  | .bool _, h => by simp [isTree] at h
  | .list _, h => by simp [isTree] at h
  | .dict _, h => by simp [isTree] at h
theorem trees_noDict : ∀ {ds : List PyData}, areTrees ds = true → PyData.hasDictAll ds = false
  | [], _ => rfl
  | d :: ds, h => by
    simp only [areTrees, Bool.and_eq_true] at h
    simp only [PyData.hasDictAll, Bool.or_eq_false_iff]
    exact ⟨tree_noDict h.1, trees_noDict h.2⟩
end
theorem eqv_tree_self {d : PyData} (h : isTree d = true) : PyData.eqv d d = true := (eqv_tree h h).mpr rfl
theorem eqv_tree_ne {d e : PyData} (h : isTree d = true) (k : isTree e = true) (ne : d ≠ e) : PyData.eqv d e = false := by
  cases q : PyData.eqv d e with
  | false => rfl
  | true => exact absurd ((eqv_tree h k).mp q) ne
theorem strx {x y : Str} (h : x.cps.toList = y.cps.toList) : x = y := by
  obtain ⟨⟨a⟩⟩ := x
  obtain ⟨⟨b⟩⟩ := y
  simp at h
  subst h
  rfl
theorem ltS_irr (x : Str) : ltS x x = false := decide_eq_false (List.lt_irrefl _)
theorem ltS_tr {x y z : Str} (h : ltS x y = true) (h' : ltS y z = true) : ltS x z = true := decide_eq_true (List.lt_trans (of_decide_eq_true h) (of_decide_eq_true h'))
theorem ltS_as {x y : Str} (h : ltS x y = true) : ltS y x = false := decide_eq_false fun z => List.lt_irrefl _ (List.lt_trans (of_decide_eq_true h) z)
theorem ltS_tot {x y : Str} (h : ltS x y = false) (h' : ltS y x = false) : x = y :=
  strx (List.le_antisymm (List.not_lt.mp (of_decide_eq_false h')) (List.not_lt.mp (of_decide_eq_false h)))
mutual
theorem ltP_as : ∀ {d e : PyData}, isTree d = true → isTree e = true → ltP d e = some true → ltP e d = some false
  | .int i, .int j, _, _, h => by simp [ltP] at h ⊢; omega
  | .str x, .str y, _, _, h => by simp only [ltP, Option.some.injEq] at h ⊢; exact ltS_as h
  | .tuple xs, .tuple ys, h, k, q => by simp only [isTree] at h k; simp only [ltP] at q ⊢; exact ltPs_as h k q
  | .int _, .str _, _, _, h => by simp [ltP] at h
  | .int _, .tuple _, _, _, h => by simp [ltP] at h
  | .str _, .int _, _, _, h => by simp [ltP] at h
  | .str _, .tuple _, _, _, h => by simp [ltP] at h
  | .tuple _, .int _, _, _, h => by simp [ltP] at h
  | .tuple _, .str _, _, _, h => by simp [ltP] at h
  | .none, _, h, _, _ => by simp [isTree] at h
  | .bool _, _, h, _, _ => by simp [isTree] at h
  | .list _, _, h, _, _ => by simp [isTree] at h
  | .dict _, _, h, _, _ => by simp [isTree] at h
  | _, .none, _, h, _ => by simp [isTree] at h
  | _, .bool _, _, h, _ => by simp [isTree] at h
  | _, .list _, _, h, _ => by simp [isTree] at h
  | _, .dict _, _, h, _ => by simp [isTree] at h
theorem ltPs_as : ∀ {xs ys : List PyData}, areTrees xs = true → areTrees ys = true → ltPs xs ys = some true → ltPs ys xs = some false
  | [], [], _, _, h => by simp [ltPs] at h
  | [], _ :: _, _, _, _ => by simp [ltPs]
  | _ :: _, [], _, _, h => by simp [ltPs] at h
  | x :: xs, y :: ys, h, k, q => by
    simp only [areTrees, Bool.and_eq_true] at h k
    simp only [ltPs] at q ⊢
    by_cases e : x = y
    · subst e
      rw [eqv_tree_self h.1, if_pos rfl] at q ⊢
      exact ltPs_as h.2 k.2 q
    · rw [eqv_tree_ne h.1 k.1 e, if_neg (by simp)] at q
      rw [eqv_tree_ne k.1 h.1 (fun z => e z.symm), if_neg (by simp)]
      exact ltP_as h.1 k.1 q
end
mutual
theorem ltP_tot : ∀ {d e : PyData}, isTree d = true → isTree e = true → ltP d e = some false → ltP e d = some false → d = e
  | .int i, .int j, _, _, h, h' => by simp [ltP] at h h'; congr 1; omega
  | .str x, .str y, _, _, h, h' => by simp only [ltP, Option.some.injEq] at h h'; rw [ltS_tot h h']
  | .tuple xs, .tuple ys, h, k, q, q' => by simp only [isTree] at h k; simp only [ltP] at q q'; rw [ltPs_tot h k q q']
  | .int _, .str _, _, _, h, _ => by simp [ltP] at h
  | .int _, .tuple _, _, _, h, _ => by simp [ltP] at h
  | .str _, .int _, _, _, h, _ => by simp [ltP] at h
  | .str _, .tuple _, _, _, h, _ => by simp [ltP] at h
  | .tuple _, .int _, _, _, h, _ => by simp [ltP] at h
  | .tuple _, .str _, _, _, h, _ => by simp [ltP] at h
  | .none, _, h, _, _, _ => by simp [isTree] at h
  | .bool _, _, h, _, _, _ => by simp [isTree] at h
  | .list _, _, h, _, _, _ => by simp [isTree] at h
  | .dict _, _, h, _, _, _ => by simp [isTree] at h
  | _, .none, _, h, _, _ => by simp [isTree] at h
  | _, .bool _, _, h, _, _ => by simp [isTree] at h
  | _, .list _, _, h, _, _ => by simp [isTree] at h
  | _, .dict _, _, h, _, _ => by simp [isTree] at h
theorem ltPs_tot : ∀ {xs ys : List PyData}, areTrees xs = true → areTrees ys = true → ltPs xs ys = some false → ltPs ys xs = some false → xs = ys
  | [], [], _, _, _, _ => rfl
  | [], _ :: _, _, _, h, _ => by simp [ltPs] at h
  | _ :: _, [], _, _, _, h => by simp [ltPs] at h
  | x :: xs, y :: ys, h, k, q, q' => by
    simp only [areTrees, Bool.and_eq_true] at h k
    simp only [ltPs] at q q'
    by_cases e : x = y
    · subst e
      rw [eqv_tree_self h.1, if_pos rfl] at q q'
      rw [ltPs_tot h.2 k.2 q q']
    · rw [eqv_tree_ne h.1 k.1 e, if_neg (by simp)] at q
      rw [eqv_tree_ne k.1 h.1 (fun z => e z.symm), if_neg (by simp)] at q'
      exact absurd (ltP_tot h.1 k.1 q q') e
end
mutual
theorem ltP_irr : ∀ {d : PyData}, isTree d = true → ltP d d = some false
  | .int i, _ => by simp [ltP]
  | .str x, _ => by simp [ltP, ltS_irr]
  | .tuple xs, h => by simp only [isTree] at h; simp only [ltP]; exact ltPs_irr h
  | .none, h => by simp [isTree] at h
  | .bool _, h => by simp [isTree] at h
  | .list _, h => by simp [isTree] at h
  | .dict _, h => by simp [isTree] at h
theorem ltPs_irr : ∀ {xs : List PyData}, areTrees xs = true → ltPs xs xs = some false
  | [], _ => by simp [ltPs]
  | x :: xs, h => by
    simp only [areTrees, Bool.and_eq_true] at h
    simp only [ltPs]
    rw [eqv_tree_self h.1, if_pos rfl]
    exact ltPs_irr h.2
end
mutual
theorem ltP_tr : ∀ {d e f : PyData}, isTree d = true → isTree e = true → isTree f = true → ltP d e = some true → ltP e f = some true → ltP d f = some true
  | .int i, .int j, .int k, _, _, _, h, h' => by simp [ltP] at h h' ⊢; omega
  | .str x, .str y, .str z, _, _, _, h, h' => by simp only [ltP, Option.some.injEq] at h h' ⊢; exact ltS_tr h h'
  | .tuple xs, .tuple ys, .tuple zs, h, k, l, q, q' => by simp only [isTree] at h k l; simp only [ltP] at q q' ⊢; exact ltPs_tr h k l q q'
  | .none, _, _, h, _, _, _, _ => by simp [isTree] at h
  | .bool _, _, _, h, _, _, _, _ => by simp [isTree] at h
  | .list _, _, _, h, _, _, _, _ => by simp [isTree] at h
  | .dict _, _, _, h, _, _, _, _ => by simp [isTree] at h
  | .int _, .none, _, _, _, _, h, _ => by simp [ltP] at h
  | .int _, .bool _, _, _, _, _, h, _ => by simp [ltP] at h
  | .int _, .str _, _, _, _, _, h, _ => by simp [ltP] at h
  | .int _, .list _, _, _, _, _, h, _ => by simp [ltP] at h
  | .int _, .tuple _, _, _, _, _, h, _ => by simp [ltP] at h
  | .int _, .dict _, _, _, _, _, h, _ => by simp [ltP] at h
  | .str _, .none, _, _, _, _, h, _ => by simp [ltP] at h
  | .str _, .bool _, _, _, _, _, h, _ => by simp [ltP] at h
  | .str _, .int _, _, _, _, _, h, _ => by simp [ltP] at h
  | .str _, .list _, _, _, _, _, h, _ => by simp [ltP] at h
  | .str _, .tuple _, _, _, _, _, h, _ => by simp [ltP] at h
  | .str _, .dict _, _, _, _, _, h, _ => by simp [ltP] at h
  | .tuple _, .none, _, _, _, _, h, _ => by simp [ltP] at h
  | .tuple _, .bool _, _, _, _, _, h, _ => by simp [ltP] at h
  | .tuple _, .int _, _, _, _, _, h, _ => by simp [ltP] at h
  | .tuple _, .list _, _, _, _, _, h, _ => by simp [ltP] at h
  | .tuple _, .str _, _, _, _, _, h, _ => by simp [ltP] at h
  | .tuple _, .dict _, _, _, _, _, h, _ => by simp [ltP] at h
  | .int _, .int _, .none, _, _, _, _, h => by simp [ltP] at h
  | .int _, .int _, .bool _, _, _, _, _, h => by simp [ltP] at h
  | .int _, .int _, .str _, _, _, _, _, h => by simp [ltP] at h
  | .int _, .int _, .list _, _, _, _, _, h => by simp [ltP] at h
  | .int _, .int _, .tuple _, _, _, _, _, h => by simp [ltP] at h
  | .int _, .int _, .dict _, _, _, _, _, h => by simp [ltP] at h
  | .str _, .str _, .none, _, _, _, _, h => by simp [ltP] at h
  | .str _, .str _, .bool _, _, _, _, _, h => by simp [ltP] at h
  | .str _, .str _, .int _, _, _, _, _, h => by simp [ltP] at h
  | .str _, .str _, .list _, _, _, _, _, h => by simp [ltP] at h
  | .str _, .str _, .tuple _, _, _, _, _, h => by simp [ltP] at h
  | .str _, .str _, .dict _, _, _, _, _, h => by simp [ltP] at h
  | .tuple _, .tuple _, .none, _, _, _, _, h => by simp [ltP] at h
  | .tuple _, .tuple _, .bool _, _, _, _, _, h => by simp [ltP] at h
  | .tuple _, .tuple _, .int _, _, _, _, _, h => by simp [ltP] at h
  | .tuple _, .tuple _, .list _, _, _, _, _, h => by simp [ltP] at h
  | .tuple _, .tuple _, .str _, _, _, _, _, h => by simp [ltP] at h
  | .tuple _, .tuple _, .dict _, _, _, _, _, h => by simp [ltP] at h
theorem ltPs_tr : ∀ {xs ys zs : List PyData}, areTrees xs = true → areTrees ys = true → areTrees zs = true → ltPs xs ys = some true → ltPs ys zs = some true → ltPs xs zs = some true
  | [], [], _, _, _, _, h, _ => by simp [ltPs] at h
  | [], _ :: _, [], _, _, _, _, h => by simp [ltPs] at h
  | [], _ :: _, _ :: _, _, _, _, _, _ => by simp [ltPs]
  | _ :: _, [], _, _, _, _, h, _ => by simp [ltPs] at h
  | _ :: _, _ :: _, [], _, _, _, _, h => by simp [ltPs] at h
  | x :: xs, y :: ys, z :: zs, h, k, l, q, q' => by
    simp only [areTrees, Bool.and_eq_true] at h k l
    simp only [ltPs] at q q' ⊢
    by_cases e1 : x = y
    · subst e1
      rw [eqv_tree_self h.1, if_pos rfl] at q
      by_cases e2 : x = z
      · subst e2
        rw [eqv_tree_self h.1, if_pos rfl] at q' ⊢
        exact ltPs_tr h.2 k.2 l.2 q q'
      · rw [eqv_tree_ne h.1 l.1 e2, if_neg (by simp)] at q' ⊢
        exact q'
    · rw [eqv_tree_ne h.1 k.1 e1, if_neg (by simp)] at q
      by_cases e2 : y = z
      · subst e2
        rw [eqv_tree_ne h.1 k.1 e1, if_neg (by simp)]
        exact q
      · rw [eqv_tree_ne k.1 l.1 e2, if_neg (by simp)] at q'
        have q3 := ltP_tr h.1 k.1 l.1 q q'
        by_cases e3 : x = z
        · subst e3
          rw [ltP_irr h.1] at q3
          cases q3
        · rw [eqv_tree_ne h.1 l.1 e3, if_neg (by simp)]
          exact q3
end
def cmpAll (ds : List PyData) : Bool := ds.all fun a => ds.all fun b => (ltP a b).isSome
theorem cmpAll_get {ds : List PyData} (h : cmpAll ds = true) {a b : PyData} (ha : a ∈ ds) (hb : b ∈ ds) : ltP a b = some (ltB a b) := by
  have := List.all_eq_true.mp (List.all_eq_true.mp h a ha) b hb
  unfold ltB
  cases q : ltP a b with
  | none => rw [q] at this; cases this
  | some k => rfl
def isTupT : PyData → Bool | .tuple _ => true | _ => false
def isStrT : PyData → Bool | .str _ => true | _ => false
def sortOk (ds : List PyData) : Bool := (ds.all isStrT || ds.all isTupT) && areTrees ds && cmpAll ds && decide (PyData.depthAll ds ≤ 20) && decide (ds.length < 64)
def bSorted : Fn := fun xs h => match xs with
  | [x] => match listOf x h with
    | some ds => if sortOk ds then .ok (.dat (.list (sortP ltB ds))) h else .bad
    | Option.none => .bad
  | _ => .bad
theorem ltB_as {ds : List PyData} (c : cmpAll ds = true) (t : areTrees ds = true) {a b : PyData} (ha : a ∈ ds) (hb : b ∈ ds) (h : ltB a b = true) : ltB b a = false := by
  have h1 := cmpAll_get c ha hb
  rw [h] at h1
  unfold ltB
  rw [ltP_as (areTrees_mem t ha) (areTrees_mem t hb) h1]
  rfl
theorem ltB_tri {ds : List PyData} (c : cmpAll ds = true) (t : areTrees ds = true) {a b : PyData} (ha : a ∈ ds) (hb : b ∈ ds) (h : ltB b a = false) : ltB a b = true ∨ a = b := by
  cases q : ltB a b with
  | true => exact .inl rfl
  | false =>
    have h1 := cmpAll_get c ha hb
    have h2 := cmpAll_get c hb ha
    rw [q] at h1
    rw [h] at h2
    exact .inr (ltP_tot (areTrees_mem t ha) (areTrees_mem t hb) h1 h2)
theorem ltB_ntr {ds : List PyData} (c : cmpAll ds = true) (t : areTrees ds = true) {a b d : PyData} (ha : a ∈ ds) (hb : b ∈ ds) (hd : d ∈ ds) (h : ltB b a = false) (h' : ltB d b = false) : ltB d a = false := by
  rcases ltB_tri c t ha hb h with h1 | rfl
  · rcases ltB_tri c t hb hd h' with h2 | rfl
    · have q1 := cmpAll_get c ha hb
      have q2 := cmpAll_get c hb hd
      rw [h1] at q1
      rw [h2] at q2
      have q3 := ltP_tr (areTrees_mem t ha) (areTrees_mem t hb) (areTrees_mem t hd) q1 q2
      exact ltB_as c t ha hd (by unfold ltB; rw [q3]; rfl)
    · exact ltB_as c t ha hb h1
  · exact h'
end Ml
namespace Ml
open PySem
theorem insP_perm (lt : PyData → PyData → Bool) (x : PyData) : ∀ ys : List PyData, (insP lt x ys).Perm (x :: ys)
  | [] => .refl _
  | y :: ys => by
    unfold insP
    split
    · exact ((insP_perm lt x ys).cons y).trans (.swap x y ys)
    · exact .refl _
theorem sortP_perm (lt : PyData → PyData → Bool) : ∀ xs : List PyData, (sortP lt xs).Perm xs
  | [] => .refl _
  | x :: xs => (insP_perm lt x _).trans ((sortP_perm lt xs).cons x)
def Up (lt : PyData → PyData → Bool) (xs : List PyData) : Prop := xs.Pairwise fun a b => lt b a = false
structure Ord (lt : PyData → PyData → Bool) (ds : List PyData) : Prop where
  as : ∀ {a b}, a ∈ ds → b ∈ ds → lt a b = true → lt b a = false
  ntr : ∀ {a b d}, a ∈ ds → b ∈ ds → d ∈ ds → lt b a = false → lt d b = false → lt d a = false
  tot : ∀ {a b}, a ∈ ds → b ∈ ds → lt a b = false → lt b a = false → a = b
theorem Ord.sub {lt : PyData → PyData → Bool} {ds es : List PyData} (o : Ord lt ds) (h : ∀ e ∈ es, e ∈ ds) : Ord lt es :=
  ⟨fun a b => o.as (h _ a) (h _ b), fun a b d => o.ntr (h _ a) (h _ b) (h _ d), fun a b => o.tot (h _ a) (h _ b)⟩
theorem insP_up {lt : PyData → PyData → Bool} {x : PyData} : ∀ {ys : List PyData}, Ord lt (x :: ys) → Up lt ys → Up lt (insP lt x ys)
  | [], _, _ => by simp [insP, Up]
  | y :: ys, o, u => by
    unfold insP
    unfold Up at u
    rw [List.pairwise_cons] at u
    split
    · rename_i h
      refine List.pairwise_cons.mpr ⟨fun b hb => ?_, insP_up (o.sub fun e m => by simp at m ⊢; rcases m with rfl | m <;> simp [*]) u.2⟩
      rcases List.mem_cons.mp ((insP_perm lt x ys).mem_iff.mp hb) with rfl | hb
      · exact o.as (by simp) (by simp) h
      · exact u.1 b hb
    · rename_i h
      have h' : lt y x = false := by simpa using h
      refine List.pairwise_cons.mpr ⟨fun b hb => ?_, List.pairwise_cons.mpr u⟩
      rcases List.mem_cons.mp hb with rfl | hb
      · exact h'
      · exact o.ntr (by simp) (by simp) (by simp [hb]) h' (u.1 b hb)
theorem sortP_up {lt : PyData → PyData → Bool} : ∀ {xs : List PyData}, Ord lt xs → Up lt (sortP lt xs)
  | [], _ => by simp [sortP, Up]
  | x :: xs, o => insP_up (o.sub fun e m => by
      rcases List.mem_cons.mp m with rfl | m
      · simp
      · simp [(sortP_perm lt xs).mem_iff.mp m]) (sortP_up (o.sub fun e m => by simp [m]))
theorem up_unique {lt : PyData → PyData → Bool} : ∀ {xs ys : List PyData}, Ord lt xs → xs.Perm ys → Up lt xs → Up lt ys → xs = ys
  | [], ys, _, p, _, _ => by rw [List.nil_perm.mp p]
  | x :: xs, ys, o, p, u, v => by
    cases ys with
    | nil => exact absurd p (by simp)
    | cons y ys =>
      have hx : x ∈ y :: ys := p.mem_iff.mp (by simp)
      have hy : y ∈ x :: xs := p.mem_iff.mpr (by simp)
      have e : x = y := by
        rcases List.mem_cons.mp hx with e | hx
        · exact e
        rcases List.mem_cons.mp hy with e | hy
        · exact e.symm
        exact o.tot (by simp) (by simp [hy]) ((List.pairwise_cons.mp v).1 x hx) ((List.pairwise_cons.mp u).1 y hy)
      subst e
      rw [up_unique (o.sub fun e m => by simp [m]) (List.perm_cons x |>.mp p) (List.pairwise_cons.mp u).2 (List.pairwise_cons.mp v).2]
theorem ord_trees {ds : List PyData} (c : cmpAll ds = true) (t : areTrees ds = true) : Ord ltB ds where
  as := fun a b => ltB_as c t a b
  ntr := fun a b d => ltB_ntr c t a b d
  tot := fun {a b} ha hb h h' => by
    rcases ltB_tri c t ha hb h' with q | q
    · rw [q] at h; cases h
    · exact q
theorem sortP_eq {ds es : List PyData} (c : cmpAll ds = true) (t : areTrees ds = true) (p : es.Perm ds) (u : Up ltB es) : es = sortP ltB ds :=
  up_unique ((ord_trees c t).sub fun e m => p.mem_iff.mp m) (p.trans (sortP_perm ltB ds).symm) u (sortP_up (ord_trees c t))
end Ml
namespace Ml
open PySem PySem.Spec L2
open Sem (wp)
mutual
theorem stree_tree : ∀ {d : PyData}, isSTree d = true → isTree d = true
  | .str _, _ => by simp [isTree]
  | .tuple ds, h => by simp only [isSTree] at h; simp only [isTree]; exact strees_trees h
  | .none, h => by simp [isSTree] at h
  | .bool _, h => by simp [isSTree] at h
  | .int _, h => by simp [isSTree] at h
  | .list _, h => by simp [isSTree] at h
  | .dict _, h => by simp [isSTree] at h
theorem strees_trees : ∀ {ds : List PyData}, areSTrees ds = true → areTrees ds = true
  | [], _ => by simp [areTrees]
  | d :: ds, h => by simp only [areSTrees, Bool.and_eq_true] at h; simp only [areTrees, Bool.and_eq_true]; exact ⟨stree_tree h.1, strees_trees h.2⟩
end
mutual
def hashT (w : World) : PyData → Int
  | .str x => hashStr w x
  | .tuple ds => reduceHash (Builtin.Tuple.tupleHashOf (hashTs w ds))
  | _ => 0
def hashTs (w : World) : List PyData → List Int
  | [] => []
  | d :: ds => hashT w d :: hashTs w ds
end
mutual
def drawsT : PyData → Nat
  | .str _ => 1
  | .tuple ds => drawsTs ds + 1
  | _ => 0
def drawsTs : List PyData → Nat
  | [] => 0
  | d :: ds => drawsT d + drawsTs ds
end
mutual
theorem reads_tup {h h' : Heap} (k : ∀ b o vs n, h.get? b = some o → o.cls = .type "tuple" → o.data = .seq vs n → h'.get? b = some o) : ∀ {d : PyData} {v : Value} {as : List Addr}, isSTree d = true → Reads h v d as → Reads h' v d as
  | .str _, _, _, _, .str x t => .str x t
  | .tuple ds, _, _, t, .tuple h1 h2 h3 h4 => by simp only [isSTree] at t; exact .tuple (k _ _ _ _ h1 h2 h3) h2 h3 (readsAll_tup k t h4)
  | .none, _, _, t, _ => by simp [isSTree] at t
  | .bool _, _, _, t, _ => by simp [isSTree] at t
  | .int _, _, _, t, _ => by simp [isSTree] at t
  | .list _, _, _, t, _ => by simp [isSTree] at t
  | .dict _, _, _, t, _ => by simp [isSTree] at t
theorem readsAll_tup {h h' : Heap} (k : ∀ b o vs n, h.get? b = some o → o.cls = .type "tuple" → o.data = .seq vs n → h'.get? b = some o) : ∀ {ds : List PyData} {vs : List Value} {as : List Addr}, areSTrees ds = true → ReadsAll h vs ds as → ReadsAll h' vs ds as
  | [], _, _, _, .nil => .nil
  | d :: ds, _, _, t, .cons r1 r2 => by simp only [areSTrees, Bool.and_eq_true] at t; exact .cons (reads_tup k t.1 r1) (readsAll_tup k t.2 r2)
end
section
variable {P : Program} {w : World}
mutual
theorem hash_reads : ∀ (d : PyData) (A : Around) (s : Shared) (v : Value) (as : List Addr) (Q : Int → Shared → Prop) (E : Value → Shared → Prop), isSTree d = true → Reads s.heap v d as → A.units + d.depth < cLine → Q (hashT w d) { s with toks := s.toks + drawsT d } → wpAny (model P w) A (pyHash v) Q E s
  | .str x, A, s, v, as, Q, E, _, r, hu, h => by
    cases r
    simp only [hashT, drawsT] at h
    exact wpAny_pyHash_str h
  | .tuple ds, A, s, v, as, Q, E, t, r, hu, h => by
    cases r with
    | tuple ho hc hd hi =>
      rename_i a o items n
      have hT : s.TypeIs (.ref a) "tuple" := ⟨o, ho, hc⟩
      simp only [isSTree] at t
      simp only [PyData.depth] at hu
      simp only [hashT, drawsT] at h
      unfold pyHash
      first | unfold pyHashByItsType | skip
      first | refine wpAny_bind (wpAny_cRoomFor_or (.inr (by omega)) ?_) | skip
      refine wpAny_bind (wpAny_specialOf hT F.slot_tuple_hash.lookup ?_)
      show wpAny _ _ (if (some (Value.builtin "tuple.__hash__") == some Value.none) = true then _ else _) Q E s
      rw [if_neg (by rw [beq_builtin_none]; exact Bool.false_ne_true)]
      refine wpAny_bind (wpAny_specialOf hT F.slot_tuple_hash.lookup ?_)
      show wpAny _ _ (callSpecialIfBoundUnlessNone? (.ref a) "__hash__" _ >>= _) Q E s
      refine wpAny_bind (wpAny_callSpecialIfBoundUnlessNone?_slot hT F.slot_tuple_hash (wpAny_call_entry F.slot_tuple_hash hT F.entry_tuple_hash ?_ (F.args_tuple_hash_1 _)))
      show wpAny _ _ (Builtin.Tuple.tupleItemsOf (.ref a) >>= _) _ _ s
      refine wpAny_bind (wpAny_tupleItemsOf ho hd ?_)
      refine wpAny_bind ?_
      rw [← Array.forIn_toList]
      refine hashes_reads ds A.in1 s items.toList _ #[] _ _ _ t hi (by show A.units + 1 + _ < _; omega) ?_ ?_
      · intro x b s' R k
        first
          | exact wpAny_bind (wpAny_mono k (fun c s2 q => wpAny_pure q) fun _ _ z => z)
          | exact wpAny_bind (wpAny_mono k (fun c s2 q => wpAny_bind (wpAny_pure (wpAny_pure q))) fun _ _ z => z)
      · show wpAny _ _ (retInt (Builtin.Tuple.tupleHashOf (#[] ++ (hashTs w ds).toArray).toList)) _ _ _
        have e1 : (#[] ++ (hashTs w ds).toArray).toList = hashTs w ds := by simp
        rw [e1]
        refine wpAny_ret_mkInt ?_
        show wpAny _ _ (if (decide (-(2 : Int) ^ 63 ≤ Builtin.Tuple.tupleHashOf (hashTs w ds)) && decide (Builtin.Tuple.tupleHashOf (hashTs w ds) < 2 ^ 63)) = true then _ else _) Q E _
        unfold reduceHash at h
        by_cases hr : (decide (-(2 : Int) ^ 63 ≤ Builtin.Tuple.tupleHashOf (hashTs w ds)) && decide (Builtin.Tuple.tupleHashOf (hashTs w ds) < 2 ^ 63)) = true
        · rw [if_pos hr]
          rw [if_pos hr] at h
          exact wpAny_pure (by simpa [Nat.add_assoc] using h)
        · rw [if_neg hr]
          rw [if_neg hr] at h
          exact wpAny_bind (wpAny_rule (wpAny_pure (by simpa [Nat.add_assoc] using h)))
  | .none, _, _, _, _, _, _, t, _, _, _ => by simp [isSTree] at t
  | .bool _, _, _, _, _, _, _, t, _, _, _ => by simp [isSTree] at t
  | .int _, _, _, _, _, _, _, t, _, _, _ => by simp [isSTree] at t
  | .list _, _, _, _, _, _, _, t, _, _, _ => by simp [isSTree] at t
  | .dict _, _, _, _, _, _, _, t, _, _, _ => by simp [isSTree] at t
theorem hashes_reads : ∀ (ds : List PyData) (A : Around) (s : Shared) (vs : List Value) (as : List Addr) (acc : Array Int) (R : Array Int → Shared → Prop) (E' : Value → Shared → Prop) (body : Value → Array Int → Sem (ForInStep (Array Int))), areSTrees ds = true → ReadsAll s.heap vs ds as → A.units + PyData.depthAll ds < cLine →
    (∀ (x : Value) (b : Array Int) (s' : Shared) (R' : ForInStep (Array Int) → Shared → Prop), wpAny (model P w) A (pyHash x) (fun c s2 => R' (.yield (b.push c)) s2) E' s' → wpAny (model P w) A (body x b) R' E' s') →
    R (acc ++ (hashTs w ds).toArray) { s with toks := s.toks + drawsTs ds } → wpAny (model P w) A (forIn vs acc body) R E' s
  | [], A, s, _, _, acc, R, E', body, _, .nil, _, hb, h => by
    rw [List.forIn_nil]
    simp only [hashTs, drawsTs] at h
    exact wpAny_pure (by simpa using h)
  | d :: ds, A, s, _, _, acc, R, E', body, t, .cons r1 r2, hu, hb, h => by
    simp only [areSTrees, Bool.and_eq_true] at t
    simp only [PyData.depthAll] at hu
    rw [List.forIn_cons]
    refine wpAny_bind (hb _ _ _ _ ?_)
    refine hash_reads d A s _ _ _ E' t.1 r1 (by omega) ?_
    refine hashes_reads ds A _ _ _ (acc.push (hashT w d)) R E' body t.2 r2 (by omega) hb ?_
    simp only [hashTs, drawsTs] at h
    simpa [Nat.add_assoc] using h
end
mutual
theorem quiet_reads : ∀ (d : PyData) (n : Nat) (A : Around) (s : Shared) (v : Value) (as : List Addr) (Q : Bool → Shared → Prop) (E : Value → Shared → Prop), isSTree d = true → d.depth ≤ n → Reads s.heap v d as → Q true s → wpAny (model P w) A (eqIsQuiet n v) Q E s
  | .str x, n, A, s, v, as, Q, E, _, _, r, h => by
    cases r
    rw [eqIsQuiet_byValue n rfl]
    exact wpAny_pure h
  | .tuple ds, n, A, s, v, as, Q, E, t, hn, r, h => by
    cases r with
    | tuple ho hc hd hi =>
      rename_i a o items k
      have hT : s.TypeIs (.ref a) "tuple" := ⟨o, ho, hc⟩
      simp only [isSTree] at t
      simp only [PyData.depth] at hn
      obtain ⟨m, rfl⟩ : ∃ m, n = m + 1 := ⟨n - 1, by omega⟩
      unfold eqIsQuiet
      refine wpAny_bind (wpAny_specialOf hT F.slot_tuple_eq.lookup ?_)
      show wpAny _ _ (isInstance (.ref a) (.type "tuple") >>= _) _ _ s
      refine wpAny_bind (wpAny_isInstance hT isSubtype_tuple_tuple ?_)
      simp only [Bool.not_true, Bool.false_eq_true, if_false]
      refine wpAny_bind (wpAny_seqItems ho hd ?_)
      refine wpAny_bind ?_
      show wpAny _ _ (forIn items _ _) _ _ s
      rw [← Array.forIn_toList]
      refine quiets_reads ds m A s items.toList _ _ E _ t (by omega) hi ?_ ?_
      · intro x s' R k
        refine wpAny_bind (wpAny_mono k (fun c s2 q => ?_) fun _ _ z => z)
        obtain ⟨rfl, q⟩ := q
        simp only [Bool.not_true, Bool.false_eq_true, if_false]
        exact wpAny_pure q
      · exact wpAny_pure h
  | .none, _, _, _, _, _, _, _, t, _, _, _ => by simp [isSTree] at t
  | .bool _, _, _, _, _, _, _, _, t, _, _, _ => by simp [isSTree] at t
  | .int _, _, _, _, _, _, _, _, t, _, _, _ => by simp [isSTree] at t
  | .list _, _, _, _, _, _, _, _, t, _, _, _ => by simp [isSTree] at t
  | .dict _, _, _, _, _, _, _, _, t, _, _, _ => by simp [isSTree] at t
theorem quiets_reads : ∀ (ds : List PyData) (n : Nat) (A : Around) (s : Shared) (vs : List Value) (as : List Addr) (R : Option Bool × Unit → Shared → Prop) (E : Value → Shared → Prop) (body : Value → Option Bool × Unit → Sem (ForInStep (Option Bool × Unit))), areSTrees ds = true → PyData.depthAll ds ≤ n → ReadsAll s.heap vs ds as →
    (∀ (x : Value) (s' : Shared) (R' : ForInStep (Option Bool × Unit) → Shared → Prop), wpAny (model P w) A (eqIsQuiet n x) (fun c s2 => c = true ∧ R' (.yield (none, ())) s2) E s' → wpAny (model P w) A (body x (none, ())) R' E s') →
    R (none, ()) s → wpAny (model P w) A (forIn vs (none, ()) body) R E s
  | [], n, A, s, _, _, R, E, body, _, _, .nil, hb, h => by
    rw [List.forIn_nil]
    exact wpAny_pure h
  | d :: ds, n, A, s, _, _, R, E, body, t, hn, .cons r1 r2, hb, h => by
    simp only [areSTrees, Bool.and_eq_true] at t
    simp only [PyData.depthAll] at hn
    rw [List.forIn_cons]
    refine wpAny_bind (hb _ _ _ (quiet_reads d n A s _ _ _ E t.1 (by omega) r1 ⟨rfl, ?_⟩))
    exact quiets_reads ds n A s _ _ R E body t.2 (by omega) r2 hb h
end
end
def IsTK (h : Heap) (d : PyData) (a : Addr) : Prop := isSTree d = true ∧ d.depth ≤ 8 ∧ sOk d = true ∧ ∃ as, Reads h (.ref a) d as
noncomputable instance decPy : DecidableEq PyData := fun a b => Classical.propDecidable (a = b)
noncomputable def treeKind (P : Program) (w : World) : HeapKind P w PyData where
  is := IsTK
  hash := hashT w
  draws := drawsT
  room := fun A => A.units + 20 < cLine
  inj := fun {h a x y} ⟨_, _, _, as, hx⟩ ⟨_, _, _, bs, hy⟩ => (PySem.Reads.unique hx _ _ hy).1
  keeps := fun {h h' k a d o es ep} ⟨t, dp, so, as, r⟩ ho hd hs => ⟨t, dp, so, as, reads_tup (fun b ob vs n e c dd => by
    have ne : b ≠ d := fun z => by
      subst z
      rw [ho] at e
      cases e
      rw [hd] at dd
      cases dd
    exact (hs.2 b ne).trans e) t r⟩
  pyHash := fun {A E s k a Q} hu ⟨t, dp, _, as, r⟩ h => hash_reads k A s _ as Q E t r (by omega) h
  eqBool := fun {A E s x y a b Q} hu ⟨t1, d1, s1, as, r1⟩ ⟨t2, d2, s2, bs, r2⟩ h => by
    have hq : PyData.eqv x y = decide (x = y) := by
      by_cases e : x = y
      · subst e; rw [decide_eq_true rfl]; exact eqv_tree_self (stree_tree t1)
      · rw [decide_eq_false e]; exact eqv_tree_ne (stree_tree t1) (stree_tree t2) e
    have := SeqAt.eqAt_reads x y A s _ _ _ _ r1 r2 (lay_of s1 (tree_noDict (stree_tree t1))) (lay_of s2 (tree_noDict (stree_tree t2))) (by omega) P w E Q
    rw [hq] at this
    exact this h
  quiet := fun {A E s k a Q} ⟨t, dp, _, as, r⟩ h => quiet_reads k 8 A s _ as Q E t dp r h
def dO (P : Program) (w : World) (xs : List (PyData × Addr × Value)) (a : Addr) : HO := .ext fun h => xs.length ≤ sizeLine ∧ (a == sysModules) = false ∧ ∃ o es ep, h.get? a = some o ∧ o.ExactDict ∧ o.data = .dict es ep ∧ es.toList = xs.map (entryOfKey (treeKind P w)) ∧ (xs.map (·.1)).Nodup
theorem dO_ok {P : Program} {w : World} {xs : List (PyData × Addr × Value)} {a : Addr} {H : Hp} {h : Heap} {o : Obj} {es : Array DictEntry} {ep : Nat} (h1 : xs.length ≤ sizeLine) (h2 : (a == sysModules) = false) (h3 : h.get? a = some o) (h4 : o.ExactDict) (h5 : o.data = .dict es ep) (h6 : es.toList = xs.map (entryOfKey (treeKind P w))) (h7 : (xs.map (·.1)).Nodup) : ObjOk P w H h a (dO P w xs a) :=
  ⟨⟨h1, h2, o, es, ep, h3, h4, h5, h6, h7⟩, ⟨o, h3⟩, fun g1 g2 ⟨k1, k2, o', es', ep', k3, k4⟩ hk => ⟨k1, k2, o', es', ep', hk _ k3, k4⟩⟩
end Ml
namespace Ml
open PySem PySem.Spec L2
def view (θ : List Addr) (H : Hp) : Hp := fun a => if a ∈ θ then none else H a
theorem view_get {θ : List Addr} {H : Hp} {a : Addr} {o : HO} (h : view θ H a = some o) : a ∉ θ ∧ H a = some o := by
  unfold view at h
  split at h
  · cases h
  · exact ⟨by assumption, h⟩
theorem view_of {θ : List Addr} {H : Hp} {a : Addr} (h : a ∉ θ) : view θ H a = H a := if_neg h
theorem view_same (θ : List Addr) (H : Hp) : Same (view θ H) H := fun a o h => (view_get h).2
def KRel (M : Hp) (p : PyData × PyData) (q : PyData × Addr × Value) : Prop := p.1 = q.1 ∧ isSTree p.1 = true ∧ p.1.depth ≤ 8 ∧ sOk p.1 = true ∧ Rep M p.1 (.ref q.2.1) ∧ ∃ v, RelV v q.2.2 ∧ Rep M p.2 v ∧ sOk p.2 = true
def DctAt (P : Program) (w : World) (M G : Hp) (a : Addr) (t : Bool) (kvs : List (PyData × PyData)) : Prop :=
  (t = false ∧ ∃ ks, G a = some (.dK ks) ∧ pairsD ks = some kvs ∧ ∀ p ∈ kvs, sOk p.1 = true ∧ sOk p.2 = true) ∨ (t = true ∧ ∃ xs, G a = some (dO P w xs a) ∧ Paired (KRel M) kvs xs)
structure Gx where
  P : Program
  w : World
  mg : Str → Option Value
  K : PySem.W.Frag
def scV : PyData → V
  | .int i => .int i
  | .str x => .str x
  | .bool b => .bl b
  | _ => .non
def KTup (K : PySem.W.Frag) (a : Addr) (xs : List PyData) : Prop := (∃ (o : Obj) (its : Array Value) (n : Nat), K.lookup a = some o ∧ o.cls = .type "tuple" ∧ o.data = .seq its n ∧ its.size ≤ sizeLine ∧ Vals (xs.map scV) its.toList) ∧ (∀ x ∈ xs, (match x with | .int _ | .str _ | .bool _ | .none => true | _ => false) = true) ∧ sOks xs = true
def XRep (G : Gx) (x : Xc) (cls : Value) (da : Option Addr) (M : Hp) : Prop := G.mg x.cls = some cls ∧ da = none ∧ x.args = []
def DRep (G : Gx) (θ : List Addr) (H : Hp) : D → V → Prop
  | .dat d, v => Rep (view θ H) d v ∧ sOk d = true
  | .ref i, v => ∃ a, θ[i]? = some a ∧ v = .ref a
  | .dct t kvs, v => ∃ a, v = .ref a ∧ DctAt G.P G.w (view θ H) (view θ H) a t kvs
  | .set _, _ => False
  | .fn n, v => ∃ f, G.mg n = some (.ref f) ∧ v = .ref f
  | .scr ns, v => ∃ a, v = .ref a ∧ SqL G.K (view θ H) a (ns.map V.int)
  | .ktup xs, v => ∃ a, v = .ref a ∧ KTup G.K a xs
  | .rpr x, v => v = .str x
  | .exc x, v => ∃ a cls, v = .ref a ∧ view θ H a = some (.ext (isClsAt a cls)) ∧ XRep G x cls none (view θ H)
abbrev DReps (G : Gx) (θ : List Addr) (H : Hp) : List D → List V → Prop := Paired (DRep G θ H)
def TabAt (θ : List Addr) (H : Hp) (P : Addr) (q : Str) : Prop := ∃ ps : Array Value, H P = some (.tbl ps) ∧ TriplesOk ps.toList ∧ ∀ (pos : Pos) (c : Value), codeAmong pos ps.toList = some c → ∃ b, c = .ref b ∧ b ≠ P ∧ view θ H b = some (.ext (recAt b q))
theorem TabAt.same {θ θ' : List Addr} {H H' : Hp} {P : Addr} {q : Str} (s : Same (view θ H) (view θ' H')) (e : ∀ o, H P = some o → H' P = some o) (x : TabAt θ H P q) : TabAt θ' H' P q := by
  obtain ⟨ps, h1, h2, h3⟩ := x
  exact ⟨ps, e _ h1, h2, fun pos c k => let ⟨b, k1, k2, k3⟩ := h3 pos c k; ⟨b, k1, k2, s _ _ k3⟩⟩
theorem TabAt.ok {θ : List Addr} {H : Hp} {P : Addr} {q : Str} (x : TabAt θ H P q) : TabOk H P q := by
  obtain ⟨ps, h1, h2, h3⟩ := x
  exact ⟨ps, h1, h2, fun pos c k => let ⟨b, k1, k2, k3⟩ := h3 pos c k; ⟨b, k1, k2, (view_get k3).2⟩⟩
def ORep (G : Gx) (θ : List Addr) (H : Hp) (a : Addr) : MO → Prop
  | .lst xs => ∃ vs, H a = some (.lst vs) ∧ DReps G θ H xs vs
  | .dct t kvs => DctAt G.P G.w (view θ H) H a t kvs
  | .ins _ _ => False
  | .tab P q => a = P ∧ TabAt θ H P q
structure W (G : Gx) (θ : List Addr) (h : Hm) (H : Hp) : Prop where
  len : θ.length = h.length
  nd : θ.Nodup
  obj : ∀ (i : Nat) (a : Addr) (o : MO), θ[i]? = some a → h[i]? = some o → ORep G θ H a o
def Fr (G : Gx) (θ : List Addr) (H : Hp) (ρ : Fm) (σ : St) : Prop := ρ.length = σ.length ∧ ∀ (i : Nat) (d : D), ρ[i]? = some (some d) → ∃ v, σ[i]? = some (some v) ∧ DRep G θ H d v
structure Ev (θ : List Addr) (H : Hp) (θ' : List Addr) (H' : Hp) : Prop where
  pre : ∃ ext, θ' = θ ++ ext
  same : Same (view θ H) (view θ' H')
section
variable {G : Gx} {θ θ' θ'' : List Addr} {H H' H'' : Hp} {h h' : Hm} {d : D} {v : V} {ρ : Fm} {σ : St}
theorem Ev.refl : Ev θ H θ H := ⟨⟨[], by simp⟩, Same.refl _⟩
theorem Ev.trans (a : Ev θ H θ' H') (b : Ev θ' H' θ'' H'') : Ev θ H θ'' H'' := by
  obtain ⟨e1, rfl⟩ := a.pre
  obtain ⟨e2, rfl⟩ := b.pre
  exact ⟨⟨e1 ++ e2, by simp⟩, a.same.trans b.same⟩
theorem Ev.get (a : Ev θ H θ' H') {i : Nat} {x : Addr} (e : θ[i]? = some x) : θ'[i]? = some x := by
  obtain ⟨ext, rfl⟩ := a.pre
  rw [List.getElem?_append_left (by have := List.getElem?_eq_some_iff.mp e; exact this.1)]
  exact e
theorem KRel.same {M M' : Hp} (s : Same M M') {p : PyData × PyData} {q : PyData × Addr × Value} (h : KRel M p q) : KRel M' p q := by
  obtain ⟨h1, h2, h3, h4, h5, v, h6, h7, h8⟩ := h
  exact ⟨h1, h2, h3, h4, h5.same s, v, h6, h7.same s, h8⟩
theorem DctAt.same {P : Program} {w : World} {M M' G G' : Hp} (s : Same M M') {a : Addr} {t : Bool} {kvs : List (PyData × PyData)} (h : DctAt P w M G a t kvs) (e : ∀ o, G a = some o → G' a = some o) : DctAt P w M' G' a t kvs := by
  rcases h with ⟨ht, ks, h1, h2⟩ | ⟨ht, xs, h1, h2⟩
  · exact .inl ⟨ht, ks, e _ h1, h2⟩
  · exact .inr ⟨ht, xs, e _ h1, Paired.mapP h2 fun _ _ => KRel.same s⟩
theorem DctAt.some {P : Program} {w : World} {M G : Hp} {a : Addr} {t : Bool} {kvs : List (PyData × PyData)} (h : DctAt P w M G a t kvs) : G a ≠ none := by
  rcases h with ⟨_, ks, h1, _⟩ | ⟨_, xs, h1, _⟩
  · rw [h1]; exact fun z => nomatch z
  · rw [h1]; exact fun z => nomatch z
theorem DRep.ev (e : Ev θ H θ' H') (r : DRep G θ H d v) : DRep G θ' H' d v := by
  cases d with
  | dat d => exact ⟨r.1.same e.same, r.2⟩
  | ref i => obtain ⟨a, h1, h2⟩ := r; exact ⟨a, e.get h1, h2⟩
  | dct t kvs => obtain ⟨a, h1, h2⟩ := r; exact ⟨a, h1, h2.same e.same fun o => e.same a o⟩
  | set xs => exact r
  | fn n => exact r
  | scr ns => obtain ⟨a, h1, h2⟩ := r; exact ⟨a, h1, e.same.seq h2⟩
  | ktup xs => exact r
  | rpr x => exact r
  | exc x => obtain ⟨a, c, h1, h2, h3⟩ := r; exact ⟨a, c, h1, e.same _ _ h2, h3⟩
theorem DReps.ev (e : Ev θ H θ' H') {ds : List D} {vs : List V} (r : DReps G θ H ds vs) : DReps G θ' H' ds vs := Paired.mapP r fun _ _ => DRep.ev e
theorem Fr.ev (e : Ev θ H θ' H') (r : Fr G θ H ρ σ) : Fr G θ' H' ρ σ := ⟨r.1, fun i d q => let ⟨v, h1, h2⟩ := r.2 i d q; ⟨v, h1, h2.ev e⟩⟩
theorem Fr.set {i : Nat} (r : Fr G θ H ρ σ) (q : DRep G θ H d v) : Fr G θ H (ρ.set i (some d)) (σ.set i (some v)) := by
  refine ⟨by simp [r.1], fun j e he => ?_⟩
  by_cases hj : i = j
  · subst hj
    by_cases hl : i < ρ.length
    · rw [List.getElem?_set_self hl] at he
      cases he
      exact ⟨v, by rw [List.getElem?_set_self (by rw [← r.1]; exact hl)], q⟩
    · rw [List.getElem?_eq_none (by simp; omega)] at he
      cases he
  · rw [List.getElem?_set_ne hj] at he ⊢
    exact r.2 j e he
theorem Fr.replicate (n : Nat) (r : Fr G θ H ρ σ) : Fr G θ H (List.replicate n none ++ ρ) (List.replicate n none ++ σ) := by
  refine ⟨by simp [r.1], fun i d e => ?_⟩
  by_cases hi : i < n
  · rw [List.getElem?_append_left (by simp; exact hi), List.getElem?_replicate] at e
    split at e <;> cases e
  · rw [List.getElem?_append_right (by simp; omega)] at e ⊢
    simp at e ⊢
    exact r.2 _ d e
theorem view_new {p : Addr} {o : HO} (hp : H p = none) (hn : p ∉ θ) : Ev θ H θ (upd H p o) := ⟨⟨[], by simp⟩, fun a u q => by
  obtain ⟨h1, h2⟩ := view_get q
  rw [view_of h1, upd_ne (ne_of_none h2 hp)]
  exact h2⟩
theorem ORep.some (o : MO) {a : Addr} (r : ORep G θ H a o) : H a ≠ none := by
  cases o with
  | lst xs => obtain ⟨vs, e, _⟩ := r; rw [e]; exact fun z => nomatch z
  | dct t kvs => exact DctAt.some r
  | ins => exact r.elim
  | tab P q => obtain ⟨rfl, ps, e, _⟩ := r; rw [e]; exact fun z => nomatch z
theorem W.notin (w : W G θ h H) {p : Addr} (hp : H p = none) : p ∉ θ := fun m => by
  obtain ⟨i, hi, e⟩ := List.mem_iff_getElem.mp m
  have hl : i < h.length := by rw [← w.len]; exact hi
  exact ORep.some _ (w.obj i p h[i] (by rw [List.getElem?_eq_getElem hi, e]) (List.getElem?_eq_getElem hl)) hp
theorem W.put (w : W G θ h H) {p : Addr} {o : HO} (hp : H p = none) : Ev θ H θ (upd H p o) ∧ W G θ h (upd H p o) ∧ view θ (upd H p o) p = some o := by
  have hn := w.notin hp
  have e := view_new (o := o) hp hn
  refine ⟨e, ⟨w.len, w.nd, fun i a m h1 h2 => ?_⟩, by rw [view_of hn, upd_same]⟩
  have r := w.obj i a m h1 h2
  have ha : a ≠ p := fun z => by subst z; exact hn (List.mem_of_getElem? h1)
  cases m with
  | lst xs => obtain ⟨vs, q1, q2⟩ := r; exact ⟨vs, by rw [upd_ne ha]; exact q1, q2.ev e⟩
  | dct t kvs => exact DctAt.same e.same r fun o q => by rw [upd_ne ha]; exact q
  | ins => exact r.elim
  | tab P q => obtain ⟨rfl, x⟩ := r; exact ⟨rfl, x.same e.same fun o q => by rw [upd_ne ha]; exact q⟩
theorem W.grow (w : W G θ h H) (s : Same H H') : Ev θ H θ H' ∧ W G θ h H' := by
  have e : Ev θ H θ H' := ⟨⟨[], by simp⟩, fun a u q => by
    obtain ⟨h1, h2⟩ := view_get q
    rw [view_of h1]
    exact s _ _ h2⟩
  refine ⟨e, ⟨w.len, w.nd, fun i a m h1 h2 => ?_⟩⟩
  have r := w.obj i a m h1 h2
  cases m with
  | lst xs => obtain ⟨vs, q1, q2⟩ := r; exact ⟨vs, s _ _ q1, q2.ev e⟩
  | dct t kvs => exact DctAt.same e.same r fun o q => s _ _ q
  | ins => exact r.elim
  | tab P q => obtain ⟨rfl, x⟩ := r; exact ⟨rfl, x.same e.same fun o q => s _ _ q⟩
theorem W.alloc (w : W G θ h H) {p : Addr} {o : HO} {m : MO} (hp : H p = none) (ho : ORep G (θ ++ [p]) (upd H p o) p m) : Ev θ H (θ ++ [p]) (upd H p o) ∧ W G (θ ++ [p]) (h ++ [m]) (upd H p o) := by
  have hn := w.notin hp
  have e : Ev θ H (θ ++ [p]) (upd H p o) := ⟨⟨[p], rfl⟩, fun a u q => by
    obtain ⟨h1, h2⟩ := view_get q
    have ne := ne_of_none h2 hp
    rw [view_of (by simp; exact ⟨h1, ne⟩), upd_ne ne]
    exact h2⟩
  refine ⟨e, ⟨by simp [w.len], ?_, fun i a m' h1 h2 => ?_⟩⟩
  · rw [List.nodup_append]
    exact ⟨w.nd, by simp, fun x hx y hy z => by simp at hy; subst hy; subst z; exact hn hx⟩
  · by_cases hi : i < θ.length
    · rw [List.getElem?_append_left hi] at h1
      rw [List.getElem?_append_left (by rw [← w.len]; exact hi)] at h2
      have r := w.obj i a m' h1 h2
      have ha : a ≠ p := fun z => by subst z; exact hn (List.mem_of_getElem? h1)
      cases m' with
      | lst xs => obtain ⟨vs, q1, q2⟩ := r; exact ⟨vs, by rw [upd_ne ha]; exact q1, q2.ev e⟩
      | dct t kvs => exact DctAt.same e.same r fun o q => by rw [upd_ne ha]; exact q
      | ins => exact r.elim
      | tab P q => obtain ⟨rfl, x⟩ := r; exact ⟨rfl, x.same e.same fun o q => by rw [upd_ne ha]; exact q⟩
    · rw [List.getElem?_append_right (by omega)] at h1
      rw [List.getElem?_append_right (by rw [← w.len]; omega), ← w.len] at h2
      cases hk : i - θ.length with
      | zero =>
        rw [hk] at h1 h2
        simp at h1 h2
        subst h1
        subst h2
        exact ho
      | succ k =>
        rw [hk] at h1
        simp at h1
theorem W.write (w : W G θ h H) {i : Nat} {p : Addr} {o : HO} {m : MO} (hi : θ[i]? = some p) (hl : i < h.length) (ho : ORep G θ (upd H p o) p m) : Ev θ H θ (upd H p o) ∧ W G θ (h.set i m) (upd H p o) := by
  have hm : p ∈ θ := List.mem_of_getElem? hi
  have e : Ev θ H θ (upd H p o) := ⟨⟨[], by simp⟩, fun a u q => by
    obtain ⟨h1, h2⟩ := view_get q
    have ne : a ≠ p := fun z => by subst z; exact h1 hm
    rw [view_of h1, upd_ne ne]
    exact h2⟩
  refine ⟨e, ⟨by simp [w.len], w.nd, fun j a m' h1 h2 => ?_⟩⟩
  by_cases hj : i = j
  · subst hj
    rw [hi] at h1
    cases h1
    rw [List.getElem?_set_self hl] at h2
    cases h2
    exact ho
  · rw [List.getElem?_set_ne hj] at h2
    have ha : a ≠ p := fun z => by
      subst z
      obtain ⟨l1, e1⟩ := List.getElem?_eq_some_iff.mp hi
      obtain ⟨l2, e2⟩ := List.getElem?_eq_some_iff.mp h1
      have pw := List.pairwise_iff_getElem.mp w.nd
      rcases Nat.lt_or_gt_of_ne hj with z | z
      · exact pw i j l1 l2 z (e1.trans e2.symm)
      · exact pw j i l2 l1 z (e2.trans e1.symm)
    have r := w.obj j a m' h1 h2
    cases m' with
    | lst xs => obtain ⟨vs, q1, q2⟩ := r; exact ⟨vs, by rw [upd_ne ha]; exact q1, q2.ev e⟩
    | dct t kvs => exact DctAt.same e.same r fun o q => by rw [upd_ne ha]; exact q
    | ins => exact r.elim
    | tab P q => obtain ⟨rfl, x⟩ := r; exact ⟨rfl, x.same e.same fun o q => by rw [upd_ne ha]; exact q⟩
end
abbrev XP := Xc → List Addr → Hm → Hp → Prop
def Post {α : Type} (G : Gx) (E : XP) (θ : List Addr) (H : Hp) : R α → (α → List Addr → Hm → Hp → Prop) → Prop
  | .ok a h', K => ∀ θ' H', Ev θ H θ' H' → W G θ' h' H' → K a θ' h' H'
  | .exc x h', _ => ∀ θ' H', Ev θ H θ' H' → W G θ' h' H' → E x θ' h' H'
  | .bad, _ => False
section
variable {α β : Type} {G : Gx} {E E' : XP} {θ θ' : List Addr} {H H' : Hp} {h : Hm} {r : R α} {f : α → Hm → R β} {K K' : α → List Addr → Hm → Hp → Prop}
theorem Post.mono (p : Post G E θ H r K) (k : ∀ a θ' h' H', Ev θ H θ' H' → W G θ' h' H' → K a θ' h' H' → K' a θ' h' H') : Post G E θ H r K' := by
  cases r with
  | ok a h' => exact fun θ' H' e w => k _ _ _ _ e w (p θ' H' e w)
  | exc x h' => exact p
  | bad => exact p
theorem Post.later (p : Post G E θ H r K) (e : Ev θ H θ' H') : Post G E θ' H' r K := by
  cases r with
  | ok a h' => exact fun θ2 H2 e2 w => p θ2 H2 (e.trans e2) w
  | exc x h' => exact fun θ2 H2 e2 w => p θ2 H2 (e.trans e2) w
  | bad => exact p
theorem Post.bind {L : β → List Addr → Hm → Hp → Prop} (p : Post G E θ H (r.bind f) L) : Post G E θ H r fun a θ1 h1 H1 => Ev θ H θ1 H1 ∧ W G θ1 h1 H1 ∧ Post G E θ1 H1 (f a h1) L := by
  cases r with
  | ok a h' => exact fun θ1 H1 e w => ⟨e, w, Post.later p e⟩
  | exc x h' => exact p
  | bad => exact p
end
def ofX (G : Gx) (E : XK) : XP := fun x θ _ H => ∀ cls da, XRep G x cls da (view θ H) → E cls da H
def KV (G : Gx) (Q : VK) : D → List Addr → Hm → Hp → Prop := fun d θ _ H => ∀ v, DRep G θ H d v → Q v H
def KVs (G : Gx) (Q : List V → Hp → Prop) : List D → List Addr → Hm → Hp → Prop := fun ds θ _ H => ∀ vs, DReps G θ H ds vs → Q vs H
def KS (G : Gx) (C : Ends) : Fl → List Addr → Hm → Hp → Prop := fun f θ _ H => match f with
  | .nx ρ => ∀ σ, Fr G θ H ρ σ → C.nx σ H
  | .rt d => ∀ v, DRep G θ H d v → C.rt v H
  | .bk ρ => ∀ σ, Fr G θ H ρ σ → C.bk σ H
  | .ct ρ => ∀ σ, Fr G θ H ρ σ → C.ct σ H
def lE (G : Gx) (E : XK) (m : ME) : TE := fun σ H Q => ∃ θ h ρ, W G θ h H ∧ Fr G θ H ρ σ ∧ Post G (ofX G E) θ H (m ρ h) (KV G Q)
def lT (G : Gx) (E : XK) (m : MT) : TT := fun σ H Q => ∃ θ h ρ, W G θ h H ∧ Fr G θ H ρ σ ∧ Post G (ofX G E) θ H (m ρ h) (fun b _ _ H' => Q b H')
def lA (G : Gx) (E : XK) (m : MA) : TA := fun σ H Q => ∃ θ h ρ, W G θ h H ∧ Fr G θ H ρ σ ∧ Post G (ofX G E) θ H (m ρ h) (KVs G Q)
def lS (G : Gx) (E : XK) (m : MS) : TS := fun C σ H => ∃ θ h ρ, W G θ h H ∧ Fr G θ H ρ σ ∧ Post G (ofX G E) θ H (m ρ h) (KS G C)
def lG (G : Gx) (E : XK) (g : MG) : TG := fun v σ H Q => ∃ θ h ρ d, W G θ h H ∧ Fr G θ H ρ σ ∧ DRep G θ H d v ∧ Post G (ofX G E) θ H (g d ρ h) (fun ρ' θ' _ H' => ∀ σ', Fr G θ' H' ρ' σ' → Q σ' H')
abbrev _root_.L2.Cx.G (X : Cx) : Gx := ⟨X.prog, X.w, X.mg, X.K⟩
@[irreducible] def DE (X : Cx) (E : XK) (m : ME) (e : Expr) : Prop := PE X e (lE X.G E m)
theorem DE_eq (X : Cx) (E : XK) (m : ME) (e : Expr) : DE X E m e = (PE X e (lE X.G E m)) := by
  unfold DE
  rfl
@[irreducible] def DT (X : Cx) (E : XK) (m : MT) (e : Expr) : Prop := PT X e (lT X.G E m)
theorem DT_eq (X : Cx) (E : XK) (m : MT) (e : Expr) : DT X E m e = (PT X e (lT X.G E m)) := by
  unfold DT
  rfl
@[irreducible] def DA (X : Cx) (E : XK) (m : MA) (es : List Expr) : Prop := PA X es (lA X.G E m)
theorem DA_eq (X : Cx) (E : XK) (m : MA) (es : List Expr) : DA X E m es = (PA X es (lA X.G E m)) := by
  unfold DA
  rfl
@[irreducible] def DS (X : Cx) (E : XK) (m : MS) (s : Stmt) : Prop := PS X s (lS X.G E m)
theorem DS_eq (X : Cx) (E : XK) (m : MS) (s : Stmt) : DS X E m s = (PS X s (lS X.G E m)) := by
  unfold DS
  rfl
@[irreducible] def DSs (X : Cx) (E : XK) (m : MS) (s : List Stmt) : Prop := PSs X s (lS X.G E m)
theorem DSs_eq (X : Cx) (E : XK) (m : MS) (s : List Stmt) : DSs X E m s = (PSs X s (lS X.G E m)) := by
  unfold DSs
  rfl
@[irreducible] def DG (X : Cx) (E : XK) (m : MG) (e : Expr) : Prop := PG X e (lG X.G E m)
theorem DG_eq (X : Cx) (E : XK) (m : MG) (e : Expr) : DG X E m e = (PG X e (lG X.G E m)) := by
  unfold DG
  rfl
theorem PE.imp {X : Cx} {e : Expr} {t t' : TE} (h : PE X e t) (k : ∀ σ H Q, t' σ H Q → t σ H Q) : PE X e t' := fun pins s σ H Q I q => h pins s σ H Q I (k _ _ _ q)
theorem PT.imp {X : Cx} {e : Expr} {t t' : TT} (h : PT X e t) (k : ∀ σ H Q, t' σ H Q → t σ H Q) : PT X e t' := fun pins s σ H Q I q => h pins s σ H Q I (k _ _ _ q)
theorem PA.imp {X : Cx} {e : List Expr} {t t' : TA} (h : PA X e t) (k : ∀ σ H Q, t' σ H Q → t σ H Q) : PA X e t' := fun pos pins s σ H Q I q => h pos pins s σ H Q I (k _ _ _ q)
theorem PS.imp {X : Cx} {e : Stmt} {t t' : TS} (h : PS X e t) (k : ∀ C σ H, t' C σ H → t C σ H) : PS X e t' := fun pins s σ H C I q => h pins s σ H C I (k _ _ _ q)
theorem PSs.imp {X : Cx} {e : List Stmt} {t t' : TS} (h : PSs X e t) (k : ∀ C σ H, t' C σ H → t C σ H) : PSs X e t' := fun pins s σ H C I q => h pins s σ H C I (k _ _ _ q)
end Ml
namespace Ml
open PySem PySem.Spec L2
def rOf (G : Gx) (E : XK) (f : D → D → Hm → R D) : R2 := fun x y H Q => ∃ θ h d1 d2, W G θ h H ∧ DRep G θ H d1 x ∧ DRep G θ H d2 y ∧ Post G (ofX G E) θ H (f d1 d2 h) (KV G Q)
def cOf (G : Gx) (E : XK) (f : Fn) : List V → Hp → VK → Prop := fun xs H Q => ∃ θ h ds, W G θ h H ∧ DReps G θ H ds xs ∧ Post G (ofX G E) θ H (f ds h) (KV G Q)
def Op2 (X : Cx) (E : XK) (op : Value → Value → Sem Value) (f : D → D → Hm → R D) : Prop := OpR X op (rOf X.G E f)
def Cal (X : Cx) (E : XK) (v : Value) (f : Fn) : Prop := CallR X v (cOf X.G E f)
theorem OpR.imp {X : Cx} {op : Value → Value → Sem Value} {r r' : R2} (h : OpR X op r) (k : ∀ x y H Q, r' x y H Q → r x y H Q) : OpR X op r' := fun pins s σ H x y v u Q I rx ry q => h pins s σ H x y v u Q I rx ry (k _ _ _ _ q)
theorem CallR.imp {X : Cx} {f : Value} {r r' : List V → Hp → VK → Prop} (h : CallR X f r) (k : ∀ xs H Q, r' xs H Q → r xs H Q) : CallR X f r' := fun pins s σ H xs us Q I r q => h pins s σ H xs us Q I r (k _ _ _ q)
theorem Op2.of {X : Cx} {E : XK} {op : Value → Value → Sem Value} {r : R2} {f : D → D → Hm → R D} (h : OpR X op r)
    (k : ∀ θ hm H d1 d2 x y Q, W X.G θ hm H → DRep X.G θ H d1 x → DRep X.G θ H d2 y → Post X.G (ofX X.G E) θ H (f d1 d2 hm) (KV X.G Q) → r x y H Q) : Op2 X E op f :=
  OpR.imp h fun x y H Q ⟨θ, hm, d1, d2, w, r1, r2, p⟩ => k θ hm H d1 d2 x y Q w r1 r2 p
theorem Cal.of {X : Cx} {E : XK} {v : Value} {r : List V → Hp → VK → Prop} {f : Fn} (h : CallR X v r)
    (k : ∀ θ hm H ds xs Q, W X.G θ hm H → DReps X.G θ H ds xs → Post X.G (ofX X.G E) θ H (f ds hm) (KV X.G Q) → r xs H Q) : Cal X E v f :=
  CallR.imp h fun xs H Q ⟨θ, hm, ds, w, r1, p⟩ => k θ hm H ds xs Q w r1 p
section
variable {X : Cx} {E : XK} {m a b c : ME} {t u : MT} {e e1 e2 e3 : Expr} {es : List Expr} {ma : MA} {pos : Pos} {i : Nat} {x : Str}
theorem de_var (hN : X.N[i]? = some x) (hv : Vis X.env.scope x) (hd : (x == ("__debug__" : Str)) = false := by decide) (hcd : (x == ("__classdict__" : Str)) = false := by decide) : DE X E (eVar i) (.Name x pos) := by
  simp only [DE_eq] at *
  exact PE.imp (pe_var hN hv hd hcd) fun σ H Q ⟨θ, h, ρ, w, fr, p⟩ => by
      unfold eVar at p
      cases e : ρ[i]? with
      | none => rw [e] at p; exact p.elim
      | some o =>
        cases o with
        | none => rw [e] at p; exact p.elim
        | some d =>
          rw [e] at p
          obtain ⟨v, h1, h2⟩ := fr.2 i d e
          exact ⟨v, h1, p θ H Ev.refl w v h2⟩
theorem de_c {v : V} {d : PyData} (h : PE X e (tC v)) (r : ∀ G, Rep G d v) (s : sOk d = true) : DE X E (eDat d) e := by
  simp only [DE_eq] at *
  exact PE.imp h fun σ H Q ⟨θ, hm, ρ, w, fr, p⟩ => p θ H Ev.refl w v ⟨r _, s⟩
theorem de_int {k : Int} {j : Nat} : DE X E (eDat (.int k)) (.Constant (.int k) j pos) := de_c pe_int (fun _ => rfl) (by simp [sOk])
theorem de_bool {k : Bool} {j : Nat} : DE X E (eDat (.bool k)) (.Constant (.bool k) j pos) := de_c pe_bl (fun _ => rfl) (by simp [sOk])
theorem de_none {j : Nat} : DE X E (eDat .none) (.Constant .none j pos) := de_c pe_non (fun _ => rfl) (by simp [sOk])
theorem de_str {k : Str} {j : Nat} (h : PyData.strOk k = true := by decide +kernel) : DE X E (eDat (.str k)) (.Constant (.str k) j pos) := de_c pe_str (fun _ => rfl) (by simp [sOk, h])
theorem lE_bin {G : Gx} {f : D → D → Hm → R D} {σ : St} {H : Hp} {Q : VK} (h : lE G E (eBin f a b) σ H Q) : tOp (rOf G E f) (lE G E a) (lE G E b) σ H Q := by
  obtain ⟨θ, h, ρ, w, fr, p⟩ := h
  refine ⟨θ, h, ρ, w, fr, (Post.bind p).mono fun x θ1 h1 H1 _ _ ⟨e1, w1, p1⟩ v r1 => ?_⟩
  exact ⟨θ1, h1, ρ, w1, fr.ev e1, (Post.bind p1).mono fun y θ2 h2 H2 _ _ ⟨e2, w2, p2⟩ u r2 => ⟨θ2, h2, x, y, w2, r1.ev e2, r2, p2⟩⟩
theorem lE_call {G : Gx} {f : Fn} {σ : St} {H : Hp} {Q : VK} (h : lE G E (eCall f ma) σ H Q) : tCB (cOf G E f) (lA G E ma) σ H Q := by
  obtain ⟨θ, h, ρ, w, fr, p⟩ := h
  exact ⟨θ, h, ρ, w, fr, (Post.bind p).mono fun xs θ1 h1 H1 _ _ ⟨e1, w1, p1⟩ vs r1 => ⟨θ1, h1, xs, w1, r1, p1⟩⟩
theorem de_bin {op : Operator} {f : D → D → Hm → R D} (h : Op2 X E (binaryOp op) f) (ha : DE X E a e1) (hb : DE X E b e2) : DE X E (eBin f a b) (.BinOp e1 op e2 pos) := by
  simp only [DE_eq] at *
  exact PE.imp (pe_op h ha hb) fun _ _ _ => lE_bin
theorem de_cmp {op : CmpOp} {f : D → D → Hm → R D} (h : Op2 X E (compareOp op) f) (ha : DE X E a e1) (hb : DE X E b e2) (hm : behindInMarks op e2 = false) : DE X E (eBin f a b) (.Compare e1 [op] [e2] pos) := by
  simp only [DE_eq] at *
  exact PE.imp (pe_cmpR h ha hb hm) fun _ _ _ => lE_bin
theorem de_ix {f : D → D → Hm → R D} (h : IxR X (rOf X.G E f)) (ha : DE X E a e1) (hb : DE X E b e2) (hs : PlainIx e2) : DE X E (eBin f a b) (.Subscript e1 e2 pos) := by
  simp only [DE_eq] at *
  exact PE.imp (pe_ix h ha hb hs) fun _ _ _ => lE_bin
theorem lT_bool {G : Gx} {σ : St} {H : Hp} {Q : Bool → Hp → Prop} (h : lT G E (tBool m) σ H Q) : lE G E m σ H fun x H' => ∃ k, x = .bl k ∧ Q k H' := by
  obtain ⟨θ, h, ρ, w, fr, p⟩ := h
  refine ⟨θ, h, ρ, w, fr, (Post.bind p).mono fun x θ1 h1 H1 _ _ ⟨e1, w1, p1⟩ v r1 => ?_⟩
  cases x with
  | dat d =>
    cases d with
    | bool k => exact ⟨k, r1.1, p1 θ1 H1 Ev.refl w1⟩
    | _ => exact p1.elim
  | _ => exact p1.elim
theorem dt_cmp {op : CmpOp} {f : D → D → Hm → R D} (h : Op2 X E (compareOp op) f) (ha : DE X E a e1) (hb : DE X E b e2) (hm : behindInMarks op e2 = false) : DT X E (tBool (eBin f a b)) (.Compare e1 [op] [e2] pos) := by
  simp only [DE_eq, DT_eq] at *
  exact PT.imp (pt_cmpR h ha hb hm) fun _ _ _ q => lE_bin (lT_bool q)
@[irreducible] def DW (X : Cx) (E : XK) (t : MT) (e : Expr) : Prop := PW X e (lT X.G E t)
theorem DW_eq (X : Cx) (E : XK) (t : MT) (e : Expr) : DW X E t e = (PW X e (lT X.G E t)) := by
  unfold DW
  rfl
theorem DW.dt (h : DW X E t e) : DT X E t e := by
  simp only [DT_eq, DW_eq] at *
  exact PW.pt h
theorem PW.imp {X : Cx} {e : Expr} {t t' : TT} (h : PW X e t) (k : ∀ σ H Q, t' σ H Q → t σ H Q) : PW X e t' := fun wh pins s σ H Q I q => h wh pins s σ H Q I (k _ _ _ q)
theorem dw_and1 (ha : DT X E t e) : DW X E t (.BoolOp .And [e] pos) := by
  simp only [DT_eq, DW_eq] at *
  exact pw_and1 ha
theorem dw_or1 (ha : DT X E t e) : DW X E t (.BoolOp .Or [e] pos) := by
  simp only [DT_eq, DW_eq] at *
  exact pw_or1 ha
theorem dw_and (ha : DT X E t e1) (hb : DW X E u (.BoolOp .And (e2 :: es) pos)) : DW X E (tAnd t u) (.BoolOp .And (e1 :: e2 :: es) pos) := by
  simp only [DT_eq, DW_eq] at *
  exact PW.imp (pw_and ha hb) fun σ H Q ⟨θ, h, ρ, w, fr, p⟩ => ⟨θ, h, ρ, w, fr, (Post.bind p).mono fun c θ1 h1 H1 _ _ ⟨ev, w1, p1⟩ => by
      cases c with
      | true => exact ⟨θ1, h1, ρ, w1, fr.ev ev, p1⟩
      | false => exact p1 θ1 H1 Ev.refl w1⟩
theorem dw_or (ha : DT X E t e1) (hb : DW X E u (.BoolOp .Or (e2 :: es) pos)) : DW X E (tOr t u) (.BoolOp .Or (e1 :: e2 :: es) pos) := by
  simp only [DT_eq, DW_eq] at *
  exact PW.imp (pw_or ha hb) fun σ H Q ⟨θ, h, ρ, w, fr, p⟩ => ⟨θ, h, ρ, w, fr, (Post.bind p).mono fun c θ1 h1 H1 _ _ ⟨ev, w1, p1⟩ => by
      cases c with
      | true => exact p1 θ1 H1 Ev.refl w1
      | false => exact ⟨θ1, h1, ρ, w1, fr.ev ev, p1⟩⟩
theorem dt_not (ha : DT X E t e) : DT X E (tNot t) (.UnaryOp .Not e pos) := by
  simp only [DT_eq] at *
  exact PT.imp (pt_not ha) fun σ H Q ⟨θ, h, ρ, w, fr, p⟩ => ⟨θ, h, ρ, w, fr, (Post.bind p).mono fun c θ1 h1 H1 _ _ ⟨ev, w1, p1⟩ => p1 θ1 H1 Ev.refl w1⟩
theorem de_one {op} (h : DE X E m e) : DE X E m (.BoolOp op [e] pos) := by
  simp only [DE_eq] at *
  exact pe_one h
theorem da_nil : DA X E aNil [] := by
  simp only [DA_eq] at *
  exact PA.imp pa_nil fun σ H Q ⟨θ, h, ρ, w, fr, p⟩ => p θ H Ev.refl w _ .nil
theorem da_cons (ha : DE X E m e) (hr : DA X E ma es) (hs : starEach (e :: es) X.env = (false, eval e X.env) :: starEach es X.env := by rfl) : DA X E (aCons m ma) (e :: es) := by
  simp only [DE_eq, DA_eq] at *
  exact PA.imp (pa_cons ha hr hs) fun σ H Q ⟨θ, h, ρ, w, fr, p⟩ => ⟨θ, h, ρ, w, fr, (Post.bind p).mono fun x θ1 h1 H1 _ _ ⟨ev, w1, p1⟩ v r1 =>
      ⟨θ1, h1, ρ, w1, fr.ev ev, (Post.bind p1).mono fun xs θ2 h2 H2 _ _ ⟨ev2, w2, p2⟩ vs r2 => p2 θ2 H2 Ev.refl w2 _ (.cons (r1.ev ev2) r2)⟩⟩
theorem reps_of {G : Gx} {θ : List Addr} {H : Hp} : ∀ {xs : List D} {vs : List V} {ds : List PyData}, DReps G θ H xs vs → datas xs = some ds → Reps (view θ H) ds vs ∧ sOks ds = true
  | [], _, ds, .nil, e => by cases e; exact ⟨rfl, by simp [sOks]⟩
  | x :: xs, _, ds, .cons r rs, e => by
    unfold datas at e
    cases x with
    | dat d =>
      cases e2 : datas xs with
      | none => simp [D.data, e2] at e
      | some ds' =>
        simp [D.data, e2] at e
        subst e
        obtain ⟨h1, h2⟩ := reps_of rs e2
        exact ⟨.cons r.1 h1, by simp [sOks, r.2, h2]⟩
    | _ => simp [D.data] at e
theorem of_reps {G : Gx} {θ : List Addr} {H : Hp} : ∀ {ds : List PyData} {vs : List V}, Reps (view θ H) ds vs → sOks ds = true → DReps G θ H (ds.map D.dat) vs
  | [], _, h, _ => by cases h; exact .nil
  | d :: ds, _, ⟨v, vs, e, r, rs⟩, s => by
    subst e
    simp only [sOks, Bool.and_eq_true] at s
    exact .cons ⟨r, s.1⟩ (of_reps rs s.2)
theorem szOk_le {n : Nat} (h : szOk n = true) : n ≤ sizeLine := by
  have := of_decide_eq_true h
  rw [PySem.sizeLine_eq]
  exact this
theorem datas_len : ∀ {xs : List D} {ds : List PyData}, datas xs = some ds → ds.length = xs.length
  | [], ds, e => by cases e; rfl
  | x :: xs, ds, e => by
    unfold datas at e
    cases e1 : x.data with
    | none => rw [e1] at e; cases e
    | some d =>
      cases e2 : datas xs with
      | none => rw [e1, e2] at e; cases e
      | some ds' => rw [e1, e2] at e; cases e; simp [datas_len e2]
theorem de_tup {x1} (h : DA X E ma es) : DE X E (eTup ma) (.Tuple es x1 pos) := by
  simp only [DE_eq, DA_eq] at *
  exact PE.imp (pe_tup h) fun σ H Q ⟨θ, h, ρ, w, fr, p⟩ => ⟨θ, h, ρ, w, fr, (Post.bind p).mono fun xs θ1 h1 H1 _ _ ⟨ev, w1, p1⟩ vs r1 => by
      unfold mkTup at p1
      cases e : datas xs with
      | none => rw [e] at p1; exact p1.elim
      | some ds =>
        rw [e] at p1
        simp only at p1
        split at p1
        · rename_i hz
          have hl : vs.length = xs.length := (Paired.length r1).symm
          refine ⟨by rw [hl, ← datas_len e]; exact szOk_le hz, fun q hq => ?_⟩
          obtain ⟨e1, w2, g⟩ := w1.put (o := .tup vs) hq
          obtain ⟨h1, h2⟩ := reps_of r1 e
          exact p1 _ _ e1 w2 _ ⟨⟨q, vs, rfl, g, h1.same e1.same⟩, by simp [sOk, h2]⟩
        · exact p1.elim⟩
theorem de_lst (h : DA X E ma es) : DE X E (eLst ma) (.List es pos) := by
  simp only [DE_eq, DA_eq] at *
  exact PE.imp (pe_lst h) fun σ H Q ⟨θ, h, ρ, w, fr, p⟩ => ⟨θ, h, ρ, w, fr, (Post.bind p).mono fun xs θ1 h1 H1 _ _ ⟨ev, w1, p1⟩ vs r1 => by
      unfold mkLst at p1
      cases e : datas xs with
      | none => rw [e] at p1; exact p1.elim
      | some ds =>
        rw [e] at p1
        simp only at p1
        split at p1
        · rename_i hz
          have hl : vs.length = xs.length := (Paired.length r1).symm
          refine ⟨by rw [hl, ← datas_len e]; exact szOk_le hz, fun q hq => ?_⟩
          obtain ⟨e1, w2, g⟩ := w1.put (o := .lst vs) hq
          obtain ⟨h1, h2⟩ := reps_of r1 e
          exact p1 _ _ e1 w2 _ ⟨⟨q, vs, rfl, g, h1.same e1.same⟩, by simp [sOk, h2]⟩
        · exact p1.elim⟩
theorem W.allocL {G : Gx} {θ : List Addr} {h : Hm} {H : Hp} {xs : List D} {vs : List V} (w : W G θ h H) (r : DReps G θ H xs vs) {p : Addr} (hp : H p = none) :
    Ev θ H (θ ++ [p]) (upd H p (.lst vs)) ∧ W G (θ ++ [p]) (h ++ [.lst xs]) (upd H p (.lst vs)) ∧ DRep G (θ ++ [p]) (upd H p (.lst vs)) (.ref h.length) (.ref p) := by
  have e : Ev θ H (θ ++ [p]) (upd H p (.lst vs)) := ⟨⟨[p], rfl⟩, fun a u q => by
    obtain ⟨h1, h2⟩ := view_get q
    have ne := ne_of_none h2 hp
    rw [view_of (by simp; exact ⟨h1, ne⟩), upd_ne ne]
    exact h2⟩
  obtain ⟨e1, w1⟩ := w.alloc (o := .lst vs) (m := .lst xs) hp ⟨vs, upd_same, r.ev e⟩
  exact ⟨e1, w1, p, by rw [← w.len]; simp, rfl⟩
theorem de_mut (h : DA X E ma es) : DE X E (eMut ma) (.List es pos) := by
  simp only [DE_eq, DA_eq] at *
  exact PE.imp (pe_lst h) fun σ H Q ⟨θ, h, ρ, w, fr, p⟩ => ⟨θ, h, ρ, w, fr, (Post.bind p).mono fun xs θ1 h1 H1 _ _ ⟨ev, w1, p1⟩ vs r1 => by
      unfold mkMut at p1
      split at p1
      · rename_i hz
        have hl : vs.length = xs.length := (Paired.length r1).symm
        refine ⟨by rw [hl]; exact szOk_le hz, fun q hq => ?_⟩
        obtain ⟨e1, w2, g⟩ := w1.allocL r1 hq
        exact p1 _ _ e1 w2 _ g
      · exact p1.elim⟩
theorem de_callB {id : String} {f : Fn} (hc : Cal X E (.builtin id) f) (hg : Gl X x) (hm : X.mg x = none) (hv : bootBuiltins x = some (.builtin id)) {p : Pos} (ha : DA X E ma (e :: es)) (hn : x ≠ "__name__" := by decide) (hdb : (x == ("__debug__" : Str)) = false := by decide)
    (he : starEach (e :: es) X.env = (false, eval e X.env) :: starEach es X.env := by rfl) (hpl : (backTo pos (starEach es X.env)).any (·.1) = false := by rfl) : DE X E (eCall f ma) (.Call (.Name x p) (e :: es) [] pos) := by
  simp only [DE_eq, DA_eq] at *
  exact PE.imp (pe_callB hc hg hm hv ha hn hdb he hpl) fun _ _ _ => lE_call
theorem de_callTy {T : String} {f : Fn} (hc : Cal X E (.type T) f) (hg : Gl X x) (hm : X.mg x = none) (hv : bootBuiltins x = some (.type T)) {p : Pos} (ha : DA X E ma (e :: es)) (hn : x ≠ "__name__" := by decide) (hdb : (x == ("__debug__" : Str)) = false := by decide)
    (he : starEach (e :: es) X.env = (false, eval e X.env) :: starEach es X.env := by rfl) (hpl : (backTo pos (starEach es X.env)).any (·.1) = false := by rfl) : DE X E (eCall f ma) (.Call (.Name x p) (e :: es) [] pos) := by
  simp only [DE_eq, DA_eq] at *
  exact PE.imp (pe_callTy hc hg hm hv ha hn hdb he hpl) fun _ _ _ => lE_call
end
end Ml
namespace Ml
open PySem PySem.Spec L2
section
variable {X : Cx} {E : XK} {m : ME} {a b : MS} {t : MT} {e e1 : Expr} {st : Stmt} {sts : List Stmt} {ss ss' : List Stmt} {ma : MA} {pos : Pos} {i : Nat} {x : Str} {g : MG}
theorem dss_nil : DSs X E sNext [] := by
  simp only [DSs_eq] at *
  exact PSs.imp pss_nil fun C σ H ⟨θ, h, ρ, w, fr, p⟩ => p θ H Ev.refl w σ fr
theorem dss_one (h : DS X E a st) : DSs X E a [st] := by
  simp only [DS_eq, DSs_eq] at *
  exact pss_one h
theorem dss_cons (h1 : DS X E a st) (h2 : DSs X E b ss) : DSs X E (sSeq a b) (st :: ss) := by
  simp only [DS_eq, DSs_eq] at *
  exact PSs.imp (pss_cons h1 h2) fun C σ H ⟨θ, h, ρ, w, fr, p⟩ => ⟨θ, h, ρ, w, fr, (Post.bind p).mono fun f θ1 h1 H1 _ _ ⟨ev, w1, p1⟩ => by
      cases f with
      | nx ρ1 => exact fun σ1 fr1 => ⟨θ1, h1, ρ1, w1, fr1, p1⟩
      | rt d => exact p1 θ1 H1 Ev.refl w1
      | bk ρ1 => exact p1 θ1 H1 Ev.refl w1
      | ct ρ1 => exact p1 θ1 H1 Ev.refl w1⟩
theorem ds_expr (he : DE X E m e) (hs : swapsWith e none pos.line X.env = pure false := by rfl) : DS X E (sExpr m) (.Expr e pos) := by
  simp only [DE_eq, DS_eq] at *
  exact PS.imp (ps_expr he hs) fun C σ H ⟨θ, h, ρ, w, fr, p⟩ => ⟨θ, h, ρ, w, fr, (Post.bind p).mono fun d θ1 h1 H1 _ _ ⟨ev, w1, p1⟩ v _ => p1 θ1 H1 Ev.refl w1 σ (fr.ev ev)⟩
theorem ds_ret (he : DE X E m e) : DS X E (sRet m) (.Return (some e) pos) := by
  simp only [DE_eq, DS_eq] at *
  exact PS.imp (ps_ret he) fun C σ H ⟨θ, h, ρ, w, fr, p⟩ => ⟨θ, h, ρ, w, fr, (Post.bind p).mono fun d θ1 h1 H1 _ _ ⟨ev, w1, p1⟩ v r => p1 θ1 H1 Ev.refl w1 v r⟩
theorem ds_if (hc : DT X E t e) (ha : DSs X E a ss) (hb : DSs X E b ss') : DS X E (sIf t a b) (.If e ss ss' pos) := by
  simp only [DT_eq, DS_eq, DSs_eq] at *
  exact PS.imp (ps_if hc ha hb) fun C σ H ⟨θ, h, ρ, w, fr, p⟩ => ⟨θ, h, ρ, w, fr, (Post.bind p).mono fun c θ1 h1 H1 _ _ ⟨ev, w1, p1⟩ => by
      cases c with
      | true => exact ⟨θ1, h1, ρ, w1, fr.ev ev, p1⟩
      | false => exact ⟨θ1, h1, ρ, w1, fr.ev ev, p1⟩⟩
theorem dg_name (hN : X.N.Nodup) (hi : X.N[i]? = some x) (hx : Loc X.env.scope x) (hf : X.fn x = true ∨ X.env.scope.names.lookup x = some .local := by first | exact .inl rfl | exact .inr rfl | assumption) : DG X E (gName i) (.Name x pos) := by
  simp only [DG_eq] at *
  exact fun pins s σ H v u Q I r ⟨θ, h, ρ, d, w, fr, rd, p⟩ => pg_name hN hi hx hf pins s σ H v u Q I r (p θ H Ev.refl w _ (fr.set rd))
def lGs (G : Gx) (E : XK) (g : MGs) : TGs := fun vs σ H Q => ∃ θ h ρ ds, W G θ h H ∧ Fr G θ H ρ σ ∧ DReps G θ H ds vs ∧ Post G (ofX G E) θ H (g ds ρ h) (fun ρ' θ' _ H' => ∀ σ', Fr G θ' H' ρ' σ' → Q σ' H')
@[irreducible] def DGs (X : Cx) (E : XK) (m : MGs) (es : List Expr) : Prop := PGs X es (lGs X.G E m)
theorem DGs_eq (X : Cx) (E : XK) (m : MGs) (es : List Expr) : DGs X E m es = (PGs X es (lGs X.G E m)) := by
  unfold DGs
  rfl
theorem dgs_nil : DGs X E gNil [] := by
  simp only [DGs_eq] at *
  exact fun pins s σ H vs us Q I r ⟨θ, h, ρ, ds, w, fr, rd, p⟩ => by
    cases rd with
    | nil => exact pgs_nil pins s σ H [] us Q I r ⟨rfl, p θ H Ev.refl w σ fr⟩
    | cons => exact p.elim
theorem dgs_cons {gs : MGs} {es : List Expr} (h1 : DG X E g e) (h2 : DGs X E gs es) (hs : (assignEach (e :: es) X.env).map (·.2) = assign e X.env :: (assignEach es X.env).map (·.2) := by rfl) : DGs X E (gCons g gs) (e :: es) := by
  simp only [DG_eq, DGs_eq] at *
  exact fun pins s σ H vs us Q I r ⟨θ, h, ρ, ds, w, fr, rd, p⟩ => by
      cases rd with
      | nil => exact p.elim
      | cons r1 rr => exact pgs_cons h1 h2 hs pins s σ H _ us Q I r ⟨_, _, rfl, θ, h, ρ, _, w, fr, r1, (Post.bind p).mono fun ρ1 θ1 h1 H1 _ _ ⟨ev, w1, p1⟩ σ1 fr1 => ⟨θ1, h1, ρ1, _, w1, fr1, DReps.ev ev rr, p1⟩⟩
theorem tup_get {G : Gx} {θ : List Addr} {H : Hp} {ds : List PyData} {v : V} (r : DRep G θ H (.dat (.tuple ds)) v) : ∃ a xs, v = .ref a ∧ view θ H a = some (.tup xs) ∧ Reps (view θ H) ds xs ∧ DReps G θ H (ds.map D.dat) xs := by
  obtain ⟨⟨a, xs, e, ha, rr⟩, s⟩ := r
  exact ⟨a, xs, e, ha, rr, of_reps rr (by simpa [sOk] using s)⟩
theorem lst_get {G : Gx} {θ : List Addr} {H : Hp} {ds : List PyData} {v : V} (r : DRep G θ H (.dat (.list ds)) v) : ∃ a xs, v = .ref a ∧ view θ H a = some (.lst xs) ∧ Reps (view θ H) ds xs ∧ DReps G θ H (ds.map D.dat) xs := by
  obtain ⟨⟨a, xs, e, ha, rr⟩, s⟩ := r
  exact ⟨a, xs, e, ha, rr, of_reps rr (by simpa [sOk] using s)⟩
@[irreducible] def Takes (gs : MGs) (n : Nat) : Prop := ∀ xs ρ h, xs.length ≠ n → gs xs ρ h = .bad
theorem Takes_eq (gs : MGs) (n : Nat) : Takes gs n = (∀ xs ρ h, xs.length ≠ n → gs xs ρ h = .bad) := by
  unfold Takes
  rfl
theorem takes_nil : Takes gNil 0 := by
  simp only [Takes_eq] at *
  exact fun xs ρ h ne => by
    cases xs with
    | nil => exact absurd rfl ne
    | cons => rfl
theorem takes_cons {g : Nat} {gs : MGs} {n : Nat} (t : Takes gs n) : Takes (gCons (gName g) gs) (n + 1) := by
  simp only [Takes_eq] at *
  exact fun xs ρ h ne => by
    cases xs with
    | nil => rfl
    | cons x xs => simp only [gCons, gName, R.bind_ok]; exact t xs _ h (by simpa using ne)
theorem dg_tup {es : List Expr} {k n : Nat} {gs : MGs} (hc : X.calm = true) (h : DGs X E gs es) (tk : Takes gs n) (hn : (assignEach es X.env).length = n := by rfl) (hst : (assignEach es X.env).findIdx? (·.1) = none := by rfl) : DG X E (gTup gs) (.Tuple es k pos) := by
  simp only [DG_eq, DGs_eq, Takes_eq] at *
  exact fun pins s σ H v u Q I r ⟨θ, hm, ρ, d, w, fr, rd, p⟩ => by
      cases d with
      | dat d =>
        cases d with
        | tuple ds =>
          obtain ⟨a, xs, e, ha, rr, rr2⟩ := tup_get rd
          have hl : xs.length = n := by
            have h1 : xs.length = ds.length := rr.length
            by_cases z : ds.length = n
            · rw [h1, z]
            · have p' := p
              simp only [gTup] at p'
              rw [tk (ds.map D.dat) ρ hm (by simpa using z)] at p'
              exact p'.elim
          exact pg_tup (n := n) hc h hn hst pins s σ H v u Q I r ⟨a, xs, e, SqT.of (view_same _ _ _ _ ha), hl, θ, hm, ρ, _, w, fr, rr2, p⟩
        | _ => exact p.elim
      | _ => exact p.elim
theorem ds_set (hN : X.N.Nodup) (hi : X.N[i]? = some x) (hx : Loc X.env.scope x) (he : DE X E m e) {pos' : Pos} (hs : swapsWith e (some (.Name x pos')) pos.line X.env = pure false := by rfl) (hf : X.fn x = true ∨ X.env.scope.names.lookup x = some .local := by first | exact .inl rfl | exact .inr rfl | assumption) :
    DS X E (sSet i m) (.Assign [.Name x pos'] e pos) := by
  simp only [DE_eq, DS_eq] at *
  exact PS.imp (ps_set hN hi hx he hs hf) fun C σ H ⟨θ, h, ρ, w, fr, p⟩ => ⟨θ, h, ρ, w, fr, (Post.bind p).mono fun d θ1 h1 H1 _ _ ⟨ev, w1, p1⟩ v r => p1 θ1 H1 Ev.refl w1 _ ((fr.ev ev).set r)⟩
theorem ds_asg {tg : Expr} (he : DE X E m e) (hg : DG X E g tg) (hs : swapsWithSole [tg] e pos.line X.env = pure false := by rfl) (hw : swappedStores [tg] e X.env = pure none := by rfl)
    (h1 : (assignEach [tg] X.env).map (·.2) = [assign tg X.env] := by rfl) : DS X E (sAsg g m) (.Assign [tg] e pos) := by
  simp only [DE_eq, DS_eq, DG_eq] at *
  exact PS.imp (ps_asg he hg hs hw h1) fun C σ H ⟨θ, h, ρ, w, fr, p⟩ => ⟨θ, h, ρ, w, fr, (Post.bind p).mono fun d θ1 h1 H1 _ _ ⟨ev, w1, p1⟩ v r =>
      ⟨θ1, h1, ρ, d, w1, fr.ev ev, r, (Post.bind p1).mono fun ρ1 θ2 h2 H2 _ _ ⟨ev2, w2, p2⟩ σ2 fr2 => p2 θ2 H2 Ev.refl w2 σ2 fr2⟩⟩
theorem ds_par2 {j : Nat} (h : PS X st (tPar i j (lA X.G E ma))) : DS X E (sPar [i, j] ma) st := by
  simp only [DS_eq] at *
  exact PS.imp h fun C σ H ⟨θ, h, ρ, w, fr, p⟩ => ⟨θ, h, ρ, w, fr, (Post.bind p).mono fun ds θ1 h1 H1 _ _ ⟨ev, w1, p1⟩ vs r => by
      cases r with
      | nil => exact p1.elim
      | cons r1 rr =>
        cases rr with
        | nil => exact p1.elim
        | cons r2 rr =>
          cases rr with
          | nil => exact ⟨_, _, rfl, p1 θ1 H1 Ev.refl w1 _ (((fr.ev ev).set r1).set r2)⟩
          | cons => exact p1.elim⟩
def ItRep (G : Gx) (θ : List Addr) (H : Hp) (xs : List D) (J : It) : Prop := ∀ θ' h' H', Ev θ H θ' H' → W G θ' h' H' →
  (∀ (i : Nat) (d : D), xs[i]? = some d → J.go i H' ∧ ∀ x H2, J.yld i H' x H2 → Ev θ' H' θ' H2 ∧ W G θ' h' H2 ∧ DRep G θ' H2 d x) ∧ J.stop xs.length H'
def lI (G : Gx) (E : XK) (m : MA) : TI := fun σ H R => ∃ θ h ρ, W G θ h H ∧ Fr G θ H ρ σ ∧ Post G (ofX G E) θ H (m ρ h) (fun xs θ' _ H' => ∀ J, ItRep G θ' H' xs J → R J H')
@[irreducible] def DI (X : Cx) (E : XK) (m : MA) (tg e : Expr) : Prop := PI X tg e (lI X.G E m)
theorem DI_eq (X : Cx) (E : XK) (m : MA) (tg e : Expr) : DI X E m tg e = (PI X tg e (lI X.G E m)) := by
  unfold DI
  rfl
theorem PI.imp {tg e : Expr} {t t' : TI} (h : PI X tg e t) (k : ∀ σ H Q, t' σ H Q → t σ H Q) : PI X tg e t' := fun pins s σ H Q I q => h pins s σ H Q I (k _ _ _ q)
theorem DReps.get {G : Gx} {θ : List Addr} {H : Hp} : ∀ {ds : List D} {vs : List V} {i : Nat} {d : D} {v : V}, DReps G θ H ds vs → ds[i]? = some d → vs[i]? = some v → DRep G θ H d v
  | _, _, i, _, _, .nil, e, _ => by simp at e
  | _, _, 0, _, _, .cons r _, e, e' => by simp at e e'; subst e; subst e'; exact r
  | _, _, i + 1, d, v, .cons _ t, e, e' => DReps.get (i := i) t (by simpa using e) (by simpa using e')
theorem DReps.some {G : Gx} {θ : List Addr} {H : Hp} {ds : List D} {vs : List V} {i : Nat} {d : D} (r : DReps G θ H ds vs) (e : ds[i]? = some d) : ∃ v, vs[i]? = some v ∧ DRep G θ H d v := by
  have hl : ds.length = vs.length := Paired.length r
  have hi : i < vs.length := by rw [← hl]; exact (List.getElem?_eq_some_iff.mp e).1
  exact ⟨vs[i], List.getElem?_eq_getElem hi, r.get e (List.getElem?_eq_getElem hi)⟩
theorem it_tup {G : Gx} {K : PySem.W.Frag} {θ : List Addr} {H : Hp} {ds : List D} {a : Addr} {xs : List V} (ha : view θ H a = some (.tup xs)) (r : DReps G θ H ds xs) : ItRep G θ H ds (Itt K a) := fun θ' h' H' ev w => by
  have ha' := view_same _ _ _ _ (ev.same _ _ ha)
  have q : SqT K H' a xs := SqT.of ha'
  refine ⟨fun i d e => ?_, ⟨xs, q, by rw [← show ds.length = xs.length from Paired.length r]; exact Nat.le_refl _⟩⟩
  obtain ⟨v, ev', rv⟩ := r.some e
  refine ⟨⟨xs, v, q, ev'⟩, fun x H2 ⟨e2, y⟩ => ?_⟩
  subst e2
  have := y xs q
  rw [ev'] at this
  cases this
  exact ⟨Ev.refl, w, rv.ev ev⟩
theorem it_lst {G : Gx} {K : PySem.W.Frag} {θ : List Addr} {H : Hp} {ds : List D} {a : Addr} {xs : List V} (ha : view θ H a = some (.lst xs)) (r : DReps G θ H ds xs) : ItRep G θ H ds (Itl K a) := fun θ' h' H' ev w => by
  have ha' := view_same _ _ _ _ (ev.same _ _ ha)
  have q : SqL K H' a xs := SqL.of ha'
  refine ⟨fun i d e => ?_, ⟨xs, q, by rw [← show ds.length = xs.length from Paired.length r]; exact Nat.le_refl _⟩⟩
  obtain ⟨v, ev', rv⟩ := r.some e
  refine ⟨⟨xs, v, q, ev'⟩, fun x H2 ⟨e2, y⟩ => ?_⟩
  subst e2
  have := y xs q
  rw [ev'] at this
  cases this
  exact ⟨Ev.refl, w, rv.ev ev⟩
theorem di_tup {tg : Expr} (h : DE X E m e) : DI X E (itTup m) tg e := by
  simp only [DE_eq, DI_eq] at *
  exact PI.imp (pi_tup h) fun σ H R ⟨θ, h, ρ, w, fr, p⟩ => ⟨θ, h, ρ, w, fr, (Post.bind p).mono fun d θ1 h1 H1 _ _ ⟨ev, w1, p1⟩ v r => by
      cases d with
      | dat d =>
        cases d with
        | tuple ds =>
          obtain ⟨a, xs, e, ha, _, rr⟩ := tup_get r
          exact ⟨a, e, ⟨xs, SqT.of (view_same _ _ _ _ ha)⟩, p1 θ1 H1 Ev.refl w1 _ (it_tup ha rr)⟩
        | _ => exact p1.elim
      | _ => exact p1.elim⟩
theorem di_lst {tg : Expr} (h : DE X E m e) : DI X E (itLst m) tg e := by
  simp only [DE_eq, DI_eq] at *
  exact PI.imp (pi_list h) fun σ H R ⟨θ, h, ρ, w, fr, p⟩ => ⟨θ, h, ρ, w, fr, (Post.bind p).mono fun d θ1 h1 H1 _ _ ⟨ev, w1, p1⟩ v r => by
      cases d with
      | dat d =>
        cases d with
        | list ds =>
          obtain ⟨a, xs, e, ha, _, rr⟩ := lst_get r
          exact ⟨a, e, ⟨xs, SqL.of (view_same _ _ _ _ ha)⟩, p1 θ1 H1 Ev.refl w1 _ (it_lst ha rr)⟩
        | _ => exact p1.elim
      | _ => exact p1.elim⟩
theorem sign_ok {x : Str} {i : Nat} (s : PyData.strOk x = true) : PyData.strOk ⟨#[x.cps.getD i 0]⟩ = true := by
  have q := Array.all_eq_true.mp s
  simp only [PyData.strOk]
  apply Array.all_eq_true.mpr
  intro j hj
  simp only [List.size_toArray, List.length_cons, List.length_nil] at hj
  have : j = 0 := by omega
  subst this
  simp only [List.getElem_toArray, List.getElem_cons_zero]
  by_cases hi : i < x.cps.size
  · have := q i hi
    simpa [Array.getD, hi] using this
  · simp [Array.getD, hi]
theorem di_str {tg : Expr} (h : DE X E m e) : DI X E (itStr m) tg e := by
  simp only [DE_eq, DI_eq] at *
  exact PI.imp (pi_str h) fun σ H R ⟨θ, h, ρ, w, fr, p⟩ => ⟨θ, h, ρ, w, fr, (Post.bind p).mono fun d θ1 h1 H1 _ _ ⟨ev, w1, p1⟩ v r => by
      cases d with
      | dat d =>
        cases d with
        | str s =>
          obtain ⟨r1, r2⟩ := r
          refine ⟨s, r1, p1 θ1 H1 Ev.refl w1 _ fun θ' h' H' ev w => ⟨fun i d e => ?_, by show (signs s).length = _; simp [signs]⟩⟩
          simp only [signs, List.getElem?_map, Option.map_eq_some_iff] at e
          obtain ⟨j, e1, e2⟩ := e
          obtain ⟨hj, e3⟩ := List.getElem?_eq_some_iff.mp e1
          simp at hj e3
          subst e3
          subst e2
          refine ⟨hj, fun x H2 ⟨z1, z2⟩ => ?_⟩
          subst z1
          subst z2
          exact ⟨Ev.refl, w, rfl, by simp only [sOk]; exact sign_ok (by simpa [sOk] using r2)⟩
        | _ => exact p1.elim
      | _ => exact p1.elim⟩
theorem it_nums {G : Gx} {θ : List Addr} {H : Hp} {lo : Int} {n : Nat} : ItRep G θ H (nums lo n) (Itr lo n) := fun θ' h' H' ev w => by
  refine ⟨fun i d e => ?_, by show n ≤ (nums lo n).length; simp [nums]⟩
  simp only [nums, List.getElem?_map, Option.map_eq_some_iff] at e
  obtain ⟨j, e1, e2⟩ := e
  obtain ⟨hj, e3⟩ := List.getElem?_eq_some_iff.mp e1
  simp at hj e3
  subst e3
  subst e2
  refine ⟨hj, fun x H2 ⟨z1, z2⟩ => ?_⟩
  subst z1
  subst z2
  exact ⟨Ev.refl, w, rfl, by simp [sOk]⟩
theorem int_get {G : Gx} {θ : List Addr} {H : Hp} {j : Int} {v : V} (r : DRep G θ H (.int j) v) : v = .int j := r.1
theorem di_rng1 {tg a : Expr} {p' pos' : Pos} (hg : Gl X "range") (hm : X.mg "range" = none) (ha : DA X E ma [a]) (hs : starEach [a] X.env = [(false, eval a X.env)] := by rfl) : DI X E (itRng ma) tg (.Call (.Name "range" p') [a] [] pos') := by
  simp only [DA_eq, DI_eq] at *
  exact PI.imp (pi_range1 hg hm ha hs) fun σ H R ⟨θ, h, ρ, w, fr, p⟩ => ⟨θ, h, ρ, w, fr, (Post.bind p).mono fun ds θ1 h1 H1 _ _ ⟨ev, w1, p1⟩ vs r => by
      split at p1
      · split at p1
        · rename_i j _ hj
          cases r with
          | cons r1 rr =>
            cases rr
            cases int_get r1
            exact ⟨j, rfl, hj.1, hj.2, p1 θ1 H1 Ev.refl w1 _ it_nums⟩
        · exact p1.elim
      · exact p1.elim⟩
theorem zipD_len : ∀ (xs ys : List PyData), (zipD xs ys).length = min xs.length ys.length
  | [], _ => by simp [zipD]
  | _ :: _, [] => by simp [zipD]
  | x :: xs, y :: ys => by simp [zipD, zipD_len xs ys]
theorem zipD_get : ∀ (xs ys : List PyData) (i : Nat) (d : D), (zipD xs ys)[i]? = some d → ∃ x y, xs[i]? = some x ∧ ys[i]? = some y ∧ d = .dat (.tuple [x, y])
  | [], _, i, d, e => by simp [zipD] at e
  | _ :: _, [], i, d, e => by simp [zipD] at e
  | x :: xs, y :: ys, 0, d, e => by simp [zipD] at e; exact ⟨x, y, rfl, rfl, e.symm⟩
  | x :: xs, y :: ys, i + 1, d, e => by simpa using zipD_get xs ys i d (by simpa [zipD] using e)
theorem sOks_get : ∀ {ds : List PyData} {i : Nat} {d : PyData}, sOks ds = true → ds[i]? = some d → sOk d = true
  | [], i, d, _, e => by simp at e
  | x :: xs, 0, d, s, e => by simp [sOks] at s e; subst e; exact s.1
  | x :: xs, i + 1, d, s, e => by simp [sOks] at s; exact sOks_get (i := i) s.2 (by simpa using e)
theorem di_zip {kk : Nat} {es : List Expr} {tpos : Pos} {e1 e2 : Expr} {p' pos' : Pos} (hg : Gl X "zip") (hm : X.mg "zip" = none) (ha : DA X E ma [e1, e2]) (hs : starEach [e1, e2] X.env = [(false, eval e1 X.env), (false, eval e2 X.env)] := by rfl) (hs2 : starEach [e2] X.env = [(false, eval e2 X.env)] := by rfl) :
    DI X E (itZip ma) (.Tuple es kk tpos) (.Call (.Name "zip" p') [e1, e2] [] pos') := by
  simp only [DA_eq, DI_eq] at *
  exact PI.imp (pi_zip hg hm ha hs hs2) fun σ H R ⟨θ, h, ρ, w, fr, p⟩ => ⟨θ, h, ρ, w, fr, (Post.bind p).mono fun ds θ1 h1 H1 _ _ ⟨ev, w1, p1⟩ vs r => by
      split at p1
      · rename_i xs ys _
        cases r with
        | cons r1 rr =>
          cases rr with
          | cons r2 rr =>
            cases rr
            have s1 : sOks xs = true := by simpa [sOk] using r1.2
            have s2 : sOks ys = true := by simpa [sOk] using r2.2
            obtain ⟨a1, us, rfl, ha1, q1, _⟩ := tup_get r1
            obtain ⟨a2, ws, rfl, ha2, q2, _⟩ := tup_get r2
            refine ⟨a1, a2, us, ws, rfl, SqT.of (view_same _ _ _ _ ha1), SqT.of (view_same _ _ _ _ ha2), p1 θ1 H1 Ev.refl w1 _ fun θ' h' H' ev' w' => ?_⟩
            have k1 : SqT X.K H' a1 us := SqT.of (view_same _ _ _ _ (ev'.same _ _ ha1))
            have k2 : SqT X.K H' a2 ws := SqT.of (view_same _ _ _ _ (ev'.same _ _ ha2))
            have l1 := q1.length
            have l2 := q2.length
            refine ⟨fun i d e => ?_, ⟨us, ws, k1, k2, by rw [zipD_len, l1, l2]; omega⟩⟩
            obtain ⟨x, y, ex, ey, rfl⟩ := zipD_get _ _ _ _ e
            obtain ⟨u, eu, ru⟩ := Reps.get' q1 ex
            obtain ⟨z, ez, rz⟩ := Reps.get' q2 ey
            refine ⟨⟨us, ws, u, z, k1, k2, eu, ez⟩, fun v H2 ⟨pp, x', y', e1, hp, e2, c1, c2⟩ => ?_⟩
            have := c1 us k1
            rw [eu] at this
            cases this
            have := c2 ws k2
            rw [ez] at this
            cases this
            subst e1
            subst e2
            obtain ⟨e3, w3, g3⟩ := w'.put (o := .tup [u, z]) hp
            exact ⟨e3, w3, ⟨pp, [u, z], rfl, g3, .cons (ru.same (ev'.same.trans e3.same)) (.one (rz.same (ev'.same.trans e3.same)))⟩, by simp [sOk, sOks, sOks_get s1 ex, sOks_get s2 ey]⟩
      · exact p1.elim⟩
abbrev E0' : XK := fun _ _ _ => False
theorem Post.noXbind {α β : Type} {G : Gx} {F : XP} {θ : List Addr} {H : Hp} {r : R α} {f : α → Hm → R β} {L : β → List Addr → Hm → Hp → Prop} (p : Post G F θ H (r.noX.bind f) L) {F' : XP} :
    Post G F' θ H r fun a θ1 h1 H1 => Ev θ H θ1 H1 ∧ W G θ1 h1 H1 ∧ Post G F θ1 H1 (f a h1) L := by
  cases r with
  | ok a h' => exact fun θ1 H1 e w => ⟨e, w, Post.later p e⟩
  | exc x h' => exact p.elim
  | bad => exact p.elim
theorem PS.nox {X : Cx} {st : Stmt} {t : TS} (h : PS X.nox st t) : PS X st t := fun pins s σ H D I hw =>
  wpAny_mono (h pins s σ H D (I.wish _) hw) (fun _ _ q => q.unwish) fun _ _ z => False.elim z
end
end Ml
namespace L2
open PySem PySem.Spec PyProof.Rows
theorem Fun.okX {P : Program} {w : World} {K : PySem.W.Frag} {mg : Str → Option Value} {base : Heap} {x qual : Str} {st : Stmt} {f : Addr} {fd : FuncData} {N ps : List Str} {k : Nat} {sp : Sp} (F : Fun K x qual st f fd) (S : FnScope N ps (defScope st)) (len : ∀ vs H Q E, sp vs H Q E → vs.length = ps.length)
    (hbody : ∀ (cdv : Value) (A : Around) (outer : List Env) (s : Shared) (H : Hp) (vs : List V) (Q : VK) (E : XK), Room k (A.deeper (envOfC qual (defScope st) s.heap.objs.size f cdv)) → sp vs H Q E →
      ∃ t, PSs (cxOf (Fly P w) P w K mg base N qual (defScope st) f cdv A outer s H E) (defBody st) t ∧ t { nx := fun _ H' => Q .non H', rt := Q } (start N vs) H) : FnOk P w K mg base (Fly P w) (k + 1) f fd ps sp := by
  obtain ⟨oc, od, kV, doc, pm, an, cdv, ct, osl, rfl, lk, hcd⟩ := F.ex
  exact fn_of lk hcd S len fun A outer s H vs Q E hr hsp => hbody cdv A outer s H vs Q E hr hsp
structure HasFnX (P : Program) (w : World) (K : PySem.W.Frag) (mg : Str → Option Value) (base : Heap) (x : Str) (ps : List Str) (k : Nat) (sp : Sp) : Prop where
  ex : ∃ (f : Addr) (fd : FuncData), mg x = some (.ref f) ∧ PySem.W.keepIn K (.ref f) = true ∧ Binds K fd ps [] ∧ FnOk P w K mg base (Fly P w) k f fd ps sp
section
variable {X : Cx} {x : Str} {ps : List Str} {k : Nat} {sp : Sp} {e : Expr} {es : List Expr} {t : TA} {p pos : Pos}
theorem pe_fnX {E : XK} (F : HasFnX X.prog X.w X.K X.mg X.base x ps k sp) (hx : Passes (Fly X.prog X.w) X E) (hr : Room k X.A) (hg : Gl X x) (ha : PA X (e :: es) t) (hdb : (x == ("__debug__" : Str)) = false := by decide) (he : starEach (e :: es) X.env = (false, eval e X.env) :: starEach es X.env := by rfl)
    (hpl : (backTo pos (starEach es X.env)).any (·.1) = false := by rfl) : PE X (.Call (.Name x p) (e :: es) [] pos) (tCall sp [] E t) := by
  obtain ⟨f, fd, h1, h2, h3, h4⟩ := F.ex
  exact pe_call h4 hr hg h1 h2 h3 .nil hx ha hdb he hpl
end
end L2
namespace Ml
open PySem PySem.Spec L2
section
variable {X : Cx} {E : XK} {m : ME} {a b : MS} {t : MT} {e e1 tg : Expr} {st : Stmt} {ss ss' : List Stmt} {ma it : MA} {pos : Pos} {i : Nat} {x : Str} {g : MG}
theorem for_step {G : Gx} {F : XP} {θ1 : List Addr} {H1 : Hp} {h1 : Hm} {xs : List D} {J : It} {C : Ends} {σ : St} {ρ : Fm} (hJ : ItRep G θ1 H1 xs J) (w1 : W G θ1 h1 H1) (fr : Fr G θ1 H1 ρ σ) (p1 : Post G F θ1 H1 (forGo g b xs ρ h1) (KS G C)) :
    ∃ W' : Nat → Nat → St → Hp → Prop, (∃ m, W' 0 m σ H1) ∧ ∀ i m σ H, W' i m σ H →
      (J.stop i H ∧ C.nx σ H) ∨ (J.go i H ∧ ∃ N : St → Hp → Prop, (∀ σ' H', N σ' H' → ∃ m', m' < m ∧ W' (i + 1) m' σ' H') ∧ ∀ x H', J.yld i H x H' → lG G E0' g x σ H' fun σ2 H2 => lS G E0' b { C with nx := N, ct := N, bk := C.nx } σ2 H2) := by
  refine ⟨fun i m σ H => m = xs.length - i ∧ i ≤ xs.length ∧ ∃ θ' h' ρ', Ev θ1 H1 θ' H ∧ W G θ' h' H ∧ Fr G θ' H ρ' σ ∧ Post G F θ' H (forGo g b (xs.drop i) ρ' h') (KS G C), ⟨xs.length, by simp, Nat.zero_le _, θ1, h1, ρ, Ev.refl, w1, fr, p1⟩, ?_⟩
  rintro i m σ H ⟨rfl, hi, θ', h', ρ', ev, w, fr', p⟩
  obtain ⟨j1, j2⟩ := hJ θ' h' H ev w
  by_cases hlt : i < xs.length
  · have ed : xs.drop i = xs[i] :: xs.drop (i + 1) := List.drop_eq_getElem_cons hlt
    rw [ed] at p
    obtain ⟨g1, g2⟩ := j1 i xs[i] (List.getElem?_eq_getElem hlt)
    refine .inr ⟨g1, fun σ2 H2 => i + 1 ≤ xs.length ∧ ∃ θ' h' ρ', Ev θ1 H1 θ' H2 ∧ W G θ' h' H2 ∧ Fr G θ' H2 ρ' σ2 ∧ Post G F θ' H2 (forGo g b (xs.drop (i + 1)) ρ' h') (KS G C), fun σ' H' q => ⟨xs.length - (i + 1), by omega, rfl, q⟩, fun x H2 y => ?_⟩
    obtain ⟨e2, w2, r2⟩ := g2 x H2 y
    refine ⟨θ', h', ρ', xs[i], w2, fr'.ev e2, r2, (Post.noXbind (p.later e2)).mono fun ρ3 θ3 h3 H3 _ _ ⟨e3, w3, p3⟩ σ3 fr3 => ⟨θ3, h3, ρ3, w3, fr3, (Post.noXbind p3).mono fun f θ4 h4 H4 _ _ ⟨e4, w4, p4⟩ => ?_⟩⟩
    have ev4 := (ev.trans e2).trans (e3.trans e4)
    cases f with
    | nx ρ5 => exact fun σ5 fr5 => ⟨hlt, θ4, h4, ρ5, ev4, w4, fr5, p4⟩
    | ct ρ5 => exact fun σ5 fr5 => ⟨hlt, θ4, h4, ρ5, ev4, w4, fr5, p4⟩
    | bk ρ5 => exact p4 θ4 H4 Ev.refl w4
    | rt d => exact p4 θ4 H4 Ev.refl w4
  · have hx : i = xs.length := by omega
    subst hx
    rw [List.drop_of_length_le (Nat.le_refl _)] at p
    exact .inl ⟨j2, p θ' H Ev.refl w σ fr'⟩
theorem ds_for {body : List Stmt} (hc : X.calm = true) (hi : DI X.nox E0' it tg e) (hg : DG X.nox E0' g tg) (hb : DSs X.nox E0' b body) (hs : ∀ x, foldedSetIterable e X.env x = pure x := by intro _; rfl) : DS X E (sFor it g b) (.For tg e body [] pos) := by
  simp only [DS_eq, DSs_eq, DG_eq, DI_eq] at *
  exact PS.nox (PS.imp (ps_for PassesOwn.never hc hi hg hb hs) fun C σ H ⟨θ, h, ρ, w, fr, p⟩ => ⟨θ, h, ρ, w, fr, (Post.noXbind p).mono fun xs θ1 h1 H1 _ _ ⟨ev, w1, p1⟩ J hJ => for_step hJ w1 (fr.ev ev) p1⟩)
theorem paired_append {α β : Type} {G : α → β → Prop} : ∀ {xs ys : List α} {us ws : List β}, Paired G xs us → Paired G ys ws → Paired G (xs ++ ys) (us ++ ws)
  | _, _, _, _, .nil, s => s
  | _, _, _, _, .cons r t, s => .cons r (paired_append t s)
theorem comp_step {G : Gx} {F : XP} {n : Nat} {θ1 : List Addr} {H1 : Hp} {h1 : Hm} {xs : List D} {J : It} {σ : St} {ρ : Fm} {Q : VK} {mk : List D → Hm → R D} (hJ : ItRep G θ1 H1 xs J) (w1 : W G θ1 h1 H1) (fr : Fr G θ1 H1 ρ σ) (p1 : Post G F θ1 H1 ((compGo n ρ g t m xs h1).bind mk) (KV G Q))
    (hmk : ∀ ys vs θ h H, ys.length ≤ xs.length → W G θ h H → DReps G θ H ys vs → Post G F θ H (mk ys h) (KV G Q) → ∀ p, H p = none → Q (.ref p) (upd H p (.lst vs))) (hz : xs.length ≤ sizeLine) :
    compW n J (lG G E0' g) (lT G E0' t) (lE G E0' m) σ H1 Q := by
  refine ⟨fun i m' ys H => m' = xs.length - i ∧ i ≤ xs.length ∧ ∃ θ' h' acc, acc.length ≤ i ∧ Ev θ1 H1 θ' H ∧ W G θ' h' H ∧ DReps G θ' H acc ys ∧ Post G F θ' H ((compGo n ρ g t m (xs.drop i) h').bind fun zs h2 => mk (acc ++ zs) h2) (KV G Q),
    ⟨xs.length, by simp, Nat.zero_le _, θ1, h1, [], Nat.le_refl _, Ev.refl, w1, .nil, p1⟩, ?_⟩
  rintro i m' ys H ⟨rfl, hi, θ', h', acc, hacc, ev, w, ra, p⟩
  obtain ⟨j1, j2⟩ := hJ θ' h' H ev w
  have hly : ys.length ≤ sizeLine := by rw [← show acc.length = ys.length from Paired.length ra]; omega
  by_cases hlt : i < xs.length
  · have ed : xs.drop i = xs[i] :: xs.drop (i + 1) := List.drop_eq_getElem_cons hlt
    rw [ed] at p
    obtain ⟨g1, g2⟩ := j1 i xs[i] (List.getElem?_eq_getElem hlt)
    refine .inr ⟨g1, hly, fun ys2 H2 => i + 1 ≤ xs.length ∧ ∃ θ' h' acc, acc.length ≤ i + 1 ∧ Ev θ1 H1 θ' H2 ∧ W G θ' h' H2 ∧ DReps G θ' H2 acc ys2 ∧ Post G F θ' H2 ((compGo n ρ g t m (xs.drop (i + 1)) h').bind fun zs h2 => mk (acc ++ zs) h2) (KV G Q), fun ys' H' q => ⟨xs.length - (i + 1), by omega, rfl, q⟩, fun x H2 y => ?_⟩
    obtain ⟨e2, w2, r2⟩ := g2 x H2 y
    have p2 := p.later e2
    unfold compGo at p2
    simp only [R.bind_assoc] at p2
    refine ⟨θ', h', _, xs[i], w2, ((fr.ev ev).ev e2).replicate n, r2, (Post.noXbind p2).mono fun ρ3 θ3 h3 H3 _ _ ⟨e3, w3, p3⟩ σ3 fr3 => ⟨θ3, h3, ρ3, w3, fr3, (Post.noXbind p3).mono fun c θ4 h4 H4 _ _ ⟨e4, w4, p4⟩ => ?_⟩⟩
    have ev4 := (ev.trans e2).trans (e3.trans e4)
    have ra4 := DReps.ev (e2.trans (e3.trans e4)) ra
    cases c with
    | false => exact ⟨hlt, θ4, h4, acc, by omega, ev4, w4, ra4, p4⟩
    | true =>
      simp only [if_true, R.bind_assoc] at p4
      refine ⟨θ4, h4, ρ3, w4, fr3.ev e4, (Post.noXbind p4).mono fun y θ5 h5 H5 _ _ ⟨e5, w5, p5⟩ v5 r5 => ⟨hlt, θ5, h5, acc ++ [y], by simp; omega, ev4.trans e5, w5, ?_, ?_⟩⟩
      · exact paired_append (DReps.ev e5 ra4) (.cons r5 .nil)
      · simp only [R.bind_assoc, R.bind_ok] at p5
        simpa using p5
  · have hx : i = xs.length := by omega
    subst hx
    rw [List.drop_of_length_le (Nat.le_refl _)] at p
    simp only [compGo, R.bind_ok, List.append_nil] at p
    exact .inl ⟨j2, hly, hmk acc ys θ' h' H hacc w ra p⟩
variable {own : List Str} {scope : Scope} {elt : Expr} {ifs : List Expr}
@[irreducible] def DTs (X : Cx) (E : XK) (t : MT) (es : List Expr) : Prop := PTs X es (lT X.G E t)
theorem DTs_eq (X : Cx) (E : XK) (t : MT) (es : List Expr) : DTs X E t es = (PTs X es (lT X.G E t)) := by
  unfold DTs
  rfl
theorem dts_nil : DTs X E tTrue [] := by
  simp only [DTs_eq] at *
  exact fun pins s σ H Q I ⟨θ, h, ρ, w, fr, p⟩ => pts_nil pins s σ H Q I (p θ H Ev.refl w)
theorem dts_one (h : DT X E t e) : DTs X E t [e] := by
  simp only [DT_eq, DTs_eq] at *
  exact pts_one h
theorem lE_comp {G : Gx} {n : Nat} {mk : List D → Hm → R D} {σ : St} {H : Hp} {Q : VK} (h : lE G E (eCall mk (aComp n it g t m)) σ H Q)
    (hmk : ∀ ys vs θ h H, ys.length ≤ sizeLine → W G θ h H → DReps G θ H ys vs → Post G (ofX G E) θ H (mk ys h) (KV G Q) → ∀ p, H p = none → Q (.ref p) (upd H p (.lst vs))) :
    tComp n (lI G E it) (lG G E0' g) (lT G E0' t) (lE G E0' m) σ H Q := by
  obtain ⟨θ, h, ρ, w, fr, p⟩ := h
  simp only [eCall, aComp, R.bind_assoc] at p
  refine ⟨θ, h, ρ, w, fr, (Post.bind p).mono fun xs θ1 h1 H1 _ _ ⟨ev, w1, p1⟩ J hJ => ?_⟩
  split at p1
  · rename_i hz
    exact comp_step hJ w1 (fr.ev ev) p1 (fun ys vs θ h H hl => hmk ys vs θ h H (Nat.le_trans hl (szOk_le hz))) (szOk_le hz)
  · exact p1.elim
theorem mkLst_post {G : Gx} {F : XP} {Q : VK} (ys : List D) (vs : List V) (θ : List Addr) (h : Hm) (H : Hp) (w1 : W G θ h H) (r1 : DReps G θ H ys vs) (p1 : Post G F θ H (mkLst ys h) (KV G Q)) (q : Addr) (hq : H q = none) : Q (.ref q) (upd H q (.lst vs)) := by
  unfold mkLst at p1
  cases e : datas ys with
  | none => rw [e] at p1; exact p1.elim
  | some ds =>
    rw [e] at p1
    simp only at p1
    split at p1
    · obtain ⟨e1, w2, g⟩ := w1.put (o := .lst vs) hq
      obtain ⟨h1, h2⟩ := reps_of r1 e
      exact p1 _ _ e1 w2 _ ⟨⟨q, vs, rfl, g, h1.same e1.same⟩, by simp [sOk, h2]⟩
    · exact p1.elim
theorem de_comp (own : List Str) (CS : compLook X.env.scope X.N own scope = true) (hc : X.calm = true) (hi : DI X E it tg e) (hg : ∀ C s2 H2 fp pins, DG (cxComp X own scope C s2 H2 fp pins) E0' g tg)
    (ht : ∀ C s2 H2 fp pins, DTs (cxComp X own scope C s2 H2 fp pins) E0' t ifs) (he : ∀ C s2 H2 fp pins, DE (cxComp X own scope C s2 H2 fp pins) E0' m elt) (hs : ∀ x, foldedSetIterable e X.env x = pure x := by intro _; rfl) :
    DE X E (eComp own.length it g t m) (.ListComp elt [⟨tg, e, ifs, 0⟩] scope pos) := by
  simp only [DE_eq, DG_eq, DI_eq, DTs_eq] at *
  exact PE.imp (pe_comp (g := lG X.G E0' g) (tc := lT X.G E0' t) (te := lE X.G E0' m) own CS hc hi hg ht he hs) fun σ H Q q => lE_comp q fun ys vs θ h H _ => mkLst_post ys vs θ h H
end
def spM (G : Gx) (F : Fn) : Sp := fun vs H Q E => ∃ θ h ds, W G θ h H ∧ DReps G θ H ds vs ∧ Post G (ofX G E) θ H (F ds h) (KV G Q)
def Arity (F : Fn) (n : Nat) : Prop := ∀ ds h, ds.length ≠ n → F ds h = .bad
theorem spM_len {G : Gx} {F : Fn} {n : Nat} (ar : Arity F n) : ∀ vs H Q E, spM G F vs H Q E → vs.length = n := fun vs H Q E ⟨θ, h, ds, w, r, p⟩ => by
  by_cases e : ds.length = n
  · rw [← e]; exact (Paired.length r).symm
  · rw [ar ds h e] at p; exact p.elim
theorem arity_run {p n : Nat} {b : MS} : Arity (runFn p n b) p := fun ds h e => by unfold runFn; rw [if_neg e]
structure HasM (P : Program) (w : World) (K : PySem.W.Frag) (mg : Str → Option Value) (base : Heap) (x : Str) (ps : List Str) (k : Nat) (F : Fn) : Prop where
  has : HasFnX P w K mg base x ps k (spM ⟨P, w, mg, K⟩ F)
  ar : Arity F ps.length
section
variable {P : Program} {w : World} {K : PySem.W.Frag} {mg : Str → Option Value} {base : Heap} {x qual : Str} {st : Stmt} {f : Addr} {fd : FuncData} {N ps : List Str} {k : Nat} {b : MS} {F : Fn}
theorem Fr.start {G : Gx} {θ : List Addr} {H : Hp} {ds : List D} {vs : List V} {n : Nat} (r : DReps G θ H ds vs) (hl : ds.length = ps.length) : Fr G θ H (ds.map some ++ List.replicate (N.length - ps.length) none) (start N vs) := by
  have hv : ds.length = vs.length := Paired.length r
  unfold L2.start
  rw [← hv, hl]
  refine ⟨by simp [← hv, hl], fun i d e => ?_⟩
  by_cases hi : i < ds.length
  · rw [List.getElem?_append_left (by simpa using hi)] at e
    rw [List.getElem?_append_left (by simpa [← hv] using hi)]
    simp only [List.getElem?_map] at e ⊢
    cases e1 : ds[i]? with
    | none => rw [e1] at e; cases e
    | some d' =>
      rw [e1] at e
      simp at e
      subst e
      obtain ⟨v, e2, rv⟩ := r.some e1
      exact ⟨v, by rw [e2]; rfl, rv⟩
  · rw [List.getElem?_append_right (by simpa using hi), List.getElem?_replicate] at e
    split at e <;> cases e
theorem fnM (Fu : Fun K x qual st f fd) (S : FnScope N ps (defScope st)) (hbody : ∀ (cdv : Value) (A : Around) (outer : List Env) (s : Shared) (H : Hp) (E : XK), Room k (A.deeper (PyProof.Rows.envOfC qual (defScope st) s.heap.objs.size f cdv)) →
      DSs (cxOf (Fly P w) P w K mg base N qual (defScope st) f cdv A outer s H E) E b (defBody st)) : FnOk P w K mg base (Fly P w) (k + 1) f fd ps (spM ⟨P, w, mg, K⟩ (runFn ps.length N.length b)) := by
  simp only [DSs_eq] at *
  refine Fu.okX S (spM_len arity_run) fun cdv A outer s H vs Q E hr ⟨θ, h, ds, w, r, p⟩ => ⟨_, hbody cdv A outer s H E hr, ?_⟩
  unfold runFn at p
  split at p
  · rename_i hl
    refine ⟨θ, h, _, w, Fr.start (N := N) (n := 0) r hl, (Post.bind p).mono fun fl θ1 h1 H1 _ _ ⟨ev, w1, p1⟩ => ?_⟩
    cases fl with
    | nx ρ => exact fun σ fr => p1 θ1 H1 Ev.refl w1 _ ⟨rfl, by simp [sOk]⟩
    | rt d => exact p1 θ1 H1 Ev.refl w1
    | bk ρ => exact p1.elim
    | ct ρ => exact p1.elim
  · exact p.elim
theorem HasM.eq {F' : Fn} (h : HasM P w K mg base x ps k F) (e : F = F') : HasM P w K mg base x ps k F' := e ▸ h
end
section
variable {X : Cx} {E : XK} {x : Str} {ps : List Str} {k : Nat} {F : Fn} {e : Expr} {es : List Expr} {ma : MA} {p pos : Pos}
theorem pass0' : Passes (Fly X.prog X.w) X E0' := fun _ _ _ _ _ _ _ ⟨_, _, _, _, _, _, _, _, _, _, _, _, _, h⟩ => h.elim
theorem de_fn (F' : HasM X.prog X.w X.K X.mg X.base x ps k F) (hx : Passes (Fly X.prog X.w) X E) (hr : Room k X.A) (hg : Gl X x) (ha : DA X E ma (e :: es)) (hdb : (x == ("__debug__" : Str)) = false := by decide) (he : starEach (e :: es) X.env = (false, eval e X.env) :: starEach es X.env := by rfl)
    (hpl : (backTo pos (starEach es X.env)).any (·.1) = false := by rfl) : DE X E (eCall F ma) (.Call (.Name x p) (e :: es) [] pos) := by
  simp only [DE_eq, DA_eq] at *
  exact PE.imp (pe_fnX F'.has hx hr hg ha hdb he hpl) fun σ H Q ⟨θ, h, ρ, w, fr, p⟩ => ⟨θ, h, ρ, w, fr, (Post.bind p).mono fun xs θ1 h1 H1 _ _ ⟨ev, w1, p1⟩ vs r => ⟨θ1, h1, xs, w1, by simpa using r, p1⟩⟩
end
end Ml
namespace Ml
open PySem PySem.Spec L2
theorem scV_reads {h : Heap} {x : PyData} {u : Value} (hx : (match x with | .int _ | .str _ | .bool _ | .none => true | _ => false) = true) (r : RelV (scV x) u) : Reads h u x [] := by
  cases x with
  | none => cases r; exact .none
  | bool b => cases r; exact .bool b
  | int i => obtain ⟨t, rfl⟩ := r; exact .int i t
  | str s => obtain ⟨t, rfl⟩ := r; exact .str s t
  | _ => cases hx
theorem scV_readsAll {h : Heap} : ∀ {xs : List PyData} {us : List Value}, (∀ x ∈ xs, (match x with | .int _ | .str _ | .bool _ | .none => true | _ => false) = true) → Vals (xs.map scV) us → ReadsAll h us xs []
  | [], us, _, r => by cases r; exact .nil
  | x :: xs, us, hx, r => by
    cases r with
    | cons r1 r2 => exact .cons (as := []) (bs := []) (scV_reads (hx x (by simp)) r1) (scV_readsAll (fun y m => hx y (by simp [m])) r2)
section
variable {X : Cx} {pins : List (Addr × Obj)} {σ : L2.St} {H : Hp} {s : Shared} {θ : List Addr} {hm : Hm}
theorem read_of (I : Inv X pins σ H s) (w : W X.G θ hm H) : ∀ (n : Nat) {x : D} {v : V} {u : Value} {d : PyData}, DRep X.G θ H x v → RelV v u → deN hm n x = some d → (∃ as, Reads s.heap u d as) ∧ sOk d = true := by
  intro n
  induction n with
  | zero =>
    intro x v u d r rv e
    cases x with
    | dat d' => simp only [deN] at e; cases e; exact ⟨Rep.reads I (r.1.same (view_same _ _)) rv, r.2⟩
    | ktup xs =>
      simp only [deN] at e
      cases e
      obtain ⟨a, rfl, ⟨o, its, k, hl, hc, hd, _, vs⟩, hx, hs⟩ := r
      cases rv
      exact ⟨⟨_, .tuple (I.kIn _ _ hl) hc hd (scV_readsAll hx vs)⟩, by simpa [sOk] using hs⟩
    | _ => simp [deN] at e
  | succ n ih =>
    intro x v u d r rv e
    cases x with
    | dat d' => simp only [deN] at e; cases e; exact ⟨Rep.reads I (r.1.same (view_same _ _)) rv, r.2⟩
    | ktup xs =>
      simp only [deN] at e
      cases e
      obtain ⟨a, rfl, ⟨o, its, k, hl, hc, hd, _, vs⟩, hx, hs⟩ := r
      cases rv
      exact ⟨⟨_, .tuple (I.kIn _ _ hl) hc hd (scV_readsAll hx vs)⟩, by simpa [sOk] using hs⟩
    | ref i =>
      simp only [deN] at e
      obtain ⟨a, ha, rfl⟩ := r
      cases rv
      cases e1 : hm[i]? with
      | none => rw [e1] at e; cases e
      | some o =>
        rw [e1] at e
        cases o with
        | lst xs =>
          simp only at e
          obtain ⟨vs, hv, rs⟩ := w.obj i a _ ha e1
          obtain ⟨_, its, k, rvs, ho⟩ := I.hok a _ hv
          have all : ∀ {xs : List D} {vs : List V} {us : List Value} {ds : List PyData}, DReps X.G θ H xs vs → Vals vs us → mapO (deN hm n) xs = some ds → (∃ as, ReadsAll s.heap us ds as) ∧ sOks ds = true := by
            intro xs
            induction xs with
            | nil =>
              intro vs us ds r1 r2 e
              cases r1
              cases r2
              cases e
              exact ⟨⟨_, .nil⟩, by simp [sOks]⟩
            | cons x xs ihx =>
              intro vs us ds r1 r2 e
              cases r1 with
              | cons p1 p2 =>
                cases r2 with
                | cons q1 q2 =>
                  unfold mapO at e
                  cases e2 : deN hm n x with
                  | none => rw [e2] at e; cases e
                  | some d =>
                    cases e3 : mapO (deN hm n) xs with
                    | none => rw [e2, e3] at e; cases e
                    | some ds' =>
                      rw [e2, e3] at e
                      cases e
                      obtain ⟨⟨as, z1⟩, s1⟩ := ih p1 q1 e2
                      obtain ⟨⟨bs, z2⟩, s2⟩ := ihx p2 q2 e3
                      exact ⟨⟨_, .cons z1 z2⟩, by simp [sOks, s1, s2]⟩
          cases e2 : mapO (deN hm n) xs with
          | none => rw [e2] at e; cases e
          | some ds =>
            rw [e2] at e
            cases e
            obtain ⟨⟨as, z⟩, s1⟩ := all rs rvs e2
            exact ⟨⟨_, .list ho rfl rfl (by simpa using z)⟩, by simpa [sOk] using s1⟩
        | _ => cases e
    | _ => simp [deN] at e
end
end Ml
namespace PySem.SeqAt
open PySem PySem.MeetsSeq PySem.AutoSeq1
theorem tup_eq_no_dict (t : Addr) (its : Array Value) (m : Nat) (d2 : Option Addr) (sl2 : Array (Option Value)) (l : Addr) (es : Array DictEntry) (n : Nat) (dd : Option Addr) (sl : Array (Option Value)) :
    Meets (Builtin.«tuple.__eq__» ⟨[.ref t, .ref l], []⟩) (fun _ R s => s.heap.get? t = some { cls := .type "tuple", dict := d2, data := .seq its m, slots := sl2 } ∧ s.heap.get? l = some { cls := .type "dict", dict := dd, data := .dict es n, slots := sl } ∧ R (.ok (.ret .notImplemented)) s) :=
  .of_wp fun prog w A R s h => by
    obtain ⟨hp, g, d, tk, os⟩ := s
    obtain ⟨ht, hl, h⟩ := h
    have f1 := F.sub_dict_tuple
    wp_walk using wpAny_loadPart' hl, wpAny_load hl, wpAny_loadPart' ht, wpAny_load ht
    exact ⟨_, rfl, h⟩
theorem dict_eq_no_tup (t : Addr) (its : Array Value) (m : Nat) (d2 : Option Addr) (sl2 : Array (Option Value)) (l : Addr) (es : Array DictEntry) (n : Nat) (dd : Option Addr) (sl : Array (Option Value)) :
    Meets (Builtin.«dict.__eq__» ⟨[.ref l, .ref t], []⟩) (fun _ R s => s.heap.get? t = some { cls := .type "tuple", dict := d2, data := .seq its m, slots := sl2 } ∧ s.heap.get? l = some { cls := .type "dict", dict := dd, data := .dict es n, slots := sl } ∧ R (.ok (.ret .notImplemented)) s) :=
  .of_wp fun prog w A R s h => by
    obtain ⟨hp, g, d, tk, os⟩ := s
    obtain ⟨ht, hl, h⟩ := h
    have f1 := F.sub_tuple_dict
    wp_walk using wpAny_loadPart' hl, wpAny_load hl, wpAny_loadPart' ht, wpAny_load ht
    exact ⟨_, rfl, h⟩
end PySem.SeqAt
namespace PySem.SeqAt
open PySem PySem.MeetsSeq PySem.AutoSeq1
theorem no_tup_dct {t : Addr} {h : Heap} {its : Array Value} {m : Nat} {d2 : Option Addr} {sl2 : Array (Option Value)} {l : Addr} {es : Array DictEntry} {n : Nat} {dd : Option Addr} {sl : Array (Option Value)} (ht : h.get? t = some { cls := .type "tuple", dict := d2, data := .seq its m, slots := sl2 })
    (hl : h.get? l = some { cls := .type "dict", dict := dd, data := .dict es n, slots := sl }) : t ≠ l := fun e => by
  subst e
  rw [ht] at hl
  have := congrArg Obj.cls (Option.some.inj hl)
  exact absurd (show Value.type "tuple" = Value.type "dict" from this) (by decide)
theorem RcAt.tup_dct {A : Around} {s : Shared} {t : Addr} {its : Array Value} {m : Nat} {d2 : Option Addr} {sl2 : Array (Option Value)} {l : Addr} {es : Array DictEntry} {n : Nat} {dd : Option Addr} {sl : Array (Option Value)} (ht : s.heap.get? t = some { cls := .type "tuple", dict := d2, data := .seq its m, slots := sl2 })
    (hl : s.heap.get? l = some { cls := .type "dict", dict := dd, data := .dict es n, slots := sl }) (hu : A.units < cLine) : RcAt A s (.ref t) (.ref l) false := fun prog w E Q h =>
  have ne : t ≠ l := no_tup_dct ht hl
  rc_eq_decline_or (k := false) ⟨_, ht, rfl⟩ ⟨_, hl, rfl⟩ (by decide) F.sub_dict_tuple F.slot_tuple_eq F.slot_dict_eq_refl
    (fun _ hq => call_meets F.slot_tuple_eq ⟨_, ht, rfl⟩ F.entry_tuple_eq (F.args_tuple_eq_2 _ _) (tup_eq_no_dict t its m d2 sl2 l es n dd sl) ⟨ht, hl, hq⟩)
    (fun _ hq => call_meets F.slot_dict_eq_refl ⟨_, hl, rfl⟩ F.entry_dict_eq (F.args_dict_eq_2 _ _) (dict_eq_no_tup t its m d2 sl2 l es n dd sl) ⟨ht, hl, hq⟩)
    (fun _ hq => wpAny_isSame_ref_other' ne ht hl (show Value.type "dict" ≠ Value.type "tuple" by decide) hq) (.inr hu) h
theorem EqAt.tup_dct {A : Around} {s : Shared} {t : Addr} {its : Array Value} {m : Nat} {d2 : Option Addr} {sl2 : Array (Option Value)} {l : Addr} {es : Array DictEntry} {n : Nat} {dd : Option Addr} {sl : Array (Option Value)} (ht : s.heap.get? t = some { cls := .type "tuple", dict := d2, data := .seq its m, slots := sl2 })
    (hl : s.heap.get? l = some { cls := .type "dict", dict := dd, data := .dict es n, slots := sl }) (hu : A.units < cLine) : EqAt A s (.ref t) (.ref l) false :=
  .of_refs (no_tup_dct ht hl) (.tup_dct ht hl hu)
end PySem.SeqAt
namespace Ml
open PySem PySem.Spec L2
theorem eqQ_ok {d e : PyData} {k : Bool} (sa : sOk d = true) (sb : sOk e = true) (h : eqQ d e = some k) : d.canLay0 = true ∧ e.canLay0 = true ∧ min d.depth e.depth ≤ 40 ∧ k = PyData.eqv d e := by
  unfold eqQ at h
  split at h
  · rename_i hn
    simp only [Bool.and_eq_true, noDict, Bool.not_eq_true', decide_eq_true_eq] at hn
    cases h
    exact ⟨lay_of sa hn.1.1, lay_of sb hn.1.2, hn.2, rfl⟩
  · cases h
theorem eqP_at {A : Around} {s : Shared} {a b : Value} {d e : PyData} {as bs : List Addr} {k : Bool} (ra : Reads s.heap a d as) (rb : Reads s.heap b e bs) (sa : sOk d = true) (sb : sOk e = true) (hu : A.units + 41 < cLine) (h : eqP d e = some k) : SeqAt.EqAt A s a b k ∧ d.canLay0 = true := by
  unfold eqP at h
  split at h
  · cases h
    cases ra
    cases rb with
    | @dict a' o' es n kvs as1 bs1 h1 h2 h3 h4 h5 =>
      obtain ⟨oc, od, dat, osl⟩ := o'
      cases h2
      cases h3
      exact ⟨SeqAt.EqAt.str_dct _ _ h1 (by omega), by simpa [PyData.canLay0, sOk] using sa⟩
  · split at h
    · rename_i hn
      simp only [noDict, Bool.not_eq_true'] at hn
      cases h
      have hl := lay_of sa hn
      cases ra with
      | @tuple l o vs m xs as1 g1 g2 g3 g4 =>
        obtain ⟨oc2, od2, dat2, osl2⟩ := o
        cases g2
        cases g3
        cases rb with
        | @dict a' o' es n kvs as1 bs1 h1 h2 h3 h4 h5 =>
          obtain ⟨oc, od, dat, osl⟩ := o'
          cases h2
          cases h3
          exact ⟨SeqAt.EqAt.tup_dct g1 h1 (by omega), hl⟩
    · cases h
  · obtain ⟨l1, l2, l3, rfl⟩ := eqQ_ok sa sb h
    exact ⟨SeqAt.eqAt_reads _ _ A s a b as bs ra rb l1 l2 (by omega), l1⟩
theorem Post.okv {G : Gx} {E : XP} {θ : List Addr} {H : Hp} {h : Hm} {d : D} {Q : VK} (p : Post G E θ H (.ok d h) (KV G Q)) (w : W G θ h H) {v : V} (r : DRep G θ H d v) : Q v H := p θ H Ev.refl w v r
theorem drep_bool {G : Gx} {θ : List Addr} {H : Hp} (b : Bool) : DRep G θ H (.bool b) (.bl b) := ⟨rfl, by simp [sOk]⟩
theorem drep_int {G : Gx} {θ : List Addr} {H : Hp} (i : Int) : DRep G θ H (.int i) (.int i) := ⟨rfl, by simp [sOk]⟩
theorem drep_none {G : Gx} {θ : List Addr} {H : Hp} : DRep G θ H D.none .non := ⟨rfl, by simp [sOk]⟩
section
variable {X : Cx} {E : XK} {k : Nat}
theorem o_eq (hr : Room k X.A) : Op2 X E (compareOp .Eq) oEq := by
  intro pins s σ H x y v u Q I rx ry ⟨θ, h, d1, d2, w, r1, r2, p⟩
  unfold oEq at p
  split at p
  · exact op_eq pins s σ H x y v u Q I rx ry (by cases r1; cases r2; exact ⟨rfl, by simpa using p.okv w (drep_bool _)⟩)
  · cases e1 : deD h d1 with
    | none => rw [e1] at p; exact p.elim
    | some d =>
      cases e2 : deD h d2 with
      | none => rw [e1, e2] at p; exact p.elim
      | some e =>
        rw [e1, e2] at p
        simp only at p
        cases e3 : eqQ d e with
        | none => rw [e3] at p; exact p.elim
        | some b =>
          rw [e3] at p
          obtain ⟨⟨as, z1⟩, s1⟩ := read_of I w 3 r1 rx e1
          obtain ⟨⟨bs, z2⟩, s2⟩ := read_of I w 3 r2 ry e2
          obtain ⟨l1, l2, l3, rfl⟩ := eqQ_ok s1 s2 e3
          exact SeqAt.compareEq_reads z1 z2 l1 l2 (by have := hr.units; omega) ⟨.bl _, H, I, rfl, p.okv w (drep_bool _)⟩
theorem o_ne (hr : Room k X.A) : Op2 X E (compareOp .NotEq) oNe := by
  intro pins s σ H x y v u Q I rx ry ⟨θ, h, d1, d2, w, r1, r2, p⟩
  unfold oNe at p
  split at p
  · exact op_ne pins s σ H x y v u Q I rx ry (by cases r1; cases r2; exact ⟨rfl, by simpa using p.okv w (drep_bool _)⟩)
  · cases e1 : deD h d1 with
    | none => rw [e1] at p; exact p.elim
    | some d =>
      cases e2 : deD h d2 with
      | none => rw [e1, e2] at p; exact p.elim
      | some e =>
        rw [e1, e2] at p
        simp only at p
        cases e3 : eqQ d e with
        | none => rw [e3] at p; exact p.elim
        | some b =>
          rw [e3] at p
          obtain ⟨⟨as, z1⟩, s1⟩ := read_of I w 3 r1 rx e1
          obtain ⟨⟨bs, z2⟩, s2⟩ := read_of I w 3 r2 ry e2
          obtain ⟨l1, l2, l3, rfl⟩ := eqQ_ok s1 s2 e3
          exact SeqAt.compareNe_reads z1 z2 l1 l2 (by have := hr.units; omega) ⟨.bl _, H, I, rfl, p.okv w (drep_bool _)⟩
theorem inP_any {A : Around} {s : Shared} {x : Value} {d : PyData} {bs : List Addr} (rx : Reads s.heap x d bs) (sx : sOk d = true) (hu : A.units + 41 < cLine) : ∀ {vs : List Value} {ds : List PyData} {as : List Addr} {b : Bool}, ReadsAll s.heap vs ds as → sOks ds = true → inP d ds = some b →
    (∀ y ∈ vs, SeqAt.EqAt A s y x ((eqP (SeqAt.readOf s.heap y) d).getD false)) ∧ (vs.any fun y => (eqP (SeqAt.readOf s.heap y) d).getD false) = b
  | [], _, _, b, .nil, _, e => by cases e; exact ⟨fun y m => by simp at m, rfl⟩
  | v :: vs, _, _, b, .cons (d := d1) (ds := ds) r1 r2, so, e => by
    simp only [sOks, Bool.and_eq_true] at so
    unfold inP at e
    cases e1 : eqP d1 d with
    | none => rw [e1] at e; cases e
    | some b1 =>
      cases e2 : inP d ds with
      | none => rw [e1, e2] at e; cases e
      | some b2 =>
        rw [e1, e2] at e
        cases e
        obtain ⟨h1, h2⟩ := inP_any rx sx hu r2 so.2 e2
        obtain ⟨q1, q2⟩ := eqP_at r1 rx so.1 sx hu e1
        have er : SeqAt.readOf s.heap v = d1 := SeqAt.readOf_eq q2 r1
        refine ⟨fun y m => ?_, ?_⟩
        · rcases List.mem_cons.mp m with z | z
          · subst z; rw [er, e1]; exact q1
          · exact h1 y z
        · rw [List.any_cons, h2, er, e1]; rfl
theorem in_seq (hr : Room k X.A) {pins : List (Addr × Obj)} {s : Shared} {σ : L2.St} {H : Hp} {v u : Value} {Q : VK} {d : PyData} {ds : List PyData} {as bs : List Addr} {b : Bool} {sq : PyData} (hsq : sq = .tuple ds ∨ sq = .list ds) (I : Inv X pins σ H s) (z1 : Reads s.heap v d as) (z2 : Reads s.heap u sq bs) (s1 : sOk d = true) (s2 : sOks ds = true) (e : inP d ds = some b) :
    (Q (.bl b) H → wpAny (model X.prog X.w) X.A (compareOp .In v u) (EP X pins σ Q) X.xe s) ∧ (Q (.bl !b) H → wpAny (model X.prog X.w) X.A (compareOp .NotIn v u) (EP X pins σ Q) X.xe s) := by
  have hu : X.A.in1.units + 41 < cLine := by have := hr.units; show X.A.units + 1 + 41 < cLine; omega
  rcases hsq with rfl | rfl
  · cases z2 with
    | tuple h1 h2 h3 h4 =>
      obtain ⟨q1, q2⟩ := inP_any (A := X.A.in1) z1 s1 hu h4 s2 e
      rename_i vs n
      have q3 : (vs.any fun y => (eqP (SeqAt.readOf s.heap y) d).getD false) = b := by rw [← q2, ← Array.any_toList]
      exact ⟨fun q => SeqAt.in_tupleAt _ ⟨_, h1, h2, _, h3⟩ (fun y m => q1 y (Array.mem_toList_iff.mpr m)) (by rw [q3]; exact ⟨.bl b, H, I, rfl, q⟩), fun q => SeqAt.notIn_tupleAt _ ⟨_, h1, h2, _, h3⟩ (fun y m => q1 y (Array.mem_toList_iff.mpr m)) (by rw [q3]; exact ⟨.bl (!b), H, I, rfl, q⟩)⟩
  · cases z2 with
    | list h1 h2 h3 h4 =>
      obtain ⟨q1, q2⟩ := inP_any (A := X.A.in1) z1 s1 hu h4 s2 e
      rename_i vs n _
      have q3 : (vs.any fun y => (eqP (SeqAt.readOf s.heap y) d).getD false) = b := by rw [← q2, ← Array.any_toList]
      exact ⟨fun q => SeqAt.in_listAt _ ⟨_, h1, h2, _, h3⟩ (fun y m => q1 y (Array.mem_toList_iff.mpr m)) (by rw [q3]; exact ⟨.bl b, H, I, rfl, q⟩), fun q => SeqAt.notIn_listAt _ ⟨_, h1, h2, _, h3⟩ (fun y m => q1 y (Array.mem_toList_iff.mpr m)) (by rw [q3]; exact ⟨.bl (!b), H, I, rfl, q⟩)⟩
end
end Ml
namespace PySem.SeqAt
open PySem.AutoSeq1 (wpAny_loadPart')
open PySem.MeetsSeq PySem.MeetsSeq2 PySem.MeetsSeq3
def LtAt (A : Around) (s : Shared) (y x : Value) (b : Bool) : Prop :=
  ∀ (prog : Program) (w : World) (E : Value → Shared → Prop) (Q : Value → Shared → Prop), Q (.bool b) s → wpAny (model prog w) A (richCompare .Lt y x) Q E s
inductive LexAt (A : Around) (s : Shared) : List Value → List Value → Bool → Prop
  | nil : LexAt A s [] [] false
  | left {w ws} : LexAt A s [] (w :: ws) true
  | right {v vs} : LexAt A s (v :: vs) [] false
  | eq {v vs w ws k} : EqAt A s v w true → LexAt A s vs ws k → LexAt A s (v :: vs) (w :: ws) k
  | ne {v vs w ws k} : EqAt A s v w false → LtAt A s v w k → LexAt A s (v :: vs) (w :: ws) k
theorem tuple_lt_gen (l b : Addr) (its1 its2 : Array Value) (n n2 : Nat) (dd dd2 : Option Addr) (sl sl2 : Array (Option Value)) (k : Bool) :
    Meets (Builtin.«tuple.__lt__» ⟨[.ref l, .ref b], []⟩) (fun A R s => s.heap.get? l = some { cls := .type "tuple", dict := dd, data := .seq its1 n, slots := sl } ∧ s.heap.get? b = some { cls := .type "tuple", dict := dd2, data := .seq its2 n2, slots := sl2 } ∧ LexAt A.in1 s its1.toList its2.toList k ∧ R (.ok (.ret (.bool k))) s) :=
  .of_wp fun prog w A R s h => by
    obtain ⟨hp, g, d, tk, os⟩ := s
    obtain ⟨hl, hb, hx, h⟩ := h
    have f2 := AutoSeq1.sub_tuple_tuple
    wp_walk using wpAny_loadPart' hl, wpAny_loadPart' hb, wpAny_forIn_list _ (fun rest b s' => b.1 = none ∧ s' = ⟨hp, g, d, tk, os⟩ ∧ ∃ (vs ws : List Value), rest = vs.zip ws ∧ LexAt A.in1 ⟨hp, g, d, tk, os⟩ vs ws k ∧ vs.length + its2.size = ws.length + its1.size ∧ R (.ok (.ret (.bool k))) ⟨hp, g, d, tk, os⟩) _
    case turn =>
      rintro ⟨y, x⟩ rest b s' ⟨hb', rfl, vs, ws, hz, hx, hlen, hR⟩
      cases hx with
      | nil => rw [List.zip_nil_left] at hz; cases hz
      | left => rw [List.zip_nil_left] at hz; cases hz
      | right => rw [List.zip_nil_right] at hz; cases hz
      | @eq v vs w' ws k he hx' =>
        rw [List.zip_cons_cons] at hz
        injection hz with hyx hrest
        injection hyx with hy hx
        subst hy hx
        simp only [List.length_cons] at hlen
        refine wpAny_bind (he prog w _ _ ?_)
        wp_walk
        exact ⟨rfl, rfl, _, _, hrest, hx', by omega, hR⟩
      | @ne v vs w' ws k he hlt =>
        rw [List.zip_cons_cons] at hz
        injection hz with hyx hrest
        injection hyx with hy hx
        subst hy hx
        refine wpAny_bind (he prog w _ _ ?_)
        have hri := hlt prog w
        wp_walk using hri
        exact ⟨_, rfl, by simpa using hR⟩
    case fin =>
      rintro ⟨b1, b2⟩ s' ⟨hb', rfl, vs, ws, hz, hx, hlen, hR⟩
      simp only at hb'
      subst hb'
      have hv : k = decide (its1.size < its2.size) := by
        cases hx with
        | nil => simp only [List.length_nil] at hlen; exact (decide_eq_false (by omega)).symm
        | left => simp only [List.length_nil, List.length_cons] at hlen; exact (decide_eq_true (by omega)).symm
        | right => simp only [List.length_nil, List.length_cons] at hlen; exact (decide_eq_false (by omega)).symm
        | eq => rw [List.zip_cons_cons] at hz; cases hz
        | ne => rw [List.zip_cons_cons] at hz; cases hz
      rw [hv] at hR
      wp_walk
      exact ⟨_, rfl, by simpa [Builtin.Tuple.tupleCompareSizes] using hR⟩
    case h => exact ⟨rfl, rfl, its1.toList, its2.toList, rfl, hx, by simp; omega, h⟩
theorem LtAt.tuples {A : Around} {s : Shared} {l b : Addr} {its1 its2 : Array Value} {k : Bool} (h1 : s.heap.IsTuple l its1) (h2 : s.heap.IsTuple b its2) (hu : A.units < cLine) (hx : LexAt A.in1 s its1.toList its2.toList k) : LtAt A s (.ref l) (.ref b) k := fun prog w E Q h => by
  obtain ⟨⟨c1, d1, e1, l1⟩, p1, g1, n1, z1⟩ := h1
  obtain ⟨⟨c2, d2, e2, l2⟩, p2, g2, n2, z2⟩ := h2
  simp only at g1 z1 g2 z2
  subst g1 z1 g2 z2
  exact richCompare_meets_room (op := .Lt) ⟨_, p1, rfl⟩ ⟨_, p2, rfl⟩ PySem.F.slot_tuple_lt PySem.F.entry_tuple_lt (PySem.F.args_tuple_lt_2 _ _) (tuple_lt_gen l b _ _ n1 n2 d1 d2 l1 l2 k)
    ⟨p1, p2, hx, show Value.bool k ≠ Value.notImplemented ∧ Q (.bool k) s from ⟨(fun x => nomatch x), h⟩⟩ hu
end PySem.SeqAt
namespace Ml
open PySem PySem.Spec L2
open PySem.SeqAt
mutual
theorem lt_reads : ∀ (d e : PyData) (A : Around) (s : Shared) (a b : Value) (as bs : List Addr) (k : Bool), Reads s.heap a d as → Reads s.heap b e bs → d.canLay0 = true → e.canLay0 = true → A.units + min d.depth e.depth < cLine → ltP d e = some k → LtAt A s a b k
  | .int i, .int j, A, s, a, b, as, bs, k, ra, rb, _, _, _, h => by
    cases ra
    cases rb
    simp only [ltP] at h
    cases h
    exact fun prog w E Q q => (PyProof.Rows.lt_int q : wpAny (model prog w) A (compareOp .Lt _ _) Q E s)
  | .str x, .str y, A, s, a, b, as, bs, k, ra, rb, _, _, _, h => by
    cases ra
    cases rb
    simp only [ltP, ltS] at h
    cases h
    exact fun prog w E Q q => (PySem.P.lt_str q : wpAny (model prog w) A (compareOp .Lt _ _) Q E s)
  | .tuple xs, .tuple ys, A, s, a, b, as, bs, k, ra, rb, ha, hb, hu, h => by
    cases ra with
    | tuple g1 g2 g3 g4 =>
      cases rb with
      | tuple k1 k2 k3 k4 =>
        simp only [ltP] at h
        simp only [PyData.canLay0] at ha hb
        simp only [PyData.depth] at hu
        exact LtAt.tuples ⟨_, g1, g2, _, g3⟩ ⟨_, k1, k2, _, k3⟩ (by omega) (lex_reads xs ys A.in1 s _ _ _ _ k g4 k4 ha hb (by show A.units + 1 + _ < _; omega) h)
  | .none, _, _, _, _, _, _, _, _, _, _, _, _, _, h => by simp [ltP] at h
  | .bool _, _, _, _, _, _, _, _, _, _, _, _, _, _, h => by simp [ltP] at h
  | .list _, _, _, _, _, _, _, _, _, _, _, _, _, _, h => by simp [ltP] at h
  | .dict _, _, _, _, _, _, _, _, _, _, _, _, _, _, h => by simp [ltP] at h
  | .int _, .none, _, _, _, _, _, _, _, _, _, _, _, _, h => by simp [ltP] at h
  | .int _, .bool _, _, _, _, _, _, _, _, _, _, _, _, _, h => by simp [ltP] at h
  | .int _, .str _, _, _, _, _, _, _, _, _, _, _, _, _, h => by simp [ltP] at h
  | .int _, .list _, _, _, _, _, _, _, _, _, _, _, _, _, h => by simp [ltP] at h
  | .int _, .tuple _, _, _, _, _, _, _, _, _, _, _, _, _, h => by simp [ltP] at h
  | .int _, .dict _, _, _, _, _, _, _, _, _, _, _, _, _, h => by simp [ltP] at h
  | .str _, .none, _, _, _, _, _, _, _, _, _, _, _, _, h => by simp [ltP] at h
  | .str _, .bool _, _, _, _, _, _, _, _, _, _, _, _, _, h => by simp [ltP] at h
  | .str _, .int _, _, _, _, _, _, _, _, _, _, _, _, _, h => by simp [ltP] at h
  | .str _, .list _, _, _, _, _, _, _, _, _, _, _, _, _, h => by simp [ltP] at h
  | .str _, .tuple _, _, _, _, _, _, _, _, _, _, _, _, _, h => by simp [ltP] at h
  | .str _, .dict _, _, _, _, _, _, _, _, _, _, _, _, _, h => by simp [ltP] at h
  | .tuple _, .none, _, _, _, _, _, _, _, _, _, _, _, _, h => by simp [ltP] at h
  | .tuple _, .bool _, _, _, _, _, _, _, _, _, _, _, _, _, h => by simp [ltP] at h
  | .tuple _, .int _, _, _, _, _, _, _, _, _, _, _, _, _, h => by simp [ltP] at h
  | .tuple _, .str _, _, _, _, _, _, _, _, _, _, _, _, _, h => by simp [ltP] at h
  | .tuple _, .list _, _, _, _, _, _, _, _, _, _, _, _, _, h => by simp [ltP] at h
  | .tuple _, .dict _, _, _, _, _, _, _, _, _, _, _, _, _, h => by simp [ltP] at h
theorem lex_reads : ∀ (xs ys : List PyData) (A : Around) (s : Shared) (vs ws : List Value) (as bs : List Addr) (k : Bool), ReadsAll s.heap vs xs as → ReadsAll s.heap ws ys bs → PyData.canLayAll0 xs = true → PyData.canLayAll0 ys = true → A.units + min (PyData.depthAll xs) (PyData.depthAll ys) < cLine → ltPs xs ys = some k → LexAt A s vs ws k
  | [], [], A, s, vs, ws, as, bs, k, ra, rb, _, _, _, h => by cases ra; cases rb; simp only [ltPs] at h; cases h; exact .nil
  | [], _ :: _, A, s, vs, ws, as, bs, k, ra, rb, _, _, _, h => by cases ra; cases rb; simp only [ltPs] at h; cases h; exact .left
  | _ :: _, [], A, s, vs, ws, as, bs, k, ra, rb, _, _, _, h => by cases ra; cases rb; simp only [ltPs] at h; cases h; exact .right
  | x :: xs, y :: ys, A, s, vs, ws, as, bs, k, ra, rb, ha, hb, hu, h => by
    cases ra with
    | cons r1 r2 =>
      cases rb with
      | cons q1 q2 =>
        simp only [PyData.canLayAll0, Bool.and_eq_true] at ha hb
        simp only [PyData.depthAll] at hu
        have he := eqAt_reads x y A s _ _ _ _ r1 q1 ha.1 hb.1 (by omega)
        simp only [ltPs] at h
        cases hq : PyData.eqv x y with
        | true =>
          rw [hq] at he h
          exact .eq he (lex_reads xs ys A s _ _ _ _ k r2 q2 ha.2 hb.2 (by omega) (by simpa using h))
        | false =>
          rw [hq] at he h
          exact .ne he (lt_reads x y A s _ _ _ _ k r1 q1 ha.1 hb.1 (by omega) (by simpa using h))
end
section
variable {X : Cx} {E : XK} {k : Nat}
theorem o_lt (hr : Room k X.A) : Op2 X E (compareOp .Lt) oLt := by
  intro pins s σ H x y v u Q I rx ry ⟨θ, h, d1, d2, w, r1, r2, p⟩
  unfold oLt at p
  cases d1 with
  | dat d =>
    cases d2 with
    | dat e =>
      simp only at p
      split at p
      · rename_i hn
        simp only [Bool.and_eq_true, noDict, Bool.not_eq_true', decide_eq_true_eq] at hn
        cases e3 : ltP d e with
        | none => rw [e3] at p; exact p.elim
        | some b =>
          rw [e3] at p
          obtain ⟨⟨as, z1⟩, s1⟩ := read_of I w 3 r1 rx (deN_dat h 3 d)
          obtain ⟨⟨bs, z2⟩, s2⟩ := read_of I w 3 r2 ry (deN_dat h 3 e)
          exact lt_reads d e X.A s v u as bs b z1 z2 (lay_of s1 hn.1.1) (lay_of s2 hn.1.2) (by have := hr.units; omega) e3 X.prog X.w X.xe _ ⟨.bl b, H, I, rfl, p.okv w (drep_bool b)⟩
      · exact p.elim
    | _ => exact p.elim
  | _ => exact p.elim
theorem o_int {op : Value → Value → Sem Value} {f : D → D → Hm → R D} {C : Int → Int → Prop} {g : Int → Int → V} (h : OpR X op (rI C g)) (k : ∀ θ hm H d1 d2 Q, W X.G θ hm H → Post X.G (ofX X.G E) θ H (f d1 d2 hm) (KV X.G Q) → ∃ i j, d1 = .int i ∧ d2 = .int j ∧ C i j ∧ Q (g i j) H) : Op2 X E op f :=
  Op2.of h fun θ hm H d1 d2 x y Q w r1 r2 p => by
    obtain ⟨i, j, rfl, rfl, c, q⟩ := k θ hm H d1 d2 Q w p
    exact ⟨i, j, int_get r1, int_get r2, c, q⟩
theorem o_int0 {op : Value → Value → Sem Value} {f : D → D → Hm → R D} {g : Int → Int → V} (h : OpR X op (rI0 g)) (k : ∀ θ hm H d1 d2 Q, W X.G θ hm H → Post X.G (ofX X.G E) θ H (f d1 d2 hm) (KV X.G Q) → ∃ i j, d1 = .int i ∧ d2 = .int j ∧ Q (g i j) H) : Op2 X E op f :=
  Op2.of h fun θ hm H d1 d2 x y Q w r1 r2 p => by
    obtain ⟨i, j, rfl, rfl, q⟩ := k θ hm H d1 d2 Q w p
    exact ⟨i, j, int_get r1, int_get r2, q⟩
theorem o_sub : Op2 X E (binaryOp .Sub) oSub := o_int0 op_sub fun θ hm H d1 d2 Q w p => by
  unfold oSub at p
  split at p
  · exact ⟨_, _, rfl, rfl, p.okv w (drep_int _)⟩
  · exact p.elim
theorem o_mod : Op2 X E (binaryOp .Mod) oMod := o_int op_mod fun θ hm H d1 d2 Q w p => by
  unfold oMod at p
  split at p
  · split at p
    · rename_i hj; exact ⟨_, _, rfl, rfl, hj, p.okv w (drep_int _)⟩
    · exact p.elim
  · exact p.elim
theorem o_fdiv : Op2 X E (binaryOp .FloorDiv) oFdiv := o_int op_fdiv fun θ hm H d1 d2 Q w p => by
  unfold oFdiv at p
  split at p
  · split at p
    · rename_i hj; exact ⟨_, _, rfl, rfl, hj, p.okv w (drep_int _)⟩
    · exact p.elim
  · exact p.elim
theorem o_gt : Op2 X E (compareOp .Gt) oGt := o_int0 op_gt fun θ hm H d1 d2 Q w p => by
  unfold oGt at p
  split at p
  · exact ⟨_, _, rfl, rfl, p.okv w (drep_bool _)⟩
  · exact p.elim
theorem o_le : Op2 X E (compareOp .LtE) oLe := Op2.of (OpR.or op_le op_le_str) fun θ hm H d1 d2 x y Q w r1 r2 p => by
  unfold oLe at p
  split at p
  · exact .inl ⟨_, _, int_get r1, int_get r2, p.okv w (drep_bool _)⟩
  · exact .inr ⟨_, _, r1.1, r2.1, p.okv w (drep_bool _)⟩
  · exact p.elim
end
end Ml
set_option maxHeartbeats 1000000
namespace Ml
open PySem PySem.Spec L2 PyProof.Rows PySem.W
def kindT : PyData → Nat
  | .int _ => 0
  | .str _ => 1
  | _ => 2
def kindTy : Nat → String
  | 0 => "int"
  | 1 => "str"
  | _ => "tuple"
theorem type_tup {M : Model} {h : Heap} {a : Addr} {o : Obj} (h1 : h.get? a = some o) (h2 : o.cls = .type "tuple") : Looks M h (typeOf (.ref a)) (.type "tuple") := by
  obtain ⟨oc, od, dat, osl⟩ := o
  cases h2
  exact (Looks.ld h1).andThen .now
theorem type_tree {M : Model} {h : Heap} {v : Value} {d : PyData} {as : List Addr} (r : Reads h v d as) (t : isTree d = true) : Looks M h (typeOf v) (.type (kindTy (kindT d))) := by
  cases r with
  | int i t => exact .now
  | str x t => exact .now
  | tuple h1 h2 h3 h4 => exact type_tup h1 h2
  | _ => simp [isTree] at t
def FstD (h : Heap) (f : Option Value) (d : PyData) : Prop := match d with
  | .tuple [] => f = none
  | .tuple (x :: _) => ∃ u bs, f = some u ∧ Reads h u x bs
  | _ => False
section
variable {P : Program} {w : World} {A : Around} {E : Value → Shared → Prop} {s : Shared}
theorem firsts_data {M : Model} : ∀ {vs : List Value} {ds : List PyData} {as : List Addr} {Q : List (Option Value) → Shared → Prop}, ReadsAll s.heap vs ds as → ds.all isTupT = true → (∀ fs, Paired (FstD s.heap) fs ds → Q fs s) → wpAny M A (vs.mapM firstOfTuple') Q E s
  | _, _, _, Q, .nil, _, h => by rw [List.mapM_nil]; exact wpAny_pure (h [] .nil)
  | _, _, _, Q, .cons r t, al, h => by
    simp only [List.all_cons, Bool.and_eq_true] at al
    rw [List.mapM_cons]
    refine wpAny_bind ?_
    cases r with
    | tuple h1 h2 h3 h4 =>
      rename_i o its n xs
      rw [kas_first_eq]
      refine wpAny_bind (Looks.here (type_tup h1 h2) ?_)
      rw [if_neg (by first | decide | simp)]
      refine wpAny_bind (PyProof.Rows.listItems_at h1 h3 (wpAny_pure ?_))
      refine wpAny_bind (firsts_data t al.2 fun fs hf => wpAny_pure (h _ (.cons ?_ hf)))
      have e0 : its[0]? = its.toList[0]? := by simp
      rw [e0]
      generalize its.toList = l at h4
      cases h4 with
      | nil => rfl
      | cons r1 r2 => exact ⟨_, _, rfl, r1⟩
    | _ => simp [isTupT] at al
theorem firsts_kind {ds : List PyData} (t : areTrees ds = true) (c : cmpAll ds = true) {x y : PyData} {xs ys : List PyData} (h1 : .tuple (x :: xs) ∈ ds) (h2 : .tuple (y :: ys) ∈ ds) : kindT x = kindT y := by
  have t1 := areTrees_mem t h1
  have t2 := areTrees_mem t h2
  simp only [isTree, areTrees, Bool.and_eq_true] at t1 t2
  have q := cmpAll_get c h1 h2
  simp only [ltP, ltPs] at q
  by_cases e : x = y
  · rw [e]
  · rw [eqv_tree_ne t1.1 t2.1 e, if_neg (by simp)] at q
    cases x <;> cases y <;> first | rfl | (simp [ltP] at q) | (simp [isTree] at t1) | (simp [isTree] at t2)
theorem fst_reads {h : Heap} : ∀ {fs : List (Option Value)} {ds : List PyData}, Paired (FstD h) fs ds → ∀ v ∈ fs.filterMap id, ∃ x xs bs, .tuple (x :: xs) ∈ ds ∧ Reads h v x bs
  | _, _, .nil, v, hv => by simp at hv
  | _, _, .cons (a := f) (l₁ := fs) (b := d) r p, v, hv => by
    cases d with
    | tuple ys =>
      cases ys with
      | nil =>
        obtain rfl : f = none := r
        obtain ⟨x, xs, bs, m, q⟩ := fst_reads p v (by simpa using hv)
        exact ⟨x, xs, bs, by simp [m], q⟩
      | cons y ys =>
        obtain ⟨u, bs, rfl, q⟩ := r
        rcases (show v = u ∨ some v ∈ fs by simpa using hv) with rfl | hv
        · exact ⟨y, ys, bs, by simp, q⟩
        · obtain ⟨x, xs, bs, m, q⟩ := fst_reads p v (by simpa using hv)
          exact ⟨x, xs, bs, by simp [m], q⟩
    | _ => exact (show False from r).elim
theorem readsAll_len {h : Heap} : ∀ {vs : List Value} {ds : List PyData} {as : List Addr}, ReadsAll h vs ds as → vs.length = ds.length
  | _, _, _, .nil => rfl
  | _, _, _, .cons _ t => by simp [readsAll_len t]
theorem types_data {M : Model} {h : Heap} : ∀ {vs : List Value} {ds : List PyData} {as : List Addr}, ReadsAll h vs ds as → ds.all isTupT = true → ∀ v ∈ vs, Looks M h (typeOf v) (.type "tuple")
  | _, _, _, .nil, _, v, hv => by cases hv
  | _, _, _, .cons r1 r2, al, v, hv => by
    simp only [List.all_cons, Bool.and_eq_true] at al
    rcases List.mem_cons.mp hv with rfl | hv
    · cases r1 with
      | tuple g1 g2 g3 g4 => exact type_tup g1 g2
      | _ => simp [isTupT] at al
    · exact types_data r2 al.2 v hv
theorem kind_data {M : Model} {vs : List Value} {ds : List PyData} {as : List Addr} {Q : SortKind → Shared → Prop} (r : ReadsAll s.heap vs ds as) (al : ds.all isTupT = true) (t : areTrees ds = true) (c : cmpAll ds = true) (h2 : 1 ≤ vs.length)
    (h1 : ∀ b, (b = true → ∀ x xs, .tuple (x :: xs) ∈ ds → kindT x ≠ 2) → Q (tuples' b) s) (h3 : Q general' s) (h4 : Q oneType' s) : wpAny M A (keyKind' vs.toArray) Q E s := by
  rw [PyProof.Rows.kat_kind_eq, List.mapM_toArray, map_eq_pure_bind]
  refine wpAny_bind (wpAny_bind (firsts_data r al fun fs hf => wpAny_pure ?_))
  have hl : fs.length = ds.length := Paired.length hf
  have hl2 : vs.length = ds.length := readsAll_len r
  split
  · rename_i hall
    refine wpAny_bind (wpAny_rule ?_)
    have e : (fs.toArray.filterMap id) = (fs.filterMap id).toArray := by simp
    rw [e]
    have hall' : ∀ f ∈ fs, f.isSome = true := by simpa using hall
    obtain ⟨u, us, eu⟩ : ∃ u us, fs.filterMap id = u :: us := by
      match fs, hl, hall' with
      | [], hl, _ => simp at hl; omega
      | none :: _, _, ha => have := ha none (.head _); cases this
      | some x :: r, _, _ => exact ⟨x, r.filterMap id, by simp⟩
    obtain ⟨x, xs, bs, mx, rx⟩ := fst_reads hf u (by rw [eu]; simp)
    have tx : isTree x = true := by have := areTrees_mem t mx; simp only [isTree, areTrees, Bool.and_eq_true] at this; exact this.1
    refine wpAny_bind (one_type (T := .type (kindTy (kindT x))) (by rw [eu]; simp) (fun v hv => ?_) (by simp) ?_)
    · obtain ⟨y, ys, bs, my, ry⟩ := fst_reads hf v hv
      have ty : isTree y = true := by have := areTrees_mem t my; simp only [isTree, areTrees, Bool.and_eq_true] at this; exact this.1
      rw [firsts_kind t c mx my]
      exact type_tree ry ty
    · refine wpAny_pure (h1 _ fun hb y ys my => ?_)
      rw [← firsts_kind t c mx my]
      intro z
      rw [z] at hb
      exact absurd hb (by decide)
  · split
    · exact wpAny_pure h3
    · refine wpAny_bind (one_type (T := .type "tuple") h2 (fun v hv => ?_) (by rfl) ?_)
      · exact types_data r al v hv
      · exact wpAny_pure h4
theorem katLex_data {b : Bool} {Q : Bool → Shared → Prop} : ∀ {us vs : List Value} {xs ys : List PyData} {as bs : List Addr} (i : Nat) (fin k : Bool), ReadsAll s.heap us xs as → ReadsAll s.heap vs ys bs → areTrees xs = true → areTrees ys = true → PyData.canLayAll0 xs = true → PyData.canLayAll0 ys = true →
    A.units + min (PyData.depthAll xs) (PyData.depthAll ys) < cLine → fin = decide (xs.length < ys.length) → (b = true → i = 0 → ∀ x ∈ xs.head?, kindT x ≠ 2) → ltPs xs ys = some k → Q k s → KatLex P w A b fin Q (us.zip vs) i s
  | _, _, _, _, _, _, i, fin, k, .nil, .nil, _, _, _, _, _, e, _, h, q => by subst e; simp [ltPs] at h; subst h; exact PySem.W.kat_nil q
  | _, _, _, _, _, _, i, fin, k, .nil, .cons _ _, _, _, _, _, _, e, _, h, q => by subst e; simp [ltPs] at h; subst h; exact PySem.W.kat_nil (by simpa using q)
  | _, _, _, _, _, _, i, fin, k, .cons _ _, .nil, _, _, _, _, _, e, _, h, q => by subst e; simp [ltPs] at h; subst h; exact PySem.W.kat_nil (by simpa using q)
  | _, _, _, _, _, _, i, fin, k, .cons (d := x) (ds := xs) r1 r2, .cons (d := y) (ds := ys) q1 q2, t1, t2, l1, l2, hu, e, hb, h, q => by
    rw [List.zip_cons_cons]
    refine PySem.W.kat_cons ?_
    simp only [areTrees, PyData.canLayAll0, Bool.and_eq_true] at t1 t2 l1 l2
    simp only [PyData.depthAll] at hu
    refine SeqAt.eqAt_reads x y A s _ _ _ _ r1 q1 l1.1 l2.1 (by omega) P w _ _ ?_
    simp only [ltPs] at h
    cases hq : PyData.eqv x y with
    | true =>
      rw [hq, if_pos rfl] at h
      exact PySem.W.kat_yes (katLex_data (i + 1) fin k r2 q2 t1.2 t2.2 l1.2 l2.2 (by omega) (by rw [e]; simp) (fun _ z => by omega) h q)
    | false =>
      rw [hq, if_neg (by simp)] at h
      refine PySem.W.kat_no ?_
      have fin2 : wpAny (model P w) A (oneLt' false _ _) Q (fun _ _ => False) s := kat_one _ _ (lt_reads x y A s _ _ _ _ k r1 q1 l1.1 l2.1 (by omega) h P w (fun _ _ => False) _ q)
      cases hbi : (b && i == 0) with
      | false => exact fin2
      | true =>
        simp only [Bool.and_eq_true, beq_iff_eq] at hbi
        have kx := hb hbi.1 hbi.2 x (by simp)
        cases x with
        | int i1 =>
          cases y with
          | int j1 => cases r1; cases q1; simp only [ltP] at h; cases h; exact oneLt_int q
          | _ => simp [ltP] at h
        | str i1 =>
          cases y with
          | str j1 => cases r1; cases q1; simp only [ltP, ltS] at h; cases h; exact oneLt_str q
          | _ => simp [ltP] at h
        | _ => exact absurd rfl kx
theorem keyLt_data (hu : A.units + 41 < cLine) {x y : Value} {xs ys : List PyData} {as bs : List Addr} {k : Bool} {Q : Bool → Shared → Prop} (rx : Reads s.heap x (.tuple xs) as) (ry : Reads s.heap y (.tuple ys) bs) (t1 : areTrees xs = true) (t2 : areTrees ys = true) (l1 : PyData.canLayAll0 xs = true) (l2 : PyData.canLayAll0 ys = true)
    (hd : PyData.depthAll xs ≤ 20) (h : ltPs xs ys = some k) (κ : SortKind) (hκ : (∃ b, κ = tuples' b ∧ (b = true → ∀ x ∈ xs.head?, kindT x ≠ 2)) ∨ κ = general' ∨ κ = oneType') (q : Q k s) : wpAny (model P w) A (keyLt' κ x y) Q (fun _ _ => False) s := by
  have ex := rx
  have ey := ry
  cases rx with
  | tuple g1 g2 g3 g4 =>
    rename_i o1 i1 n1
    cases ry with
    | tuple k1 k2 k3 k4 =>
      rename_i o2 i2 n2
      rcases hκ with ⟨b, rfl, hb⟩ | rfl | rfl
      · refine kat_lt g1 g3 k1 k3 (katLex_data 0 _ k g4 k4 t1 t2 l1 l2 (by omega) ?_ (fun hb' _ => hb hb') h q)
        have z1 := readsAll_len g4
        have z2 := readsAll_len k4
        simp at z1 z2
        rw [z1, z2]
      · show wpAny (model P w) A (oneLt' false _ _) Q _ s
        exact kat_one _ _ (lt_reads (.tuple xs) (.tuple ys) A s _ _ _ _ k ex ey (by simpa [PyData.canLay0] using l1) (by simpa [PyData.canLay0] using l2) (by simp only [PyData.depth]; omega) (by simpa [ltP] using h) P w (fun _ _ => False) _ q)
      · rw [keyLt'_oneType, oneLt'_eq]
        simp only [if_true]
        refine wpAny_bind (wpAny_cRoomFor (by omega) ?_)
        obtain ⟨c1, d1, e1, sl1⟩ := o1
        obtain ⟨c2, d2, e2, sl2⟩ := o2
        cases g2
        cases g3
        cases k2
        cases k3
        refine wpAny_bind (wpAny_callSpecialIfBound?_slot ⟨_, g1, rfl⟩ PySem.F.slot_tuple_lt (call_meets PySem.F.slot_tuple_lt ⟨_, g1, rfl⟩ PySem.F.entry_tuple_lt (PySem.F.args_tuple_lt_2 _ _) (SeqAt.tuple_lt_gen _ _ _ _ n1 n2 d1 d2 sl1 sl2 k) ⟨g1, k1, lex_reads xs ys _ s _ _ _ _ k g4 k4 l1 l2 (by show A.units + 1 + _ < _; omega) h, ?_⟩))
        exact wpAny_truthy_bool q
theorem reads_get {h : Heap} : ∀ {vs : List Value} {ds : List PyData} {as : List Addr} (i : Nat), ReadsAll h vs ds as → i < vs.length → ∃ bs, Reads h (vs.getD i .none) (ds.getD i .none) bs
  | _, _, _, i, .nil, hi => by simp at hi
  | _, _, _, 0, .cons r1 _, _ => ⟨_, r1⟩
  | _, _, _, i + 1, .cons _ r2, hi => by simpa using reads_get i r2 (by simpa using hi)
theorem getD_mem {α : Type} {xs : List α} {i : Nat} {d : α} (h : i < xs.length) : xs.getD i d ∈ xs := by simp [h]
theorem lays_mem : ∀ {ds : List PyData} {d : PyData}, PyData.canLayAll0 ds = true → d ∈ ds → d.canLay0 = true
  | _ :: _, d, h, m => by
    simp only [PyData.canLayAll0, Bool.and_eq_true] at h
    rcases List.mem_cons.mp m with rfl | m
    · exact h.1
    · exact lays_mem h.2 m
theorem depth_mem' : ∀ {ds : List PyData} {d : PyData}, d ∈ ds → d.depth ≤ PyData.depthAll ds
  | _ :: _, d, m => by
    simp only [PyData.depthAll]
    rcases List.mem_cons.mp m with rfl | m
    · exact Nat.le_max_left _ _
    · exact Nat.le_trans (depth_mem' m) (Nat.le_max_right _ _)
theorem asks_data (hu : A.units + 41 < cLine) {vs : List Value} {ds : List PyData} {as : List Addr} (r : ReadsAll s.heap vs ds as) (al : ds.all isTupT = true) (t : areTrees ds = true) (c : cmpAll ds = true) (l : PyData.canLayAll0 ds = true) (hd : PyData.depthAll ds ≤ 20) (h2 : 1 ≤ vs.length) :
    Asks P w A vs (fun i j => ltB (ds.getD i .none) (ds.getD j .none)) s := by
  have hlen := readsAll_len r
  have tup : ∀ {i : Nat}, i < vs.length → ∃ xs bs, ds.getD i .none = .tuple xs ∧ .tuple xs ∈ ds ∧ Reads s.heap (vs.getD i .none) (.tuple xs) bs := fun {i} hi => by
    obtain ⟨bs, q⟩ := reads_get i r hi
    have m : ds.getD i .none ∈ ds := getD_mem (by omega)
    have a := List.all_eq_true.mp al _ m
    cases e : ds.getD i .none with
    | tuple xs => exact ⟨xs, bs, rfl, e ▸ m, e ▸ q⟩
    | _ => rw [e] at a; simp [isTupT] at a
  have key : ∀ κ, ((∃ b, κ = tuples' b ∧ (b = true → ∀ x xs, .tuple (x :: xs) ∈ ds → kindT x ≠ 2)) ∨ κ = general' ∨ κ = oneType') → s = s ∧ ∀ i j C, i < vs.length → j < vs.length → C (ltB (ds.getD i .none) (ds.getD j .none)) s →
      wpAny (model P w) A (keyLt' κ (vs.getD i Value.none) (vs.getD j Value.none)) C (fun _ _ => False) s := fun κ hκ => ⟨rfl, fun i j C hi hj hC => by
    obtain ⟨xs, b1, e1, m1, q1⟩ := tup hi
    obtain ⟨ys, b2, e2, m2, q2⟩ := tup hj
    have cc := cmpAll_get c m1 m2
    have d1 := depth_mem' m1
    have l1 := lays_mem l m1
    have l2 := lays_mem l m2
    have t1 := areTrees_mem t m1
    have t2 := areTrees_mem t m2
    simp only [PyData.depth] at d1
    simp only [PyData.canLay0] at l1 l2
    simp only [isTree] at t1 t2
    rw [e1, e2] at hC
    refine keyLt_data hu q1 q2 t1 t2 l1 l2 (by omega) (by simpa [ltP] using cc) κ ?_ hC
    rcases hκ with ⟨b, rfl, hb⟩ | h | h
    · refine .inl ⟨b, rfl, fun hb' x hx => ?_⟩
      cases xs with
      | nil => simp at hx
      | cons z zs => simp at hx; subst hx; exact hb hb' z zs m1
    · exact .inr (.inl h)
    · exact .inr (.inr h)⟩
  exact kind_data r al t c h2 (fun b hb => key _ (.inl ⟨b, rfl, hb⟩)) (key _ (.inr (.inl rfl))) (key _ (.inr (.inr rfl)))
end
end Ml
namespace Ml
open PySem PySem.Spec L2
section
variable {X : Cx} {E : XK} {k : Nat} {θ : List Addr} {hm : Hm} {H : Hp}
theorem list_of {G : Gx} (w : W G θ hm H) {x : D} {v : V} {ds : List PyData} (r : DRep G θ H x v) (e : listOf x hm = some ds) : ∃ a vs, v = .ref a ∧ H a = some (.lst vs) ∧ Reps (view θ H) ds vs ∧ sOks ds = true := by
  unfold listOf at e
  split at e
  · cases e
    obtain ⟨⟨a, vs, rfl, ha, rr⟩, so⟩ := r
    exact ⟨a, vs, rfl, view_same _ _ _ _ ha, rr, by simpa [sOk] using so⟩
  · obtain ⟨a, ha, rfl⟩ := r
    split at e
    · rename_i ys hy
      obtain ⟨vs, hv, rs⟩ := w.obj _ _ _ ha hy
      obtain ⟨h1, h2⟩ := reps_of rs e
      exact ⟨a, vs, rfl, hv, h1, h2⟩
    · cases e
  · cases e
theorem asks_strs {P : Program} {w : World} {A : Around} {s : Shared} {vs : List Value} {ds : List PyData} {as : List Addr} (r : ReadsAll s.heap vs ds as) (al : ds.all isStrT = true) (h2 : 2 ≤ vs.length) : PySem.W.Asks P w A vs (fun i j => ltB (ds.getD i .none) (ds.getD j .none)) s := by
  have hlen := readsAll_len r
  have tup : ∀ {i : Nat}, i < vs.length → ∃ x tk, ds.getD i .none = .str x ∧ vs.getD i .none = .str x tk := fun {i} hi => by
    obtain ⟨bs, q⟩ := reads_get i r hi
    have m : ds.getD i .none ∈ ds := getD_mem (by omega)
    have a := List.all_eq_true.mp al _ m
    cases e : ds.getD i .none with
    | str x => rw [e] at q; generalize vs.getD i .none = z at q; cases q; exact ⟨x, _, rfl, rfl⟩
    | _ => rw [e] at a; simp [isStrT] at a
  refine PySem.W.kas_kind h2 (T := .type "str") (fun v hv => ?_) (by decide) (by decide) ⟨rfl, fun i j C hi hj hC => ?_⟩
  · obtain ⟨i, hi, e⟩ := List.mem_iff_getElem.mp hv
    obtain ⟨x, tk, _, e2⟩ := tup hi
    have : vs.getD i .none = v := by simp [hi, e]
    rw [this] at e2
    subst e2
    exact .now
  · obtain ⟨x, t1, e1, f1⟩ := tup hi
    obtain ⟨y, t2, e2, f2⟩ := tup hj
    rw [f1, f2, PyProof.Rows.keyLt'_oneType]
    simp only [e1, e2] at hC
    exact PyProof.Rows.oneLt_str (by simpa [ltB, ltP, ltS] using hC)
theorem sOrd {ds : List PyData} (o : Ord ltB ds) : PySem.W.SOrd (fun i j => ltB (ds.getD i .none) (ds.getD j .none)) ds.length :=
  ⟨fun a b ha hb h => o.as (getD_mem ha) (getD_mem hb) h, fun a b c ha hb hc h h' => o.ntr (getD_mem ha) (getD_mem hb) (getD_mem hc) h h'⟩
theorem sOks_mem : ∀ {ds : List PyData}, sOks ds = true ↔ ∀ d ∈ ds, sOk d = true
  | [] => by simp [sOks]
  | d :: ds => by simp [sOks, sOks_mem (ds := ds)]
theorem sOks_perm {ds es : List PyData} (p : ds.Perm es) (h : sOks ds = true) : sOks es = true := sOks_mem.mpr fun d m => sOks_mem.mp h d (p.mem_iff.mpr m)
def rSortD : List V → Hp → VK → Prop := fun xs H Q => ∃ (a : Addr) (vs : List V) (M : Hp) (ds : List PyData), xs = [.ref a] ∧ H a = some (.lst vs) ∧ Same M H ∧ Reps M ds vs ∧ sOks ds = true ∧ sortOk ds = true ∧
  ∀ (p : Addr) (us : List V), H p = none → Reps M (sortP ltB ds) us → us.length ≤ sizeLine → Q (.ref p) (upd H p (.lst us))
theorem call_sortedD (hr : Room k X.A) : CallR X (.builtin "sorted") rSortD := by
  intro pins s σ H xs us Q I r h
  obtain ⟨a, vs, M, ds, rfl, ha, sm, rp, so, ok, q⟩ := h
  simp only [sortOk, Bool.and_eq_true, decide_eq_true_eq, Bool.or_eq_true] at ok
  obtain ⟨⟨⟨⟨kd, tr⟩, cm⟩, dp⟩, h64⟩ := ok
  cases r with
  | cons r rr =>
    cases rr
    cases r
    obtain ⟨its, rv, pl, _⟩ := I.list (SqL.of (K := X.K) ha)
    have hlen : vs.length = ds.length := rp.length
    have hlen2 : its.length = ds.length := by rw [← rv.length]; exact hlen
    obtain ⟨as, ra⟩ := Reps.reads I (rp.same sm) rv
    have nd : PyData.hasDictAll ds = false := trees_noDict tr
    have la := lays_of so nd
    have O := sOrd (ord_trees cm tr)
    rw [← hlen2] at O
    refine PySem.W.sorted_ask pl.isList O (by omega) (fun h' kp h2 => ?_) fun p hp hs => ?_
    · have ra' : ReadsAll h' its ds as := PyProof.Rows.ReadsAll.keeps kp ra
      rcases kd with kd | kd
      · exact asks_strs (s := { s with heap := h' }) ra' kd h2
      · exact asks_data (s := { s with heap := h' }) (by have := hr.un; show X.A.units + 1 + 1 + 41 < cLine; omega) ra' kd tr cm la dp (by omega)
    · have ge : s.heap.objs.size ≤ s.heap.objs.size + 1 := Nat.le_succ _
      have nn : H (s.heap.objs.size + 1) = none := I.hok.fresh ge
      obtain ⟨e, he⟩ := PyProof.Rows.sortedAll_at s.heap its (p.toList.map fun i => its.getD i Value.none).toArray
      have hin : ∀ i ∈ p.toList, i < vs.length := fun i hi => by
        have := List.mem_range.mp (hp.perm.mem_iff.mp hi)
        omega
      have hlp : p.toList.length = ds.length := by rw [hp.perm.length_eq, List.length_range, hlen2]
      have hz : (p.toList.map fun i => vs.getD i .non).length ≤ sizeLine := by
        rw [List.length_map, hlp]
        exact Nat.le_trans (Nat.le_of_lt h64) (by decide)
      refine ⟨.ref _, _, I.laid (t' := s.toks) (o := .lst (p.toList.map fun i => vs.getD i .non)) (fun b o k => PyProof.Rows.sortedAll_old k) ge ⟨hz, _, e, vals_pick rv p.toList hin, by simpa [PyProof.Rows.seqObj] using he⟩, rfl, q _ _ nn ?_ hz⟩
      have e1 : (p.toList.map fun i => ds.getD i .none) = sortP ltB ds := by
        refine sortP_eq cm tr ?_ ?_
        · have := hp.perm.map (fun i => ds.getD i .none)
          rw [hlen2, perm_map_get] at this
          exact this
        · unfold Up
          rw [List.pairwise_map, List.pairwise_iff_getElem]
          intro i j hi hj hij
          have e1 : PySem.W.pat p i = p.toList[i] := by simp only [Array.length_toList] at hi; rw [PySem.W.pat_eq, getElem?_pos p i hi]; simp
          have e2 : PySem.W.pat p j = p.toList[j] := by simp only [Array.length_toList] at hj; rw [PySem.W.pat_eq, getElem?_pos p j hj]; simp
          have := hs i j hij (by rw [hlen2]; omega)
          rw [e1, e2] at this
          exact this
      rw [← e1]
      exact reps_pick rp .none p.toList hin
theorem c_sorted (hr : Room k X.A) : Cal X E (.builtin "sorted") bSorted := Cal.of (call_sortedD hr) fun θ hm H ds xs Q w r p => by
  unfold bSorted at p
  split at p
  · rename_i x
    cases r with
    | cons r rr =>
      cases rr
      split at p
      · rename_i ys hy
        split at p
        · rename_i ok
          obtain ⟨a, vs, rfl, ha, rp, so⟩ := list_of w r hy
          refine ⟨a, vs, view θ H, ys, rfl, ha, view_same _ _, rp, so, ok, fun q us hq ru hz => ?_⟩
          obtain ⟨e1, w1, g⟩ := w.put (o := .lst us) hq
          refine p _ _ e1 w1 _ ⟨⟨q, us, rfl, g, ru.same e1.same⟩, ?_⟩
          simp only [sOk]
          exact sOks_perm (sortP_perm _ _).symm so
        · exact p.elim
      · exact p.elim
  · exact p.elim
end
end Ml
namespace Ml
open PySem PySem.Spec L2
section
variable {X : Cx} {E : XK} {k : Nat} {θ : List Addr} {hm : Hm} {H : Hp} {m : ME} {t : MT} {e e1 e2 : Expr} {pos : Pos}
theorem str_get {G : Gx} {x : Str} {v : V} (r : DRep G θ H (.str x) v) : v = .str x ∧ PyData.strOk x = true := ⟨r.1, by simpa [sOk] using r.2⟩
theorem strOk_append {x y : Str} (h : PyData.strOk x = true) (h' : PyData.strOk y = true) : PyData.strOk (x ++ y) = true := by
  have e : (x ++ y).cps = x.cps ++ y.cps := rfl
  unfold PyData.strOk at h h' ⊢
  rw [e, Array.all_append, h, h']
  rfl
theorem view_ext {G : Gx} {H' M' : Hp} (w : W G θ hm H) (x : Ext H (view θ H) H' M') : Ev θ H θ H' ∧ W G θ hm H' ∧ Same M' (view θ H') := by
  obtain ⟨e1, w1⟩ := w.grow x.sh
  refine ⟨e1, w1, fun c o q => ?_⟩
  have nb : c ∉ θ := fun z => by
    obtain ⟨i, hi, ei⟩ := List.mem_iff_getElem.mp z
    have hl : i < hm.length := by rw [← w.len]; exact hi
    have hn : H c ≠ none := ORep.some _ (w.obj i c hm[i] (by rw [List.getElem?_eq_getElem hi, ei]) (List.getElem?_eq_getElem hl))
    rw [x.old c hn] at q
    exact (view_get q).1 z
  rw [view_of nb]
  exact x.gs c o q
theorem o_add : Op2 X E (binaryOp .Add) oAdd := Op2.of (OpR.or op_add (OpR.or op_add_str (OpR.or op_catG op_cat))) fun θ hm H d1 d2 x y Q w r1 r2 p => by
  unfold oAdd at p
  split at p
  · exact .inl ⟨_, _, int_get r1, int_get r2, p.okv w (drep_int _)⟩
  · split at p
    · rename_i hz
      obtain ⟨e1, s1⟩ := str_get r1
      obtain ⟨e2, s2⟩ := str_get r2
      exact .inr (.inl ⟨_, _, e1, e2, szOk_le hz, p.okv w ⟨rfl, by simp only [sOk]; exact strOk_append s1 s2⟩⟩)
    · exact p.elim
  · split at p
    · rename_i xs ys hz
      refine .inr (.inr (.inl ⟨view θ H, xs, ys, view_same _ _, r1.1, r2.1, szOk_le hz, fun r H' M' ex rr => ?_⟩))
      obtain ⟨e1, w1, sm⟩ := view_ext w ex
      have s1 : sOks xs = true := by simpa [sOk] using r1.2
      have s2 : sOks ys = true := by simpa [sOk] using r2.2
      refine p _ _ e1 w1 _ ⟨rr.same sm, ?_⟩
      simp only [sOk]
      exact sOks_mem.mpr fun d m => by
        rcases List.mem_append.mp m with m | m
        · exact sOks_mem.mp s1 d m
        · exact sOks_mem.mp s2 d m
    · exact p.elim
  · split at p
    · rename_i xs ys hz
      have s1 : sOks xs = true := by simpa [sOk] using r1.2
      have s2 : sOks ys = true := by simpa [sOk] using r2.2
      obtain ⟨a, us, rfl, ha, q1, _⟩ := lst_get r1
      obtain ⟨b, ws, rfl, hb, q2, _⟩ := lst_get r2
      refine .inr (.inr (.inr ⟨a, b, us, ws, rfl, rfl, view_same _ _ _ _ ha, view_same _ _ _ _ hb, by rw [q1.length, q2.length]; exact szOk_le hz, fun q hq => ?_⟩))
      obtain ⟨e1, w1, g⟩ := w.put (o := .lst (us ++ ws)) hq
      refine p _ _ e1 w1 _ ⟨⟨q, _, rfl, g, (q1.append q2).same e1.same⟩, ?_⟩
      simp only [sOk]
      exact sOks_mem.mpr fun d m => by
        rcases List.mem_append.mp m with m | m
        · exact sOks_mem.mp s1 d m
        · exact sOks_mem.mp s2 d m
    · exact p.elim
  · exact p.elim
theorem reps_flat {M : Hp} {ds : List PyData} {vs : List V} (r : Reps M ds vs) : ∀ n : Nat, Reps M (List.replicate n ds).flatten (List.replicate n vs).flatten
  | 0 => rfl
  | n + 1 => by rw [List.replicate_succ, List.replicate_succ, List.flatten_cons, List.flatten_cons]; exact r.append (reps_flat r n)
theorem o_mul : Op2 X E (binaryOp .Mult) oMul := Op2.of (OpR.or op_mul op_rep) fun θ hm H d1 d2 x y Q w r1 r2 p => by
  unfold oMul at p
  split at p
  · split at p
    · rename_i hc
      refine .inl ⟨_, _, int_get r1, int_get r2, ?_, p.okv w (drep_int _)⟩
      simp only [mulOk, Bool.or_eq_true, Bool.and_eq_true, decide_eq_true_eq] at hc
      exact hc
    · exact p.elim
  · split at p
    · rename_i xs j hc
      simp only [Bool.and_eq_true, decide_eq_true_eq] at hc
      have s1 : sOks xs = true := by simpa [sOk] using r1.2
      obtain ⟨a, us, rfl, ha, q1, _⟩ := lst_get r1
      refine .inr ⟨a, j, us, rfl, int_get r2, view_same _ _ _ _ ha, hc.1.2, hc.2, by rw [q1.length]; exact szOk_le hc.1.1, fun q hq => ?_⟩
      obtain ⟨e1, w1, g⟩ := w.put (o := .lst (List.replicate j.toNat us).flatten) hq
      refine p _ _ e1 w1 _ ⟨⟨q, _, rfl, g, (reps_flat q1 _).same e1.same⟩, ?_⟩
      simp only [sOk]
      exact sOks_mem.mpr fun d m => by
        obtain ⟨l, hl, hd⟩ := List.mem_flatten.mp m
        rw [(List.mem_replicate.mp hl).2] at hd
        exact sOks_mem.mp s1 d hd
    · exact p.elim
  · exact p.elim
theorem atI_map {α β : Type} (f : α → β) (xs : List α) (i : Int) : atI (xs.map f) i = (atI xs i).map f := by
  unfold atI
  rw [List.length_map]
  cases ixN xs.length i with
  | none => rfl
  | some j => simp
theorem atI_rel {G : Gx} {ds : List D} {vs : List V} {i : Int} {d : D} (r : DReps G θ H ds vs) (e : atI ds i = some d) : ∃ v, L2.atI vs i = some v ∧ DRep G θ H d v := by
  have hl : ds.length = vs.length := Paired.length r
  unfold atI at e
  unfold L2.atI
  rw [← hl]
  change (ixN ds.length i).bind _ = _ at e
  show ∃ v, (ixN ds.length i).bind (fun j => vs[j]?) = some v ∧ _
  cases hj : ixN ds.length i with
  | none => rw [hj] at e; cases e
  | some j =>
    rw [hj] at e
    exact DReps.some r e
theorem ix_dataS : IxR X (rOf X.G E oIxS) := by
  intro value slice pins s σ H x y v u Q I rx ry ⟨θ, h, d1, d2, w, r1, r2, p⟩ hs
  unfold oIxS at p
  split at p
  · rename_i i
    have ey := int_get r2
    split at p
    · rename_i ds
      split at p
      · rename_i d he
        obtain ⟨a, us, rfl, ha, q1, q2⟩ := tup_get r1
        obtain ⟨z, e1, rz⟩ := atI_rel (i := i) (d := .dat d) q2 (by rw [atI_map, he]; rfl)
        exact ix_tup value slice pins s σ H _ y v u Q I rx ry ⟨a, us, i, z, rfl, ey, SqT.of (view_same _ _ _ _ ha), e1, p.okv w rz⟩ hs
      · exact p.elim
    · rename_i ds
      split at p
      · rename_i d he
        obtain ⟨a, us, rfl, ha, q1, q2⟩ := lst_get r1
        obtain ⟨z, e1, rz⟩ := atI_rel (i := i) (d := .dat d) q2 (by rw [atI_map, he]; rfl)
        exact ix_list value slice pins s σ H _ y v u Q I rx ry ⟨a, us, i, z, rfl, ey, SqL.of (view_same _ _ _ _ ha), e1, p.okv w rz⟩ hs
      · exact p.elim
    · rename_i j
      split at p
      · rename_i xs hx
        split at p
        · rename_i d he
          obtain ⟨a, ha, rfl⟩ := r1
          obtain ⟨vs, hv, rs⟩ := w.obj _ _ _ ha hx
          obtain ⟨z, e1, rz⟩ := atI_rel rs he
          exact ix_list value slice pins s σ H _ y v u Q I rx ry ⟨a, vs, i, z, rfl, ey, SqL.of hv, e1, p.okv w rz⟩ hs
        · exact p.elim
      · exact p.elim
    · rename_i ns
      split at p
      · rename_i n he
        obtain ⟨a, rfl, hq⟩ := r1
        have e1 : L2.atI (ns.map V.int) i = some (.int n) := by
          have := atI_map V.int ns i
          rw [he] at this
          exact this
        exact ix_list value slice pins s σ H _ y v u Q I rx ry ⟨a, _, i, _, rfl, ey, (view_same _ _).seq hq, e1, p.okv w (drep_int _)⟩ hs
      · exact p.elim
    · exact p.elim
  · exact p.elim
def lO (G : Gx) (E : XK) (m : MO') : TO := fun σ H Q => ∃ θ h ρ, W G θ h H ∧ Fr G θ H ρ σ ∧ Post G (ofX G E) θ H (m ρ h) (fun o _ _ H' => Q o H')
@[irreducible] def DO (X : Cx) (E : XK) (m : MO') (e : Option Expr) : Prop := PO X e (lO X.G E m)
theorem DO_eq (X : Cx) (E : XK) (m : MO') (e : Option Expr) : DO X E m e = (PO X e (lO X.G E m)) := by
  unfold DO
  rfl
theorem PO.imp {X : Cx} {e : Option Expr} {t t' : TO} (h : PO X e t) (k : ∀ σ H Q, t' σ H Q → t σ H Q) : PO X e t' := fun pins s σ H Q I q => h pins s σ H Q I (k _ _ _ q)
theorem do_none : DO X E pNone none := by
  simp only [DO_eq] at *
  exact PO.imp po_none fun σ H Q ⟨θ, h, ρ, w, fr, p⟩ => p θ H Ev.refl w
theorem do_some (h : DE X E m e) : DO X E (pSome m) (some e) := by
  simp only [DE_eq, DO_eq] at *
  exact PO.imp (po_some h) fun σ H Q ⟨θ, h, ρ, w, fr, p⟩ => ⟨θ, h, ρ, w, fr, (Post.bind p).mono fun d θ1 h1 H1 _ _ ⟨ev, w1, p1⟩ v r => by
    split at p1
    · exact ⟨_, int_get r, p1 θ1 H1 Ev.refl w1⟩
    · exact p1.elim⟩
theorem cut_rel {M : Hp} {ds : List PyData} {vs : List V} (r : Reps M ds vs) (lo hi : Option Int) : Reps M (cut ds lo hi) (cutV vs lo hi) := by
  unfold cut cutV
  have e : vs.length = ds.length := r.length
  rw [e]
  exact (r.drop _).take _
theorem cut_mem {α : Type} {xs : List α} {lo hi : Option Int} {x : α} (h : x ∈ cut xs lo hi) : x ∈ xs := List.mem_of_mem_drop (List.mem_of_mem_take h)
theorem sOks_cut {ds : List PyData} (h : sOks ds = true) (lo hi : Option Int) : sOks (cut ds lo hi) = true := sOks_mem.mpr fun d m => sOks_mem.mp h d (cut_mem m)
def slOf (G : Gx) (E : XK) : V → Option Int → Option Int → Hp → VK → Prop := fun x lo hi H Q => ∃ θ h d, W G θ h H ∧ DRep G θ H d x ∧ Post G (ofX G E) θ H (slD d lo hi h) (KV G Q)
theorem sl_data : SlR X (slOf X.G E) := by
  intro pins s σ H x v vl vu lo hi sl Q I rx hs pl pu ⟨θ, h, d, w, r, p⟩
  unfold slD at p
  split at p
  · rename_i ds
    refine sl_tupG pins s σ H x v vl vu lo hi sl Q I rx hs pl pu ⟨view θ H, ds, view_same _ _, r.1, fun r' H' M' ex rr => ?_⟩
    obtain ⟨e1, w1, sm⟩ := view_ext w ex
    exact p _ _ e1 w1 _ ⟨rr.same sm, by simp only [sOk]; exact sOks_cut (by simpa [sOk] using r.2) lo hi⟩
  · rename_i ds
    have so : sOks ds = true := by simpa [sOk] using r.2
    obtain ⟨a, us, rfl, ha, q1, q2⟩ := lst_get r
    refine sl_list pins s σ H _ v vl vu lo hi sl Q I rx hs pl pu ⟨a, us, rfl, SqL.of (view_same _ _ _ _ ha), fun q hq => ?_⟩
    obtain ⟨e1, w1, g⟩ := w.put (o := .lst (cutV us lo hi)) hq
    exact p _ _ e1 w1 _ ⟨⟨q, _, rfl, g, (cut_rel q1 lo hi).same e1.same⟩, by simp only [sOk]; exact sOks_cut so lo hi⟩
  · exact p.elim
theorem de_slice {lo hi : Option Expr} {ml mh : MO'} {p2 : Pos} (he : DE X E m e) (hl : DO X E ml lo) (hu : DO X E mh hi) : DE X E (eSl m ml mh) (.Subscript e (.Slice lo hi none p2) pos) := by
  simp only [DE_eq, DO_eq] at *
  exact PE.imp (pe_slice sl_data he hl hu) fun σ H Q ⟨θ, h, ρ, w, fr, p⟩ => ⟨θ, h, ρ, w, fr, (Post.bind p).mono fun d θ1 h1 H1 _ _ ⟨ev, w1, p1⟩ v r =>
      ⟨θ1, h1, ρ, w1, fr.ev ev, (Post.bind p1).mono fun l θ2 h2 H2 _ _ ⟨ev2, w2, p2⟩ => ⟨θ2, h2, ρ, w2, (fr.ev ev).ev ev2, (Post.bind p2).mono fun u θ3 h3 H3 _ _ ⟨ev3, w3, p3⟩ => ⟨θ3, h3, d, w3, (r.ev ev2).ev ev3, p3⟩⟩⟩⟩
theorem c_len : Cal X E (.builtin "len") bLen := Cal.of call_len fun θ hm H ds xs Q w r p => by
  unfold bLen at p
  split at p
  · split at p
    · rename_i hz
      cases r with
      | cons r rr =>
        cases rr
        exact ⟨_, _, rfl, by rw [(str_get r).1]; exact ⟨szOk_le hz, rfl⟩, p.okv w (drep_int _)⟩
    · exact p.elim
  · cases r with
    | cons r rr =>
      cases rr
      obtain ⟨a, us, rfl, ha, q1, _⟩ := tup_get r
      exact ⟨_, _, rfl, .inr ⟨us, SqT.of (view_same _ _ _ _ ha), q1.length.symm⟩, p.okv w (drep_int _)⟩
  · cases r with
    | cons r rr =>
      cases rr
      obtain ⟨a, us, rfl, ha, q1, _⟩ := lst_get r
      exact ⟨_, _, rfl, .inl ⟨us, SqL.of (view_same _ _ _ _ ha), q1.length.symm⟩, p.okv w (drep_int _)⟩
  · rename_i i
    split at p
    · rename_i ys hy
      cases r with
      | cons r rr =>
        cases rr
        obtain ⟨a, ha, rfl⟩ := r
        obtain ⟨vs, hv, rs⟩ := w.obj _ _ _ ha hy
        exact ⟨_, _, rfl, .inl ⟨vs, SqL.of hv, Paired.length rs⟩, p.okv w (drep_int _)⟩
    · exact p.elim
  · rename_i ns
    cases r with
    | cons r rr =>
      cases rr
      obtain ⟨a, rfl, hq⟩ := r
      exact ⟨_, _, rfl, .inl ⟨_, (view_same _ _).seq hq, by simp⟩, p.okv w (drep_int _)⟩
  · exact p.elim
theorem reps_bools {M : Hp} : ∀ {ds : List PyData} {vs : List V} {bs : List Bool}, Reps M ds vs → bools ds = some bs → vs = bs.map V.bl
  | [], _, bs, h, e => by cases h; cases e; rfl
  | d :: ds, _, bs, ⟨v, vs, rfl, r, rs⟩, e => by
    cases d with
    | bool b =>
      simp only [bools, Option.map_eq_some_iff] at e
      obtain ⟨bs', e1, e2⟩ := e
      subst e2
      rw [reps_bools rs e1, show v = V.bl b from r]
      rfl
    | _ => simp [bools] at e
theorem c_all (hc : X.calm = true) : Cal X E (.builtin "all") bAll := Cal.of (call_all hc) fun θ hm H ds xs Q w r p => by
  unfold bAll at p
  split at p
  · split at p
    · rename_i bs hb
      cases r with
      | cons r rr =>
        cases rr
        obtain ⟨a, us, rfl, ha, q1, _⟩ := lst_get r
        rw [reps_bools q1 hb] at ha
        exact ⟨a, bs, rfl, SqL.of (view_same _ _ _ _ ha), p.okv w (drep_bool _)⟩
    · exact p.elim
  · exact p.elim
end
end Ml
namespace L2
open PySem PySem.Spec PyProof.Rows
section
variable {X : Cx}
end
end L2
namespace Ml
open PySem PySem.Spec L2
section
variable {X : Cx} {E : XK} {k : Nat} {θ : List Addr} {hm : Hm} {H : Hp} {m : ME} {t : MT} {e e1 e2 : Expr} {pos : Pos} {ma : MA}
theorem de_isi {T : Str} {n : String} {f : PyData → Bool} (kit : ∀ d, PySem.W.kitOne X.K (.type (tyD d)) (.type n) = some (f d)) (bt : bootBuiltins T = some (.type n)) (m1 : X.mg "isinstance" = none) (m2 : X.mg T = none) (h : DE X E m e) {p p2 : Pos} (g1 : Gl X "isinstance" := by rfl) (g2 : Gl X T := by rfl) (hT : T ≠ "__name__" := by decide) (hT2 : (T == ("__debug__" : Str)) = false := by decide)
    (hs : starEach [e, .Name T p2] X.env = (false, eval e X.env) :: starEach [.Name T p2] X.env := by rfl) (hs2 : starEach [.Name T p2] X.env = [(false, eval (.Name T p2) X.env)] := by rfl) (hpl : (backTo pos (starEach [.Name T p2] X.env)).any (·.1) = false := by rfl) : DE X E (eUn (bIsi f) m) (.Call (.Name "isinstance" p) [e, .Name T p2] [] pos) := by
  simp only [DE_eq] at *
  exact PE.imp (pe_callB call_isi g1 m1 bt_isinstance (pa_cons h (pa_cons (pe_bltn (v := .ty n) g2 m2 bt rfl hT hT2) pa_nil hs2) hs) (by decide) (by decide) hs hpl) fun σ H Q ⟨θ, h, ρ, w, fr, p⟩ => ⟨θ, h, ρ, w, fr, (Post.bind p).mono fun d θ1 h1 H1 _ _ ⟨ev, w1, p1⟩ v r => by
      cases d with
      | dat d => exact ⟨v, n, _, f d, rfl, (r.1.same (view_same _ _)).ty, kit d, p1.okv w1 (drep_bool _)⟩
      | _ => exact p1.elim⟩
theorem reps_signs {M : Hp} (x : Str) : ∀ (l : List Nat), Reps M (l.map fun i => .str ⟨#[x.cps.getD i 0]⟩) (l.map (sgn x))
  | [] => rfl
  | i :: l => .cons rfl (reps_signs x l)
theorem signs_ok {x : Str} (h : PyData.strOk x = true) : sOks (signsP x) = true := sOks_mem.mpr fun d m => by
  obtain ⟨i, _, rfl⟩ := List.mem_map.mp m
  simp only [sOk]
  exact sign_ok h
theorem c_tuple (hc : X.calm = true) : Cal X E (.type "tuple") bTuple := Cal.of (CallR.or call_tuple_of (call_tupleS hc)) fun θ hm H ds xs Q w r p => by
  unfold bTuple at p
  split at p
  · cases r with
    | cons r rr =>
      cases rr
      obtain ⟨a, us, e, ha, q1, _⟩ := tup_get r
      subst e
      exact .inl ⟨a, us, rfl, .inr ⟨SqT.of (view_same _ _ _ _ ha), p.okv w r⟩⟩
  · split at p
    · rename_i s hz
      cases r with
      | cons r rr =>
        cases rr
        obtain ⟨e1, s1⟩ := str_get r
        subst e1
        refine .inr ⟨s, rfl, szOk_le hz, fun q hq => ?_⟩
        obtain ⟨e1, w1, g⟩ := w.put (o := .tup ((List.range s.cps.size).map (sgn s))) hq
        exact p _ _ e1 w1 _ ⟨⟨q, _, rfl, g, reps_signs s _⟩, by simp only [sOk]; exact signs_ok s1⟩
    · exact p.elim
  · split at p
    · rename_i ds hy
      cases r with
      | cons r rr =>
        cases rr
        obtain ⟨a, vs, rfl, ha, rp, so⟩ := list_of w r hy
        refine .inl ⟨a, vs, rfl, .inl ⟨SqL.of ha, fun q hq => ?_⟩⟩
        obtain ⟨e1, w1, g⟩ := w.put (o := .tup vs) hq
        exact p _ _ e1 w1 _ ⟨⟨q, _, rfl, g, rp.same e1.same⟩, by simpa [sOk] using so⟩
    · exact p.elim
  · exact p.elim
theorem c_listS : Cal X E (.type "list") bListS := Cal.of call_list_of fun θ hm H ds xs Q w r p => by
  unfold bListS at p
  split at p
  · cases r with
    | cons r rr =>
      cases rr
      have so := r.2
      obtain ⟨a, us, e, ha, q1, _⟩ := tup_get r
      subst e
      refine ⟨a, us, rfl, .inr (SqT.of (view_same _ _ _ _ ha)), fun q hq => ?_⟩
      obtain ⟨e1, w1, g⟩ := w.put (o := .lst us) hq
      exact p _ _ e1 w1 _ ⟨⟨q, _, rfl, g, q1.same e1.same⟩, by simpa [sOk] using so⟩
  · split at p
    · rename_i ds hy
      cases r with
      | cons r rr =>
        cases rr
        obtain ⟨a, vs, rfl, ha, rp, so⟩ := list_of w r hy
        refine ⟨a, vs, rfl, .inl (SqL.of ha), fun q hq => ?_⟩
        obtain ⟨e1, w1, g⟩ := w.put (o := .lst vs) hq
        exact p _ _ e1 w1 _ ⟨⟨q, _, rfl, g, rp.same e1.same⟩, by simpa [sOk] using so⟩
    · exact p.elim
  · exact p.elim
theorem c_divmod : Cal X E (.builtin "divmod") bDivmod := Cal.of call_divmod fun θ hm H ds xs Q w r p => by
  unfold bDivmod at p
  split at p
  · split at p
    · rename_i i j hj
      cases r with
      | cons r1 rr =>
        cases rr with
        | cons r2 rr =>
          cases rr
          cases int_get r1
          cases int_get r2
          refine ⟨i, j, rfl, hj, fun q hq => ?_⟩
          obtain ⟨e1, w1, g⟩ := w.put (o := .tup [.int (i / j), .int (i % j)]) hq
          exact p _ _ e1 w1 _ ⟨⟨q, _, rfl, g, .cons rfl (.one rfl)⟩, by simp [sOk, sOks]⟩
    · exact p.elim
  · exact p.elim
theorem c_abs : Cal X E (.builtin "abs") bAbs := Cal.of call_abs fun θ hm H ds xs Q w r p => by
  unfold bAbs at p
  split at p
  · cases r with
    | cons r1 rr =>
      cases rr
      cases int_get r1
      exact ⟨_, rfl, p.okv w (drep_int _)⟩
  · exact p.elim
theorem c_max (hc : X.calm = true) : Cal X E (.builtin "max") bMax := Cal.of (call_max2 hc) fun θ hm H ds xs Q w r p => by
  unfold bMax at p
  split at p
  · cases r with
    | cons r1 rr =>
      cases rr with
      | cons r2 rr =>
        cases rr
        cases int_get r1
        cases int_get r2
        exact ⟨_, _, rfl, p.okv w (drep_int _)⟩
  · exact p.elim
theorem c_min (hc : X.calm = true) : Cal X E (.builtin "min") bMin := Cal.of (call_min2 hc) fun θ hm H ds xs Q w r p => by
  unfold bMin at p
  split at p
  · cases r with
    | cons r1 rr =>
      cases rr with
      | cons r2 rr =>
        cases rr
        cases int_get r1
        cases int_get r2
        exact ⟨_, _, rfl, p.okv w (drep_int _)⟩
  · exact p.elim
theorem c_int : Cal X E (.type "int") bInt := Cal.of call_int1 fun θ hm H ds xs Q w r p => by
  unfold bInt at p
  split at p
  · cases r with
    | cons r1 rr =>
      cases rr
      cases int_get r1
      exact .inl ⟨_, rfl, p.okv w (drep_int _)⟩
  · cases r with
    | cons r1 rr =>
      cases rr
      obtain ⟨e1, _⟩ := r1
      cases e1
      exact .inr ⟨_, rfl, p.okv w (drep_int _)⟩
  · exact p.elim
end
end Ml
namespace Ml
open PySem PySem.Spec L2
section
variable {X : Cx} {E : XK} {k : Nat} {θ : List Addr} {hm : Hm} {H : Hp} {m ma' mb : ME} {t : MT} {e e1 e2 o i : Expr} {es : List Expr} {pos : Pos} {ma : MA} {x : Str}
theorem de_lit (n : Nat) {d : PyData} (h : Lit n e d) (s : sOk d = true) : DE X E (eDat d) e := by
  simp only [DE_eq] at *
  exact PE.imp (pe_lit n h) fun σ H Q ⟨θ, hm, ρ, w, fr, p⟩ r H' N s1 nw rp => by
      obtain ⟨e1, w1⟩ := w.grow s1
      refine p _ _ e1 w1 _ ⟨rp.same fun c o q => ?_, s⟩
      have nb : c ∉ θ := w.notin (nw c o q).1
      rw [view_of nb]
      exact (nw c o q).2
theorem de_gint {n : Int} {p : Pos} (hm : ∃ t, X.mg x = some (.int n t)) (hg : Gl X x := by rfl) (hd : (x == ("__debug__" : Str)) = false := by decide) : DE X E (eDat (.int n)) (.Name x p) := by
  obtain ⟨t, hm⟩ := hm
  exact de_c (pe_glob (v := .int n) hg hm ⟨t, rfl⟩ hd) (fun _ => rfl) (by simp [sOk])
theorem it_ktup {G : Gx} {xs : List PyData} {a : Addr} (kt : KTup G.K a xs) : ItRep G θ H (xs.map D.dat) (Itt G.K a) := fun θ' h' H' ev w => by
  obtain ⟨⟨o, its, n, hl, hc, hd, hz, rv⟩, fl, so⟩ := kt
  have q : SqT G.K H' a (xs.map scV) := .inr ⟨o, its, n, hl, hc, hd, hz, rv⟩
  refine ⟨fun i d e => ?_, ⟨_, q, by simp⟩⟩
  rw [List.getElem?_map, Option.map_eq_some_iff] at e
  obtain ⟨y, ey, rfl⟩ := e
  refine ⟨⟨_, scV y, q, by simp [ey]⟩, fun x H2 ⟨e2, z⟩ => ?_⟩
  subst e2
  have := z _ q
  rw [List.getElem?_map, ey] at this
  cases this
  have hy := fl y (List.mem_of_getElem? ey)
  refine ⟨Ev.refl, w, ?_, sOks_get so ey⟩
  cases y with
  | none => rfl
  | bool b => rfl
  | int i => rfl
  | str x => rfl
  | _ => simp at hy
def itKt (e : ME) : MA := fun ρ h => (e ρ h).bind fun x h1 => match x with
  | .ktup xs => .ok (xs.map D.dat) h1
  | _ => .bad
theorem di_ktup {tg : Expr} (h : DE X E m e) : DI X E (itKt m) tg e := by
  simp only [DE_eq, DI_eq] at *
  exact PI.imp (pi_tup h) fun σ H R ⟨θ, h, ρ, w, fr, p⟩ => ⟨θ, h, ρ, w, fr, (Post.bind p).mono fun d θ1 h1 H1 _ _ ⟨ev, w1, p1⟩ v r => by
      cases d with
      | ktup xs =>
        obtain ⟨a, e, kt⟩ := r
        exact ⟨a, e, ⟨_, .inr kt.1⟩, p1 θ1 H1 Ev.refl w1 _ (it_ktup kt)⟩
      | _ => exact p1.elim⟩
def isL (x : D) (h : Hm) : Bool := match x with
  | .ref j => match h[j]? with
    | some (.lst _) => true
    | _ => false
  | _ => false
def eMet (f : D → D → Hm → R D) (a b : ME) : ME := fun ρ h => (a ρ h).bind fun x h1 => if isL x h1 then (b ρ h1).bind fun y h2 => f x y h2 else .bad
theorem isL_get {x : D} {h : Hm} (e : isL x h = true) : ∃ j xs, x = .ref j ∧ h[j]? = some (.lst xs) := by
  unfold isL at e
  split at e
  · rename_i j
    split at e
    · rename_i xs hx
      exact ⟨j, xs, rfl, hx⟩
    · cases e
  · cases e
theorem tyV_ref {G : Gx} {j : Nat} {xs : List D} {v : V} (w : W G θ hm H) (r : DRep G θ H (.ref j) v) (e : hm[j]? = some (.lst xs)) : ∃ a vs, v = .ref a ∧ θ[j]? = some a ∧ H a = some (.lst vs) ∧ DReps G θ H xs vs := by
  obtain ⟨a, ha, rfl⟩ := r
  obtain ⟨vs, hv, rs⟩ := w.obj _ _ _ ha e
  exact ⟨a, vs, rfl, ha, hv, rs⟩
theorem DReps.setI {G : Gx} {d : D} {v : V} (q : DRep G θ H d v) : ∀ {xs : List D} {vs : List V} (n : Nat), DReps G θ H xs vs → DReps G θ H (xs.set n d) (vs.set n v)
  | _, _, _, .nil => .nil
  | _, _, 0, .cons _ t => .cons q t
  | _, _, n + 1, .cons r t => .cons r (DReps.setI q n t)
theorem W.writeL {G : Gx} {j : Nat} {a : Addr} {xs : List D} {vs : List V} (w : W G θ hm H) (ha : θ[j]? = some a) (hl : j < hm.length) (r : DReps G θ H xs vs) : Ev θ H θ (upd H a (.lst vs)) ∧ W G θ (hm.set j (.lst xs)) (upd H a (.lst vs)) := by
  have hmm : a ∈ θ := List.mem_of_getElem? ha
  have e : Ev θ H θ (upd H a (.lst vs)) := ⟨⟨[], by simp⟩, fun b u q => by
    obtain ⟨h1, h2⟩ := view_get q
    have ne : b ≠ a := fun z => by subst z; exact h1 hmm
    rw [view_of h1, upd_ne ne]
    exact h2⟩
  exact w.write ha hl ⟨vs, upd_same, r.ev e⟩
theorem lt_of_get {α : Type} {xs : List α} {i : Nat} {x : α} (h : xs[i]? = some x) : i < xs.length := (List.getElem?_eq_some_iff.mp h).1
theorem lE_met {G : Gx} {K : PySem.W.Frag} {f : D → D → Hm → R D} {r : V → List V → Hp → VK → Prop} {σ : L2.St} {H : Hp} {Q : VK} (h : lE G E (eMet f ma' mb) σ H Q) (k : ∀ θ h H d1 d2 x y, W G θ h H → DRep G θ H d1 x → DRep G θ H d2 y → Post G (ofX G E) θ H (f d1 d2 h) (KV G Q) → r x [y] H Q) :
    tBM K "list" r (lE G E ma') (tCons (lE G E mb) tNil) σ H Q := by
  obtain ⟨θ, h, ρ, w, fr, p⟩ := h
  refine ⟨θ, h, ρ, w, fr, (Post.bind p).mono fun d θ1 h1 H1 _ _ ⟨ev, w1, p1⟩ v r1 => ?_⟩
  split at p1
  · rename_i hl
    obtain ⟨j, xs, rfl, hx⟩ := isL_get hl
    obtain ⟨a, vs, rfl, ha, hv, rs⟩ := tyV_ref w1 r1 hx
    exact ⟨.inl ⟨rfl, _, SqL.of hv⟩, θ1, h1, ρ, w1, fr.ev ev, (Post.bind p1).mono fun d2 θ2 h2 H2 _ _ ⟨ev2, w2, p2⟩ y r2 => k θ2 h2 H2 _ d2 _ y w2 (r1.ev ev2) r2 p2⟩
  · exact p1.elim
theorem de_append {apos cpos : Pos} (ho : DE X E ma' o) (ha : DE X E mb e) (hbase : attributeBase o "append" X.env (eval o X.env) = eval o X.env := by rfl)
    (hfew : ((backTo cpos (starEach [e] X.env)).all (fun x => !x.1) && (backToKw cpos (keywordEach [] X.env)).all (fun x => x.1.isSome) && decide ([e].length + ([] : List Keyword).length + (if ([] : List Keyword).isEmpty then 0 else 1) < 30)) = true := by rfl)
    (hline : (apos.endLine == cpos.line) = true := by rfl) (hs : starEach [e] X.env = (false, eval e X.env) :: starEach [] X.env := by rfl) (hplain : (backTo cpos (starEach [] X.env)).any (·.1) = false := by rfl) : DE X E (eMet mAppend ma' mb) (.Call (.Attribute o "append" apos) [e] [] cpos) := by
  simp only [DE_eq] at *
  exact PE.imp (pe_bm PySem.F.plainAttrs_list PySem.F.slot_list_append PySem.F.type_list_append mt_append ho (pa_cons ha pa_nil hs) hbase hfew hline hs hplain) fun σ H Q q => lE_met q fun θ h H d1 d2 x y w r1 r2 p => by
      unfold mAppend at p
      split at p
      · rename_i j
        split at p
        · rename_i xs hx
          split at p
          · rename_i hz
            obtain ⟨a, vs, rfl, ha, hv, rs⟩ := tyV_ref w r1 hx
            have hl : xs.length = vs.length := Paired.length rs
            obtain ⟨e1, w1⟩ := w.writeL ha (lt_of_get hx) (paired_append rs (.cons r2 .nil))
            exact ⟨a, vs, y, rfl, rfl, hv, by rw [← hl, PySem.sizeLine_eq]; exact of_decide_eq_true hz, p _ _ e1 w1 _ drep_none⟩
          · exact p.elim
        · exact p.elim
      · exact p.elim
theorem setL_post {G : Gx} {F : XP} {d1 d2 d : D} {x y v : V} {Q : Hp → Prop} (w : W G θ hm H) (r1 : DRep G θ H d1 x) (r2 : DRep G θ H d2 y) (rd : DRep G θ H d v) (p : Post G F θ H (mSetL d1 d2 d hm) (fun _ _ _ H' => Q H')) : rSetL x y v H Q := by
  cases d1 with
  | ref j =>
    cases d2 with
    | dat dd =>
      cases dd with
      | int kk =>
        simp only [mSetL] at p
        cases hx : hm[j]? with
        | none => rw [hx] at p; exact p.elim
        | some oo =>
          rw [hx] at p
          cases oo with
          | lst xs =>
            simp only at p
            cases hn : ixN xs.length kk with
            | none => rw [hn] at p; exact p.elim
            | some n =>
              rw [hn] at p
              obtain ⟨a, vs, rfl, ha, hv, rs⟩ := tyV_ref w r1 hx
              have hl : xs.length = vs.length := Paired.length rs
              obtain ⟨e1, w3⟩ := w.writeL ha (lt_of_get hx) (DReps.setI rd n rs)
              exact ⟨a, vs, kk, n, rfl, int_get r2, hv, by rw [← hl]; exact hn, p _ _ e1 w3⟩
          | _ => exact p.elim
      | _ => exact p.elim
    | _ => exact p.elim
  | _ => exact p.elim
theorem emp_len {α β : Type} {xs : List α} {ys : List β} (h : xs.length = ys.length) : (!xs.isEmpty) = !ys.isEmpty := by
  cases xs <;> cases ys <;> simp_all
theorem truth_of {G : Gx} {d : D} {v : V} {b : Bool} (w : W G θ hm H) (r : DRep G θ H d v) (e : truth d hm = some b) : TruV G.K v H b := by
  unfold truth at e
  split at e
  · cases e; cases r.1; rfl
  · cases e; cases r.1; rfl
  · cases e; cases r.1; rfl
  · split at e
    · rename_i hz; cases e; cases r.1; exact ⟨szOk_le hz, rfl⟩
    · cases e
  · cases e
    obtain ⟨a, us, rfl, ha, q1, _⟩ := tup_get r
    exact .inr (.inl ⟨us, SqT.of (view_same _ _ _ _ ha), emp_len q1.length.symm⟩)
  · cases e
    obtain ⟨a, us, rfl, ha, q1, _⟩ := lst_get r
    exact .inl ⟨us, SqL.of (view_same _ _ _ _ ha), emp_len q1.length.symm⟩
  · split at e
    · rename_i xs hx
      cases e
      obtain ⟨a, vs, rfl, ha, hv, rs⟩ := tyV_ref w r hx
      refine .inl ⟨vs, SqL.of hv, ?_⟩
      cases rs <;> rfl
    · cases e
  · cases e
theorem dt_truth (h : DE X E m e) (he : ∀ whole, isTrue e X.env whole = (do let v ← whole; standAt e.pos; holding [v] (truthy v)) := by intro _; rfl) : DT X E (tTruth m) e := by
  simp only [DE_eq, DT_eq] at *
  exact PT.imp (pt_truth h he) fun σ H Q ⟨θ, h, ρ, w, fr, p⟩ => ⟨θ, h, ρ, w, fr, (Post.bind p).mono fun d θ1 h1 H1 _ _ ⟨ev, w1, p1⟩ v r => by
      split at p1
      · rename_i b hb
        exact ⟨b, truth_of w1 r hb, p1 θ1 H1 Ev.refl w1⟩
      · exact p1.elim⟩
def plainD : D → Option PyData
  | .dat .none => some .none
  | .dat (.bool b) => some (.bool b)
  | _ => none
def isP : PyData → PyData → Bool
  | .none, .none => true
  | .bool a, .bool b => a == b
  | _, _ => false
def oIs (x y : D) (h : Hm) : R D := match plainD y with
  | some e => match x with
    | .dat d => .ok (.bool (isP d e)) h
    | _ => .bad
  | none => .bad
def oIsNot (x y : D) (h : Hm) : R D := match plainD y with
  | some e => match x with
    | .dat d => .ok (.bool !(isP d e)) h
    | _ => .bad
  | none => .bad
theorem is_beq {d e : PyData} {v u : V} {a b : Value} {M : Hp} (re : plainD (.dat e) = some e) (r1 : Rep M d v) (r2 : Rep M e u) (ra : RelV v a) (rb : RelV u b) : (a == b) = isP d e ∧ PySem.plainIs a b = true := by
  cases e with
  | none =>
    cases r2
    cases rb
    cases d with
    | none => cases r1; cases ra; exact ⟨by decide, by decide⟩
    | bool c => cases r1; cases ra; cases c <;> exact ⟨by decide, by decide⟩
    | int c => cases r1; obtain ⟨t, rfl⟩ := ra; exact ⟨rfl, rfl⟩
    | str c => cases r1; obtain ⟨t, rfl⟩ := ra; exact ⟨rfl, rfl⟩
    | list c => obtain ⟨x, _, rfl, _⟩ := r1; cases ra; exact ⟨rfl, rfl⟩
    | tuple c => obtain ⟨x, _, rfl, _⟩ := r1; cases ra; exact ⟨rfl, rfl⟩
    | dict c => obtain ⟨x, _, rfl, _⟩ := r1; cases ra; exact ⟨rfl, rfl⟩
  | bool f =>
    cases r2
    cases rb
    cases d with
    | none => cases r1; cases ra; cases f <;> exact ⟨by decide, by decide⟩
    | bool c => cases r1; cases ra; cases c <;> cases f <;> exact ⟨by decide, by decide⟩
    | int c => cases r1; obtain ⟨t, rfl⟩ := ra; exact ⟨rfl, rfl⟩
    | str c => cases r1; obtain ⟨t, rfl⟩ := ra; exact ⟨rfl, rfl⟩
    | list c => obtain ⟨x, _, rfl, _⟩ := r1; cases ra; exact ⟨rfl, rfl⟩
    | tuple c => obtain ⟨x, _, rfl, _⟩ := r1; cases ra; exact ⟨rfl, rfl⟩
    | dict c => obtain ⟨x, _, rfl, _⟩ := r1; cases ra; exact ⟨rfl, rfl⟩
  | _ => simp [plainD] at re
theorem o_is : Op2 X E (compareOp .Is) oIs := by
  intro pins s σ H x y v u Q I rx ry ⟨θ, h, d1, d2, w, r1, r2, p⟩
  unfold oIs at p
  split at p
  · rename_i e he
    split at p
    · rename_i d
      have : d2 = .dat e := by unfold plainD at he; split at he <;> cases he <;> rfl
      subst this
      obtain ⟨q1, q2⟩ := is_beq he r1.1 r2.1 rx ry
      exact PySem.wpAny_is_plain q2 (by rw [q1]; exact ⟨.bl _, H, I, rfl, p.okv w (drep_bool _)⟩)
    · exact p.elim
  · exact p.elim
theorem o_isnot : Op2 X E (compareOp .IsNot) oIsNot := by
  intro pins s σ H x y v u Q I rx ry ⟨θ, h, d1, d2, w, r1, r2, p⟩
  unfold oIsNot at p
  split at p
  · rename_i e he
    split at p
    · rename_i d
      have : d2 = .dat e := by unfold plainD at he; split at he <;> cases he <;> rfl
      subst this
      obtain ⟨q1, q2⟩ := is_beq he r1.1 r2.1 rx ry
      exact PySem.wpAny_isNot_plain q2 (by rw [q1]; exact ⟨.bl _, H, I, rfl, p.okv w (drep_bool _)⟩)
    · exact p.elim
  · exact p.elim
theorem find_seq (hr : Room k X.A) {pins : List (Addr × Obj)} {s : Shared} {σ : L2.St} {H : Hp} {x y : V} {v u : Value} {Q : VK} {θ : List Addr} {h : Hm} {d1 d2 : D} {b : Bool} (I : Inv X pins σ H s) (rx : RelV x v) (ry : RelV y u) (w : W X.G θ h H) (r1 : DRep X.G θ H d1 x) (r2 : DRep X.G θ H d2 y) (hb : findSeq d1 d2 h = some b) :
    (Q (.bl b) H → wpAny (model X.prog X.w) X.A (compareOp .In v u) (EP X pins σ Q) X.xe s) ∧ (Q (.bl !b) H → wpAny (model X.prog X.w) X.A (compareOp .NotIn v u) (EP X pins σ Q) X.xe s) := by
  unfold findSeq at hb
  split at hb
  · split at hb
    · cases hb
      exact ⟨fun q => op_in_str pins s σ H x y v u Q I rx ry ⟨_, _, (str_get r1).1, (str_get r2).1, q⟩, fun q => op_notin_str pins s σ H x y v u Q I rx ry ⟨_, _, (str_get r1).1, (str_get r2).1, q⟩⟩
    · cases hb
  · split at hb
    · rename_i d ds e1 e2
      obtain ⟨⟨as, z1⟩, s1⟩ := read_of I w 3 r1 rx e1
      obtain ⟨⟨bs, z2⟩, s2⟩ := read_of I w 3 r2 ry e2
      exact in_seq hr (.inl rfl) I z1 z2 s1 (by simpa [sOk] using s2) hb
    · rename_i d ds e1 e2
      obtain ⟨⟨as, z1⟩, s1⟩ := read_of I w 3 r1 rx e1
      obtain ⟨⟨bs, z2⟩, s2⟩ := read_of I w 3 r2 ry e2
      exact in_seq hr (.inr rfl) I z1 z2 s1 (by simpa [sOk] using s2) hb
    · cases hb
end
end Ml
namespace PySem
open Sem (wp)
def Heap.RawDict (h : Heap) (d : Addr) (es : Array DictEntry) (ep : Nat) : Prop := ∃ o, h.get? d = some o ∧ o.ExactDict ∧ o.data = .dict es ep
theorem Heap.RawDict.typeIs {s : Shared} {d : Addr} {es : Array DictEntry} {ep : Nat} (x : s.heap.RawDict d es ep) : s.TypeIs (.ref d) "dict" := let ⟨o, ho, hc, _⟩ := x; ⟨o, ho, hc.1⟩
theorem Heap.RawDict.at {h h' : Heap} {d : Addr} {es : Array DictEntry} {ep : Nat} (x : h.RawDict d es ep) (e : ∀ o, h.get? d = some o → h'.get? d = some o) : h'.RawDict d es ep := let ⟨o, ho, r⟩ := x; ⟨o, e _ ho, r⟩
section
variable {prog : Program} {w : World} {A : Around} {E : Value → Shared → Prop} {s : Shared} {d it : Addr} {es : Array DictEntry} {ep i : Nat}
theorem raw_iter {Q : Value → Shared → Prop} (hd : (d == sysModules) = false) (hm : s.heap.RawDict d es ep)
    (hQ : Q (.ref s.heap.objs.size) { s with heap := s.heap.push { cls := .type "dict_keyiterator", data := .fields #[.ref d, .int 0 0, .int es.size 0, .int ep 0] } }) : wpAny (model prog w) A (pyIter (.ref d)) Q E s := by
  have hT := hm.typeIs
  obtain ⟨o, ho, hc, hdat⟩ := hm
  refine wpAny_pyIter_slot hT F.slot_dict_iter (wpAny_call_entry F.slot_dict_iter hT F.entry_dict_iter ?_ (F.args_dict_iter_1 _))
  unfold Builtin.«dict.__iter__»
  refine wpAny_bind ?_
  unfold Builtin.Dict.dictSlotNone
  refine wpAny_bind (wpAny_notOrdered_dict hT ?_)
  show wpAny _ _ (pure (Value.ref d)) _ _ s
  refine wpAny_pure ?_
  show wpAny _ _ (Builtin.Dict.showsAll d >>= _) _ _ s
  unfold Builtin.Dict.showsAll
  rw [if_neg (by rw [hd]; exact Bool.false_ne_true)]
  refine wpAny_bind (wpAny_pure ?_)
  refine wpAny_bind (wpAny_dictEntries ho hdat ?_)
  refine wpAny_bind (wpAny_dictEpoch ho hdat ?_)
  refine wpAny_bind (wpAny_newObj_type (wpAny_pure ⟨_, rfl, "dict_keyiterator", _, ⟨_, Heap.get?_push_size _ rfl, rfl⟩, F.slot_dict_keyiterator_next.lookup, ?_⟩))
  simpa [rawInt] using hQ
theorem raw_next {Q : Option Value → Shared → Prop} (hit : s.heap.IsKeyIter it d i es.size ep) (hm : s.heap.RawDict d es ep) (hlt : i < es.size)
    (hQ : ∀ h', h'.IsKeyIter it d (i + 1) es.size ep → Heap.SameBut it s.heap h' → Q (some es[i].key) { s with heap := h' }) : wpAny (model prog w) A (pyNext (.ref it)) Q E s := by
  obtain ⟨o, ho, hc, hd⟩ := id hit
  obtain ⟨od, hod, hcd, hdd⟩ := id hm
  unfold pyNext
  refine wpAny_bind (wpAny_attempt (wpAny_callSpecial?_slot (name := Str.ofString "__next__") hit.typeIs F.slot_dict_keyiterator_next
    (wpAny_call_entry F.slot_dict_keyiterator_next hit.typeIs F.entry_dict_keyiterator_next ?_ (F.args_dict_keyiterator_next_1 _))))
  refine wpAny_bind (wpAny_pure ?_)
  refine wpAny_bind ?_
  refine wpAny_bind ?_
  first | refine wpAny_bind (wpAny_typeNameOfWhole_keyiter hit.typeIs (wpAny_pure ?_)) | refine wpAny_bind (wpAny_typeNameOf_keyiter hit.typeIs (wpAny_pure ?_))
  refine wpAny_bind (wpAny_fieldsOf ho hd ?_)
  have hown : Builtin.Dict_items.ownsTuple "dict_keyiterator" = false := by decide
  simp only [hown, Bool.false_eq_true, if_false]
  show wpAny _ _ (if (Value.ref d == Value.none) = true then _ else _) _ _ s
  rw [if_neg (show ¬ ((Value.ref d == Value.none) = true) from Bool.false_ne_true)]
  refine wpAny_bind (wpAny_pure ?_)
  refine wpAny_bind (wpAny_dictEntries hod hdd ?_)
  rw [if_neg (by simp)]
  refine wpAny_bind (wpAny_pure ?_)
  refine wpAny_bind (wpAny_dictEpoch hod hdd ?_)
  rw [if_neg (by simp)]
  refine wpAny_pure ?_
  simp only [show ¬ ((i : Int) < 0) from by omega, if_false, Int.toNat_natCast, Array.getElem?_eq_getElem hlt]
  refine wpAny_bind ?_
  first | refine wpAny_bind (wpAny_typeNameOfWhole_keyiter hit.typeIs (wpAny_pure ?_)) | refine wpAny_bind (wpAny_typeNameOf_keyiter hit.typeIs (wpAny_pure ?_))
  refine wpAny_bind (wpAny_isOneOf_keyiter hit.typeIs ?_)
  show wpAny _ _ (setField (.ref it) 1 (rawInt ((i : Int) + 1)) >>= _) _ _ s
  refine wpAny_bind (wpAny_setField ho hd (by simp) ?_)
  have hit' : (s.heap.update it (Obj.mapFields (·.setIfInBounds 1 (rawInt ((i : Int) + 1))))).IsKeyIter it d (i + 1) es.size ep :=
    ⟨_, Heap.get?_update_self _ ho (Obj.isFreed_of_fields (Obj.data_mapFields hd _)), (Obj.cls_mapFields ..).trans hc, by rw [Obj.data_mapFields hd]; simp [rawInt]⟩
  refine wpAny_bind (wpAny_holding ?_)
  refine wpAny_bind (wpAny_isOneOf_keyiter (s := { s with heap := s.heap.update it (Obj.mapFields (·.setIfInBounds 1 (rawInt ((i : Int) + 1)))) }) hit'.typeIs ?_)
  show wpAny _ _ (pure es[i].key) _ _ _
  exact wpAny_pure (wpAny_pure ⟨_, rfl, wpAny_pure (hQ _ hit' (Heap.SameBut.update ..))⟩)
theorem raw_end {Q : Option Value → Shared → Prop} (hh : A.handled = none) (hit : s.heap.IsKeyIter it d i es.size ep) (hm : s.heap.RawDict d es ep) (hge : es.size ≤ i)
    (hQ : ∀ h', Heap.ExtBut it s.heap h' → Q none { s with heap := h' }) : wpAny (model prog w) A (pyNext (.ref it)) Q E s := by
  obtain ⟨o, ho, hc, hd⟩ := id hit
  obtain ⟨od, hod, hcd, hdd⟩ := id hm
  unfold pyNext
  refine wpAny_bind (wpAny_attempt (wpAny_callSpecial?_slot (name := Str.ofString "__next__") hit.typeIs F.slot_dict_keyiterator_next
    (wpAny_call_entry F.slot_dict_keyiterator_next hit.typeIs F.entry_dict_keyiterator_next ?_ (F.args_dict_keyiterator_next_1 _))))
  refine wpAny_bind (wpAny_pure ?_)
  refine wpAny_bind ?_
  refine wpAny_bind ?_
  first | refine wpAny_bind (wpAny_typeNameOfWhole_keyiter hit.typeIs (wpAny_pure ?_)) | refine wpAny_bind (wpAny_typeNameOf_keyiter hit.typeIs (wpAny_pure ?_))
  refine wpAny_bind (wpAny_fieldsOf ho hd ?_)
  have hown : Builtin.Dict_items.ownsTuple "dict_keyiterator" = false := by decide
  simp only [hown, Bool.false_eq_true, if_false]
  show wpAny _ _ (if (Value.ref d == Value.none) = true then _ else _) _ _ s
  rw [if_neg (show ¬ ((Value.ref d == Value.none) = true) from Bool.false_ne_true)]
  refine wpAny_bind (wpAny_pure ?_)
  refine wpAny_bind (wpAny_dictEntries hod hdd ?_)
  rw [if_neg (by simp)]
  refine wpAny_bind (wpAny_pure ?_)
  refine wpAny_bind (wpAny_dictEpoch hod hdd ?_)
  rw [if_neg (by simp)]
  refine wpAny_pure ?_
  simp only [show ¬ ((i : Int) < 0) from by omega, if_false, Int.toNat_natCast, Array.getElem?_eq_none hge]
  refine wpAny_bind ?_
  first | refine wpAny_bind (wpAny_typeNameOfWhole_keyiter hit.typeIs (wpAny_pure ?_)) | refine wpAny_bind (wpAny_typeNameOf_keyiter hit.typeIs (wpAny_pure ?_))
  show wpAny _ _ (setField (.ref it) 0 .none >>= _) _ _ s
  refine wpAny_bind (wpAny_setField ho hd (by simp) ?_)
  show wpAny _ _ (newExc (.type "StopIteration") [] >>= _) _ _ _
  refine wpAny_bind ?_
  simp only [newExc, newTuple]
  refine wpAny_bind (wpAny_newObj_type ?_ (by size_fits))
  refine wpAny_bind (m := firstArgMember _ _) (wpAny_of_eq (a := Value.none) (by first | rfl | (simp only [firstArgMember]; rfl)) ?_)
  refine wpAny_newObj_type ?_ (by size_fits)
  simp only [raiseNew]
  refine wpAny_bind (wpAny_handled ?_)
  rw [show A.in1.handled = none from hh]
  refine wpAny_bind (wpAny_pure (wpAny_throw ?_))
  refine wpAny_bind (wpAny_isInstance (T := "StopIteration") (b := true) ⟨_, Heap.get?_push_size _ rfl, rfl⟩ isSubtype_stop ?_)
  exact wpAny_pure (hQ _ (((Heap.SameBut.update ..).extBut.push _).push _))
theorem Walks.rawKeys (hh : A.handled = none) (I d : Addr) (hne : d ≠ I) (es : Array DictEntry) (ep : Nat) :
    Walks prog w A I [I, d] [I] es.size (fun i v => ∃ e, es[i]? = some e ∧ v = e.key) (fun i h => h.IsKeyIter I d i es.size ep ∧ h.RawDict d es ep) where
  sub := fun b hb => by simp at hb; simp [hb]
  frame := fun _ _ _ st hk => ⟨st.1.at fun o e => hk I (by simp) o e, st.2.at fun o e => hk d (by simp) o e⟩
  item := fun i s Q E hi st hQ => raw_next st.1 st.2 hi fun h' hit' hs' =>
    hQ _ h' s.toks ⟨es[i], Array.getElem?_eq_getElem hi, rfl⟩ ⟨hit', st.2.at fun o e => hs'.extBut d o hne e⟩ fun b o hb e => hs'.extBut b o (fun h => hb (by simp [h])) e
  done := fun s Q E st hQ => raw_end hh st.1 st.2 (Nat.le_refl _) fun h' he' => hQ h' s.toks fun b o hb e => he' b o (fun h => hb (by simp [h])) e
  self := fun _ _ _ _ st hQ => wpAny_pyIter_keyiter st.1 hQ
theorem raw_src (lo : (d == sysModules) = false) : PySem.W.KdlSrc prog w "dict" d d es.size (fun i v => ∃ e, es[i]? = some e ∧ v = e.key) (fun h => h.RawDict d es ep) where
  type := fun _ hm => hm.typeIs
  there := fun _ hm => let ⟨_, ho, _⟩ := hm; ⟨Heap.lt_size ho, Heap.lt_size ho⟩
  keep := fun _ _ hm hk => hm.at fun o e => hk d (.inl rfl) o e
  notList := by decide
  notTuple := by decide
  hint := fun _ _ _ _ hm hq => PySem.W.kdl_hint_dict hm.typeIs hq
  iter := fun _ _ hh hm => ⟨_, _, (fun _ _ hq => raw_iter lo hm hq), Walks.rawKeys hh _ d (let ⟨_, ho, _⟩ := hm; Nat.ne_of_lt (Heap.lt_size ho)) es ep, ⟨⟨_, Heap.get?_push_size _ rfl, rfl, rfl⟩, hm.at fun o e => Heap.get?_push_of_some _ e⟩⟩
theorem list_raw {Q : Value → Shared → Prop} (lo : (d == sysModules) = false) (hh : A.handled = none) (hm : s.heap.RawDict d es ep) (hn : es.size ≤ sizeLine)
    (hQ : ∀ h' tk c', (∀ b o, s.heap.get? b = some o → h'.get? b = some o) → h'.get? s.heap.objs.size = some { cls := .type "list", dict := none, data := .seq (es.map (·.key)) c', slots := #[] } → Q (.ref s.heap.objs.size) { s with heap := h', toks := tk }) :
    wpAny (model prog w) A (call (.type "list") [.ref d]) Q E s :=
  PySem.W.kdl_call (raw_src lo) hh hm hn fun h' tk acc' c' hk hS hacc => by
    have e : acc' = es.map (·.key) := by
      apply Array.ext
      · simp [hacc.1]
      · intro j h1 h2
        obtain ⟨e, he, hv⟩ := hacc.2 j acc'[j] (Array.getElem?_eq_getElem h1)
        have hj : j < es.size := by simpa using h2
        rw [Array.getElem?_eq_getElem hj] at he
        cases he
        rw [hv]
        simp
    rw [e] at hS
    exact hQ h' tk c' hk hS
end
end PySem
namespace Ml
open PySem PySem.Spec L2
section
variable {X : Cx} {E : XK} {k : Nat} {θ : List Addr} {hm : Hm} {H M : Hp} {pins : List (Addr × Obj)} {σ : L2.St} {s : Shared}
theorem pairsD_any {x : Str} : ∀ {ks : List (Key × V)} {kvs : List (PyData × PyData)}, pairsD ks = some kvs → keyIn (.str x) kvs = (ks.any fun kv => decide (kv.1 = Sum.inr x))
  | [], kvs, e => by cases e; rfl
  | (q, v) :: ks, kvs, e => by
    unfold pairsD at e
    cases e1 : scalD v with
    | none => rw [e1] at e; cases e
    | some d =>
      cases e2 : pairsD ks with
      | none => rw [e1, e2] at e; cases e
      | some ds =>
        rw [e1, e2] at e
        cases e
        have ih := pairsD_any (x := x) e2
        unfold keyIn at ih ⊢
        rw [List.any_cons, List.any_cons, ih]
        congr 1
        cases q with
        | inl i => rw [key_lr']; simp [keyD, PyData.eqv]
        | inr y =>
          simp only [keyD, PyData.eqv]
          by_cases e : y = x
          · subst e; simp
          · have : ¬ (Sum.inr y : Key) = Sum.inr x := fun z => e (Sum.inr.inj z)
            rw [decide_eq_false this]
            simpa using e
where
  key_lr' {a : Int} {b : Str} : decide ((Sum.inl a : Key) = Sum.inr b) = false := decide_eq_false (fun q => nomatch q)
theorem key_eqv (q : Key) (x : Str) : PyData.eqv (keyD q) (.str x) = decide (q = Sum.inr x) := by
  cases q with
  | inl i => rw [decide_eq_false (fun z => nomatch z)]; simp [keyD, PyData.eqv]
  | inr y =>
    simp only [keyD, PyData.eqv]
    by_cases e : y = x
    · subst e; simp
    · rw [decide_eq_false (fun z => e (Sum.inr.inj z))]; simpa using e
theorem pairsD_map {x : Str} {u : V} {dv : PyData} (hv : scalD u = some dv) : ∀ {ks : List (Key × V)} {kvs : List (PyData × PyData)}, pairsD ks = some kvs →
    pairsD (ks.map fun kv => if kv.1 = Sum.inr x then (kv.1, u) else kv) = some (kvs.map fun p => if PyData.eqv p.1 (.str x) then (p.1, dv) else p)
  | [], kvs, e => by cases e; rfl
  | (q, v) :: ks, kvs, e => by
    unfold pairsD at e
    cases e1 : scalD v with
    | none => rw [e1] at e; cases e
    | some d =>
      cases e2 : pairsD ks with
      | none => rw [e1, e2] at e; cases e
      | some ds =>
        rw [e1, e2] at e
        cases e
        have ih := pairsD_map (x := x) hv e2
        rw [List.map_cons, List.map_cons, key_eqv]
        by_cases hq : q = Sum.inr x
        · simp only [hq, decide_true, if_true]
          unfold pairsD
          rw [hv, ih]
        · simp only [hq, decide_false, if_false, Bool.false_eq_true]
          unfold pairsD
          rw [e1, ih]
theorem pairsD_snoc {x : Str} {u : V} {dv : PyData} (hv : scalD u = some dv) : ∀ {ks : List (Key × V)} {kvs : List (PyData × PyData)}, pairsD ks = some kvs → pairsD (ks ++ [(Sum.inr x, u)]) = some (kvs ++ [(.str x, dv)])
  | [], kvs, e => by cases e; simp [pairsD, hv, keyD]
  | (q, v) :: ks, kvs, e => by
    unfold pairsD at e
    cases e1 : scalD v with
    | none => rw [e1] at e; cases e
    | some d =>
      cases e2 : pairsD ks with
      | none => rw [e1, e2] at e; cases e
      | some ds =>
        rw [e1, e2] at e
        cases e
        have ih := pairsD_snoc (x := x) hv e2
        rw [List.cons_append]
        unfold pairsD
        rw [e1, ih]
        rfl
theorem pairsD_put {x : Str} {u : V} {dv : PyData} (hv : scalD u = some dv) {ks : List (Key × V)} {kvs : List (PyData × PyData)} (e : pairsD ks = some kvs) : pairsD (putK ks (Sum.inr x) u) = some (dput kvs (.str x) dv) := by
  unfold putK dput
  rw [pairsD_any e]
  split
  · exact pairsD_map hv e
  · exact pairsD_snoc hv e
theorem pairsD_len : ∀ {ks : List (Key × V)} {kvs : List (PyData × PyData)}, pairsD ks = some kvs → ks.length = kvs.length
  | [], kvs, e => by cases e; rfl
  | (q, v) :: ks, kvs, e => by
    unfold pairsD at e
    cases e1 : scalD v with
    | none => rw [e1] at e; cases e
    | some d =>
      cases e2 : pairsD ks with
      | none => rw [e1, e2] at e; cases e
      | some ds => rw [e1, e2] at e; cases e; simp [pairsD_len e2]
theorem pairsD_val {x : Str} : ∀ {ks : List (Key × V)} {kvs : List (PyData × PyData)} {d : PyData}, pairsD ks = some kvs → dget kvs (.str x) = some d → ∃ u, valV ks (Sum.inr x) = some u ∧ scalD u = some d
  | [], kvs, d, e, g => by cases e; simp [dget] at g
  | (q, v) :: ks, kvs, d, e, g => by
    unfold pairsD at e
    cases e1 : scalD v with
    | none => rw [e1] at e; cases e
    | some d' =>
      cases e2 : pairsD ks with
      | none => rw [e1, e2] at e; cases e
      | some ds =>
        rw [e1, e2] at e
        cases e
        unfold dget at g
        rw [List.find?_cons, key_eqv] at g
        by_cases hq : q = Sum.inr x
        · simp only [hq, decide_true] at g
          simp at g
          subst g
          exact ⟨v, valV_pos (p := (q, v)) hq, e1⟩
        · simp only [hq, decide_false] at g
          obtain ⟨u, h1, h2⟩ := pairsD_val (x := x) e2 g
          exact ⟨u, by rw [valV_neg (p := (q, v)) hq]; exact h1, h2⟩
theorem scal_rep {u : V} {d : PyData} (h : scalD u = some d) : Rep M d u := by
  cases u with
  | non => cases h; rfl
  | bl b => cases h; rfl
  | int i => cases h; rfl
  | str x => cases h; rfl
  | _ => cases h
theorem rep_scal {u : V} {d : PyData} (f : flatP d = true) (h : Rep M d u) : scalD u = some d := by
  cases d with
  | none => cases h; rfl
  | bool b => cases h; rfl
  | int i => cases h; rfl
  | str x => cases h; rfl
  | _ => simp [flatP] at f
theorem krel_atKey {q : PyData} (tq : isSTree q = true) : ∀ {kvs : List (PyData × PyData)} {xs : List (PyData × Addr × Value)}, Paired (KRel M) kvs xs → keyIn q kvs = (atKey xs q).isSome
  | _, _, .nil => rfl
  | _, _, .cons (a := p) (b := x) h t => by
    have ih := krel_atKey tq t
    unfold keyIn at ih ⊢
    unfold atKey at ih ⊢
    rw [List.any_cons, List.find?_cons, ih]
    by_cases e : x.1 = q
    · rw [decide_eq_true e, h.1, e, eqv_tree_self (stree_tree tq)]; rfl
    · have : PyData.eqv p.1 q = false := eqv_tree_ne (stree_tree h.2.1) (stree_tree tq) (by rw [h.1]; exact e)
      rw [this, decide_eq_false e]
      simp
theorem is_tk (I : Inv X pins σ H s) {d : PyData} {a : Addr} (sm : Same M H) (t : isSTree d = true) (dp : d.depth ≤ 8) (so : sOk d = true) (r : Rep M d (.ref a)) : IsTK s.heap d a := by
  obtain ⟨as, z⟩ := Rep.reads I (r.same sm) rfl
  exact ⟨t, dp, so, as, z⟩
theorem krel_is (I : Inv X pins σ H s) (sm : Same M H) : ∀ {kvs : List (PyData × PyData)} {xs : List (PyData × Addr × Value)}, Paired (KRel M) kvs xs → ∀ x ∈ xs, IsTK s.heap x.1 x.2.1
  | _, _, .nil, x, hx => by cases hx
  | _, _, .cons h t, x, hx => by
    rcases List.mem_cons.mp hx with rfl | hx
    · obtain ⟨e, t1, t2, t3, t4, _⟩ := h
      rw [← e]
      exact is_tk I sm t1 t2 t3 t4
    · exact krel_is I sm t x hx
theorem dct_of (I : Inv X pins σ H s) {xs : List (PyData × Addr × Value)} {kvs : List (PyData × PyData)} {a : Addr} (sm : Same M H) (ha : H a = some (dO X.prog X.w xs a)) (r : Paired (KRel M) kvs xs) :
    kvs.length ≤ sizeLine ∧ (a == sysModules) = false ∧ s.heap.DictOfH (treeKind X.prog X.w) a xs := by
  obtain ⟨⟨h1, h2, o, es, ep, h3, h4, h5, h6, h7⟩, _⟩ := I.hok a _ ha
  exact ⟨by rw [show kvs.length = xs.length from Paired.length r]; exact h1, h2, o, es, ep, h3, h4, h5, h6, krel_is I sm r, h7⟩
theorem dO_mut {xs : List (PyData × Addr × Value)} {a : Addr} (ha : H a = some (dO X.prog X.w xs a)) : Mut (H a) := by rw [ha]; exact True.intro
theorem krel_map {q dv : PyData} {u : Value} {v : V} (tq : isSTree q = true) (rv : RelV v u) (rd : Rep M dv v) (sd : sOk dv = true) : ∀ {kvs : List (PyData × PyData)} {xs : List (PyData × Addr × Value)}, Paired (KRel M) kvs xs →
    Paired (KRel M) (kvs.map fun p => if PyData.eqv p.1 q then (p.1, dv) else p) (xs.map (putAt q u))
  | _, _, .nil => .nil
  | _, _, .cons (a := p) (b := x) h t => by
    rw [List.map_cons, List.map_cons]
    refine .cons ?_ (krel_map tq rv rd sd t)
    unfold putAt
    by_cases e : x.1 = q
    · have e2 : PyData.eqv p.1 q = true := by rw [h.1, e]; exact eqv_tree_self (stree_tree tq)
      rw [if_pos e, if_pos e2]
      exact ⟨h.1, h.2.1, h.2.2.1, h.2.2.2.1, h.2.2.2.2.1, v, rv, rd, sd⟩
    · have e2 : PyData.eqv p.1 q = false := eqv_tree_ne (stree_tree h.2.1) (stree_tree tq) (by rw [h.1]; exact e)
      rw [if_neg e, e2, if_neg (by simp)]
      exact h
theorem krel_put {q dv : PyData} {b : Addr} {u : Value} {v : V} (tq : isSTree q = true) (dq : q.depth ≤ 8) (sq : sOk q = true) (rq : Rep M q (.ref b)) (rv : RelV v u) (rd : Rep M dv v) (sd : sOk dv = true) {kvs : List (PyData × PyData)} {xs : List (PyData × Addr × Value)} (r : Paired (KRel M) kvs xs) :
    Paired (KRel M) (dput kvs q dv) (storedH xs q b u) := by
  unfold dput storedH
  rw [krel_atKey tq r]
  split
  · exact krel_map tq rv rd sd r
  · exact paired_append r (.cons ⟨rfl, tq, dq, sq, rq, v, rv, rd, sd⟩ .nil)
theorem dput_len (kvs : List (PyData × PyData)) (q v : PyData) : (dput kvs q v).length ≤ kvs.length + 1 := by
  unfold dput
  split
  · simp
  · simp
theorem W.writeD {G : Gx} {j : Nat} {a : Addr} {o : HO} {t : Bool} {kvs : List (PyData × PyData)} (w : W G θ hm H) (ha : θ[j]? = some a) (hl : j < hm.length) (r : DctAt G.P G.w (view θ H) (upd H a o) a t kvs) : Ev θ H θ (upd H a o) ∧ W G θ (hm.set j (.dct t kvs)) (upd H a o) := by
  have hmm : a ∈ θ := List.mem_of_getElem? ha
  have e : Ev θ H θ (upd H a o) := ⟨⟨[], by simp⟩, fun b u q => by
    obtain ⟨h1, h2⟩ := view_get q
    have ne : b ≠ a := fun z => by subst z; exact h1 hmm
    rw [view_of h1, upd_ne ne]
    exact h2⟩
  exact w.write ha hl (DctAt.same e.same r fun _ q => q)
def rSetM (G : Gx) (E : XK) : V → V → V → Hp → (Hp → Prop) → Prop := fun x y v H Q => ∃ θ h d1 d2 d, W G θ h H ∧ DRep G θ H d1 x ∧ DRep G θ H d2 y ∧ DRep G θ H d v ∧ Post G (ofX G E) θ H (mSetIx d1 d2 d h) (fun _ _ _ H' => Q H')
theorem set_any (hr : Room k X.A) : PSet X (rSetM X.G E) := by
  intro pins s σ H x y v xv yv u Q I rx ry rv ⟨θ, h, d1, d2, d, w, r1, r2, rd, p⟩
  unfold mSetIx at p
  split at p
  · rename_i j
    split at p
    · rename_i t kvs hx
      unfold mSetD at p
      split at p
      · rename_i q dv
        split at p
        · rename_i hc
          simp only [Bool.and_eq_true, decide_eq_true_eq, Bool.or_eq_true] at hc
          obtain ⟨a, ha, rfl⟩ := r1
          cases rx
          rcases w.obj _ _ _ ha hx with ⟨rfl, ks, h1, h2, h3⟩ | ⟨rfl, xs, h1, h2⟩
          · have hk : ∃ z, q = .str z := by
              have := hc.1.1
              simp only [keyOk, Bool.false_eq_true, if_false] at this
              cases q <;> first | exact ⟨_, rfl⟩ | simp [isKeyS] at this
            obtain ⟨z, rfl⟩ := hk
            have fd : flatP dv = true := by rcases hc.1.2 with z | z; cases z; exact z
            have hv := rep_scal fd rd.1
            obtain ⟨e2, s2⟩ := str_get r2
            subst e2
            have so : ∀ p ∈ dput kvs (.str z) dv, sOk p.1 = true ∧ sOk p.2 = true := fun p hp => by
              unfold dput at hp
              split at hp
              · obtain ⟨p0, hp0, e0⟩ := List.mem_map.mp hp
                split at e0
                · subst e0; exact ⟨(h3 p0 hp0).1, rd.2⟩
                · subst e0; exact h3 p0 hp0
              · rcases List.mem_append.mp hp with hp | hp
                · exact h3 p hp
                · simp at hp; subst hp; exact ⟨by simpa [sOk] using s2, rd.2⟩
            obtain ⟨e1, w1⟩ := w.writeD (o := .dK (putK ks (Sum.inr z) v)) (t := false) (kvs := dput kvs (.str z) dv) ha (lt_of_get hx) (.inl ⟨rfl, _, upd_same, pairsD_put hv h2, so⟩)
            exact d_setItem (by have := hr.units; omega) I (DPut.k (k := Sum.inr z) h1 (by rw [pairsD_len h2, PySem.sizeLine_eq]; exact hc.2)) ry rv fun s' I' => ⟨_, I', p _ _ e1 w1⟩
          · have hk := hc.1.1
            simp only [keyOk, if_true, Bool.and_eq_true, decide_eq_true_eq] at hk
            obtain ⟨b, vs, rfl, hb⟩ : ∃ b vs, y = .ref b ∧ view θ H b = some (.tup vs) := by
              cases q with
              | tuple ds => obtain ⟨b, vs, e, hb, _⟩ := r2.1; exact ⟨b, vs, e, hb⟩
              | _ => simp [isKeyT] at hk
            cases ry
            obtain ⟨hz, hsys, dd⟩ := dct_of I (view_same θ H) h1 h2
            have hz2 : xs.length ≤ sizeLine := by rw [← show kvs.length = xs.length from Paired.length h2]; exact hz
            have kr := krel_put (b := b) (u := u) hk.1.2 hk.2 r2.2 r2.1 rv rd.1 rd.2 h2
            refine wpAny_setItem_heap (knd := treeKind X.prog X.w) (hsz := hz2) (by show X.A.units + 1 + 20 < cLine; have := hr.units; omega) (is_tk I (view_same θ H) hk.1.2 hk.2 r2.2 r2.1) dd fun h' dd' hs => ?_
            obtain ⟨o, es, ep, g1, g2, g3, g4, _, g5⟩ := dd'
            have hl2 : (storedH xs q b u).length ≤ sizeLine := by
              rw [← show (dput kvs q dv).length = _ from Paired.length kr]
              have := dput_len kvs q dv
              rw [PySem.sizeLine_eq]
              omega
            refine ⟨_, d_write (t' := _) I (dO_mut h1) hs ⟨o, g1⟩ (dO_ok (xs := storedH xs q b u) hl2 hsys g1 g2 g3 g4 g5), ?_⟩
            obtain ⟨e1, w1⟩ := w.writeD (o := dO X.prog X.w (storedH xs q b u) a) (t := true) (kvs := dput kvs q dv) ha (lt_of_get hx) (.inr ⟨rfl, _, upd_same, kr⟩)
            exact p _ _ e1 w1
        · exact p.elim
      · exact p.elim
    · exact set_list pins s σ H x y v xv yv u Q I rx ry rv (setL_post w r1 r2 rd p)
  · exact p.elim
theorem dg_sub {ma' mb : ME} {o i : Expr} {pos : Pos} (hr : Room k X.A) (ho : DE X E ma' o) (hi : DE X E mb i) (ha : ∀ v, assign (.Subscript o i pos) X.env v = (do
      let ov ← holding [v] (eval o X.env)
      let iv ← holding [v, ov] (eval i X.env)
      standAt pos
      holding [v, ov, iv] (setItem ov iv v)
      release [v, ov, iv] []) := by intro _; rfl) : DG X E (gSub ma' mb) (.Subscript o i pos) := by
  simp only [DE_eq, DG_eq] at *
  exact fun pins s σ H v u Q I r ⟨θ, h, ρ, d, w, fr, rd, p⟩ => pg_sub ho hi (set_any (E := E) hr) ha pins s σ H v u Q I r ⟨θ, h, ρ, w, fr, (Post.bind p).mono fun d1 θ1 h1 H1 _ _ ⟨ev, w1, p1⟩ x r1 =>
      ⟨θ1, h1, ρ, w1, fr.ev ev, (Post.bind p1).mono fun d2 θ2 h2 H2 _ _ ⟨ev2, w2, p2⟩ y r2 =>
        ⟨θ2, h2, d1, d2, d, w2, r1.ev ev2, r2, rd.ev (ev.trans ev2), (Post.bind p2).mono fun _ θ3 h3 H3 _ _ ⟨ev3, w3, p3⟩ => p3 θ3 H3 Ev.refl w3 σ (((fr.ev ev).ev ev2).ev ev3)⟩⟩⟩
end
end Ml
namespace Ml
open PySem PySem.Spec L2
section
variable {X : Cx} {E : XK} {k : Nat} {θ : List Addr} {hm : Hm} {H M : Hp} {pins : List (Addr × Obj)} {σ : L2.St} {s : Shared} {pos : Pos} {e : Expr}
theorem dctOf_at {G : Gx} {d : D} {v : V} {t : Bool} {kvs : List (PyData × PyData)} (w : W G θ hm H) (r : DRep G θ H d v) (e : dctOf d hm = some (t, kvs)) : ∃ a, v = .ref a ∧ DctAt G.P G.w (view θ H) H a t kvs := by
  unfold dctOf at e
  split at e
  · cases e
    obtain ⟨a, h1, h2⟩ := r
    exact ⟨a, h1, h2.same (Same.refl _) fun o q => view_same _ _ _ _ q⟩
  · split at e
    · rename_i hx
      cases e
      obtain ⟨a, ha, h1⟩ := r
      exact ⟨a, h1, w.obj _ _ _ ha hx⟩
    · cases e
  · cases e
theorem seek_ok (hr : Room k X.A) {x : V} {v : Value} {Q : VK} {h : Hm} {d1 : D} {b t : Bool} {kvs : List (PyData × PyData)} {a : Addr} (I : Inv X pins σ H s) (rx : RelV x v) (w : W X.G θ h H) (r1 : DRep X.G θ H d1 x) (dc : DctAt X.prog X.w (view θ H) H a t kvs) (hb : seekIn d1 kvs t = some b) :
    (Q (.bl b) H → wpAny (model X.prog X.w) X.A (compareOp .In v (.ref a)) (EP X pins σ Q) X.xe s) ∧ (Q (.bl !b) H → wpAny (model X.prog X.w) X.A (compareOp .NotIn v (.ref a)) (EP X pins σ Q) X.xe s) := by
  unfold seekIn at hb
  split at hb
  · rename_i d
    split at hb
    · rename_i ok
      cases hb
      rcases dc with ⟨rfl, ks, h1, h2, h3⟩ | ⟨rfl, xs, h1, h2⟩
      · simp only [keyOk, Bool.false_eq_true, if_false] at ok
        cases d with
        | str z =>
          cases (str_get r1).1
          exact ⟨fun q => d_in (by have := hr.units; omega) I (DGet.k (k := Sum.inr z) h1) rx fun s' I' => ⟨.bl _, H, I', rfl, by rw [← valV_any, ← pairsD_any h2]; exact q⟩,
            fun q => d_notIn (by have := hr.units; omega) I (DGet.k (k := Sum.inr z) h1) rx fun s' I' => ⟨.bl _, H, I', rfl, by rw [← valV_any, ← pairsD_any h2]; exact q⟩⟩
        | _ => simp [isKeyS] at ok
      · simp only [keyOk, if_true, Bool.and_eq_true, decide_eq_true_eq] at ok
        cases d with
        | tuple ds =>
          obtain ⟨c, vs, rfl, hc, _⟩ := id r1.1
          cases rx
          obtain ⟨hz, hsys, dd⟩ := dct_of I (view_same θ H) h1 h2
          have room : (treeKind X.prog X.w).room X.A.in1 := by show X.A.units + 1 + 20 < cLine; have := hr.units; omega
          have tk := is_tk I (view_same θ H) ok.1.2 ok.2 r1.2 r1.1
          exact ⟨fun q => wpAny_in_heap (knd := treeKind X.prog X.w) room tk hsys dd ⟨.bl _, H, I.tok _, rfl, by rw [← krel_atKey ok.1.2 h2]; exact q⟩,
            fun q => PyProof.Rows.wpAny_notIn_heap (knd := treeKind X.prog X.w) room tk hsys dd ⟨.bl _, H, I.tok _, rfl, by rw [← krel_atKey ok.1.2 h2]; exact q⟩⟩
        | _ => simp [isKeyT] at ok
    · cases hb
  · cases hb
theorem find_ok (hr : Room k X.A) {x y : V} {v u : Value} {Q : VK} {h : Hm} {d1 d2 : D} {b : Bool} (I : Inv X pins σ H s) (rx : RelV x v) (ry : RelV y u) (w : W X.G θ h H) (r1 : DRep X.G θ H d1 x) (r2 : DRep X.G θ H d2 y) (hb : findIn d1 d2 h = some b) :
    (Q (.bl b) H → wpAny (model X.prog X.w) X.A (compareOp .In v u) (EP X pins σ Q) X.xe s) ∧ (Q (.bl !b) H → wpAny (model X.prog X.w) X.A (compareOp .NotIn v u) (EP X pins σ Q) X.xe s) := by
  unfold findIn at hb
  split at hb
  · rename_i p hp
    obtain ⟨t, kvs⟩ := p
    obtain ⟨a, rfl, dc⟩ := dctOf_at w r2 hp
    cases ry
    exact seek_ok hr I rx w r1 dc hb
  · exact find_seq hr I rx ry w r1 r2 hb
theorem o_in (hr : Room k X.A) : Op2 X E (compareOp .In) oIn := by
  intro pins s σ H x y v u Q I rx ry ⟨θ, h, d1, d2, w, r1, r2, p⟩
  unfold oIn at p
  split at p
  · rename_i b hb
    exact (find_ok hr I rx ry w r1 r2 hb).1 (p.okv w (drep_bool _))
  · exact p.elim
theorem sOk_dget {kvs : List (PyData × PyData)} {q d : PyData} (h : ∀ p ∈ kvs, sOk p.1 = true ∧ sOk p.2 = true) (e : dget kvs q = some d) : sOk d = true := by
  unfold dget at e
  obtain ⟨p, hp, rfl⟩ := Option.map_eq_some_iff.mp e
  exact (h p (List.mem_of_find?_eq_some hp)).2
theorem ix_data (hr : Room k X.A) : IxR X (rOf X.G E oIx) := by
  intro value slice pins s σ H x y v u Q I rx ry ⟨θ, h, d1, d2, w, r1, r2, p⟩ hs
  unfold oIx at p
  split at p
  · rename_i pp hp
    obtain ⟨t, kvs⟩ := pp
    split at p
    · rename_i z
      split at p
      · exact p.elim
      · rename_i ht
        split at p
        · rename_i d hd
          obtain ⟨a, rfl, dc⟩ := dctOf_at w r1 hp
          cases rx
          rcases dc with ⟨_, ks, h1, h2, h3⟩ | ⟨z1, _⟩
          · obtain ⟨e2, s2⟩ := str_get r2
            subst e2
            obtain ⟨uu, g1, g2⟩ := pairsD_val h2 hd
            have T : s.TypeIs (.ref a) "dict" := by
              obtain ⟨_, _, vs, _, o, _, _, e, ex, _⟩ := I.hok a _ h1
              exact ⟨o, e, ex.1⟩
            exact PyProof.Rows.tail_any (ops := [.ref a, u]) T PySem.F.slot_dict_getitem.lookup (d_getItem (by have := hr.units; omega) I (by have := DGet.k (k := Sum.inr z) h1; rw [g1] at this; exact this) ry fun w' s' I' rw' => ⟨uu, H, I', rw', p.okv w ⟨scal_rep g2, sOk_dget h3 hd⟩⟩) hs
          · exact absurd z1 ht
        · exact p.elim
    · exact p.elim
  · exact ix_dataS value slice pins s σ H x y v u Q I rx ry ⟨θ, h, d1, d2, w, r1, r2, p⟩ hs
end
end Ml
namespace Ml
open PySem PySem.Spec L2
section
variable {X : Cx} {E : XK} {k : Nat} {θ : List Addr} {hm : Hm} {H M : Hp} {pins : List (Addr × Obj)} {σ : L2.St} {s : Shared} {pos : Pos} {e : Expr}
theorem krel_vals : ∀ {kvs : List (PyData × PyData)} {xs : List (PyData × Addr × Value)}, Paired (KRel M) kvs xs → Reps M (kvs.map (·.1)) (xs.map fun x => V.ref x.2.1) ∧ sOks (kvs.map (·.1)) = true
  | _, _, .nil => ⟨rfl, rfl⟩
  | _, _, .cons h t => by
    obtain ⟨h1, h2⟩ := krel_vals t
    exact ⟨.cons h.2.2.2.2.1 h1, by simp [sOks, h.2.2.2.1, h2]⟩
theorem vals_refs : ∀ (xs : List (PyData × Addr × Value)), Vals (xs.map fun x => V.ref x.2.1) (xs.map fun x => Value.ref x.2.1)
  | [] => .nil
  | _ :: xs => .cons rfl (vals_refs xs)
theorem kv_keys {P : Program} {w : World} : ∀ {ks : List (Key × V)} {vs : List (Key × Value)} {es : List DictEntry} {kvs : List (PyData × PyData)}, pairsD ks = some kvs → L2.KV ks vs → Pairs (mixKind P w) es vs → ∃ us : List V, Vals us (es.map (·.key)) ∧ Reps M (kvs.map (·.1)) us
  | [], _, es, kvs, e, r, p => by
    cases e
    cases r
    cases es with
    | nil => exact ⟨[], .nil, rfl⟩
    | cons _ _ => exact (by cases p)
  | (q, v) :: ks, _, es, kvs, e, r, p => by
    cases r with
    | cons r1 r2 =>
      rename_i q' vs'
      obtain ⟨k', u⟩ := q'
      obtain ⟨e1, e2⟩ := r1
      simp only at e1 e2
      subst e1
      cases p with
      | cons hk hv hr =>
        unfold pairsD at e
        cases e1 : scalD v with
        | none => rw [e1] at e; cases e
        | some d =>
          cases e3 : pairsD ks with
          | none => rw [e1, e3] at e; cases e
          | some ds =>
            rw [e1, e3] at e
            cases e
            obtain ⟨us, z1, z2⟩ := kv_keys e3 r2 hr
            rcases keyIs_shape hk with ⟨i, t, rfl, hk'⟩ | ⟨x, t, rfl, hk'⟩
            · exact ⟨.int i :: us, .cons ⟨t, hk'⟩ z1, .cons rfl z2⟩
            · exact ⟨.str x :: us, .cons ⟨t, hk'⟩ z1, .cons rfl z2⟩
theorem c_list (hc : X.calm = true) : Cal X E (.type "list") bList := by
  intro pins s σ H xs us Q I r ⟨θ, h, ds, w, rs, p⟩
  unfold bList at p
  split at p
  · rename_i x
    split at p
    · rename_i pp hp
      obtain ⟨t, kvs⟩ := pp
      cases rs with
      | cons r1 rr =>
        cases rr
        obtain ⟨a, rfl, dc⟩ := dctOf_at w r1 hp
        cases r with
        | cons rv rr =>
          cases rr
          cases rv
          have fin : ∀ (es : Array DictEntry) (ep : Nat) (vs : List V), s.heap.RawDict a es ep → (a == sysModules) = false → kvs.length ≤ sizeLine → es.size = kvs.length → Vals vs (es.toList.map (·.key)) → Reps (view θ H) (kvs.map (·.1)) vs → sOks (kvs.map (·.1)) = true →
              wpAny (model X.prog X.w) X.A (call (.type "list") [.ref a]) (EP X pins σ Q) X.xe s := fun es ep vs raw hsys hz hsz hv hrp hso => by
            refine list_raw hsys (I.ok.hd hc) raw (by rw [hsz]; exact hz) fun h' tk c' hk hl => ?_
            have hn : H s.heap.objs.size = none := I.hok.fresh (Nat.le_refl _)
            obtain ⟨e1, w1, g⟩ := w.put (o := .lst vs) hn
            have hlen : vs.length = kvs.length := by have := hrp.length; simpa using this
            refine ⟨.ref s.heap.objs.size, upd H s.heap.objs.size (.lst vs), I.laid (fun b o q => hk b o q) (Nat.le_refl _) ⟨by rw [hlen]; exact hz, es.toList.map (·.key), c', hv, ?_⟩, rfl, p _ _ e1 w1 _ ⟨⟨_, vs, rfl, g, hrp.same e1.same⟩, by simpa [sOk] using hso⟩⟩
            rw [hl]
            have ee : es.map (·.key) = (es.toList.map (·.key)).toArray := by apply Array.ext' ; simp
            rw [ee]
          rcases dc with ⟨rfl, ks, h1, h2, h3⟩ | ⟨rfl, xs, h1, h2⟩
          · obtain ⟨z, ne, vs, rk, o, es, ep, ho, hx, hd, _, hpp, _⟩ := I.hok a _ h1
            obtain ⟨us, v1, v2⟩ := kv_keys (M := view θ H) h2 rk hpp
            have hl1 : ks.length = kvs.length := pairsD_len h2
            have hl2 : es.size = kvs.length := by
              have a1 := v1.length
              have a2 := v2.length
              simp at a1 a2
              omega
            exact fin es ep us ⟨o, ho, hx, hd⟩ ne (by omega) hl2 v1 v2 (sOks_mem.mpr fun d m => by obtain ⟨p0, hp0, rfl⟩ := List.mem_map.mp m; exact (h3 p0 hp0).1)
          · obtain ⟨hz, hsys, dd⟩ := dct_of I (view_same θ H) h1 h2
            obtain ⟨o, es, ep, g1, g2, g3, g4, _, _⟩ := dd
            obtain ⟨k1, k2⟩ := krel_vals h2
            have hes : es.toList.map (·.key) = xs.map fun x => Value.ref x.2.1 := by
              rw [g4, List.map_map]
              rfl
            have hl2 : es.size = kvs.length := by
              have := congrArg List.length g4
              rw [List.length_map, ← show kvs.length = xs.length from Paired.length h2] at this
              simpa using this
            exact fin es ep _ ⟨o, g1, g2, g3⟩ hsys hz hl2 (by rw [hes]; exact vals_refs xs) k1 k2
    · exact c_listS (E := E) pins s σ H xs us Q I r ⟨θ, h, _, w, rs, p⟩
  · exact p.elim
def eDctN (t : Bool) : ME := fun _ h => .ok (.ref h.length) (h ++ [.dct t []])
theorem W.allocD {G : Gx} {t : Bool} {o : HO} (w : W G θ hm H) {p : Addr} (hp : H p = none) (r : DctAt G.P G.w (view θ H) (upd H p o) p t []) :
    Ev θ H (θ ++ [p]) (upd H p o) ∧ W G (θ ++ [p]) (hm ++ [.dct t []]) (upd H p o) ∧ DRep G (θ ++ [p]) (upd H p o) (.ref hm.length) (.ref p) := by
  have e : Ev θ H (θ ++ [p]) (upd H p o) := ⟨⟨[p], rfl⟩, fun a u q => by
    obtain ⟨h1, h2⟩ := view_get q
    have ne := ne_of_none h2 hp
    rw [view_of (by simp; exact ⟨h1, ne⟩), upd_ne ne]
    exact h2⟩
  obtain ⟨e1, w1⟩ := w.alloc (m := .dct t []) hp (DctAt.same e.same r fun _ q => q)
  exact ⟨e1, w1, p, by rw [← w.len]; simp, rfl⟩
theorem dO_empty {P : Program} {w : World} {H : Hp} (h : Heap) (hb : sysModules < h.objs.size) : ObjOk P w H (h.push { cls := .type "dict", data := .dict #[] }) h.objs.size (dO P w [] h.objs.size) :=
  dO_ok (Nat.zero_le _) (beq_eq_false_iff_ne.mpr (Ne.symm (Nat.ne_of_lt hb))) (Heap.get?_push_size _ rfl) ⟨rfl, rfl, rfl⟩ rfl rfl List.nodup_nil
theorem de_dctT : DE X E (eDctN true) (.Dict [] [] pos) := by
  simp only [DE_eq] at *
  exact fun pins s σ H Q I ⟨θ, h, ρ, w, fr, p⟩ => by
    have hn : H s.heap.objs.size = none := I.hok.fresh (Nat.le_refl _)
    obtain ⟨e1, w1, g⟩ := w.allocD (o := dO X.prog X.w [] s.heap.objs.size) (t := true) hn (.inr ⟨rfl, [], upd_same, .nil⟩)
    exact wpAny_Dict_empty ⟨.ref s.heap.objs.size, _, I.laid (a := s.heap.objs.size) (t' := s.toks) (fun _ _ q => Heap.get?_push_of_some _ q) (Nat.le_refl _) (dO_empty s.heap I.big), rfl, p _ _ e1 w1 _ g⟩
end
theorem DRep.take {G : Gx} {θ : List Addr} {H : Hp} {n : Nat} {d : D} {v : V} (r : DRep G θ H d v) (hb : d.below n = true) : DRep G (θ.take n) H d v := by
  have sm : Same (view θ H) (view (θ.take n) H) := fun a o q => by
    obtain ⟨h1, h2⟩ := view_get q
    rw [view_of (fun z => h1 (List.mem_of_mem_take z))]
    exact h2
  cases d with
  | dat d => exact ⟨r.1.same sm, r.2⟩
  | ref i =>
    obtain ⟨a, h1, h2⟩ := r
    simp only [D.below, decide_eq_true_eq] at hb
    exact ⟨a, by rw [List.getElem?_take_of_lt hb]; exact h1, h2⟩
  | dct t kvs => obtain ⟨a, h1, h2⟩ := r; exact ⟨a, h1, h2.same sm fun o q => sm _ _ q⟩
  | set xs => exact r
  | fn n => exact r
  | scr ns => obtain ⟨a, h1, h2⟩ := r; exact ⟨a, h1, sm.seq h2⟩
  | ktup xs => exact r
  | rpr x => exact r
  | exc x => obtain ⟨a, c, h1, h2, h3⟩ := r; exact ⟨a, c, h1, sm _ _ h2, h3⟩
theorem DReps.take {G : Gx} {θ : List Addr} {H : Hp} {n : Nat} : ∀ {ds : List D} {vs : List V}, DReps G θ H ds vs → ds.all (D.below n) = true → DReps G (θ.take n) H ds vs
  | _, _, .nil, _ => .nil
  | _, _, .cons r t, h => by simp only [List.all_cons, Bool.and_eq_true] at h; exact .cons (r.take h.1) (DReps.take t h.2)
theorem W.take {G : Gx} {θ : List Addr} {H : Hp} {h : Hm} {n : Nat} (w : W G θ h H) (hb : (h.take n).all (MO.below n) = true) : W G (θ.take n) (h.take n) H := by
  have sm : Same (view θ H) (view (θ.take n) H) := fun a o q => by
    obtain ⟨h1, h2⟩ := view_get q
    rw [view_of (fun z => h1 (List.mem_of_mem_take z))]
    exact h2
  refine ⟨by simp [w.len], w.nd.sublist (List.take_sublist _ _), fun i a o h1 h2 => ?_⟩
  have hi : i < n := by
    have := lt_of_get h1
    simp at this
    omega
  have mo := List.all_eq_true.mp hb o (List.mem_of_getElem? h2)
  rw [List.getElem?_take_of_lt hi] at h1 h2
  have r := w.obj i a o h1 h2
  cases o with
  | lst xs => obtain ⟨vs, q1, q2⟩ := r; exact ⟨vs, q1, q2.take mo⟩
  | dct t kvs => exact DctAt.same sm r fun _ q => q
  | ins => exact r.elim
  | tab P q => obtain ⟨rfl, x⟩ := r; exact ⟨rfl, x.same sm fun _ q => q⟩
theorem Ev.take {θ θ' : List Addr} {H H' : Hp} (e : Ev θ H θ' H') {n : Nat} (hn : n = θ.length) : Ev θ H (θ'.take n) H' := by
  obtain ⟨ext, rfl⟩ := e.pre
  have : (θ ++ ext).take n = θ := by rw [hn]; simp
  rw [this]
  refine ⟨⟨[], by simp⟩, fun a o q => ?_⟩
  obtain ⟨h1, h2⟩ := view_get (e.same a o q)
  rw [view_of (fun z => h1 (List.mem_append_left _ z))]
  exact h2
theorem Post.scopd {G : Gx} {E : XK} {θ : List Addr} {H : Hp} {h : Hm} {F : Fn} {ds : List D} {Q : VK} (w : W G θ h H) (p : Post G (ofX G E) θ H (scopd F ds h) (KV G Q)) : Post G (ofX G E) θ H (F ds h) (KV G Q) := by
  unfold Ml.scopd at p
  cases e : F ds h with
  | bad => rw [e] at p; exact p
  | ok d h' =>
    rw [e] at p
    simp only at p
    split at p
    · rename_i hc
      simp only [Bool.and_eq_true, decide_eq_true_eq] at hc
      intro θ' H' ev w' v r
      have w2 := w'.take hc.1.2
      have ev2 := ev.take (n := h.length) w.len.symm
      exact p _ _ ev2 w2 v (r.take hc.1.1)
    · exact p.elim
  | exc x h' =>
    rw [e] at p
    simp only at p
    split at p
    · rename_i hc
      simp only [Bool.and_eq_true, decide_eq_true_eq] at hc
      intro θ' H' ev w' cls da xr
      have w2 := w'.take hc.1
      have ev2 := ev.take (n := h.length) w.len.symm
      exact p _ _ ev2 w2 cls da xr
    · exact p.elim
theorem HasM.scopd {P : Program} {w : World} {K : PySem.W.Frag} {mg : Str → Option Value} {base : Heap} {x : Str} {ps : List Str} {k : Nat} {F : Fn} (h : HasM P w K mg base x ps k F) : HasM P w K mg base x ps k (Ml.scopd F) := by
  obtain ⟨⟨f, fd, h1, h2, h3, h4⟩, ar⟩ := h
  refine ⟨⟨f, fd, h1, h2, h3, h4.imp fun vs H Q E ⟨θ, hm, ds, w, r, p⟩ => ⟨θ, hm, ds, w, r, p.scopd w⟩⟩, fun ds hm l => ?_⟩
  unfold Ml.scopd
  rw [ar ds hm l]
end Ml
namespace L2
open PySem PySem.Spec
section
variable {X : Cx} {a b : Expr} {rest : List Expr} {ta tb : TE} {pos : Pos}
theorem pe_orT {r : V → Hp → (Bool → Hp → Prop) → Prop} (ht : TruR X r) (ha : PE X a ta) (hb : PE X (.BoolOp .Or (b :: rest) pos) tb) : PE X (.BoolOp .Or (a :: b :: rest) pos) (fun σ H Q => ta σ H fun x H1 => r x H1 fun c H2 => H2 = H1 ∧ if c = true then Q x H1 else tb σ H1 Q) := by
  intro pins s σ H Q I h
  refine PyProof.Rows.BoolOp_or (thn (ha pins s σ H _ I h) fun v s1 ⟨x, H1, I1, r1, q1⟩ => ?_)
  refine thn (ht pins s1 σ H1 x v _ I1 r1 q1) fun c s2 ⟨H2, I2, e, q2⟩ => ?_
  subst e
  cases c with
  | false => exact hb pins s2 σ H2 Q I2 q2
  | true => exact ⟨x, H2, I2, r1, q2⟩
theorem pe_andT {r : V → Hp → (Bool → Hp → Prop) → Prop} (ht : TruR X r) (ha : PE X a ta) (hb : PE X (.BoolOp .And (b :: rest) pos) tb) : PE X (.BoolOp .And (a :: b :: rest) pos) (fun σ H Q => ta σ H fun x H1 => r x H1 fun c H2 => H2 = H1 ∧ if c = true then tb σ H1 Q else Q x H1) := by
  intro pins s σ H Q I h
  refine PyProof.Rows.BoolOp_and (thn (ha pins s σ H _ I h) fun v s1 ⟨x, H1, I1, r1, q1⟩ => ?_)
  refine thn (ht pins s1 σ H1 x v _ I1 r1 q1) fun c s2 ⟨H2, I2, e, q2⟩ => ?_
  subst e
  cases c with
  | true => exact hb pins s2 σ H2 Q I2 q2
  | false => exact ⟨x, H2, I2, r1, q2⟩
end
end L2
namespace Ml
open PySem PySem.Spec L2
section
variable {X : Cx} {E : XK} {m a b c : ME} {t u : MT} {e e1 e2 e3 : Expr} {es : List Expr} {ma : MA} {pos : Pos} {i : Nat} {x : Str}
def eOrV (a b : ME) : ME := fun ρ h => (a ρ h).bind fun x h1 => match truth x h1 with
  | some c => if c then .ok x h1 else b ρ h1
  | none => .bad
def eAndV (a b : ME) : ME := fun ρ h => (a ρ h).bind fun x h1 => match truth x h1 with
  | some c => if c then b ρ h1 else .ok x h1
  | none => .bad
theorem de_orV (ha : DE X E a e1) (hb : DE X E b (.BoolOp .Or (e2 :: es) pos)) : DE X E (eOrV a b) (.BoolOp .Or (e1 :: e2 :: es) pos) := by
  simp only [DE_eq] at *
  exact PE.imp (pe_orT tru_ok ha hb) fun σ H Q ⟨θ, h, ρ, w, fr, p⟩ => ⟨θ, h, ρ, w, fr, (Post.bind p).mono fun d θ1 h1 H1 _ _ ⟨ev, w1, p1⟩ v r => by
      split at p1
      · rename_i b hb
        refine ⟨b, truth_of w1 r hb, rfl, ?_⟩
        cases b with
        | true => exact p1 θ1 H1 Ev.refl w1 v r
        | false => exact ⟨θ1, h1, ρ, w1, fr.ev ev, p1⟩
      · exact p1.elim⟩
theorem de_andV (ha : DE X E a e1) (hb : DE X E b (.BoolOp .And (e2 :: es) pos)) : DE X E (eAndV a b) (.BoolOp .And (e1 :: e2 :: es) pos) := by
  simp only [DE_eq] at *
  exact PE.imp (pe_andT tru_ok ha hb) fun σ H Q ⟨θ, h, ρ, w, fr, p⟩ => ⟨θ, h, ρ, w, fr, (Post.bind p).mono fun d θ1 h1 H1 _ _ ⟨ev, w1, p1⟩ v r => by
      split at p1
      · rename_i b hb
        refine ⟨b, truth_of w1 r hb, rfl, ?_⟩
        cases b with
        | false => exact p1 θ1 H1 Ev.refl w1 v r
        | true => exact ⟨θ1, h1, ρ, w1, fr.ev ev, p1⟩
      · exact p1.elim⟩
def eChain (f g : D → D → Hm → R D) (a b c : ME) : ME := fun ρ h => (a ρ h).bind fun x h1 => (b ρ h1).bind fun y h2 => (f x y h2).bind fun z h3 => match z with
  | .dat (.bool k) => if k then (c ρ h3).bind fun w h4 => g y w h4 else .ok (.bool false) h3
  | _ => .bad
theorem lE_chain {G : Gx} {f g : D → D → Hm → R D} {σ : St} {H : Hp} {Q : VK} (h : lE G E (eChain f g a b c) σ H Q) : tChain (rOf G E f) (rOf G E g) (lE G E a) (lE G E b) (lE G E c) σ H Q := by
  obtain ⟨θ, h, ρ, w, fr, p⟩ := h
  refine ⟨θ, h, ρ, w, fr, (Post.bind p).mono fun x θ1 h1 H1 _ _ ⟨e1, w1, p1⟩ v r1 => ?_⟩
  refine ⟨θ1, h1, ρ, w1, fr.ev e1, (Post.bind p1).mono fun y θ2 h2 H2 _ _ ⟨e2, w2, p2⟩ u r2 => ⟨θ2, h2, x, y, w2, r1.ev e2, r2, (Post.bind p2).mono fun z θ3 h3 H3 _ _ ⟨e3, w3, p3⟩ z' r3 => ?_⟩⟩
  cases z with
  | dat z =>
    cases z with
    | bool k =>
      refine ⟨k, r3.1, ?_⟩
      cases k with
      | true => exact ⟨θ3, h3, ρ, w3, (fr.ev e1).ev (e2.trans e3), (Post.bind p3).mono fun w' θ4 h4 H4 _ _ ⟨e4, w4, p4⟩ q r4 => ⟨θ4, h4, y, w', w4, (r2.ev e3).ev e4, r4, p4⟩⟩
      | false => exact p3 θ3 H3 Ev.refl w3 _ ⟨rfl, by simp [sOk]⟩
    | _ => exact p3.elim
  | _ => exact p3.elim
theorem de_chain {op op' : CmpOp} {f g : D → D → Hm → R D} (ho : Op2 X E (compareOp op) f) (ho' : Op2 X E (compareOp op') g) (ha : DE X E a e1) (hb : DE X E b e2) (hc : DE X E c e3)
    (hm : lastMarks [op, op'] [e2, e3] = false := by with_unfolding_all rfl) : DE X E (eChain f g a b c) (.Compare e1 [op, op'] [e2, e3] pos) := by
  simp only [DE_eq] at *
  exact PE.imp (pe_chain ho ho' ha hb hc hm) fun _ _ _ => lE_chain
theorem dt_chain {op op' : CmpOp} {f g : D → D → Hm → R D} (ho : Op2 X E (compareOp op) f) (ho' : Op2 X E (compareOp op') g) (ha : DE X E a e1) (hb : DE X E b e2) (hc : DE X E c e3)
    (hm : lastMarks [op, op'] [e2, e3] = false := by with_unfolding_all rfl) : DT X E (tBool (eChain f g a b c)) (.Compare e1 [op, op'] [e2, e3] pos) := by
  simp only [DE_eq, DT_eq] at *
  exact PT.imp (pt_chain ho ho' ha hb hc hm) fun _ _ _ q => lE_chain (lT_bool q)
end
end Ml
namespace Ml
open PySem PySem.Spec L2
section
variable {X : Cx} {E : XK} {m a b c : ME} {t u : MT} {e e1 e2 e3 tg : Expr} {es : List Expr} {ma : MA} {pos : Pos} {i : Nat} {x : Str} {ss : List Stmt} {st : Stmt}
theorem dv (i : Nat) (hN : X.N[i]? = some x := by rfl) (hv : Vis X.env.scope x := by first | exact Or.inl rfl | exact Or.inr (Or.inl rfl) | exact Or.inr (Or.inr rfl)) (hd : (x == ("__debug__" : Str)) = false := by decide) (hcd : (x == ("__classdict__" : Str)) = false := by decide) : DE X E (eVar i) (.Name x pos) := de_var hN hv hd hcd
theorem dg (i : Nat) (hN : X.N.Nodup) (hi : X.N[i]? = some x := by rfl) (hx : Loc X.env.scope x := by first | exact Or.inl rfl | exact Or.inr rfl) (hf : X.fn x = true ∨ X.env.scope.names.lookup x = some .local := by first | exact .inl rfl | exact .inr rfl | assumption) : DG X E (gName i) (.Name x pos) := dg_name hN hi hx hf
def itAny (e : ME) : MA := fun ρ h => match e ρ h with
  | .ok (.dat (.tuple ds)) h1 => .ok (ds.map D.dat) h1
  | .ok (.dat (.list ds)) h1 => .ok (ds.map D.dat) h1
  | .ok (.dat (.str s)) h1 => .ok (signs s) h1
  | .ok (.ktup ds) h1 => .ok (ds.map D.dat) h1
  | .exc x h1 => .exc x h1
  | _ => .bad
theorem di_any (h : DE X E m e) : DI X E (itAny m) tg e := by
  have at' := di_tup (tg := tg) h
  have al' := di_lst (tg := tg) h
  have as' := di_str (tg := tg) h
  have ak' := di_ktup (tg := tg) h
  simp only [DI_eq] at *
  intro pins s σ H QI I ⟨θ, hm, ρ, w, fr, p⟩
  cases em : m ρ hm with
  | bad => simp only [itAny, em] at p; exact p.elim
  | exc x h1 =>
    simp only [itAny, em] at p
    refine at' pins s σ H QI I ⟨θ, hm, ρ, w, fr, ?_⟩
    simp only [itTup, em, R.bind_exc]
    exact p
  | ok d h1 =>
    cases d with
    | dat d =>
      cases d with
      | tuple ds =>
        simp only [itAny, em] at p
        refine at' pins s σ H QI I ⟨θ, hm, ρ, w, fr, ?_⟩
        simp only [itTup, em, R.bind_ok]
        exact p
      | list ds =>
        simp only [itAny, em] at p
        refine al' pins s σ H QI I ⟨θ, hm, ρ, w, fr, ?_⟩
        simp only [itLst, em, R.bind_ok]
        exact p
      | str ds =>
        simp only [itAny, em] at p
        refine as' pins s σ H QI I ⟨θ, hm, ρ, w, fr, ?_⟩
        simp only [itStr, em, R.bind_ok]
        exact p
      | _ => simp only [itAny, em] at p; exact p.elim
    | ktup ds =>
      simp only [itAny, em] at p
      refine ak' pins s σ H QI I ⟨θ, hm, ρ, w, fr, ?_⟩
      simp only [itKt, em, R.bind_ok]
      exact p
    | _ => simp only [itAny, em] at p; exact p.elim
theorem dss_bad : DSs X E (fun _ _ => .bad) ss := by
  simp only [DSs_eq] at *
  exact fun pins s σ H C I ⟨θ, hm, ρ, w, fr, p⟩ => p.elim
end
section
variable {X : Cx} {E : XK} {m : ME} {e : Expr} {es : List Expr} {ma : MA} {pos pos' p p2 : Pos} {i : Nat} {x T : Str} {f : Fn} {id n : String} {g : PyData → Bool}
theorem dset (i : Nat) (hN : X.N.Nodup) (he : DE X E m e) (hi : X.N[i]? = some x := by rfl) (hx : Loc X.env.scope x := by first | exact Or.inl rfl | exact Or.inr rfl) (hs : swapsWith e (some (.Name x pos')) pos.line X.env = pure false := by kernel_rfl) (hf : X.fn x = true ∨ X.env.scope.names.lookup x = some .local := by first | exact .inl rfl | exact .inr rfl | assumption) :
    DS X E (sSet i m) (.Assign [.Name x pos'] e pos) := ds_set hN hi hx he hs hf
theorem dpar2 {a b : Expr} {y : Str} {px py pt : Pos} {kt k2 pt2} (i j : Nat) (hN : X.N.Nodup) (ha : DA X E ma [a, b]) (hc : X.calm = true := by rfl) (hi : X.N[i]? = some x := by rfl) (hj : X.N[j]? = some y := by rfl) (hij : i ≠ j := by decide)
    (hx : X.env.scope.names.lookup x = some .local := by rfl) (hy : X.env.scope.names.lookup y = some .local := by rfl)
    (hw : swappedStores [.Tuple [.Name x px, .Name y py] kt pt] (.Tuple [a, b] k2 pt2) X.env = pure (some [x, y]) := by kernel_rfl)
    (hs : swapsWithSole [.Tuple [.Name x px, .Name y py] kt pt] (.Tuple [a, b] k2 pt2) pos.line X.env = pure false := by rfl) :
    DS X E (sPar [i, j] ma) (.Assign [.Tuple [.Name x px, .Name y py] kt pt] (.Tuple [a, b] k2 pt2) pos) := by
  rw [DA_eq] at ha
  exact ds_par2 (ps_par hc hN hi hj hij hx hy ha hw hs)
theorem dcb (hc : Cal X E (.builtin id) f) (hm : X.mg x = none) (hv : bootBuiltins x = some (.builtin id)) (ha : DA X E ma (e :: es)) (hg : Gl X x := by rfl) (hn : x ≠ "__name__" := by decide) (hdb : (x == ("__debug__" : Str)) = false := by decide)
    (he : starEach (e :: es) X.env = (false, eval e X.env) :: starEach es X.env := by rfl) (hpl : (backTo pos (starEach es X.env)).any (·.1) = false := by rfl) : DE X E (eCall f ma) (.Call (.Name x p) (e :: es) [] pos) := de_callB hc hg hm hv ha hn hdb he hpl
theorem dct (hc : Cal X E (.type id) f) (hm : X.mg x = none) (hv : bootBuiltins x = some (.type id)) (ha : DA X E ma (e :: es)) (hg : Gl X x := by rfl) (hn : x ≠ "__name__" := by decide) (hdb : (x == ("__debug__" : Str)) = false := by decide)
    (he : starEach (e :: es) X.env = (false, eval e X.env) :: starEach es X.env := by rfl) (hpl : (backTo pos (starEach es X.env)).any (·.1) = false := by rfl) : DE X E (eCall f ma) (.Call (.Name x p) (e :: es) [] pos) := de_callTy hc hg hm hv ha hn hdb he hpl
theorem disi (kit : ∀ d, PySem.W.kitOne X.K (.type (tyD d)) (.type n) = some (g d)) (bt : bootBuiltins T = some (.type n)) (m1 : X.mg "isinstance" = none) (m2 : X.mg T = none) (h : DE X E m e) (g1 : Gl X "isinstance" := by rfl) (g2 : Gl X T := by rfl) (hT : T ≠ "__name__" := by decide) (hT2 : (T == ("__debug__" : Str)) = false := by decide)
    (hs : starEach [e, .Name T p2] X.env = (false, eval e X.env) :: starEach [.Name T p2] X.env := by rfl) (hs2 : starEach [.Name T p2] X.env = [(false, eval (.Name T p2) X.env)] := by rfl) (hpl : (backTo pos (starEach [.Name T p2] X.env)).any (·.1) = false := by rfl) : DE X E (eUn (bIsi g) m) (.Call (.Name "isinstance" p) [e, .Name T p2] [] pos) := de_isi kit bt m1 m2 h g1 g2 hT hT2 hs hs2 hpl
end
def Df (K : PySem.W.Frag) (mg : Str → Option Value) (x : Str) (ps : List Str) (st : Stmt) : Prop := ∃ f fd, mg x = some (.ref f) ∧ Fun K x x st f fd ∧ Binds K fd ps []
theorem df_mk {K : PySem.W.Frag} {h : Heap} {mg : Str → Option Value} {x : Str} {ps : List Str} {st : Stmt} {f : Addr} {od an : Option Addr} {sl : Array (Option Value)} {oc kV dc pm cd ct : Value} (X : K.In h) (G : h.Ns mainGlobals mg)
    (a : PySem.W.nsIn K mainGlobals x = some (some (.ref f))) (l : K.lookup f = some ⟨oc, od, .func (PySem.W.fnOf x x (defArgs st) (defBody st) (defScope st) .none kV dc pm an cd ct), sl⟩) (c : PySem.W.codeIn K cd x = true) (k : PySem.W.keepIn K (.ref f) = true)
    (hb : ∀ (kV doc pm : Value) (an : Option Addr) (cdv ct : Value) (us : List Value), us.length = ps.length → bindArgs (PySem.W.fnOf x x (defArgs st) (defBody st) (defScope st) .none kV doc pm an cdv ct) ⟨us, []⟩ = pure (ps.zip us)) : Df K mg x ps st :=
  ⟨f, _, PySem.W.mg_of X G a, fun_mk l c k, (fun_mk l c k).binds hb⟩
section
variable {P : Program} {w : World} {K : PySem.W.Frag} {mg : Str → Option Value} {base : Heap} {x : Str} {st : Stmt} {ps N : List Str} {k : Nat} {b : MS} {F : Fn}
theorem Df.has (d : Df K mg x ps st) (S : FnScope N ps (defScope st)) (hbody : ∀ (f : Addr) (cdv : Value) (A : Around) (outer : List Env) (s : Shared) (H : Hp) (E : XK), Room k (A.deeper (PyProof.Rows.envOfC x (defScope st) s.heap.objs.size f cdv)) →
      DSs (cxOf (Fly P w) P w K mg base N x (defScope st) f cdv A outer s H E) E b (defBody st)) : HasM P w K mg base x ps (k + 1) (runFn ps.length N.length b) := by
  obtain ⟨f, fd, h1, Fu, bd⟩ := d
  exact ⟨⟨f, fd, h1, Fu.kp, bd, fnM Fu S (hbody f)⟩, arity_run⟩
end
theorem bt_int : bootBuiltins "int" = some (.type "int") := by decide +kernel
theorem okM_eq {P : Program} {w : World} {K : PySem.W.Frag} {mg : Str → Option Value} {base : Heap} {k : Nat} {f : Addr} {fd : FuncData} {ps : List Str} {F F' : Fn} (h : FnOk P w K mg base (Fly P w) k f fd ps (spM ⟨P, w, mg, K⟩ F)) (e : F = F') : FnOk P w K mg base (Fly P w) k f fd ps (spM ⟨P, w, mg, K⟩ F') := e ▸ h
end Ml
namespace L2
open PySem PySem.Spec
def lamLook (sc lscope : Scope) : Bool := lscope.names.all fun x => decide (x.2 ≠ .free) || (decide (sc.names.lookup x.1 = some .cell) && decide (lscope.names.lookup x.1 = some .free))
theorem lamLook.free {sc lscope : Scope} (h : lamLook sc lscope = true) {n : Str} (m : (n, NameKind.free) ∈ lscope.names) : sc.names.lookup n = some .cell ∧ lscope.names.lookup n = some .free := by
  have := List.all_eq_true.mp h _ m
  simpa using this
end L2
namespace Ml
open PySem PySem.Spec L2 PyProof.Rows
abbrev bmVE : List Value := [.type "ValueError", .type "Exception", .type "BaseException", .type "object"]
abbrev newVE : String := "ValueError.__new__"
theorem pairLen {α β : Type} {f : α → β → Prop} : ∀ {xs : List α} {ys : List β}, PySem.Paired f xs ys → xs.length = ys.length
  | _, _, .nil => rfl
  | _, _, .cons _ r => by simp [pairLen r]
def sRaise (C : Str) (a : MA) : MS := fun ρ h => (a ρ h).bind fun xs h1 => if szOk xs.length then .exc ⟨C, []⟩ h1 else .bad
def XOk (K : PySem.W.Frag) (mg : Str → Option Value) (x : Str) : Prop := ∃ C, mg x = some (.ref C) ∧ XCls K mg x C bmVE newVE
section
variable {P : Program} {w : World} {K : PySem.W.Frag} {mg : Str → Option Value} {base : Heap} {N : List Str} {qual : Str} {scope : Scope} {f : Addr} {cd : Value} {A : Around} {outer : List Env} {s : Shared} {H : Hp} {E : XK}
theorem ds_raise {x : Str} {e : Expr} {es : List Expr} {ma : MA} {np cpos pos : Pos} {k : Nat} (c : XOk K mg x) (hr : Room k (A.deeper (envOfC qual scope s.heap.objs.size f cd)))
    (ha : DA (cxOf (Fly P w) P w K mg base N qual scope f cd A outer s H E) E ma (e :: es)) (hg : Gl (cxOf (Fly P w) P w K mg base N qual scope f cd A outer s H E) x := by rfl)
    (he : starEach (e :: es) (envOfC qual scope s.heap.objs.size f cd) = (false, eval e (envOfC qual scope s.heap.objs.size f cd)) :: starEach es (envOfC qual scope s.heap.objs.size f cd) := by rfl)
    (hplain : (backTo cpos (starEach es (envOfC qual scope s.heap.objs.size f cd))).any (·.1) = false := by rfl) (hdb : (x == ("__debug__" : Str)) = false := by decide) :
    DS (cxOf (Fly P w) P w K mg base N qual scope f cd A outer s H E) E (sRaise x ma) (.Raise (some (.Call (.Name x np) (e :: es) [] cpos)) none pos) := by
  obtain ⟨C, hm, xc⟩ := c
  simp only [DS_eq, DA_eq] at *
  refine PS.imp (ps_raise xc PySem.F.excBase_ValueError hr.hd hg ha he hplain hdb) fun Cn σ H1 ⟨θ, h, ρ, w1, fr, p⟩ => ⟨θ, h, ρ, w1, fr, (Post.bind p).mono fun ds θ1 h1 H2 _ _ ⟨ev, w2, p2⟩ vs r => ?_⟩
  split at p2
  · rename_i hz
    exact ⟨by have := pairLen r; rw [← this]; exact szOk_le hz, p2 θ1 H2 Ev.refl w2 (.ref C) none ⟨hm, rfl, rfl⟩⟩
  · exact p2.elim
end
end Ml
namespace Ml
open PySem PySem.Spec L2 PyProof.Rows
theorem rec_out {X : Cx} {pins : List (Addr × Obj)} {σ : L2.St} {H : Hp} {s : Shared} {θ : List Addr} {h : Hm} {b : Addr} {q : Str} (I : Inv X pins σ H s) (w : W X.G θ h H) (e : H b = some (.ext (recAt b q))) : b ∉ θ := fun m => by
  obtain ⟨i, hi, ei⟩ := List.mem_iff_getElem.mp m
  have hl : i < h.length := by rw [← w.len]; exact hi
  have r := w.obj i b h[i] (by rw [List.getElem?_eq_getElem hi, ei]) (List.getElem?_eq_getElem hl)
  cases ho : h[i] with
  | lst xs => rw [ho] at r; obtain ⟨vs, e1, _⟩ := r; rw [e] at e1; cases e1
  | ins C fs => rw [ho] at r; exact r.elim
  | tab P q' => rw [ho] at r; obtain ⟨rfl, ps, e1, _⟩ := r; rw [e] at e1; cases e1
  | dct t kvs =>
    rw [ho] at r
    rcases r with ⟨_, ks, e1, _⟩ | ⟨_, xs, e1, _⟩
    · rw [e] at e1; cases e1
    · rw [e] at e1
      have k1 : recAt b q s.heap := (show ObjOk X.prog X.w H s.heap b (.ext (recAt b q)) from I.hok b _ e).1
      unfold dO at e1
      have e2 := congrFun (HO.ext.inj (Option.some.inj e1)) s.heap
      have k2 := k1
      rw [e2] at k2
      obtain ⟨_, _, o, es, ep, g1, g2, g3, _⟩ := k2
      obtain ⟨c1, oc, vs, t, z, g4, g5, g6⟩ := k1
      cases z
      rw [g1] at g4
      cases g4
      rw [g3] at g5
      cases g5
theorem W.tabbed {X : Cx} {pins : List (Addr × Obj)} {σ : L2.St} {H H1 : Hp} {s : Shared} {θ : List Addr} {h : Hm} {P : Addr} {q : Str} {j : Nat} (I : Inv X pins σ H s) (w : W X.G θ h H) (hj : h[j]? = some (.tab P q)) (t1 : TabOk H1 P q) (sm : Same (hid H P) (hid H1 P)) : Ev θ H θ H1 ∧ W X.G θ h H1 := by
  have hjl := (List.getElem?_eq_some_iff.mp hj).1
  have hjt : j < θ.length := by rw [w.len]; exact hjl
  have r0 := w.obj j θ[j] _ (List.getElem?_eq_getElem hjt) hj
  obtain ⟨eP, tb⟩ := r0
  have mP : P ∈ θ := eP ▸ List.getElem_mem hjt
  have keep : ∀ a o, a ≠ P → H a = some o → H1 a = some o := fun a o n e => by
    have := sm a o (by unfold hid; rw [if_neg n]; exact e)
    unfold hid at this
    rw [if_neg n] at this
    exact this
  have e : Ev θ H θ H1 := ⟨⟨[], by simp⟩, fun a u k => by
    obtain ⟨h1, h2⟩ := view_get k
    rw [view_of h1]
    exact keep a u (fun z => h1 (z ▸ mP)) h2⟩
  refine ⟨e, ⟨w.len, w.nd, fun i a m h1 h2 => ?_⟩⟩
  have r := w.obj i a m h1 h2
  by_cases ha : a = P
  · subst ha
    cases m with
    | lst xs => obtain ⟨vs, q1, q2⟩ := r; obtain ⟨ps, z, _⟩ := tb; rw [q1] at z; cases z
    | dct t kvs =>
      obtain ⟨ps, z, _⟩ := tb
      rcases r with ⟨_, ks, e1, _⟩ | ⟨_, xs, e1, _⟩
      · rw [e1] at z; cases z
      · rw [e1] at z; cases z
    | ins => exact r.elim
    | tab P' q' =>
      obtain ⟨rfl, _⟩ := r
      have hij : i = j := by
        obtain ⟨l1, e1⟩ := List.getElem?_eq_some_iff.mp h1
        rcases Nat.lt_trichotomy i j with z | z | z
        · exact absurd (e1.trans eP.symm) (List.pairwise_iff_getElem.mp w.nd i j l1 hjt z)
        · exact z
        · exact absurd (eP.trans e1.symm) (List.pairwise_iff_getElem.mp w.nd j i hjt l1 z)
      subst hij
      rw [hj] at h2
      cases h2
      obtain ⟨ps, k1, k2, k3⟩ := t1
      refine ⟨rfl, ps, k1, k2, fun pos c k => ?_⟩
      obtain ⟨b, k4, k5, k6⟩ := k3 pos c k
      refine ⟨b, k4, k5, ?_⟩
      have nb : b ∉ θ := by
        cases hb : H b with
        | none => exact w.notin hb
        | some o =>
          have := keep b o k5 hb
          rw [k6] at this
          cases this
          exact rec_out I w hb
      rw [view_of nb]
      exact k6
  · have kp : ∀ o, H a = some o → H1 a = some o := fun o => keep a o ha
    cases m with
    | lst xs => obtain ⟨vs, q1, q2⟩ := r; exact ⟨vs, kp _ q1, q2.ev e⟩
    | dct t kvs => exact DctAt.same e.same r kp
    | ins => exact r.elim
    | tab P' q' => obtain ⟨rfl, x⟩ := r; exact ⟨rfl, x.same e.same kp⟩
def wordsL : List Str := ["web", "lot", "name", "kind", "pair", "changes", "count", "shut", "way", "joint", "side", "deed"]
def wordAt (j : Nat) : Str := wordsL.getD j ""
def clsAt : Str → Option Nat := fun x => (["NoWeb", "NoLot", "NoName", "NoKind", "NoPair", "NoChanges", "NoCount", "NoShut", "NoWay", "NoJoint", "NoSide", "NoDeed"] : List Str).findIdx? (· == x)
def pick (ρ : Fm) (idx : List Nat) : Fm := idx.map fun i => (ρ[i]?).join
def saidR (cl : List Nat) : R D → R D
  | .ok d h => mkLst [d] h
  | .exc x h => match clsAt x.cls with
    | some j => if cl.contains j then .ok (.dat (.tuple [.str (wordAt j)])) h else .bad
    | none => .bad
  | .bad => .bad
def eSaid (cl : List Nat) (j : Nat) (P : Addr) (q : Str) (idx : List Nat) (b : ME) : ME := fun ρ h => match h[j]? with
  | some (.tab P' q') => if P' = P ∧ q' = q ∧ (pick ρ idx).all Option.isSome = true then saidR cl (b (pick ρ idx) h) else .bad
  | _ => .bad
def saidQ (Q : VK) : VK := fun x H1 => [x].length ≤ sizeLine ∧ ∀ p, H1 p = none → Q (.ref p) (upd H1 p (.lst [x]))
def saidM (XE : VK → XK) : (VK → XK → Prop) → VK → Prop := fun G Q => G (saidQ Q) (XE Q)
def Hears (mg : Str → Option Value) (cl : List Nat) (XE : VK → XK) : Prop := ∀ (Q : VK) (cls : Value) (H : Hp) (x : Str) (j : Nat), clsAt x = some j → j ∈ cl → mg x = some cls → (∀ H' t, Same H H' → H' t = none → Q (.ref t) (upd H' t (.tup [.str (wordAt j)]))) → XE Q cls none H
theorem word_ok : ∀ j, PyData.strOk (wordAt j) = true := by
  have : ∀ x ∈ wordsL, PyData.strOk x = true := by decide +kernel
  intro j
  unfold wordAt
  rw [List.getD_eq_getElem?_getD]
  cases e : wordsL[j]? with
  | none => exact (by decide +kernel : PyData.strOk "" = true)
  | some x => exact this x (List.mem_of_getElem? e)
section
variable {X : Cx} {E : XK}
theorem de_said {g pn : Str} {k kl : Nat} {c P bm : Addr} {params : Arguments} {body : Expr} {lscope : Scope} {lpos p pos : Pos} {N2 : List Str} {b : ME} {XE : VK → XK} {cl : List Nat} (j : Nat) (idx : List Nat) (q : Str) (hq : X.env.qual ++ "<lambda>" = q)
    (F : HasFnS X.prog X.w X.K X.mg X.base g [pn] k (spLam X.prog X.w X.K X.mg X.base (kl + 1) (saidM XE))) (HX : Hears X.mg cl XE) (hr : Room k X.A) (hcode : X.env.code = .ref c) (ht : PySem.W.codeHdIn X.K c P = true) (B : BMod X.base X.mg bm)
    (hbody : ∀ (f c' : Addr) (clos : List (Str × Addr)) (A : Around) (outer : List Env) (s : Shared) (H : Hp) (E' : XK), Room kl (A.deeper (lamEnv (X.env.qual ++ "<lambda>") lscope s.heap.objs.size f (.ref c') clos)) → DE (cxLam X.prog X.w X.K X.mg X.base N2 (X.env.qual ++ "<lambda>") lscope f (.ref c') clos A outer s H E') E' b body)
    (hix : (List.range N2.length).all (fun i => match N2[i]?, idx[i]? with | some x, some n => decide (X.N[n]? = some x) && lscope.names.contains (x, NameKind.free) | _, _ => false) = true)
    (hN2 : N2.length = idx.length := by rfl)
    (hg : Gl X g := by rfl) (S : LamScope lscope := by exact ⟨rfl, rfl, rfl, by decide +kernel⟩) (hdef : defaultsOf params X.env = ([], []) := by rfl) (hll : lamLook X.env.scope lscope = true := by kernel_rfl)
    (hbind : ∀ clos pm c' ctv, bindArgs (PySem.W.kla_fn "<lambda>" (X.env.qual ++ "<lambda>") params body lscope clos pm (.ref c') ctv) ⟨[], []⟩ = pure [] := by intro _ _ _ _; rfl)
    (hdb : (g == ("__debug__" : Str)) = false := by decide) (hs : starEach [.Lambda params body lscope lpos] X.env = (false, eval (.Lambda params body lscope lpos) X.env) :: starEach [] X.env := by rfl) :
    DE X E (eSaid cl j P q idx b) (.Call (.Name g p) [.Lambda params body lscope lpos] [] pos) := by
  subst hq
  simp only [DE_eq] at *
  intro pins s σ H Q I ⟨θ, h, ρ, w, fr, p⟩
  unfold eSaid at p
  split at p
  · rename_i P' q' hj
    split at p
    · rename_i hc
      obtain ⟨rfl, rfl, hsome⟩ := hc
      have hix' : ∀ (j : Nat) (x : Str), N2[j]? = some x → ∃ i, idx[j]? = some i ∧ X.N[i]? = some x ∧ (x, NameKind.free) ∈ lscope.names := fun jj x hx => by
        have hl := (List.getElem?_eq_some_iff.mp hx).1
        have := List.all_eq_true.mp hix jj (List.mem_range.mpr hl)
        rw [hx] at this
        cases hi : idx[jj]? with
        | none => rw [hi] at this; simp at this
        | some n =>
          rw [hi] at this
          simp only [Bool.and_eq_true, decide_eq_true_eq, List.contains_iff_mem] at this
          exact ⟨n, rfl, this.1, this.2⟩
      have all : ∀ i ∈ idx, ∃ d v, ρ[i]? = some (some d) ∧ σ[i]? = some (some v) ∧ DRep X.G θ H d v := fun i hi => by
        have := List.all_eq_true.mp hsome _ (List.mem_map_of_mem hi)
        cases e : ρ[i]? with
        | none => rw [e] at this; simp at this
        | some o =>
          cases o with
          | none => rw [e] at this; simp at this
          | some d =>
            obtain ⟨v, h1, h2⟩ := fr.2 i d e
            exact ⟨d, v, rfl, h1, h2⟩
      obtain ⟨vs, hvl, hvs, hfr⟩ : ∃ vs : List V, vs.length = idx.length ∧ (∀ (jj : Nat) (v : V), vs[jj]? = some v → ∃ i, idx[jj]? = some i ∧ σ[i]? = some (some v)) ∧ Fr X.G θ H (pick ρ idx) (vs.map some) := by
        clear hsome p hix hN2 hix'
        induction idx with
        | nil => exact ⟨[], rfl, by simp, rfl, by simp [pick]⟩
        | cons i is ih =>
          obtain ⟨vs, h1, h2, h3⟩ := ih (fun i hi => all i (List.mem_cons_of_mem _ hi))
          obtain ⟨d, v, e1, e2, e3⟩ := all i (List.mem_cons_self ..)
          refine ⟨v :: vs, by simp [h1], fun jj u hu => ?_, by simp [pick, h1], fun jj d' hd => ?_⟩
          · cases jj with
            | zero => simp at hu; subst hu; exact ⟨i, rfl, e2⟩
            | succ jj => simp at hu; obtain ⟨n, k1, k2⟩ := h2 jj u hu; exact ⟨n, by simpa using k1, k2⟩
          · cases jj with
            | zero => simp [pick, e1] at hd; subst hd; exact ⟨v, rfl, e3⟩
            | succ jj =>
              have : (pick ρ is)[jj]? = some (some d') := by simpa [pick] using hd
              obtain ⟨u, k1, k2⟩ := h3.2 jj d' this
              exact ⟨u, by simpa using k1, k2⟩
      have hjl := (List.getElem?_eq_some_iff.mp hj).1
      have hjt : j < θ.length := by rw [w.len]; exact hjl
      obtain ⟨eP, tb⟩ := w.obj j θ[j] _ (List.getElem?_eq_getElem hjt) hj
      refine pe_lamArg (N2 := N2) (idx := idx) (tb := fun E' => lE X.G E' b) F hr hg hcode ht B S hdef (fun n hn => .inl (lamLook.free hll hn).1) (fun x hx => (lamLook.free hll hx).2) hbind hN2 hix' (fun f c' clos A outer s H E' hr' => hbody f c' clos A outer s H E' hr') hdb hs pins s σ H Q I ⟨vs, hvl, hvs, tb.ok, fun H1 t1 sm => ?_⟩
      obtain ⟨ev, w1⟩ := w.tabbed I hj t1 sm
      refine ⟨θ, h, pick ρ idx, w1, hfr.ev ev, ?_⟩
      have p' := p.later ev
      cases hb : b (pick ρ idx) h with
      | bad => rw [hb] at p'; exact p'.elim
      | ok d h' =>
        rw [hb] at p'
        refine fun θ' H' ev' w' v r => ⟨by show 1 ≤ sizeLine; decide, fun q hq => ?_⟩
        exact mkLst_post [d] [v] θ' h' H' w' (.cons r .nil) (p'.later ev') q hq
      | exc x h' =>
        rw [hb] at p'
        simp only [saidR] at p'
        cases hcl : clsAt x.cls with
        | none => rw [hcl] at p'; exact p'.elim
        | some jj =>
          rw [hcl] at p'
          simp only at p'
          split at p'
          · rename_i hcj
            refine fun θ' H' ev' w' cls da xr => ?_
            obtain ⟨x1, rfl, _⟩ := xr
            refine HX Q cls H' x.cls jj hcl (by simpa using hcj) x1 fun H2 t sm2 ht2 => ?_
            obtain ⟨ev2, w2⟩ := w'.grow sm2
            obtain ⟨ev3, w3, g3⟩ := w2.put (o := .tup [.str (wordAt jj)]) ht2
            exact p' θ' _ ((ev'.trans ev2).trans ev3) w3 _ ⟨⟨t, [.str (wordAt jj)], rfl, g3, .cons rfl .nil⟩, by simp [sOk, sOks, word_ok]⟩
          · exact p'.elim
    · exact p.elim
  · exact p.elim
end
end Ml
namespace L2
open PySem PySem.Spec PyProof.Rows
def OnlyT (H : Hp) (P : Addr) : Prop := ∀ b, H b = none ∨ (b ≠ P ∧ ∃ o xs, H b = some (.frz o (.lst xs))) ∨ (b = P ∧ H b = some (.tbl #[]))
theorem law_callT {P : Program} {w : World} {K : PySem.W.Frag} {mg mb : Str → Option Value} {CX : CXT} {k : Nat} {fa a c Pt : Addr} {fd : FuncData} {x : Str} {sp : Sp} {s₁ : Shared} {vs : List Value} {ns : List Int}
    (KX : K.In s₁.heap) (hns : s₁.heap.Ns mainGlobals mg) (hb : s₁.heap.Ns builtinsNs mb) (hbb : ∀ x : Str, x ≠ "__name__" → mb x = bootBuiltins x) (hlim : s₁.heap.NoLimit) (hg : s₁.gens = #[])
    (ha : s₁.heap.get? a = some { cls := .type "list", data := .seq vs.toArray }) (hi : IntsAre vs ns) (hl : ns.length ≤ sizeLine) (hr : Room k callerA)
    (ht : PySem.W.codeHdIn K c Pt = true) (hPK : K.lookup Pt = none) (hP : s₁.heap.get? Pt = some (PySem.W.tabObj #[]))
    (hbm : ∃ bm ob, mg "__builtins__" = some (.ref bm) ∧ bm ≠ builtinsNs ∧ s₁.heap.get? bm = some ob ∧ ob.cls = .type "module" ∧ ob.dict = some builtinsNs ∧ ob.data = .plain)
    (F : ∀ base : Heap, K.In base → base.Ns mainGlobals mg → (∃ bm, BMod base mg bm) → FnOk P w K mg base CX k fa fd [x] sp) (hbind : ∀ (s : Shared) (u : Value), BindsTo s fd ⟨[u], []⟩ [(x, u)])
    (hsp : ∀ H : Hp, H Pt = some (.tbl #[]) → SqL K (hid H Pt) a (ns.map V.int) → sp [.ref a] H (fun v _ => v = .bl true) fun _ _ _ => False)
    (hCX : ∀ H e s', CX [] H s₁ (fun _ _ _ => False) e s' → False) :
    codeAny (model P w) callerA (.call (.ref fa) ⟨[.ref a], []⟩) (fun r s' => r = .ok (.ret (.bool true)) ∧ OldK s₁.heap s'.heap ∧ s'.os = s₁.os ∧ AllBare s'.gens) s₁ := by
  have rv := vals_ints hi
  have lenV := hi.length
  have hPo : s₁.heap.get? Pt = some { cls := .none, data := .fields #[] } := hP
  have apart : a ≠ Pt := fun e => by
    rw [e, hPo] at ha
    cases ha
  have ict : isCodeTable s₁.heap Pt := ((PySem.W.codeHd_of_K KX ht).tab hP).isCodeTable
  have core : ∀ H : Hp, OnlyT H Pt → H Pt = some (.tbl #[]) → SqL K (hid H Pt) a (ns.map V.int) → HOk P w H s₁.heap → (∀ b, H b ≠ none → b = a ∨ b = Pt) → (H a ≠ none → K.lookup a = none) →
      codeAny (model P w) callerA (.call (.ref fa) ⟨[.ref a], []⟩) (fun r s' => r = .ok (.ret (.bool true)) ∧ OldK s₁.heap s'.heap ∧ s'.os = s₁.os ∧ AllBare s'.gens) s₁ := by
    intro H hO hT hS hok hA hK
    have base_of : ∀ {b : Addr} {o : Obj}, s₁.heap.get? b = some o → H b = none → (hidT s₁.heap H).get? b = some o := fun e n => hidT_get e n
    have noA : ∀ {b : Addr} {o : Obj} {es : Array DictEntry} {ep : Nat}, s₁.heap.get? b = some o → o.data = .dict es ep → H b = none := fun {b o es ep} e d => by
      cases q : H b with
      | none => rfl
      | some u =>
        rcases hA b (by rw [q]; simp) with e' | e'
        · subst e'
          rw [ha] at e; cases e
          have d' : Data.seq vs.toArray _ = Data.dict es ep := d
          cases d'
        · subst e'
          rw [hPo] at e; cases e
          have d' : Data.fields #[] = Data.dict es ep := d
          cases d'
    have nsK : ∀ {b : Addr} {m : Str → Option Value}, s₁.heap.Ns b m → (hidT s₁.heap H).Ns b m := fun {b m} ⟨o, es, ep, e, d, r⟩ => ⟨o, es, ep, base_of e (noA e d), d, r⟩
    have hKb : K.In (hidT s₁.heap H) := fun b o e => base_of (KX b o e) (by
      cases q : H b with
      | none => rfl
      | some u =>
        rcases hA b (by rw [q]; simp) with e' | e'
        · subst e'
          rw [hK (by rw [q]; simp)] at e; cases e
        · subst e'
          rw [hPK] at e; cases e)
    have hBM : ∃ bm, BMod (hidT s₁.heap H) mg bm := by
      obtain ⟨bm, ob, b1, b2, b3, b4, b5, b6⟩ := hbm
      refine ⟨bm, b1, b2, ob, base_of b3 ?_, b4, b5, b6⟩
      cases q : H bm with
      | none => rfl
      | some u =>
        rcases hA bm (by rw [q]; simp) with e' | e'
        · subst e'
          rw [ha] at b3; cases b3
          exact absurd (show Value.type "list" = Value.type "module" from b4) (by decide +kernel)
        · subst e'
          rw [hPo] at b3; cases b3; cases b4
    have hM : Mod K mg (hidT s₁.heap H) := ⟨hKb, nsK hns, ⟨mb, nsK hb, hbb⟩, let ⟨mc, h1, h2⟩ := hlim; ⟨mc, nsK h1, h2⟩⟩
    have e0 : Env0 P w K mg (hidT s₁.heap H) callerA [] s₁ H := ⟨rfl, hM, fun b o e => of_hidT e, Nat.le_of_eq (hidT_size _ _), trivial, fun b hb => absurd (show b ∈ ([] : List Addr) from hb) (by simp), hok, .of_eq hg⟩
    refine codeAny_mono ((F _ hKb (nsK hns) hBM).run callerA [] s₁ H ⟨[.ref a], []⟩ [.ref a] [.ref a] _ _ hr e0 (hbind s₁ (.ref a)) (.cons rfl .nil) (hsp H hT hS)) fun r s' h => ?_
    cases r with
    | error e => exact (hCX H e s' h).elim
    | ok fl =>
      cases fl with
      | next => exact False.elim h
      | brk => exact False.elim h
      | cont => exact False.elim h
      | ret u =>
        obtain ⟨v, H', os, bare, un, hok', r', q⟩ := h
        have q' : v = .bl true := q
        subst q'
        obtain rfl : u = Value.bool true := r'
        have fate : ∀ b o, s₁.heap.get? b = some o → asItWas s₁.heap s'.heap b o := fun b o e => by
          rcases hO b with z | ⟨_, ob, xs, z⟩ | ⟨e1, z⟩
          · exact .inl (un.keep b o e z (by intro z; exact absurd (show b ∈ ([] : List Addr) from z) (by simp)) (by simp))
          · have z2 := un.frzs b ob _ z
            obtain ⟨e1, _⟩ := hok b _ z
            obtain ⟨e2, _⟩ := hok' b _ z2
            rw [e] at e1; cases e1
            exact .inl e2
          · subst e1
            obtain ⟨more, z2⟩ := un.tbls b #[] z
            have e2 : s'.heap.get? b = some { cls := .none, data := .fields (#[] ++ more) } := hok' b _ z2
            rw [e] at hPo
            cases hPo
            exact .inr (.inl ⟨ict, rfl, #[], more, rfl, e2⟩)
        refine ⟨rfl, ⟨fate, fun b o e => ?_⟩, os, bare⟩
        rcases hO b with z | ⟨_, ob, xs, z⟩ | ⟨e1, z⟩
        · exact ⟨o, un.keep b o e z (by intro z; exact absurd (show b ∈ ([] : List Addr) from z) (by simp)) (by simp)⟩
        · have z2 := un.frzs b ob _ z
          obtain ⟨e2, _⟩ := hok' b _ z2
          exact ⟨_, e2⟩
        · obtain ⟨more, z2⟩ := un.tbls b #[] z
          exact ⟨_, hok' b _ z2⟩
  cases hk : K.lookup a with
  | some o =>
    have e := KX a o hk
    rw [ha] at e
    cases e
    refine core (fun b => if b = Pt then some (.tbl #[]) else none) (fun b => ?_) (if_pos rfl) (.inr ⟨_, vs.toArray, _, hk, rfl, rfl, rfl, by rw [List.size_toArray, lenV]; exact hl, by simpa using rv⟩) (fun b u z => ?_) (fun b z => ?_) fun z => absurd (if_neg apart) z
    · by_cases e1 : b = Pt
      · exact .inr (.inr ⟨e1, if_pos e1⟩)
      · exact .inl (if_neg e1)
    · by_cases e1 : b = Pt
      · have z' := (if_pos e1).symm.trans z
        cases z'
        subst e1
        exact hPo
      · have z' := (if_neg e1).symm.trans z
        cases z'
    · by_cases e1 : b = Pt
      · exact .inr e1
      · exact absurd (if_neg e1) z
  | none =>
    refine core (fun b => if b = Pt then some (.tbl #[]) else if b = a then some (.frz { cls := .type "list", data := .seq vs.toArray } (.lst (ns.map V.int))) else none) (fun b => ?_) (if_pos rfl) (.inl (.inr ⟨{ cls := .type "list", data := .seq vs.toArray }, by rw [hid_ne apart, if_neg apart, if_pos rfl]⟩)) (fun b u z => ?_) (fun b z => ?_) fun _ => hk
    · by_cases e1 : b = Pt
      · exact .inr (.inr ⟨e1, if_pos e1⟩)
      · by_cases e2 : b = a
        · exact .inr (.inl ⟨e1, _, _, (if_neg e1).trans (if_pos e2)⟩)
        · exact .inl ((if_neg e1).trans (if_neg e2))
    · by_cases e1 : b = Pt
      · have z' := (if_pos e1).symm.trans z
        cases z'
        subst e1
        exact hPo
      · by_cases e2 : b = a
        · have z' := ((if_neg e1).trans (if_pos e2)).symm.trans z
          cases z'
          subst e2
          exact ⟨ha, by rw [List.length_map]; exact hl, vs, _, rv, ha⟩
        · have z' := ((if_neg e1).trans (if_neg e2)).symm.trans z
          cases z'
    · by_cases e1 : b = Pt
      · exact .inr e1
      · by_cases e2 : b = a
        · exact .inl e2
        · exact absurd ((if_neg e1).trans (if_neg e2)) z
theorem walk_ofT {l : PySem.W.OpenLaw} {n k : Nat} {q : Program} {loose : List Str} {XP : (Str → Option Value) → Heap → Prop} {YP : World → Heap → Prop} {d : DefRec} {K : Params → PySem.W.Frag} {CX : World → CXT} {sp : World → Sp} {x : Str} {Pt : Addr}
    (hn : l.most = some n) (hn2 : n ≤ sizeLine) (hdf : d.params.defaults = []) (hr : Room k callerA)
    (hY : ∀ (w : World) (h : Heap), YP w h → (K w.params).In h) (hYt : ∀ (w : World) (h : Heap), YP w h → h.get? Pt = some (PySem.W.tabObj #[])) (hPK : ∀ w : World, (K w.params).lookup Pt = none)
    (F : ∀ (w : World) (mg : Str → Option Value) (fa : Addr) (h : Heap), (K w.params).In h → h.Ns mainGlobals mg → mg d.name = some (.ref fa) →
      ∃ (fd : FuncData) (c : Addr), PySem.W.codeHdIn (K w.params) c Pt = true ∧ (∀ (s : Shared) (u : Value), BindsTo s fd ⟨[u], []⟩ [(x, u)]) ∧
        ∀ base : Heap, (K w.params).In base → base.Ns mainGlobals mg → (∃ bm, BMod base mg bm) → FnOk l.prog w (K w.params) mg base (CX w) k fa fd [x] (sp w))
    (hsp : ∀ (w : World) (H : Hp) (a : Addr) (ns : List Int), ns.length ≤ n → H Pt = some (.tbl #[]) → SqL (K w.params) (hid H Pt) a (ns.map V.int) → sp w [.ref a] H (fun v _ => v = .bl true) fun _ _ _ => False)
    (hCX : ∀ (w : World) (H : Hp) (s : Shared) (e : Value) (s' : Shared), CX w [] H s (fun _ _ _ => False) e s' → False) :
    PySem.W.WalkO q loose XP YP l.row.toRowW d [] (fun f vs => PySem.call f vs) := by
  refine Att.attach_call hn hdf fun w s₀ s₁ mg mb fa o pm cd doc a vs ns G Y ho hd hcd hmg hobj hints hlen hg => ?_
  have KX := hY w _ Y
  obtain ⟨fd, c, hc, hb, hF⟩ := F w mg fa _ KX G.T.g hmg
  exact law_callT KX G.T.g G.T.b G.T.builtins G.T.nolimit hg hobj hints (Nat.le_trans hlen hn2) hr hc (hPK w) (hYt w _ Y) G.T.bmain hF hb (fun H hT hS => hsp w H a ns hlen hT hS) fun H e s' => hCX w H s₁ e s'
end L2
namespace Ml
open PySem PySem.Spec L2
def DfT (K : PySem.W.Frag) (mg : Str → Option Value) (x : Str) (ps : List Str) (st : Stmt) (Pt : Addr) : Prop := ∃ (f c : Addr) (oc kV dc pm ct : Value) (od an : Option Addr) (osl : Array (Option Value)), mg x = some (.ref f) ∧ K.lookup f = some ⟨oc, od, .func (PySem.W.fnOf x x (defArgs st) (defBody st) (defScope st) .none kV dc pm an (.ref c) ct), osl⟩ ∧
  PySem.W.codeIn K (.ref c) x = true ∧ PySem.W.codeHdIn K c Pt = true ∧ PySem.W.keepIn K (.ref f) = true ∧ Binds K (PySem.W.fnOf x x (defArgs st) (defBody st) (defScope st) .none kV dc pm an (.ref c) ct) ps []
theorem dft_mk {K : PySem.W.Frag} {h : Heap} {mg : Str → Option Value} {x : Str} {ps : List Str} {st : Stmt} {f c Pt : Addr} {od an : Option Addr} {sl : Array (Option Value)} {oc kV dc pm ct : Value} (X : K.In h) (G : h.Ns mainGlobals mg)
    (a : PySem.W.nsIn K mainGlobals x = some (some (.ref f))) (l : K.lookup f = some ⟨oc, od, .func (PySem.W.fnOf x x (defArgs st) (defBody st) (defScope st) .none kV dc pm an (.ref c) ct), sl⟩) (cd : PySem.W.codeIn K (.ref c) x = true) (ht : PySem.W.codeHdIn K c Pt = true) (k : PySem.W.keepIn K (.ref f) = true)
    (hb : ∀ (kV doc pm : Value) (an : Option Addr) (cdv ct : Value) (us : List Value), us.length = ps.length → bindArgs (PySem.W.fnOf x x (defArgs st) (defBody st) (defScope st) .none kV doc pm an cdv ct) ⟨us, []⟩ = pure (ps.zip us)) : DfT K mg x ps st Pt :=
  ⟨f, c, _, _, _, _, _, _, _, _, PySem.W.mg_of X G a, l, cd, ht, k, (fun_mk (st := st) l cd k).binds hb⟩
section
variable {P : Program} {w : World} {K : PySem.W.Frag} {mg : Str → Option Value} {base : Heap} {x : Str} {st : Stmt} {ps N : List Str} {k : Nat} {b : MS} {F : Fn} {Pt : Addr}
theorem DfT.has (d : DfT K mg x ps st Pt) (S : FnScope N ps (defScope st)) (hbody : ∀ (f c : Addr) (A : Around) (outer : List Env) (s : Shared) (H : Hp) (E : XK), PySem.W.codeHdIn K c Pt = true → Room k (A.deeper (PyProof.Rows.envOfC x (defScope st) s.heap.objs.size f (.ref c))) →
      DSs (cxOf (Fly P w) P w K mg base N x (defScope st) f (.ref c) A outer s H E) E b (defBody st)) : HasM P w K mg base x ps (k + 1) (runFn ps.length N.length b) := by
  simp only [DSs_eq] at *
  obtain ⟨f, c, oc, kV, dc, pm, ct, od, an, osl, h1, lk, hcd, ht, kp, bd⟩ := d
  refine ⟨⟨f, _, h1, kp, bd, ?_⟩, arity_run⟩
  refine fn_of lk hcd S (spM_len arity_run) fun A outer s H vs Q E hr ⟨θ, h, ds, w, r, p⟩ => ⟨_, hbody f c A outer s H E ht hr, ?_⟩
  unfold runFn at p
  split at p
  · rename_i hl
    refine ⟨θ, h, _, w, Fr.start (N := N) (n := 0) r hl, (Post.bind p).mono fun fl θ1 h1 H1 _ _ ⟨ev, w1, p1⟩ => ?_⟩
    cases fl with
    | nx ρ => exact fun σ fr => p1 θ1 H1 Ev.refl w1 _ ⟨rfl, by simp [sOk]⟩
    | rt d => exact p1 θ1 H1 Ev.refl w1
    | bk ρ => exact p1.elim
    | ct ρ => exact p1.elim
  · exact p.elim
end
def spLawT (K : PySem.W.Frag) (Pt : Addr) : Sp := fun vs H Q _ => ∃ (a : Addr) (ns : List Int), vs = [.ref a] ∧ SqL K (hid H Pt) a (ns.map V.int) ∧ ns.length ≤ 63 ∧ H Pt = some (.tbl #[]) ∧ ∀ H', Q (.bl true) H'
theorem view_hid (P : Addr) (H : Hp) : view [P] H = hid H P := by funext a; simp [view, hid]
theorem spLawT_of {G : Gx} {F : Fn} {Pt : Addr} {q : Str} (hp : ∀ ns : List Int, ns.length ≤ 63 → ∃ h, F [.scr ns] [.tab Pt q] = .ok (.bool true) h) {vs : List V} {H : Hp} {Q : VK} {E : XK} (z : spLawT G.K Pt vs H Q E) : spM G F vs H Q E := by
  obtain ⟨a, ns, rfl, hs, hl, ht, k⟩ := z
  obtain ⟨h', e⟩ := hp ns hl
  refine ⟨[Pt], [.tab Pt q], [.scr ns], ⟨rfl, by simp, fun i b o e1 e2 => ?_⟩, .cons ⟨a, rfl, by rw [view_hid]; exact hs⟩ .nil, ?_⟩
  · cases i with
    | zero =>
      simp at e1 e2
      subst e1
      subst e2
      exact ⟨rfl, #[], ht, by simp [TriplesOk], fun pos c e => by simp [codeAmong] at e⟩
    | succ i => simp at e1
  · rw [e]
    intro θ' H' _ _ v r
    cases r.1
    exact k H'
end Ml
namespace Wh
open PySem L2
def asgVal : Stmt → Expr
  | .Assign _ v _ => v
  | _ => .Constant .none 0 ⟨0, 0, 0, 0⟩
def asgPos : Stmt → Pos
  | .Assign _ _ p => p
  | _ => ⟨0, 0, 0, 0⟩
def asgTo : Stmt → Pos
  | .Assign [.Name _ q] _ _ => q
  | _ => ⟨0, 0, 0, 0⟩
def lstOf : Expr → List Expr
  | .List es _ => es
  | _ => []
def lstPos : Expr → Pos
  | .List _ p => p
  | _ => ⟨0, 0, 0, 0⟩
abbrev nth (l : List Stmt) (i : Nat) : Stmt := l.getD i (.Pass ⟨0, 0, 0, 0⟩)
theorem ps_lit {X : Cx} {i : Nat} {x : Str} {e : Expr} {d : PyData} {n : Nat} {q p lp : Pos} {es : List Expr} (he : e = .List es lp) (hl : Lit n e d) (hN : X.N.Nodup) (hi : X.N[i]? = some x) (hx : Loc X.env.scope x) (hf : X.fn x = true) : PS X (.Assign [.Name x q] e p) (tAsg (tLit d) (gName i)) :=
  ps_set (i := i) hN hi hx (@pe_lit X n e d hl) (by rw [he]; rfl) (Or.inl hf)
theorem reps_strs {H : Hp} : ∀ {ns : List Str} {vs : List V}, Reps H (ns.map .str) vs → vs = ns.map V.str
  | [], _, h => h
  | n :: ns, _, ⟨w, ws, e, h, r⟩ => by
    subst e
    have h' : w = .str n := h
    rw [h', reps_strs r]; rfl
structure Clss (mg : Str → Option Value) (cs : Nat → Addr) : Prop where
  ve : mg "ValueError" = none
  m0 : mg "NoWeb" = some (.ref (cs 0))
  m1 : mg "NoLot" = some (.ref (cs 1))
  m2 : mg "NoName" = some (.ref (cs 2))
  m3 : mg "NoKind" = some (.ref (cs 3))
  m4 : mg "NoPair" = some (.ref (cs 4))
  m5 : mg "NoChanges" = some (.ref (cs 5))
  m6 : mg "NoCount" = some (.ref (cs 6))
  m7 : mg "NoShut" = some (.ref (cs 7))
  m8 : mg "NoWay" = some (.ref (cs 8))
  m9 : mg "NoJoint" = some (.ref (cs 9))
  m10 : mg "NoSide" = some (.ref (cs 10))
  m11 : mg "NoDeed" = some (.ref (cs 11))
  m12 : mg "TooMany" = some (.ref (cs 12))
  m13 : mg "NoText" = some (.ref (cs 13))
structure Kind (K : PySem.W.Frag) (cs : Nat → Addr) (D : Addr) (j : Nat) : Prop where
  ec : ECls K D
  lt : j < 12
  k : ∀ i, i < 14 → PySem.W.kitOne K (.ref D) (.ref (cs i)) = some (decide (i = j))
  v : PySem.W.kitOne K (.ref D) (.type "ValueError") = some true
def marks (j : Nat) : List Bool := [decide (0 = j), decide (1 = j), decide (2 = j), decide (3 = j), decide (4 = j), decide (5 = j), decide (6 = j), decide (7 = j), decide (8 = j), decide (9 = j), decide (10 = j), decide (11 = j), decide (12 = j), decide (13 = j)]
theorem marks_ok : ∀ j, j < 12 → (marks j).countP (fun b => b) = 1 ∧ (marks j)[j]? = some true ∧ (∀ m, m < j → (marks j)[m]? = some false) ∧ (marks j)[12]? = some false ∧ (marks j)[13]? = some false := by decide
abbrev wordsL := Ml.wordsL
abbrev wordAt := Ml.wordAt
theorem words_get : ∀ j, j < 12 → (wordsL ++ (["many", "text"] : List Str))[j]? = some (wordAt j) := by decide +kernel
def spWhich (K : PySem.W.Frag) (cs : Nat → Addr) : Sp := fun vs H Q _ => ∃ a D j, vs = [.ref a] ∧ H a = some (.ext (isClsAt a (.ref D))) ∧ Kind K cs D j ∧ ∀ H' t, Same H H' → H' t = none → Q (.ref t) (upd H' t (.tup [.str (wordAt j)]))
theorem bt_VE : bootBuiltins "ValueError" = some (.type "ValueError") := by decide +kernel
theorem pe_isE {X : Cx} {x : Str} {C : Addr} {p p1 p2 pos : Pos} (K : PySem.W.Frag) (hK : X.K = K) (B : X.mg "isinstance" = none) (hN : X.N[0]? = some ("_law_e" : Str)) (hv : Vis X.env.scope "_law_e") (hm : X.mg x = some (.ref C)) (g1 : Gl X "isinstance") (g2 : Gl X x) (hd : (x == ("__debug__" : Str)) = false)
    (h1 : starEach [.Name "_law_e" p1, .Name x p2] X.env = (false, eval (.Name "_law_e" p1) X.env) :: starEach [.Name x p2] X.env) (h2 : starEach [.Name x p2] X.env = (false, eval (.Name x p2) X.env) :: starEach [] X.env) (h3 : (backTo pos (starEach [.Name x p2] X.env)).any (·.1) = false) :
    PE X (.Call (.Name "isinstance" p) [.Name "_law_e" p1, .Name x p2] [] pos) (tCB (rIsiE K) (tCons (tVar 0) (tCons (tC (.ref C)) tNil))) := by
  subst hK
  exact pe_callB call_isiE g1 B bt_isinstance (pa_cons (pe_var hN hv (by decide) (by decide)) (pa_cons (pe_glob g2 hm rfl hd) pa_nil h2) h1) (by decide) (by decide) h1 h3
def tryBody : Stmt → List Stmt
  | .Try b _ _ _ _ => b
  | _ => []
def tryPos : Stmt → Pos
  | .Try _ _ _ _ p => p
  | _ => ⟨0, 0, 0, 0⟩
def trySuite : Stmt → List Stmt
  | .Try _ [.ExceptHandler _ _ b _] _ _ _ => b
  | _ => []
def tryHPos : Stmt → Pos
  | .Try _ [.ExceptHandler _ _ _ p] _ _ _ => p
  | _ => ⟨0, 0, 0, 0⟩
def tryNPos : Stmt → Pos
  | .Try _ [.ExceptHandler (some (.Name _ p)) _ _ _] _ _ _ => p
  | _ => ⟨0, 0, 0, 0⟩
def thS (K : PySem.W.Frag) (cs : Nat → Addr) : TS := tRet (tCall (spWhich K cs) [] E0 (tCons (tVar 1) tNil))
abbrev saidQ := Ml.saidQ
def saidE (K : PySem.W.Frag) (cs : Nat → Addr) (WE : Addr) (Q : VK) : XK := fun cls _ H' => PySem.W.exmOne K cls (.ref WE) = some true ∧ ∀ (a : Addr) (σ' : St), H' a = none → σ'.length = 2 →
  thS K cs { nx := fun _ H'' => Q .non H'', rt := Q } (σ'.set 1 (some (.ref a))) (upd H' a (.ext (isClsAt a cls)))
theorem saidE_of {K : PySem.W.Frag} {cs : Nat → Addr} {WE D : Addr} {Q : VK} {H : Hp} {j : Nat} (kd : Kind K cs D j) (hm : PySem.W.exmOne K (.ref D) (.ref WE) = some true) (k : ∀ H' t, Same H H' → H' t = none → Q (.ref t) (upd H' t (.tup [.str (wordAt j)]))) : saidE K cs WE Q (.ref D) none H := by
  refine ⟨hm, fun a σ' ha hl => ?_⟩
  have : (σ'.set 1 (some (.ref a)))[1]? = some (some (.ref a)) := by rw [List.getElem?_set_self (by omega)]
  refine ⟨_, this, a, D, j, rfl, upd_same, kd, fun H' t s ht => k H' t (fun b o e => s b o ?_) ht⟩
  rw [upd_ne (ne_of_none e ha)]
  exact e
def Refs (K : PySem.W.Frag) (cs : Nat → Addr) (WE : Addr) (cl : List Nat) : Prop := ∀ j ∈ cl, Kind K cs (cs j) j ∧ PySem.W.exmOne K (.ref (cs j)) (.ref WE) = some true
theorem cls_mg {mg : Str → Option Value} {cs : Nat → Addr} (C : Clss mg cs) {x : Str} {j : Nat} (h : Ml.clsAt x = some j) : mg x = some (.ref (cs j)) := by
  unfold Ml.clsAt at h
  rw [List.findIdx?_eq_some_iff_getElem] at h
  obtain ⟨hl, e, _⟩ := h
  have e := eq_of_beq e
  match j, hl with
  | 0, _ => exact e ▸ C.m0
  | 1, _ => exact e ▸ C.m1
  | 2, _ => exact e ▸ C.m2
  | 3, _ => exact e ▸ C.m3
  | 4, _ => exact e ▸ C.m4
  | 5, _ => exact e ▸ C.m5
  | 6, _ => exact e ▸ C.m6
  | 7, _ => exact e ▸ C.m7
  | 8, _ => exact e ▸ C.m8
  | 9, _ => exact e ▸ C.m9
  | 10, _ => exact e ▸ C.m10
  | 11, _ => exact e ▸ C.m11
theorem hears {K : PySem.W.Frag} {mg : Str → Option Value} {cs : Nat → Addr} {WE : Addr} {cl : List Nat} (C : Clss mg cs) (R : Refs K cs WE cl) : Ml.Hears mg cl (saidE K cs WE) := fun Q cls H x j hx hj hm k => by
  have e := cls_mg C hx
  rw [hm] at e
  cases e
  exact saidE_of (R j hj).1 (R j hj).2 k
def csL (l : List Addr) (i : Nat) : Addr := l.getD i 0
def kindB (K : PySem.W.Frag) (l : List Addr) (D WE : Addr) (j : Nat) : Bool := decide (j < 12) && ((List.range 14).all fun i => PySem.W.kitOne K (.ref D) (.ref (csL l i)) == some (decide (i = j))) && (PySem.W.kitOne K (.ref D) (.type "ValueError") == some true) && (PySem.W.exmOne K (.ref D) (.ref WE) == some true)
theorem kindB_ok {K : PySem.W.Frag} {l : List Addr} {D WE : Addr} {j : Nat} (h : kindB K l D WE j = true) (e : ECls K D) : Kind K (csL l) D j ∧ PySem.W.exmOne K (.ref D) (.ref WE) = some true := by
  simp only [kindB, Bool.and_eq_true, decide_eq_true_eq, beq_iff_eq] at h
  refine ⟨⟨e, h.1.1.1, fun i hi => ?_, h.1.2⟩, h.2⟩
  have := List.all_eq_true.mp h.1.1.2 i (List.mem_range.mpr hi)
  simpa using this
end Wh
namespace Ml
open PySem
def b_is_name : MS := sSeq (sIf (tOr (tNot (tTruth (eUn (bIsi isStr) (eVar 0)))) (tNot (tBool (eChain oLe oLe (eDat (.int 1)) (eCall bLen (aCons (eVar 0) (aNil))) (eDat (.int 6)))))) (sRet (eDat (.bool false))) (sNext))
    (sRet (eCall bAll (aCons (eComp 1 (itAny (eVar 0)) (gName 0) (tTrue) (eChain oLe oLe (eDat (.str "a")) (eVar 0) (eDat (.str "z")))) (aNil))))
def f_is_name : Fn := runFn 1 1 b_is_name
end Ml
namespace Ml
open PySem
def b_is_rising : MS := sRet (eCall bAll (aCons (eComp 2 (itZip (aCons (eVar 0) (aCons (eSl (eVar 0) (pSome (eDat (.int 1))) (pNone)) (aNil)))) (gTup (gCons (gName 0) (gCons (gName 1) (gNil)))) (tTrue) (eBin oLt (eVar 0) (eVar 1))) (aNil)))
def f_is_rising : Fn := runFn 1 1 b_is_rising
end Ml
namespace Ml
open PySem
def b_are_names : MS := sSeq (sIf (tOr (tNot (tTruth (eUn (bIsi isTup) (eVar 0)))) (tBool (eBin oGt (eCall bLen (aCons (eVar 0) (aNil))) (eDat (.int 12))))) (sRet (eDat (.bool false))) (sNext))
    (sRet (eAndV (eCall bAll (aCons (eComp 1 (itAny (eVar 0)) (gName 0) (tTrue) (eCall f_is_name (aCons (eVar 0) (aNil)))) (aNil))) (eCall f_is_rising (aCons (eVar 0) (aNil)))))
def f_are_names : Fn := runFn 1 1 b_are_names
end Ml
namespace Ml
open PySem
def b_is_lot : MS := sSeq (sIf (tNot (tTruth (eUn (bIsi isTup) (eVar 0)))) (sRet (eDat (.bool false))) (sNext))
    (sRet (eAndV (eCall bAll (aCons (eComp 1 (itAny (eVar 0)) (gName 0) (tTrue) (eBin oIn (eVar 0) (eVar 2))) (aNil))) (eCall f_is_rising (aCons (eVar 0) (aNil)))))
def f_is_lot : Fn := runFn 2 2 b_is_lot
end Ml
namespace Ml
open PySem
def b_is_joint_strike : MS := sSeq (sIf (tOr (tNot (tTruth (eUn (bIsi isTup) (eVar 0)))) (tBool (eBin oNe (eCall bLen (aCons (eVar 0) (aNil))) (eDat (.int 2))))) (sRet (eDat (.bool false))) (sNext))
    (sSeq (sAsg (gTup (gCons (gName 2) (gCons (gName 3) (gNil)))) (eVar 0))
    (sRet (eAndV (eCall f_is_lot (aCons (eVar 2) (aCons (eVar 1) (aNil)))) (eAndV (eBin oGt (eCall bLen (aCons (eVar 2) (aNil))) (eDat (.int 0))) (eBin oIn (eVar 3) (eVar 1))))))
def f_is_joint_strike : Fn := runFn 2 4 b_is_joint_strike
end Ml
namespace Ml
open PySem
def b_are_joint_strikes : MS := sSeq (sIf (tOr (tNot (tTruth (eUn (bIsi isTup) (eVar 0)))) (tBool (eBin oGt (eCall bLen (aCons (eVar 0) (aNil))) (eDat (.int 4))))) (sRet (eDat (.bool false))) (sNext))
    (sRet (eAndV (eCall bAll (aCons (eComp 1 (itAny (eVar 0)) (gName 0) (tTrue) (eCall f_is_joint_strike (aCons (eVar 0) (aCons (eVar 2) (aNil))))) (aNil))) (eCall f_is_rising (aCons (eVar 0) (aNil)))))
def f_are_joint_strikes : Fn := runFn 2 2 b_are_joint_strikes
end Ml
namespace Ml
open PySem
def b_is_joint : MS := sSeq (sIf (tOr (tNot (tTruth (eUn (bIsi isTup) (eVar 0)))) (tBool (eBin oNe (eCall bLen (aCons (eVar 0) (aNil))) (eDat (.int 2))))) (sRet (eDat (.bool false))) (sNext))
    (sSeq (sAsg (gTup (gCons (gName 1) (gCons (gName 2) (gNil)))) (eVar 0))
    (sRet (eAndV (eCall f_are_names (aCons (eVar 1) (aNil))) (eAndV (eBin oLe (eCall bLen (aCons (eVar 1) (aNil))) (eDat (.int 4))) (eCall f_are_joint_strikes (aCons (eVar 2) (aCons (eVar 1) (aNil))))))))
def f_is_joint : Fn := runFn 1 3 b_is_joint
end Ml
namespace Ml
open PySem PySem.Spec L2
def oCat (x y : D) (h : Hm) : R D := match listOf x h, listOf y h with
  | some xs, some ys => if szOk (xs.length + ys.length) then .ok (.dat (.list (xs ++ ys))) h else .bad
  | _, _ => .bad
section
variable {X : Cx} {E : XK} {st : Stmt}
theorem o_cat : Op2 X E (binaryOp .Add) oCat := Op2.of op_cat fun θ hm H d1 d2 x y Q w r1 r2 p => by
  unfold oCat at p
  split at p
  · rename_i xs ys e1 e2
    split at p
    · rename_i hz
      obtain ⟨a, us, rfl, ha, q1, s1⟩ := list_of w r1 e1
      obtain ⟨b, ws, rfl, hb, q2, s2⟩ := list_of w r2 e2
      refine ⟨a, b, us, ws, rfl, rfl, ha, hb, by rw [q1.length, q2.length]; exact szOk_le hz, fun q hq => ?_⟩
      obtain ⟨e1, w1, g⟩ := w.put (o := .lst (us ++ ws)) hq
      refine p _ _ e1 w1 _ ⟨⟨q, _, rfl, g, (q1.append q2).same e1.same⟩, ?_⟩
      simp only [sOk]
      exact sOks_mem.mpr fun d m => by
        rcases List.mem_append.mp m with m | m
        · exact sOks_mem.mp s1 d m
        · exact sOks_mem.mp s2 d m
    · exact p.elim
  · exact p.elim
def sBad : MS := fun _ _ => .bad
theorem dss_bad' {ss : List Stmt} : DSs X E sBad ss := dss_bad
end
end Ml
namespace Ml
open PySem
def b_check_joint : MS := sIf (tNot (tTruth (eCall f_is_joint (aCons (eVar 0) (aNil))))) (sRaise "NoJoint" (aCons (eDat (.str "no joint web, a tuple (names, strikes)")) (aNil))) (sNext)
def f_check_joint : Fn := runFn 1 1 b_check_joint
end Ml
namespace Ml
open PySem
def b_are_marks : MS := sSeq (sIf (tOr (tNot (tTruth (eUn (bIsi isTup) (eVar 0)))) (tBool (eBin oNe (eCall bLen (aCons (eVar 0) (aNil))) (eCall bLen (aCons (eVar 1) (aNil)))))) (sRet (eDat (.bool false))) (sNext))
    (sBad)
def f_are_marks : Fn := runFn 2 2 b_are_marks
end Ml
namespace Ml
open PySem
def b_are_right : MS := sBad
def f_are_right : Fn := runFn 2 5 b_are_right
end Ml
namespace Ml
open PySem
def b_are_joint_right : MS := sSeq (sExpr (eCall f_check_joint (aCons (eVar 0) (aNil))))
    (sRet (eAndV (eCall f_are_marks (aCons (eVar 1) (aCons (eBin oIx (eVar 0) (eDat (.int 0))) (aNil)))) (eCall f_are_right (aCons (eVar 0) (aCons (eVar 1) (aNil))))))
def f_are_joint_right : Fn := runFn 2 2 b_are_joint_right
end Ml
namespace Ml
open PySem
def b_joint_marks : MS := sSeq (sExpr (eCall f_check_joint (aCons (eVar 0) (aNil))))
    (sBad)
def f_joint_marks : Fn := runFn 1 1 b_joint_marks
end Ml
namespace Ml
open PySem
def b_plain_of : MS := sSeq (sExpr (eCall f_check_joint (aCons (eVar 0) (aNil))))
    (sBad)
def f_plain_of : Fn := runFn 1 11 b_plain_of
end Ml
namespace Ml
open PySem
def b__law_cell : MS := sSeq (sIf (tBool (eBin oLt (eVar 1) (eCall bLen (aCons (eVar 0) (aNil))))) (sRet (eBin oIx (eVar 0) (eVar 1))) (sNext))
    (sRet (eDat (.int 0)))
def f__law_cell : Fn := runFn 2 2 b__law_cell
end Ml
namespace Ml
open PySem
def b__law_mix : MS := sSeq (sSet 2 (eDat (.list [.int 48271, .int 69621, .int 16807, .int 39373, .int 30269, .int 40014, .int 40692, .int 50021, .int 61687, .int 71993, .int 83869, .int 95561, .int 30307])))
    (sSeq (sSet 3 (eBin oMul (eBin oAdd (eBin oMod (eVar 0) (eDat (.int 2147483647))) (eDat (.int 12345))) (eBin oIx (eVar 2) (eBin oMod (eVar 1) (eDat (.int 13))))))
    (sSeq (sSet 3 (eBin oAdd (eBin oAdd (eVar 3) (eBin oMul (eDat (.int 977)) (eVar 1))) (eBin oMul (eDat (.int 7919)) (eBin oFdiv (eVar 1) (eDat (.int 13))))))
    (sSeq (sSet 3 (eBin oMod (eVar 3) (eDat (.int 1000000007))))
    (sRet (eBin oFdiv (eBin oMod (eBin oAdd (eBin oMul (eVar 3) (eVar 3)) (eBin oMul (eDat (.int 48271)) (eVar 1))) (eDat (.int 1000000007))) (eDat (.int 7)))))))
def f__law_mix : Fn := runFn 2 4 b__law_mix
end Ml
namespace Ml
open PySem
def b__law_box : MS := sSeq (sSet 3 (eCall f__law_cell (aCons (eVar 0) (aCons (eVar 1) (aNil)))))
    (sSeq (sIf (tAnd (tBool (eBin oEq (eBin oMod (eVar 3) (eDat (.int 2))) (eDat (.int 0)))) (tBool (eBin oEq (eVar 2) (eDat (.int 0))))) (sRet (eMut (aCons (eBin oFdiv (eCall bAbs (aCons (eVar 3) (aNil))) (eDat (.int 2))) (aNil)))) (sNext))
    (sSeq (sSet 4 (eDat (.int 0)))
    (sSeq (sFor (itRng (aCons (eDat (.int 90)) (aNil))) (gName 5) (sSet 4 (eBin oAdd (eBin oMul (eVar 4) (eDat (.int 142857143))) (eCall f__law_mix (aCons (eVar 3) (aCons (eBin oAdd (eBin oMul (eDat (.int 90)) (eVar 2)) (eVar 5)) (aNil)))))))
    (sRet (eMut (aCons (eVar 4) (aNil)))))))
def f__law_box : Fn := runFn 3 6 b__law_box
end Ml
namespace Ml
open PySem
def b__law_take : MS := sSeq (sAsg (gTup (gCons (gName 2) (gCons (gName 3) (gNil)))) (eCall bDivmod (aCons (eBin oIx (eVar 0) (eDat (.int 0))) (aCons (eVar 1) (aNil)))))
    (sSeq (sAsg (gSub (eVar 0) (eDat (.int 0))) (eVar 2))
    (sRet (eVar 3)))
def f__law_take : Fn := runFn 2 4 b__law_take
end Ml
namespace Ml
open PySem
def b__law_joint : MS := sSeq (sPar [3, 4] (aCons (eCall f__law_take (aCons (eVar 0) (aCons (eBin oAdd (eVar 1) (eDat (.int 1))) (aNil)))) (aCons (eDctN true) (aNil))))
    (sSeq (sSet 5 (eSl (eBin oIx (eDat (.list [.list [.str "a", .str "b", .str "c", .str "d"], .list [.str "ann", .str "bob", .str "c", .str "dora"]])) (eCall f__law_take (aCons (eVar 0) (aCons (eDat (.int 2)) (aNil))))) (pNone) (pSome (eVar 3))))
    (sSeq (sFor (itRng (aCons (eBin oMul (eCall f__law_take (aCons (eVar 0) (aCons (eBin oAdd (eVar 2) (eDat (.int 1))) (aNil)))) (eCall bInt (aCons (eBin oGt (eVar 3) (eDat (.int 0))) (aNil)))) (aNil))) (gName 6) (sSeq (sSet 7 (eOrV (eComp 1 (itAny (eVar 5)) (gName 0) (tBool (eBin oEq (eCall f__law_take (aCons (eVar 1) (aCons (eDat (.int 2)) (aNil)))) (eDat (.int 1)))) (eVar 0)) (eLst (aCons (eBin oIx (eVar 5) (eCall f__law_take (aCons (eVar 0) (aCons (eVar 3) (aNil))))) (aNil)))))
    (sAsg (gSub (eVar 4) (eTup (aCons (eCall bTuple (aCons (eVar 7) (aNil))) (aCons (eBin oIx (eVar 5) (eCall f__law_take (aCons (eVar 0) (aCons (eVar 3) (aNil))))) (aNil))))) (eDat (.bool true)))))
    (sRet (eTup (aCons (eCall bTuple (aCons (eVar 5) (aNil))) (aCons (eCall bTuple (aCons (eCall bSorted (aCons (eCall bList (aCons (eVar 4) (aNil))) (aNil))) (aNil))) (aNil)))))))
def r__law_joint : Fn := runFn 3 8 b__law_joint
def f__law_joint : Fn := scopd r__law_joint
end Ml
namespace Ml
open PySem
def b__law_bent (f__law_bent_n : Fn) : MS := sSeq (sSet 2 (eCall f__law_take (aCons (eVar 0) (aCons (eDat (.int 7)) (aNil)))))
    (sSeq (sIf (tOr (tNot (tTruth (eUn (bIsi isTup) (eVar 1)))) (tOr (tBool (eBin oEq (eVar 1) (eDat (.tuple [])))) (tBool (eBin oLt (eVar 2) (eDat (.int 2)))))) (sSeq (sSet 3 (eDat (.list [.none, .str "", .str "a", .str "zz", .str "A", .str "abcdefg", .int 7, .tuple [], .tuple [.str "a", .str "a"], .list [], .bool true, .tuple [.str "a"], .str "in", .str "open"])))
    (sRet (eBin oIx (eVar 3) (eCall f__law_take (aCons (eVar 0) (aCons (eDat (.int 14)) (aNil))))))) (sNext))
    (sSeq (sSet 4 (eCall f__law_take (aCons (eVar 0) (aCons (eCall bLen (aCons (eVar 1) (aNil))) (aNil)))))
    (sSeq (sIf (tBool (eBin oLt (eVar 2) (eDat (.int 4)))) (sRet (eBin oAdd (eBin oAdd (eSl (eVar 1) (pNone) (pSome (eVar 4))) (eTup (aCons (eCall f__law_bent_n (aCons (eVar 0) (aCons (eBin oIx (eVar 1) (eVar 4)) (aNil)))) (aNil)))) (eSl (eVar 1) (pSome (eBin oAdd (eVar 4) (eDat (.int 1)))) (pNone)))) (sNext))
    (sRet (eBin oIx (eLst (aCons (eBin oAdd (eSl (eVar 1) (pNone) (pSome (eVar 4))) (eSl (eVar 1) (pSome (eBin oAdd (eVar 4) (eDat (.int 1)))) (pNone))) (aCons (eCall bList (aCons (eVar 1) (aNil))) (aCons (eBin oAdd (eVar 1) (eSl (eVar 1) (pSome (eVar 4)) (pSome (eBin oAdd (eVar 4) (eDat (.int 1)))))) (aNil))))) (eBin oSub (eVar 2) (eDat (.int 4))))))))
def f__law_bent : Nat → Fn
  | 0 => runFn 2 5 (fun _ _ => .bad)
  | n + 1 => runFn 2 5 (b__law_bent (f__law_bent n))
end Ml
namespace Ml
open PySem
abbrev tabP : Addr := 358
abbrev tabQ : Str := ("_law_words" : Str) ++ ".<locals>." ++ "<lambda>"
def b__law_words : MS := sSeq (sSet 2 (eMut (aCons (eSaid [9] 0 tabP tabQ [0, 1] (eCall f_are_joint_right (aCons (eVar 0) (aCons (eVar 1) (aNil))))) (aNil))))
    (sSeq (sExpr (eMet mAppend (eVar 2) (eSaid [9] 0 tabP tabQ [0] (eCall f_joint_marks (aCons (eVar 0) (aNil))))))
    (sRet (eBin oCat (eVar 2) (eLst (aCons (eSaid [9] 0 tabP tabQ [0] (eCall f_plain_of (aCons (eVar 0) (aNil)))) (aNil))))))
def r__law_words : Fn := runFn 2 3 b__law_words
def f__law_words : Fn := scopd r__law_words
end Ml
namespace Ml
open PySem
def b__law_right : MS := sSeq (sSet 1 (eCall f__law_joint (aCons (eVar 0) (aCons (eDat (.int 4)) (aCons (eDat (.int 4)) (aNil))))))
    (sSeq (sSet 2 (eLst (aCons (eDat .none) (aCons (eDat (.tuple [])) (aCons (eCall bList (aCons (eVar 1) (aNil))) (aCons (eSl (eVar 1) (pNone) (pSome (eDat (.int 1)))) (aCons (eBin oAdd (eVar 1) (eDat (.tuple [.tuple []]))) (aCons (eTup (aCons (eBin oIx (eVar 1) (eDat (.int 0))) (aCons (eDat (.list [])) (aNil)))) (aNil)))))))))
    (sSeq (sFor (itAny (eBin oAdd (eVar 2) (eComp 1 (itRng (aCons (eDat (.int 8)) (aNil))) (gName 0) (tTrue) (eCall (f__law_bent 5) (aCons (eVar 1) (aCons (eVar 2) (aNil))))))) (gName 3) (sIf (tAnd (tNot (tTruth (eCall f_is_joint (aCons (eVar 3) (aNil))))) (tBool (eBin oNe (eCall f__law_words (aCons (eVar 3) (aCons (eDat .none) (aNil)))) (eBin oMul (eDat (.list [.tuple [.str "joint"]])) (eDat (.int 3)))))) (sRet (eDat (.bool false))) (sNext)))
    (sSeq (sSet 2 (eLst (aCons (eDat (.tuple [.tuple [.str "a"], .tuple [.tuple [.tuple [], .str "a"]]])) (aCons (eDat (.tuple [.tuple [.str "a"], .tuple [.tuple [.tuple [.str "a"], .str "b"]]])) (aCons (eTup (aCons (eCall bTuple (aCons (eDat (.str "abcde")) (aNil))) (aCons (eDat (.tuple [])) (aNil)))) (aCons (eDat (.tuple [.tuple [.str "b", .str "a"], .tuple []])) (aNil)))))))
    (sSeq (sFor (itAny (eBin oAdd (eVar 2) (eDat (.list [.int 0, .str "", .dict []])))) (gName 3) (sIf (tOr (tBool (eBin oIsNot (eCall f_is_joint (aCons (eVar 3) (aNil))) (eDat (.bool false)))) (tBool (eBin oNe (eCall f__law_words (aCons (eVar 3) (aCons (eDat (.tuple [])) (aNil)))) (eBin oMul (eDat (.list [.tuple [.str "joint"]])) (eDat (.int 3)))))) (sRet (eDat (.bool false))) (sNext)))
    (sRet (eAndV (eBin oIs (eCall f_is_joint (aCons (eVar 1) (aNil))) (eDat (.bool true))) (eBin oIs (eCall f_are_joint_right (aCons (eVar 1) (aCons (eDat .none) (aNil)))) (eDat (.bool false)))))))))
def f__law_right : Fn := runFn 1 4 b__law_right
end Ml
namespace Ml
open PySem
def b_law : MS := sSeq (sFor (itRng (aCons (eCall bMax (aCons (eDat (.int 1)) (aCons (eCall bMin (aCons (eCall bLen (aCons (eVar 0) (aNil))) (aCons (eDat (.int 4)) (aNil)))) (aNil)))) (aNil))) (gName 1) (sFor (itRng (aCons (eDat (.int 2)) (aNil))) (gName 2) (sIf (tNot (tTruth (eCall f__law_right (aCons (eCall f__law_box (aCons (eVar 0) (aCons (eVar 1) (aCons (eVar 2) (aNil))))) (aNil))))) (sRet (eDat (.bool false))) (sNext))))
    (sRet (eDat (.bool true)))
def f_law : Fn := runFn 1 3 b_law
end Ml
namespace K68
open PySem L2 Ml
def top (i : Nat) : Stmt := PySem.Challenge.pw_everalike_k68_joint_refused.main.body.getD i (.Pass ⟨0, 0, 0, 0⟩)
structure Txt (K : PySem.W.Frag) (mg : Str → Option Value) : Prop where
  n_all : mg "all" = none
  n_len : mg "len" = none
  n_isinstance : mg "isinstance" = none
  n_str : mg "str" = none
  n_zip : mg "zip" = none
  n_tuple : mg "tuple" = none
  n_range : mg "range" = none
  n_abs : mg "abs" = none
  n_divmod : mg "divmod" = none
  n_sorted : mg "sorted" = none
  n_list : mg "list" = none
  n_int : mg "int" = none
  n_max : mg "max" = none
  n_min : mg "min" = none
  i_LONGEST_NAME : ∃ t, mg "LONGEST_NAME" = some (.int 6 t)
  i_MOST_NAMES : ∃ t, mg "MOST_NAMES" = some (.int 12 t)
  i_MOST_JOINT : ∃ t, mg "MOST_JOINT" = some (.int 4 t)
  x_NoJoint : XOk K mg "NoJoint"
section
variable {P : Program} {w : World} {K : PySem.W.Frag} {mg : Str → Option Value} {base : Heap} {XE : VK → XK} {bm : Addr}
abbrev s_is_name : Stmt := top 20
theorem sc_is_name : FnScope ["thing"] ["thing"] (defScope s_is_name) := ⟨rfl, rfl, rfl, by decide +kernel, rfl, by decide +kernel, by decide +kernel⟩
theorem nd_is_name_0 : (["letter", "thing"] : List Str).Nodup := by decide +kernel
theorem h_is_name (D : Df K mg "is_name" ["thing"] s_is_name) (T : Txt K mg) : HasM P w K mg base "is_name" ["thing"] 1 f_is_name :=
  HasM.eq (Df.has (k := 0) D sc_is_name (fun f cdv A outer s H E hr =>
    dss_cons (ds_if (DW.dt (dw_or (dt_not (dt_truth (disi (kit_str _) bt_str T.n_isinstance T.n_str (dv 0)))) (dw_or1 (dt_not (dt_chain o_le o_le (de_int) (dcb c_len T.n_len bt_len (da_cons (dv 0) (da_nil))) (de_gint T.i_LONGEST_NAME)))))) (dss_one (ds_ret (de_bool))) (dss_nil))
    (dss_one (ds_ret (dcb (c_all rfl) T.n_all bt_all (da_cons (de_comp ["letter"] (by rfl) rfl (di_any (dv 0)) (fun _ _ _ _ _ => dg 0 nd_is_name_0) (fun _ _ _ _ _ => dts_nil) (fun _ _ _ _ _ => de_chain o_le o_le (de_str) (dv 0) (de_str))) (da_nil))))))) (by kernel_rfl)
abbrev s_is_rising : Stmt := top 21
theorem sc_is_rising : FnScope ["things"] ["things"] (defScope s_is_rising) := ⟨rfl, rfl, rfl, by decide +kernel, rfl, by decide +kernel, by decide +kernel⟩
theorem nd_is_rising_0 : (["low", "high", "things"] : List Str).Nodup := by decide +kernel
theorem h_is_rising (D : Df K mg "is_rising" ["things"] s_is_rising) (T : Txt K mg) : HasM P w K mg base "is_rising" ["things"] 1 f_is_rising :=
  HasM.eq (Df.has (k := 0) D sc_is_rising (fun f cdv A outer s H E hr =>
    dss_one (ds_ret (dcb (c_all rfl) T.n_all bt_all (da_cons (de_comp ["low", "high"] (by rfl) rfl (di_zip (by rfl) T.n_zip (da_cons (dv 0) (da_cons (de_slice (dv 0) (do_some (de_int)) (do_none)) (da_nil)))) (fun _ _ _ _ _ => dg_tup rfl (dgs_cons (dg 0 nd_is_rising_0) (dgs_cons (dg 1 nd_is_rising_0) (dgs_nil))) (takes_cons (takes_cons (takes_nil)))) (fun _ _ _ _ _ => dts_nil) (fun _ _ _ _ _ => de_cmp (o_lt hr) (dv 0) (dv 1) (by rfl))) (da_nil)))))) (by kernel_rfl)
abbrev s_are_names : Stmt := top 22
theorem sc_are_names : FnScope ["thing"] ["thing"] (defScope s_are_names) := ⟨rfl, rfl, rfl, by decide +kernel, rfl, by decide +kernel, by decide +kernel⟩
theorem nd_are_names_0 : (["part", "thing"] : List Str).Nodup := by decide +kernel
theorem h_are_names (D : Df K mg "are_names" ["thing"] s_are_names) (T : Txt K mg) (H_is_rising : HasM P w K mg base "is_rising" ["things"] 1 f_is_rising) (H_is_name : HasM P w K mg base "is_name" ["thing"] 1 f_is_name) : HasM P w K mg base "are_names" ["thing"] 2 f_are_names :=
  HasM.eq (Df.has (k := 1) D sc_are_names (fun f cdv A outer s H E hr =>
    dss_cons (ds_if (DW.dt (dw_or (dt_not (dt_truth (disi (kit_tuple _) bt_tuple T.n_isinstance T.n_tuple (dv 0)))) (dw_or1 (dt_cmp o_gt (dcb c_len T.n_len bt_len (da_cons (dv 0) (da_nil))) (de_gint T.i_MOST_NAMES) (by rfl))))) (dss_one (ds_ret (de_bool))) (dss_nil))
    (dss_one (ds_ret (de_andV (dcb (c_all rfl) T.n_all bt_all (da_cons (de_comp ["part"] (by rfl) rfl (di_any (dv 0)) (fun _ _ _ _ _ => dg 0 nd_are_names_0) (fun _ _ _ _ _ => dts_nil) (fun _ _ _ _ _ => de_fn H_is_name pass0' (hr.mono (by omega)) (by rfl) (da_cons (dv 0) (da_nil)))) (da_nil))) (de_one (de_fn H_is_rising fly_pass (hr.mono (by omega)) (by rfl) (da_cons (dv 0) (da_nil))))))))) (by kernel_rfl)
abbrev s_is_lot : Stmt := top 23
theorem sc_is_lot : FnScope ["thing", "names"] ["thing", "names"] (defScope s_is_lot) := ⟨rfl, rfl, rfl, by decide +kernel, rfl, by decide +kernel, by decide +kernel⟩
theorem nd_is_lot_0 : (["part", "thing", "names"] : List Str).Nodup := by decide +kernel
theorem h_is_lot (D : Df K mg "is_lot" ["thing", "names"] s_is_lot) (T : Txt K mg) (H_is_rising : HasM P w K mg base "is_rising" ["things"] 1 f_is_rising) : HasM P w K mg base "is_lot" ["thing", "names"] 2 f_is_lot :=
  HasM.eq (Df.has (k := 1) D sc_is_lot (fun f cdv A outer s H E hr =>
    dss_cons (ds_if (dt_not (dt_truth (disi (kit_tuple _) bt_tuple T.n_isinstance T.n_tuple (dv 0)))) (dss_one (ds_ret (de_bool))) (dss_nil))
    (dss_one (ds_ret (de_andV (dcb (c_all rfl) T.n_all bt_all (da_cons (de_comp ["part"] (by rfl) rfl (di_any (dv 0)) (fun _ _ _ _ _ => dg 0 nd_is_lot_0) (fun _ _ _ _ _ => dts_nil) (fun _ _ _ _ _ => de_cmp (o_in hr) (dv 0) (dv 2) (by rfl))) (da_nil))) (de_one (de_fn H_is_rising fly_pass (hr.mono (by omega)) (by rfl) (da_cons (dv 0) (da_nil))))))))) (by kernel_rfl)
abbrev s_is_joint_strike : Stmt := top 28
theorem sc_is_joint_strike : FnScope ["thing", "names", "lot", "name"] ["thing", "names"] (defScope s_is_joint_strike) := ⟨rfl, rfl, rfl, by decide +kernel, rfl, by decide +kernel, by decide +kernel⟩
theorem h_is_joint_strike (D : Df K mg "is_joint_strike" ["thing", "names"] s_is_joint_strike) (T : Txt K mg) (H_is_lot : HasM P w K mg base "is_lot" ["thing", "names"] 2 f_is_lot) : HasM P w K mg base "is_joint_strike" ["thing", "names"] 3 f_is_joint_strike :=
  HasM.eq (Df.has (k := 2) D sc_is_joint_strike (fun f cdv A outer s H E hr =>
    dss_cons (ds_if (DW.dt (dw_or (dt_not (dt_truth (disi (kit_tuple _) bt_tuple T.n_isinstance T.n_tuple (dv 0)))) (dw_or1 (dt_cmp (o_ne hr) (dcb c_len T.n_len bt_len (da_cons (dv 0) (da_nil))) (de_int) (by rfl))))) (dss_one (ds_ret (de_bool))) (dss_nil))
    (dss_cons (ds_asg (dv 0) (dg_tup rfl (dgs_cons (dg 2 sc_is_joint_strike.nd) (dgs_cons (dg 3 sc_is_joint_strike.nd) (dgs_nil))) (takes_cons (takes_cons (takes_nil)))))
    (dss_one (ds_ret (de_andV (de_fn H_is_lot fly_pass (hr.mono (by omega)) (by rfl) (da_cons (dv 2) (da_cons (dv 1) (da_nil)))) (de_andV (de_cmp o_gt (dcb c_len T.n_len bt_len (da_cons (dv 2) (da_nil))) (de_int) (by rfl)) (de_one (de_cmp (o_in hr) (dv 3) (dv 1) (by rfl)))))))))) (by kernel_rfl)
abbrev s_are_joint_strikes : Stmt := top 29
theorem sc_are_joint_strikes : FnScope ["thing", "names"] ["thing", "names"] (defScope s_are_joint_strikes) := ⟨rfl, rfl, rfl, by decide +kernel, rfl, by decide +kernel, by decide +kernel⟩
theorem nd_are_joint_strikes_0 : (["part", "thing", "names"] : List Str).Nodup := by decide +kernel
theorem h_are_joint_strikes (D : Df K mg "are_joint_strikes" ["thing", "names"] s_are_joint_strikes) (T : Txt K mg) (H_is_rising : HasM P w K mg base "is_rising" ["things"] 1 f_is_rising) (H_is_joint_strike : HasM P w K mg base "is_joint_strike" ["thing", "names"] 3 f_is_joint_strike) : HasM P w K mg base "are_joint_strikes" ["thing", "names"] 4 f_are_joint_strikes :=
  HasM.eq (Df.has (k := 3) D sc_are_joint_strikes (fun f cdv A outer s H E hr =>
    dss_cons (ds_if (DW.dt (dw_or (dt_not (dt_truth (disi (kit_tuple _) bt_tuple T.n_isinstance T.n_tuple (dv 0)))) (dw_or1 (dt_cmp o_gt (dcb c_len T.n_len bt_len (da_cons (dv 0) (da_nil))) (de_gint T.i_MOST_JOINT) (by rfl))))) (dss_one (ds_ret (de_bool))) (dss_nil))
    (dss_one (ds_ret (de_andV (dcb (c_all rfl) T.n_all bt_all (da_cons (de_comp ["part"] (by rfl) rfl (di_any (dv 0)) (fun _ _ _ _ _ => dg 0 nd_are_joint_strikes_0) (fun _ _ _ _ _ => dts_nil) (fun _ _ _ _ _ => de_fn H_is_joint_strike pass0' (hr.mono (by omega)) (by rfl) (da_cons (dv 0) (da_cons (dv 2) (da_nil))))) (da_nil))) (de_one (de_fn H_is_rising fly_pass (hr.mono (by omega)) (by rfl) (da_cons (dv 0) (da_nil))))))))) (by kernel_rfl)
abbrev s_is_joint : Stmt := top 30
theorem sc_is_joint : FnScope ["thing", "names", "strikes"] ["thing"] (defScope s_is_joint) := ⟨rfl, rfl, rfl, by decide +kernel, rfl, by decide +kernel, by decide +kernel⟩
theorem h_is_joint (D : Df K mg "is_joint" ["thing"] s_is_joint) (T : Txt K mg) (H_are_joint_strikes : HasM P w K mg base "are_joint_strikes" ["thing", "names"] 4 f_are_joint_strikes) (H_are_names : HasM P w K mg base "are_names" ["thing"] 2 f_are_names) : HasM P w K mg base "is_joint" ["thing"] 5 f_is_joint :=
  HasM.eq (Df.has (k := 4) D sc_is_joint (fun f cdv A outer s H E hr =>
    dss_cons (ds_if (DW.dt (dw_or (dt_not (dt_truth (disi (kit_tuple _) bt_tuple T.n_isinstance T.n_tuple (dv 0)))) (dw_or1 (dt_cmp (o_ne hr) (dcb c_len T.n_len bt_len (da_cons (dv 0) (da_nil))) (de_int) (by rfl))))) (dss_one (ds_ret (de_bool))) (dss_nil))
    (dss_cons (ds_asg (dv 0) (dg_tup rfl (dgs_cons (dg 1 sc_is_joint.nd) (dgs_cons (dg 2 sc_is_joint.nd) (dgs_nil))) (takes_cons (takes_cons (takes_nil)))))
    (dss_one (ds_ret (de_andV (de_fn H_are_names fly_pass (hr.mono (by omega)) (by rfl) (da_cons (dv 1) (da_nil))) (de_andV (de_cmp o_le (dcb c_len T.n_len bt_len (da_cons (dv 1) (da_nil))) (de_gint T.i_MOST_JOINT) (by rfl)) (de_one (de_fn H_are_joint_strikes fly_pass (hr.mono (by omega)) (by rfl) (da_cons (dv 2) (da_cons (dv 1) (da_nil)))))))))))) (by kernel_rfl)
abbrev s_check_joint : Stmt := top 31
theorem sc_check_joint : FnScope ["thing"] ["thing"] (defScope s_check_joint) := ⟨rfl, rfl, rfl, by decide +kernel, rfl, by decide +kernel, by decide +kernel⟩
theorem h_check_joint (D : Df K mg "check_joint" ["thing"] s_check_joint) (T : Txt K mg) (H_is_joint : HasM P w K mg base "is_joint" ["thing"] 5 f_is_joint) : HasM P w K mg base "check_joint" ["thing"] 6 f_check_joint :=
  HasM.eq (Df.has (k := 5) D sc_check_joint (fun f cdv A outer s H E hr =>
    dss_one (ds_if (dt_not (dt_truth (de_fn H_is_joint fly_pass (hr.mono (by omega)) (by rfl) (da_cons (dv 0) (da_nil))))) (dss_one (ds_raise T.x_NoJoint hr (da_cons (de_str) (da_nil)))) (dss_nil)))) (by kernel_rfl)
abbrev s_are_marks : Stmt := top 32
theorem sc_are_marks : FnScope ["thing", "names"] ["thing", "names"] (defScope s_are_marks) := ⟨rfl, rfl, rfl, by decide +kernel, rfl, by decide +kernel, by decide +kernel⟩
theorem h_are_marks (D : Df K mg "are_marks" ["thing", "names"] s_are_marks) (T : Txt K mg) : HasM P w K mg base "are_marks" ["thing", "names"] 1 f_are_marks :=
  HasM.eq (Df.has (k := 0) D sc_are_marks (fun f cdv A outer s H E hr =>
    dss_cons (ds_if (DW.dt (dw_or (dt_not (dt_truth (disi (kit_tuple _) bt_tuple T.n_isinstance T.n_tuple (dv 0)))) (dw_or1 (dt_cmp (o_ne hr) (dcb c_len T.n_len bt_len (da_cons (dv 0) (da_nil))) (dcb c_len T.n_len bt_len (da_cons (dv 1) (da_nil))) (by rfl))))) (dss_one (ds_ret (de_bool))) (dss_nil))
    (dss_bad'))) (by kernel_rfl)
abbrev s_are_right : Stmt := top 34
theorem sc_are_right : FnScope ["joint", "marks", "names", "strikes", "marked"] ["joint", "marks"] (defScope s_are_right) := ⟨rfl, rfl, rfl, by decide +kernel, rfl, by decide +kernel, by decide +kernel⟩
theorem h_are_right (D : Df K mg "are_right" ["joint", "marks"] s_are_right) (T : Txt K mg) : HasM P w K mg base "are_right" ["joint", "marks"] 1 f_are_right :=
  HasM.eq (Df.has (k := 0) D sc_are_right (fun f cdv A outer s H E hr =>
    dss_bad')) (by kernel_rfl)
abbrev s_are_joint_right : Stmt := top 35
theorem sc_are_joint_right : FnScope ["joint", "thing"] ["joint", "thing"] (defScope s_are_joint_right) := ⟨rfl, rfl, rfl, by decide +kernel, rfl, by decide +kernel, by decide +kernel⟩
theorem h_are_joint_right (D : Df K mg "are_joint_right" ["joint", "thing"] s_are_joint_right) (T : Txt K mg) (H_are_right : HasM P w K mg base "are_right" ["joint", "marks"] 1 f_are_right) (H_are_marks : HasM P w K mg base "are_marks" ["thing", "names"] 1 f_are_marks) (H_check_joint : HasM P w K mg base "check_joint" ["thing"] 6 f_check_joint) : HasM P w K mg base "are_joint_right" ["joint", "thing"] 7 f_are_joint_right :=
  HasM.eq (Df.has (k := 6) D sc_are_joint_right (fun f cdv A outer s H E hr =>
    dss_cons (ds_expr (de_fn H_check_joint fly_pass (hr.mono (by omega)) (by rfl) (da_cons (dv 0) (da_nil))))
    (dss_one (ds_ret (de_andV (de_fn H_are_marks fly_pass (hr.mono (by omega)) (by rfl) (da_cons (dv 1) (da_cons (de_ix (ix_data hr) (dv 0) (de_int) (fun _ _ => rfl)) (da_nil)))) (de_one (de_fn H_are_right fly_pass (hr.mono (by omega)) (by rfl) (da_cons (dv 0) (da_cons (dv 1) (da_nil)))))))))) (by kernel_rfl)
abbrev s_joint_marks : Stmt := top 37
theorem sc_joint_marks : FnScope ["joint"] ["joint"] (defScope s_joint_marks) := ⟨rfl, rfl, rfl, by decide +kernel, rfl, by decide +kernel, by decide +kernel⟩
theorem h_joint_marks (D : Df K mg "joint_marks" ["joint"] s_joint_marks) (T : Txt K mg) (H_check_joint : HasM P w K mg base "check_joint" ["thing"] 6 f_check_joint) : HasM P w K mg base "joint_marks" ["joint"] 7 f_joint_marks :=
  HasM.eq (Df.has (k := 6) D sc_joint_marks (fun f cdv A outer s H E hr =>
    dss_cons (ds_expr (de_fn H_check_joint fly_pass (hr.mono (by omega)) (by rfl) (da_cons (dv 0) (da_nil))))
    (dss_bad'))) (by kernel_rfl)
abbrev s_plain_of : Stmt := top 38
theorem sc_plain_of : FnScope ["joint", "names", "strikes", "fresh", "against", "shots", "plain", "shot", "lot", "name", "known"] ["joint"] (defScope s_plain_of) := ⟨rfl, rfl, rfl, by decide +kernel, rfl, by decide +kernel, by decide +kernel⟩
theorem h_plain_of (D : Df K mg "plain_of" ["joint"] s_plain_of) (T : Txt K mg) (H_check_joint : HasM P w K mg base "check_joint" ["thing"] 6 f_check_joint) : HasM P w K mg base "plain_of" ["joint"] 7 f_plain_of :=
  HasM.eq (Df.has (k := 6) D sc_plain_of (fun f cdv A outer s H E hr =>
    dss_cons (ds_expr (de_fn H_check_joint fly_pass (hr.mono (by omega)) (by rfl) (da_cons (dv 0) (da_nil))))
    (dss_bad'))) (by kernel_rfl)
abbrev s__law_cell : Stmt := top 40
theorem sc__law_cell : FnScope ["_law_script", "_law_k"] ["_law_script", "_law_k"] (defScope s__law_cell) := ⟨rfl, rfl, rfl, by decide +kernel, rfl, by decide +kernel, by decide +kernel⟩
theorem h__law_cell (D : Df K mg "_law_cell" ["_law_script", "_law_k"] s__law_cell) (T : Txt K mg) : HasM P w K mg base "_law_cell" ["_law_script", "_law_k"] 1 f__law_cell :=
  HasM.eq (Df.has (k := 0) D sc__law_cell (fun f cdv A outer s H E hr =>
    dss_cons (ds_if (dt_cmp (o_lt hr) (dv 1) (dcb c_len T.n_len bt_len (da_cons (dv 0) (da_nil))) (by rfl)) (dss_one (ds_ret (de_ix (ix_data hr) (dv 0) (dv 1) (fun _ _ => rfl)))) (dss_nil))
    (dss_one (ds_ret (de_int))))) (by kernel_rfl)
abbrev s__law_mix : Stmt := top 41
theorem sc__law_mix : FnScope ["_law_cell_here", "_law_k", "_law_some", "_law_stir"] ["_law_cell_here", "_law_k"] (defScope s__law_mix) := ⟨rfl, rfl, rfl, by decide +kernel, rfl, by decide +kernel, by decide +kernel⟩
theorem h__law_mix (D : Df K mg "_law_mix" ["_law_cell_here", "_law_k"] s__law_mix) (T : Txt K mg) : HasM P w K mg base "_law_mix" ["_law_cell_here", "_law_k"] 1 f__law_mix :=
  HasM.eq (Df.has (k := 0) D sc__law_mix (fun f cdv A outer s H E hr =>
    dss_cons (dset 2 sc__law_mix.nd (de_lit 8 (d := .list [.int 48271, .int 69621, .int 16807, .int 39373, .int 30269, .int 40014, .int 40692, .int 50021, .int 61687, .int 71993, .int 83869, .int 95561, .int 30307]) (Lit.of (by kernel_rfl)) (by decide +kernel)))
    (dss_cons (dset 3 sc__law_mix.nd (de_bin o_mul (de_bin o_add (de_bin o_mod (dv 0) (de_int)) (de_int)) (de_ix (ix_data hr) (dv 2) (de_bin o_mod (dv 1) (de_int)) (fun _ _ => rfl))))
    (dss_cons (dset 3 sc__law_mix.nd (de_bin o_add (de_bin o_add (dv 3) (de_bin o_mul (de_int) (dv 1))) (de_bin o_mul (de_int) (de_bin o_fdiv (dv 1) (de_int)))))
    (dss_cons (dset 3 sc__law_mix.nd (de_bin o_mod (dv 3) (de_int)))
    (dss_one (ds_ret (de_bin o_fdiv (de_bin o_mod (de_bin o_add (de_bin o_mul (dv 3) (dv 3)) (de_bin o_mul (de_int) (dv 1))) (de_int)) (de_int))))))))) (by kernel_rfl)
abbrev s__law_box : Stmt := top 42
theorem sc__law_box : FnScope ["_law_script", "_law_k", "_law_lap", "_law_cell_here", "_law_number", "_law_j"] ["_law_script", "_law_k", "_law_lap"] (defScope s__law_box) := ⟨rfl, rfl, rfl, by decide +kernel, rfl, by decide +kernel, by decide +kernel⟩
theorem h__law_box (D : Df K mg "_law_box" ["_law_script", "_law_k", "_law_lap"] s__law_box) (T : Txt K mg) (H__law_mix : HasM P w K mg base "_law_mix" ["_law_cell_here", "_law_k"] 1 f__law_mix) (H__law_cell : HasM P w K mg base "_law_cell" ["_law_script", "_law_k"] 1 f__law_cell) : HasM P w K mg base "_law_box" ["_law_script", "_law_k", "_law_lap"] 2 f__law_box :=
  HasM.eq (Df.has (k := 1) D sc__law_box (fun f cdv A outer s H E hr =>
    dss_cons (dset 3 sc__law_box.nd (de_fn H__law_cell fly_pass (hr.mono (by omega)) (by rfl) (da_cons (dv 0) (da_cons (dv 1) (da_nil)))))
    (dss_cons (ds_if (DW.dt (dw_and (dt_cmp (o_eq hr) (de_bin o_mod (dv 3) (de_int)) (de_int) (by rfl)) (dw_and1 (dt_cmp (o_eq hr) (dv 2) (de_int) (by rfl))))) (dss_one (ds_ret (de_mut (da_cons (de_bin o_fdiv (dcb c_abs T.n_abs bt_abs (da_cons (dv 3) (da_nil))) (de_int)) (da_nil))))) (dss_nil))
    (dss_cons (dset 4 sc__law_box.nd (de_int))
    (dss_cons (ds_for rfl (di_rng1 (by rfl) T.n_range (da_cons (de_int) (da_nil))) (dg 5 sc__law_box.nd) (dss_one (dset 4 sc__law_box.nd (de_bin o_add (de_bin o_mul (dv 4) (de_int)) (de_fn H__law_mix pass0' (hr.mono (by omega)) (by rfl) (da_cons (dv 3) (da_cons (de_bin o_add (de_bin o_mul (de_int) (dv 2)) (dv 5)) (da_nil))))))))
    (dss_one (ds_ret (de_mut (da_cons (dv 4) (da_nil)))))))))) (by kernel_rfl)
abbrev s__law_take : Stmt := top 43
theorem sc__law_take : FnScope ["_law_box_here", "_law_count", "_law_left", "_law_digit"] ["_law_box_here", "_law_count"] (defScope s__law_take) := ⟨rfl, rfl, rfl, by decide +kernel, rfl, by decide +kernel, by decide +kernel⟩
theorem h__law_take (D : Df K mg "_law_take" ["_law_box_here", "_law_count"] s__law_take) (T : Txt K mg) : HasM P w K mg base "_law_take" ["_law_box_here", "_law_count"] 1 f__law_take :=
  HasM.eq (Df.has (k := 0) D sc__law_take (fun f cdv A outer s H E hr =>
    dss_cons (ds_asg (dcb c_divmod T.n_divmod bt_divmod (da_cons (de_ix (ix_data hr) (dv 0) (de_int) (fun _ _ => rfl)) (da_cons (dv 1) (da_nil)))) (dg_tup rfl (dgs_cons (dg 2 sc__law_take.nd) (dgs_cons (dg 3 sc__law_take.nd) (dgs_nil))) (takes_cons (takes_cons (takes_nil)))))
    (dss_cons (ds_asg (dv 2) (dg_sub hr (dv 0) (de_int) (fun _ => rfl)))
    (dss_one (ds_ret (dv 3)))))) (by kernel_rfl)
abbrev s__law_joint : Stmt := top 44
theorem sc__law_joint : FnScope ["_law_box_here", "_law_most_names", "_law_most_strikes", "_law_count", "_law_seen", "_law_names", "_law_turn", "_law_some"] ["_law_box_here", "_law_most_names", "_law_most_strikes"] (defScope s__law_joint) := ⟨rfl, rfl, rfl, by decide +kernel, rfl, by decide +kernel, by decide +kernel⟩
theorem nd__law_joint_0 : (["_law_name", "_law_box_here", "_law_most_names", "_law_most_strikes", "_law_count", "_law_seen", "_law_names", "_law_turn", "_law_some"] : List Str).Nodup := by decide +kernel
theorem h__law_joint (D : Df K mg "_law_joint" ["_law_box_here", "_law_most_names", "_law_most_strikes"] s__law_joint) (T : Txt K mg) (H__law_take : HasM P w K mg base "_law_take" ["_law_box_here", "_law_count"] 1 f__law_take) : HasM P w K mg base "_law_joint" ["_law_box_here", "_law_most_names", "_law_most_strikes"] 2 f__law_joint :=
  HasM.eq ((Df.has (k := 1) D sc__law_joint (fun f cdv A outer s H E hr =>
    dss_cons (dpar2 3 4 sc__law_joint.nd (da_cons (de_fn H__law_take fly_pass (hr.mono (by omega)) (by rfl) (da_cons (dv 0) (da_cons (de_bin o_add (dv 1) (de_int)) (da_nil)))) (da_cons (de_dctT) (da_nil))))
    (dss_cons (dset 5 sc__law_joint.nd (de_slice (de_ix (ix_data hr) (de_lit 8 (d := .list [.list [.str "a", .str "b", .str "c", .str "d"], .list [.str "ann", .str "bob", .str "c", .str "dora"]]) (Lit.of (by kernel_rfl)) (by decide +kernel)) (de_fn H__law_take fly_pass (hr.mono (by omega)) (by rfl) (da_cons (dv 0) (da_cons (de_int) (da_nil)))) (fun _ _ => rfl)) (do_none) (do_some (dv 3))))
    (dss_cons (ds_for rfl (di_rng1 (by rfl) T.n_range (da_cons (de_bin o_mul (de_fn H__law_take pass0' (hr.mono (by omega)) (by rfl) (da_cons (dv 0) (da_cons (de_bin o_add (dv 2) (de_int)) (da_nil)))) (dct c_int T.n_int bt_int (da_cons (de_cmp o_gt (dv 3) (de_int) (by rfl)) (da_nil)))) (da_nil))) (dg 6 sc__law_joint.nd) (dss_cons (dset 7 sc__law_joint.nd (de_orV (de_comp ["_law_name"] (by rfl) rfl (di_any (dv 5)) (fun _ _ _ _ _ => dg 0 nd__law_joint_0) (fun _ _ _ _ _ => dts_one (dt_cmp (o_eq hr) (de_fn H__law_take pass0' (hr.mono (by omega)) (by rfl) (da_cons (dv 1) (da_cons (de_int) (da_nil)))) (de_int) (by rfl))) (fun _ _ _ _ _ => dv 0)) (de_one (de_lst (da_cons (de_ix (ix_data hr) (dv 5) (de_fn H__law_take pass0' (hr.mono (by omega)) (by rfl) (da_cons (dv 0) (da_cons (dv 3) (da_nil)))) (fun _ _ => rfl)) (da_nil))))))
    (dss_one (ds_asg (de_bool) (dg_sub hr (dv 4) (de_tup (da_cons (dct (c_tuple rfl) T.n_tuple bt_tuple (da_cons (dv 7) (da_nil))) (da_cons (de_ix (ix_data hr) (dv 5) (de_fn H__law_take pass0' (hr.mono (by omega)) (by rfl) (da_cons (dv 0) (da_cons (dv 3) (da_nil)))) (fun _ _ => rfl)) (da_nil)))) (fun _ => rfl))))))
    (dss_one (ds_ret (de_tup (da_cons (dct (c_tuple rfl) T.n_tuple bt_tuple (da_cons (dv 5) (da_nil))) (da_cons (dct (c_tuple rfl) T.n_tuple bt_tuple (da_cons (dcb (c_sorted hr) T.n_sorted bt_sorted (da_cons (dct (c_list rfl) T.n_list bt_list (da_cons (dv 4) (da_nil))) (da_nil))) (da_nil))) (da_nil)))))))))).scopd) (by kernel_rfl)
abbrev s__law_bent : Stmt := top 47
theorem sc__law_bent : FnScope ["_law_box_here", "_law_thing", "_law_way", "_law_odds", "_law_at"] ["_law_box_here", "_law_thing"] (defScope s__law_bent) := ⟨rfl, rfl, rfl, by decide +kernel, rfl, by decide +kernel, by decide +kernel⟩
theorem h__law_bent (D : Df K mg "_law_bent" ["_law_box_here", "_law_thing"] s__law_bent) (T : Txt K mg) (H__law_take : HasM P w K mg base "_law_take" ["_law_box_here", "_law_count"] 1 f__law_take) : ∀ n : Nat, HasM P w K mg base "_law_bent" ["_law_box_here", "_law_thing"] (2 + n) (f__law_bent n)
  | 0 => D.has sc__law_bent (fun _ _ _ _ _ _ _ _ => dss_bad)
  | n + 1 => by
    have ih := h__law_bent D T H__law_take n
    exact HasM.eq (Df.has (k := 2 + n) D sc__law_bent (fun f cdv A outer s H E hr =>
    dss_cons (dset 2 sc__law_bent.nd (de_fn H__law_take fly_pass (hr.mono (by omega)) (by rfl) (da_cons (dv 0) (da_cons (de_int) (da_nil)))))
    (dss_cons (ds_if (DW.dt (dw_or (dt_not (dt_truth (disi (kit_tuple _) bt_tuple T.n_isinstance T.n_tuple (dv 1)))) (dw_or (dt_cmp (o_eq hr) (dv 1) (de_lit 8 (d := .tuple []) (Lit.of (by kernel_rfl)) (by decide +kernel)) (by rfl)) (dw_or1 (dt_cmp (o_lt hr) (dv 2) (de_int) (by rfl)))))) (dss_cons (dset 3 sc__law_bent.nd (de_lit 8 (d := .list [.none, .str "", .str "a", .str "zz", .str "A", .str "abcdefg", .int 7, .tuple [], .tuple [.str "a", .str "a"], .list [], .bool true, .tuple [.str "a"], .str "in", .str "open"]) (Lit.of (by kernel_rfl)) (by decide +kernel)))
    (dss_one (ds_ret (de_ix (ix_data hr) (dv 3) (de_fn H__law_take fly_pass (hr.mono (by omega)) (by rfl) (da_cons (dv 0) (da_cons (de_int) (da_nil)))) (fun _ _ => rfl))))) (dss_nil))
    (dss_cons (dset 4 sc__law_bent.nd (de_fn H__law_take fly_pass (hr.mono (by omega)) (by rfl) (da_cons (dv 0) (da_cons (dcb c_len T.n_len bt_len (da_cons (dv 1) (da_nil))) (da_nil)))))
    (dss_cons (ds_if (dt_cmp (o_lt hr) (dv 2) (de_int) (by rfl)) (dss_one (ds_ret (de_bin o_add (de_bin o_add (de_slice (dv 1) (do_none) (do_some (dv 4))) (de_tup (da_cons (de_fn ih fly_pass (hr.mono (by omega)) (by rfl) (da_cons (dv 0) (da_cons (de_ix (ix_data hr) (dv 1) (dv 4) (fun _ _ => rfl)) (da_nil)))) (da_nil)))) (de_slice (dv 1) (do_some (de_bin o_add (dv 4) (de_int))) (do_none))))) (dss_nil))
    (dss_one (ds_ret (de_ix (ix_data hr) (de_lst (da_cons (de_bin o_add (de_slice (dv 1) (do_none) (do_some (dv 4))) (de_slice (dv 1) (do_some (de_bin o_add (dv 4) (de_int))) (do_none))) (da_cons (dct (c_list rfl) T.n_list bt_list (da_cons (dv 1) (da_nil))) (da_cons (de_bin o_add (dv 1) (de_slice (dv 1) (do_some (dv 4)) (do_some (de_bin o_add (dv 4) (de_int))))) (da_nil))))) (de_bin o_sub (dv 2) (de_int)) (fun _ _ => rfl))))))))) (by kernel_rfl)
abbrev s__law_words : Stmt := top 48
theorem sc__law_words : FnScope ["_law_joint_here", "_law_row", "_law_words_here"] ["_law_joint_here", "_law_row"] (defScope s__law_words) := ⟨rfl, rfl, rfl, by decide +kernel, rfl, by decide +kernel, by decide +kernel⟩
theorem h__law_words (D : DfT K mg "_law_words" ["_law_joint_here", "_law_row"] s__law_words tabP) (T : Txt K mg) (H_plain_of : HasM P w K mg base "plain_of" ["joint"] 7 f_plain_of) (H_joint_marks : HasM P w K mg base "joint_marks" ["joint"] 7 f_joint_marks) (H_are_joint_right : HasM P w K mg base "are_joint_right" ["joint", "thing"] 7 f_are_joint_right) (HS : HasFnS P w K mg base "_law_said" ["_law_call"] 9 (spLam P w K mg base 8 (saidM XE))) (HX : Hears mg [9] XE) (BM : BMod base mg bm) : HasM P w K mg base "_law_words" ["_law_joint_here", "_law_row"] 10 f__law_words :=
  HasM.eq ((DfT.has (k := 9) D sc__law_words (fun f c A outer s H E ht hr =>
    dss_cons (dset 2 sc__law_words.nd (de_mut (da_cons (de_said (X := cxOf (Fly P w) P w K mg base ["_law_joint_here", "_law_row", "_law_words_here"] "_law_words" (defScope s__law_words) f (.ref c) A outer s H E) (cl := [9]) (N2 := ["_law_joint_here", "_law_row"]) 0 [0, 1] tabQ rfl HS HX (hr.mono (by omega)) rfl ht BM (fun f c' clos A outer s H E' hr => de_fn H_are_joint_right lam_pass (hr.mono (by omega)) (by rfl) (da_cons (dv 0) (da_cons (dv 1) (da_nil)))) (by rfl)) (da_nil))))
    (dss_cons (ds_expr (de_append (dv 2) (de_said (X := cxOf (Fly P w) P w K mg base ["_law_joint_here", "_law_row", "_law_words_here"] "_law_words" (defScope s__law_words) f (.ref c) A outer s H E) (cl := [9]) (N2 := ["_law_joint_here"]) 0 [0] tabQ rfl HS HX (hr.mono (by omega)) rfl ht BM (fun f c' clos A outer s H E' hr => de_fn H_joint_marks lam_pass (hr.mono (by omega)) (by rfl) (da_cons (dv 0) (da_nil))) (by rfl))))
    (dss_one (ds_ret (de_bin o_cat (dv 2) (de_lst (da_cons (de_said (X := cxOf (Fly P w) P w K mg base ["_law_joint_here", "_law_row", "_law_words_here"] "_law_words" (defScope s__law_words) f (.ref c) A outer s H E) (cl := [9]) (N2 := ["_law_joint_here"]) 0 [0] tabQ rfl HS HX (hr.mono (by omega)) rfl ht BM (fun f c' clos A outer s H E' hr => de_fn H_plain_of lam_pass (hr.mono (by omega)) (by rfl) (da_cons (dv 0) (da_nil))) (by rfl)) (da_nil))))))))).scopd) (by kernel_rfl)
abbrev s__law_right : Stmt := top 49
theorem sc__law_right : FnScope ["_law_box_here", "_law_joint_here", "_law_wrong", "_law_bad"] ["_law_box_here"] (defScope s__law_right) := ⟨rfl, rfl, rfl, by decide +kernel, rfl, by decide +kernel, by decide +kernel⟩
theorem nd__law_right_0 : (["_law_nth", "_law_box_here", "_law_joint_here", "_law_wrong", "_law_bad"] : List Str).Nodup := by decide +kernel
theorem h__law_right (D : Df K mg "_law_right" ["_law_box_here"] s__law_right) (T : Txt K mg) (H_are_joint_right : HasM P w K mg base "are_joint_right" ["joint", "thing"] 7 f_are_joint_right) (H_is_joint : HasM P w K mg base "is_joint" ["thing"] 5 f_is_joint) (H__law_words : HasM P w K mg base "_law_words" ["_law_joint_here", "_law_row"] 10 f__law_words) (H__law_bent : HasM P w K mg base "_law_bent" ["_law_box_here", "_law_thing"] 7 (f__law_bent 5)) (H__law_joint : HasM P w K mg base "_law_joint" ["_law_box_here", "_law_most_names", "_law_most_strikes"] 2 f__law_joint) : HasM P w K mg base "_law_right" ["_law_box_here"] 11 f__law_right :=
  HasM.eq (Df.has (k := 10) D sc__law_right (fun f cdv A outer s H E hr =>
    dss_cons (dset 1 sc__law_right.nd (de_fn H__law_joint fly_pass (hr.mono (by omega)) (by rfl) (da_cons (dv 0) (da_cons (de_int) (da_cons (de_int) (da_nil))))))
    (dss_cons (dset 2 sc__law_right.nd (de_lst (da_cons (de_none) (da_cons (de_lit 8 (d := .tuple []) (Lit.of (by kernel_rfl)) (by decide +kernel)) (da_cons (dct (c_list rfl) T.n_list bt_list (da_cons (dv 1) (da_nil))) (da_cons (de_slice (dv 1) (do_none) (do_some (de_int))) (da_cons (de_bin o_add (dv 1) (de_lit 8 (d := .tuple [.tuple []]) (Lit.of (by kernel_rfl)) (by decide +kernel))) (da_cons (de_tup (da_cons (de_ix (ix_data hr) (dv 1) (de_int) (fun _ _ => rfl)) (da_cons (de_lit 8 (d := .list []) (Lit.of (by kernel_rfl)) (by decide +kernel)) (da_nil)))) (da_nil)))))))))
    (dss_cons (ds_for rfl (di_any (de_bin o_add (dv 2) (de_comp ["_law_nth"] (by rfl) rfl (di_rng1 (by rfl) T.n_range (da_cons (de_int) (da_nil))) (fun _ _ _ _ _ => dg 0 nd__law_right_0) (fun _ _ _ _ _ => dts_nil) (fun _ _ _ _ _ => de_fn H__law_bent pass0' (hr.mono (by omega)) (by rfl) (da_cons (dv 1) (da_cons (dv 2) (da_nil))))))) (dg 3 sc__law_right.nd) (dss_one (ds_if (DW.dt (dw_and (dt_not (dt_truth (de_fn H_is_joint pass0' (hr.mono (by omega)) (by rfl) (da_cons (dv 3) (da_nil))))) (dw_and1 (dt_cmp (o_ne hr) (de_fn H__law_words pass0' (hr.mono (by omega)) (by rfl) (da_cons (dv 3) (da_cons (de_none) (da_nil)))) (de_bin o_mul (de_lit 8 (d := .list [.tuple [.str "joint"]]) (Lit.of (by kernel_rfl)) (by decide +kernel)) (de_int)) (by rfl))))) (dss_one (ds_ret (de_bool))) (dss_nil))))
    (dss_cons (dset 2 sc__law_right.nd (de_lst (da_cons (de_lit 8 (d := .tuple [.tuple [.str "a"], .tuple [.tuple [.tuple [], .str "a"]]]) (Lit.of (by kernel_rfl)) (by decide +kernel)) (da_cons (de_lit 8 (d := .tuple [.tuple [.str "a"], .tuple [.tuple [.tuple [.str "a"], .str "b"]]]) (Lit.of (by kernel_rfl)) (by decide +kernel)) (da_cons (de_tup (da_cons (dct (c_tuple rfl) T.n_tuple bt_tuple (da_cons (de_str) (da_nil))) (da_cons (de_lit 8 (d := .tuple []) (Lit.of (by kernel_rfl)) (by decide +kernel)) (da_nil)))) (da_cons (de_lit 8 (d := .tuple [.tuple [.str "b", .str "a"], .tuple []]) (Lit.of (by kernel_rfl)) (by decide +kernel)) (da_nil)))))))
    (dss_cons (ds_for rfl (di_any (de_bin o_add (dv 2) (de_lit 8 (d := .list [.int 0, .str "", .dict []]) (Lit.of (by kernel_rfl)) (by decide +kernel)))) (dg 3 sc__law_right.nd) (dss_one (ds_if (DW.dt (dw_or (dt_cmp o_isnot (de_fn H_is_joint pass0' (hr.mono (by omega)) (by rfl) (da_cons (dv 3) (da_nil))) (de_bool) (by rfl)) (dw_or1 (dt_cmp (o_ne hr) (de_fn H__law_words pass0' (hr.mono (by omega)) (by rfl) (da_cons (dv 3) (da_cons (de_lit 8 (d := .tuple []) (Lit.of (by kernel_rfl)) (by decide +kernel)) (da_nil)))) (de_bin o_mul (de_lit 8 (d := .list [.tuple [.str "joint"]]) (Lit.of (by kernel_rfl)) (by decide +kernel)) (de_int)) (by rfl))))) (dss_one (ds_ret (de_bool))) (dss_nil))))
    (dss_one (ds_ret (de_andV (de_cmp o_is (de_fn H_is_joint fly_pass (hr.mono (by omega)) (by rfl) (da_cons (dv 1) (da_nil))) (de_bool) (by rfl)) (de_one (de_cmp o_is (de_fn H_are_joint_right fly_pass (hr.mono (by omega)) (by rfl) (da_cons (dv 1) (da_cons (de_none) (da_nil)))) (de_bool) (by rfl)))))))))))) (by kernel_rfl)
abbrev s_law : Stmt := top 50
theorem sc_law : FnScope ["_law_script", "_law_k", "_law_lap"] ["_law_script"] (defScope s_law) := ⟨rfl, rfl, rfl, by decide +kernel, rfl, by decide +kernel, by decide +kernel⟩
theorem ok_law {f : Addr} {fd : FuncData} (Fu : Fun K "law" "law" s_law f fd) (T : Txt K mg) (H__law_right : HasM P w K mg base "_law_right" ["_law_box_here"] 11 f__law_right) (H__law_box : HasM P w K mg base "_law_box" ["_law_script", "_law_k", "_law_lap"] 2 f__law_box) : FnOk P w K mg base (Fly P w) 12 f fd ["_law_script"] (spM ⟨P, w, mg, K⟩ f_law) :=
  okM_eq (fnM (k := 11) Fu sc_law (fun cdv A outer s H E hr =>
    dss_cons (ds_for rfl (di_rng1 (by rfl) T.n_range (da_cons (dcb (c_max rfl) T.n_max bt_max (da_cons (de_int) (da_cons (dcb (c_min rfl) T.n_min bt_min (da_cons (dcb c_len T.n_len bt_len (da_cons (dv 0) (da_nil))) (da_cons (de_int) (da_nil)))) (da_nil)))) (da_nil))) (dg 1 sc_law.nd) (dss_one (ds_for rfl (di_rng1 (by rfl) T.n_range (da_cons (de_int) (da_nil))) (dg 2 sc_law.nd) (dss_one (ds_if (dt_not (dt_truth (de_fn H__law_right pass0' (hr.mono (by omega)) (by rfl) (da_cons (de_fn H__law_box pass0' (hr.mono (by omega)) (by rfl) (da_cons (dv 0) (da_cons (dv 1) (da_cons (dv 2) (da_nil))))) (da_nil))))) (dss_one (ds_ret (de_bool))) (dss_nil))))))
    (dss_one (ds_ret (de_bool))))) (by kernel_rfl)
end
end K68
namespace K68
open PySem L2 Wh
abbrev sWhich : Stmt := top 45
abbrev sSaid : Stmt := top 46
@[irreducible] def stX : Stmt := nth (defBody sWhich) 6
@[irreducible] def eX : Expr := asgVal stX
@[irreducible] def esX : List Expr := lstOf eX
@[irreducible] def pX : Pos := asgPos stX
@[irreducible] def qX : Pos := asgTo stX
@[irreducible] def lX : Pos := lstPos eX
theorem stX_eq : stX = .Assign [.Name "_law_words_here" qX] eX pX := by kernel_rfl
theorem eX_eq : eX = .List esX lX := by kernel_rfl
theorem litX : Lit 4 eX (.list (wordsL.map .str)) := Lit.of (by kernel_rfl)
abbrev x0 : Stmt := nth (defBody sWhich) 0
abbrev x1 : Stmt := nth (defBody sWhich) 1
abbrev x2 : Stmt := nth (defBody sWhich) 2
abbrev x3 : Stmt := nth (defBody sWhich) 3
abbrev x4 : Stmt := nth (defBody sWhich) 4
abbrev x5 : Stmt := nth (defBody sWhich) 5
abbrev x7 : Stmt := nth (defBody sWhich) 7
theorem bodyX : defBody sWhich = [x0, x1, x2, x3, x4, x5, stX, x7] := by kernel_rfl
theorem sc35 : FnScope ["_law_e", "_law_some", "_law_words_here"] ["_law_e"] (defScope sWhich) := ⟨rfl, rfl, rfl, by decide +kernel, rfl, by decide +kernel, by decide +kernel⟩
section
variable {P : Program} {w : World} {K : PySem.W.Frag} {mg : Str → Option Value} {base : Heap} {cs : Nat → Addr}
set_option maxHeartbeats 2000000 in
theorem ok_which {f : Addr} {fd : FuncData} (F : Fun K "_law_which" "_law_which" sWhich f fd) (TB : mg "isinstance" = none) (C : Clss mg cs) : FnOkH P w K mg base 1 f fd ["_law_e"] (spWhich K cs) := by
  refine F.okH sc35 (fun vs H Q E h => ?_) (fun cdv A outer s H vs Q E hr h => ?_)
  · obtain ⟨_, _, _, rfl, _⟩ := h
    rfl
  · obtain ⟨a, D, j, rfl, ha, kd, k⟩ := h
    rw [bodyX]
    refine ⟨_, (pss_cons (st := x0) (ps_set (i := 1) sc35.nd rfl (Or.inl rfl) (pe_lst (pa_cons (pe_isE K rfl TB rfl (Or.inl rfl) C.m0 (by rfl) (by rfl) (by decide) (by rfl) (by rfl) (by rfl)) (pa_cons (pe_isE K rfl TB rfl (Or.inl rfl) C.m1 (by rfl) (by rfl) (by decide) (by rfl) (by rfl) (by rfl)) (pa_cons (pe_isE K rfl TB rfl (Or.inl rfl) C.m2 (by rfl) (by rfl) (by decide) (by rfl) (by rfl) (by rfl)) (pa_cons (pe_isE K rfl TB rfl (Or.inl rfl) C.m3 (by rfl) (by rfl) (by decide) (by rfl) (by rfl) (by rfl)) pa_nil))))))
      (pss_cons (st := x1) (ps_set (i := 1) sc35.nd rfl (Or.inl rfl) (pe_op op_cat (pv 1) (pe_lst (pa_cons (pe_isE K rfl TB rfl (Or.inl rfl) C.m4 (by rfl) (by rfl) (by decide) (by rfl) (by rfl) (by rfl)) (pa_cons (pe_isE K rfl TB rfl (Or.inl rfl) C.m5 (by rfl) (by rfl) (by decide) (by rfl) (by rfl) (by rfl)) (pa_cons (pe_isE K rfl TB rfl (Or.inl rfl) C.m6 (by rfl) (by rfl) (by decide) (by rfl) (by rfl) (by rfl)) (pa_cons (pe_isE K rfl TB rfl (Or.inl rfl) C.m7 (by rfl) (by rfl) (by decide) (by rfl) (by rfl) (by rfl)) pa_nil)))))))
      (pss_cons (st := x2) (ps_set (i := 1) sc35.nd rfl (Or.inl rfl) (pe_op op_cat (pv 1) (pe_lst (pa_cons (pe_isE K rfl TB rfl (Or.inl rfl) C.m8 (by rfl) (by rfl) (by decide) (by rfl) (by rfl) (by rfl)) (pa_cons (pe_isE K rfl TB rfl (Or.inl rfl) C.m9 (by rfl) (by rfl) (by decide) (by rfl) (by rfl) (by rfl)) (pa_cons (pe_isE K rfl TB rfl (Or.inl rfl) C.m10 (by rfl) (by rfl) (by decide) (by rfl) (by rfl) (by rfl)) (pa_cons (pe_isE K rfl TB rfl (Or.inl rfl) C.m11 (by rfl) (by rfl) (by decide) (by rfl) (by rfl) (by rfl)) pa_nil)))))))
      (pss_cons (st := x3) (ps_set (i := 1) sc35.nd rfl (Or.inl rfl) (pe_op op_cat (pv 1) (pe_lst (pa_cons (pe_isE K rfl TB rfl (Or.inl rfl) C.m12 (by rfl) (by rfl) (by decide) (by rfl) (by rfl) (by rfl)) (pa_cons (pe_isE K rfl TB rfl (Or.inl rfl) C.m13 (by rfl) (by rfl) (by decide) (by rfl) (by rfl) (by rfl)) pa_nil)))))
      (pss_cons (st := x4) (ps_if (PW.pt (pw_or (pt_not (pt_val (pe_callB call_isiE (by rfl) TB bt_isinstance (pa_cons (pv 0) (pa_cons (pe_bltn (v := .ty "ValueError") (by rfl) C.ve bt_VE rfl) pa_nil))))) (pw_or1 (pt_cmpR op_ne (pe_bm PySem.F.plainAttrs_list PySem.F.slot_list_count PySem.F.type_list_count mt_countB (pv 1) (pa_cons pe_bl pa_nil)) pe_int (nomark _))))) (pss_one (ps_ret (pe_tup (pa_cons pe_str pa_nil)))) pss_nil)
      (pss_cons (st := x5) (ps_if (pt_val (pe_ix ix_list (pv 1) pe_int (fun _ _ => rfl))) (pss_one (ps_ret pe_never)) pss_nil)
      (pss_cons (st := stX) (t := tAsg (tLit (.list (wordsL.map .str))) (gName 2)) (by rw [stX_eq]; exact ps_lit eX_eq litX sc35.nd rfl (Or.inl rfl) rfl)
      (pss_one (st := x7) (ps_ret (pe_ifExp (pt_val (pe_ix ix_list (pv 1) pe_int (fun _ _ => rfl))) pe_never (pe_tup (pa_cons (pe_ix ix_list (pe_op op_cat (pv 2) (pe_lst (pa_cons pe_str (pa_cons pe_str pa_nil)))) (pe_bm PySem.F.plainAttrs_list PySem.F.slot_list_index PySem.F.type_list_index mt_indexB (pv 1) (pa_cons pe_bl pa_nil)) (fun _ _ => rfl)) pa_nil)))))))))))), ?_⟩
    obtain ⟨mk1, mk2, mk3, mk4, mk5⟩ := marks_ok j kd.lt
    refine ⟨_, rfl, a, D, _, _, _, rfl, rfl, ha, kd.ec, kd.k 0 (by decide), _, rfl, a, D, _, _, _, rfl, rfl, ha, kd.ec, kd.k 1 (by decide), _, rfl, a, D, _, _, _, rfl, rfl, ha, kd.ec, kd.k 2 (by decide), _, rfl, a, D, _, _, _, rfl, rfl, ha, kd.ec, kd.k 3 (by decide), by show 4 ≤ sizeLine; decide, fun p0 hp0 => ?_⟩
    have s0 := Same.new (o := .lst [.bl (decide (0 = j)), .bl (decide (1 = j)), .bl (decide (2 = j)), .bl (decide (3 = j))]) hp0
    have ha0 := s0 _ _ ha
    have hl0 : upd H p0 (.lst [.bl (decide (0 = j)), .bl (decide (1 = j)), .bl (decide (2 = j)), .bl (decide (3 = j))]) p0 = some (.lst [.bl (decide (0 = j)), .bl (decide (1 = j)), .bl (decide (2 = j)), .bl (decide (3 = j))]) := upd_same
    generalize upd H p0 (.lst [.bl (decide (0 = j)), .bl (decide (1 = j)), .bl (decide (2 = j)), .bl (decide (3 = j))]) = H0 at s0 ha0 hl0 ⊢
    refine ⟨_, rfl, _, rfl, a, D, _, _, _, rfl, rfl, ha0, kd.ec, kd.k 4 (by decide), _, rfl, a, D, _, _, _, rfl, rfl, ha0, kd.ec, kd.k 5 (by decide), _, rfl, a, D, _, _, _, rfl, rfl, ha0, kd.ec, kd.k 6 (by decide), _, rfl, a, D, _, _, _, rfl, rfl, ha0, kd.ec, kd.k 7 (by decide), by show 4 ≤ sizeLine; decide, fun r1 hr1 => ⟨p0, r1, _, _, rfl, rfl, (Same.new hr1) _ _ hl0, upd_same, by show 8 ≤ sizeLine; decide, fun p1 hp1 => ?_⟩⟩
    have t1 : Same H (upd (upd H0 r1 (.lst [.bl (decide (4 = j)), .bl (decide (5 = j)), .bl (decide (6 = j)), .bl (decide (7 = j))])) p1 (.lst ([.bl (decide (0 = j)), .bl (decide (1 = j)), .bl (decide (2 = j)), .bl (decide (3 = j))] ++ [.bl (decide (4 = j)), .bl (decide (5 = j)), .bl (decide (6 = j)), .bl (decide (7 = j))]))) := (s0.trans (Same.new hr1)).trans (Same.new hp1)
    have ha1 := t1 _ _ ha
    have hl1 : upd (upd H0 r1 (.lst [.bl (decide (4 = j)), .bl (decide (5 = j)), .bl (decide (6 = j)), .bl (decide (7 = j))])) p1 (.lst ([.bl (decide (0 = j)), .bl (decide (1 = j)), .bl (decide (2 = j)), .bl (decide (3 = j))] ++ [.bl (decide (4 = j)), .bl (decide (5 = j)), .bl (decide (6 = j)), .bl (decide (7 = j))])) p1 = some (.lst ([.bl (decide (0 = j)), .bl (decide (1 = j)), .bl (decide (2 = j)), .bl (decide (3 = j))] ++ [.bl (decide (4 = j)), .bl (decide (5 = j)), .bl (decide (6 = j)), .bl (decide (7 = j))])) := upd_same
    generalize upd (upd H0 r1 (.lst [.bl (decide (4 = j)), .bl (decide (5 = j)), .bl (decide (6 = j)), .bl (decide (7 = j))])) p1 (.lst ([.bl (decide (0 = j)), .bl (decide (1 = j)), .bl (decide (2 = j)), .bl (decide (3 = j))] ++ [.bl (decide (4 = j)), .bl (decide (5 = j)), .bl (decide (6 = j)), .bl (decide (7 = j))])) = H1 at t1 ha1 hl1 ⊢
    refine ⟨_, rfl, _, rfl, a, D, _, _, _, rfl, rfl, ha1, kd.ec, kd.k 8 (by decide), _, rfl, a, D, _, _, _, rfl, rfl, ha1, kd.ec, kd.k 9 (by decide), _, rfl, a, D, _, _, _, rfl, rfl, ha1, kd.ec, kd.k 10 (by decide), _, rfl, a, D, _, _, _, rfl, rfl, ha1, kd.ec, kd.k 11 (by decide), by show 4 ≤ sizeLine; decide, fun r2 hr2 => ⟨p1, r2, _, _, rfl, rfl, (Same.new hr2) _ _ hl1, upd_same, by show 12 ≤ sizeLine; decide, fun p2 hp2 => ?_⟩⟩
    have t2 : Same H (upd (upd H1 r2 (.lst [.bl (decide (8 = j)), .bl (decide (9 = j)), .bl (decide (10 = j)), .bl (decide (11 = j))])) p2 (.lst (([.bl (decide (0 = j)), .bl (decide (1 = j)), .bl (decide (2 = j)), .bl (decide (3 = j))] ++ [.bl (decide (4 = j)), .bl (decide (5 = j)), .bl (decide (6 = j)), .bl (decide (7 = j))]) ++ [.bl (decide (8 = j)), .bl (decide (9 = j)), .bl (decide (10 = j)), .bl (decide (11 = j))]))) := (t1.trans (Same.new hr2)).trans (Same.new hp2)
    have ha2 := t2 _ _ ha
    have hl2 : upd (upd H1 r2 (.lst [.bl (decide (8 = j)), .bl (decide (9 = j)), .bl (decide (10 = j)), .bl (decide (11 = j))])) p2 (.lst (([.bl (decide (0 = j)), .bl (decide (1 = j)), .bl (decide (2 = j)), .bl (decide (3 = j))] ++ [.bl (decide (4 = j)), .bl (decide (5 = j)), .bl (decide (6 = j)), .bl (decide (7 = j))]) ++ [.bl (decide (8 = j)), .bl (decide (9 = j)), .bl (decide (10 = j)), .bl (decide (11 = j))])) p2 = some (.lst (([.bl (decide (0 = j)), .bl (decide (1 = j)), .bl (decide (2 = j)), .bl (decide (3 = j))] ++ [.bl (decide (4 = j)), .bl (decide (5 = j)), .bl (decide (6 = j)), .bl (decide (7 = j))]) ++ [.bl (decide (8 = j)), .bl (decide (9 = j)), .bl (decide (10 = j)), .bl (decide (11 = j))])) := upd_same
    generalize upd (upd H1 r2 (.lst [.bl (decide (8 = j)), .bl (decide (9 = j)), .bl (decide (10 = j)), .bl (decide (11 = j))])) p2 (.lst (([.bl (decide (0 = j)), .bl (decide (1 = j)), .bl (decide (2 = j)), .bl (decide (3 = j))] ++ [.bl (decide (4 = j)), .bl (decide (5 = j)), .bl (decide (6 = j)), .bl (decide (7 = j))]) ++ [.bl (decide (8 = j)), .bl (decide (9 = j)), .bl (decide (10 = j)), .bl (decide (11 = j))])) = H2 at t2 ha2 hl2 ⊢
    refine ⟨_, rfl, _, rfl, a, D, _, _, _, rfl, rfl, ha2, kd.ec, kd.k 12 (by decide), _, rfl, a, D, _, _, _, rfl, rfl, ha2, kd.ec, kd.k 13 (by decide), by show 2 ≤ sizeLine; decide, fun r3 hr3 => ⟨p2, r3, _, _, rfl, rfl, (Same.new hr3) _ _ hl2, upd_same, by show 14 ≤ sizeLine; decide, fun p3 hp3 => ?_⟩⟩
    have t3 : Same H (upd (upd H2 r3 (.lst [.bl (decide (12 = j)), .bl (decide (13 = j))])) p3 (.lst ((([.bl (decide (0 = j)), .bl (decide (1 = j)), .bl (decide (2 = j)), .bl (decide (3 = j))] ++ [.bl (decide (4 = j)), .bl (decide (5 = j)), .bl (decide (6 = j)), .bl (decide (7 = j))]) ++ [.bl (decide (8 = j)), .bl (decide (9 = j)), .bl (decide (10 = j)), .bl (decide (11 = j))]) ++ [.bl (decide (12 = j)), .bl (decide (13 = j))]))) := (t2.trans (Same.new hr3)).trans (Same.new hp3)
    have ha3 := t3 _ _ ha
    have hl3 : upd (upd H2 r3 (.lst [.bl (decide (12 = j)), .bl (decide (13 = j))])) p3 (.lst ((([.bl (decide (0 = j)), .bl (decide (1 = j)), .bl (decide (2 = j)), .bl (decide (3 = j))] ++ [.bl (decide (4 = j)), .bl (decide (5 = j)), .bl (decide (6 = j)), .bl (decide (7 = j))]) ++ [.bl (decide (8 = j)), .bl (decide (9 = j)), .bl (decide (10 = j)), .bl (decide (11 = j))]) ++ [.bl (decide (12 = j)), .bl (decide (13 = j))])) p3 = some (.lst ((([.bl (decide (0 = j)), .bl (decide (1 = j)), .bl (decide (2 = j)), .bl (decide (3 = j))] ++ [.bl (decide (4 = j)), .bl (decide (5 = j)), .bl (decide (6 = j)), .bl (decide (7 = j))]) ++ [.bl (decide (8 = j)), .bl (decide (9 = j)), .bl (decide (10 = j)), .bl (decide (11 = j))]) ++ [.bl (decide (12 = j)), .bl (decide (13 = j))])) := upd_same
    generalize upd (upd H2 r3 (.lst [.bl (decide (12 = j)), .bl (decide (13 = j))])) p3 (.lst ((([.bl (decide (0 = j)), .bl (decide (1 = j)), .bl (decide (2 = j)), .bl (decide (3 = j))] ++ [.bl (decide (4 = j)), .bl (decide (5 = j)), .bl (decide (6 = j)), .bl (decide (7 = j))]) ++ [.bl (decide (8 = j)), .bl (decide (9 = j)), .bl (decide (10 = j)), .bl (decide (11 = j))]) ++ [.bl (decide (12 = j)), .bl (decide (13 = j))])) = H3 at t3 ha3 hl3 ⊢
    have hl : H3 p3 = some (.lst ((marks j).map V.bl)) := hl3
    refine ⟨_, rfl, a, D, _, _, _, rfl, rfl, ha3, kd.ec, kd.v, _, rfl, ?_⟩
    refine iteF ⟨_, rfl, .inl ⟨rfl, _, SqL.of hl⟩, p3, marks j, rfl, rfl, hl, rfl, _, rfl, ?_⟩
    rw [mk1]
    refine iteF ?_
    have at12 : atI ((marks j).map V.bl) (12 : Nat) = some (V.bl false) := atI_nat (by rw [List.getElem?_map, mk4]; rfl)
    have at13 : atI ((marks j).map V.bl) (13 : Nat) = some (V.bl false) := atI_nat (by rw [List.getElem?_map, mk5]; rfl)
    refine ⟨_, rfl, p3, _, 12, .bl false, rfl, rfl, SqL.of hl, at12, false, rfl, iteF ?_⟩
    intro rr H5 N5 s5 n5 h5
    obtain ⟨wa, wvs, rfl, hwa, rws⟩ := h5
    have ew : wvs = wordsL.map V.str := reps_strs rws
    subst ew
    have hwa5 := n5.same _ _ hwa
    have hl5 := s5 _ _ hl
    refine ⟨_, rfl, p3, _, 13, .bl false, rfl, rfl, SqL.of hl5, at13, false, rfl, iteF ?_⟩
    refine ⟨_, rfl, by show 2 ≤ sizeLine; decide, fun p6 hp6 => ⟨wa, p6, _, _, rfl, rfl, (Same.new hp6) _ _ hwa5, upd_same, by show 14 ≤ sizeLine; decide, fun p7 hp7 => ?_⟩⟩
    have s7 := (Same.new (o := .lst [.str "many", .str "text"]) hp6).trans (Same.new (o := .lst (wordsL.map V.str ++ [.str "many", .str "text"])) hp7)
    have hl7 := s7 _ _ hl5
    have ea : atI (wordsL.map V.str ++ [.str "many", .str "text"]) (j : Nat) = some (V.str (wordAt j)) := atI_nat (by
      have : wordsL.map V.str ++ [.str "many", .str "text"] = (wordsL ++ (["many", "text"] : List Str)).map V.str := by rw [List.map_append]; rfl
      rw [this, List.getElem?_map, words_get j kd.lt]
      rfl)
    refine ⟨_, rfl, .inl ⟨rfl, _, SqL.of hl7⟩, p3, marks j, j, rfl, rfl, hl7, mk2, mk3, Nat.lt_trans kd.lt (by decide), p7, _, (j : Nat), .str (wordAt j), rfl, rfl, SqL.of upd_same, ea, by show 1 ≤ sizeLine; decide, fun t ht => ?_⟩
    exact k _ t ((t3.trans s5).trans s7) ht
end
abbrev tryS : Stmt := nth (defBody sSaid) 0
theorem bodyS : defBody sSaid = [.Try (tryBody tryS) [.ExceptHandler (some (.Name "WebError" (tryNPos tryS))) (some "_law_e") (nth (trySuite tryS) 0 :: []) (tryHPos tryS)] [] [] (tryPos tryS)] := by kernel_rfl
theorem sc36 : FnScope ["_law_call", "_law_e"] ["_law_call"] (defScope sSaid) := ⟨rfl, rfl, rfl, by decide +kernel, rfl, by decide +kernel, by decide +kernel⟩
section
variable {P : Program} {w : World} {K : PySem.W.Frag} {mg : Str → Option Value} {base : Heap} {cs : Nat → Addr} {WE : Addr}
theorem ok_said {f : Addr} {fd : FuncData} (kl : Nat) (F : Fun K "_law_said" "_law_said" sSaid f fd) (hWE : mg "WebError" = some (.ref WE)) (FW : HasFnH P w K mg base "_law_which" ["_law_e"] 1 (spWhich K cs)) :
    FnOkS P w K mg base CX0 (kl + 2) f fd ["_law_call"] (spLam P w K mg base (kl + 1) (Ml.saidM (saidE K cs WE))) := by
  obtain ⟨oc, od, kV, doc, pm, an, cdv, ct, osl, rfl, lk, hcd⟩ := F.ex
  rw [bodyS] at lk ⊢
  refine fn_try (k := kl + 1) (N := ["_law_call", "_law_e"]) (i := 1) (DC := WE) lk hcd sc36 hWE rfl rfl rfl (by decide) (fun s vs H Q E h => ?_) (fun A outer s H vs Q E hr h => ?_)
  · obtain ⟨_, _, rfl, _⟩ := h
    rfl
  · obtain ⟨fl, G, rfl, LC, hM⟩ := h
    refine ⟨fun EH => tRet (tLst (tCons (tLam G EH 0 H fl) tNil)), thS K cs, fun EH XE hp => ?_, fun a => ?_, ?_⟩
    · exact pss_one (ps_ret (pe_lst (pa_cons (pe_lamCall (X := (cxOf CX0 P w K mg base ["_law_call", "_law_e"] "_law_said" (defScope sSaid) f cdv A outer s H E).wish XE) (i := 0) rfl rfl (by decide) (by decide) rfl LC hr hp) pa_nil)))
    · exact pss_one (ps_ret (pe_fnH FW ((hr.mono (by omega)).held _) (by rfl) (pa_cons (pv 1) pa_nil)))
    · exact ⟨rfl, rfl, hM⟩
end
end K68
namespace Ml
open PySem
@[simp] theorem u_eVar (i : Nat) (ρ : Fm) (h : Hm) : eVar i ρ h = (match ρ[i]? with
  | some (some d) => .ok d h
  | _ => .bad) := rfl
@[simp] theorem u_eDat (d : PyData) (z0 : Fm) (h : Hm) : eDat d z0 h = (.ok (.dat d) h) := rfl
@[simp] theorem u_eFn (n : Str) (z0 : Fm) (h : Hm) : eFn n z0 h = (.ok (.fn n) h) := rfl
@[simp] theorem u_aNil  (z0 : Fm) (h : Hm) : aNil  z0 h = (.ok [] h) := rfl
@[simp] theorem u_aCons (e : ME) (a : MA) (ρ : Fm) (h : Hm) : aCons e a ρ h = ((e ρ h).bind fun x h1 => (a ρ h1).bind fun xs h2 => .ok (x :: xs) h2) := rfl
@[simp] theorem u_eBin (f : D → D → Hm → R D) (a b : ME) (ρ : Fm) (h : Hm) : eBin f a b ρ h = ((a ρ h).bind fun x h1 => (b ρ h1).bind fun y h2 => f x y h2) := rfl
@[simp] theorem u_eUn (f : D → Hm → R D) (a : ME) (ρ : Fm) (h : Hm) : eUn f a ρ h = ((a ρ h).bind fun x h1 => f x h1) := rfl
@[simp] theorem u_eCall (f : Fn) (a : MA) (ρ : Fm) (h : Hm) : eCall f a ρ h = ((a ρ h).bind fun xs h1 => f xs h1) := rfl
@[simp] theorem u_tBool (e : ME) (ρ : Fm) (h : Hm) : tBool e ρ h = ((e ρ h).bind fun x h1 => match x with
  | .dat (.bool b) => .ok b h1
  | _ => .bad) := rfl
@[simp] theorem u_tNot (t : MT) (ρ : Fm) (h : Hm) : tNot t ρ h = ((t ρ h).bind fun b h1 => .ok (!b) h1) := rfl
@[simp] theorem u_tAnd (t u : MT) (ρ : Fm) (h : Hm) : tAnd t u ρ h = ((t ρ h).bind fun b h1 => if b then u ρ h1 else .ok false h1) := rfl
@[simp] theorem u_tOr (t u : MT) (ρ : Fm) (h : Hm) : tOr t u ρ h = ((t ρ h).bind fun b h1 => if b then .ok true h1 else u ρ h1) := rfl
@[simp] theorem u_eAnd (a b : ME) (ρ : Fm) (h : Hm) : eAnd a b ρ h = ((tBool a ρ h).bind fun c h1 => if c then b ρ h1 else .ok (.bool false) h1) := rfl
@[simp] theorem u_eOr (a b : ME) (ρ : Fm) (h : Hm) : eOr a b ρ h = ((tBool a ρ h).bind fun c h1 => if c then .ok (.bool true) h1 else b ρ h1) := rfl
@[simp] theorem u_eNot (a : ME) (ρ : Fm) (h : Hm) : eNot a ρ h = ((tBool a ρ h).bind fun c h1 => .ok (.bool !c) h1) := rfl
@[simp] theorem u_eIf (t : MT) (a b : ME) (ρ : Fm) (h : Hm) : eIf t a b ρ h = ((t ρ h).bind fun c h1 => if c then a ρ h1 else b ρ h1) := rfl
@[simp] theorem u_eTup (a : MA) : eTup a = (eCall mkTup a : ME) := rfl
@[simp] theorem u_eLst (a : MA) : eLst a = (eCall mkLst a : ME) := rfl
@[simp] theorem u_eMut (a : MA) : eMut a = (eCall mkMut a : ME) := rfl
@[simp] theorem u_sNext  (ρ : Fm) (h : Hm) : sNext  ρ h = (.ok (.nx ρ) h) := rfl
@[simp] theorem u_sSeq (a b : MS) (ρ : Fm) (h : Hm) : sSeq a b ρ h = ((a ρ h).bind fun f h1 => match f with
  | .nx ρ1 => b ρ1 h1
  | f => .ok f h1) := rfl
@[simp] theorem u_sSet (i : Nat) (e : ME) (ρ : Fm) (h : Hm) : sSet i e ρ h = ((e ρ h).bind fun x h1 => .ok (.nx (ρ.set i (some x))) h1) := rfl
@[simp] theorem u_sExpr (e : ME) (ρ : Fm) (h : Hm) : sExpr e ρ h = ((e ρ h).bind fun _ h1 => .ok (.nx ρ) h1) := rfl
@[simp] theorem u_sRet (e : ME) (ρ : Fm) (h : Hm) : sRet e ρ h = ((e ρ h).bind fun x h1 => .ok (.rt x) h1) := rfl
@[simp] theorem u_sIf (t : MT) (a b : MS) (ρ : Fm) (h : Hm) : sIf t a b ρ h = ((t ρ h).bind fun c h1 => if c then a ρ h1 else b ρ h1) := rfl
@[simp] theorem u_sBreak  (ρ : Fm) (h : Hm) : sBreak  ρ h = (.ok (.bk ρ) h) := rfl
@[simp] theorem u_sCont  (ρ : Fm) (h : Hm) : sCont  ρ h = (.ok (.ct ρ) h) := rfl
@[simp] theorem u_gName (i : Nat) (x : D) (ρ : Fm) (h : Hm) : gName i x ρ h = (.ok (ρ.set i (some x)) h) := rfl
@[simp] theorem u_gNil  (xs : List D) (ρ : Fm) (h : Hm) : gNil  xs ρ h = (match xs with
  | [] => .ok ρ h
  | _ => .bad) := rfl
@[simp] theorem u_gCons (g : MG) (gs : MGs) (xs : List D) (ρ : Fm) (h : Hm) : gCons g gs xs ρ h = (match xs with
  | [] => .bad
  | x :: xs => (g x ρ h).bind fun ρ1 h1 => gs xs ρ1 h1) := rfl
@[simp] theorem u_gTup (gs : MGs) (x : D) (ρ : Fm) (h : Hm) : gTup gs x ρ h = (match x with
  | .dat (.tuple ds) => gs (ds.map D.dat) ρ h
  | _ => .bad) := rfl
@[simp] theorem u_sAsg (g : MG) (e : ME) (ρ : Fm) (h : Hm) : sAsg g e ρ h = ((e ρ h).bind fun x h1 => (g x ρ h1).bind fun ρ1 h2 => .ok (.nx ρ1) h2) := rfl
@[simp] theorem u_sPar (is : List Nat) (a : MA) (ρ : Fm) (h : Hm) : sPar is a ρ h = ((a ρ h).bind fun xs h1 => match setAll is xs ρ with
  | some ρ1 => .ok (.nx ρ1) h1
  | Option.none => .bad) := rfl
@[simp] theorem u_itTup (e : ME) (ρ : Fm) (h : Hm) : itTup e ρ h = ((e ρ h).bind fun x h1 => match x with
  | .dat (.tuple ds) => .ok (ds.map D.dat) h1
  | _ => .bad) := rfl
@[simp] theorem u_itLst (e : ME) (ρ : Fm) (h : Hm) : itLst e ρ h = ((e ρ h).bind fun x h1 => match x with
  | .dat (.list ds) => .ok (ds.map D.dat) h1
  | _ => .bad) := rfl
@[simp] theorem u_itStr (e : ME) (ρ : Fm) (h : Hm) : itStr e ρ h = ((e ρ h).bind fun x h1 => match x with
  | .dat (.str s) => .ok (signs s) h1
  | _ => .bad) := rfl
@[simp] theorem u_itAny (e : ME) (ρ : Fm) (h : Hm) : itAny e ρ h = (match e ρ h with
  | .ok (.dat (.tuple ds)) h1 => .ok (ds.map D.dat) h1
  | .ok (.dat (.list ds)) h1 => .ok (ds.map D.dat) h1
  | .ok (.dat (.str s)) h1 => .ok (signs s) h1
  | .ok (.ktup ds) h1 => .ok (ds.map D.dat) h1
  | .exc x h1 => .exc x h1
  | _ => .bad) := rfl
@[simp] theorem u_itRng (a : MA) (ρ : Fm) (h : Hm) : itRng a ρ h = ((a ρ h).bind fun xs h1 => match xs with
  | [.dat (.int j)] => if -(2 ^ 62) ≤ j ∧ j < 2 ^ 62 then .ok (nums 0 j.toNat) h1 else .bad
  | _ => .bad) := rfl
@[simp] theorem u_itRng2 (a : MA) (ρ : Fm) (h : Hm) : itRng2 a ρ h = ((a ρ h).bind fun xs h1 => match xs with
  | [.dat (.int i), .dat (.int j)] => if -(2 ^ 62) ≤ i ∧ i < 2 ^ 62 ∧ -(2 ^ 62) ≤ j ∧ j < 2 ^ 62 then .ok (nums i (j - i).toNat) h1 else .bad
  | _ => .bad) := rfl
@[simp] theorem u_itZip (a : MA) (ρ : Fm) (h : Hm) : itZip a ρ h = ((a ρ h).bind fun xs h1 => match xs with
  | [.dat (.tuple ds), .dat (.tuple es)] => .ok (zipD ds es) h1
  | _ => .bad) := rfl
@[simp] theorem u_sFor (it : MA) (g : MG) (b : MS) (ρ : Fm) (h : Hm) : sFor it g b ρ h = ((it ρ h).noX.bind fun xs h1 => forGo g b xs ρ h1) := rfl
@[simp] theorem u_tTrue  (z0 : Fm) (h : Hm) : tTrue  z0 h = (.ok true h) := rfl
@[simp] theorem u_runFn (p n : Nat) (b : MS) (xs : List D) (h : Hm) : runFn p n b xs h = (if xs.length = p then (b (xs.map some ++ List.replicate (n - p) none) h).bind endFn else .bad) := rfl
@[simp] theorem u_truth (x : D) (h : Hm) : truth x h = (match x with
  | .dat .none => some false
  | .dat (.bool b) => some b
  | .dat (.int i) => some (i != 0)
  | .dat (.str s) => if szOk s.length then some ((s.length : Int) != 0) else Option.none
  | .dat (.tuple ds) => some !ds.isEmpty
  | .dat (.list ds) => some !ds.isEmpty
  | .ref i => match h[i]? with
    | some (.lst xs) => some !xs.isEmpty
    | _ => Option.none
  | _ => Option.none : Option Bool) := rfl
@[simp] theorem u_tTruth (e : ME) (ρ : Fm) (h : Hm) : tTruth e ρ h = ((e ρ h).bind fun x h1 => match truth x h1 with
  | some b => .ok b h1
  | Option.none => .bad) := rfl
@[simp] theorem u_eOrV (a b : ME) (ρ : Fm) (h : Hm) : eOrV a b ρ h = ((a ρ h).bind fun x h1 => match truth x h1 with
  | some c => if c then .ok x h1 else b ρ h1
  | none => .bad) := rfl
@[simp] theorem u_eAndV (a b : ME) (ρ : Fm) (h : Hm) : eAndV a b ρ h = ((a ρ h).bind fun x h1 => match truth x h1 with
  | some c => if c then b ρ h1 else .ok x h1
  | none => .bad) := rfl
@[simp] theorem u_eChain (f g : D → D → Hm → R D) (a b c : ME) (ρ : Fm) (h : Hm) : eChain f g a b c ρ h = ((a ρ h).bind fun x h1 => (b ρ h1).bind fun y h2 => (f x y h2).bind fun z h3 => match z with
  | .dat (.bool k) => if k then (c ρ h3).bind fun w h4 => g y w h4 else .ok (.bool false) h3
  | _ => .bad) := rfl
@[simp] theorem u_eSl (e : ME) (lo hi : MO') (ρ : Fm) (h : Hm) : eSl e lo hi ρ h = ((e ρ h).bind fun x h1 => (lo ρ h1).bind fun l h2 => (hi ρ h2).bind fun u h3 => slD x l u h3) := rfl
@[simp] theorem u_pNone  (z0 : Fm) (h : Hm) : pNone  z0 h = (.ok Option.none h) := rfl
@[simp] theorem u_pSome (e : ME) (ρ : Fm) (h : Hm) : pSome e ρ h = ((e ρ h).bind fun x h1 => match x with
  | .dat (.int i) => .ok (some i) h1
  | _ => .bad) := rfl
@[simp] theorem u_slD (x : D) (lo hi : Option Int) (h : Hm) : slD x lo hi h = (match x with
  | .dat (.tuple ds) => .ok (.dat (.tuple (cut ds lo hi))) h
  | .dat (.list ds) => .ok (.dat (.list (cut ds lo hi))) h
  | _ => .bad : R D) := rfl
@[simp] theorem u_bIsi (f : PyData → Bool) (x : D) (h : Hm) : bIsi f x h = (match x with
  | .dat d => .ok (.bool (f d)) h
  | _ => .bad) := rfl
@[simp] theorem u_oSub (x y : D) (h : Hm) : oSub x y h = (match x, y with
  | .dat (.int i), .dat (.int j) => .ok (.int (i - j)) h
  | _, _ => .bad : R D) := rfl
@[simp] theorem u_oGt (x y : D) (h : Hm) : oGt x y h = (match x, y with
  | .dat (.int i), .dat (.int j) => .ok (.bool (decide (j < i))) h
  | _, _ => .bad : R D) := rfl
@[simp] theorem u_oGe (x y : D) (h : Hm) : oGe x y h = (match x, y with
  | .dat (.int i), .dat (.int j) => .ok (.bool (decide (j ≤ i))) h
  | _, _ => .bad : R D) := rfl
@[simp] theorem u_oNeg (x : D) (h : Hm) : oNeg x h = (match x with
  | .dat (.int i) => .ok (.int (-i)) h
  | _ => .bad : R D) := rfl
@[simp] theorem u_setAll0 (ρ : Fm) : setAll [] [] ρ = some ρ := rfl
@[simp] theorem u_setAll1 (i : Nat) (is : List Nat) (x : D) (xs : List D) (ρ : Fm) : setAll (i :: is) (x :: xs) ρ = setAll is xs (ρ.set i (some x)) := rfl
@[simp] theorem u_setAll2 (i : Nat) (is : List Nat) (ρ : Fm) : setAll (i :: is) [] ρ = none := rfl
@[simp] theorem u_setAll3 (x : D) (xs : List D) (ρ : Fm) : setAll [] (x :: xs) ρ = none := rfl
@[simp] theorem u_endRt (d : D) (h : Hm) : endFn (.rt d) h = .ok d h := rfl
@[simp] theorem u_endNx (ρ : Fm) (h : Hm) : endFn (.nx ρ) h = .ok D.none h := rfl
@[simp] theorem u_endBk (ρ : Fm) (h : Hm) : endFn (.bk ρ) h = .bad := rfl
@[simp] theorem u_endCt (ρ : Fm) (h : Hm) : endFn (.ct ρ) h = .bad := rfl
@[simp] theorem u_isTup_none  : isTup .none = false := rfl
@[simp] theorem u_isTup_bool (b : Bool) : isTup (.bool b) = false := rfl
@[simp] theorem u_isTup_int (i : Int) : isTup (.int i) = false := rfl
@[simp] theorem u_isTup_str (s : Str) : isTup (.str s) = false := rfl
@[simp] theorem u_isTup_tuple (xs : List PyData) : isTup (.tuple xs) = true := rfl
@[simp] theorem u_isTup_list (xs : List PyData) : isTup (.list xs) = false := rfl
@[simp] theorem u_isTup_dict (xs : List (PyData × PyData)) : isTup (.dict xs) = false := rfl
@[simp] theorem u_isStr_none  : isStr .none = false := rfl
@[simp] theorem u_isStr_bool (b : Bool) : isStr (.bool b) = false := rfl
@[simp] theorem u_isStr_int (i : Int) : isStr (.int i) = false := rfl
@[simp] theorem u_isStr_str (s : Str) : isStr (.str s) = true := rfl
@[simp] theorem u_isStr_tuple (xs : List PyData) : isStr (.tuple xs) = false := rfl
@[simp] theorem u_isStr_list (xs : List PyData) : isStr (.list xs) = false := rfl
@[simp] theorem u_isStr_dict (xs : List (PyData × PyData)) : isStr (.dict xs) = false := rfl
@[simp] theorem u_isInt_none  : isInt .none = false := rfl
@[simp] theorem u_isInt_bool (b : Bool) : isInt (.bool b) = true := rfl
@[simp] theorem u_isInt_int (i : Int) : isInt (.int i) = true := rfl
@[simp] theorem u_isInt_str (s : Str) : isInt (.str s) = false := rfl
@[simp] theorem u_isInt_tuple (xs : List PyData) : isInt (.tuple xs) = false := rfl
@[simp] theorem u_isInt_list (xs : List PyData) : isInt (.list xs) = false := rfl
@[simp] theorem u_isInt_dict (xs : List (PyData × PyData)) : isInt (.dict xs) = false := rfl
@[simp] theorem u_isBoo_none  : isBoo .none = false := rfl
@[simp] theorem u_isBoo_bool (b : Bool) : isBoo (.bool b) = true := rfl
@[simp] theorem u_isBoo_int (i : Int) : isBoo (.int i) = false := rfl
@[simp] theorem u_isBoo_str (s : Str) : isBoo (.str s) = false := rfl
@[simp] theorem u_isBoo_tuple (xs : List PyData) : isBoo (.tuple xs) = false := rfl
@[simp] theorem u_isBoo_list (xs : List PyData) : isBoo (.list xs) = false := rfl
@[simp] theorem u_isBoo_dict (xs : List (PyData × PyData)) : isBoo (.dict xs) = false := rfl
@[simp] theorem rep0 {α : Type} (a : α) : List.replicate 0 a = [] := rfl
@[simp] theorem rep1 {α : Type} (a : α) : List.replicate 1 a = [a] := rfl
@[simp] theorem rep2 {α : Type} (a : α) : List.replicate 2 a = [a, a] := rfl
@[simp] theorem rep3 {α : Type} (a : α) : List.replicate 3 a = [a, a, a] := rfl
@[simp] theorem rep4 {α : Type} (a : α) : List.replicate 4 a = [a, a, a, a] := rfl
@[simp] theorem rep5 {α : Type} (a : α) : List.replicate 5 a = [a, a, a, a, a] := rfl
@[simp] theorem rep6 {α : Type} (a : α) : List.replicate 6 a = [a, a, a, a, a, a] := rfl
@[simp] theorem rep7 {α : Type} (a : α) : List.replicate 7 a = [a, a, a, a, a, a, a] := rfl
@[simp] theorem rep8 {α : Type} (a : α) : List.replicate 8 a = [a, a, a, a, a, a, a, a] := rfl
@[simp] theorem rep9 {α : Type} (a : α) : List.replicate 9 a = [a, a, a, a, a, a, a, a, a] := rfl
theorem sz {n : Nat} (h : n ≤ 16777216) : szOk n = true := decide_eq_true h
@[simp] theorem mkTup_dat (ds : List PyData) (h : Hm) (hz : ds.length ≤ 16777216) : mkTup (ds.map D.dat) h = .ok (.dat (.tuple ds)) h := by simp [mkTup, datas_map, sz hz]
theorem mkLst_dat (ds : List PyData) (h : Hm) (hz : ds.length ≤ 16777216) : mkLst (ds.map D.dat) h = .ok (.dat (.list ds)) h := by simp [mkLst, datas_map, sz hz]
@[simp] theorem mkTup0 (h : Hm) : mkTup [] h = .ok (.dat (.tuple [])) h := mkTup_dat [] h (by decide)
@[simp] theorem mkTup1 (a : PyData) (h : Hm) : mkTup [.dat a] h = .ok (.dat (.tuple [a])) h := mkTup_dat [a] h (by simp)
@[simp] theorem mkTup2 (a b : PyData) (h : Hm) : mkTup [.dat a, .dat b] h = .ok (.dat (.tuple [a, b])) h := mkTup_dat [a, b] h (by simp)
@[simp] theorem mkTup3 (a b c : PyData) (h : Hm) : mkTup [.dat a, .dat b, .dat c] h = .ok (.dat (.tuple [a, b, c])) h := mkTup_dat [a, b, c] h (by simp)
@[simp] theorem mkLst0 (h : Hm) : mkLst [] h = .ok (.dat (.list [])) h := mkLst_dat [] h (by decide)
@[simp] theorem mkLst1 (a : PyData) (h : Hm) : mkLst [.dat a] h = .ok (.dat (.list [a])) h := mkLst_dat [a] h (by simp)
@[simp] theorem mkLst2 (a b : PyData) (h : Hm) : mkLst [.dat a, .dat b] h = .ok (.dat (.list [a, b])) h := mkLst_dat [a, b] h (by simp)
@[simp] theorem mkLst3 (a b c : PyData) (h : Hm) : mkLst [.dat a, .dat b, .dat c] h = .ok (.dat (.list [a, b, c])) h := mkLst_dat [a, b, c] h (by simp)
theorem compGo_pure {n : Nat} {ρ : Fm} {g : MG} {t : MT} {e : ME} {h : Hm} (c : D → Bool) (f : D → D) : ∀ {xs : List D}, (∀ x ∈ xs, ∃ ρ1, g x (List.replicate n none ++ ρ) h = .ok ρ1 h ∧ t ρ1 h = .ok (c x) h ∧ (c x = true → e ρ1 h = .ok (f x) h)) → compGo n ρ g t e xs h = .ok ((xs.filter c).map f) h
  | [], _ => rfl
  | x :: xs, H => by
    obtain ⟨ρ1, h1, h2, h3⟩ := H x (List.mem_cons_self ..)
    have ih := compGo_pure c f (xs := xs) fun y hy => H y (List.mem_cons_of_mem _ hy)
    unfold compGo
    rw [h1]
    simp only [R.noX_ok, R.bind_ok]
    rw [h2]
    simp only [R.noX_ok, R.bind_ok]
    cases hc : c x with
    | false => simp only [Bool.false_eq_true, if_false, List.filter_cons, hc]; exact ih
    | true =>
      simp only [if_true, List.filter_cons, hc]
      rw [h3 hc]
      simp only [R.noX_ok, R.bind_ok]
      rw [ih]
      rfl
theorem eComp_pure {n : Nat} {it : MA} {g : MG} {t : MT} {e : ME} {ρ : Fm} {h h1 : Hm} {xs : List D} (hit : it ρ h = .ok xs h1) (hz : xs.length ≤ 16777216) (c : D → Bool) (f : D → PyData)
    (H : ∀ x ∈ xs, ∃ ρ1, g x (List.replicate n none ++ ρ) h1 = .ok ρ1 h1 ∧ t ρ1 h1 = .ok (c x) h1 ∧ (c x = true → e ρ1 h1 = .ok (.dat (f x)) h1)) : eComp n it g t e ρ h = .ok (.dat (.list ((xs.filter c).map f))) h1 := by
  unfold eComp eCall aComp
  rw [hit]
  simp only [R.bind_ok, sz hz, if_true]
  rw [compGo_pure c (fun x => .dat (f x)) H]
  simp only [R.bind_ok]
  have e1 : (List.map (fun x => D.dat (f x)) (List.filter c xs)) = ((xs.filter c).map f).map D.dat := by simp
  rw [e1]
  exact mkLst_dat _ _ (by
    rw [List.length_map]
    exact Nat.le_trans (List.length_filter_le _ _) hz)
theorem eComp_all {n : Nat} {it : MA} {g : MG} {e : ME} {ρ : Fm} {h h1 : Hm} {ds : List PyData} (hit : it ρ h = .ok (ds.map D.dat) h1) (hz : ds.length ≤ 16777216) (f : PyData → PyData)
    (H : ∀ x ∈ ds, ∃ ρ1, g (.dat x) (List.replicate n none ++ ρ) h1 = .ok ρ1 h1 ∧ e ρ1 h1 = .ok (.dat (f x)) h1) : eComp n it g tTrue e ρ h = .ok (.dat (.list (ds.map f))) h1 := by
  have := eComp_pure (n := n) (t := tTrue) (g := g) (e := e) hit (by simpa using hz) (fun _ => true) (fun x => match x with | .dat d => f d | _ => .none) (fun x hx => by
    obtain ⟨d, hd, rfl⟩ := List.mem_map.mp hx
    obtain ⟨ρ1, a, b⟩ := H d hd
    exact ⟨ρ1, a, rfl, fun _ => b⟩)
  rw [this, show (fun _ : D => true) = fun _ => true from rfl, List.filter_eq_self.mpr (fun _ _ => rfl), List.map_map]
  rfl
theorem bAll_bools (bs : List Bool) (h : Hm) : bAll [.dat (.list (bs.map .bool))] h = .ok (.bool (bs.all id)) h := by simp [bAll, bools_map]
theorem forGo_inv {g : MG} {b : MS} (I : Nat → Fm → Hm → Prop) : ∀ (xs : List D) (i : Nat) (ρ : Fm) (h : Hm), (∀ (j : Nat) (x : D), xs[j]? = some x → ∀ ρ h, I (i + j) ρ h → ∃ ρ1 h1 ρ2 h2, g x ρ h = .ok ρ1 h1 ∧ (b ρ1 h1 = .ok (.nx ρ2) h2 ∨ b ρ1 h1 = .ok (.ct ρ2) h2) ∧ I (i + j + 1) ρ2 h2) → I i ρ h →
    ∃ ρ' h', forGo g b xs ρ h = .ok (.nx ρ') h' ∧ I (i + xs.length) ρ' h'
  | [], i, ρ, h, _, a => ⟨ρ, h, rfl, by simpa using a⟩
  | x :: xs, i, ρ, h, H, a => by
    obtain ⟨ρ1, h1, ρ2, h2, e1, e2, a2⟩ := H 0 x rfl ρ h (by simpa using a)
    obtain ⟨ρ', h', e3, a3⟩ := forGo_inv I xs (i + 1) ρ2 h2 (fun j y e ρ h a => by
      have := H (j + 1) y (by simpa using e) ρ h (by rw [show i + (j + 1) = i + 1 + j by omega]; exact a)
      rwa [show i + (j + 1) + 1 = i + 1 + j + 1 by omega] at this) (by simpa using a2)
    refine ⟨ρ', h', ?_, by rw [List.length_cons, show i + (xs.length + 1) = i + 1 + xs.length by omega]; exact a3⟩
    unfold forGo
    rw [e1]
    simp only [R.noX_ok, R.bind_ok]
    rcases e2 with e2 | e2 <;> rw [e2] <;> exact e3
theorem compGo_inv {n : Nat} {ρ : Fm} {g : MG} {t : MT} {e : ME} (I : Hm → Prop) (f : D → D → Prop) : ∀ {xs : List D} {h : Hm}, (∀ x ∈ xs, ∀ h, I h → ∃ ρ1 h1 c h2, g x (List.replicate n none ++ ρ) h = .ok ρ1 h1 ∧ t ρ1 h1 = .ok c h2 ∧ ((c = false ∧ I h2) ∨ (c = true ∧ ∃ y h3, e ρ1 h2 = .ok y h3 ∧ f x y ∧ I h3))) → I h →
    ∃ ys zs h', compGo n ρ g t e xs h = .ok ys h' ∧ I h' ∧ zs.Sublist xs ∧ PySem.Paired f zs ys
  | [], h, _, a => ⟨[], [], h, rfl, a, .slnil, .nil⟩
  | x :: xs, h, H, a => by
    obtain ⟨ρ1, h1, c, h2, e1, e2, k⟩ := H x (List.mem_cons_self ..) h a
    unfold compGo
    rw [e1]
    simp only [R.noX_ok, R.bind_ok]
    rw [e2]
    simp only [R.noX_ok, R.bind_ok]
    rcases k with ⟨rfl, a2⟩ | ⟨rfl, y, h3, e3, fy, a3⟩
    · obtain ⟨ys, zs, h', q1, q2, q3, q4⟩ := compGo_inv I f (xs := xs) (fun y hy => H y (List.mem_cons_of_mem _ hy)) a2
      exact ⟨ys, zs, h', by simpa using q1, q2, .cons _ q3, q4⟩
    · obtain ⟨ys, zs, h', q1, q2, q3, q4⟩ := compGo_inv I f (xs := xs) (fun y hy => H y (List.mem_cons_of_mem _ hy)) a3
      refine ⟨y :: ys, x :: zs, h', ?_, q2, .cons_cons _ q3, .cons fy q4⟩
      simp only [if_true]
      rw [e3]
      simp only [R.noX_ok, R.bind_ok]
      rw [q1]
      rfl
end Ml
namespace Ml
open PySem
mutual
def fine : PyData → Bool
  | .none | .bool _ => true
  | .int i => decide (i.natAbs < 10 ^ 30)
  | .str x => PyData.strOk x
  | .tuple ds => fines ds
  | .list ds => fines ds
  | .dict _ => false
def fines : List PyData → Bool
  | [] => true
  | d :: ds => fine d && fines ds
end
mutual
theorem lay_fine : ∀ {d : PyData}, fine d = true → d.canLay0 = true
  | .none, _ => by simp [PyData.canLay0]
  | .bool _, _ => by simp [PyData.canLay0]
  | .int _, h => by simp [PyData.canLay0]
  | .str x, h => by simpa [PyData.canLay0, fine] using h
  | .tuple ds, h => by simp only [fine] at h; simp only [PyData.canLay0]; exact lay_fines h
  | .list ds, h => by simp only [fine] at h; simp only [PyData.canLay0]; exact lay_fines h
  | .dict _, h => by simp [fine] at h
theorem lay_fines : ∀ {ds : List PyData}, fines ds = true → PyData.canLayAll0 ds = true
  | [], _ => by simp [PyData.canLayAll0]
  | d :: ds, h => by
    simp only [fines, Bool.and_eq_true] at h
    simp only [PyData.canLayAll0, Bool.and_eq_true]
    exact ⟨lay_fine h.1, lay_fines h.2⟩
end
theorem fines_append : ∀ (a b : List PyData), fines (a ++ b) = (fines a && fines b)
  | [], b => by simp [fines]
  | d :: a, b => by simp [fines, fines_append a b, Bool.and_assoc]
theorem wAll_append : ∀ (a b : List PyData), PyData.weightAll (a ++ b) = PyData.weightAll a + PyData.weightAll b
  | [], b => by simp [PyData.weightAll]
  | d :: a, b => by simp [PyData.weightAll, wAll_append a b]; omega
theorem dAll_append : ∀ (a b : List PyData), PyData.depthAll (a ++ b) = max (PyData.depthAll a) (PyData.depthAll b)
  | [], b => by simp [PyData.depthAll]
  | d :: a, b => by simp only [List.cons_append, PyData.depthAll, dAll_append a b]; omega
theorem wAll_len : ∀ (a : List PyData), a.length ≤ PyData.weightAll a
  | [] => by simp
  | d :: a => by
    have := wAll_len a
    rw [PyData.weightAll, List.length_cons]
    omega
theorem fines_mem : ∀ {ds : List PyData} {d : PyData}, fines ds = true → d ∈ ds → fine d = true
  | e :: ds, d, h, m => by
    simp only [fines, Bool.and_eq_true] at h
    rcases List.mem_cons.mp m with rfl | m
    · exact h.1
    · exact fines_mem h.2 m
theorem fines_of : ∀ {ds : List PyData}, (∀ d ∈ ds, fine d = true) → fines ds = true
  | [], _ => rfl
  | d :: ds, h => by simp only [fines, Bool.and_eq_true]; exact ⟨h d (List.mem_cons_self ..), fines_of fun e m => h e (List.mem_cons_of_mem _ m)⟩
theorem depth_mem : ∀ {ds : List PyData} {d : PyData}, d ∈ ds → d.depth ≤ PyData.depthAll ds
  | e :: ds, d, m => by
    simp only [PyData.depthAll]
    rcases List.mem_cons.mp m with rfl | m
    · omega
    · have := depth_mem m; omega
theorem depthAll_le : ∀ {ds : List PyData} {m : Nat}, (∀ d ∈ ds, d.depth ≤ m) → PyData.depthAll ds ≤ m
  | [], m, _ => by simp [PyData.depthAll]
  | d :: ds, m, h => by
    simp only [PyData.depthAll]
    have h1 := h d (List.mem_cons_self ..)
    have h2 := depthAll_le (ds := ds) (m := m) fun e q => h e (List.mem_cons_of_mem _ q)
    omega
theorem weight_mem : ∀ {ds : List PyData} {d : PyData}, d ∈ ds → d.weight + 1 ≤ PyData.weightAll ds
  | e :: ds, d, m => by
    simp only [PyData.weightAll]
    rcases List.mem_cons.mp m with rfl | m
    · omega
    · have := weight_mem m; omega
theorem weightAll_le : ∀ {ds : List PyData} {n : Nat}, (∀ d ∈ ds, d.weight ≤ n) → PyData.weightAll ds ≤ ds.length * (n + 1)
  | [], n, _ => by simp [PyData.weightAll]
  | d :: ds, n, h => by
    simp only [PyData.weightAll, List.length_cons, Nat.succ_mul]
    have h1 := h d (List.mem_cons_self ..)
    have h2 := weightAll_le (ds := ds) (n := n) fun e q => h e (List.mem_cons_of_mem _ q)
    omega
structure Ok (n m : Nat) (x : PyData) : Prop where
  f : fine x = true
  d : x.depth ≤ m
  w : x.weight ≤ n
structure Oks (n m : Nat) (ds : List PyData) : Prop where
  f : fines ds = true
  d : PyData.depthAll ds ≤ m
  w : PyData.weightAll ds ≤ n
section
variable {n m n' m' : Nat} {d x : PyData} {ds a b : List PyData}
theorem Oks.tup (o : Oks n m ds) : Ok n (m + 1) (.tuple ds) := ⟨by simpa only [fine] using o.f, by simp only [PyData.depth]; have := o.d; omega, by simp only [PyData.weight]; exact o.w⟩
theorem Oks.lst (o : Oks n m ds) : Ok n (m + 1) (.list ds) := ⟨by simpa only [fine] using o.f, by simp only [PyData.depth]; have := o.d; omega, by simp only [PyData.weight]; exact o.w⟩
theorem Ok.items (o : Ok n m (.tuple ds)) : Oks n (m - 1) ds := ⟨by simpa only [fine] using o.f, by have := o.d; simp only [PyData.depth] at this; omega, by have := o.w; simpa only [PyData.weight] using this⟩
theorem Oks.append {n1 n2 : Nat} (x : Oks n1 m a) (y : Oks n2 m b) : Oks (n1 + n2) m (a ++ b) :=
  ⟨by rw [fines_append, x.f, y.f]; rfl, by rw [dAll_append]; exact Nat.max_le.mpr ⟨x.d, y.d⟩, by rw [wAll_append]; exact Nat.add_le_add x.w y.w⟩
theorem Oks.nil : Oks 0 0 [] := ⟨rfl, Nat.le_refl _, Nat.le_refl _⟩
theorem Oks.one (x : Ok n m d) : Oks (n + 1) m [d] := ⟨by simp [fines, x.f], by simp [PyData.depthAll]; exact x.d, by simp [PyData.weightAll]; exact x.w⟩
theorem Oks.cons (x : Ok n m d) (y : Oks n' m ds) : Oks (n + 1 + n') m (d :: ds) := (Oks.one x).append y
theorem Oks.mono (x : Oks n m a) (h1 : n ≤ n') (h2 : m ≤ m') : Oks n' m' a := ⟨x.f, Nat.le_trans x.d h2, Nat.le_trans x.w h1⟩
theorem Ok.mono (x : Ok n m d) (h1 : n ≤ n') (h2 : m ≤ m') : Ok n' m' d := ⟨x.f, Nat.le_trans x.d h2, Nat.le_trans x.w h1⟩
theorem Oks.mem (o : Oks n m ds) (h : d ∈ ds) : Ok n m d := ⟨fines_mem o.f h, Nat.le_trans (depth_mem h) o.d, by have := weight_mem h; have := o.w; omega⟩
theorem Oks.len (o : Oks n m ds) : ds.length ≤ n := Nat.le_trans (wAll_len ds) o.w
theorem Oks.of (h : ∀ d ∈ ds, Ok n m d) : Oks (ds.length * (n + 1)) m ds := ⟨fines_of fun d q => (h d q).f, depthAll_le fun d q => (h d q).d, weightAll_le fun d q => (h d q).w⟩
theorem Ok.noD (o : Ok n m d) : noDict d = true := by
  have := PyData.hasDict_of_canLay d (lay_fine o.f)
  simp [noDict, this]
theorem Ok.str {s : Str} (o : Ok n m (.str s)) : s.length ≤ n := o.w
theorem Oks.split (o : Oks n m ds) (z : Nat) (hz : z < ds.length) : ∃ x, ds[z]? = some x ∧ Oks (PyData.weightAll (ds.take z)) m (ds.take z) ∧ Ok x.weight m x ∧ Oks (PyData.weightAll (ds.drop (z + 1))) m (ds.drop (z + 1)) ∧ PyData.weightAll (ds.take z) + (x.weight + 1) + PyData.weightAll (ds.drop (z + 1)) ≤ n := by
  have e : ds = ds.take z ++ ([ds[z]] ++ ds.drop (z + 1)) := by
    rw [List.singleton_append, ← List.drop_eq_getElem_cons hz, List.take_append_drop]
  have f := o.f
  have d := o.d
  have w := o.w
  rw [e, fines_append, fines_append, Bool.and_eq_true, Bool.and_eq_true] at f
  rw [e, dAll_append, dAll_append] at d
  rw [e, wAll_append, wAll_append] at w
  have f2 : fine ds[z] = true := by simpa [fines] using f.2.1
  simp only [PyData.depthAll, PyData.weightAll] at d w
  refine ⟨ds[z], by simp [hz], ⟨f.1, by omega, Nat.le_refl _⟩, ⟨f2, by omega, Nat.le_refl _⟩, ⟨f.2.2, by omega, Nat.le_refl _⟩, by omega⟩
end
theorem cut_to (ds : List PyData) (z : Nat) : cut ds none (some (z : Int)) = ds.take z := by
  simp only [cut, sIx, Nat.sub_zero, List.drop_zero]
  rw [if_neg (by omega), Int.toNat_natCast, List.take_eq_take_iff]
  omega
theorem cut_from (ds : List PyData) (z : Nat) : cut ds (some (z : Int)) none = ds.drop z := by
  simp only [cut, sIx]
  rw [if_neg (by omega), Int.toNat_natCast]
  by_cases h : z ≤ ds.length
  · rw [Nat.min_eq_left h, List.take_of_length_le (by rw [List.length_drop]; exact Nat.le_refl _)]
  · rw [Nat.min_eq_right (by omega), List.drop_of_length_le (Nat.le_refl _), List.drop_of_length_le (by omega)]
    simp
theorem cut_one (ds : List PyData) (z : Nat) (x : PyData) (h : ds[z]? = some x) : cut ds (some (z : Int)) (some ((z : Int) + 1)) = [x] := by
  obtain ⟨hz, e⟩ := List.getElem?_eq_some_iff.mp h
  simp only [cut, sIx]
  rw [if_neg (by omega), if_neg (by omega), Int.toNat_natCast, show ((z : Int) + 1).toNat = z + 1 by omega, Nat.min_eq_left (by omega), Nat.min_eq_left (by omega), Nat.add_sub_cancel_left, List.drop_eq_getElem_cons hz]
  simp [e]
theorem cut_tail (ds : List PyData) : cut ds (some 1) none = ds.drop 1 := cut_from ds 1
theorem oEq_tnil {n m : Nat} {xs : List PyData} (o : Oks n m xs) (h : Hm) : oEq (.dat (.tuple xs)) (.dat (.tuple [])) h = .ok (.bool xs.isEmpty) h := by
  have h1 : PyData.hasDictAll xs = false := by have := o.tup.noD; simpa [noDict, PyData.hasDict] using this
  have e : PyData.eqv (.tuple xs) (.tuple []) = xs.isEmpty := by cases xs <;> simp [PyData.eqv, PyData.eqvAll]
  simp [oEq, deD, eqQ, h1, e, noDict, PyData.hasDict, PyData.hasDictAll, PyData.depth, PyData.depthAll]
end Ml
namespace Ml
open PySem
end Ml
namespace Ml
open PySem
end Ml
namespace Ml
open PySem
def az (c : Nat) : Bool := decide (97 ≤ c) && decide (c ≤ 122)
def isName : PyData → Bool
  | .str x => decide (1 ≤ x.length) && decide (x.length ≤ 6) && x.cps.toList.all az
  | _ => false
theorem lt1 (a c : Nat) : decide ([a] < [c]) = decide (a < c) := by
  rw [decide_eq_decide]
  constructor
  · intro h
    cases h with
    | rel h => exact h
    | cons h => cases h
  · intro h
    exact .rel h
theorem cpsA : ("a" : Str).cps.toList = [97] := by decide +kernel
theorem cpsZ : ("z" : Str).cps.toList = [122] := by decide +kernel
theorem ltA (c : Nat) : (!ltS (⟨#[c]⟩ : Str) ("a" : Str)) = decide (97 ≤ c) := by
  unfold ltS
  rw [cpsA, show (⟨#[c]⟩ : Str).cps.toList = [c] from rfl, lt1]
  by_cases h : c < 97
  · rw [decide_eq_true h, decide_eq_false (by omega)]; rfl
  · rw [decide_eq_false h, decide_eq_true (by omega)]; rfl
theorem ltZ (c : Nat) : (!ltS ("z" : Str) (⟨#[c]⟩ : Str)) = decide (c ≤ 122) := by
  unfold ltS
  rw [cpsZ, show (⟨#[c]⟩ : Str).cps.toList = [c] from rfl, lt1]
  by_cases h : 122 < c
  · rw [decide_eq_true h, decide_eq_false (by omega)]; rfl
  · rw [decide_eq_false h, decide_eq_true (by omega)]; rfl
theorem signs_data (x : Str) : signs x = (signsP x).map D.dat := by simp [signs, signsP]
theorem signsP_len (x : Str) : (signsP x).length = x.length := by simp [signsP]; rfl
theorem signsP_all (x : Str) (p : Nat → Bool) (q : PyData → Bool) (h : ∀ c, q (.str ⟨#[c]⟩) = p c) : (signsP x).all q = x.cps.toList.all p := by
  rw [Bool.eq_iff_iff, List.all_eq_true, List.all_eq_true]
  constructor
  · intro H c hc
    obtain ⟨i, hi, e⟩ := List.mem_iff_getElem.mp hc
    have := H (.str ⟨#[c]⟩) (by
      simp only [signsP, List.mem_map, List.mem_range]
      refine ⟨i, by simpa using hi, ?_⟩
      have hi' : i < x.cps.size := by simpa using hi
      simp [Array.getD, hi']
      simpa using e)
    rw [h] at this
    exact this
  · intro H d hd
    simp only [signsP, List.mem_map, List.mem_range] at hd
    obtain ⟨i, hi, rfl⟩ := hd
    rw [h]
    apply H
    have : x.cps.getD i 0 = x.cps[i] := by simp [Array.getD, hi]
    rw [this]
    simp
theorem oLe_int (i j : Int) (h : Hm) : oLe (.int i) (.int j) h = .ok (.bool (decide (i ≤ j))) h := rfl
theorem oLe_str (x y : Str) (h : Hm) : oLe (.str x) (.str y) h = .ok (.bool (!ltS y x)) h := rfl
theorem bLen_str {x : Str} (h : Hm) (hz : x.length ≤ 16777216) : bLen [.str x] h = .ok (.int x.length) h := by simp [bLen, sz hz]
@[simp] theorem bLen_tup (ds : List PyData) (h : Hm) : bLen [.dat (.tuple ds)] h = .ok (.int ds.length) h := rfl
@[simp] theorem bLen_lst (ds : List PyData) (h : Hm) : bLen [.dat (.list ds)] h = .ok (.int ds.length) h := rfl
def allP {α : Type} (ds : List α) (f : α → Bool) : Bool := ds.all f
def anyP {α : Type} (ds : List α) (f : α → Bool) : Bool := ds.any f
theorem allP_iff {α : Type} {ds : List α} {f : α → Bool} : allP ds f = true ↔ ∀ x ∈ ds, f x = true := List.all_eq_true
theorem allP_cons {α : Type} {a : α} {ds : List α} {f : α → Bool} : allP (a :: ds) f = true ↔ f a = true ∧ allP ds f = true := by simp [allP]
@[simp] theorem allP_nil {α : Type} (f : α → Bool) : allP [] f = true := rfl
@[simp] theorem anyP_nil {α : Type} (f : α → Bool) : anyP [] f = false := rfl
theorem bAll_map {α : Type} (ds : List α) (f : α → Bool) (h : Hm) : bAll [.dat (.list (ds.map fun x => .bool (f x)))] h = .ok (.bool (allP ds f)) h := by
  unfold allP
  have e1 : ds.map (fun x => PyData.bool (f x)) = (ds.map f).map .bool := by simp
  rw [e1, bAll_bools]
  simp [List.all_map, Function.comp_def]
theorem is_name_ok {n m : Nat} {d : PyData} (o : Ok n m d) (hn : n ≤ 10000) (h : Hm) : f_is_name [.dat d] h = .ok (.bool (isName d)) h := by
  unfold f_is_name b_is_name
  cases d with
  | str x =>
    have hx : x.length ≤ 16777216 := Nat.le_trans o.str (by omega)
    have key : eComp 1 (itAny (eVar 0)) (gName 0) tTrue (eChain oLe oLe (eDat (.str "a")) (eVar 0) (eDat (.str "z"))) [some (.str x)] h = .ok (.dat (.list ((signsP x).map fun d => .bool (match d with | .str y => !ltS y "a" && !ltS "z" y | _ => false)))) h := by
      refine eComp_all (by simp [signs_data]) (by rw [signsP_len]; exact hx) _ fun y hy => ?_
      simp only [signsP, List.mem_map, List.mem_range] at hy
      obtain ⟨i, hi, rfl⟩ := hy
      generalize (⟨#[x.cps.getD i 0]⟩ : Str) = y
      refine ⟨_, rfl, ?_⟩
      by_cases z : ltS y "a" = true
      · simp [oLe_str, z]
      · simp [oLe_str, z]
    by_cases h1 : 1 ≤ (x.length : Int)
    · by_cases h2 : (x.length : Int) ≤ 6
      · simp [bLen_str h hx, oLe_int, h1, h2, key, bAll_map]
        unfold allP
        rw [signsP_all x az _ (fun c => by simp only [az, ltA, ltZ])]
        simp [isName, show 1 ≤ x.length by omega, show x.length ≤ 6 by omega]
      · simp [bLen_str h hx, oLe_int, h1, h2, isName, show ¬ x.length ≤ 6 by omega]
    · simp [bLen_str h hx, oLe_int, h1, isName, show ¬ 1 ≤ x.length by omega]
  | _ => simp [isName]
def risP (ds : List PyData) : Bool := allP (ds.zip ds.tail) fun p => ltB p.1 p.2
structure Cmp (ds : List PyData) : Prop where
  nd : ∀ d ∈ ds, noDict d = true ∧ d.depth ≤ 40
  lt : ∀ d ∈ ds, ∀ e ∈ ds, ltP d e = some (ltB d e)
theorem oLt_of {d e : PyData} (h1 : noDict d = true) (h2 : noDict e = true) (h3 : d.depth ≤ 40) (h4 : ltP d e = some (ltB d e)) (h : Hm) : oLt (.dat d) (.dat e) h = .ok (.bool (ltB d e)) h := by
  simp [oLt, h1, h2, h4, show min d.depth e.depth ≤ 40 by omega]
theorem oLt_int (i j : Int) (h : Hm) : oLt (.int i) (.int j) h = .ok (.bool (decide (i < j))) h := by
  simp [oLt, noDict, PyData.hasDict, PyData.depth, ltP]
theorem cmp_strs {ds : List PyData} (h : ∀ d ∈ ds, ∃ x, d = .str x) : Cmp ds := ⟨fun d m => by obtain ⟨x, rfl⟩ := h d m; exact ⟨by simp [noDict, PyData.hasDict], by simp [PyData.depth]⟩, fun d m e m' => by
  obtain ⟨x, rfl⟩ := h d m
  obtain ⟨y, rfl⟩ := h e m'
  simp [ltB, ltP]⟩
theorem zipD_eq : ∀ (xs ys : List PyData), zipD xs ys = ((xs.zip ys).map fun p => PyData.tuple [p.1, p.2]).map D.dat
  | [], _ => by simp [zipD]
  | _ :: _, [] => by simp [zipD]
  | x :: xs, y :: ys => by simp [zipD, zipD_eq xs ys]
theorem zip_mem {xs : List PyData} {p : PyData × PyData} (h : p ∈ xs.zip xs.tail) : p.1 ∈ xs ∧ p.2 ∈ xs := by
  obtain ⟨a, b⟩ := p
  have := List.of_mem_zip h
  exact ⟨this.1, List.mem_of_mem_tail this.2⟩
theorem is_rising_ok {ds : List PyData} (c : Cmp ds) (hz : ds.length ≤ 16777216) (h : Hm) : f_is_rising [.dat (.tuple ds)] h = .ok (.bool (risP ds)) h := by
  unfold f_is_rising b_is_rising
  have key : eComp 2 (itZip (aCons (eVar 0) (aCons (eSl (eVar 0) (pSome (eDat (.int 1))) (pNone)) (aNil)))) (gTup (gCons (gName 0) (gCons (gName 1) (gNil)))) (tTrue) (eBin oLt (eVar 0) (eVar 1)) [some (.dat (.tuple ds))] h = .ok (.dat (.list ((ds.zip ds.tail).map fun p => .bool (ltB p.1 p.2)))) h := by
    rw [eComp_all (h1 := h) (ds := (ds.zip ds.tail).map fun p => PyData.tuple [p.1, p.2]) (by simp [cut_tail, zipD_eq]) (by simp; omega) (fun d => .bool (match d with | .tuple [a, b] => ltB a b | _ => false)) fun y hy => ?_]
    · rw [List.map_map]; rfl
    · obtain ⟨p, hp, rfl⟩ := List.mem_map.mp hy
      obtain ⟨m1, m2⟩ := zip_mem hp
      refine ⟨_, rfl, ?_⟩
      simp [oLt_of (c.nd _ m1).1 (c.nd _ m2).1 (c.nd _ m1).2 (c.lt _ m1 _ m2)]
  simp [key, bAll_map, risP]
end Ml
namespace Ml
open PySem
theorem Oks.sub {n m : Nat} {ds es : List PyData} (o : ∀ d ∈ ds, Ok n m d) (h : ∀ e ∈ es, e ∈ ds) : Oks (es.length * (n + 1)) m es := Oks.of fun d hd => o d (h d hd)
end Ml
namespace Ml
open PySem
mutual
def cm : PyData → PyData → Bool
  | .str _, .str _ => true
  | .int _, .int _ => true
  | .tuple xs, .tuple ys => cms xs ys
  | _, _ => false
def cms : List PyData → List PyData → Bool
  | x :: xs, y :: ys => cm x y && cms xs ys
  | _, _ => true
end
mutual
theorem ltP_cm : ∀ {d e : PyData}, cm d e = true → (ltP d e).isSome = true
  | .str _, e, h => by cases e <;> simp_all [cm, ltP]
  | .int _, e, h => by cases e <;> simp_all [cm, ltP]
  | .tuple xs, e, h => by
    cases e with
    | tuple ys => simp only [cm] at h; simp only [ltP]; exact ltPs_cm h
    | _ => simp [cm] at h
  | .none, _, h => by simp [cm] at h
  | .bool _, _, h => by simp [cm] at h
  | .list _, _, h => by simp [cm] at h
  | .dict _, _, h => by simp [cm] at h
theorem ltPs_cm : ∀ {xs ys : List PyData}, cms xs ys = true → (ltPs xs ys).isSome = true
  | [], [], _ => by simp [ltPs]
  | [], _ :: _, _ => by simp [ltPs]
  | _ :: _, [], _ => by simp [ltPs]
  | x :: xs, y :: ys, h => by
    simp only [cms, Bool.and_eq_true] at h
    unfold ltPs
    split
    · exact ltPs_cm h.2
    · exact ltP_cm h.1
end
theorem ltP_eqB {d e : PyData} (h : cm d e = true) : ltP d e = some (ltB d e) := by
  have := ltP_cm h
  unfold ltB
  cases q : ltP d e with
  | none => rw [q] at this; cases this
  | some b => rfl
def strD : PyData → Bool
  | .str _ => true
  | _ => false
theorem strD_get {d : PyData} (h : strD d = true) : ∃ x, d = .str x := by cases d <;> simp_all [strD]
theorem cms_strs : ∀ {xs ys : List PyData}, allP xs strD = true → allP ys strD = true → cms xs ys = true
  | [], _, _, _ => by simp [cms]
  | _ :: _, [], _, _ => by simp [cms]
  | x :: xs, y :: ys, h, k => by
    have h := allP_cons.mp h
    have k := allP_cons.mp k
    obtain ⟨a, rfl⟩ := strD_get h.1
    obtain ⟨b, rfl⟩ := strD_get k.1
    simp [cms, cm, cms_strs h.2 k.2]
theorem Cmp.of {n m : Nat} {ds : List PyData} (o : Oks n m ds) (hm : m ≤ 40) (h : ∀ d ∈ ds, ∀ e ∈ ds, cm d e = true) : Cmp ds := ⟨fun d q => ⟨(o.mem q).noD, by have := (o.mem q).d; omega⟩, fun d q e r => ltP_eqB (h d q e r)⟩
def inN (ns : List PyData) (d : PyData) : Bool := ns.any fun y => PyData.eqv y d
theorem inP_of {n m : Nat} {d : PyData} (o : Ok n m d) : ∀ {ns : List PyData}, allP ns strD = true → inP d ns = some (inN ns d)
  | [], _ => rfl
  | y :: ns, h => by
    have h := allP_cons.mp h
    obtain ⟨x, rfl⟩ := strD_get h.1
    have ih := inP_of o h.2
    have e : eqP (.str x) d = some (PyData.eqv (.str x) d) := by
      have hd : noDict d = true := o.noD
      unfold eqP
      split
      · simp [noDict, PyData.hasDict] at hd
      · simp [noDict, PyData.hasDict] at hd
      · simp [eqQ, noDict, PyData.hasDict, PyData.depth]
        simpa [noDict] using hd
    simp [inP, e, ih, inN]
theorem oIn_of {n m : Nat} {d : PyData} {ns : List PyData} (o : Ok n m d) (h : allP ns strD = true) (hm : Hm) : oIn (.dat d) (.dat (.tuple ns)) hm = .ok (.bool (inN ns d)) hm := by
  simp [oIn, findIn, dctOf, findSeq, deD, inP_of o h]
theorem inN_mem {ns : List PyData} (h : allP ns strD = true) {d : PyData} : inN ns d = true ↔ d ∈ ns := by
  simp only [inN, List.any_eq_true]
  constructor
  · rintro ⟨y, hy, e⟩
    obtain ⟨x, rfl⟩ := strD_get (allP_iff.mp h y hy)
    cases d <;> simp [PyData.eqv] at e
    subst e
    exact hy
  · intro q
    obtain ⟨x, rfl⟩ := strD_get (allP_iff.mp h d q)
    exact ⟨_, q, by simp [PyData.eqv]⟩
theorem isName_str {d : PyData} (h : isName d = true) : strD d = true := by cases d <;> simp_all [isName, strD]
theorem names_strs {ds : List PyData} (h : allP ds isName = true) : allP ds strD = true := allP_iff.mpr fun d m => isName_str (allP_iff.mp h d m)
theorem strs_get {ds : List PyData} (h : allP ds strD = true) : ∀ d ∈ ds, ∃ x, d = .str x := fun d m => strD_get (allP_iff.mp h d m)
def areNames : PyData → Bool
  | .tuple ds => decide (ds.length ≤ 12) && allP ds isName && risP ds
  | _ => false
theorem are_names_ok {n m : Nat} {d : PyData} (o : Ok n m d) (hn : n ≤ 10000) (h : Hm) : f_are_names [.dat d] h = .ok (.bool (areNames d)) h := by
  unfold f_are_names b_are_names
  cases d with
  | tuple ds =>
    have hl := o.items.len
    have key := eComp_all (n := 1) (it := itAny (eVar 0)) (g := gName 0) (e := eCall f_is_name (aCons (eVar 0) (aNil))) (ρ := [some (.dat (.tuple ds))]) (h := h) (h1 := h) (ds := ds) (by simp) (by omega) (fun x => .bool (isName x)) (fun x hx => ⟨_, rfl, by simp [is_name_ok (o.items.mem hx) hn]⟩)
    by_cases h1 : ds.length ≤ 12
    · by_cases h2 : allP ds isName = true
      · have := is_rising_ok (cmp_strs (strs_get (names_strs h2))) (by omega) h
        simp [key, bAll_map, h1, show ¬ (12 : Int) < ds.length by omega, h2, this, areNames]
      · simp [key, bAll_map, h1, show ¬ (12 : Int) < ds.length by omega, h2, areNames]
    · simp [h1, show (12 : Int) < ds.length by omega, areNames]
  | _ => simp [areNames]
def isLot (ns : List PyData) : PyData → Bool
  | .tuple ds => allP ds (inN ns) && risP ds
  | _ => false
theorem is_lot_ok {n m : Nat} {d : PyData} {ns : List PyData} (o : Ok n m d) (hn : n ≤ 10000) (hs : allP ns strD = true) (h : Hm) : f_is_lot [.dat d, .dat (.tuple ns)] h = .ok (.bool (isLot ns d)) h := by
  unfold f_is_lot b_is_lot
  cases d with
  | tuple ds =>
    have hl := o.items.len
    have key := eComp_all (n := 1) (it := itAny (eVar 0)) (g := gName 0) (e := eBin oIn (eVar 0) (eVar 2)) (ρ := [some (.dat (.tuple ds)), some (.dat (.tuple ns))]) (h := h) (h1 := h) (ds := ds) (by simp) (by omega) (fun x => .bool (inN ns x)) (fun x hx => ⟨_, rfl, by simp [oIn_of (o.items.mem hx) hs]⟩)
    by_cases h2 : allP ds (inN ns) = true
    · have := is_rising_ok (cmp_strs (fun d m => strs_get hs d ((inN_mem hs).mp (allP_iff.mp h2 d m)))) (by omega) h
      simp [key, bAll_map, h2, this, isLot]
    · simp [key, bAll_map, h2, isLot]
  | _ => simp [isLot]
end Ml
namespace Ml
open PySem
end Ml
namespace Ml
open PySem
end Ml
namespace Ml
open PySem
end Ml
namespace Ml
open PySem
def lenP : PyData → Nat
  | .tuple ds => ds.length
  | _ => 0
def isJS (ns : List PyData) : PyData → Bool
  | .tuple [l, x] => isLot ns l && decide (0 < lenP l) && inN ns x
  | _ => false
theorem oNe_int (i j : Int) (h : Hm) : oNe (.int i) (.int j) h = .ok (.bool (!(i == j))) h := by
  simp [oNe, deD, eqQ, noDict, PyData.hasDict, PyData.depth, PyData.eqv]
theorem oEq_int (i j : Int) (h : Hm) : oEq (.int i) (.int j) h = .ok (.bool (i == j)) h := by
  simp [oEq, deD, eqQ, noDict, PyData.hasDict, PyData.depth, PyData.eqv]
theorem isLot_tup {ns : List PyData} {l : PyData} (h : isLot ns l = true) : ∃ ds, l = .tuple ds ∧ allP ds (inN ns) = true ∧ risP ds = true := by
  cases l <;> simp [isLot] at h
  exact ⟨_, rfl, by simpa using h.1, h.2⟩
theorem is_joint_strike_ok {n m : Nat} {d : PyData} {ns : List PyData} (o : Ok n m d) (hn : n ≤ 10000) (hs : allP ns strD = true) (h : Hm) : f_is_joint_strike [.dat d, .dat (.tuple ns)] h = .ok (.bool (isJS ns d)) h := by
  unfold f_is_joint_strike b_is_joint_strike
  cases d with
  | tuple ds =>
    match ds, o with
    | [], o => simp [oNe_int, isJS]
    | [_], o => simp [oNe_int, isJS]
    | a :: b :: c :: r, o => simp [oNe_int, isJS, show ¬ ((r.length : Int) + 1 + 1 + 1 = 2) by omega]
    | [l, x], o =>
      have ol := o.items.mem (d := l) (by simp)
      have ox := o.items.mem (d := x) (by simp)
      by_cases h1 : isLot ns l = true
      · obtain ⟨ds, rfl, h2, h3⟩ := isLot_tup h1
        by_cases h4 : 0 < ds.length
        · simp [oNe_int, is_lot_ok ol hn hs, h1, isJS, oIn_of ox hs, h4, lenP]
        · simp [oNe_int, is_lot_ok ol hn hs, h1, isJS, h4, lenP]
      · simp [oNe_int, is_lot_ok ol hn hs, h1, isJS]
  | _ => simp [isJS]
def areJS (ns : List PyData) : PyData → Bool
  | .tuple ds => decide (ds.length ≤ 4) && allP ds (isJS ns) && risP ds
  | _ => false
theorem isJS_get {ns : List PyData} (hs : allP ns strD = true) {d : PyData} (h : isJS ns d = true) : ∃ ls x, d = .tuple [.tuple ls, x] ∧ allP ls (inN ns) = true ∧ risP ls = true ∧ 0 < ls.length ∧ allP ls strD = true ∧ strD x = true ∧ inN ns x = true := by
  unfold isJS at h
  split at h
  · rename_i l x
    simp only [Bool.and_eq_true, decide_eq_true_eq] at h
    obtain ⟨ds, rfl, h2, h3⟩ := isLot_tup h.1.1
    refine ⟨ds, x, rfl, h2, h3, h.1.2, allP_iff.mpr fun d m => allP_iff.mp hs _ ((inN_mem hs).mp (allP_iff.mp h2 d m)), allP_iff.mp hs _ ((inN_mem hs).mp h.2), h.2⟩
  · cases h
theorem cm_JS {ns : List PyData} (hs : allP ns strD = true) {d e : PyData} (h : isJS ns d = true) (k : isJS ns e = true) : cm d e = true := by
  obtain ⟨ls, x, rfl, _, _, _, h1, h2, _⟩ := isJS_get hs h
  obtain ⟨ks, y, rfl, _, _, _, k1, k2, _⟩ := isJS_get hs k
  obtain ⟨x, rfl⟩ := strD_get h2
  obtain ⟨y, rfl⟩ := strD_get k2
  simp [cm, cms, cms_strs h1 k1]
theorem are_joint_strikes_ok {n m : Nat} {d : PyData} {ns : List PyData} (o : Ok n m d) (hn : n ≤ 10000) (hm : m ≤ 40) (hs : allP ns strD = true) (h : Hm) : f_are_joint_strikes [.dat d, .dat (.tuple ns)] h = .ok (.bool (areJS ns d)) h := by
  unfold f_are_joint_strikes b_are_joint_strikes
  cases d with
  | tuple ds =>
    have hl := o.items.len
    have key := eComp_all (n := 1) (it := itAny (eVar 0)) (g := gName 0) (e := eCall f_is_joint_strike (aCons (eVar 0) (aCons (eVar 2) (aNil)))) (ρ := [some (.dat (.tuple ds)), some (.dat (.tuple ns))]) (h := h) (h1 := h) (ds := ds) (by simp) (by omega) (fun x => .bool (isJS ns x)) (fun x hx => ⟨_, rfl, by simp [is_joint_strike_ok (o.items.mem hx) hn hs]⟩)
    by_cases h1 : ds.length ≤ 4
    · by_cases h2 : allP ds (isJS ns) = true
      · have := is_rising_ok (Cmp.of o.items (by omega) fun d q e r => cm_JS hs (allP_iff.mp h2 d q) (allP_iff.mp h2 e r)) (by omega) h
        simp [key, bAll_map, h1, show ¬ (4 : Int) < ds.length by omega, h2, this, areJS]
      · simp [key, bAll_map, h1, show ¬ (4 : Int) < ds.length by omega, h2, areJS]
    · simp [h1, show (4 : Int) < ds.length by omega, areJS]
  | _ => simp [areJS]
def itemsP : PyData → List PyData
  | .tuple ds => ds
  | _ => []
def isJoint : PyData → Bool
  | .tuple [a, b] => areNames a && decide (lenP a ≤ 4) && areJS (itemsP a) b
  | _ => false
theorem areNames_tup {d : PyData} (h : areNames d = true) : ∃ ds, d = .tuple ds ∧ ds.length ≤ 12 ∧ allP ds isName = true ∧ risP ds = true := by
  cases d <;> simp [areNames] at h
  exact ⟨_, rfl, h.1.1, by simpa using h.1.2, h.2⟩
theorem is_joint_ok {n m : Nat} {d : PyData} (o : Ok n m d) (hn : n ≤ 10000) (hm : m ≤ 40) (h : Hm) : f_is_joint [.dat d] h = .ok (.bool (isJoint d)) h := by
  unfold f_is_joint b_is_joint
  cases d with
  | tuple ds =>
    match ds, o with
    | [], o => simp [oNe_int, isJoint]
    | [_], o => simp [oNe_int, isJoint]
    | a :: b :: c :: r, o => simp [oNe_int, isJoint, show ¬ ((r.length : Int) + 1 + 1 + 1 = 2) by omega]
    | [a, b], o =>
      have oa := o.items.mem (d := a) (by simp)
      have ob := o.items.mem (d := b) (by simp)
      by_cases h1 : areNames a = true
      · obtain ⟨ns, rfl, h2, h3, h4⟩ := areNames_tup h1
        have := are_joint_strikes_ok ob hn (by omega) (names_strs h3) h
        by_cases h5 : ns.length ≤ 4
        · simp [oNe_int, are_names_ok oa hn, h1, oLe_int, h5, show (ns.length : Int) ≤ 4 by omega, this, isJoint, lenP, itemsP]
        · simp [oNe_int, are_names_ok oa hn, h1, oLe_int, h5, show ¬ (ns.length : Int) ≤ 4 by omega, isJoint, lenP, itemsP]
      · simp [oNe_int, are_names_ok oa hn, h1, isJoint]
  | _ => simp [isJoint]
theorem is_joint_dict (kvs : List (PyData × PyData)) (h : Hm) : f_is_joint [.dat (.dict kvs)] h = .ok (.bool false) h := by
  unfold f_is_joint b_is_joint
  simp
end Ml
namespace Ml
open PySem
@[simp] theorem oIx_tup (ds : List PyData) (i : Int) (h : Hm) : oIx (.dat (.tuple ds)) (.int i) h = match atI ds i with | some d => .ok (.dat d) h | none => .bad := rfl
@[simp] theorem oIx_lst (ds : List PyData) (i : Int) (h : Hm) : oIx (.dat (.list ds)) (.int i) h = match atI ds i with | some d => .ok (.dat d) h | none => .bad := rfl
@[simp] theorem atI_0 {α : Type} (a : α) (r : List α) : atI (a :: r) 0 = some a := by simp [atI, ixN]
theorem atI_nat {α : Type} {xs : List α} {i : Nat} {a : α} (h : xs[i]? = some a) : atI xs (i : Int) = some a := by
  obtain ⟨hi, e⟩ := List.getElem?_eq_some_iff.mp h
  simp [atI, ixN, hi, e]
@[simp] theorem atI_1 {α : Type} (a b : α) (r : List α) : atI (a :: b :: r) 1 = some b := by
  show atI _ ((1 : Nat) : Int) = _
  exact atI_nat rfl
end Ml
namespace Ml
open PySem
def Wf (h : Hm) : Prop := ∀ o ∈ h, MO.below h.length o = true
structure Bx (i : Nat) (h : Hm) : Prop where
  box : ∃ n : Int, h[i]? = some (.lst [.int n])
  wf : Wf h
def Bs (i : Nat) (h h' : Hm) : Prop := ∃ n : Int, h' = h.set i (.lst [.int n])
theorem Bx.lt {i : Nat} {h : Hm} (b : Bx i h) : i < h.length := by
  obtain ⟨⟨n, e⟩, _⟩ := b
  exact (List.getElem?_eq_some_iff.mp e).1
theorem Bx.refl {i : Nat} {h : Hm} (b : Bx i h) : Bs i h h := by
  obtain ⟨⟨n, e⟩, _⟩ := b
  refine ⟨n, ?_⟩
  obtain ⟨l, e⟩ := List.getElem?_eq_some_iff.mp e
  rw [← e]
  exact (List.set_getElem_self l).symm
theorem Bs.trans {i : Nat} {h h' h'' : Hm} (a : Bs i h h') (b : Bs i h' h'') : Bs i h h'' := by
  obtain ⟨n, rfl⟩ := a
  obtain ⟨k, rfl⟩ := b
  exact ⟨k, by rw [List.set_set]⟩
theorem Wf.set {h : Hm} (w : Wf h) {i : Nat} {o : MO} (b : MO.below h.length o = true) : Wf (h.set i o) := fun x hx => by
  rw [List.length_set]
  rcases List.mem_or_eq_of_mem_set hx with m | rfl
  · exact w x m
  · exact b
theorem D.below_mono {n m : Nat} (h : n ≤ m) {d : D} (b : D.below n d = true) : D.below m d = true := by
  cases d <;> simp_all [D.below]
  omega
theorem MO.below_mono {n m : Nat} (h : n ≤ m) {o : MO} (b : MO.below n o = true) : MO.below m o = true := by
  cases o with
  | lst xs => simp only [MO.below, List.all_eq_true] at b ⊢; exact fun d q => D.below_mono h (b d q)
  | dct t kvs => rfl
  | ins C fs => simp only [MO.below, List.all_eq_true] at b ⊢; exact fun d q => D.below_mono h (b d q)
  | tab P q => rfl
theorem Wf.push {h : Hm} (w : Wf h) {o : MO} (b : MO.below (h.length + 1) o = true) : Wf (h ++ [o]) := fun x hx => by
  rw [List.length_append, List.length_singleton]
  rcases List.mem_append.mp hx with m | m
  · exact MO.below_mono (Nat.le_succ _) (w x m)
  · simp at m; subst m; exact b
theorem Bs.bx {i : Nat} {h h' : Hm} (s : Bs i h h') (b : Bx i h) : Bx i h' := by
  obtain ⟨n, rfl⟩ := s
  exact ⟨⟨n, by rw [List.getElem?_set_self b.lt]⟩, b.wf.set rfl⟩
theorem Bs.len {i : Nat} {h h' : Hm} (s : Bs i h h') : h'.length = h.length := by
  obtain ⟨n, rfl⟩ := s
  simp
theorem Bx.push {i : Nat} {h : Hm} (b : Bx i h) {o : MO} (q : MO.below (h.length + 1) o = true) : Bx i (h ++ [o]) := by
  obtain ⟨n, e⟩ := b.box
  exact ⟨⟨n, by rw [List.getElem?_append_left b.lt]; exact e⟩, b.wf.push q⟩
theorem Bs.pop {i : Nat} {h h' : Hm} {o : MO} (b : i < h.length) (s : Bs i (h ++ [o]) h') : ∃ h1, h' = h1 ++ [o] ∧ Bs i h h1 := by
  obtain ⟨n, rfl⟩ := s
  exact ⟨_, by rw [List.set_append_left _ _ b], n, rfl⟩
def Dr {α : Type} (i : Nat) (h : Hm) (r : R α) (P : α → Prop) : Prop := ∃ a h', r = .ok a h' ∧ Bs i h h' ∧ P a
section
variable {α β : Type} {i : Nat} {h : Hm} {r : R α} {f : α → Hm → R β} {P P' : α → Prop} {Q : β → Prop}
end
theorem take_dr {i : Nat} {h : Hm} (b : Bx i h) {c : Int} (h0 : 0 < c) (h1 : c < 1073741824) : Dr i h (f__law_take [.ref i, .int c] h) fun d => ∃ k : Nat, d = .int k ∧ (k : Int) < c := by
  obtain ⟨⟨n, e⟩, _⟩ := b
  have hl := (List.getElem?_eq_some_iff.mp e).1
  refine ⟨.int (n % c), h.set i (.lst [.int (n / c)]), ?_, ⟨n / c, rfl⟩, (n % c).toNat, ?_, ?_⟩
  · unfold f__law_take b__law_take
    simp [oIx, dctOf, oIxS, e, bDivmod, h0, h1, gSub, mSetIx, mSetL, ixN]
  · rw [Int.toNat_of_nonneg (Int.emod_nonneg _ (by omega))]
  · rw [Int.toNat_of_nonneg (Int.emod_nonneg _ (by omega))]
    exact Int.emod_lt_of_pos _ h0
theorem cell_ok (ns : List Int) (k : Nat) (h : Hm) : ∃ z : Int, f__law_cell [.scr ns, .int k] h = .ok (.int z) h := by
  unfold f__law_cell b__law_cell
  by_cases hk : k < ns.length
  · exact ⟨ns[k], by simp [bLen, oLt_int, hk, oIx, dctOf, oIxS, atI_nat (List.getElem?_eq_getElem hk)]⟩
  · exact ⟨0, by simp [bLen, oLt_int, hk]⟩
def thirteen : List PyData := [.int 48271, .int 69621, .int 16807, .int 39373, .int 30269, .int 40014, .int 40692, .int 50021, .int 61687, .int 71993, .int 83869, .int 95561, .int 30307]
theorem thirteen_at (i : Int) (h0 : 0 ≤ i) (h1 : i < 13) : ∃ n : Int, atI thirteen i = some (.int n) ∧ 0 ≤ n ∧ n < 100000 := by
  obtain ⟨k, rfl⟩ := Int.eq_ofNat_of_zero_le h0
  have hk : k < 13 := by omega
  have all : ∀ k < 13, ∃ n : Int, thirteen[k]? = some (.int n) ∧ 0 ≤ n ∧ n < 100000 := by
    intro k hk
    match k, hk with
    | 0, _ => exact ⟨_, rfl, by decide, by decide⟩
    | 1, _ => exact ⟨_, rfl, by decide, by decide⟩
    | 2, _ => exact ⟨_, rfl, by decide, by decide⟩
    | 3, _ => exact ⟨_, rfl, by decide, by decide⟩
    | 4, _ => exact ⟨_, rfl, by decide, by decide⟩
    | 5, _ => exact ⟨_, rfl, by decide, by decide⟩
    | 6, _ => exact ⟨_, rfl, by decide, by decide⟩
    | 7, _ => exact ⟨_, rfl, by decide, by decide⟩
    | 8, _ => exact ⟨_, rfl, by decide, by decide⟩
    | 9, _ => exact ⟨_, rfl, by decide, by decide⟩
    | 10, _ => exact ⟨_, rfl, by decide, by decide⟩
    | 11, _ => exact ⟨_, rfl, by decide, by decide⟩
    | 12, _ => exact ⟨_, rfl, by decide, by decide⟩
  obtain ⟨n, e, h⟩ := all k hk
  exact ⟨n, atI_nat e, h⟩
theorem oMod_int {i j : Int} (h : Hm) (hj : 0 < j) : oMod (.int i) (.int j) h = .ok (.int (i % j)) h := by simp [oMod, hj]
theorem oFdiv_int {i j : Int} (h : Hm) (hj : 0 < j) (h2 : j < 1073741824) : oFdiv (.int i) (.int j) h = .ok (.int (i / j)) h := by simp [oFdiv, hj, h2]
theorem oMul_int {i j : Int} (h : Hm) (hj : mulOk i j = true) : oMul (.int i) (.int j) h = .ok (.int (i * j)) h := by simp [oMul, hj]
@[simp] theorem oAdd_int (i j : Int) (h : Hm) : oAdd (.int i) (.int j) h = .ok (.int (i + j)) h := rfl
theorem mulOk_r {i j : Int} (h0 : -18446744073709551616 < j) (h1 : j < 18446744073709551616) : mulOk i j = true := by
  simp only [mulOk, Bool.or_eq_true, Bool.and_eq_true, decide_eq_true_eq]
  exact .inr ⟨h0, h1⟩
theorem mulOk_l {i j : Int} (h0 : -18446744073709551616 < i) (h1 : i < 18446744073709551616) : mulOk i j = true := by
  simp only [mulOk, Bool.or_eq_true, Bool.and_eq_true, decide_eq_true_eq]
  exact .inl ⟨h0, h1⟩
theorem mix_ok (c : Int) (k : Nat) (h : Hm) : ∃ z : Int, f__law_mix [.int c, .int k] h = .ok (.int z) h := by
  unfold f__law_mix b__law_mix
  obtain ⟨n, e, n0, n1⟩ := thirteen_at ((k : Int) % 13) (Int.emod_nonneg _ (by decide)) (Int.emod_lt_of_pos _ (by decide))
  simp only [thirteen] at e
  refine ⟨_, by
    simp [oMod_int, e, oMul_int, mulOk_r (i := c % 2147483647 + 12345) (j := n) (by omega) (by omega), oFdiv_int, mulOk_l (i := 977) (j := k) (by decide) (by decide), mulOk_l (i := 7919) (by decide) (by decide), mulOk_l (i := 48271) (by decide) (by decide), mulOk_l (i := ((c % 2147483647 + 12345) * n + 977 * ↑k + 7919 * (↑k / 13)) % 1000000007) (by have := Int.emod_nonneg ((c % 2147483647 + 12345) * n + 977 * ↑k + 7919 * (↑k / 13)) (show (1000000007 : Int) ≠ 0 by decide); omega) (by have := Int.emod_lt_of_pos ((c % 2147483647 + 12345) * n + 977 * ↑k + 7919 * (↑k / 13)) (show (0 : Int) < 1000000007 by decide); omega)]
    rfl⟩
theorem box_ok (ns : List Int) (k l : Nat) (h : Hm) : ∃ n : Int, f__law_box [.scr ns, .int k, .int l] h = .ok (.ref h.length) (h ++ [.lst [.int n]]) := by
  unfold f__law_box b__law_box
  obtain ⟨c, ec⟩ := cell_ok ns k h
  have hn : nums 0 90 = (List.range 90).map fun (i : Nat) => D.int (0 + (i : Int)) := rfl
  obtain ⟨ρ', h', e, z, rfl, j, rfl⟩ := forGo_inv (g := gName 5) (b := sSet 4 (eBin oAdd (eBin oMul (eVar 4) (eDat (.int 142857143))) (eCall f__law_mix (aCons (eVar 3) (aCons (eBin oAdd (eBin oMul (eDat (.int 90)) (eVar 2)) (eVar 5)) (aNil))))))
    (fun _ ρ h' => ∃ z : Int, h' = h ∧ ∃ j, ρ = [some (.scr ns), some (.int k), some (.int l), some (.int c), some (.int z), j]) (nums 0 90) 0 [some (.scr ns), some (.int k), some (.int l), some (.int c), some (.int 0), none] h (fun j x hx ρ h' ⟨z, eh, y, er⟩ => by
      subst eh
      subst er
      simp only [nums, List.getElem?_map, Option.map_eq_some_iff] at hx
      obtain ⟨i, _, rfl⟩ := hx
      obtain ⟨q, eq⟩ := mix_ok c (90 * l + i) h'
      refine ⟨_, h', [some (.scr ns), some (.int k), some (.int l), some (.int c), some (.int (z * 142857143 + q)), some (.int i)], h', rfl, .inl ?_, _, rfl, _, rfl⟩
      have e2 : f__law_mix [.int c, .int (90 * (l : Int) + i)] h' = .ok (.int q) h' := by
        rw [show (90 : Int) * l + i = ((90 * l + i : Nat) : Int) by omega]
        exact eq
      simp [oMul_int, mulOk_r (i := z) (j := 142857143) (by decide) (by decide), mulOk_l (i := 90) (j := l) (by decide) (by decide), e2]) ⟨0, rfl, none, rfl⟩
  by_cases h1 : c % 2 = 0 ∧ (l : Int) = 0
  · exact ⟨(if c < 0 then -c else c) / 2, by simp [ec, oMod_int, oEq_int, h1.1, h1.2, bAbs, oFdiv_int, mkMut, sz]⟩
  · refine ⟨z, ?_⟩
    by_cases h2 : c % 2 = 0
    · have h3 : ¬ (l = 0) := fun q => h1 ⟨h2, by omega⟩
      simp [ec, oMod_int, oEq_int, h2, h3, e, mkMut, sz, show (-(2 ^ 62) : Int) ≤ 90 ∧ (90 : Int) < 2 ^ 62 by decide]
    · simp [ec, oMod_int, oEq_int, h2, e, mkMut, sz, show (-(2 ^ 62) : Int) ≤ 90 ∧ (90 : Int) < 2 ^ 62 by decide]
end Ml
namespace Ml
open PySem
end Ml
namespace Ml
open PySem
def okB (n m : Nat) (x : PyData) : Bool := fine x && decide (x.depth ≤ m) && decide (x.weight ≤ n)
theorem okB_ok {n m : Nat} {x : PyData} (h : okB n m x = true) : Ok n m x := by
  simp only [okB, Bool.and_eq_true, decide_eq_true_eq] at h
  exact ⟨h.1.1, h.1.2, h.2⟩
def OkD (n m : Nat) (x : PyData) : Prop := Ok n m x ∨ x = .dict [] ∨ x = .dict [(.str "a", .int 1)]
theorem atI_mem {α : Type} {xs : List α} {k : Nat} (h : k < xs.length) : ∃ x, atI xs (k : Int) = some x ∧ x ∈ xs := ⟨xs[k], atI_nat (List.getElem?_eq_getElem h), List.getElem_mem h⟩
theorem oAdd_lst {xs ys : List PyData} (h : Hm) (hz : xs.length + ys.length ≤ 16777216) : oAdd (.dat (.list xs)) (.dat (.list ys)) h = .ok (.dat (.list (xs ++ ys))) h := by simp [oAdd, sz hz]
theorem oAdd_tup {xs ys : List PyData} (h : Hm) (hz : xs.length + ys.length ≤ 16777216) : oAdd (.dat (.tuple xs)) (.dat (.tuple ys)) h = .ok (.dat (.tuple (xs ++ ys))) h := by simp [oAdd, sz hz]
def bents : List PyData := [.none, .str "", .str "a", .str "zz", .str "A", .str "abcdefg", .int 7, .tuple [], .tuple [.str "a", .str "a"], .list [], .bool true, .tuple [.str "a"], .str "in", .str "open"]
theorem bents_ok : ∀ x ∈ bents, okB 20 1 x = true := by decide +kernel
theorem bent_dr {i : Nat} : ∀ (q : Nat) {n m : Nat} {d : PyData} {h : Hm}, Bx i h → Ok n m d → m < q → n ≤ 5000 → Dr i h (f__law_bent q [.ref i, .dat d] h) fun r => ∃ x, r = .dat x ∧ Ok (n + n + 20) (m + 1) x
  | 0, n, m, d, h, b, o, hm, hn => by omega
  | q + 1, n, m, d, h, b, o, hm, hn => by
    unfold f__law_bent b__law_bent
    obtain ⟨_, ha, ea, sa, w, rfl, hw⟩ := take_dr b (c := 7) (by decide) (by decide)
    have ba := sa.bx b
    obtain ⟨_, hb, eb, sb, u, rfl, hu⟩ := take_dr ba (c := 14) (by decide) (by decide)
    obtain ⟨x, ex, mx⟩ := atI_mem (xs := bents) (k := u) (by have : bents.length = 14 := rfl; omega)
    have ox : Ok (n + n + 20) (m + 1) x := (okB_ok (bents_ok x mx)).mono (by omega) (by omega)
    simp only [bents] at ex
    cases d with
    | tuple ds =>
      by_cases hz : ds = []
      · subst hz
        exact ⟨.dat x, hb, by simp [ea, oEq_tnil o.items, eb, ex], sa.trans sb, x, rfl, ox⟩
      by_cases h2 : (w : Int) < 2
      · have hz1 : ds.isEmpty = false := by cases ds <;> simp_all
        exact ⟨.dat x, hb, by simp [ea, oEq_tnil o.items, hz1, oLt_int, h2, eb, ex], sa.trans sb, x, rfl, ox⟩
      have hz1 : ds.isEmpty = false := by cases ds <;> simp_all
      have hl : 0 < ds.length := List.length_pos_iff.mpr hz
      have hl2 := o.items.len
      have hm1 : 1 ≤ m := by have := o.d; simp only [PyData.depth] at this; omega
      obtain ⟨_, hc, ec, sc, z, rfl, hz2⟩ := take_dr ba (c := ds.length) (by omega) (by omega)
      have bc := sc.bx ba
      have hzl : z < ds.length := by omega
      obtain ⟨y, ey, o1, oy, o2, ws⟩ := o.items.split z hzl
      have ty := atI_nat ey
      have c1 := cut_to ds z
      have c2 : cut ds (some ((z : Int) + 1)) none = ds.drop (z + 1) := by have := cut_from ds (z + 1); simpa using this
      have c3 := cut_one ds z y ey
      have l1 := o1.len
      have l2 := o2.len
      by_cases h4 : (w : Int) < 4
      · obtain ⟨_, hd, ed, sd, x', rfl, ox'⟩ := bent_dr q (n := y.weight) (m := m - 1) bc oy (by omega) (by omega)
        refine ⟨.dat (.tuple (ds.take z ++ [x'] ++ ds.drop (z + 1))), hd, ?_, (sa.trans sc).trans sd, _, rfl, ?_⟩
        · simp [ea, oEq_tnil o.items, hz1, oLt_int, h2, ec, h4, ty, ed, c1, c2]
          rw [oAdd_tup _ (by simp at l1 ⊢; omega)]
          simp
          rw [oAdd_tup _ (by simp at l1 l2 ⊢; omega)]
          simp
        · refine Ok.mono (((o1.mono (Nat.le_refl _) (by omega : m - 1 ≤ m)).append (Oks.one (ox'.mono (Nat.le_refl _) (by omega : m - 1 + 1 ≤ m)))).append (o2.mono (Nat.le_refl _) (by omega : m - 1 ≤ m))).tup (by omega) (Nat.le_refl _)
      · have w4 : (w : Int) - 4 = 0 ∨ (w : Int) - 4 = 1 ∨ (w : Int) - 4 = 2 := by omega
        have a1 : oAdd (.dat (.tuple (ds.take z))) (.dat (.tuple (ds.drop (z + 1)))) hc = .ok (.dat (.tuple (ds.take z ++ ds.drop (z + 1)))) hc := oAdd_tup _ (by simp at l1 l2 ⊢; omega)
        have a2 : oAdd (.dat (.tuple ds)) (.dat (.tuple [y])) hc = .ok (.dat (.tuple (ds ++ [y]))) hc := oAdd_tup _ (by simp; omega)
        rcases w4 with e | e | e
        · refine ⟨.dat (.tuple (ds.take z ++ ds.drop (z + 1))), hc, ?_, sa.trans sc, _, rfl, Ok.mono ((o1.append o2).tup) (by omega) (by omega)⟩
          simp [ea, oEq_tnil o.items, hz1, oLt_int, h2, ec, h4, c1, c2, c3, a1, a2, bList, bListS, dctOf, e, atI, ixN]
        · refine ⟨.dat (.list ds), hc, ?_, sa.trans sc, _, rfl, Ok.mono (o.items.lst) (by omega) (by omega)⟩
          simp [ea, oEq_tnil o.items, hz1, oLt_int, h2, ec, h4, c1, c2, c3, a1, a2, bList, bListS, dctOf, e, atI, ixN]
        · refine ⟨.dat (.tuple (ds ++ [y])), hc, ?_, sa.trans sc, _, rfl, Ok.mono ((o.items.append (Oks.one oy)).tup) (by omega) (by omega)⟩
          simp [ea, oEq_tnil o.items, hz1, oLt_int, h2, ec, h4, c1, c2, c3, a1, a2, bList, bListS, dctOf, e, atI, ixN]
    | _ => exact ⟨.dat x, hb, by simp [ea, eb, ex], sa.trans sb, x, rfl, ox⟩
end Ml
namespace Ml
open PySem
def keyd (kvs : List (PyData × PyData)) : List PyData := kvs.map (·.1)
theorem dput_keys {kvs : List (PyData × PyData)} {k v : PyData} : keyd (dput kvs k v) = if keyIn k kvs then keyd kvs else keyd kvs ++ [k] := by
  unfold dput keyd
  split
  · rw [List.map_map]
    congr 1
    funext p
    simp only [Function.comp]
    split <;> rfl
  · simp
theorem keyIn_iff {kvs : List (PyData × PyData)} {k : PyData} (tk : isTree k = true) (h : ∀ q ∈ keyd kvs, isTree q = true) : keyIn k kvs = true ↔ k ∈ keyd kvs := by
  simp only [keyIn, List.any_eq_true, keyd, List.mem_map]
  constructor
  · rintro ⟨p, hp, e⟩
    exact ⟨p, hp, (eqv_tree (h _ (List.mem_map_of_mem hp)) tk).mp e⟩
  · rintro ⟨p, hp, rfl⟩
    exact ⟨p, hp, eqv_tree_self tk⟩
theorem dput_nodup {kvs : List (PyData × PyData)} {k v : PyData} (tk : isTree k = true) (h : ∀ q ∈ keyd kvs, isTree q = true) (nd : (keyd kvs).Nodup) : (keyd (dput kvs k v)).Nodup := by
  rw [dput_keys]
  split
  · exact nd
  · rename_i hk
    refine List.nodup_append.mpr ⟨nd, by simp, ?_⟩
    intro a ha b hb
    simp only [List.mem_singleton] at hb
    subst hb
    rintro rfl
    exact hk ((keyIn_iff tk h).mpr ha)
theorem dput_sub {kvs : List (PyData × PyData)} {k v : PyData} {q : PyData} (h : q ∈ keyd (dput kvs k v)) : q ∈ keyd kvs ∨ q = k := by
  rw [dput_keys] at h
  split at h
  · exact .inl h
  · simpa using h
theorem dput_length (kvs : List (PyData × PyData)) (k v : PyData) : (dput kvs k v).length ≤ kvs.length + 1 := by
  unfold dput
  split <;> simp
theorem risP_of : ∀ {ds : List PyData}, ds.Pairwise (fun a b => ltB a b = true) → risP ds = true
  | [], _ => rfl
  | [_], _ => rfl
  | a :: b :: r, h => by
    rw [List.pairwise_cons] at h
    have ih := risP_of h.2
    unfold risP at ih ⊢
    simp only [List.tail_cons, List.zip_cons_cons] at ih ⊢
    exact allP_cons.mpr ⟨h.1 b (by simp), ih⟩
theorem sortP_ris {ds : List PyData} (c : cmpAll ds = true) (t : areTrees ds = true) (nd : ds.Nodup) : risP (sortP ltB ds) = true := by
  have p := sortP_perm ltB ds
  have u := sortP_up (ord_trees c t)
  have nd' : (sortP ltB ds).Nodup := p.nodup_iff.mpr nd
  refine risP_of ?_
  unfold Up at u
  refine List.pairwise_iff_forall_sublist.mpr fun {a b} s => ?_
  have both := List.pairwise_iff_forall_sublist.mp u s
  have bn := List.pairwise_iff_forall_sublist.mp nd' s
  have ha := p.mem_iff.mp (s.subset (by simp : a ∈ [a, b]))
  have hb := p.mem_iff.mp (s.subset (by simp : b ∈ [a, b]))
  rcases ltB_tri c t ha hb both with q | q
  · exact q
  · exact absurd q bn
theorem ltB_tr {ds : List PyData} (c : cmpAll ds = true) (t : areTrees ds = true) {x y z : PyData} (hx : x ∈ ds) (hy : y ∈ ds) (hz : z ∈ ds) (h : ltB x y = true) (k : ltB y z = true) : ltB x z = true := by
  have h1 := ltB_as c t hx hy h
  have h2 := ltB_as c t hy hz k
  rcases ltB_tri c t hx hz (ltB_ntr c t hx hy hz h1 h2) with q | q
  · exact q
  · subst q; rw [k] at h1; cases h1
theorem ris_pw {ds : List PyData} (c : cmpAll ds = true) (t : areTrees ds = true) : ∀ {es : List PyData}, (∀ e ∈ es, e ∈ ds) → risP es = true → es.Pairwise fun a b => ltB a b = true
  | [], _, _ => .nil
  | [_], _, _ => by simp
  | a :: b :: r, s, h => by
    unfold risP at h
    simp only [List.tail_cons, List.zip_cons_cons] at h
    have h := allP_cons.mp h
    have ih := ris_pw c t (es := b :: r) (fun e m => s e (List.mem_cons_of_mem _ m)) (by unfold risP; simpa using h.2)
    refine List.pairwise_cons.mpr ⟨fun d m => ?_, ih⟩
    rcases List.mem_cons.mp m with rfl | m'
    · exact h.1
    · exact ltB_tr c t (s a (by simp)) (s b (by simp)) (s d (by simp [m'])) h.1 ((List.pairwise_cons.mp ih).1 d m')
theorem ris_sub {ds es : List PyData} (c : cmpAll ds = true) (t : areTrees ds = true) (h : risP ds = true) (s : es.Sublist ds) : risP es = true := risP_of ((ris_pw c t (fun _ m => m) h).sublist s)
end Ml
namespace Ml
open PySem
theorem scopd_dr {f : Fn} {xs : List D} {i : Nat} {h h1 t : Hm} {x : PyData} (b : Bx i h) (e : f xs h = .ok (.dat x) (h1 ++ t)) (s : Bs i h h1) : scopd f xs h = .ok (.dat x) h1 := by
  have hl := s.len
  have w := (s.bx b).wf
  have e1 : (h1 ++ t).take h.length = h1 := by rw [← hl, List.take_left']; rfl
  have e2 : h1.all (MO.below h.length) = true := List.all_eq_true.mpr fun o m => hl ▸ w o m
  simp only [scopd, e, e1, e2, D.below, List.length_append, Bool.and_self, Bool.true_and]
  rw [if_pos]
  simp only [decide_eq_true_eq]
  omega
def nmA : List PyData := [.str "a", .str "b", .str "c", .str "d"]
def nmB : List PyData := [.str "ann", .str "bob", .str "c", .str "dora"]
theorem nm_all : ∀ c ≤ 4, (areNames (.tuple (nmA.take c)) = true ∧ areNames (.tuple (nmB.take c)) = true) := by decide +kernel
theorem nm_okA : ∀ x ∈ nmA, okB 4 0 x = true := by decide +kernel
theorem nm_okB : ∀ x ∈ nmB, okB 4 0 x = true := by decide +kernel
structure Nm (c : Nat) (ns : List PyData) : Prop where
  or : ns = nmA.take c ∨ ns = nmB.take c
  c4 : c ≤ 4
namespace Nm
variable {c : Nat} {ns : List PyData}
theorem names (n : Nm c ns) : allP ns isName = true ∧ risP ns = true ∧ ns.length = c := by
  have h1 := nm_all c n.c4
  have hc := n.c4
  rcases n.or with rfl | rfl
  · obtain ⟨ds, e, _, a, b⟩ := areNames_tup h1.1
    cases e
    exact ⟨a, b, by simp [nmA]; omega⟩
  · obtain ⟨ds, e, _, a, b⟩ := areNames_tup h1.2
    cases e
    exact ⟨a, b, by simp [nmB]; omega⟩
theorem ok (n : Nm c ns) : ∀ x ∈ ns, Ok 4 0 x := fun x m => by
  rcases n.or with rfl | rfl
  · exact okB_ok (nm_okA x (List.mem_of_mem_take m))
  · exact okB_ok (nm_okB x (List.mem_of_mem_take m))
theorem sd (n : Nm c ns) : allP ns strD = true := names_strs n.names.1
end Nm
structure Jt (mn ms : Nat) (ns ss : List PyData) : Prop where
  nm : ∃ c, c ≤ mn ∧ Nm c ns
  len : ss.length ≤ ms
  js : allP ss (isJS ns) = true
  ris : risP ss = true
  ok : ∀ q ∈ ss, Ok 40 2 q
theorem isSTree_str {d : PyData} (h : strD d = true) : isSTree d = true := by cases d <;> simp_all [strD, isSTree]
theorem areSTrees_strs : ∀ {ds : List PyData}, allP ds strD = true → areSTrees ds = true
  | [], _ => by simp [areSTrees]
  | d :: ds, h => by have h := allP_cons.mp h; simp [areSTrees, isSTree_str h.1, areSTrees_strs h.2]
theorem isTree_str {d : PyData} (h : strD d = true) : isTree d = true := by cases d <;> simp_all [strD, isTree]
theorem areTrees_strs : ∀ {ds : List PyData}, allP ds strD = true → areTrees ds = true
  | [], _ => by simp [areTrees]
  | d :: ds, h => by have h := allP_cons.mp h; simp [areTrees, isTree_str h.1, areTrees_strs h.2]
theorem depth_strs {ds : List PyData} (h : allP ds strD = true) : PyData.depthAll ds = 0 := by
  have := depthAll_le (ds := ds) (m := 0) fun d q => by obtain ⟨x, rfl⟩ := strD_get (allP_iff.mp h d q); simp [PyData.depth]
  omega
theorem js_tree {ns : List PyData} (hs : allP ns strD = true) {q : PyData} (h : isJS ns q = true) : isTree q = true ∧ keyOk true q = true ∧ isTupT q = true ∧ q.depth ≤ 2 := by
  obtain ⟨ls, x, rfl, _, _, _, h1, h2, _⟩ := isJS_get hs h
  obtain ⟨x, rfl⟩ := strD_get h2
  have := depth_strs h1
  refine ⟨by simp [isTree, areTrees, areTrees_strs h1], ?_, rfl, ?_⟩
  · simp [keyOk, isKeyT, isSTree, areSTrees, areSTrees_strs h1, PyData.depth, PyData.depthAll, this]
  · simp [PyData.depth, PyData.depthAll, this]
theorem cmpAll_of {ds : List PyData} (h : ∀ a ∈ ds, ∀ b ∈ ds, cm a b = true) : cmpAll ds = true := List.all_eq_true.mpr fun a ha => List.all_eq_true.mpr fun b hb => ltP_cm (h a ha b hb)
theorem sub_js {ns ls : List PyData} {x : PyData} (hs : allP ns strD = true) (hr : risP ls = true) (sb : ∀ d ∈ ls, d ∈ ns) (hl : 0 < ls.length) (hx : x ∈ ns) : isJS ns (.tuple [.tuple ls, x]) = true := by
  have h1 : allP ls (inN ns) = true := allP_iff.mpr fun d m => (inN_mem hs).mpr (sb d m)
  simp [isJS, isLot, lenP, h1, hr, hl, (inN_mem hs).mpr hx]
end Ml
namespace Ml
open PySem
theorem cmpAll_strs {ds : List PyData} (h : allP ds strD = true) : cmpAll ds = true := cmpAll_of fun a ha b hb => by
  obtain ⟨x, rfl⟩ := strD_get (allP_iff.mp h a ha)
  obtain ⟨y, rfl⟩ := strD_get (allP_iff.mp h b hb)
  rfl
theorem paired_eq : ∀ {zs ys : List D}, PySem.Paired (fun x y => y = x) zs ys → ys = zs
  | _, _, .nil => rfl
  | _, _, .cons rfl r => by rw [paired_eq r]
theorem sub_map {ns : List PyData} {zs : List D} (s : zs.Sublist (ns.map D.dat)) : ∃ ls : List PyData, zs = ls.map D.dat ∧ ls.Sublist ns := by
  obtain ⟨ls, h1, h2⟩ := List.sublist_map_iff.mp s
  exact ⟨ls, h2, h1⟩
theorem some_dr {i : Nat} {h : Hm} (b : Bx i h) {ns : List PyData} (hz : ns.length ≤ 16777216) {ρ : Fm} (e5 : ∀ h, itAny (eVar 5) ρ h = .ok (ns.map D.dat) h) (e0 : ρ[0]? = some (some (.ref i))) :
    Dr i h (eComp 1 (itAny (eVar 5)) (gName 0) (tBool (eBin oEq (eCall f__law_take (aCons (eVar 1) (aCons (eDat (.int 2)) (aNil)))) (eDat (.int 1)))) (eVar 0) ρ h) fun d => ∃ ls : List PyData, d = .dat (.list ls) ∧ ls.Sublist ns := by
  unfold eComp eCall aComp
  rw [e5]
  simp only [R.bind_ok, List.length_map, sz hz, if_true]
  obtain ⟨ys, zs, h', q1, q2, q3, q4⟩ := compGo_inv (n := 1) (ρ := ρ) (g := gName 0) (t := tBool (eBin oEq (eCall f__law_take (aCons (eVar 1) (aCons (eDat (.int 2)) (aNil)))) (eDat (.int 1)))) (e := eVar 0) (Bs i h) (fun x y => y = x) (xs := ns.map D.dat) (h := h) (fun x hx h1 s1 => by
    obtain ⟨_, h2, e2, s2, k, rfl, hk⟩ := take_dr (s1.bx b) (c := 2) (by decide) (by decide)
    refine ⟨some x :: ρ, h1, (k : Int) == 1, h2, rfl, ?_, ?_⟩
    · simp [e0, e2, oEq_int]
    · cases hc : ((k : Int) == 1) with
      | false => exact .inl ⟨rfl, s1.trans s2⟩
      | true => exact .inr ⟨rfl, x, h2, rfl, rfl, s1.trans s2⟩) b.refl
  rw [paired_eq q4] at q1
  obtain ⟨ls, rfl, sl⟩ := sub_map q3
  have q1' : compGo 1 ρ (gName 0) (tBool (eBin oEq (fun ρ h => (aCons (eVar 1) (aCons (eDat (.int 2)) aNil) ρ h).bind fun xs h1 => f__law_take xs h1) (eDat (.int 1)))) (eVar 0) (ns.map D.dat) h = .ok (ls.map D.dat) h' := q1
  rw [q1']
  refine ⟨.dat (.list ls), h', ?_, q2, ls, rfl, sl⟩
  simp only [R.bind_ok]
  exact mkLst_dat ls h' (Nat.le_trans sl.length_le hz)
theorem sSeq_nx {a b : MS} {ρ ρ1 : Fm} {h h1 : Hm} (e : a ρ h = .ok (.nx ρ1) h1) : sSeq a b ρ h = b ρ1 h1 := by simp [sSeq, e]
theorem eBin_ok {f : D → D → Hm → R D} {a b : ME} {ρ : Fm} {h h1 h2 : Hm} {x y : D} {r : R D} (ha : a ρ h = .ok x h1) (hb : b ρ h1 = .ok y h2) (e : f x y h2 = r) : eBin f a b ρ h = r := by
  subst e
  simp only [eBin, ha, hb, R.bind_ok]
theorem aCons_ok {e : ME} {a : MA} {ρ : Fm} {h h1 h2 : Hm} {x : D} {xs : List D} (he : e ρ h = .ok x h1) (ha : a ρ h1 = .ok xs h2) : aCons e a ρ h = .ok (x :: xs) h2 := by
  simp only [aCons, he, ha, R.bind_ok]
theorem eCall_ok {f : Fn} {a : MA} {ρ : Fm} {h h1 : Hm} {xs : List D} (ha : a ρ h = .ok xs h1) : eCall f a ρ h = f xs h1 := by simp only [eCall, ha, R.bind_ok]
theorem sSet_ok {i : Nat} {e : ME} {ρ : Fm} {h h1 : Hm} {x : D} (he : e ρ h = .ok x h1) : sSet i e ρ h = .ok (.nx (ρ.set i (some x))) h1 := by simp only [sSet, he, R.bind_ok]
section
variable {t u : MT} {a b : MS} {m : ME} {ρ : Fm} {h h1 h2 : Hm} {x : D} {c d : Bool}
theorem tBool_ok (e : m ρ h = .ok (.bool c) h1) : tBool m ρ h = .ok c h1 := by simp [tBool, e]
theorem tTruth_ok (e : m ρ h = .ok x h1) (k : Ml.truth x h1 = some c) : tTruth m ρ h = .ok c h1 := by simp only [tTruth, e, R.bind_ok, k]
theorem tNot_ok (e : t ρ h = .ok c h1) : tNot t ρ h = .ok (!c) h1 := by simp [tNot, e]
theorem tAnd_t (e : t ρ h = .ok true h1) : tAnd t u ρ h = u ρ h1 := by simp [tAnd, e]
theorem tOr_f (e : t ρ h = .ok false h1) : tOr t u ρ h = u ρ h1 := by simp [tOr, e]
theorem sIf_f (e : t ρ h = .ok false h1) : sIf t a b ρ h = b ρ h1 := by simp [sIf, e]
theorem sFor_ok {it : MA} {g : MG} {xs : List D} {r : R Fl} (e : it ρ h = .ok xs h1) (k : forGo g a xs ρ h1 = r) : sFor it g a ρ h = r := by subst k; simp only [sFor, e, R.noX_ok, R.bind_ok]
theorem itAny_l {ds : List PyData} (e : m ρ h = .ok (.dat (.list ds)) h1) : itAny m ρ h = .ok (ds.map D.dat) h1 := by simp only [itAny, e]
end
theorem itRng_gen {a : MA} {ρ : Fm} {h h1 : Hm} {j : Int} (e : a ρ h = .ok [.dat (.int j)] h1) (q : (-(2 ^ 62) : Int) ≤ j ∧ j < 2 ^ 62) : itRng a ρ h = .ok (nums 0 j.toNat) h1 := by
  unfold itRng
  rw [e]
  simp only [R.bind_ok]
  rw [if_pos q]
theorem itRng_ok {a : MA} {ρ : Fm} {h h1 : Hm} {n : Nat} (e : a ρ h = .ok [.dat (.int (n : Int))] h1) (hn : n < 1000000) : itRng a ρ h = .ok (nums 0 n) h1 := by
  have := itRng_gen e (by omega)
  rwa [Int.toNat_natCast] at this
abbrev jLoop : MS := sSeq (sSet 7 (eOrV (eComp 1 (itAny (eVar 5)) (gName 0) (tBool (eBin oEq (eCall f__law_take (aCons (eVar 1) (aCons (eDat (.int 2)) (aNil)))) (eDat (.int 1)))) (eVar 0)) (eLst (aCons (eBin oIx (eVar 5) (eCall f__law_take (aCons (eVar 0) (aCons (eVar 3) (aNil))))) (aNil)))))
    (sAsg (gSub (eVar 4) (eTup (aCons (eCall bTuple (aCons (eVar 7) (aNil))) (aCons (eBin oIx (eVar 5) (eCall f__law_take (aCons (eVar 0) (aCons (eVar 3) (aNil))))) (aNil))))) (eDat (.bool true)))
theorem joint_run {i mn ms c u t : Nat} {h ha hb hd he : Hm} {x : PyData} {ns : List PyData} {kvs : List (PyData × PyData)} {y6 y7 : Option D}
    (ea : f__law_take [D.ref i, D.int (mn + 1)] h = R.ok (D.int c) ha) (eb : f__law_take [D.ref i, D.int 2] (ha ++ [MO.dct true []]) = R.ok (D.int u) (hb ++ [MO.dct true []]))
    (ex : atI [PyData.list [.str "a", .str "b", .str "c", .str "d"], .list [.str "ann", .str "bob", .str "c", .str "dora"]] (u : Int) = some x)
    (hns : slD (.dat x) none (some (c : Int)) (hb ++ [.dct true []]) = .ok (.dat (.list ns)) (hb ++ [.dct true []]))
    (ec : f__law_take [D.ref i, D.int (ms + 1)] (hb ++ [MO.dct true []]) = R.ok (D.int t) (hd ++ [MO.dct true []]))
    (eT : forGo (gName 6) jLoop (nums 0 (t * (if 0 < c then 1 else 0))) [some (.ref i), some (.int mn), some (.int ms), some (.int c), some (.ref ha.length), some (.dat (.list ns)), none, none] (hd ++ [.dct true []]) = .ok (.nx [some (.ref i), some (.int mn), some (.int ms), some (.int c), some (.ref ha.length), some (.dat (.list ns)), y6, y7]) (he ++ [.dct true kvs]))
    (gt : (he ++ [MO.dct true kvs])[ha.length]? = some (.dct true kvs)) (so : sortOk (keyd kvs) = true) (tt : t < 1000) :
    runFn 3 8 b__law_joint [.ref i, .int mn, .int ms] h = .ok (.dat (.tuple [.tuple ns, .tuple (sortP ltB (keyd kvs))])) (he ++ [.dct true kvs]) := by
    unfold b__law_joint
    have mul : oMul (.int t) (.int (if 0 < c then 1 else 0)) (hd ++ [.dct true []]) = .ok (.int ((t * (if 0 < c then 1 else 0) : Nat))) (hd ++ [.dct true []]) := by
      rw [oMul_int _ (by split <;> exact mulOk_r (by decide) (by decide))]
      split <;> simp
    have s1 : sPar [3, 4] (aCons (eCall f__law_take (aCons (eVar 0) (aCons (eBin oAdd (eVar 1) (eDat (.int 1))) (aNil)))) (aCons (eDctN true) (aNil))) [some (.ref i), some (.int mn), some (.int ms), none, none, none, none, none] h = .ok (.nx [some (.ref i), some (.int mn), some (.int ms), some (.int c), some (.ref ha.length), none, none, none]) (ha ++ [.dct true []]) := by
      simp [ea, eDctN]
    have s2 : sSet 5 (eSl (eBin oIx (eDat (.list [.list [.str "a", .str "b", .str "c", .str "d"], .list [.str "ann", .str "bob", .str "c", .str "dora"]])) (eCall f__law_take (aCons (eVar 0) (aCons (eDat (.int 2)) (aNil))))) (pNone) (pSome (eVar 3))) [some (.ref i), some (.int mn), some (.int ms), some (.int c), some (.ref ha.length), none, none, none] (ha ++ [.dct true []]) = .ok (.nx [some (.ref i), some (.int mn), some (.int ms), some (.int c), some (.ref ha.length), some (.dat (.list ns)), none, none]) (hb ++ [.dct true []]) := by
      unfold sSet eSl
      simp only [eBin, eCall, aCons, aNil, eDat, eVar, R.bind_ok, List.getElem?_cons_zero, eb, oIx_lst, ex, pNone, pSome, List.getElem?_cons_succ, hns, List.set_cons_succ, List.set_cons_zero]
    have s3 : sFor (itRng (aCons (eBin oMul (eCall f__law_take (aCons (eVar 0) (aCons (eBin oAdd (eVar 2) (eDat (.int 1))) (aNil)))) (eCall bInt (aCons (eBin oGt (eVar 3) (eDat (.int 0))) (aNil)))) (aNil))) (gName 6) (sSeq (sSet 7 (eOrV (eComp 1 (itAny (eVar 5)) (gName 0) (tBool (eBin oEq (eCall f__law_take (aCons (eVar 1) (aCons (eDat (.int 2)) (aNil)))) (eDat (.int 1)))) (eVar 0)) (eLst (aCons (eBin oIx (eVar 5) (eCall f__law_take (aCons (eVar 0) (aCons (eVar 3) (aNil))))) (aNil)))))
    (sAsg (gSub (eVar 4) (eTup (aCons (eCall bTuple (aCons (eVar 7) (aNil))) (aCons (eBin oIx (eVar 5) (eCall f__law_take (aCons (eVar 0) (aCons (eVar 3) (aNil))))) (aNil))))) (eDat (.bool true)))) [some (.ref i), some (.int mn), some (.int ms), some (.int c), some (.ref ha.length), some (.dat (.list ns)), none, none] (hb ++ [.dct true []]) = .ok (.nx [some (.ref i), some (.int mn), some (.int ms), some (.int c), some (.ref ha.length), some (.dat (.list ns)), y6, y7]) (he ++ [.dct true kvs]) := by
      unfold sFor
      have e1 : (aCons (eBin oMul (eCall f__law_take (aCons (eVar 0) (aCons (eBin oAdd (eVar 2) (eDat (.int 1))) (aNil)))) (eCall bInt (aCons (eBin oGt (eVar 3) (eDat (.int 0))) (aNil)))) (aNil)) [some (.ref i), some (.int mn), some (.int ms), some (.int c), some (.ref ha.length), some (.dat (.list ns)), none, none] (hb ++ [.dct true []]) = .ok [.int ((t * (if 0 < c then 1 else 0) : Nat))] (hd ++ [.dct true []]) := by
        have e2 : eCall bInt (aCons (eBin oGt (eVar 3) (eDat (.int 0))) (aNil)) [some (.ref i), some (.int mn), some (.int ms), some (.int c), some (.ref ha.length), some (.dat (.list ns)), none, none] (hd ++ [.dct true []]) = .ok (.int (if 0 < c then 1 else 0)) (hd ++ [.dct true []]) := by
          by_cases q : 0 < c
          · simp [bInt, q]
          · simp [bInt, q]
        have e3 : eCall f__law_take (aCons (eVar 0) (aCons (eBin oAdd (eVar 2) (eDat (.int 1))) (aNil))) [some (.ref i), some (.int mn), some (.int ms), some (.int c), some (.ref ha.length), some (.dat (.list ns)), none, none] (hb ++ [.dct true []]) = .ok (.int t) (hd ++ [.dct true []]) := by
          simp [ec]
        exact aCons_ok (eBin_ok e3 e2 mul) rfl
      rw [itRng_ok e1 (by split <;> omega)]
      simp only [R.bind_ok, R.noX_ok]
      exact eT
    have s4 : sRet (eTup (aCons (eCall bTuple (aCons (eVar 5) (aNil))) (aCons (eCall bTuple (aCons (eCall bSorted (aCons (eCall bList (aCons (eVar 4) (aNil))) (aNil))) (aNil))) (aNil)))) [some (.ref i), some (.int mn), some (.int ms), some (.int c), some (.ref ha.length), some (.dat (.list ns)), y6, y7] (he ++ [.dct true kvs]) = .ok (.rt (.dat (.tuple [.tuple ns, .tuple (sortP ltB (keyd kvs))]))) (he ++ [.dct true kvs]) := by
      have em : (List.map (fun (x : PyData × PyData) => x.1) kvs) = keyd kvs := rfl
      simp [bTuple, listOf, bList, dctOf, gt, em, bSorted, so]
    unfold runFn
    simp only [List.length_cons, List.length_nil, if_true, List.map_cons, List.map_nil, List.cons_append, List.nil_append, show 8 - 3 = 5 from rfl, rep5]
    rw [sSeq_nx s1, sSeq_nx s2, sSeq_nx s3, s4]
    rfl
theorem joint_dr {i : Nat} {h : Hm} (b : Bx i h) (mn ms : Nat) (hmn : mn ≤ 4) (hms : ms ≤ 60) : Dr i h (f__law_joint [.ref i, .int mn, .int ms] h) fun d => ∃ ns ss, d = .dat (.tuple [.tuple ns, .tuple ss]) ∧ Jt mn ms ns ss := by
  obtain ⟨_, ha, ea, sa, c, rfl, hc⟩ := take_dr b (c := (mn : Int) + 1) (by omega) (by omega)
  have ba := sa.bx b
  have ba1 : Bx i (ha ++ [.dct true []]) := ba.push rfl
  obtain ⟨_, hb0, eb, sb0, u, rfl, hu⟩ := take_dr ba1 (c := 2) (by decide) (by decide)
  obtain ⟨hb, rfl, sb⟩ := sb0.pop ba.lt
  obtain ⟨x, ex, mx⟩ := atI_mem (xs := [PyData.list [.str "a", .str "b", .str "c", .str "d"], .list [.str "ann", .str "bob", .str "c", .str "dora"]]) (k := u) (by simp; omega)
  obtain ⟨ns, hns, nm⟩ : ∃ ns, slD (.dat x) none (some (c : Int)) (hb ++ [.dct true []]) = .ok (.dat (.list ns)) (hb ++ [.dct true []]) ∧ Nm c ns := by
    simp only [List.mem_cons, List.not_mem_nil, or_false] at mx
    rcases mx with rfl | rfl
    · exact ⟨_, by simp only [slD, cut_to]; rfl, .inl rfl, by omega⟩
    · exact ⟨_, by simp only [slD, cut_to]; rfl, .inr rfl, by omega⟩
  have bb := sb.bx ba
  have bb1 : Bx i (hb ++ [.dct true []]) := bb.push rfl
  obtain ⟨_, hc0, ec, sc0, t, rfl, ht⟩ := take_dr bb1 (c := (ms : Int) + 1) (by omega) (by omega)
  obtain ⟨hd, rfl, sd⟩ := sc0.pop bb.lt
  have bd := sd.bx bb
  have nl : ns.length = c := nm.names.2.2
  have ns2 := nm.sd
  have lhd : hd.length = ha.length := by rw [sd.len, sb.len]
  obtain ⟨ρ', h', eT, he, kvs, rfl, sh, hlen, hnd, hjs, y6, y7, rfl⟩ := forGo_inv (g := gName 6) (b := sSeq (sSet 7 (eOrV (eComp 1 (itAny (eVar 5)) (gName 0) (tBool (eBin oEq (eCall f__law_take (aCons (eVar 1) (aCons (eDat (.int 2)) (aNil)))) (eDat (.int 1)))) (eVar 0)) (eLst (aCons (eBin oIx (eVar 5) (eCall f__law_take (aCons (eVar 0) (aCons (eVar 3) (aNil))))) (aNil)))))
    (sAsg (gSub (eVar 4) (eTup (aCons (eCall bTuple (aCons (eVar 7) (aNil))) (aCons (eBin oIx (eVar 5) (eCall f__law_take (aCons (eVar 0) (aCons (eVar 3) (aNil))))) (aNil))))) (eDat (.bool true))))
    (fun j ρ hh => ∃ he kvs, hh = he ++ [.dct true kvs] ∧ Bs i hd he ∧ kvs.length ≤ j ∧ (keyd kvs).Nodup ∧ (∀ q ∈ keyd kvs, isJS ns q = true ∧ Ok 40 2 q) ∧ ∃ y6 y7, ρ = [some (.ref i), some (.int mn), some (.int ms), some (.int c), some (.ref ha.length), some (.dat (.list ns)), y6, y7])
    (nums 0 (t * (if 0 < c then 1 else 0))) 0 [some (.ref i), some (.int mn), some (.int ms), some (.int c), some (.ref ha.length), some (.dat (.list ns)), none, none] (hd ++ [.dct true []]) (fun j x hx ρ hh ⟨he, kvs, e1, s1, l1, nd1, js1, y6, y7, e2⟩ => by
      subst e1
      subst e2
      have hj : j < t * (if 0 < c then 1 else 0) := by
        have := (List.getElem?_eq_some_iff.mp hx).1
        simpa [nums] using this
      have c0 : 0 < c := by
        by_cases q : 0 < c
        · exact q
        · simp [q] at hj
      have hjt : j < t := by simpa [c0] using hj
      have be : Bx i (he ++ [.dct true kvs]) := (s1.bx bd).push rfl
      obtain ⟨_, hf0, ef, sf0, ls0, rfl, sl0⟩ := some_dr be (ns := ns) (by omega) (ρ := [some (.ref i), some (.int mn), some (.int ms), some (.int c), some (.ref ha.length), some (.dat (.list ns)), some x, y7]) (fun h => by simp) rfl
      obtain ⟨hf, rfl, sf⟩ := sf0.pop (s1.bx bd).lt
      have bf := sf.bx (s1.bx bd)
      obtain ⟨ls, hg, eg, sg, rl, sl, hl, hl4⟩ : ∃ ls hg, eOrV (eComp 1 (itAny (eVar 5)) (gName 0) (tBool (eBin oEq (eCall f__law_take (aCons (eVar 1) (aCons (eDat (.int 2)) (aNil)))) (eDat (.int 1)))) (eVar 0)) (eLst (aCons (eBin oIx (eVar 5) (eCall f__law_take (aCons (eVar 0) (aCons (eVar 3) (aNil))))) (aNil))) [some (.ref i), some (.int mn), some (.int ms), some (.int c), some (.ref ha.length), some (.dat (.list ns)), some x, y7] (he ++ [.dct true kvs]) = .ok (.dat (.list ls)) (hg ++ [.dct true kvs]) ∧ Bs i hf hg ∧ risP ls = true ∧ (∀ d ∈ ls, d ∈ ns) ∧ 0 < ls.length ∧ ls.length ≤ 4 := by
        by_cases q : ls0 = []
        · subst q
          obtain ⟨_, hg0, eg, sg0, v, rfl, hv⟩ := take_dr (bf.push (o := .dct true kvs) rfl) (c := (c : Int)) (by omega) (by omega)
          obtain ⟨hg, rfl, sg⟩ := sg0.pop bf.lt
          obtain ⟨z, ez, mz⟩ := atI_mem (xs := ns) (k := v) (by omega)
          exact ⟨[z], hg, by unfold eOrV; rw [ef]; simp [eg, ez], sg, rfl, by simpa using mz, by simp, by simp⟩
        · have q1 : ls0.isEmpty = false := by cases ls0 <;> simp_all
          exact ⟨ls0, hf, by unfold eOrV; rw [ef]; simp [q1], bf.refl, ris_sub (cmpAll_strs ns2) (areTrees_strs ns2) nm.names.2.1 sl0, fun d m => sl0.subset m, List.length_pos_iff.mpr q, by have := sl0.length_le; have := nm.c4; omega⟩
      have bg := sg.bx bf
      obtain ⟨_, hk0, ek, sk0, v, rfl, hv⟩ := take_dr (bg.push (o := .dct true kvs) rfl) (c := (c : Int)) (by omega) (by omega)
      obtain ⟨hk, rfl, sk⟩ := sk0.pop bg.lt
      obtain ⟨z, ez, mz⟩ := atI_mem (xs := ns) (k := v) (by omega)
      have lk : hk.length = ha.length := by rw [sk.len, sg.len, sf.len, s1.len, lhd]
      have jq := sub_js ns2 rl sl hl mz
      have tq := js_tree ns2 jq
      have gt : (hk ++ [MO.dct true kvs])[ha.length]? = some (.dct true kvs) := by rw [← lk]; simp
      refine ⟨_, _, [some (.ref i), some (.int mn), some (.int ms), some (.int c), some (.ref ha.length), some (.dat (.list ns)), some x, some (.dat (.list ls))], hk ++ [.dct true (dput kvs (.tuple [.tuple ls, z]) (.bool true))], rfl, .inl ?_, hk, _, rfl, ((s1.trans sf).trans sg).trans sk, Nat.le_trans (dput_length _ _ _) (by omega), dput_nodup tq.1 (fun q m => (js_tree ns2 (js1 q m).1).1) nd1, fun q m => ?_, _, _, rfl⟩
      · have st : (hk ++ [MO.dct true kvs]).set ha.length (.dct true (dput kvs (.tuple [.tuple ls, z]) (.bool true))) = hk ++ [.dct true (dput kvs (.tuple [.tuple ls, z]) (.bool true))] := by rw [← lk]; simp
        unfold sSeq sSet
        simp only [List.set_cons_succ, List.set_cons_zero]
        rw [eg]
        simp [gSub, bTuple, listOf, ek, ez, mSetIx, gt, mSetD, tq.2.1, flatP, show kvs.length < 16777216 by omega, st]
      · rcases dput_sub m with m | rfl
        · exact js1 q m
        · exact ⟨jq, ((Oks.cons ((Oks.sub nm.ok sl).tup.mono (by omega : _ ≤ 20) (Nat.le_refl _)) (Oks.one ((nm.ok z mz).mono (Nat.le_refl _) (by omega)))).tup).mono (by omega) (by omega)⟩) ⟨hd, [], rfl, bd.refl, by simp, by simp [keyd], by simp [keyd], none, none, rfl⟩
  have lk : he.length = ha.length := by rw [sh.len, lhd]
  have gt : (he ++ [MO.dct true kvs])[ha.length]? = some (.dct true kvs) := by rw [← lk]; simp
  have tr : areTrees (keyd kvs) = true := areTrees_of fun d m => (js_tree ns2 (hjs d m).1).1
  have cp : cmpAll (keyd kvs) = true := cmpAll_of fun a ha b hb => cm_JS ns2 (hjs a ha).1 (hjs b hb).1
  have hkl : kvs.length ≤ ms := by
    have : (nums 0 (t * (if 0 < c then 1 else 0))).length ≤ t := by
      simp only [nums, List.length_map, List.length_range]
      split <;> omega
    omega
  have so : sortOk (keyd kvs) = true := by
    have d1 : PyData.depthAll (keyd kvs) ≤ 20 := Nat.le_trans (depthAll_le fun d m => (js_tree ns2 (hjs d m).1).2.2.2) (by decide)
    have t1 : (keyd kvs).all isTupT = true := List.all_eq_true.mpr fun d m => (js_tree ns2 (hjs d m).1).2.2.1
    simp [sortOk, -List.all_eq_true, t1, tr, cp, d1]
    simp [keyd]
    omega
  have res := scopd_dr (f := r__law_joint) (xs := [.ref i, .int mn, .int ms]) (h := h) (h1 := he) (t := [.dct true kvs]) (x := .tuple [.tuple ns, .tuple (sortP ltB (keyd kvs))]) b (by
    unfold r__law_joint
    exact joint_run ea eb ex hns ec eT gt so (by omega)) (((sa.trans sb).trans sd).trans sh)
  refine ⟨_, he, res, ((sa.trans sb).trans sd).trans sh, ns, sortP ltB (keyd kvs), rfl, ⟨c, by omega, nm⟩, ?_, ?_, sortP_ris cp tr hnd, fun d m => (hjs d ((sortP_perm ltB _).mem_iff.mp m)).2⟩
  · rw [(sortP_perm ltB _).length_eq]; simpa [keyd] using hkl
  · exact allP_iff.mpr fun d m => (hjs d ((sortP_perm ltB _).mem_iff.mp m)).1
end Ml
namespace Ml
open PySem
theorem Bs.keep0 {i : Nat} {h h' : Hm} {P : Addr} {q : Str} (b : Bx i h) (s : Bs i h h') (t : h[0]? = some (.tab P q)) : h'[0]? = some (.tab P q) := by
  obtain ⟨n, rfl⟩ := s
  by_cases hi : i = 0
  · subst hi
    obtain ⟨⟨m, e⟩, _⟩ := b
    rw [t] at e
    cases e
  · rw [List.getElem?_set_ne hi]; exact t
def xNJ : Xc := ⟨"NoJoint", []⟩
theorem check_bad {d : PyData} {h : Hm} (e : f_is_joint [.dat d] h = .ok (.bool false) h) : f_check_joint [.dat d] h = .exc xNJ h := by
  unfold f_check_joint b_check_joint
  simp [e, sRaise, szOk, xNJ]
theorem check_ok {d : PyData} {h : Hm} (e : f_is_joint [.dat d] h = .ok (.bool true) h) : f_check_joint [.dat d] h = .ok D.none h := by
  unfold f_check_joint b_check_joint
  simp [e]
theorem ajr_bad {d r : PyData} {h : Hm} (e : f_is_joint [.dat d] h = .ok (.bool false) h) : f_are_joint_right [.dat d, .dat r] h = .exc xNJ h := by
  unfold f_are_joint_right b_are_joint_right
  simp [check_bad e]
theorem jm_bad {d : PyData} {h : Hm} (e : f_is_joint [.dat d] h = .ok (.bool false) h) : f_joint_marks [.dat d] h = .exc xNJ h := by
  unfold f_joint_marks b_joint_marks
  simp [check_bad e]
theorem po_bad {d : PyData} {h : Hm} (e : f_is_joint [.dat d] h = .ok (.bool false) h) : f_plain_of [.dat d] h = .exc xNJ h := by
  unfold f_plain_of b_plain_of
  simp [check_bad e]
theorem cls9 : clsAt "NoJoint" = some 9 := by decide +kernel
abbrev jW : PyData := .tuple [.str "joint"]
theorem said_bad {j : Nat} {idx : List Nat} {b : ME} {ρ : Fm} {h : Hm} (t : h[j]? = some (.tab tabP tabQ)) (hs : (pick ρ idx).all Option.isSome = true) (e : b (pick ρ idx) h = .exc xNJ h) : eSaid [9] j tabP tabQ idx b ρ h = .ok (.dat jW) h := by
  unfold eSaid
  rw [t]
  simp only [hs, and_self, if_true]
  rw [e]
  simp only [saidR, xNJ, cls9]
  rfl
theorem words_bad {d r : PyData} {h : Hm} (w : Wf h) (t : h[0]? = some (.tab tabP tabQ)) (e : ∀ h, f_is_joint [.dat d] h = .ok (.bool false) h) : f__law_words [.dat d, .dat r] h = .ok (.dat (.list [jW, jW, jW])) h := by
  have tl : ∀ x : MO, (h ++ [x])[0]? = some (.tab tabP tabQ) := fun x => by
    rw [List.getElem?_append_left (List.getElem?_eq_some_iff.mp t).1]; exact t
  have a1 : eSaid [9] 0 tabP tabQ [0, 1] (eCall f_are_joint_right (aCons (eVar 0) (aCons (eVar 1) (aNil)))) [some (.dat d), some (.dat r), none] h = .ok (.dat jW) h := said_bad t rfl (by simp [pick, ajr_bad (e h)])
  have s1 : sSet 2 (eMut (aCons (eSaid [9] 0 tabP tabQ [0, 1] (eCall f_are_joint_right (aCons (eVar 0) (aCons (eVar 1) (aNil))))) (aNil))) [some (.dat d), some (.dat r), none] h = .ok (.nx [some (.dat d), some (.dat r), some (.ref h.length)]) (h ++ [.lst [.dat jW]]) := by
    refine sSet_ok (x := .ref h.length) ?_
    unfold eMut
    exact (eCall_ok (aCons_ok a1 rfl)).trans rfl
  have g1 : (h ++ [MO.lst [.dat jW]])[h.length]? = some (.lst [.dat jW]) := by simp
  have a2 : eSaid [9] 0 tabP tabQ [0] (eCall f_joint_marks (aCons (eVar 0) (aNil))) [some (.dat d), some (.dat r), some (.ref h.length)] (h ++ [.lst [.dat jW]]) = .ok (.dat jW) (h ++ [.lst [.dat jW]]) := said_bad (tl _) rfl (by simp [pick, jm_bad (e _)])
  have s2 : sExpr (eMet mAppend (eVar 2) (eSaid [9] 0 tabP tabQ [0] (eCall f_joint_marks (aCons (eVar 0) (aNil))))) [some (.dat d), some (.dat r), some (.ref h.length)] (h ++ [.lst [.dat jW]]) = .ok (.nx [some (.dat d), some (.dat r), some (.ref h.length)]) (h ++ [.lst [.dat jW, .dat jW]]) := by
    unfold sExpr eMet
    simp only [eVar, List.getElem?_cons_succ, List.getElem?_cons_zero, R.bind_ok, isL, g1, if_true, a2]
    simp [mAppend, g1]
  have g2 : (h ++ [MO.lst [.dat jW, .dat jW]])[h.length]? = some (.lst [.dat jW, .dat jW]) := by simp
  have a3 : eSaid [9] 0 tabP tabQ [0] (eCall f_plain_of (aCons (eVar 0) (aNil))) [some (.dat d), some (.dat r), some (.ref h.length)] (h ++ [.lst [.dat jW, .dat jW]]) = .ok (.dat jW) (h ++ [.lst [.dat jW, .dat jW]]) := said_bad (tl _) rfl (by simp [pick, po_bad (e _)])
  have s3 : sRet (eBin oCat (eVar 2) (eLst (aCons (eSaid [9] 0 tabP tabQ [0] (eCall f_plain_of (aCons (eVar 0) (aNil)))) (aNil)))) [some (.dat d), some (.dat r), some (.ref h.length)] (h ++ [.lst [.dat jW, .dat jW]]) = .ok (.rt (.dat (.list [jW, jW, jW]))) (h ++ [.lst [.dat jW, .dat jW]]) := by
    have : eBin oCat (eVar 2) (eLst (aCons (eSaid [9] 0 tabP tabQ [0] (eCall f_plain_of (aCons (eVar 0) (aNil)))) (aNil))) [some (.dat d), some (.dat r), some (.ref h.length)] (h ++ [.lst [.dat jW, .dat jW]]) = .ok (.dat (.list [jW, jW, jW])) (h ++ [.lst [.dat jW, .dat jW]]) := eBin_ok rfl (by unfold eLst; exact (eCall_ok (aCons_ok a3 rfl)).trans (mkLst1 _ _)) (by simp [oCat, listOf, g2, datas, D.data, szOk])
    unfold sRet
    rw [this]
    rfl
  have run : r__law_words [.dat d, .dat r] h = .ok (.dat (.list [jW, jW, jW])) (h ++ [.lst [.dat jW, .dat jW]]) := by
    unfold r__law_words b__law_words runFn
    simp only [List.length_cons, List.length_nil, if_true, List.map_cons, List.map_nil, List.cons_append, List.nil_append, show 3 - 2 = 1 from rfl, rep1]
    rw [sSeq_nx s1, sSeq_nx s2, s3]
    rfl
  have e1 : (h ++ [MO.lst [.dat jW, .dat jW]]).take h.length = h := by simp
  have e2 : h.all (MO.below h.length) = true := List.all_eq_true.mpr fun o m => w o m
  unfold f__law_words
  simp only [scopd, run, e1, e2, D.below, List.length_append, Bool.and_self, Bool.true_and]
  simp
theorem three (h : Hm) : eBin oMul (eDat (.list [.tuple [.str "joint"]])) (eDat (.int 3)) ρ h = .ok (.dat (.list [jW, jW, jW])) h := by
  refine eBin_ok rfl rfl ?_
  rfl
theorem ne3 (h : Hm) : oNe (.dat (.list [jW, jW, jW])) (.dat (.list [jW, jW, jW])) h = .ok (.bool false) h := by
  have : eqQ (.list [jW, jW, jW]) (.list [jW, jW, jW]) = some true := by decide +kernel
  simp [oNe, deD, this]
abbrev bd1 : MS := sIf (tAnd (tNot (tTruth (eCall f_is_joint (aCons (eVar 3) (aNil))))) (tBool (eBin oNe (eCall f__law_words (aCons (eVar 3) (aCons (eDat .none) (aNil)))) (eBin oMul (eDat (.list [.tuple [.str "joint"]])) (eDat (.int 3)))))) (sRet (eDat (.bool false))) (sNext)
theorem bd1_ok {d : PyData} {h : Hm} {b : Bool} (w : Wf h) (t : h[0]? = some (.tab tabP tabQ)) (e : ∀ h, f_is_joint [.dat d] h = .ok (.bool b) h) (a0 a1 a2 : Option D) : bd1 [a0, a1, a2, some (.dat d)] h = .ok (.nx [a0, a1, a2, some (.dat d)]) h := by
  cases b with
  | true => simp [bd1, e]
  | false =>
    have k : eBin oNe (eCall f__law_words (aCons (eVar 3) (aCons (eDat .none) (aNil)))) (eBin oMul (eDat (.list [.tuple [.str "joint"]])) (eDat (.int 3))) [a0, a1, a2, some (.dat d)] h = .ok (.bool false) h := eBin_ok ((eCall_ok (xs := [.dat d, .dat .none]) (by simp)).trans (words_bad w t e)) (three h) (ne3 h)
    exact (sIf_f ((tAnd_t (tNot_ok (c := false) (tTruth_ok ((eCall_ok (xs := [.dat d]) (by simp)).trans (e h)) rfl))).trans (tBool_ok k))).trans rfl
abbrev bd2 : MS := sIf (tOr (tBool (eBin oIsNot (eCall f_is_joint (aCons (eVar 3) (aNil))) (eDat (.bool false)))) (tBool (eBin oNe (eCall f__law_words (aCons (eVar 3) (aCons (eDat (.tuple [])) (aNil)))) (eBin oMul (eDat (.list [.tuple [.str "joint"]])) (eDat (.int 3)))))) (sRet (eDat (.bool false))) (sNext)
theorem bd2_ok {d : PyData} {h : Hm} (w : Wf h) (t : h[0]? = some (.tab tabP tabQ)) (e : ∀ h, f_is_joint [.dat d] h = .ok (.bool false) h) (a0 a1 a2 : Option D) : bd2 [a0, a1, a2, some (.dat d)] h = .ok (.nx [a0, a1, a2, some (.dat d)]) h := by
  have k : eBin oNe (eCall f__law_words (aCons (eVar 3) (aCons (eDat (.tuple [])) (aNil)))) (eBin oMul (eDat (.list [.tuple [.str "joint"]])) (eDat (.int 3))) [a0, a1, a2, some (.dat d)] h = .ok (.bool false) h := eBin_ok ((eCall_ok (xs := [.dat d, .dat (.tuple [])]) (by simp)).trans (words_bad w t e)) (three h) (ne3 h)
  have k1 : eBin oIsNot (eCall f_is_joint (aCons (eVar 3) (aNil))) (eDat (.bool false)) [a0, a1, a2, some (.dat d)] h = .ok (.bool false) h := by simp [e, oIsNot, plainD, isP]
  exact (sIf_f ((tOr_f (tBool_ok k1)).trans (tBool_ok k))).trans rfl
theorem loop_ok {b : MS} {h : Hm} {a0 a1 a2 : Option D} : ∀ {ds : List PyData}, (∀ d ∈ ds, b [a0, a1, a2, some (.dat d)] h = .ok (.nx [a0, a1, a2, some (.dat d)]) h) → ∀ {a3 : Option D}, ∃ b3, forGo (gName 3) b (ds.map D.dat) [a0, a1, a2, a3] h = .ok (.nx [a0, a1, a2, b3]) h
  | [], _, a3 => ⟨a3, rfl⟩
  | d :: ds, H, a3 => by
    obtain ⟨b3, e⟩ := loop_ok (a3 := some (.dat d)) (fun x m => H x (List.mem_cons_of_mem _ m))
    refine ⟨b3, ?_⟩
    simp only [List.map_cons, forGo, gName, R.noX_ok, R.bind_ok, List.set_cons_succ, List.set_cons_zero]
    rw [H d (List.mem_cons_self ..)]
    simp only [R.noX_ok, R.bind_ok]
    exact e
theorem isj {n m : Nat} {d : PyData} (o : OkD n m d) (hn : n ≤ 10000) (hm : m ≤ 40) : ∃ b, ∀ h, f_is_joint [.dat d] h = .ok (.bool b) h := by
  rcases o with o | rfl | rfl
  · exact ⟨_, fun h => is_joint_ok o hn hm h⟩
  · exact ⟨_, fun h => is_joint_dict _ h⟩
  · exact ⟨_, fun h => is_joint_dict _ h⟩
theorem Jt.okJ' {ns ss : List PyData} (j : Jt 4 4 ns ss) : Ok 200 4 (.tuple [.tuple ns, .tuple ss]) ∧ Oks 20 0 ns ∧ isJoint (.tuple [.tuple ns, .tuple ss]) = true := by
  obtain ⟨c, hc, nm⟩ := j.nm
  obtain ⟨n1, n2, l⟩ := nm.names
  have l2 := j.len
  have o1 := Oks.of nm.ok
  have o2 := (Oks.of j.ok).tup
  refine ⟨((Oks.cons (o1.tup.mono (Nat.le_refl _) (by omega : 0 + 1 ≤ 3)) (Oks.one o2)).tup).mono (by omega) (by omega), o1.mono (by omega) (Nat.le_refl _), ?_⟩
  simp [isJoint, areNames, lenP, itemsP, areJS, n1, n2, j.js, j.ris, show ns.length ≤ 12 by omega, show ns.length ≤ 4 by omega, show ss.length ≤ 4 by omega]
def wrong2 : List PyData := [.tuple [.tuple [.str "a"], .tuple [.tuple [.tuple [], .str "a"]]], .tuple [.tuple [.str "a"], .tuple [.tuple [.tuple [.str "a"], .str "b"]]], .tuple [.tuple [.str "a", .str "b", .str "c", .str "d", .str "e"], .tuple []], .tuple [.tuple [.str "b", .str "a"], .tuple []], .int 0, .str ""]
theorem wrong2_ok : ∀ x ∈ wrong2, okB 50 5 x = true ∧ isJoint x = false := by decide +kernel
theorem mkLst6 (a b c d e f : PyData) (h : Hm) : mkLst [.dat a, .dat b, .dat c, .dat d, .dat e, .dat f] h = .ok (.dat (.list [a, b, c, d, e, f])) h := mkLst_dat [a, b, c, d, e, f] h (by simp)
theorem mkLst4' (a b c d : PyData) (h : Hm) : mkLst [.dat a, .dat b, .dat c, .dat d] h = .ok (.dat (.list [a, b, c, d])) h := mkLst_dat [a, b, c, d] h (by simp)
theorem abcde (h : Hm) : bTuple [.dat (.str "abcde")] h = .ok (.dat (.tuple [.str "a", .str "b", .str "c", .str "d", .str "e"])) h := by
  have : signsP "abcde" = [.str "a", .str "b", .str "c", .str "d", .str "e"] := by kernel_rfl
  have z : szOk ("abcde" : Str).cps.size = true := by kernel_rfl
  simp only [bTuple, this, z, if_true]
theorem bents8 {i : Nat} {h : Hm} (b : Bx i h) {x : PyData} (o : Ok 200 4 x) {ρ : Fm} (e0 : ρ[0]? = some (some (.ref i))) (e1 : ρ[1]? = some (some (.dat x))) :
    Dr i h (eComp 1 (itRng (aCons (eDat (.int 8)) (aNil))) (gName 0) (tTrue) (eCall (f__law_bent 5) (aCons (eVar 1) (aCons (eVar 2) (aNil)))) ρ h) fun d => ∃ ls : List PyData, d = .dat (.list ls) ∧ ls.length ≤ 8 ∧ ∀ y ∈ ls, Ok 420 5 y := by
  have it : itRng (aCons (eDat (.int 8)) aNil) ρ h = .ok (nums 0 8) h := itRng_ok (n := 8) (by simp) (by decide)
  unfold eComp eCall aComp
  rw [it]
  simp only [R.bind_ok, show szOk (nums 0 8).length = true from rfl, if_true]
  obtain ⟨ys, zs, h', q1, q2, q3, q4⟩ := compGo_inv (n := 1) (ρ := ρ) (g := gName 0) (t := tTrue) (e := eCall (f__law_bent 5) (aCons (eVar 1) (aCons (eVar 2) (aNil)))) (Bs i h) (fun _ y => ∃ z, y = .dat z ∧ Ok 420 5 z) (xs := nums 0 8) (h := h) (fun x hx h1 s1 => by
    obtain ⟨_, h2, e2, s2, z, rfl, oz⟩ := bent_dr 5 (s1.bx b) o (by decide) (by decide)
    exact ⟨some x :: ρ, h1, true, h1, rfl, rfl, .inr ⟨rfl, _, h2, by simp [e0, e1, e2], ⟨z, rfl, oz.mono (by decide) (by decide)⟩, s1.trans s2⟩⟩) b.refl
  obtain ⟨ls, rfl, hl⟩ : ∃ ls : List PyData, ys = ls.map D.dat ∧ ∀ y ∈ ls, Ok 420 5 y := by
    clear q1 q2 q3
    induction q4 with
    | nil => exact ⟨[], rfl, by simp⟩
    | cons hz _ ih =>
      obtain ⟨z, rfl, oz⟩ := hz
      obtain ⟨ls, rfl, hl⟩ := ih
      exact ⟨z :: ls, rfl, by simpa using ⟨oz, hl⟩⟩
  have len : ls.length ≤ 8 := by
    have := pairLen q4
    have := q3.length_le
    simp [nums] at *
    omega
  have q1' : compGo 1 ρ (gName 0) tTrue (fun ρ h => (aCons (eVar 1) (aCons (eVar 2) aNil) ρ h).bind fun xs h1 => f__law_bent 5 xs h1) (nums 0 8) h = .ok (ls.map D.dat) h' := q1
  rw [q1']
  refine ⟨.dat (.list ls), h', ?_, q2, ls, rfl, len, hl⟩
  simp only [R.bind_ok]
  exact mkLst_dat ls h' (by omega)
theorem right_dr {i : Nat} {h : Hm} (b : Bx i h) (t0 : h[0]? = some (.tab tabP tabQ)) : Dr i h (f__law_right [.ref i] h) fun d => d = .bool true := by
  obtain ⟨_, ha, ea, sa, ns, ss, rfl, j⟩ := joint_dr b 4 4 (by decide) (by decide)
  have ba := sa.bx b
  have ta := sa.keep0 b t0
  obtain ⟨oj, on, tj⟩ := j.okJ'
  generalize hX : PyData.tuple [.tuple ns, .tuple ss] = X at ea oj tj
  let w1 : List PyData := [.none, .tuple [], .list [.tuple ns, .tuple ss], .tuple [.tuple ns], .tuple [.tuple ns, .tuple ss, .tuple []], .tuple [.tuple ns, .list []]]
  obtain ⟨_, hb, eb, sb, ls, rfl, ll, ol⟩ := bents8 ba oj (ρ := [some (D.ref i), some (.dat X), some (.dat (.list w1)), none]) rfl rfl
  have bb := sb.bx ba
  have tb := sb.keep0 ba ta
  have o2 : Oks 200 3 [.tuple ns, .tuple ss] := by rw [← hX] at oj; exact oj.items
  have on1 : Ok 20 1 (.tuple ns) := on.tup
  have e0 : Ok 0 1 (.tuple []) := (Oks.nil).tup
  have e1 : Ok 0 1 (.list []) := (Oks.nil).lst
  have all1 : ∀ d ∈ w1 ++ ls, OkD 420 5 d := by
    intro d hd
    simp only [w1, List.mem_append, List.mem_cons, List.not_mem_nil, or_false] at hd
    rcases hd with (rfl | rfl | rfl | rfl | rfl | rfl) | m
    · exact .inl (okB_ok (by decide +kernel))
    · exact .inl (e0.mono (by decide) (by decide))
    · exact .inl (o2.lst.mono (by decide) (by decide))
    · exact .inl ((Oks.one on1).tup.mono (by decide) (by decide))
    · exact .inl ((o2.append (Oks.one (e0.mono (Nat.le_refl _) (by decide : 1 ≤ 3)))).tup.mono (by decide) (by decide))
    · exact .inl ((Oks.cons on1 (Oks.one e1)).tup.mono (by decide) (by decide))
    · exact .inl (ol d m)
  obtain ⟨b3, eL1⟩ := loop_ok (b := bd1) (h := hb) (a0 := some (D.ref i)) (a1 := some (.dat X)) (a2 := some (.dat (.list w1))) (ds := w1 ++ ls) (fun d m => by
    obtain ⟨c, e⟩ := isj (all1 d m) (by decide) (by decide)
    exact bd1_ok bb.wf tb e _ _ _) (a3 := none)
  obtain ⟨b4, eL2⟩ := loop_ok (b := bd2) (h := hb) (a0 := some (D.ref i)) (a1 := some (.dat X)) (a2 := some (.dat (.list (wrong2.take 4)))) (ds := wrong2 ++ [.dict []]) (fun d m => by
    refine bd2_ok bb.wf tb (fun h => ?_) _ _ _
    rcases List.mem_append.mp m with m | m
    · obtain ⟨o, k⟩ := wrong2_ok d m
      rw [is_joint_ok (okB_ok o) (by decide) (by decide), k]
    · simp only [List.mem_singleton] at m
      subst m
      exact is_joint_dict _ h) (a3 := b3)
  refine ⟨_, hb, ?_, sa.trans sb, rfl⟩
  unfold f__law_right b__law_right runFn
  simp only [List.length_cons, List.length_nil, if_true, List.map_cons, List.map_nil, List.cons_append, List.nil_append, show 4 - 1 = 3 from rfl, rep3]
  have ea' : f__law_joint [.ref i, .int 4, .int 4] h = .ok (.dat X) ha := ea
  have s1 : sSet 1 (eCall f__law_joint (aCons (eVar 0) (aCons (eDat (.int 4)) (aCons (eDat (.int 4)) (aNil))))) [some (D.ref i), none, none, none] h = .ok (.nx [some (D.ref i), some (.dat X), none, none]) ha := by
    simp [ea']
  have s2 : sSet 2 (eLst (aCons (eDat .none) (aCons (eDat (.tuple [])) (aCons (eCall bList (aCons (eVar 1) (aNil))) (aCons (eSl (eVar 1) (pNone) (pSome (eDat (.int 1)))) (aCons (eBin oAdd (eVar 1) (eDat (.tuple [.tuple []]))) (aCons (eTup (aCons (eBin oIx (eVar 1) (eDat (.int 0))) (aCons (eDat (.list [])) (aNil)))) (aNil)))))))) [some (D.ref i), some (.dat X), none, none] ha = .ok (.nx [some (D.ref i), some (.dat X), some (.dat (.list w1)), none]) ha := by
    subst hX
    have c1 : cut [PyData.tuple ns, .tuple ss] none (some 1) = [.tuple ns] := by
      have := cut_to [PyData.tuple ns, .tuple ss] 1
      simpa using this
    have k1 : eCall bList (aCons (eVar 1) (aNil)) [some (D.ref i), some (.dat (.tuple [.tuple ns, .tuple ss])), none, none] ha = .ok (.dat (.list [.tuple ns, .tuple ss])) ha := by simp [bList, dctOf, bListS]
    have k2 : eSl (eVar 1) (pNone) (pSome (eDat (.int 1))) [some (D.ref i), some (.dat (.tuple [.tuple ns, .tuple ss])), none, none] ha = .ok (.dat (.tuple [.tuple ns])) ha := by simp [c1]
    have k3 : eBin oAdd (eVar 1) (eDat (.tuple [.tuple []])) [some (D.ref i), some (.dat (.tuple [.tuple ns, .tuple ss])), none, none] ha = .ok (.dat (.tuple ([.tuple ns, .tuple ss] ++ [.tuple []]))) ha := eBin_ok rfl rfl (oAdd_tup _ (by simp))
    have k4 : eTup (aCons (eBin oIx (eVar 1) (eDat (.int 0))) (aCons (eDat (.list [])) (aNil))) [some (D.ref i), some (.dat (.tuple [.tuple ns, .tuple ss])), none, none] ha = .ok (.dat (.tuple [.tuple ns, .list []])) ha := by simp
    exact sSet_ok (by unfold eLst; exact (eCall_ok (aCons_ok rfl (aCons_ok rfl (aCons_ok k1 (aCons_ok k2 (aCons_ok k3 (aCons_ok k4 rfl))))))).trans (mkLst6 _ _ _ _ _ _ _))
  have s3 : sFor (itAny (eBin oAdd (eVar 2) (eComp 1 (itRng (aCons (eDat (.int 8)) (aNil))) (gName 0) (tTrue) (eCall (f__law_bent 5) (aCons (eVar 1) (aCons (eVar 2) (aNil))))))) (gName 3) bd1 [some (D.ref i), some (.dat X), some (.dat (.list w1)), none] ha = .ok (.nx [some (D.ref i), some (.dat X), some (.dat (.list w1)), b3]) hb :=
    sFor_ok (itAny_l (eBin_ok rfl eb (oAdd_lst _ (by show 6 + ls.length ≤ _; omega)))) eL1
  have s4 : sSet 2 (eLst (aCons (eDat (.tuple [.tuple [.str "a"], .tuple [.tuple [.tuple [], .str "a"]]])) (aCons (eDat (.tuple [.tuple [.str "a"], .tuple [.tuple [.tuple [.str "a"], .str "b"]]])) (aCons (eTup (aCons (eCall bTuple (aCons (eDat (.str "abcde")) (aNil))) (aCons (eDat (.tuple [])) (aNil)))) (aCons (eDat (.tuple [.tuple [.str "b", .str "a"], .tuple []])) (aNil)))))) [some (D.ref i), some (.dat X), some (.dat (.list w1)), b3] hb = .ok (.nx [some (D.ref i), some (.dat X), some (.dat (.list (wrong2.take 4))), b3]) hb := by
    have k1 : eTup (aCons (eCall bTuple (aCons (eDat (.str "abcde")) (aNil))) (aCons (eDat (.tuple [])) (aNil))) [some (D.ref i), some (.dat X), some (.dat (.list w1)), b3] hb = .ok (.dat (.tuple [.tuple [.str "a", .str "b", .str "c", .str "d", .str "e"], .tuple []])) hb := by
      unfold eTup
      exact (eCall_ok (aCons_ok ((eCall_ok (aCons_ok rfl rfl)).trans (abcde hb)) (aCons_ok rfl rfl))).trans (mkTup2 _ _ _)
    exact sSet_ok (by unfold eLst; exact (eCall_ok (aCons_ok rfl (aCons_ok rfl (aCons_ok k1 (aCons_ok rfl rfl))))).trans (mkLst4' _ _ _ _ _))
  have s5 : sFor (itAny (eBin oAdd (eVar 2) (eDat (.list [.int 0, .str "", .dict []])))) (gName 3) bd2 [some (D.ref i), some (.dat X), some (.dat (.list (wrong2.take 4))), b3] hb = .ok (.nx [some (D.ref i), some (.dat X), some (.dat (.list (wrong2.take 4))), b4]) hb :=
    sFor_ok (itAny_l (ds := wrong2 ++ [.dict []]) (eBin_ok rfl rfl (oAdd_lst _ (by decide)))) eL2
  have ij : ∀ h, f_is_joint [.dat X] h = .ok (.bool true) h := fun h => by rw [is_joint_ok oj (by decide) (by decide), tj]
  have am : f_are_marks [.dat .none, .dat (.tuple ns)] hb = .ok (.bool false) hb := by
    unfold f_are_marks b_are_marks
    simp
  have ar : f_are_joint_right [.dat X, .dat .none] hb = .ok (.bool false) hb := by
    have ck := check_ok (ij hb)
    subst hX
    unfold f_are_joint_right b_are_joint_right
    simp [ck, am]
  have s6 : sRet (eAndV (eBin oIs (eCall f_is_joint (aCons (eVar 1) (aNil))) (eDat (.bool true))) (eBin oIs (eCall f_are_joint_right (aCons (eVar 1) (aCons (eDat .none) (aNil)))) (eDat (.bool false)))) [some (D.ref i), some (.dat X), some (.dat (.list (wrong2.take 4))), b4] hb = .ok (.rt (.bool true)) hb := by
    simp [ij, ar, oIs, plainD, isP]
  refine (congrArg (fun r => R.bind r endFn) (?_ : _ = R.ok (Fl.rt (D.bool true)) hb)).trans rfl
  refine (sSeq_nx s1).trans ((sSeq_nx s2).trans ((sSeq_nx s3).trans ((sSeq_nx s4).trans ((sSeq_nx s5).trans s6))))
theorem law_frameT {right : Fn} {P : Addr} {q : Str} (PL : ∀ {i : Nat} {h : Hm}, Bx i h → h[0]? = some (.tab P q) → Dr i h (right [.ref i] h) fun d => d = .bool true) {ns : List Int} {N : Nat} :
   ∀ (h : Hm), Wf h → h[0]? = some (.tab P q) → ∃ h' y1 y2, forGo (gName 1) (sFor (itRng (aCons (eDat (.int 2)) (aNil))) (gName 2) (sIf (tNot (tTruth (eCall right (aCons (eCall f__law_box (aCons (eVar 0) (aCons (eVar 1) (aCons (eVar 2) (aNil))))) (aNil))))) (sRet (eDat (.bool false))) (sNext))) (nums 0 N) [some (.scr ns), none, none] h = .ok (.nx [some (.scr ns), y1, y2]) h' := by
  intro h w t0
  obtain ⟨ρ', h', e, ⟨w', t'⟩, y1, y2, rfl⟩ := forGo_inv (g := gName 1) (b := sFor (itRng (aCons (eDat (.int 2)) (aNil))) (gName 2) (sIf (tNot (tTruth (eCall right (aCons (eCall f__law_box (aCons (eVar 0) (aCons (eVar 1) (aCons (eVar 2) (aNil))))) (aNil))))) (sRet (eDat (.bool false))) (sNext)))
    (fun _ ρ hh => (Wf hh ∧ hh[0]? = some (.tab P q)) ∧ ∃ y1 y2, ρ = [some (.scr ns), y1, y2]) (nums 0 N) 0 [some (.scr ns), none, none] h (fun j x hx ρ hh ⟨⟨w, t1⟩, y1, y2, e2⟩ => by
      subst e2
      simp only [nums, List.getElem?_map, Option.map_eq_some_iff] at hx
      obtain ⟨k, _, rfl⟩ := hx
      obtain ⟨ρ', h', e, ⟨w', t'⟩, z2, rfl⟩ := forGo_inv (g := gName 2) (b := sIf (tNot (tTruth (eCall right (aCons (eCall f__law_box (aCons (eVar 0) (aCons (eVar 1) (aCons (eVar 2) (aNil))))) (aNil))))) (sRet (eDat (.bool false))) (sNext))
        (fun _ ρ hh => (Wf hh ∧ hh[0]? = some (.tab P q)) ∧ ∃ y2, ρ = [some (.scr ns), some (.int (0 + (k : Int))), y2]) (nums 0 2) 0 [some (.scr ns), some (.int (0 + (k : Int))), y2] hh (fun j x hx ρ hh ⟨⟨w, t2⟩, y2, e2⟩ => by
          subst e2
          simp only [nums, List.getElem?_map, Option.map_eq_some_iff] at hx
          obtain ⟨l, _, rfl⟩ := hx
          obtain ⟨n, eb⟩ := box_ok ns k l hh
          have bx : Bx hh.length (hh ++ [.lst [.int n]]) := ⟨⟨n, by simp⟩, w.push rfl⟩
          have t3 : (hh ++ [MO.lst [.int n]])[0]? = some (.tab P q) := by rw [List.getElem?_append_left (List.getElem?_eq_some_iff.mp t2).1]; exact t2
          obtain ⟨_, h2, e2, s2, rfl⟩ := PL bx t3
          exact ⟨_, hh, [some (.scr ns), some (.int (0 + (k : Int))), some (.int (0 + (l : Int)))], h2, rfl, .inl (by simp [eb, e2]), ⟨(s2.bx bx).wf, s2.keep0 bx t3⟩, _, rfl⟩) ⟨⟨w, t1⟩, y2, rfl⟩
      refine ⟨_, hh, [some (.scr ns), some (.int (0 + (k : Int))), z2], h', rfl, .inl ?_, ⟨w', t'⟩, _, _, rfl⟩
      exact sFor_ok (itRng_ok (n := 2) (by simp) (by decide)) e) ⟨⟨w, t0⟩, none, none, rfl⟩
  exact ⟨h', y1, y2, e⟩
theorem law_pure : ∀ ns : List Int, ns.length ≤ 63 → ∃ h, f_law [.scr ns] [.tab tabP tabQ] = .ok (.bool true) h := by
  intro ns hn
  obtain ⟨h', y1, y2, e⟩ := law_frameT (right := f__law_right) (P := tabP) (q := tabQ) (fun b t => right_dr b t) (ns := ns) (N := max 1 (min ns.length 4)) [.tab tabP tabQ] (fun o m => by simp at m; subst m; rfl) rfl
  refine ⟨h', ?_⟩
  have it : itRng (aCons (eCall bMax (aCons (eDat (.int 1)) (aCons (eCall bMin (aCons (eCall bLen (aCons (eVar 0) (aNil))) (aCons (eDat (.int 4)) (aNil)))) (aNil)))) (aNil)) [some (.scr ns), none, none] [.tab tabP tabQ] = .ok (nums 0 (max 1 (min ns.length 4))) [.tab tabP tabQ] := itRng_ok (by
      refine aCons_ok ?_ rfl
      simp [bLen, bMin, bMax]
      split <;> split <;> omega) (by omega)
  unfold f_law b_law runFn
  simp only [List.length_cons, List.length_nil, if_true, List.map_cons, List.map_nil, List.cons_append, List.nil_append, show 3 - 1 = 2 from rfl, rep2]
  refine (congrArg (fun r => R.bind r endFn) (?_ : _ = R.ok (Fl.rt (D.bool true)) h')).trans rfl
  exact (sSeq_nx (ρ1 := [some (.scr ns), y1, y2]) (h1 := h') (sFor_ok it e)).trans rfl
end Ml
namespace K68
open PySem L2 Ml
theorem txt_mk {K : PySem.W.Frag} {h : Heap} {mg : Str → Option Value} {k0 : Tok} {k1 : Tok} {k2 : Tok} {xc0 : Addr} (X : K.In h) (G : h.Ns mainGlobals mg)
    (z0 : PySem.W.nsIn K mainGlobals "all" = some none)
    (z1 : PySem.W.nsIn K mainGlobals "len" = some none)
    (z2 : PySem.W.nsIn K mainGlobals "isinstance" = some none)
    (z3 : PySem.W.nsIn K mainGlobals "str" = some none)
    (z4 : PySem.W.nsIn K mainGlobals "zip" = some none)
    (z5 : PySem.W.nsIn K mainGlobals "tuple" = some none)
    (z6 : PySem.W.nsIn K mainGlobals "range" = some none)
    (z7 : PySem.W.nsIn K mainGlobals "abs" = some none)
    (z8 : PySem.W.nsIn K mainGlobals "divmod" = some none)
    (z9 : PySem.W.nsIn K mainGlobals "sorted" = some none)
    (z10 : PySem.W.nsIn K mainGlobals "list" = some none)
    (z11 : PySem.W.nsIn K mainGlobals "int" = some none)
    (z12 : PySem.W.nsIn K mainGlobals "max" = some none)
    (z13 : PySem.W.nsIn K mainGlobals "min" = some none)
    (a0 : PySem.W.nsIn K mainGlobals "LONGEST_NAME" = some (some (.int 6 k0)))
    (a1 : PySem.W.nsIn K mainGlobals "MOST_NAMES" = some (some (.int 12 k1)))
    (a2 : PySem.W.nsIn K mainGlobals "MOST_JOINT" = some (some (.int 4 k2)))
    (xn0 : PySem.W.nsIn K mainGlobals "NoJoint" = some (some (.ref xc0))) (xe0 : PySem.W.excIn K xc0 bmVE newVE = true)
    : Txt K mg := ⟨PySem.W.mg_none_of X G z0, PySem.W.mg_none_of X G z1, PySem.W.mg_none_of X G z2, PySem.W.mg_none_of X G z3, PySem.W.mg_none_of X G z4, PySem.W.mg_none_of X G z5, PySem.W.mg_none_of X G z6, PySem.W.mg_none_of X G z7, PySem.W.mg_none_of X G z8, PySem.W.mg_none_of X G z9, PySem.W.mg_none_of X G z10, PySem.W.mg_none_of X G z11, PySem.W.mg_none_of X G z12, PySem.W.mg_none_of X G z13, ⟨_, PySem.W.mg_of X G a0⟩, ⟨_, PySem.W.mg_of X G a1⟩, ⟨_, PySem.W.mg_of X G a2⟩, ⟨_, PySem.W.mg_of X G xn0, ⟨xn0, xe0⟩⟩⟩
structure ClsAll (K : PySem.W.Frag) (mg : Str → Option Value) (cs : Nat → Addr) (WE : Addr) : Prop where
  c : Wh.Clss mg cs
  r : Wh.Refs K cs WE [9]
  we : mg "WebError" = some (.ref WE)
theorem cls_mk {K : PySem.W.Frag} {h : Heap} {mg : Str → Option Value} {c0 c1 c2 c3 c4 c5 c6 c7 c8 c9 c10 c11 c12 c13 WE : Addr} (X : K.In h) (G : h.Ns mainGlobals mg)
    (n0 : PySem.W.nsIn K mainGlobals "NoWeb" = some (some (.ref c0)))
    (n1 : PySem.W.nsIn K mainGlobals "NoLot" = some (some (.ref c1)))
    (n2 : PySem.W.nsIn K mainGlobals "NoName" = some (some (.ref c2)))
    (n3 : PySem.W.nsIn K mainGlobals "NoKind" = some (some (.ref c3)))
    (n4 : PySem.W.nsIn K mainGlobals "NoPair" = some (some (.ref c4)))
    (n5 : PySem.W.nsIn K mainGlobals "NoChanges" = some (some (.ref c5)))
    (n6 : PySem.W.nsIn K mainGlobals "NoCount" = some (some (.ref c6)))
    (n7 : PySem.W.nsIn K mainGlobals "NoShut" = some (some (.ref c7)))
    (n8 : PySem.W.nsIn K mainGlobals "NoWay" = some (some (.ref c8)))
    (n9 : PySem.W.nsIn K mainGlobals "NoJoint" = some (some (.ref c9)))
    (n10 : PySem.W.nsIn K mainGlobals "NoSide" = some (some (.ref c10)))
    (n11 : PySem.W.nsIn K mainGlobals "NoDeed" = some (some (.ref c11)))
    (n12 : PySem.W.nsIn K mainGlobals "TooMany" = some (some (.ref c12)))
    (n13 : PySem.W.nsIn K mainGlobals "NoText" = some (some (.ref c13)))
    (we : PySem.W.nsIn K mainGlobals "WebError" = some (some (.ref WE))) (ve : PySem.W.nsIn K mainGlobals "ValueError" = some none)
    (i9 : (PySem.W.clsIn K c9).isSome = true) (g9 : PySem.W.findIn K (.ref c9) "__getattribute__" = some (some (.builtin "BaseException.__getattribute__"))) (ga9 : PySem.W.findIn K (.ref c9) "__getattr__" = some none) (be9 : PySem.W.mroIn K c9 (.type "BaseException") = some true) (a9 : PySem.W.findIn K (.ref c9) "__class__" = some (some (.builtin "object.__class__"))) (m9 : PySem.W.mroIn K c9 (.type "object") = some true)
    (k9 : Wh.kindB K [c0, c1, c2, c3, c4, c5, c6, c7, c8, c9, c10, c11, c12, c13] c9 WE 9 = true)
    (sp : PySem.W.specialIn K (.builtin "object.__class__") "__get__" = some (some (.builtin "getset_descriptor.__get__"))) (tk : PySem.W.takesIn K (.builtin "object.__class__") = some true) : ∃ cs WE, ClsAll K mg cs WE := by
  obtain ⟨q9, e9⟩ := Wh.kindB_ok k9 ⟨i9, g9, ga9, be9, a9, sp, tk, m9⟩
  refine ⟨Wh.csL [c0, c1, c2, c3, c4, c5, c6, c7, c8, c9, c10, c11, c12, c13], WE, ⟨PySem.W.mg_none_of X G ve, PySem.W.mg_of X G n0, PySem.W.mg_of X G n1, PySem.W.mg_of X G n2, PySem.W.mg_of X G n3, PySem.W.mg_of X G n4, PySem.W.mg_of X G n5, PySem.W.mg_of X G n6, PySem.W.mg_of X G n7, PySem.W.mg_of X G n8, PySem.W.mg_of X G n9, PySem.W.mg_of X G n10, PySem.W.mg_of X G n11, PySem.W.mg_of X G n12, PySem.W.mg_of X G n13⟩, fun j hj => ?_, PySem.W.mg_of X G we⟩
  simp only [List.mem_cons, List.not_mem_nil, or_false] at hj
  subst hj
  exact ⟨q9, e9⟩
theorem all_mk {l : PySem.W.OpenLaw} {w : World} {K : PySem.W.Frag} {h : Heap} {mg : Str → Option Value} {fa f : Addr} {od an : Option Addr} {sl : Array (Option Value)} {oc kV dc pm cd ct : Value} (X : K.In h) (G : h.Ns mainGlobals mg) (hfa : mg "law" = some (.ref fa)) (T : Txt K mg) (CA : ∃ cs WE, ClsAll K mg cs WE)
    (d0 : Df K mg "is_name" ["thing"] s_is_name)
    (d1 : Df K mg "is_rising" ["things"] s_is_rising)
    (d2 : Df K mg "are_names" ["thing"] s_are_names)
    (d3 : Df K mg "is_lot" ["thing", "names"] s_is_lot)
    (d4 : Df K mg "is_joint_strike" ["thing", "names"] s_is_joint_strike)
    (d5 : Df K mg "are_joint_strikes" ["thing", "names"] s_are_joint_strikes)
    (d6 : Df K mg "is_joint" ["thing"] s_is_joint)
    (d7 : Df K mg "check_joint" ["thing"] s_check_joint)
    (d8 : Df K mg "are_marks" ["thing", "names"] s_are_marks)
    (d9 : Df K mg "are_right" ["joint", "marks"] s_are_right)
    (d10 : Df K mg "are_joint_right" ["joint", "thing"] s_are_joint_right)
    (d11 : Df K mg "joint_marks" ["joint"] s_joint_marks)
    (d12 : Df K mg "plain_of" ["joint"] s_plain_of)
    (d13 : Df K mg "_law_cell" ["_law_script", "_law_k"] s__law_cell)
    (d14 : Df K mg "_law_mix" ["_law_cell_here", "_law_k"] s__law_mix)
    (d15 : Df K mg "_law_box" ["_law_script", "_law_k", "_law_lap"] s__law_box)
    (d16 : Df K mg "_law_take" ["_law_box_here", "_law_count"] s__law_take)
    (d17 : Df K mg "_law_joint" ["_law_box_here", "_law_most_names", "_law_most_strikes"] s__law_joint)
    (d18 : Df K mg "_law_bent" ["_law_box_here", "_law_thing"] s__law_bent)
    (d19 : DfT K mg "_law_words" ["_law_joint_here", "_law_row"] s__law_words tabP)
    (d20 : Df K mg "_law_right" ["_law_box_here"] s__law_right)
    (dw : Df K mg "_law_which" ["_law_e"] sWhich) (ds : Df K mg "_law_said" ["_law_call"] sSaid)
    (a : PySem.W.nsIn K mainGlobals "law" = some (some (.ref f))) (l0 : K.lookup f = some ⟨oc, od, .func (PySem.W.fnOf "law" "law" (defArgs s_law) (defBody s_law) (defScope s_law) .none kV dc pm an cd ct), sl⟩) (c : PySem.W.codeIn K cd "law" = true) (k : PySem.W.keepIn K (.ref f) = true) :
    ∃ (fd : FuncData) (c : Addr), PySem.W.codeHdIn K c tabP = true ∧ (∀ (s : Shared) (v : Value), BindsTo s fd ⟨[v], []⟩ [("_law_script", v)]) ∧ ∀ base : Heap, K.In base → base.Ns mainGlobals mg → (∃ bm, BMod base mg bm) → FnOk l.prog w K mg base (Fly l.prog w) 12 fa fd ["_law_script"] (spM ⟨l.prog, w, mg, K⟩ f_law) := by
  have e := hfa.symm.trans (PySem.W.mg_of X G a)
  cases e
  have FL := fun_mk (st := s_law) l0 c k
  obtain ⟨cs, WE, CA⟩ := CA
  obtain ⟨fB, cB, oB1, oB2, oB3, oB4, oB5, oB6, oB7, oB8, mB, lB, cdB, htB, kpB, bB⟩ := id d19
  refine ⟨PySem.W.fnOf "law" "law" (defArgs s_law) (defBody s_law) (defScope s_law) .none kV dc pm an cd ct, cB, htB, fun s v => .of_eq rfl, fun base _ _ BM => ?_⟩
  obtain ⟨bm, BM⟩ := BM
  obtain ⟨fw, fdw, mw, Fw, bw⟩ := dw
  obtain ⟨fq, fdq, mq, Fq, bq⟩ := ds
  have HW : HasFnH l.prog w K mg base "_law_which" ["_law_e"] 1 (Wh.spWhich K cs) := ⟨fw, fdw, mw, Fw.kp, bw, ok_which Fw T.n_isinstance CA.c⟩
  have HS : HasFnS l.prog w K mg base "_law_said" ["_law_call"] 9 (spLam l.prog w K mg base 8 (saidM (Wh.saidE K cs WE))) := ⟨fq, fdq, mq, Fq.kp, bq, ok_said 7 Fq CA.we HW⟩
  have HX : Hears mg [9] (Wh.saidE K cs WE) := Wh.hears CA.c CA.r
  have H_is_name := h_is_name (P := l.prog) (w := w) (base := base) d0 T
  have H_is_rising := h_is_rising (P := l.prog) (w := w) (base := base) d1 T
  have H_are_names := h_are_names (P := l.prog) (w := w) (base := base) d2 T H_is_rising H_is_name
  have H_is_lot := h_is_lot (P := l.prog) (w := w) (base := base) d3 T H_is_rising
  have H_is_joint_strike := h_is_joint_strike (P := l.prog) (w := w) (base := base) d4 T H_is_lot
  have H_are_joint_strikes := h_are_joint_strikes (P := l.prog) (w := w) (base := base) d5 T H_is_rising H_is_joint_strike
  have H_is_joint := h_is_joint (P := l.prog) (w := w) (base := base) d6 T H_are_joint_strikes H_are_names
  have H_check_joint := h_check_joint (P := l.prog) (w := w) (base := base) d7 T H_is_joint
  have H_are_marks := h_are_marks (P := l.prog) (w := w) (base := base) d8 T
  have H_are_right := h_are_right (P := l.prog) (w := w) (base := base) d9 T
  have H_are_joint_right := h_are_joint_right (P := l.prog) (w := w) (base := base) d10 T H_are_right H_are_marks H_check_joint
  have H_joint_marks := h_joint_marks (P := l.prog) (w := w) (base := base) d11 T H_check_joint
  have H_plain_of := h_plain_of (P := l.prog) (w := w) (base := base) d12 T H_check_joint
  have H__law_cell := h__law_cell (P := l.prog) (w := w) (base := base) d13 T
  have H__law_mix := h__law_mix (P := l.prog) (w := w) (base := base) d14 T
  have H__law_box := h__law_box (P := l.prog) (w := w) (base := base) d15 T H__law_mix H__law_cell
  have H__law_take := h__law_take (P := l.prog) (w := w) (base := base) d16 T
  have H__law_joint := h__law_joint (P := l.prog) (w := w) (base := base) d17 T H__law_take
  have H__law_bent := h__law_bent (P := l.prog) (w := w) (base := base) d18 T H__law_take 5
  have H__law_words := h__law_words (P := l.prog) (w := w) (base := base) d19 T H_plain_of H_joint_marks H_are_joint_right HS HX BM
  have H__law_right := h__law_right (P := l.prog) (w := w) (base := base) d20 T H_are_joint_right H_is_joint H__law_words H__law_bent H__law_joint
  exact ok_law (P := l.prog) (w := w) (base := base) FL T H__law_right H__law_box
theorem walk {l : PySem.W.OpenLaw} {q : Program} {loose : List Str} {XP : (Str → Option Value) → Heap → Prop} {YP : World → Heap → Prop} {d : DefRec} {K : Params → PySem.W.Frag} (hn : l.most = some 63) (hdf : d.params.defaults = [])
    (hY : ∀ (w : World) (h : Heap), YP w h → (K w.params).In h) (hYt : ∀ (w : World) (h : Heap), YP w h → h.get? tabP = some (PySem.W.tabObj #[])) (hPK : ∀ w : World, (K w.params).lookup tabP = none)
    (F : ∀ (w : World) (mg : Str → Option Value) (fa : Addr) (h : Heap), (K w.params).In h → h.Ns mainGlobals mg → mg d.name = some (.ref fa) →
      ∃ (fd : FuncData) (c : Addr), PySem.W.codeHdIn (K w.params) c tabP = true ∧ (∀ (s : Shared) (u : Value), BindsTo s fd ⟨[u], []⟩ [("_law_script", u)]) ∧ ∀ base : Heap, (K w.params).In base → base.Ns mainGlobals mg → (∃ bm, BMod base mg bm) → FnOk l.prog w (K w.params) mg base (Fly l.prog w) 12 fa fd ["_law_script"] (spM ⟨l.prog, w, mg, K w.params⟩ f_law)) :
    PySem.W.WalkO q loose XP YP l.row.toRowW d [] (fun f vs => PySem.call f vs) :=
  L2.walk_ofT (n := 63) (k := 12) (x := "_law_script") (CX := fun w => Fly l.prog w) (sp := fun w => spLawT (K w.params) tabP) hn (by decide) hdf ⟨rfl, by decide, by decide, rfl⟩ hY hYt hPK
    (fun w mg fa h KX G hm => let ⟨fd, c, ht, b, o⟩ := F w mg fa h KX G hm; ⟨fd, c, ht, b, fun base k g bm => (o base k g bm).imp fun vs H Q E z => spLawT_of (q := tabQ) law_pure z⟩)
    (fun _ _ a ns hl hT hS => ⟨a, ns, rfl, hS, hl, hT, fun _ => rfl⟩) fun w H s e s' ⟨_, _, _, _, _, _, _, _, _, _, _, _, _, z⟩ => z
end K68
open PySem PySem.W PyProof.Rows
def PySem.W.Fast.tw935656720036352031 : Unit := ()
def PySem.W.Fast.tw16955627039752314989 : Unit := ()
def PySem.W.Fast.tw8156555589016855880 : Unit := ()
def PySem.W.Fast.tw17234163186981309416 : Unit := ()
def PySem.W.Fast.tw11426775636727738712 : Unit := ()
def PySem.W.Fast.tw1920915618476905736 : Unit := ()
def PySem.W.Fast.tw15446639437362731432 : Unit := ()
def PySem.W.Fast.tw4097228026629281354 : Unit := ()
def PySem.W.Fast.tw13987718809134806038 : Unit := ()
def PySem.W.Fast.tw14512553713920967842 : Unit := ()
def PySem.W.Fast.tw323685683838049071 : Unit := ()
def PySem.W.Fast.tw8566448327155704633 : Unit := ()
set_option maxRecDepth 100000 in
set_option maxHeartbeats 0 in
theorem PySem.Challenge.cw_everalike_k68_joint_refused_holds : PySem.Challenge.rw_everalike_k68_joint_refused.Holds := by
  w_on; o_law; k_head; (case hw => w_witness2)
  k_fill
  refine K68.walk (l := PySem.Challenge.rw_everalike_k68_joint_refused) rfl rfl (fun w h Y => PySem.W.km_in_of Y) (fun w h Y => PySem.W.km_tabs_of Y 358 (by simp)) (fun w => by kernel_rfl) ?F
  case F =>
    intro w mg fa h KX G hmg
    refine' K68.all_mk KX G hmg ?T ?CA ?d0 ?d1 ?d2 ?d3 ?d4 ?d5 ?d6 ?d7 ?d8 ?d9 ?d10 ?d11 ?d12 ?d13 ?d14 ?d15 ?d16 ?d17 ?d18 ?d19 ?d20 ?dw ?ds ?a ?l ?c ?k
    case T =>
      refine' K68.txt_mk KX G ?zz0 ?zz1 ?zz2 ?zz3 ?zz4 ?zz5 ?zz6 ?zz7 ?zz8 ?zz9 ?zz10 ?zz11 ?zz12 ?zz13 ?aa0 ?aa1 ?aa2 ?xn0 ?xe0
      (case zz0 => k_is)
      (case zz1 => k_is)
      (case zz2 => k_is)
      (case zz3 => k_is)
      (case zz4 => k_is)
      (case zz5 => k_is)
      (case zz6 => k_is)
      (case zz7 => k_is)
      (case zz8 => k_is)
      (case zz9 => k_is)
      (case zz10 => k_is)
      (case zz11 => k_is)
      (case zz12 => k_is)
      (case zz13 => k_is)
      (case aa0 => k_is)
      (case aa1 => k_is)
      (case aa2 => k_is)
      (case xn0 => k_is)
      (case xe0 => kernel_rfl)
    case CA =>
      refine' K68.cls_mk KX G ?nc0 ?nc1 ?nc2 ?nc3 ?nc4 ?nc5 ?nc6 ?nc7 ?nc8 ?nc9 ?nc10 ?nc11 ?nc12 ?nc13 ?nwe ?nve ?ei9 ?eg9 ?ega9 ?ebe9 ?ea9 ?em9 ?kk9 ?esp ?etk
      (case nc0 => k_is)
      (case nc1 => k_is)
      (case nc2 => k_is)
      (case nc3 => k_is)
      (case nc4 => k_is)
      (case nc5 => k_is)
      (case nc6 => k_is)
      (case nc7 => k_is)
      (case nc8 => k_is)
      (case nc9 => k_is)
      (case nc10 => k_is)
      (case nc11 => k_is)
      (case nc12 => k_is)
      (case nc13 => k_is)
      (case nwe => k_is)
      (case nve => k_is)
      (case ei9 => kernel_rfl)
      (case eg9 => k_is)
      (case ega9 => k_is)
      (case ebe9 => k_is)
      (case ea9 => k_is)
      (case em9 => k_is)
      (case kk9 => kernel_rfl)
      (case esp => k_is)
      (case etk => k_is)
    case d0 =>
      refine' Ml.df_mk KX G ?a0 ?l0 ?c0 ?k0 (fun _ _ _ _ _ _ us hl => match us, hl with | [_], _ => rfl)
      (case a0 => k_is); (case l0 => k_is); (case c0 => k_is); (case k0 => k_is)
    case d1 =>
      refine' Ml.df_mk KX G ?a1 ?l1 ?c1 ?k1 (fun _ _ _ _ _ _ us hl => match us, hl with | [_], _ => rfl)
      (case a1 => k_is); (case l1 => k_is); (case c1 => k_is); (case k1 => k_is)
    case d2 =>
      refine' Ml.df_mk KX G ?a2 ?l2 ?c2 ?k2 (fun _ _ _ _ _ _ us hl => match us, hl with | [_], _ => rfl)
      (case a2 => k_is); (case l2 => k_is); (case c2 => k_is); (case k2 => k_is)
    case d3 =>
      refine' Ml.df_mk KX G ?a3 ?l3 ?c3 ?k3 (fun _ _ _ _ _ _ us hl => match us, hl with | [_, _], _ => rfl)
      (case a3 => k_is); (case l3 => k_is); (case c3 => k_is); (case k3 => k_is)
    case d4 =>
      refine' Ml.df_mk KX G ?a4 ?l4 ?c4 ?k4 (fun _ _ _ _ _ _ us hl => match us, hl with | [_, _], _ => rfl)
      (case a4 => k_is); (case l4 => k_is); (case c4 => k_is); (case k4 => k_is)
    case d5 =>
      refine' Ml.df_mk KX G ?a5 ?l5 ?c5 ?k5 (fun _ _ _ _ _ _ us hl => match us, hl with | [_, _], _ => rfl)
      (case a5 => k_is); (case l5 => k_is); (case c5 => k_is); (case k5 => k_is)
    case d6 =>
      refine' Ml.df_mk KX G ?a6 ?l6 ?c6 ?k6 (fun _ _ _ _ _ _ us hl => match us, hl with | [_], _ => rfl)
      (case a6 => k_is); (case l6 => k_is); (case c6 => k_is); (case k6 => k_is)
    case d7 =>
      refine' Ml.df_mk KX G ?a7 ?l7 ?c7 ?k7 (fun _ _ _ _ _ _ us hl => match us, hl with | [_], _ => rfl)
      (case a7 => k_is); (case l7 => k_is); (case c7 => k_is); (case k7 => k_is)
    case d8 =>
      refine' Ml.df_mk KX G ?a8 ?l8 ?c8 ?k8 (fun _ _ _ _ _ _ us hl => match us, hl with | [_, _], _ => rfl)
      (case a8 => k_is); (case l8 => k_is); (case c8 => k_is); (case k8 => k_is)
    case d9 =>
      refine' Ml.df_mk KX G ?a9 ?l9 ?c9 ?k9 (fun _ _ _ _ _ _ us hl => match us, hl with | [_, _], _ => rfl)
      (case a9 => k_is); (case l9 => k_is); (case c9 => k_is); (case k9 => k_is)
    case d10 =>
      refine' Ml.df_mk KX G ?a10 ?l10 ?c10 ?k10 (fun _ _ _ _ _ _ us hl => match us, hl with | [_, _], _ => rfl)
      (case a10 => k_is); (case l10 => k_is); (case c10 => k_is); (case k10 => k_is)
    case d11 =>
      refine' Ml.df_mk KX G ?a11 ?l11 ?c11 ?k11 (fun _ _ _ _ _ _ us hl => match us, hl with | [_], _ => rfl)
      (case a11 => k_is); (case l11 => k_is); (case c11 => k_is); (case k11 => k_is)
    case d12 =>
      refine' Ml.df_mk KX G ?a12 ?l12 ?c12 ?k12 (fun _ _ _ _ _ _ us hl => match us, hl with | [_], _ => rfl)
      (case a12 => k_is); (case l12 => k_is); (case c12 => k_is); (case k12 => k_is)
    case d13 =>
      refine' Ml.df_mk KX G ?a13 ?l13 ?c13 ?k13 (fun _ _ _ _ _ _ us hl => match us, hl with | [_, _], _ => rfl)
      (case a13 => k_is); (case l13 => k_is); (case c13 => k_is); (case k13 => k_is)
    case d14 =>
      refine' Ml.df_mk KX G ?a14 ?l14 ?c14 ?k14 (fun _ _ _ _ _ _ us hl => match us, hl with | [_, _], _ => rfl)
      (case a14 => k_is); (case l14 => k_is); (case c14 => k_is); (case k14 => k_is)
    case d15 =>
      refine' Ml.df_mk KX G ?a15 ?l15 ?c15 ?k15 (fun _ _ _ _ _ _ us hl => match us, hl with | [_, _, _], _ => rfl)
      (case a15 => k_is); (case l15 => k_is); (case c15 => k_is); (case k15 => k_is)
    case d16 =>
      refine' Ml.df_mk KX G ?a16 ?l16 ?c16 ?k16 (fun _ _ _ _ _ _ us hl => match us, hl with | [_, _], _ => rfl)
      (case a16 => k_is); (case l16 => k_is); (case c16 => k_is); (case k16 => k_is)
    case d17 =>
      refine' Ml.df_mk KX G ?a17 ?l17 ?c17 ?k17 (fun _ _ _ _ _ _ us hl => match us, hl with | [_, _, _], _ => rfl)
      (case a17 => k_is); (case l17 => k_is); (case c17 => k_is); (case k17 => k_is)
    case d18 =>
      refine' Ml.df_mk KX G ?a18 ?l18 ?c18 ?k18 (fun _ _ _ _ _ _ us hl => match us, hl with | [_, _], _ => rfl)
      (case a18 => k_is); (case l18 => k_is); (case c18 => k_is); (case k18 => k_is)
    case d19 =>
      refine' Ml.dft_mk KX G ?dta ?dtl ?dtc ?dth ?dtk (fun _ _ _ _ _ _ us hl => match us, hl with | [_, _], _ => rfl)
      (case dta => k_is)
      (case dtl => k_is)
      (case dtc => k_is)
      (case dth => kernel_rfl)
      (case dtk => k_is)
    case d20 =>
      refine' Ml.df_mk KX G ?a20 ?l20 ?c20 ?k20 (fun _ _ _ _ _ _ us hl => match us, hl with | [_], _ => rfl)
      (case a20 => k_is); (case l20 => k_is); (case c20 => k_is); (case k20 => k_is)
    case dw =>
      refine' Ml.df_mk KX G ?aw ?lw ?cw ?kw (fun _ _ _ _ _ _ us hl => match us, hl with | [_], _ => rfl)
      (case aw => k_is); (case lw => k_is); (case cw => k_is); (case kw => k_is)
    case ds =>
      refine' Ml.df_mk KX G ?as ?ls ?cs ?ks (fun _ _ _ _ _ _ us hl => match us, hl with | [_], _ => rfl)
      (case as => k_is); (case ls => k_is); (case cs => k_is); (case ks => k_is)
    (case a => k_is); (case l => k_is); (case c => k_is); (case k => k_is)
