import PyProof.Rows.All
import Wide.All
import OpenK.AllK
import Wide.FinOn
import Lean
import PyProof.EqAt
import PyProof.EqKinds
import PyProof.TupleCall
import PySem.Challenge.RW_everalike_k02_strikers_and_struck
set_option Elab.async false
set_option linter.all false
set_option maxRecDepth 100000
/-! THE HAND LAYER, for ints, bools, texts, own classes, LISTS and tuples (index, slices, in, append, pop ..), calls, loops. Paste it whole ahead of your own text; what your proof does not reach may be deleted. -/
namespace L2
open PySem PySem.Spec PyProof.Rows

/-- a key: an int or a str -/
abbrev Key := Sum Int Str
def keyIs : Key → Value → Bool
  | .inl k, v => Value.isInt k v
  | .inr x, v => Value.isStrOf x v
def keyH (w : World) : Key → Int
  | .inl k => hashInt k
  | .inr x => hashStr w x
theorem keyIs_shape : ∀ {k : Key} {v : Value}, keyIs k v = true → (∃ i t, k = Sum.inl i ∧ v = Value.int i t) ∨ (∃ x t, k = Sum.inr x ∧ v = Value.str x t)
  | .inl i, v, h => by
    obtain ⟨t, e⟩ := Value.isInt_shape (k := i) (v := v) h
    exact .inl ⟨i, t, rfl, e⟩
  | .inr x, v, h => by
    obtain ⟨t, e⟩ := Value.isStrOf_shape (x := x) (v := v) h
    exact .inr ⟨x, t, rfl, e⟩
theorem keyIs_int (i : Int) (t : Tok) : keyIs (.inl i) (.int i t) = true := by simp [keyIs, Value.isInt]
theorem keyIs_str (x : Str) (t : Tok) : keyIs (.inr x) (.str x t) = true := by simp [keyIs, Value.isStrOf]
theorem key_ll (a b : Int) : decide ((Sum.inl a : Key) = Sum.inl b) = (a == b) := by
  by_cases e : a = b
  · subst e; simp
  · have h : ¬ (Sum.inl a : Key) = Sum.inl b := fun q => e (Sum.inl.inj q)
    rw [decide_eq_false h]
    exact (beq_eq_false_iff_ne.mpr e).symm
theorem key_rr (a b : Str) : decide ((Sum.inr a : Key) = Sum.inr b) = decide (a = b) := by
  by_cases e : a = b
  · subst e; simp
  · have h : ¬ (Sum.inr a : Key) = Sum.inr b := fun q => e (Sum.inr.inj q)
    rw [decide_eq_false h, decide_eq_false e]
theorem key_lr (a : Int) (b : Str) : decide ((Sum.inl a : Key) = Sum.inr b) = false := decide_eq_false (fun q => nomatch q)
theorem key_rl (a : Str) (b : Int) : decide ((Sum.inr a : Key) = Sum.inl b) = false := decide_eq_false (fun q => nomatch q)

def mixKind (prog : Program) (w : World) : PySem.KeyKind prog w Key where
  is := keyIs
  hash := keyH w
  inj := fun v a b ha hb => by
    rcases keyIs_shape ha with ⟨i, t, rfl, rfl⟩ | ⟨x, t, rfl, rfl⟩
    · rcases keyIs_shape hb with ⟨j, u, rfl, e⟩ | ⟨y, u, rfl, e⟩
      · injection e with e1 _; rw [e1]
      · exact nomatch e
    · rcases keyIs_shape hb with ⟨j, u, rfl, e⟩ | ⟨y, u, rfl, e⟩
      · exact nomatch e
      · injection e with e1 _; rw [e1]
  byValue := fun k v h => by
    rcases keyIs_shape h with ⟨i, t, rfl, rfl⟩ | ⟨x, t, rfl, rfl⟩ <;> rfl
  pyHash := fun hv h => by
    rcases keyIs_shape hv with ⟨i, t, rfl, rfl⟩ | ⟨x, t, rfl, rfl⟩
    · exact wpAny_pyHash_int h
    · exact wpAny_pyHash_str h
  eqBool := fun hu hv h => by
    rcases keyIs_shape hu with ⟨i, t, rfl, rfl⟩ | ⟨x, t, rfl, rfl⟩
    · rcases keyIs_shape hv with ⟨j, u, rfl, rfl⟩ | ⟨y, u, rfl, rfl⟩
      · rw [key_ll] at h; exact wpAny_eqBool_int h
      · rw [key_lr] at h; exact SeqAt.EqAt.int_str i t y u _ _ _ _ h
    · rcases keyIs_shape hv with ⟨j, u, rfl, rfl⟩ | ⟨y, u, rfl, rfl⟩
      · rw [key_rl] at h; exact SeqAt.EqAt.str_int x t j u _ _ _ _ h
      · rw [key_rr] at h; exact wpAny_eqBool_str h
  «strs» := fun k x t v h => by
    rcases keyIs_shape h with ⟨i, u, rfl, e⟩ | ⟨y, u, rfl, e⟩
    · exact nomatch e
    · injection e with e1 _
      subst e1
      cases v <;> rfl

theorem mixKind_is (prog : Program) (w : World) (k : Key) (v : Value) : (mixKind prog w).is k v = keyIs k v := rfl
theorem mixKind_int (prog : Program) (w : World) (i : Int) (t : Tok) : (mixKind prog w).is (.inl i) (.int i t) = true := keyIs_int i t
theorem mixKind_str (prog : Program) (w : World) (x : Str) (t : Tok) : (mixKind prog w).is (.inr x) (.str x t) = true := keyIs_str x t
end L2

namespace L2
open PySem PySem.Spec PyProof.Rows

/-- a value, without the heap -/
inductive V where
  | non | bl (b : Bool) | int (i : Int) | str (x : Str) | byt (b : Array UInt8) | flt (b : UInt64) | ref (a : Addr) | ty (n : String)
  deriving DecidableEq

def RelV : V → Value → Prop
  | .non, u => u = Value.none
  | .bl b, u => u = Value.bool b
  | .int i, u => ∃ t, u = Value.int i t
  | .str x, u => ∃ t, u = Value.str x t
  | .byt b, u => ∃ t, u = Value.bytes b t
  | .flt b, u => ∃ t, u = Value.float b t
  | .ref a, u => u = Value.ref a
  | .ty n, u => u = Value.type n

abbrev Vals : List V → List Value → Prop := Paired RelV
theorem Vals.length {xs : List V} {us : List Value} (r : Vals xs us) : xs.length = us.length := Paired.length r
theorem Vals.get : ∀ {xs : List V} {us : List Value} {i : Nat} {x : V}, Vals xs us → xs[i]? = some x → ∃ u, us[i]? = some u ∧ RelV x u
  | _, _, _, _, .nil, e => by simp at e
  | _, _, 0, _, .cons r _, e => by simp at e; subst e; exact ⟨_, rfl, r⟩
  | _, _, i + 1, x, .cons _ t, e => by
    obtain ⟨u, h1, h2⟩ := Vals.get (i := i) (x := x) t (by simpa using e)
    exact ⟨u, by simpa using h1, h2⟩
theorem Vals.set {x : V} {u : Value} (r : RelV x u) : ∀ {xs : List V} {us : List Value} (i : Nat), Vals xs us → Vals (xs.set i x) (us.set i u)
  | _, _, _, .nil => .nil
  | _, _, 0, .cons _ t => .cons r t
  | _, _, i + 1, .cons q t => .cons q (Vals.set r i t)
theorem Vals.append : ∀ {xs ys : List V} {us ws : List Value}, Vals xs us → Vals ys ws → Vals (xs ++ ys) (us ++ ws)
  | _, _, _, _, .nil, s => s
  | _, _, _, _, .cons r t, s => .cons r (Vals.append t s)
theorem Vals.take : ∀ {xs : List V} {us : List Value} (n : Nat), Vals xs us → Vals (xs.take n) (us.take n)
  | _, _, 0, _ => .nil
  | _, _, _ + 1, .nil => .nil
  | _, _, n + 1, .cons r t => .cons r (Vals.take n t)
theorem Vals.drop : ∀ {xs : List V} {us : List Value} (n : Nat), Vals xs us → Vals (xs.drop n) (us.drop n)
  | _, _, 0, r => r
  | _, _, _ + 1, .nil => .nil
  | _, _, n + 1, .cons _ t => Vals.drop n t
theorem Vals.none_of : ∀ {xs : List V} {us : List Value} {i : Nat}, Vals xs us → xs[i]? = none → us[i]? = none := fun {xs us i} r e => by
  have h1 := r.length
  have h2 : xs.length ≤ i := List.getElem?_eq_none_iff.mp e
  exact List.getElem?_eq_none_iff.mpr (by omega)

def RelO : Option V → Option Value → Prop
  | some v, some u => RelV v u
  | none, none => True
  | _, _ => False
def KV {κ : Type} : List (κ × V) → List (κ × Value) → Prop := Paired fun (p : κ × V) (q : κ × Value) => p.1 = q.1 ∧ RelV p.2 q.2

/-- a key of a dict (00_mix): an int or a text -/
def kV : Key → V
  | .inl i => .int i
  | .inr x => .str x

/-- what stands at a tracked address -/
inductive HO where
  /-- a list -/
  | lst (xs : List V)
  /-- a tuple (never changes) -/
  | tup (xs : List V)
  /-- a dict whose keys are ints and texts; one whose keys are tuples of ints and texts (the empty one is both) -/
  | dK (kvs : List (Key × V)) | dT (kvs : List (List Key × V))
  /-- a set of ints: its members, its size -/
  | set (S : Int → Bool) (n : Nat)
  /-- an instance of the class at C, its dict at dx, its attributes -/
  | ins (C dx : Addr) (fs : List (Str × V))
  /-- the dict of the instance at x -/
  | own (x : Addr)
  /-- the dict of an exception -/
  | xd (fs : List (Str × V))
  /-- a bound method, f of x -/
  | met (f x : Addr)
  /-- a range object lo, lo + 1, .. below hi -/
  | rng (lo hi : Int)
  /-- a thing that is known to the object (the script; a dict while a loop walks it): read, never written while it is so -/
  | frz (o : Obj) (u : HO)
  /-- a code object's table -/
  | tbl (ps : Array Value)
  /-- any other thing, by what is true of its one object (a def of one's own: SetO a S n := HO.ext fun h => ..) -/
  | ext (φ : Heap → Prop)

abbrev Hp := Addr → Option HO
def upd (H : Hp) (a : Addr) (o : HO) : Hp := fun b => if b = a then some o else H b
theorem upd_same {H : Hp} {a : Addr} {o : HO} : upd H a o a = some o := by unfold upd; rw [if_pos rfl]
theorem upd_ne {H : Hp} {a b : Addr} {o : HO} (h : b ≠ a) : upd H a o b = H b := by unfold upd; rw [if_neg h]
theorem upd_upd {H : Hp} {a : Addr} {o u : HO} : upd (upd H a o) a u = upd H a u := by
  funext b; unfold upd; split <;> rfl
/-- two objects of different content stand apart -/
theorem ne_of {H : Hp} {a b : Addr} {o u : HO} (h : H a = some o) (h' : H b = some u) (d : o ≠ u) : a ≠ b := by
  intro e; subst e; rw [h] at h'; exact d (Option.some.inj h')
theorem ne_of_none {H : Hp} {a b : Addr} {o : HO} (h : H a = some o) (h' : H b = none) : a ≠ b := by
  intro e; subst e; rw [h] at h'; cases h'

section
variable (P : Program) (w : World)
def ObjOk (H : Hp) (h : Heap) (a : Addr) : HO → Prop
  | .lst xs => xs.length ≤ sizeLine ∧ ∃ (its : List Value) (n : Nat), Vals xs its ∧ h.get? a = some { cls := .type "list", data := .seq its.toArray n }
  | .tup xs => xs.length ≤ sizeLine ∧ ∃ its : List Value, Vals xs its ∧ IsTup h a its.toArray
  | .dK kvs => kvs.length ≤ sizeLine ∧ (a == sysModules) = false ∧ ∃ vs, KV kvs vs ∧ h.DictOf (mixKind P w) a vs
  | .dT kvs => kvs.length ≤ sizeLine ∧ (a == sysModules) = false ∧ ∃ xs : List (List Key × Addr × Value),
      Paired (fun (p : List Key × V) (q : List Key × Addr × Value) => p.1 = q.1 ∧ H q.2.1 = some (.tup (p.1.map kV)) ∧ RelV p.2 q.2.2) kvs xs ∧
      ∃ o es ep, h.get? a = some o ∧ o.ExactDict ∧ o.data = .dict es ep ∧ es.toList = xs.map (entryOfKey (tupleKind (mixKind P w))) ∧ (xs.map (·.1)).Nodup
  | .set S n => h.SetOf (intKind P w) a S n
  | .ins C dx fs => H dx = some (.own a) ∧ fs.length ≤ 1000 ∧ dx ≠ a ∧ h.get? a = some (PySem.W.instObj C dx) ∧
      ∃ mA, h.Ns1 dx mA ∧ (∀ f, RelO (fs.lookup f) (mA f)) ∧ PySem.Within mA (fs.map (·.1))
  | .own _ => ∃ o, h.get? a = some o
  | .xd fs => ∃ mA, h.Ns1 a mA ∧ ∀ f, RelO (fs.lookup f) (mA f)
  | .rng lo hi => ∃ t u v, h.get? a = some { cls := .type "range", data := .fields #[.int lo t, .int hi u, .int 1 v] }
  | .frz o u => h.get? a = some o ∧ ObjOk H h a u
  | .tbl ps => h.get? a = some { cls := .none, data := .fields ps }
  | .met f x => h.get? a = some (PySem.W.methodObj (.ref f) (.ref x))
  | .ext φ => φ h ∧ (∃ o, h.get? a = some o) ∧ ∀ h1 h2 : Heap, φ h1 → (∀ o, h1.get? a = some o → h2.get? a = some o) → φ h2
/-- the abstract heap is held -/
def HOk (H : Hp) (h : Heap) : Prop := ∀ a o, H a = some o → ObjOk P w H h a o
end

section
variable {P : Program} {w : World} {H H' : Hp} {h h' : Heap} {a : Addr} {o : HO}
theorem ObjOk.lt (x : ObjOk P w H h a o) : a < h.objs.size := by
  cases o with
  | lst xs => obtain ⟨_, _, _, _, e⟩ := x; exact Heap.lt_size e
  | tup xs => obtain ⟨_, _, _, p⟩ := x; exact p.lt
  | dK kvs => obtain ⟨_, _, _, _, o, _, _, e, _⟩ := x; exact Heap.lt_size e
  | dT kvs => obtain ⟨_, _, _, _, o, _, _, e, _⟩ := x; exact Heap.lt_size e
  | set S n => obtain ⟨o, _, _, _, e, _⟩ := x; exact Heap.lt_size e
  | ins C dx fs => obtain ⟨_, _, _, e, _⟩ := x; exact Heap.lt_size e
  | own y => obtain ⟨_, e⟩ := x; exact Heap.lt_size e
  | xd fs => obtain ⟨_, ⟨_, _, _, e, _⟩, _⟩ := x; exact Heap.lt_size e
  | rng lo hi => obtain ⟨_, _, _, e⟩ := x; exact Heap.lt_size e
  | frz ob u => obtain ⟨e, _⟩ := x; exact Heap.lt_size e
  | tbl ps => exact Heap.lt_size (show h.get? a = some _ from x)
  | met f y => exact Heap.lt_size (show h.get? a = some _ from x)
  | ext φ => obtain ⟨_, ⟨_, e⟩, _⟩ := x; exact Heap.lt_size e
theorem Paired.mapP {α β : Type} {F G : α → β → Prop} : ∀ {l₁ : List α} {l₂ : List β}, Paired F l₁ l₂ → (∀ a b, F a b → G a b) → Paired G l₁ l₂
  | _, _, .nil, _ => .nil
  | _, _, .cons r t, f => .cons (f _ _ r) (Paired.mapP t f)
theorem Paired.imp' {α β : Type} {F G : α → β → Prop} (f : ∀ a b, F a b → G a b) {l₁ : List α} {l₂ : List β} (r : Paired F l₁ l₂) : Paired G l₁ l₂ := Paired.mapP r f
/-- what an object's description leans on: its own object, its own dict, the tuples -/
theorem ObjOk.stay (x : ObjOk P w H h a o) (k : ∀ b u, (b = a ∨ H b = some (.own a)) → h.get? b = some u → h'.get? b = some u)
    (ho : ∀ b, H b = some (.own a) → H' b = some (.own a)) (ht : ∀ b xs, H b = some (.tup xs) → H' b = some (.tup xs)) : ObjOk P w H' h' a o := by
  induction o with
  | lst xs => obtain ⟨z, its, n, r, e⟩ := x; exact ⟨z, its, n, r, k _ _ (.inl rfl) e⟩
  | tup xs => obtain ⟨z, its, r, ob, e, c⟩ := x; exact ⟨z, its, r, ob, k _ _ (.inl rfl) e, c⟩
  | dK kvs => obtain ⟨z, y, vs, r, ob, es, ep, e, c⟩ := x; exact ⟨z, y, vs, r, ob, es, ep, k _ _ (.inl rfl) e, c⟩
  | dT kvs =>
    obtain ⟨z, y, xs, r, ob, es, ep, e, c⟩ := x
    exact ⟨z, y, xs, Paired.mapP r fun p q z => ⟨z.1, ht _ _ z.2.1, z.2.2⟩, ob, es, ep, k _ _ (.inl rfl) e, c⟩
  | set S n => obtain ⟨ob, es, ep, t, e, c⟩ := x; exact ⟨ob, es, ep, t, k _ _ (.inl rfl) e, c⟩
  | ins C dx fs =>
    obtain ⟨d, z, ne, e, mA, ⟨od, es, ep, e2, c⟩, r⟩ := x
    exact ⟨ho _ d, z, ne, k _ _ (.inl rfl) e, mA, ⟨od, es, ep, k _ _ (.inr d) e2, c⟩, r⟩
  | own y => obtain ⟨ob, e⟩ := x; exact ⟨ob, k _ _ (.inl rfl) e⟩
  | xd fs => obtain ⟨mA, ⟨od, es, ep, e, c⟩, r⟩ := x; exact ⟨mA, ⟨od, es, ep, k _ _ (.inl rfl) e, c⟩, r⟩
  | rng lo hi => obtain ⟨t, u, v, e⟩ := x; exact ⟨t, u, v, k _ _ (.inl rfl) e⟩
  | frz ob u ih => obtain ⟨e, q⟩ := x; exact ⟨k _ _ (.inl rfl) e, ih q⟩
  | tbl ps =>
    have e : h.get? a = some { cls := .none, data := .fields ps } := x
    show h'.get? a = some { cls := .none, data := .fields ps }
    exact k a _ (.inl rfl) e
  | met f y =>
    have e : h.get? a = some (PySem.W.methodObj (.ref f) (.ref y)) := x
    show h'.get? a = some (PySem.W.methodObj (.ref f) (.ref y))
    exact k a _ (.inl rfl) e
  | ext φ => obtain ⟨p, ⟨o, e⟩, st⟩ := x; exact ⟨st _ _ p fun o q => k _ _ (.inl rfl) q, ⟨o, k _ _ (.inl rfl) e⟩, st⟩
theorem HOk.lt (x : HOk P w H h) (e : H a = some o) : a < h.objs.size := (x a o e).lt
theorem HOk.fresh (x : HOk P w H h) (e : h.objs.size ≤ a) : H a = none := by
  cases q : H a with
  | none => rfl
  | some u => exact absurd (Nat.lt_of_lt_of_le (x.lt q) e) (Nat.lt_irrefl _)
/-- every object of the heap is kept -/
theorem HOk.kept (x : HOk P w H h) (k : ∀ b u, h.get? b = some u → h'.get? b = some u) : HOk P w H h' := fun a o e =>
  (x a o e).stay (fun b u _ q => k b u q) (fun _ q => q) fun _ _ q => q
/-- a new object is laid and tracked -/
theorem HOk.laid (x : HOk P w H h) (k : ∀ b u, h.get? b = some u → h'.get? b = some u) (hp : h.objs.size ≤ a) (new : ObjOk P w (upd H a o) h' a o) : HOk P w (upd H a o) h' := fun b u e => by
  have hn := x.fresh hp
  by_cases hb : b = a
  · subst hb; rw [upd_same] at e; cases e; exact new
  · rw [upd_ne hb] at e
    exact (x b u e).stay (fun c v _ q => k c v q) (fun c q => by rw [upd_ne (ne_of_none q hn)]; exact q) fun c xs q => by rw [upd_ne (ne_of_none q hn)]; exact q
end

/-- what may be read as u: it is u, or a known u -/
def Rd (H : Hp) (a : Addr) (u : HO) : Prop := H a = some u ∨ ∃ o, H a = some (.frz o u)
theorem Rd.of {H : Hp} {a : Addr} {u : HO} (h : H a = some u) : Rd H a u := .inl h
theorem Rd.ok {P : Program} {w : World} {H : Hp} {h : Heap} {a : Addr} {u : HO} (r : Rd H a u) (x : HOk P w H h) : ObjOk P w H h a u := by
  rcases r with r | ⟨o, r⟩
  · exact x a u r
  · obtain ⟨_, q⟩ := x a _ r
    exact q
/-- what may be written -/
def Mut : Option HO → Prop
  | some (.lst _) => True
  | some (.dK _) => True
  | some (.dT _) => True
  | some (.set _ _) => True
  | some (.ins _ _ _) => True
  | some (.ext _) => True
  | _ => False
section
variable {P : Program} {w : World} {H : Hp} {h h' : Heap} {x e : Addr} {o' : HO}
/-- the object at e is changed: x itself, or the dict of the instance x -/
theorem HOk.write (ok : HOk P w H h) (mu : Mut (H x)) (he : e = x ∨ H e = some (.own x)) (k : ∀ b u, b ≠ e → h.get? b = some u → h'.get? b = some u) (heo : ∃ u, h'.get? e = some u)
    (new : ObjOk P w (upd H x o') h' x o') : HOk P w (upd H x o') h' := fun b u q => by
  have nown : ∀ c y, H c = some (.own y) → c ≠ x := fun c y r z => by subst z; rw [r] at mu; exact mu
  have ntup : ∀ c xs, H c = some (.tup xs) → c ≠ x := fun c xs r z => by subst z; rw [r] at mu; exact mu
  by_cases hb : b = x
  · subst hb; rw [upd_same] at q; cases q; exact new
  · rw [upd_ne hb] at q
    by_cases hbe : b = e
    · have q' : H b = some (.own x) := by
        rcases he with z | z
        · exact absurd (hbe.trans z) hb
        · rw [hbe]; exact z
      rw [q] at q'; cases q'
      obtain ⟨v, hv⟩ := heo
      exact ⟨v, by rw [hbe]; exact hv⟩
    · refine (ok b u q).stay (fun c v hc r => k c v ?_ r) (fun c r => by rw [upd_ne (nown c b r)]; exact r) fun c xs r => by rw [upd_ne (ntup c xs r)]; exact r
      rcases hc with rfl | hc
      · exact hbe
      · rintro rfl
        rcases he with z | z
        · exact nown c b hc z
        · rw [hc] at z; cases z; exact hb rfl
end

/-! ### kept unless tracked; of the frames at fs (the callers') the slots may change (an exception that passes writes there); of the records at ex (iterators) nothing is said -/
structure Un (fs ex : List Addr) (H H' : Hp) (h h' : Heap) : Prop where
  keep : ∀ b o, h.get? b = some o → H b = none → b ∉ fs → b ∉ ex → h'.get? b = some o
  slot : ∀ b o, h.get? b = some o → H b = none → b ∈ fs → b ∉ ex → ∃ sl, h'.get? b = some { o with slots := sl }
  free : ∀ b o, h.get? b = some o → H b = none → b ∉ ex → H' b = none
  there : ∀ b o, h.get? b = some o → b ∉ ex → ∃ o', h'.get? b = some o'
  tups : ∀ b xs, H b = some (.tup xs) → H' b = some (.tup xs)
  frzs : ∀ b o u, H b = some (.frz o u) → H' b = some (.frz o u)
  tbls : ∀ b ps, H b = some (.tbl ps) → ∃ more, H' b = some (.tbl (ps ++ more))
section
variable {fs fs' ex ex' : List Addr} {H H1 H2 : Hp} {h h1 h2 h' : Heap} {a x e : Addr} {o : HO}
theorem Un.any (u : Un fs ex H H1 h h1) {b : Addr} {ob : Obj} (q : h.get? b = some ob) (n : H b = none) (hx : b ∉ ex) : ∃ sl, h1.get? b = some { ob with slots := sl } := by
  by_cases hb : b ∈ fs
  · exact u.slot b ob q n hb hx
  · exact ⟨ob.slots, u.keep b ob q n hb hx⟩
theorem Un.trans (a : Un fs ex H H1 h h1) (b : Un fs ex H1 H2 h1 h2) : Un fs ex H H2 h h2 where
  keep := fun c ob q n hc hx => b.keep c ob (a.keep c ob q n hc hx) (a.free c ob q n hx) hc hx
  slot := fun c ob q n hc hx => by
    obtain ⟨sl, e1⟩ := a.slot c ob q n hc hx
    obtain ⟨sl', e2⟩ := b.slot c _ e1 (a.free c ob q n hx) hc hx
    exact ⟨sl', e2⟩
  free := fun c ob q n hx => by
    obtain ⟨o', e1⟩ := a.there c ob q hx
    exact b.free c o' e1 (a.free c ob q n hx) hx
  there := fun c ob q hx => by
    obtain ⟨o', e1⟩ := a.there c ob q hx
    exact b.there c o' e1 hx
  tups := fun c xs q => b.tups c xs (a.tups c xs q)
  frzs := fun c ob xs q => b.frzs c ob xs (a.frzs c ob xs q)
  tbls := fun c ps q => by
    obtain ⟨m1, e1⟩ := a.tbls c ps q
    obtain ⟨m2, e2⟩ := b.tbls c _ e1
    exact ⟨m1 ++ m2, by rw [e2, Array.append_assoc]⟩
theorem Un.kept (k : ∀ b u, h.get? b = some u → h'.get? b = some u) : Un fs ex H H h h' :=
  ⟨fun b ob q _ _ _ => k b ob q, fun b ob q _ _ _ => ⟨ob.slots, k b ob q⟩, fun _ _ _ n _ => n, fun b ob q _ => ⟨ob, k b ob q⟩, fun _ _ q => q, fun _ _ _ q => q, fun _ ps q => ⟨#[], by rw [q]; simp⟩⟩
theorem Un.refl : Un fs ex H H h h := Un.kept fun _ _ q => q
theorem Un.laid (k : ∀ b u, h.get? b = some u → h'.get? b = some u) (hp : h.objs.size ≤ a) (hn : H a = none) : Un fs ex H (upd H a o) h h' where
  keep := fun b u q _ _ _ => k b u q
  slot := fun b u q _ _ _ => ⟨u.slots, k b u q⟩
  free := fun b u q n _ => by rw [upd_ne (Nat.ne_of_lt (Nat.lt_of_lt_of_le (Heap.lt_size q) hp))]; exact n
  there := fun b u q _ => ⟨u, k b u q⟩
  tups := fun b xs q => by rw [upd_ne (ne_of_none q hn)]; exact q
  frzs := fun b u xs q => by rw [upd_ne (ne_of_none q hn)]; exact q
  tbls := fun b ps q => ⟨#[], by rw [upd_ne (ne_of_none q hn), q]; simp⟩
theorem Un.write (mu : Mut (H x)) (he : e = x ∨ H e = some (.own x)) (k : ∀ b u, b ≠ e → h.get? b = some u → h'.get? b = some u) (heo : ∃ u, h'.get? e = some u) : Un fs ex H (upd H x o) h h' := by
  have hx : ∀ b, H b = none → b ≠ x := fun b n z => by subst z; rw [n] at mu; exact mu
  have hb : ∀ b, H b = none → b ≠ e := fun b n z => by
    subst z
    rcases he with r | r
    · exact hx b n r
    · rw [n] at r; cases r
  have hm : ∀ b u, H b = some u → ¬ Mut (some u) → b ≠ x := fun b u q nm z => by subst z; rw [q] at mu; exact nm mu
  refine ⟨fun b u q n _ _ => k b u (hb b n) q, fun b u q n _ _ => ⟨u.slots, k b u (hb b n) q⟩, fun b u q n _ => by rw [upd_ne (hx b n)]; exact n, fun b u q _ => ?_,
    fun b xs q => by rw [upd_ne (hm b _ q fun z => z)]; exact q, fun b u xs q => by rw [upd_ne (hm b _ q fun z => z)]; exact q, fun b ps q => ⟨#[], by rw [upd_ne (hm b _ q fun z => z), q]; simp⟩⟩
  by_cases hbe : b = e
  · subst hbe; exact heo
  · exact ⟨u, k b u hbe q⟩
theorem Un.mono (u : Un fs ex H H1 h h1) (hs : ∀ b ∈ fs, b ∈ fs') (hx : ∀ b ∈ ex, b ∈ ex') : Un fs' ex' H H1 h h1 :=
  ⟨fun b ob q n hb he => u.keep b ob q n (fun z => hb (hs b z)) fun z => he (hx b z), fun _ _ q n _ he => u.any q n fun z => he (hx _ z), fun b ob q n he => u.free b ob q n fun z => he (hx b z), fun b ob q he => u.there b ob q fun z => he (hx b z), u.tups, u.frzs, u.tbls⟩
end

/-! ### the heap without what is tracked -/
def trk (h : Heap) (H : Hp) : List Addr := (List.range h.objs.size).filter fun a => (H a).isSome
def hidT (h : Heap) (H : Hp) : Heap := PySem.W.hideAll h (trk h H)
theorem hidT_size (h : Heap) (H : Hp) : (hidT h H).objs.size = h.objs.size := PySem.W.hideAll_size _ _
theorem hidT_get {h : Heap} {H : Hp} {b : Addr} {o : Obj} (e : h.get? b = some o) (n : H b = none) : (hidT h H).get? b = some o :=
  PySem.W.hideAll_get _ e fun hm => by
    have q : (H b).isSome = true := (List.mem_filter.mp hm).2
    rw [n] at q; simp at q
theorem of_hidT {h : Heap} {H : Hp} {b : Addr} {o : Obj} (e : (hidT h H).get? b = some o) : h.get? b = some o ∧ H b = none := by
  have e' : h.get? b = some o := PySem.W.of_hideAll (trk h H) e
  refine ⟨e', ?_⟩
  cases q : H b with
  | none => rfl
  | some x =>
    have hm : b ∈ trk h H := List.mem_filter.mpr ⟨List.mem_range.mpr (Heap.lt_size e'), by simp [q]⟩
    have z : (hidT h H).get? b = none := PySem.W.hideAll_none (trk h H) hm
    rw [z] at e; cases e

/-! ### OpenK's ledger, filled with every new object but one -/
def allNews (g h : Heap) (L : Addr) : List (Addr × Obj) := (List.range h.objs.size).filterMap fun a => if a = L ∨ (g.get? a).isSome = true then none else (h.get? a).map fun o => (a, o)
theorem mem_allNews {g h : Heap} {L a : Addr} {o : Obj} (h1 : a ≠ L) (h2 : g.get? a = none) (h3 : h.get? a = some o) : (a, o) ∈ allNews g h L :=
  List.mem_filterMap.mpr ⟨a, List.mem_range.mpr (Heap.lt_size h3), by simp [h1, h2, h3]⟩
theorem of_mem_allNews {g h : Heap} {L : Addr} {p : Addr × Obj} (hp : p ∈ allNews g h L) : p.1 ≠ L ∧ g.get? p.1 = none ∧ h.get? p.1 = some p.2 := by
  obtain ⟨b, _, e⟩ := List.mem_filterMap.mp hp
  split at e
  · cases e
  · rename_i hn
    cases q : h.get? b with
    | none => rw [q] at e; simp at e
    | some u =>
      rw [q] at e
      simp only [Option.map_some, Option.some.injEq] at e
      subst e
      refine ⟨fun z => hn (.inl z), ?_, q⟩
      show g.get? b = none
      cases r : g.get? b with
      | none => rfl
      | some v => exact (hn (.inr (by simp [r]))).elim
def rest (g h : Heap) (L d : Addr) : List (Addr × Obj) := (allNews g h L).filter fun p => decide (p.1 ≠ d)
theorem rest_ne {g h : Heap} {L d : Addr} : ∀ p ∈ rest g h L d, p.1 ≠ d := fun p hp => of_decide_eq_true (List.mem_filter.mp hp).2
theorem mem_rest {g h : Heap} {L d a : Addr} {o : Obj} (h1 : a ≠ L) (h2 : g.get? a = none) (h3 : h.get? a = some o) (h4 : a ≠ d) : (a, o) ∈ rest g h L d :=
  List.mem_filter.mpr ⟨mem_allNews h1 h2 h3, decide_eq_true h4⟩
theorem news_all {g h : Heap} {L : Addr} : News g L h (allNews g h L) := fun p hp => let ⟨a, b, c⟩ := of_mem_allNews hp; ⟨c, a, b⟩
theorem news_at {g h : Heap} {L d : Addr} {o : Obj} (h1 : d ≠ L) (h2 : g.get? d = none) (h3 : h.get? d = some o) : News g L h ((d, o) :: rest g h L d) := fun p hp => by
  rcases List.mem_cons.mp hp with rfl | hp
  · exact ⟨h3, h1, h2⟩
  · exact news_all p (List.mem_filter.mp hp).1
/-- behind a rule that changed d alone: all else but the frame is kept -/
theorem kept_of_news {g h h' : Heap} {L d : Addr} {m : Str → Option Value} (k : ∀ b o, g.get? b = some o → h.get? b = some o) (F : Fr g L h' m) (N : News g L h' (rest g h L d)) :
    ∀ b o, b ≠ L → b ≠ d → h.get? b = some o → h'.get? b = some o := fun b o h1 h2 e => by
  cases q : g.get? b with
  | some u =>
    have := k b u q
    rw [e] at this; cases this
    exact F.keep b _ q
  | none => exact (N (b, o) (mem_rest h1 q e h2)).1
end L2

namespace L2
open PySem PySem.Spec PyProof.Rows

/-- the module's facts, over the base: the heap at the law's entry without what is tracked there -/
structure Mod (K : PySem.W.Frag) (mg : Str → Option Value) (base : Heap) : Prop where
  kin : K.In base
  glob : base.Ns mainGlobals mg
  blt : ∃ mb, base.Ns builtinsNs mb ∧ ∀ x : Str, x ≠ "__name__" → mb x = bootBuiltins x
  nolimit : base.NoLimit

/-- the context: a def's body (or a comprehension's block) running. base: fixed through the whole law; s₀, H₀: the entry; outer: the frames whose slots others may change (a def's callers); stack: all frames that run;
   ex: iterators that were made ahead of the entry and are walked here (a comprehension's); fn: the names whose cells were made at the entry (a def: all; a comprehension's block: its own); calm: not within an except suite; pn: pins that every state bears; xe: what is wanted of an exception that leaves the code -/
structure Cx where
  prog : Program
  w : World
  K : PySem.W.Frag
  mg : Str → Option Value
  base : Heap
  A : Around
  N : List Str
  s₀ : Shared
  H₀ : Hp
  env : Env
  outer : List Env
  stack : List Env
  ex : List Addr
  fn : Str → Bool
  calm : Bool
  pn : List (Addr × Obj)
  xe : Value → Shared → Prop
/-- the callers' frames -/
def frs (l : List Env) : List Addr := l.filterMap (·.frame)
abbrev Cx.fs (X : Cx) : List Addr := frs X.outer

def Vis (sc : Scope) (x : Str) : Prop := sc.names.lookup x = some .local ∨ sc.names.lookup x = some .cell ∨ sc.names.lookup x = some .free
def Loc (sc : Scope) (x : Str) : Prop := sc.names.lookup x = some .local ∨ sc.names.lookup x = some .cell
def Look (env : Env) (h : Heap) (m : Str → Option Value) (x : Str) (u : Value) : Prop :=
  (env.kindOf x = some .local ∧ m x = some u) ∨ ((env.kindOf x = some .cell ∨ env.kindOf x = some .free) ∧ ∃ c, env.cells.lookup x = some c ∧ h.IsCell c (some u))

structure Cx.Ok (X : Cx) : Prop where
  mod : Mod X.K X.mg X.base
  kind : X.env.scope.kind = .function
  glob : X.env.globals = mainGlobals
  blt : X.env.builtins = builtinsNs
  above : X.s₀.heap.objs.size ≤ X.env.locals
  inj : ∀ x y c, X.env.cells.lookup x = some c → X.env.cells.lookup y = some c → x = y
  has : ∀ x, (X.env.kindOf x = some .cell ∨ X.env.kindOf x = some .free) → ∃ c, X.env.cells.lookup x = some c
  cab : ∀ x c, X.fn x = true → X.env.cells.lookup x = some c → X.s₀.heap.objs.size ≤ c
  hd : X.calm = true → X.A.handled = none
  frames : X.A.frames = some X.stack
  stk : X.stack = X.outer ∨ (X.stack = X.env :: X.outer ∧ X.env.frame = some X.env.locals)
  exf : ∀ b ∈ X.ex, b ≠ X.env.locals ∧ ∀ x c, X.env.cells.lookup x = some c → c ≠ b
  bs : ∀ b o, X.base.get? b = some o → X.s₀.heap.get? b = some o ∧ X.H₀ b = none
  bsz : X.base.objs.size ≤ X.s₀.heap.objs.size
  noex : ∀ b o, X.base.get? b = some o → b ∉ X.ex
  exfs : ∀ b ∈ X.ex, b ∉ X.fs
  funs : X.s₀.heap.FunFrames X.base X.outer
  frf : ∀ b ∈ X.fs, X.H₀ b = none

structure Inv (X : Cx) (pins : List (Addr × Obj)) (σ : List (Option V)) (H : Hp) (s : Shared) : Prop where
  ok : X.Ok
  os : s.os = X.s₀.os
  bare : AllBare s.gens
  base : Un X.fs X.ex X.H₀ H X.s₀.heap s.heap
  loc : ∃ m, s.heap.Ns X.env.locals m ∧ ∀ (i : Nat) (x : Str) (v : V), X.N[i]? = some x → σ[i]? = some (some v) → Vis X.env.scope x → ∃ u, RelV v u ∧ Look X.env s.heap m x u
  cell : ∀ x c, X.env.cells.lookup x = some c → ∃ v, s.heap.IsCell c v
  free : H X.env.locals = none
  freeC : ∀ x c, X.env.cells.lookup x = some c → H c = none
  pin : ∀ p ∈ X.pn ++ pins, s.heap.get? p.1 = some p.2 ∧ H p.1 = none ∧ p.1 ≠ X.env.locals ∧ p.1 ∉ X.fs ∧ ∀ v, p.2.data ≠ .cell v
  hok : HOk X.prog X.w H s.heap
  len : σ.length = X.N.length

section
variable {X : Cx} {pins : List (Addr × Obj)} {σ : List (Option V)} {H H' : Hp} {s : Shared} {h' : Heap}

theorem Cx.Ok.nofr (ok : X.Ok) {b : Addr} {o : Obj} (e : X.base.get? b = some o) : b ∉ X.fs := fun hb => by
  have := (ok.funs.mem hb).1
  rw [e] at this; cases this
theorem Inv.bs (I : Inv X pins σ H s) : ∀ b o, X.base.get? b = some o → s.heap.get? b = some o ∧ H b = none := fun b o e =>
  ⟨I.base.keep b o (I.ok.bs b o e).1 (I.ok.bs b o e).2 (I.ok.nofr e) (I.ok.noex b o e), I.base.free b o (I.ok.bs b o e).1 (I.ok.bs b o e).2 (I.ok.noex b o e)⟩
theorem Inv.bk (I : Inv X pins σ H s) : ∀ b o, X.base.get? b = some o → s.heap.get? b = some o := fun b o e => (I.bs b o e).1
theorem Inv.mod (I : Inv X pins σ H s) : Mod X.K X.mg X.base := I.ok.mod
theorem Inv.kIn (I : Inv X pins σ H s) : X.K.In s.heap := I.ok.mod.kin.keeps I.bk
theorem Inv.nolimit (I : Inv X pins σ H s) : s.heap.NoLimit := I.ok.mod.nolimit.keeps I.bk
/-- the frame over the base: for OpenK's rules (K.In X.base is I.mod.kin) -/
theorem Inv.fr (I : Inv X pins σ H s) : ∃ m, Fr X.base X.env.locals s.heap m :=
  let ⟨m, hn, _⟩ := I.loc
  ⟨m, hn, I.bk, Nat.le_trans I.ok.bsz I.ok.above⟩
theorem Inv.lt (I : Inv X pins σ H s) : X.env.locals < s.heap.objs.size := let ⟨_, hn, _⟩ := I.loc; hn.lt
theorem Inv.sz (I : Inv X pins σ H s) : X.s₀.heap.objs.size ≤ s.heap.objs.size := Nat.le_trans I.ok.above (Nat.le_of_lt I.lt)
theorem Inv.nofs (I : Inv X pins σ H s) {a : Addr} (h : s.heap.objs.size ≤ a) : a ∉ X.fs := fun hb => by
  obtain ⟨_, o, ho, _⟩ := I.ok.funs.mem hb
  exact absurd (Nat.lt_of_lt_of_le (Heap.lt_size ho) (Nat.le_trans I.sz h)) (Nat.lt_irrefl _)
theorem Inv.cne (I : Inv X pins σ H s) : ∀ x c, X.env.cells.lookup x = some c → c ≠ X.env.locals := fun x c e z => by
  obtain ⟨v, o, ho, hd⟩ := I.cell x c e
  obtain ⟨m, ⟨o', es, ep, ho', hd', _⟩, _⟩ := I.loc
  rw [z, ho'] at ho; cases ho; rw [hd'] at hd; cases hd
theorem Inv.funs (I : Inv X pins σ H s) : s.heap.FunFrames X.base X.outer := by
  have all : ∀ (l : List Env), (∀ b ∈ frs l, b ∈ X.fs) → X.s₀.heap.FunFrames X.base l → s.heap.FunFrames X.base l := by
    intro l
    induction l with
    | nil => intro _ _; trivial
    | cons env r ih =>
      intro hs hl
      obtain ⟨hk, ⟨L, o, hf, hn, ho, hd⟩, hr⟩ := hl
      have hL : L ∈ X.fs := hs L (by unfold frs; rw [List.filterMap_cons, hf]; exact List.mem_cons_self)
      obtain ⟨sl, e⟩ := I.base.slot L o ho (I.ok.frf L hL) hL fun z => I.ok.exfs L z hL
      exact ⟨hk, ⟨L, _, hf, hn, e, hd⟩, ih (fun b hb => hs b (by unfold frs; rw [List.filterMap_cons, hf]; exact List.mem_cons_of_mem _ hb)) hr⟩
  exact all X.outer (fun _ hb => hb) I.ok.funs

/-- the frames that run, for a call -/
theorem Inv.stack (I : Inv X pins σ H s) : s.heap.FunFrames X.base X.stack := by
  rcases I.ok.stk with e | ⟨e, hf⟩
  · rw [e]; exact I.funs
  · rw [e]
    obtain ⟨m, hn, _⟩ := I.loc
    refine .cons (by rw [I.ok.kind]; decide) hf hn ?_ I.funs
    exact Heap.get?_none_of_le (Nat.le_trans I.ok.bsz I.ok.above)
theorem Inv.stkSub (I : Inv X pins σ H s) : ∀ b ∈ frs X.stack, b ∈ X.env.locals :: X.fs := fun b hb => by
  rcases I.ok.stk with e | ⟨e, hf⟩
  · rw [e] at hb; exact List.mem_cons_of_mem _ hb
  · rw [e] at hb
    unfold frs at hb
    rw [List.filterMap_cons, hf] at hb
    exact hb
theorem Inv.stkFree (I : Inv X pins σ H s) : ∀ b ∈ frs X.stack, H b = none := fun b hb => by
  rcases List.mem_cons.mp (I.stkSub b hb) with e | hb
  · rw [e]; exact I.free
  · obtain ⟨_, o, ho, _⟩ := I.ok.funs.mem hb
    exact I.base.free b o ho (I.ok.frf b hb) fun z => I.ok.exfs b z hb

/-- THE STEP: the untracked objects but the frame and the records at ch are kept (the callers' frames up to slots), the frame's map is kept, the new abstract heap is held -/
theorem Inv.step {g' : Array GenState} {t' : Nat} {d' : Drawn} {ch : List Addr} (I : Inv X pins σ H s)
    (hch : ∀ b ∈ ch, (b ∈ X.ex ∨ X.s₀.heap.objs.size ≤ b) ∧ b ≠ X.env.locals ∧ (∀ x c, X.env.cells.lookup x = some c → c ≠ b) ∧ ∀ p ∈ X.pn ++ pins, p.1 ≠ b)
    (keep : ∀ b o, b ≠ X.env.locals → b ∉ X.fs → b ∉ ch → s.heap.get? b = some o → H b = none → h'.get? b = some o)
    (slot : ∀ b o, b ≠ X.env.locals → b ∈ X.fs → b ∉ ch → s.heap.get? b = some o → H b = none → ∃ sl, h'.get? b = some { o with slots := sl }) (free : ∀ b o, b ∉ ch → s.heap.get? b = some o → H b = none → H' b = none)
    (there : ∀ b o, b ∉ ch → s.heap.get? b = some o → ∃ o', h'.get? b = some o')
    (tups : ∀ b xs, H b = some (.tup xs) → H' b = some (.tup xs)) (frzs : ∀ b o u, H b = some (.frz o u) → H' b = some (.frz o u)) (tbls : ∀ b ps, H b = some (.tbl ps) → ∃ more, H' b = some (.tbl (ps ++ more)))
    (ns : ∀ m, s.heap.Ns X.env.locals m → h'.Ns X.env.locals m) (hok : HOk X.prog X.w H' h') (hg : AllBare g') :
    Inv X pins σ H' { s with heap := h', gens := g', drawn := d', toks := t' } := by
  have neL : ∀ b o, X.s₀.heap.get? b = some o → b ≠ X.env.locals := fun b o e => Nat.ne_of_lt (Nat.lt_of_lt_of_le (Heap.lt_size e) I.ok.above)
  have neC : ∀ b o, X.s₀.heap.get? b = some o → b ∉ X.ex → b ∉ ch := fun b o e hx hb => by
    rcases (hch b hb).1 with z | z
    · exact hx z
    · exact absurd (Nat.lt_of_lt_of_le (Heap.lt_size e) z) (Nat.lt_irrefl _)
  have cellK : ∀ x c, X.env.cells.lookup x = some c → ∀ v, s.heap.IsCell c v → h'.IsCell c v := fun x c e v ⟨o, ho, hd⟩ => by
    have nch : c ∉ ch := fun z => (hch c z).2.2.1 x c e rfl
    by_cases hc : c ∈ X.fs
    · obtain ⟨sl, q⟩ := slot c o (I.cne x c e) hc nch ho (I.freeC x c e)
      exact ⟨_, q, hd⟩
    · exact ⟨o, keep c o (I.cne x c e) hc nch ho (I.freeC x c e), hd⟩
  refine ⟨I.ok, I.os, hg, ⟨fun b o e n hb hx => ?_, fun b o e n hb hx => ?_, fun b o e n hx => ?_, fun b o e hx => ?_, fun b xs e => tups b xs (I.base.tups b xs e), fun b o xs e => frzs b o xs (I.base.frzs b o xs e), fun b ps e => ?_⟩, ?_, fun x c e => ?_, ?_, fun x c e => ?_, fun p hp => ?_, hok, I.len⟩
  · exact keep b o (neL b o e) hb (neC b o e hx) (I.base.keep b o e n hb hx) (I.base.free b o e n hx)
  · obtain ⟨sl, e1⟩ := I.base.slot b o e n hb hx
    obtain ⟨sl', e2⟩ := slot b _ (neL b o e) hb (neC b o e hx) e1 (I.base.free b o e n hx)
    exact ⟨sl', e2⟩
  · obtain ⟨o', e1⟩ := I.base.there b o e hx
    exact free b o' (neC b o e hx) e1 (I.base.free b o e n hx)
  · obtain ⟨o', e1⟩ := I.base.there b o e hx
    exact there b o' (neC b o e hx) e1
  · obtain ⟨m1, e1⟩ := I.base.tbls b ps e
    obtain ⟨m2, e2⟩ := tbls b _ e1
    exact ⟨m1 ++ m2, by rw [e2, Array.append_assoc]⟩
  · obtain ⟨m, hn, hl⟩ := I.loc
    refine ⟨m, ns m hn, fun i x v e1 e2 e3 => ?_⟩
    obtain ⟨u, r, l⟩ := hl i x v e1 e2 e3
    refine ⟨u, r, ?_⟩
    rcases l with l | ⟨k, c, e, z⟩
    · exact .inl l
    · exact .inr ⟨k, c, e, cellK x c e _ z⟩
  · obtain ⟨v, z⟩ := I.cell x c e
    exact ⟨v, cellK x c e v z⟩
  · obtain ⟨m, ⟨o, _, _, ho, _⟩, _⟩ := I.loc
    exact free _ o (fun z => (hch _ z).2.1 rfl) ho I.free
  · obtain ⟨v, o, ho, hd⟩ := I.cell x c e
    exact free c o (fun z => (hch c z).2.2.1 x c e rfl) ho (I.freeC x c e)
  · obtain ⟨e, n, ne, nf, d⟩ := I.pin p hp
    have nch : p.1 ∉ ch := fun z => (hch p.1 z).2.2.2 p hp rfl
    exact ⟨keep p.1 p.2 ne nf nch e n, free p.1 p.2 nch e n, ne, nf, d⟩
/-- .. where the frame's own object is kept too -/
theorem Inv.un {t' : Nat} (I : Inv X pins σ H s) (u : Un X.fs [] H H' s.heap h') (hok : HOk X.prog X.w H' h') : Inv X pins σ H' { s with heap := h', toks := t' } := by
  obtain ⟨m, ⟨o, es, ep, ho, r⟩, _⟩ := id I.loc
  obtain ⟨sl, hL⟩ := u.any ho I.free (by simp)
  exact I.step (g' := s.gens) (d' := s.drawn) (ch := []) (fun _ z => nomatch z) (fun b o _ hb _ e n => u.keep b o e n hb (by simp)) (fun b o _ hb _ e n => u.slot b o e n hb (by simp)) (fun b o _ e n => u.free b o e n (by simp)) (fun b o _ e => u.there b o e (by simp)) u.tups u.frzs u.tbls (fun m' hm => by
    obtain ⟨o', es', ep', ho', r'⟩ := hm
    rw [ho] at ho'; cases ho'
    exact ⟨_, es', ep', hL, r'⟩) hok I.bare
/-- behind a call (or a comprehension's block): the slots of this frame may have changed too, the records at ch may have turned -/
theorem Inv.call {g' : Array GenState} {t' : Nat} {d' : Drawn} {ch : List Addr} (I : Inv X pins σ H s) (u : Un (frs X.stack) ch H H' s.heap h') (hok : HOk X.prog X.w H' h') (hg : AllBare g')
    (hch : ∀ b ∈ ch, (b ∈ X.ex ∨ X.s₀.heap.objs.size ≤ b) ∧ b ≠ X.env.locals ∧ (∀ x c, X.env.cells.lookup x = some c → c ≠ b) ∧ ∀ p ∈ X.pn ++ pins, p.1 ≠ b) :
    Inv X pins σ H' { s with heap := h', gens := g', drawn := d', toks := t' } := by
  obtain ⟨m, ⟨o, es, ep, ho, r⟩, _⟩ := id I.loc
  obtain ⟨sl, hL⟩ := u.any ho I.free fun z => (hch _ z).2.1 rfl
  exact I.step (ch := ch) hch (fun b o hL hb hc e n => u.keep b o e n (fun z => (List.mem_cons.mp (I.stkSub b z)).elim hL hb) hc) (fun b o _ _ hc e n => u.any e n hc) (fun b o hc e n => u.free b o e n hc) (fun b o hc e => u.there b o e hc) u.tups u.frzs u.tbls (fun m' hm => by
    obtain ⟨o', es', ep', ho', r'⟩ := hm
    rw [ho] at ho'; cases ho'
    exact ⟨_, es', ep', hL, r'⟩) hok hg
/-- an untracked record of ours (an iterator) has turned -/
theorem Inv.turned {t' : Nat} {it : Addr} (I : Inv X pins σ H s) (k : ∀ b o, b ≠ it → s.heap.get? b = some o → h'.get? b = some o) (hn : H it = none) (hL : it ≠ X.env.locals)
    (h1 : it ∈ X.ex ∨ X.s₀.heap.objs.size ≤ it) (h2 : ∀ x c, X.env.cells.lookup x = some c → c ≠ it) (h3 : ∀ p ∈ X.pn ++ pins, p.1 ≠ it) : Inv X pins σ H { s with heap := h', toks := t' } := by
  have nit : ∀ b u, H b = some u → b ≠ it := fun b u e z => by rw [z, hn] at e; cases e
  refine I.step (g' := s.gens) (d' := s.drawn) (ch := [it]) (fun b hb => ?_) (fun b o _ _ hc e _ => k b o (fun z => hc (by simp [z])) e) (fun b o _ _ hc e _ => ⟨o.slots, k b o (fun z => hc (by simp [z])) e⟩) (fun _ _ _ _ n => n)
    (fun b o hc e => ⟨o, k b o (fun z => hc (by simp [z])) e⟩) (fun _ _ e => e) (fun _ _ _ e => e) (fun b ps e => ⟨#[], by rw [e]; simp⟩) (fun m hm => ?_) (fun b u e => ?_) I.bare
  · have e : b = it := by simpa using hb
    subst e
    exact ⟨h1, hL, h2, h3⟩
  · obtain ⟨o, es, ep, ho, r⟩ := hm
    exact ⟨o, es, ep, k _ o (Ne.symm hL) ho, r⟩
  · refine (I.hok b u e).stay (fun c v hc q => k c v ?_ q) (fun _ q => q) fun _ _ q => q
    rcases hc with z | z
    · rw [z]; exact nit b u e
    · exact nit c _ z
theorem Inv.tok (I : Inv X pins σ H s) (t : Nat) : Inv X pins σ H { s with toks := t } := I.un (h' := s.heap) (t' := t) Un.refl I.hok
/-- all objects kept -/
theorem Inv.kept {t' : Nat} (I : Inv X pins σ H s) (k : ∀ b u, s.heap.get? b = some u → h'.get? b = some u) : Inv X pins σ H { s with heap := h', toks := t' } := I.un (Un.kept k) (I.hok.kept k)
/-- a new object laid and tracked -/
theorem Inv.laid {a : Addr} {o : HO} {t' : Nat} (I : Inv X pins σ H s) (k : ∀ b u, s.heap.get? b = some u → h'.get? b = some u) (hp : s.heap.objs.size ≤ a) (new : ObjOk X.prog X.w (upd H a o) h' a o) :
    Inv X pins σ (upd H a o) { s with heap := h', toks := t' } := I.un (Un.laid k hp (I.hok.fresh hp)) (I.hok.laid k hp new)
/-- an object written -/
theorem Inv.write {x e : Addr} {o : HO} {t' : Nat} (I : Inv X pins σ H s) (mu : Mut (H x)) (he : e = x ∨ H e = some (.own x)) (k : ∀ b u, b ≠ e → s.heap.get? b = some u → h'.get? b = some u) (heo : ∃ u, h'.get? e = some u)
    (new : ObjOk X.prog X.w (upd H x o) h' x o) : Inv X pins σ (upd H x o) { s with heap := h', toks := t' } := I.un (Un.write mu he k heo) (I.hok.write mu he k heo new)
/-- forgetting slots, pins -/
theorem Inv.weak {σ' : List (Option V)} (I : Inv X pins σ H s) (hl : σ'.length = σ.length) (w : ∀ (i : Nat) v, σ'[i]? = some (some v) → σ[i]? = some (some v)) : Inv X pins σ' H s :=
  ⟨I.ok, I.os, I.bare, I.base, let ⟨m, hn, hl'⟩ := I.loc; ⟨m, hn, fun i x v e1 e2 e3 => hl' i x v e1 (w i v e2) e3⟩, I.cell, I.free, I.freeC, I.pin, I.hok, hl.trans I.len⟩
theorem Inv.pins_of {pins' : List (Addr × Obj)} (I : Inv X pins σ H s) (h : ∀ p ∈ pins', s.heap.get? p.1 = some p.2 ∧ H p.1 = none ∧ p.1 ≠ X.env.locals ∧ p.1 ∉ X.fs ∧ ∀ v, p.2.data ≠ .cell v) : Inv X pins' σ H s :=
  ⟨I.ok, I.os, I.bare, I.base, I.loc, I.cell, I.free, I.freeC, fun p hp => (List.mem_append.mp hp).elim (fun z => I.pin p (List.mem_append_left _ z)) (h p), I.hok, I.len⟩

theorem nodup_ix {N : List Str} (hN : N.Nodup) {i j : Nat} {x : Str} (a : N[i]? = some x) (b : N[j]? = some x) : i = j := by
  obtain ⟨h1, e1⟩ := List.getElem?_eq_some_iff.mp a
  obtain ⟨h2, e2⟩ := List.getElem?_eq_some_iff.mp b
  exact (List.getElem_inj hN).mp (e1.trans e2.symm)

/-- a name is stored; what changed -/
theorem store_ok2 {M : Model} {A : Around} {E : Value → Shared → Prop} {i : Nat} {x : Str} {v : V} {u : Value} {Q : Unit → Shared → Prop} (I : Inv X pins σ H s) (hN : X.N.Nodup) (hi : X.N[i]? = some x) (hx : Loc X.env.scope x) (r : RelV v u)
    (h : ∀ s', Inv X pins (σ.set i (some v)) H s' → (∃ a, Heap.SameBut a s.heap s'.heap ∧ (a = X.env.locals ∨ X.env.cells.lookup x = some a)) → Q () s') (hf : X.fn x = true ∨ X.env.scope.names.lookup x = some .local := by first | exact .inl rfl | exact .inr rfl | assumption) : wpAny M A (storeName X.env x u) Q E s := by
  obtain ⟨m, hn, hl⟩ := id I.loc
  have hcls : (X.env.scope.kind == .class || (X.env.scope.kind == .module && X.env.locals != X.env.globals)) = false := by rw [I.ok.kind]; rfl
  have hiσ : i < σ.length := by rw [I.len]; exact (List.getElem?_eq_some_iff.mp hi).1
  have cne := I.cne
  have tracked : ∀ {a : Addr} {h' : Heap}, (∃ o, s.heap.get? a = some o ∧ H a = none) → Heap.SameBut a s.heap h' → HOk X.prog X.w H h' := fun {a h'} ha hs b ob e => by
    obtain ⟨_, _, hfree⟩ := ha
    refine (I.hok b ob e).stay (fun c w' hc q => (hs.2 c ?_).trans q) (fun _ q => q) fun _ _ q => q
    rintro rfl
    rcases hc with rfl | hc
    · rw [hfree] at e; cases e
    · rw [hfree] at hc; cases hc
  rcases hx with hk | hk
  · refine wpAny_storeName_local hk hn (fun h' hn' hs => ?_) hcls
    obtain ⟨oL, _, _, hoL, _⟩ := id hn
    refine h _ ⟨I.ok, I.os, I.bare, ⟨fun b o e n hb hx => ?_, fun b o e n hb hx => ?_, I.base.free, fun b o e hx => ?_, I.base.tups, I.base.frzs, I.base.tbls⟩, ⟨_, hn', fun j y v' e1 e2 e3 => ?_⟩, fun y c e => ?_, I.free, I.freeC, fun p hp => ?_, tracked ⟨oL, hoL, I.free⟩ hs, by simpa using I.len⟩ ⟨_, hs, .inl rfl⟩
    · exact (hs.2 b (Nat.ne_of_lt (Nat.lt_of_lt_of_le (Heap.lt_size e) I.ok.above))).trans (I.base.keep b o e n hb hx)
    · obtain ⟨sl, e1⟩ := I.base.slot b o e n hb hx
      exact ⟨sl, (hs.2 b (Nat.ne_of_lt (Nat.lt_of_lt_of_le (Heap.lt_size e) I.ok.above))).trans e1⟩
    · obtain ⟨o', e1⟩ := I.base.there b o e hx
      exact ⟨o', (hs.2 b (Nat.ne_of_lt (Nat.lt_of_lt_of_le (Heap.lt_size e) I.ok.above))).trans e1⟩
    · by_cases hj : j = i
      · subst hj
        rw [hi] at e1; cases e1
        rw [List.getElem?_set_self hiσ] at e2
        cases e2
        exact ⟨u, r, .inl ⟨hk, by simp⟩⟩
      · rw [List.getElem?_set_ne (Ne.symm hj)] at e2
        obtain ⟨u', r', q⟩ := hl j y v' e1 e2 e3
        refine ⟨u', r', ?_⟩
        rcases q with ⟨k, e⟩ | ⟨k, c, e, z⟩
        · refine .inl ⟨k, ?_⟩
          have : y ≠ x := fun e => hj (nodup_ix hN e1 (e ▸ hi))
          simp [this, e]
        · exact .inr ⟨k, c, e, z.sameBut hs (cne y c e)⟩
    · obtain ⟨w', z⟩ := I.cell y c e
      exact ⟨w', z.sameBut hs (cne y c e)⟩
    · obtain ⟨e, n, ne, nf, d⟩ := I.pin p hp
      exact ⟨(hs.2 p.1 ne).trans e, n, ne, nf, d⟩
  · have hfn : X.fn x = true := by
      rcases hf with z | z
      · exact z
      · rw [z] at hk; cases hk
    obtain ⟨c, hc⟩ := I.ok.has x (.inl hk)
    obtain ⟨w', z⟩ := I.cell x c hc
    refine wpAny_storeName_cell I.ok.kind hk hc z (fun h' hc' hs => ?_)
    obtain ⟨oc, hoc, hocd⟩ := id z
    refine h { s with heap := h' } ⟨I.ok, I.os, I.bare, ⟨fun b o e n hb hx => ?_, fun b o e n hb hx => ?_, I.base.free, fun b o e hx => ?_, I.base.tups, I.base.frzs, I.base.tbls⟩, ⟨m, hn.sameBut hs (Ne.symm (cne x c hc)), fun j y v' e1 e2 e3 => ?_⟩, fun y c' e => ?_, I.free, I.freeC, fun p hp => ?_, tracked ⟨oc, hoc, I.freeC x c hc⟩ hs, by simpa using I.len⟩ ⟨c, hs, .inr hc⟩
    · exact (hs.2 b (Nat.ne_of_lt (Nat.lt_of_lt_of_le (Heap.lt_size e) (I.ok.cab x c hfn hc)))).trans (I.base.keep b o e n hb hx)
    · obtain ⟨sl, e1⟩ := I.base.slot b o e n hb hx
      exact ⟨sl, (hs.2 b (Nat.ne_of_lt (Nat.lt_of_lt_of_le (Heap.lt_size e) (I.ok.cab x c hfn hc)))).trans e1⟩
    · obtain ⟨o', e1⟩ := I.base.there b o e hx
      exact ⟨o', (hs.2 b (Nat.ne_of_lt (Nat.lt_of_lt_of_le (Heap.lt_size e) (I.ok.cab x c hfn hc)))).trans e1⟩
    · by_cases hj : j = i
      · subst hj
        rw [hi] at e1; cases e1
        rw [List.getElem?_set_self hiσ] at e2
        cases e2
        exact ⟨u, r, .inr ⟨.inl hk, c, hc, hc'⟩⟩
      · rw [List.getElem?_set_ne (Ne.symm hj)] at e2
        obtain ⟨u', r', q⟩ := hl j y v' e1 e2 e3
        refine ⟨u', r', ?_⟩
        rcases q with q | ⟨k, c', e, z'⟩
        · exact .inl q
        · refine .inr ⟨k, c', e, z'.sameBut hs ?_⟩
          rintro rfl
          exact hj (nodup_ix hN e1 (I.ok.inj _ _ _ e hc ▸ hi))
    · by_cases hcc : c' = c
      · subst hcc; exact ⟨_, hc'⟩
      · obtain ⟨w2, z2⟩ := I.cell y c' e
        exact ⟨w2, z2.sameBut hs hcc⟩
    · obtain ⟨e, n, ne, nf, d⟩ := I.pin p hp
      refine ⟨(hs.2 p.1 ?_).trans e, n, ne, nf, d⟩
      intro q
      rw [q, hoc] at e
      have q' : oc = p.2 := Option.some.inj e
      exact d w' (by rw [← q']; exact hocd)
theorem store_ok {M : Model} {A : Around} {E : Value → Shared → Prop} {i : Nat} {x : Str} {v : V} {u : Value} {Q : Unit → Shared → Prop} (I : Inv X pins σ H s) (hN : X.N.Nodup) (hi : X.N[i]? = some x) (hx : Loc X.env.scope x) (r : RelV v u)
    (h : ∀ s', Inv X pins (σ.set i (some v)) H s' → Q () s') (hf : X.fn x = true ∨ X.env.scope.names.lookup x = some .local := by first | exact .inl rfl | exact .inr rfl | assumption) : wpAny M A (storeName X.env x u) Q E s :=
  store_ok2 I hN hi hx r (fun s' I' _ => h s' I') hf
/-- behind a call or a block, the state as it is -/
theorem Inv.call' {s' : Shared} {ch : List Addr} (I : Inv X pins σ H s) (ho : s'.os = s.os) (u : Un (frs X.stack) ch H H' s.heap s'.heap) (hok : HOk X.prog X.w H' s'.heap) (hg : AllBare s'.gens)
    (hch : ∀ b ∈ ch, (b ∈ X.ex ∨ X.s₀.heap.objs.size ≤ b) ∧ b ≠ X.env.locals ∧ (∀ x c, X.env.cells.lookup x = some c → c ≠ b) ∧ ∀ p ∈ X.pn ++ pins, p.1 ≠ b) : Inv X pins σ H' s' := by
  obtain ⟨h', g', d', t', o'⟩ := s'
  have e : o' = s.os := ho
  subst e
  exact I.call (g' := g') (t' := t') (d' := d') u hok hg hch
end

/-! ### the judgements -/
/-- an exception: its class, its own dict's address (where it has one), the abstract heap behind it -/
abbrev XK := Value → Option Addr → Hp → Prop
abbrev St := List (Option V)
abbrev VK := V → Hp → Prop
/-- an expression's reading; a test's; an argument list's -/
abbrev TE := St → Hp → VK → Prop
abbrev TT := St → Hp → (Bool → Hp → Prop) → Prop
abbrev TA := St → Hp → (List V → Hp → Prop) → Prop
/-- what is wanted behind a statement -/
structure Ends where
  nx : St → Hp → Prop
  rt : VK
  bk : St → Hp → Prop := fun _ _ => False
  ct : St → Hp → Prop := fun _ _ => False
abbrev TS := Ends → St → Hp → Prop

def EP (X : Cx) (pins : List (Addr × Obj)) (σ : St) (Q : VK) (u : Value) (s' : Shared) : Prop := ∃ v H', Inv X pins σ H' s' ∧ RelV v u ∧ Q v H'
def TP (X : Cx) (pins : List (Addr × Obj)) (σ : St) (Q : Bool → Hp → Prop) (b : Bool) (s' : Shared) : Prop := ∃ H', Inv X pins σ H' s' ∧ Q b H'
def AP (X : Cx) (pins : List (Addr × Obj)) (σ : St) (Q : List V → Hp → Prop) (us : List Value) (s' : Shared) : Prop := ∃ vs H', Inv X pins σ H' s' ∧ Vals vs us ∧ Q vs H'
def SP (X : Cx) (pins : List (Addr × Obj)) (D : Ends) (f : Flow) (s' : Shared) : Prop :=
  match f with
  | .next => ∃ σ' H', Inv X pins σ' H' s' ∧ D.nx σ' H'
  | .brk => ∃ σ' H', Inv X pins σ' H' s' ∧ D.bk σ' H'
  | .cont => ∃ σ' H', Inv X pins σ' H' s' ∧ D.ct σ' H'
  | .ret u => ∃ v σ' H', Inv X pins σ' H' s' ∧ RelV v u ∧ D.rt v H'

def PE (X : Cx) (e : Expr) (t : TE) : Prop :=
  ∀ (pins : List (Addr × Obj)) (s : Shared) (σ : St) (H : Hp) (Q : VK), Inv X pins σ H s → t σ H Q → wpAny (model X.prog X.w) X.A (eval e X.env) (EP X pins σ Q) X.xe s
def PT (X : Cx) (e : Expr) (t : TT) : Prop :=
  ∀ (pins : List (Addr × Obj)) (s : Shared) (σ : St) (H : Hp) (Q : Bool → Hp → Prop), Inv X pins σ H s → t σ H Q → wpAny (model X.prog X.w) X.A (isTrue e X.env (eval e X.env)) (TP X pins σ Q) X.xe s
/-- a test whatever its 'whole' is (and, or) -/
def PW (X : Cx) (e : Expr) (t : TT) : Prop :=
  ∀ (whole : Sem Value) (pins : List (Addr × Obj)) (s : Shared) (σ : St) (H : Hp) (Q : Bool → Hp → Prop), Inv X pins σ H s → t σ H Q → wpAny (model X.prog X.w) X.A (isTrue e X.env whole) (TP X pins σ Q) X.xe s
theorem PW.pt {X : Cx} {e : Expr} {t : TT} (h : PW X e t) : PT X e t := h _
/-- an argument list (no star), from the left -/
def PA (X : Cx) (es : List Expr) (t : TA) : Prop :=
  ∀ (pos : Pos) (pins : List (Addr × Obj)) (s : Shared) (σ : St) (H : Hp) (Q : List V → Hp → Prop), Inv X pins σ H s → t σ H Q → wpAny (model X.prog X.w) X.A (spliced (backTo pos (starEach es X.env))) (AP X pins σ Q) X.xe s
def PS (X : Cx) (st : Stmt) (t : TS) : Prop :=
  ∀ (pins : List (Addr × Obj)) (s : Shared) (σ : St) (H : Hp) (D : Ends), Inv X pins σ H s → t D σ H → wpAny (model X.prog X.w) X.A (exec st X.env) (SP X pins D) X.xe s
def PSs (X : Cx) (st : List Stmt) (t : TS) : Prop :=
  ∀ (pins : List (Addr × Obj)) (s : Shared) (σ : St) (H : Hp) (D : Ends), Inv X pins σ H s → t D σ H → wpAny (model X.prog X.w) X.A (execs st X.env) (SP X pins D) X.xe s
/-- weaken the end -/
theorem thn {α : Type} {t : Sem α} {Q Q' : α → Shared → Prop} {M : Model} {A : Around} {E : Value → Shared → Prop} {s : Shared} (h : wpAny M A t Q E s) (hQ : ∀ a s, Q a s → Q' a s) : wpAny M A t Q' E s := wpAny_mono h hQ fun _ _ x => x
end L2

namespace L2
open PySem PySem.Spec PyProof.Rows
section
variable {X : Cx}

/-- two expressions in a row -/
theorem bin {a b : Expr} {ta tb : TE} (ha : PE X a ta) (hb : PE X b tb) {pins : List (Addr × Obj)} {s : Shared} {σ : St} {H : Hp} {R : V → V → Hp → Prop} (I : Inv X pins σ H s) (h : ta σ H fun x H1 => tb σ H1 fun y H2 => R x y H2)
    {α : Type} {Q : α → Shared → Prop} {f : Value → Value → Sem α}
    (hf : ∀ v u s2 x y H2, Inv X pins σ H2 s2 → RelV x v → RelV y u → R x y H2 → wpAny (model X.prog X.w) X.A (f v u) Q X.xe s2) :
    wpAny (model X.prog X.w) X.A (eval a X.env) (fun v s₁ => wpAny (model X.prog X.w) X.A (eval b X.env) (fun u s₂ => wpAny (model X.prog X.w) X.A (f v u) Q X.xe s₂) X.xe s₁) X.xe s := by
  refine thn (ha pins s σ H _ I h) fun v s1 ⟨x, H1, I1, r1, q1⟩ => ?_
  refine thn (hb pins s1 σ H1 _ I1 q1) fun u s2 ⟨y, H2, I2, r2, q2⟩ => ?_
  exact hf v u s2 x y H2 I2 r1 r2 q2

/-! ### names and constants -/
def tVar (i : Nat) : TE := fun σ H Q => ∃ v, σ[i]? = some (some v) ∧ Q v H
def tC (v : V) : TE := fun _ H Q => Q v H
theorem pe_var {i : Nat} {x : Str} {pos : Pos} (hN : X.N[i]? = some x) (hv : Vis X.env.scope x) (hd : (x == ("__debug__" : Str)) = false := by decide) (hcd : (x == ("__classdict__" : Str)) = false := by decide) : PE X (.Name x pos) (tVar i) := by
  intro pins s σ H Q I h
  obtain ⟨v, e, h⟩ := h
  obtain ⟨m, hn, hl⟩ := I.loc
  obtain ⟨u, r, l⟩ := hl i x v hN e hv
  have fin : EP X pins σ Q u s := ⟨v, H, I, r, h⟩
  rcases l with ⟨hk, hm⟩ | ⟨hk, c, hc, hcell⟩
  · exact wpAny_Name (wpAny_loadName_local I.ok.kind hk hn hm fin) hd
  · rcases hk with hk | hk
    · exact wpAny_Name (wpAny_loadName_cell I.ok.kind hk hc hcell fin) hd
    · exact wpAny_Name (wpAny_loadName_free I.ok.kind hk hc hcell fin hcd) hd
theorem pe_int {i j pos} : PE X (.Constant (.int i) j pos) (tC (.int i)) := fun _ _ _ H _ I h => wpAny_Constant_int ⟨.int i, H, I.tok _, ⟨_, rfl⟩, h⟩
theorem pe_bl {b j pos} : PE X (.Constant (.bool b) j pos) (tC (.bl b)) := fun _ _ _ H _ I h => Constant_bool ⟨.bl b, H, I, rfl, h⟩
theorem pe_non {j pos} : PE X (.Constant .none j pos) (tC .non) := fun _ _ _ H _ I h => Constant_none ⟨.non, H, I, rfl, h⟩
theorem pe_str {x j pos} : PE X (.Constant (.str x) j pos) (tC (.str x)) := fun _ _ _ H _ I h => Calls.Constant_str ⟨.str x, H, I.tok _, ⟨_, rfl⟩, h⟩

/-- a global name of the def -/
def Gl (X : Cx) (x : Str) : Prop := X.env.kindOf x = some .globalImplicit
theorem ld_glob {E : Value → Shared → Prop} {pins : List (Addr × Obj)} {s : Shared} {σ : St} {H : Hp} {x : Str} {u : Value} {pos : Pos} {Q : Value → Shared → Prop} (I : Inv X pins σ H s) (hg : Gl X x) (hm : X.mg x = some u) (h : Q u s)
    (hd : (x == ("__debug__" : Str)) = false := by decide) : wpAny (model X.prog X.w) X.A (eval (.Name x pos) X.env) Q E s :=
  Calls.Name_function_global I.ok.kind hg (Calls.loadGlobal_global (by rw [I.ok.glob]; exact I.mod.glob.keeps I.bk) hm h) hd
theorem ld_blt {E : Value → Shared → Prop} {pins : List (Addr × Obj)} {s : Shared} {σ : St} {H : Hp} {x : Str} {u : Value} {pos : Pos} {Q : Value → Shared → Prop} (I : Inv X pins σ H s) (hg : Gl X x) (hm : X.mg x = none) (hv : bootBuiltins x = some u) (h : Q u s)
    (hn : x ≠ "__name__" := by decide) (hd : (x == ("__debug__" : Str)) = false := by decide) : wpAny (model X.prog X.w) X.A (eval (.Name x pos) X.env) Q E s := by
  obtain ⟨mb, h1, h2⟩ := I.mod.blt
  exact Calls.Name_function_global I.ok.kind hg (Calls.loadGlobal_builtin (by rw [I.ok.glob]; exact I.mod.glob.keeps I.bk) hm (by rw [I.ok.blt]; exact h1.keeps I.bk) ((h2 x hn).trans hv) h) hd
/-- a module's constant, a class, a function, as a value -/
theorem pe_glob {x : Str} {v : V} {u : Value} {pos : Pos} (hg : Gl X x) (hm : X.mg x = some u) (r : RelV v u) (hd : (x == ("__debug__" : Str)) = false := by decide) : PE X (.Name x pos) (tC v) :=
  fun _ _ _ H _ I h => ld_glob I hg hm ⟨v, H, I, r, h⟩ hd
theorem pe_bltn {x : Str} {v : V} {u : Value} {pos : Pos} (hg : Gl X x) (hm : X.mg x = none) (hv : bootBuiltins x = some u) (r : RelV v u) (hn : x ≠ "__name__" := by decide) (hd : (x == ("__debug__" : Str)) = false := by decide) : PE X (.Name x pos) (tC v) :=
  fun _ _ _ H _ I h => ld_blt I hg hm hv ⟨v, H, I, r, h⟩ hn hd

/-! ### arithmetic -/
/-- two ints -/
def t2I (ta tb : TE) (k : Int → Int → Hp → Prop) : St → Hp → Prop := fun σ H => ta σ H fun x H1 => tb σ H1 fun y H2 => ∃ i j, x = .int i ∧ y = .int j ∧ k i j H2
def tAdd (ta tb : TE) : TE := fun σ H Q => t2I ta tb (fun i j H2 => Q (.int (i + j)) H2) σ H
def tSub (ta tb : TE) : TE := fun σ H Q => t2I ta tb (fun i j H2 => Q (.int (i - j)) H2) σ H
/-- the left factor below 2^64 -/
def tMul (ta tb : TE) : TE := fun σ H Q => t2I ta tb (fun i j H2 => (-(2 ^ 64) < i ∧ i < 2 ^ 64) ∧ Q (.int (i * j)) H2) σ H
variable {a b : Expr} {ta tb : TE} {pos : Pos}
theorem pe_add (ha : PE X a ta) (hb : PE X b tb) : PE X (.BinOp a .Add b pos) (tAdd ta tb) := by
  intro pins s σ H Q I h
  refine wpAny_BinOp (bin ha hb I h fun v u s2 x y H2 I2 rx ry q => ?_)
  obtain ⟨i, j, rfl, rfl, q⟩ := q
  obtain ⟨t, rfl⟩ := rx
  obtain ⟨t', rfl⟩ := ry
  exact add_int ⟨.int _, H2, I2.tok _, ⟨_, rfl⟩, q⟩
theorem pe_sub (ha : PE X a ta) (hb : PE X b tb) : PE X (.BinOp a .Sub b pos) (tSub ta tb) := by
  intro pins s σ H Q I h
  refine wpAny_BinOp (bin ha hb I h fun v u s2 x y H2 I2 rx ry q => ?_)
  obtain ⟨i, j, rfl, rfl, q⟩ := q
  obtain ⟨t, rfl⟩ := rx
  obtain ⟨t', rfl⟩ := ry
  exact sub_int ⟨.int _, H2, I2.tok _, ⟨_, rfl⟩, q⟩
theorem pe_mul (ha : PE X a ta) (hb : PE X b tb) : PE X (.BinOp a .Mult b pos) (tMul ta tb) := by
  intro pins s σ H Q I h
  refine wpAny_BinOp (bin ha hb I h fun v u s2 x y H2 I2 rx ry q => ?_)
  obtain ⟨i, j, rfl, rfl, ⟨q1, q2⟩, q⟩ := q
  obtain ⟨t, rfl⟩ := rx
  obtain ⟨t', rfl⟩ := ry
  exact mul_int ⟨.int _, H2, I2.tok _, ⟨_, rfl⟩, q⟩ (.of_left (intBits_le_64 q1 q2))

/-! ### comparisons -/
def PC (X : Cx) (op : CmpOp) (a b : Expr) (t : TE) : Prop :=
  ∀ (pins : List (Addr × Obj)) (s : Shared) (σ : St) (H : Hp) (Q : VK), Inv X pins σ H s → t σ H Q →
    wpAny (model X.prog X.w) X.A (eval a X.env) (fun v s₁ => wpAny (model X.prog X.w) X.A (eval b X.env) (fun u s₂ => wpAny (model X.prog X.w) X.A (compareOp op v u) (EP X pins σ Q) X.xe s₂) X.xe s₁) X.xe s
theorem nobehind (b : Expr) {op : CmpOp} (h : op ≠ .In) (h2 : op ≠ .NotIn) : behindInMarks op b = false := by
  have e1 : (op == CmpOp.In) = false := by cases op <;> first | rfl | exact absurd rfl h
  have e2 : (op == CmpOp.NotIn) = false := by cases op <;> first | rfl | exact absurd rfl h2
  cases b <;> simp [behindInMarks, e1, e2]
def tCmp (p : Int → Int → Bool) (ta tb : TE) : TE := fun σ H Q => t2I ta tb (fun i j H2 => Q (.bl (p i j)) H2) σ H
abbrev tLt : TE → TE → TE := tCmp fun i j => decide (i < j)
abbrev tLe : TE → TE → TE := tCmp fun i j => decide (i ≤ j)
abbrev tGt : TE → TE → TE := tCmp fun i j => decide (j < i)
abbrev tGe : TE → TE → TE := tCmp fun i j => decide (j ≤ i)
abbrev tEqI : TE → TE → TE := tCmp fun i j => decide (i = j)
abbrev tNeI : TE → TE → TE := tCmp fun i j => !decide (i = j)
/-- a comparison of two ints, by its rule -/
theorem pc_int {op : CmpOp} {p : Int → Int → Bool} (ha : PE X a ta) (hb : PE X b tb)
    (rule : ∀ (i j : Int) (t u : Tok) (Q : Value → Shared → Prop) (s : Shared), Q (.bool (p i j)) s → wpAny (model X.prog X.w) X.A (compareOp op (.int i t) (.int j u)) Q X.xe s) : PC X op a b (tCmp p ta tb) := by
  intro pins s σ H Q I h
  refine bin ha hb I h fun v u s2 x y H2 I2 rx ry q => ?_
  obtain ⟨i, j, rfl, rfl, q⟩ := q
  obtain ⟨t, rfl⟩ := rx
  obtain ⟨t', rfl⟩ := ry
  exact rule i j t t' _ s2 ⟨.bl _, H2, I2, rfl, q⟩
theorem pc_lt (ha : PE X a ta) (hb : PE X b tb) : PC X .Lt a b (tLt ta tb) := pc_int ha hb fun _ _ _ _ _ _ h => lt_int h
theorem pc_le (ha : PE X a ta) (hb : PE X b tb) : PC X .LtE a b (tLe ta tb) := pc_int ha hb fun _ _ _ _ _ _ h => le_int h
theorem pc_gt (ha : PE X a ta) (hb : PE X b tb) : PC X .Gt a b (tGt ta tb) := pc_int ha hb fun _ _ _ _ _ _ h => gt_int h
theorem pc_ge (ha : PE X a ta) (hb : PE X b tb) : PC X .GtE a b (tGe ta tb) := pc_int ha hb fun _ _ _ _ _ _ h => ge_int h
theorem pc_eqI (ha : PE X a ta) (hb : PE X b tb) : PC X .Eq a b (tEqI ta tb) := pc_int ha hb fun _ _ _ _ _ _ h => eq_int (by rw [Bool.beq_eq_decide_eq]; exact h)
theorem pc_neI (ha : PE X a ta) (hb : PE X b tb) : PC X .NotEq a b (tNeI ta tb) := pc_int ha hb fun _ _ _ _ _ _ h => ne_int (by rw [bne, Bool.beq_eq_decide_eq]; exact h)
/-- is None -/
def tIsN (ta : TE) : TE := fun σ H Q => ta σ H fun x H1 => Q (.bl (decide (x = .non))) H1
def tNotN (ta : TE) : TE := fun σ H Q => ta σ H fun x H1 => Q (.bl (!decide (x = .non))) H1
theorem RelV.none_iff {x : V} {v : Value} (r : RelV x v) : (v == Value.none) = decide (x = .non) := by
  cases x with
  | non => cases r; rfl
  | bl _ => cases r; rfl
  | int _ => obtain ⟨t, rfl⟩ := r; rfl
  | str _ => obtain ⟨t, rfl⟩ := r; rfl
  | byt _ => obtain ⟨t, rfl⟩ := r; rfl
  | flt _ => obtain ⟨t, rfl⟩ := r; rfl
  | ref _ => cases r; rfl
  | ty _ => cases r; rfl
theorem pc_isN {j pos'} (ha : PE X a ta) : PC X .Is a (.Constant .none j pos') (tIsN ta) := by
  intro pins s σ H Q I h
  refine thn (ha pins s σ H _ I h) fun v s1 ⟨x, H1, I1, r1, q1⟩ => ?_
  exact Constant_none (is_none_gen ⟨.bl _, H1, I1, by rw [r1.none_iff]; rfl, q1⟩)
theorem pc_notN {j pos'} (ha : PE X a ta) : PC X .IsNot a (.Constant .none j pos') (tNotN ta) := by
  intro pins s σ H Q I h
  refine thn (ha pins s σ H _ I h) fun v s1 ⟨x, H1, I1, r1, q1⟩ => ?_
  exact Constant_none (isnot_none_gen ⟨.bl _, H1, I1, by rw [r1.none_iff]; rfl, q1⟩)
/-- a comparison as a value, as a test -/
def tB (t : TE) : TT := fun σ H Q => t σ H fun x H1 => ∃ c, x = .bl c ∧ Q c H1
theorem pe_cmp {op : CmpOp} {t : TE} (h : PC X op a b t) (h1 : behindInMarks op b = false := by first | exact nobehind _ (by decide) (by decide) | rfl) : PE X (.Compare a [op] [b] pos) t := fun pins s σ H Q I hw => wpAny_Compare1 (h pins s σ H Q I hw) h1
theorem pt_cmp {op : CmpOp} {t : TE} (h : PC X op a b t) (h1 : behindInMarks op b = false := by first | exact nobehind _ (by decide) (by decide) | rfl) : PT X (.Compare a [op] [b] pos) (tB t) := by
  intro pins s σ H Q I hw
  refine wpAny_isTrue_Compare1 (thn (h pins s σ H _ I hw) fun v s1 h1 => thn h1 fun u s2 h2 => thn h2 fun c s3 ⟨x, H1, I1, r1, q1⟩ => ?_) h1
  obtain ⟨d, rfl, q⟩ := q1
  cases r1
  exact wpAny_truthy_bool ⟨H1, I1, q⟩
/-- an expression whose value is a bool, as a test -/
theorem pt_val {e : Expr} {t : TE} (h : PE X e t) (he : ∀ whole, isTrue e X.env whole = (do let v ← whole; standAt e.pos; holding [v] (truthy v)) := by intro _; rfl) : PT X e (tB t) := by
  intro pins s σ H Q I hw
  refine isTrue_plain (thn (h pins s σ H _ I hw) fun v s1 ⟨x, H1, I1, r1, q1⟩ => ?_) (he _)
  obtain ⟨d, rfl, q⟩ := q1
  cases r1
  exact wpAny_truthy_bool ⟨H1, I1, q⟩

/-! ### and, or, not -/
variable {tA tB' : TT} {rest : List Expr}
def tAnd (t u : TT) : TT := fun σ H Q => t σ H fun c H1 => if c = true then u σ H1 Q else Q false H1
def tOr (t u : TT) : TT := fun σ H Q => t σ H fun c H1 => if c = true then Q true H1 else u σ H1 Q
def tNot (t : TT) : TT := fun σ H Q => t σ H fun c H1 => Q (!c) H1
theorem pw_and1 (ha : PT X a tA) : PW X (.BoolOp .And [a] pos) tA := by
  intro wh pins s σ H Q I h
  refine isTrue_and (thn (ha pins s σ H Q I h) fun c s1 e => ?_)
  cases c with
  | true => exact isTrue_and_nil e
  | false => exact e
theorem pw_or1 (ha : PT X a tA) : PW X (.BoolOp .Or [a] pos) tA := by
  intro wh pins s σ H Q I h
  refine isTrue_or (thn (ha pins s σ H Q I h) fun c s1 e => ?_)
  cases c with
  | false => exact isTrue_or_nil e
  | true => exact e
theorem pw_and (ha : PT X a tA) (hb : PW X (.BoolOp .And (b :: rest) pos) tB') : PW X (.BoolOp .And (a :: b :: rest) pos) (tAnd tA tB') := by
  intro wh pins s σ H Q I h
  refine isTrue_and (thn (ha pins s σ H _ I h) fun c s1 ⟨H1, I1, q1⟩ => ?_)
  cases c with
  | true => exact hb wh pins s1 σ H1 Q I1 q1
  | false => exact ⟨H1, I1, q1⟩
theorem pw_or (ha : PT X a tA) (hb : PW X (.BoolOp .Or (b :: rest) pos) tB') : PW X (.BoolOp .Or (a :: b :: rest) pos) (tOr tA tB') := by
  intro wh pins s σ H Q I h
  refine isTrue_or (thn (ha pins s σ H _ I h) fun c s1 ⟨H1, I1, q1⟩ => ?_)
  cases c with
  | true => exact ⟨H1, I1, q1⟩
  | false => exact hb wh pins s1 σ H1 Q I1 q1
theorem pt_not (ha : PT X a tA) : PT X (.UnaryOp .Not a pos) (tNot tA) := by
  intro pins s σ H Q I h
  exact isTrue_not (ha pins s σ H (fun c H1 => Q (!c) H1) I h)
/-- .. as values (bools) -/
def tAndV (ta tb : TE) : TE := fun σ H Q => ta σ H fun x H1 => ∃ c, x = .bl c ∧ if c = true then tb σ H1 Q else Q (.bl false) H1
def tOrV (ta tb : TE) : TE := fun σ H Q => ta σ H fun x H1 => ∃ c, x = .bl c ∧ if c = true then Q (.bl true) H1 else tb σ H1 Q
def tNotV (ta : TE) : TE := fun σ H Q => ta σ H fun x H1 => ∃ c, x = .bl c ∧ Q (.bl (!c)) H1
theorem pe_one {op} {t : TE} (h : PE X a t) : PE X (.BoolOp op [a] pos) t := fun pins s σ H Q I hw => BoolOp_one (h pins s σ H Q I hw)
theorem pe_and (ha : PE X a ta) (hb : PE X (.BoolOp .And (b :: rest) pos) tb) : PE X (.BoolOp .And (a :: b :: rest) pos) (tAndV ta tb) := by
  intro pins s σ H Q I h
  refine BoolOp_and (thn (ha pins s σ H _ I h) fun v s1 ⟨x, H1, I1, r1, q1⟩ => ?_)
  obtain ⟨c, rfl, q1⟩ := q1
  cases r1
  refine wpAny_truthy_bool ?_
  cases c with
  | true => exact hb pins s1 σ H1 Q I1 q1
  | false => exact ⟨.bl false, H1, I1, rfl, q1⟩
theorem pe_or (ha : PE X a ta) (hb : PE X (.BoolOp .Or (b :: rest) pos) tb) : PE X (.BoolOp .Or (a :: b :: rest) pos) (tOrV ta tb) := by
  intro pins s σ H Q I h
  refine BoolOp_or (thn (ha pins s σ H _ I h) fun v s1 ⟨x, H1, I1, r1, q1⟩ => ?_)
  obtain ⟨c, rfl, q1⟩ := q1
  cases r1
  refine wpAny_truthy_bool ?_
  cases c with
  | false => exact hb pins s1 σ H1 Q I1 q1
  | true => exact ⟨.bl true, H1, I1, rfl, q1⟩
theorem pe_not (ha : PE X a ta) : PE X (.UnaryOp .Not a pos) (tNotV ta) := by
  intro pins s σ H Q I h
  refine UnaryOp_ (thn (ha pins s σ H _ I h) fun v s1 ⟨x, H1, I1, r1, q1⟩ => ?_)
  obtain ⟨c, rfl, q1⟩ := q1
  cases r1
  exact not_of (wpAny_truthy_bool ⟨.bl (!c), H1, I1, rfl, q1⟩)
/-- a if t else b -/
def tIf (t : TT) (ta tb : TE) : TE := fun σ H Q => t σ H fun c H1 => if c = true then ta σ H1 Q else tb σ H1 Q
theorem pe_ifExp {c : Expr} (hc : PT X c tA) (ha : PE X a ta) (hb : PE X b tb) : PE X (.IfExp c a b pos) (tIf tA ta tb) := by
  intro pins s σ H Q I h
  refine wpAny_IfExp (thn (hc pins s σ H _ I h) fun d s1 ⟨H1, I1, q1⟩ => ?_)
  cases d with
  | true => exact ha pins s1 σ H1 Q I1 q1
  | false => exact hb pins s1 σ H1 Q I1 q1
end
end L2

namespace L2
open PySem PySem.Spec PyProof.Rows

/-! ### a list, a tuple that is read: tracked, frozen, or an object of the module -/
def SqL (K : PySem.W.Frag) (H : Hp) (a : Addr) (xs : List V) : Prop :=
  Rd H a (.lst xs) ∨
    ∃ (o : Obj) (its : Array Value) (n : Nat), K.lookup a = some o ∧ o.cls = .type "list" ∧ o.dict = none ∧ o.data = .seq its n ∧ its.size ≤ sizeLine ∧ Vals xs its.toList
def SqT (K : PySem.W.Frag) (H : Hp) (a : Addr) (xs : List V) : Prop :=
  Rd H a (.tup xs) ∨
    ∃ (o : Obj) (its : Array Value) (n : Nat), K.lookup a = some o ∧ o.cls = .type "tuple" ∧ o.data = .seq its n ∧ its.size ≤ sizeLine ∧ Vals xs its.toList
def absV : Value → Option V
  | .none => some .non
  | .bool b => some (.bl b)
  | .int i _ => some (.int i)
  | .str x _ => some (.str x)
  | .bytes b _ => some (.byt b)
  | .float b _ => some (.flt b)
  | .ref a => some (.ref a)
  | .type n => some (.ty n)
  | _ => none
theorem RelV.abs {x : V} {u : Value} (r : RelV x u) : absV u = some x := by
  cases x with
  | non => cases r; rfl
  | bl _ => cases r; rfl
  | int _ => obtain ⟨t, rfl⟩ := r; rfl
  | str _ => obtain ⟨t, rfl⟩ := r; rfl
  | byt _ => obtain ⟨t, rfl⟩ := r; rfl
  | flt _ => obtain ⟨t, rfl⟩ := r; rfl
  | ref _ => cases r; rfl
  | ty _ => cases r; rfl
theorem RelV.inj {x y : V} {u : Value} (r : RelV x u) (q : RelV y u) : x = y := Option.some.inj (r.abs.symm.trans q.abs)
theorem Vals.inj : ∀ {xs ys : List V} {us : List Value}, Vals xs us → Vals ys us → xs = ys
  | _, _, _, .nil, .nil => rfl
  | _, _, _, .cons r t, .cons r' t' => by rw [r.inj r', Vals.inj t t']
section
variable {X : Cx} {pins : List (Addr × Obj)} {σ : St} {H : Hp} {s : Shared} {a : Addr} {xs ys : List V}
theorem SqL.of {K : PySem.W.Frag} (h : H a = some (.lst xs)) : SqL K H a xs := .inl (.inl h)
theorem SqT.of {K : PySem.W.Frag} (h : H a = some (.tup xs)) : SqT K H a xs := .inl (.inl h)
theorem Inv.list (I : Inv X pins σ H s) (h : SqL X.K H a xs) : ∃ its : List Value, Vals xs its ∧ PlainL s.heap a its.toArray ∧ xs.length ≤ sizeLine := by
  rcases h with h | ⟨o, its, n, hk, hc, hd, hs, hz, r⟩
  · obtain ⟨z, its, n, r, e⟩ := h.ok I.hok
    exact ⟨its, r, ⟨_, n, e, rfl, rfl, rfl⟩, z⟩
  · refine ⟨its.toList, r, ⟨o, n, I.kIn a o hk, hc, hd, by simpa using hs⟩, ?_⟩
    have e := r.length
    simp only [Array.length_toList] at e
    omega
theorem Inv.tuple (I : Inv X pins σ H s) (h : SqT X.K H a xs) : ∃ its : List Value, Vals xs its ∧ IsTup s.heap a its.toArray ∧ xs.length ≤ sizeLine := by
  rcases h with h | ⟨o, its, n, hk, hc, hs, hz, r⟩
  · obtain ⟨z, its, r, p⟩ := h.ok I.hok
    exact ⟨its, r, p, z⟩
  · refine ⟨its.toList, r, ⟨o, I.kIn a o hk, hc, n, by simpa using hs⟩, ?_⟩
    have e := r.length
    simp only [Array.length_toList] at e
    omega
theorem Inv.list_inj (I : Inv X pins σ H s) (h : SqL X.K H a xs) (h' : SqL X.K H a ys) : xs = ys := by
  obtain ⟨its, r, ⟨o, n, e, _, _, d⟩, _⟩ := I.list h
  obtain ⟨its', r', ⟨o', n', e', _, _, d'⟩, _⟩ := I.list h'
  rw [e] at e'; cases e'
  rw [d] at d'
  injection d' with d1 _
  have : its = its' := by simpa using congrArg Array.toList d1
  subst this
  exact r.inj r'
theorem Inv.tuple_inj (I : Inv X pins σ H s) (h : SqT X.K H a xs) (h' : SqT X.K H a ys) : xs = ys := by
  obtain ⟨its, r, ⟨o, e, _, n, d⟩, _⟩ := I.tuple h
  obtain ⟨its', r', ⟨o', e', _, n', d'⟩, _⟩ := I.tuple h'
  rw [e] at e'; cases e'
  rw [d] at d'
  injection d' with d1 _
  have : its = its' := by simpa using congrArg Array.toList d1
  subst this
  exact r.inj r'
end

/-! ### another wish about exceptions -/
abbrev Cx.wish (X : Cx) (E : Value → Shared → Prop) : Cx := { X with xe := E }
/-- no exception leaves -/
abbrev Cx.nox (X : Cx) : Cx := X.wish fun _ _ => False
theorem Cx.Ok.wish {X : Cx} (ok : X.Ok) (E : Value → Shared → Prop) : (X.wish E).Ok :=
  ⟨ok.mod, ok.kind, ok.glob, ok.blt, ok.above, ok.inj, ok.has, ok.cab, ok.hd, ok.frames, ok.stk, ok.exf, ok.bs, ok.bsz, ok.noex, ok.exfs, ok.funs, ok.frf⟩
theorem Cx.Ok.unwish {X : Cx} {E : Value → Shared → Prop} (ok : (X.wish E).Ok) : X.Ok :=
  ⟨ok.mod, ok.kind, ok.glob, ok.blt, ok.above, ok.inj, ok.has, ok.cab, ok.hd, ok.frames, ok.stk, ok.exf, ok.bs, ok.bsz, ok.noex, ok.exfs, ok.funs, ok.frf⟩
section
variable {X : Cx} {pins : List (Addr × Obj)} {σ : St} {H : Hp} {s : Shared} {E : Value → Shared → Prop}
theorem Inv.wish (I : Inv X pins σ H s) (E : Value → Shared → Prop) : Inv (X.wish E) pins σ H s := ⟨I.ok.wish E, I.os, I.bare, I.base, I.loc, I.cell, I.free, I.freeC, I.pin, I.hok, I.len⟩
theorem Inv.unwish (I : Inv (X.wish E) pins σ H s) : Inv X pins σ H s := ⟨I.ok.unwish, I.os, I.bare, I.base, I.loc, I.cell, I.free, I.freeC, I.pin, I.hok, I.len⟩
theorem SP.unwish {D : Ends} {f : Flow} {s' : Shared} (h : SP (X.wish E) pins D f s') : SP X pins D f s' := by
  cases f with
  | next => obtain ⟨σ', H', I, q⟩ := h; exact ⟨σ', H', I.unwish, q⟩
  | brk => obtain ⟨σ', H', I, q⟩ := h; exact ⟨σ', H', I.unwish, q⟩
  | cont => obtain ⟨σ', H', I, q⟩ := h; exact ⟨σ', H', I.unwish, q⟩
  | ret u => obtain ⟨v, σ', H', I, r, q⟩ := h; exact ⟨v, σ', H', I.unwish, r, q⟩
theorem PE.nox {e : Expr} {t : TE} (h : PE X.nox e t) : PE X e t := fun pins s σ H Q I hw =>
  wpAny_mono (h pins s σ H Q (I.wish _) hw) (fun _ _ ⟨v, H', I', r, q⟩ => ⟨v, H', I'.unwish, r, q⟩) fun _ _ z => False.elim z
theorem PT.nox {e : Expr} {t : TT} (h : PT X.nox e t) : PT X e t := fun pins s σ H Q I hw =>
  wpAny_mono (h pins s σ H Q (I.wish _) hw) (fun _ _ ⟨H', I', q⟩ => ⟨H', I'.unwish, q⟩) fun _ _ z => False.elim z
theorem PSs.nox {st : List Stmt} {t : TS} (h : PSs X.nox st t) : PSs X st t := fun pins s σ H D I hw =>
  wpAny_mono (h pins s σ H D (I.wish _) hw) (fun _ _ q => q.unwish) fun _ _ z => False.elim z
end

/-! ### blocks and small statements -/
section
variable {X : Cx} {st : Stmt} {rest : List Stmt} {t u : TS} {e : Expr} {te : TE} {pos : Pos}
def tNext : TS := fun D σ H => D.nx σ H
def tSeq (t u : TS) : TS := fun D σ H => t { D with nx := u D } σ H
theorem pss_nil : PSs X [] tNext := fun _ _ σ H _ I h => wpAny_execs_nil ⟨σ, H, I, h⟩
theorem pss_cons (h1 : PS X st t) (h2 : PSs X rest u) : PSs X (st :: rest) (tSeq t u) := by
  intro pins s σ H D I h
  refine wpAny_execs_cons (thn (h1 pins s σ H { D with nx := u D } I h) fun f s1 q => ?_)
  cases f with
  | next =>
    obtain ⟨σ', H', I', q⟩ := q
    exact h2 pins s1 σ' H' D I' q
  | ret v => exact q
  | brk => exact q
  | cont => exact q
theorem pss_one (h1 : PS X st t) : PSs X [st] t := by
  intro pins s σ H D I h
  refine wpAny_execs_cons (thn (h1 pins s σ H D I h) fun f s1 q => ?_)
  cases f with
  | next => exact wpAny_execs_nil q
  | ret v => exact q
  | brk => exact q
  | cont => exact q
def tBreak : TS := fun D σ H => D.bk σ H
def tCont : TS := fun D σ H => D.ct σ H
theorem ps_pass : PS X (.Pass pos) tNext := fun _ _ σ H _ I h => wpAny_Pass ⟨σ, H, I, h⟩
theorem ps_break : PS X (.Break pos) tBreak := fun _ _ σ H _ I h => wpAny_Break ⟨σ, H, I, h⟩
theorem ps_continue : PS X (.Continue pos) tCont := fun _ _ σ H _ I h => wpAny_Continue ⟨σ, H, I, h⟩
/-- in a def's body nothing is shown -/
theorem Inv.quiet {pins : List (Addr × Obj)} {σ : St} {H : Hp} {s : Shared} (I : Inv X pins σ H s) : interactive X.env = false := by simp [interactive, I.ok.kind]
/-- a docstring -/
theorem ps_doc {x j pos pos'} : PS X (.Expr (.Constant (.str x) j pos) pos') tNext := fun _ s σ H _ I h => wpAny_Expr (Calls.Constant_str (show SP X _ _ .next { s with toks := s.toks + 1 } from ⟨σ, H, I.tok _, h⟩)) I.quiet
/-- an expression whose value is dropped -/
def tDrop (te : TE) : TS := fun D σ H => te σ H fun _ H1 => D.nx σ H1
theorem ps_expr (he : PE X e te) (hs : swapsWith e none pos.line X.env = pure false := by rfl) : PS X (.Expr e pos) (tDrop te) := by
  intro pins s σ H D I h
  exact wpAny_Expr_any (thn (he pins s σ H _ I h) fun v s1 ⟨x, H1, I1, r1, q1⟩ => ⟨σ, H1, I1, q1⟩) I.quiet hs
def tRet (te : TE) : TS := fun D σ H => te σ H D.rt
theorem ps_ret (he : PE X e te) : PS X (.Return (some e) pos) (tRet te) := by
  intro pins s σ H D I h
  exact wpAny_Return_some (thn (he pins s σ H _ I h) fun v s1 ⟨x, H1, I1, r1, q1⟩ => ⟨x, σ, H1, I1, r1, q1⟩)
def tRetN : TS := fun D _ H => D.rt .non H
theorem ps_retN : PS X (.Return none pos) tRetN := fun _ _ σ H _ I h => wpAny_Return_none ⟨.non, σ, H, I, rfl, h⟩
def tIfS (c : TT) (t u : TS) : TS := fun D σ H => c σ H fun b H1 => if b = true then t D σ H1 else u D σ H1
theorem ps_if {c : Expr} {a b : List Stmt} {tc : TT} (hc : PT X c tc) (ha : PSs X a t) (hb : PSs X b u) : PS X (.If c a b pos) (tIfS tc t u) := by
  intro pins s σ H D I h
  refine wpAny_If (thn (hc pins s σ H _ I h) fun d s1 ⟨H1, I1, q1⟩ => ?_)
  cases d with
  | true => exact ha pins s1 σ H1 D I1 q1
  | false => exact hb pins s1 σ H1 D I1 q1
/-- code that the proof never comes to -/
def tNever : TS := fun _ _ _ => False
theorem ps_never : PS X st tNever := fun _ _ _ _ _ _ h => h.elim
theorem pss_never {sts : List Stmt} : PSs X sts tNever := fun _ _ _ _ _ _ h => h.elim
end

/-! ### targets -/
abbrev TG := V → St → Hp → (St → Hp → Prop) → Prop
abbrev TGs := List V → St → Hp → (St → Hp → Prop) → Prop
def PG (X : Cx) (target : Expr) (t : TG) : Prop :=
  ∀ (pins : List (Addr × Obj)) (s : Shared) (σ : St) (H : Hp) (v : V) (u : Value) (Q : St → Hp → Prop), Inv X pins σ H s → RelV v u → t v σ H Q →
    wpAny (model X.prog X.w) X.A (assign target X.env u) (fun _ s' => ∃ σ' H', Inv X pins σ' H' s' ∧ Q σ' H') X.xe s
/-- several targets, one after another -/
def PGs (X : Cx) (ts : List Expr) (t : TGs) : Prop :=
  ∀ (pins : List (Addr × Obj)) (s : Shared) (σ : St) (H : Hp) (vs : List V) (us : List Value) (Q : St → Hp → Prop), Inv X pins σ H s → Vals vs us → t vs σ H Q →
    wpAny (model X.prog X.w) X.A (assignInOrder ((assignEach ts X.env).map (·.2)) us) (fun _ s' => ∃ σ' H', Inv X pins σ' H' s' ∧ Q σ' H') X.xe s
/-- o[i] = v, by values -/
abbrev TSet := V → V → V → Hp → (Hp → Prop) → Prop
def PSet (X : Cx) (t : TSet) : Prop :=
  ∀ (pins : List (Addr × Obj)) (s : Shared) (σ : St) (H : Hp) (o i v : V) (ov iv u : Value) (Q : Hp → Prop), Inv X pins σ H s → RelV o ov → RelV i iv → RelV v u → t o i v H Q →
    wpAny (model X.prog X.w) X.A (setItem ov iv u) (fun _ s' => ∃ H', Inv X pins σ H' s' ∧ Q H') X.xe s
/-- a op= b, by values -/
abbrev TIp := V → V → Hp → VK → Prop
def PIp (X : Cx) (op : Operator) (t : TIp) : Prop :=
  ∀ (pins : List (Addr × Obj)) (s : Shared) (σ : St) (H : Hp) (x y : V) (v u : Value) (Q : VK), Inv X pins σ H s → RelV x v → RelV y u → t x y H Q →
    wpAny (model X.prog X.w) X.A (inplaceOp op v u) (EP X pins σ Q) X.xe s
section
variable {X : Cx} {pos : Pos}
def gName (i : Nat) : TG := fun v σ H Q => Q (σ.set i (some v)) H
theorem pg_name {i : Nat} {x : Str} (hN : X.N.Nodup) (hi : X.N[i]? = some x) (hx : Loc X.env.scope x) (hf : X.fn x = true ∨ X.env.scope.names.lookup x = some .local := by first | exact .inl rfl | exact .inr rfl | assumption) : PG X (.Name x pos) (gName i) := by
  intro pins s σ H v u Q I r h
  exact wpAny_assign_Name (store_ok I hN hi hx r (fun s' I' => ⟨_, H, I', h⟩) hf)
def gNil : TGs := fun vs σ H Q => vs = [] ∧ Q σ H
def gCons (t : TG) (u : TGs) : TGs := fun vs σ H Q => ∃ v r, vs = v :: r ∧ t v σ H fun σ' H' => u r σ' H' Q
theorem pgs_nil : PGs X [] gNil := by
  intro pins s σ H vs us Q I r h
  obtain ⟨e, h⟩ := h
  subst e
  cases r
  exact assignInOrder_nil ⟨σ, H, I, h⟩
theorem pgs_cons {e : Expr} {es : List Expr} {t : TG} {u : TGs} (h1 : PG X e t) (h2 : PGs X es u)
    (hs : (assignEach (e :: es) X.env).map (·.2) = assign e X.env :: (assignEach es X.env).map (·.2) := by rfl) : PGs X (e :: es) (gCons t u) := by
  intro pins s σ H vs us Q I r h
  obtain ⟨v, vr, e1, h⟩ := h
  subst e1
  cases r with
  | cons r rr =>
    rw [hs]
    refine assignInOrder_cons (thn (h1 pins s σ H _ _ _ I r h) fun _ s1 ⟨σ1, H1, I1, q1⟩ => ?_)
    exact h2 pins s1 σ1 H1 _ _ Q I1 rr q1
/-- (a, b, ..) = a tuple of that length -/
def gTup (K : PySem.W.Frag) (n : Nat) (t : TGs) : TG := fun v σ H Q => ∃ a xs, v = .ref a ∧ SqT K H a xs ∧ xs.length = n ∧ t xs σ H Q
theorem pg_tup {es : List Expr} {k : Nat} {t : TGs} {n : Nat} (hc : X.calm = true) (h : PGs X es t)
    (hn : (assignEach es X.env).length = n := by rfl) (hst : (assignEach es X.env).findIdx? (·.1) = none := by rfl) : PG X (.Tuple es k pos) (gTup X.K n t) := by
  intro pins s σ H v u Q I r hw
  obtain ⟨a, xs, e1, hq, hl, hw⟩ := hw
  subst e1
  cases r
  obtain ⟨its, rv, ht, hz⟩ := I.tuple hq
  refine assign_Tuple_tuple (I.ok.hd hc) ht (by simp [hn, ← hl, rv.length]) hst fun h' hx => ?_
  have I1 : Inv X pins σ H { s with heap := h' } := I.kept (t' := s.toks) fun b o e => hx b o (Nat.ne_of_lt (Heap.lt_size e)) e
  exact h pins _ σ H xs _ Q I1 (by simpa using rv) hw
/-- o[i] = .. -/
def gSub (to ti : TE) (t : TSet) : TG := fun v σ H Q => to σ H fun o H1 => ti σ H1 fun i H2 => t o i v H2 fun H3 => Q σ H3
theorem pg_sub {o i : Expr} {to ti : TE} {t : TSet} (ho : PE X o to) (hi : PE X i ti) (hs : PSet X t)
    (ha : ∀ v, assign (.Subscript o i pos) X.env v = (do
      let ov ← holding [v] (eval o X.env)
      let iv ← holding [v, ov] (eval i X.env)
      standAt pos
      holding [v, ov, iv] (setItem ov iv v)
      release [v, ov, iv] []) := by intro _; rfl) : PG X (.Subscript o i pos) (gSub to ti t) := by
  intro pins s σ H v u Q I r h
  rw [ha]
  refine wpAny_bind (wpAny_holding (thn (ho pins s σ H _ I h) fun ov s1 ⟨x, H1, I1, r1, q1⟩ => ?_))
  refine wpAny_bind (wpAny_holding (thn (hi pins s1 σ H1 _ I1 q1) fun iv s2 ⟨y, H2, I2, r2, q2⟩ => ?_))
  refine wpAny_bind (wpAny_standAt (wpAny_bind (wpAny_holding (thn (hs pins s2 σ H2 x y v ov iv u _ I2 r1 r2 r q2) fun _ s3 ⟨H3, I3, q3⟩ => ?_))))
  exact wpAny_release ⟨σ, H3, I3, q3⟩
/-- target = value -/
def tAsg (te : TE) (g : TG) : TS := fun D σ H => te σ H fun x H1 => g x σ H1 D.nx
theorem ps_asg {tg e : Expr} {te : TE} {g : TG} (he : PE X e te) (hg : PG X tg g) (hs : swapsWithSole [tg] e pos.line X.env = pure false := by rfl) (hw : swappedStores [tg] e X.env = pure none := by rfl)
    (h1 : (assignEach [tg] X.env).map (·.2) = [assign tg X.env] := by rfl) : PS X (.Assign [tg] e pos) (tAsg te g) := by
  intro pins s σ H D I h
  refine wpAny_Assign_stores (thn (he pins s σ H _ I h) fun v s1 ⟨x, H1, I1, r1, q1⟩ => ?_) hs hw
  rw [h1]
  exact thn (hg pins s1 σ H1 x v _ I1 r1 q1) fun _ s2 q => q
/-- name = value -/
theorem ps_set {i : Nat} {x : Str} {e : Expr} {te : TE} {pos' : Pos} (hN : X.N.Nodup) (hi : X.N[i]? = some x) (hx : Loc X.env.scope x) (he : PE X e te) (hs : swapsWith e (some (.Name x pos')) pos.line X.env = pure false := by rfl) (hf : X.fn x = true ∨ X.env.scope.names.lookup x = some .local := by first | exact .inl rfl | exact .inr rfl | assumption) :
    PS X (.Assign [.Name x pos'] e pos) (tAsg te (gName i)) := by
  intro pins s σ H D I h
  refine wpAny_Assign_Name (thn (he pins s σ H _ I h) fun v s1 ⟨y, H1, I1, r1, q1⟩ => ?_) hs
  exact store_ok I1 hN hi hx r1 (fun s2 I2 => ⟨_, H1, I2, q1⟩) hf
/-- a, b = x, y with plain local names: stored from the right; the pair itself is not tracked (the opening rows as in PyProof/Rows/TupAssign.lean:23) -/
def tPar (i j : Nat) (ta : TA) : TS := fun D σ H => ta σ H fun vs H1 => ∃ v w, vs = [v, w] ∧ D.nx ((σ.set i (some v)).set j (some w)) H1
theorem ps_par {i j : Nat} {x y : Str} {a b : Expr} {ta : TA} {px py pt : Pos} {kt k2 pt2} (hc : X.calm = true) (hN : X.N.Nodup) (hi : X.N[i]? = some x) (hj : X.N[j]? = some y) (hij : i ≠ j)
    (hx : X.env.scope.names.lookup x = some .local) (hy : X.env.scope.names.lookup y = some .local) (ha : PA X [a, b] ta)
    (hw : swappedStores [.Tuple [.Name x px, .Name y py] kt pt] (.Tuple [a, b] k2 pt2) X.env = pure (some [x, y]))
    (hs : swapsWithSole [.Tuple [.Name x px, .Name y py] kt pt] (.Tuple [a, b] k2 pt2) pos.line X.env = pure false := by rfl) :
    PS X (.Assign [.Tuple [.Name x px, .Name y py] kt pt] (.Tuple [a, b] k2 pt2) pos) (tPar i j ta) := by
  intro pins s σ H D I h
  rw [exec_Assign_arm]
  refine wpAny_bind (wpAny_standAt ?_)
  rw [hs]
  refine wpAny_bind (wpAny_pure ?_)
  rw [if_neg (by decide)]
  refine wpAny_bind (Tuple_ (thn (ha _ pins s σ H _ I h) fun us s1 ⟨vs, H1, I1, r1, q1⟩ => ?_))
  obtain ⟨v, w, e1, q1⟩ := q1
  subst e1
  obtain ⟨u1, u2, rfl, rv, rw'⟩ : ∃ u1 u2, us = [u1, u2] ∧ RelV v u1 ∧ RelV w u2 := by
    cases r1 with
    | cons p q =>
      cases q with
      | cons p' q' =>
        cases q'
        exact ⟨_, _, rfl, p, p'⟩
  refine wpAny_newObj_type ?_ (by show 2 ≤ sizeLine; decide)
  have I2 : Inv X pins σ H1 { s1 with heap := s1.heap.push { cls := .type "tuple", data := .seq [u1, u2].toArray } } := I1.kept (t' := s1.toks) fun b o e => Heap.get?_push_of_some _ e
  rw [hw]
  refine wpAny_bind (wpAny_pure ?_)
  show wpAny (model X.prog X.w) X.A (do rule "assign.swapped-stores"; let items ← unpackItems (.ref s1.heap.objs.size) 2 none; assignInOrder [fun v => bindName X.env y v, fun v => bindName X.env x v] items.reverse; pure Flow.next) _ _ _
  refine wpAny_bind (wpAny_rule (wpAny_bind (unpackItems_tuple (items := #[u1, u2]) (I.ok.hd hc) (IsTup.new s1.heap _) fun h' hx' => ?_)))
  have I3 := I2.kept (h' := h') (t' := s1.toks) fun b o e => hx' b o (Nat.ne_of_lt (Heap.lt_size e)) e
  show wpAny _ _ (assignInOrder [fun v => bindName X.env y v, fun v => bindName X.env x v] [u2, u1] >>= fun _ => pure Flow.next) _ _ _
  refine wpAny_bind (assignInOrder_cons (wpAny_bindName (store_ok I3 hN hj (.inl hy) rw' (fun s2 I4 => ?_) (.inr hy))))
  refine assignInOrder_cons (wpAny_bindName (store_ok I4 hN hi (.inl hx) rv (fun s3 I5 => assignInOrder_nil (wpAny_pure ?_)) (.inr hx)))
  rw [List.set_comm _ _ (Ne.symm hij)] at I5
  exact ⟨_, H1, I5, q1⟩
/-- name op= e -/
def tAug (i : Nat) (te : TE) (ti : TIp) : TS := fun D σ H => ∃ x, σ[i]? = some (some x) ∧ te σ H fun y H1 => ti x y H1 fun z H2 => D.nx (σ.set i (some z)) H2
theorem ps_aug {i : Nat} {x : Str} {e : Expr} {te : TE} {op : Operator} {ti : TIp} {pos' : Pos} (hN : X.N.Nodup) (hi : X.N[i]? = some x) (hx : Loc X.env.scope x) (he : PE X e te) (ho : PIp X op ti) (hf : X.fn x = true ∨ X.env.scope.names.lookup x = some .local := by first | exact .inl rfl | exact .inr rfl | assumption) :
    PS X (.AugAssign (.Name x pos') op e pos) (tAug i te ti) := by
  intro pins s σ H D I h
  obtain ⟨v, e1, h⟩ := h
  obtain ⟨m, hn, hl⟩ := I.loc
  have vis : Vis X.env.scope x := by rcases hx with k | k; exact .inl k; exact .inr (.inl k)
  obtain ⟨u, r, l⟩ := hl i x v hi e1 vis
  refine wpAny_AugAssign_Name ?_
  have go : wpAny (model X.prog X.w) X.A (eval e X.env) (fun w s₂ => wpAny (model X.prog X.w) X.A (inplaceOp op u w) (fun r s₃ => wpAny (model X.prog X.w) X.A (storeName X.env x r) (fun _ => SP X pins D .next) X.xe s₃) X.xe s₂) X.xe s := by
    refine thn (he pins s σ H _ I h) fun w s1 ⟨y, H1, I1, r1, q1⟩ => ?_
    refine thn (ho pins s1 σ H1 v y u w _ I1 r r1 q1) fun z s2 ⟨zv, H2, I2, r2, q2⟩ => ?_
    exact store_ok I2 hN hi hx r2 (fun s3 I3 => ⟨_, H2, I3, q2⟩) hf
  rcases l with ⟨hk, hm⟩ | ⟨hk, c, hc, hcell⟩
  · exact wpAny_loadName_local I.ok.kind hk hn hm go
  · rcases hk with hk | hk
    · exact wpAny_loadName_cell I.ok.kind hk hc hcell go
    · rcases hx with k | k
      · have : X.env.scope.names.lookup x = some .free := hk
        rw [k] at this; cases this
      · have : X.env.scope.names.lookup x = some .free := hk
        rw [k] at this; cases this
/-- o[i] op= e -/
def tAugS (to ti te : TE) (tget : V → V → Hp → VK → Prop) (tip : TIp) (tset : TSet) : TS := fun D σ H => to σ H fun o H1 => ti σ H1 fun i H2 => tget o i H2 fun x H3 => te σ H3 fun y H4 => tip x y H4 fun z H5 => tset o i z H5 fun H6 => D.nx σ H6
/-- o[i], by values -/
def PGet (X : Cx) (t : V → V → Hp → VK → Prop) : Prop :=
  ∀ (pins : List (Addr × Obj)) (s : Shared) (σ : St) (H : Hp) (o i : V) (ov iv : Value) (Q : VK), Inv X pins σ H s → RelV o ov → RelV i iv → t o i H Q →
    wpAny (model X.prog X.w) X.A (getItem ov iv) (EP X pins σ Q) X.xe s
theorem ps_augS {o i e : Expr} {to ti te : TE} {tget : V → V → Hp → VK → Prop} {tip : TIp} {tset : TSet} {op : Operator} {tpos : Pos} (ho : PE X o to) (hi : PE X i ti) (hg : PGet X tget) (he : PE X e te) (hp : PIp X op tip) (hs : PSet X tset)
    (ha : ∀ ov iv new, augStore i ov iv new = (do holding [new, ov, iv] (setItem ov iv new); release [new, ov, iv] []; pure .next) := by intros; rfl) : PS X (.AugAssign (.Subscript o i tpos) op e pos) (tAugS to ti te tget tip tset) := by
  intro pins s σ H D I h
  refine wpAny_AugAssign_SubscriptAny (thn (ho pins s σ H _ I h) fun ov s1 ⟨x1, H1, I1, r1, q1⟩ => ?_) ha
  refine thn (hi pins s1 σ H1 _ I1 q1) fun iv s2 ⟨x2, H2, I2, r2, q2⟩ => ?_
  refine thn (hg pins s2 σ H2 x1 x2 ov iv _ I2 r1 r2 q2) fun old s3 ⟨x3, H3, I3, r3, q3⟩ => ?_
  refine thn (he pins s3 σ H3 _ I3 q3) fun v s4 ⟨x4, H4, I4, r4, q4⟩ => ?_
  refine thn (hp pins s4 σ H4 x3 x4 old v _ I4 r3 r4 q4) fun new s5 ⟨x5, H5, I5, r5, q5⟩ => ?_
  exact thn (hs pins s5 σ H5 x1 x2 x5 ov iv new _ I5 r1 r2 r5 q5) fun _ s6 ⟨H6, I6, q6⟩ => ⟨σ, H6, I6, q6⟩
/-- ints -/
def ipI (f : Int → Int → Int) : TIp := fun x y H Q => ∃ i j, x = .int i ∧ y = .int j ∧ Q (.int (f i j)) H
theorem ip_add : PIp X .Add (ipI fun i j => i + j) := by
  intro pins s σ H x y v u Q I r1 r2 h
  obtain ⟨i, j, e1, e2, q⟩ := h
  subst e1; subst e2
  obtain ⟨t, rfl⟩ := r1
  obtain ⟨t', rfl⟩ := r2
  exact iadd_int ⟨.int _, H, I.tok _, ⟨_, rfl⟩, q⟩
theorem ip_sub : PIp X .Sub (ipI fun i j => i - j) := by
  intro pins s σ H x y v u Q I r1 r2 h
  obtain ⟨i, j, e1, e2, q⟩ := h
  subst e1; subst e2
  obtain ⟨t, rfl⟩ := r1
  obtain ⟨t', rfl⟩ := r2
  exact isub_int ⟨.int _, H, I.tok _, ⟨_, rfl⟩, q⟩
end

/-! ### while -/
section
variable {X : Cx} {pos : Pos}
/-- the invariant W with its measure -/
def tWhile (c : TT) (tb : TS) : TS := fun D σ H => ∃ W : Nat → St → Hp → Prop, (∃ m, W m σ H) ∧ ∀ m σ H, W m σ H →
  c σ H fun b H1 => if b = true then ∃ N : St → Hp → Prop, (∀ σ' H', N σ' H' → ∃ m', m' < m ∧ W m' σ' H') ∧ tb { D with nx := N, ct := N, bk := D.nx } σ H1 else D.nx σ H1
theorem ps_while {c : Expr} {body : List Stmt} {tc : TT} {tb : TS} (hp : PassesOwn (model X.prog X.w) X.A X.env X.xe) (hc : PT X c tc) (hb : PSs X body tb) : PS X (.While c body [] pos) (tWhile tc tb) := by
  intro pins s σ H D I h
  obtain ⟨W, ⟨m0, w0⟩, turn⟩ := h
  refine wpAny_While (codeAny_whileLoop (fun n s' => ∃ σ' H', Inv X pins σ' H' s' ∧ W n σ' H') ?_ m0 ⟨σ, H, I, w0⟩)
  rintro n s1 ⟨σ1, H1, I1, w1⟩
  refine wpAny_passesOwn hp (thn (hc pins s1 σ1 H1 _ I1 (turn n σ1 H1 w1)) fun b s2 ⟨H2, I2, q2⟩ => ?_)
  cases b with
  | true =>
    obtain ⟨N, hN, q2⟩ := q2
    rw [if_pos rfl]
    refine wpAny_passesOwn hp (thn (hb pins s2 σ1 H2 _ I2 q2) fun f s3 q3 => ?_)
    cases f with
    | next =>
      obtain ⟨σ3, H3, I3, n3⟩ := q3
      obtain ⟨m', hm, w3⟩ := hN σ3 H3 n3
      exact ⟨m', hm, σ3, H3, I3, w3⟩
    | cont =>
      obtain ⟨σ3, H3, I3, n3⟩ := q3
      obtain ⟨m', hm, w3⟩ := hN σ3 H3 n3
      exact ⟨m', hm, σ3, H3, I3, w3⟩
    | brk => exact q3
    | ret v => exact q3
  | false =>
    rw [if_neg Bool.false_ne_true]
    exact wpAny_execs_nil ⟨σ1, H2, I2, q2⟩
end

/-! ### what a loop or a comprehension walks -/
/-- at turn i: it yields x (the heap may grow), or it stops -/
structure It where
  go : Nat → Hp → Prop
  yld : Nat → Hp → V → Hp → Prop
  stop : Nat → Hp → Prop
/-- the iterator's own objects may turn: they are not the frame's, not pinned, younger than the entry (or a comprehension's own) -/
def FpOk (X : Cx) (pins : List (Addr × Obj)) (H : Hp) (b : Addr) : Prop :=
  H b = none ∧ b ≠ X.env.locals ∧ b ∉ X.fs ∧ (b ∈ X.ex ∨ X.s₀.heap.objs.size ≤ b) ∧ (∀ x c, X.env.cells.lookup x = some c → c ≠ b) ∧ ∀ p ∈ X.pn ++ pins, p.1 ≠ b
theorem Inv.fpOk {X : Cx} {pins : List (Addr × Obj)} {σ : St} {H H' : Hp} {s : Shared} {b : Addr} (I : Inv X pins σ H s) (hb : s.heap.objs.size ≤ b) (hn : H' b = none) : FpOk X pins H' b := by
  refine ⟨hn, Nat.ne_of_gt (Nat.lt_of_lt_of_le I.lt hb), I.nofs hb, .inr (Nat.le_trans I.sz hb), fun x c e z => ?_, fun p hp z => ?_⟩
  · obtain ⟨v, q⟩ := I.cell x c e
    exact absurd (Nat.lt_of_lt_of_le q.lt (by rw [z]; exact hb)) (Nat.lt_irrefl _)
  · exact absurd (Nat.lt_of_lt_of_le (Heap.lt_size (I.pin p hp).1) (by rw [z]; exact hb)) (Nat.lt_irrefl _)
structure Turn (P : Program) (w : World) (K : PySem.W.Frag) (tg : Expr) (J : It) (fp : List Addr) (it : Addr) (tn : Nat → Heap → Prop) : Prop where
  mem : it ∈ fp
  obj : ∀ i h, tn i h → ∀ b ∈ fp, ∃ o, h.get? b = some o ∧ ∀ v, o.data ≠ .cell v
  keep : ∀ i h h', tn i h → (∀ b ∈ fp, ∀ o, h.get? b = some o → h'.get? b = some o) → tn i h'
  item : ∀ (X : Cx), X.prog = P → X.w = w → X.K = K → X.calm = true → ∀ (i : Nat) (pins : List (Addr × Obj)) (s : Shared) (σ : St) (H : Hp) (E : Value → Shared → Prop), Inv X pins σ H s → (∀ b ∈ fp, FpOk X pins H b) → tn i s.heap → J.go i H →
    wpAny (model P w) X.A (pyNext (.ref it)) (fun r s1 => ∃ u, r = some u ∧
      wpAny (model P w) X.A (letOwnedTupleGo tg (.ref it) u) (fun _ s2 => ∃ x H', Inv X pins σ H' s2 ∧ RelV x u ∧ J.yld i H x H' ∧ tn (i + 1) s2.heap ∧ ∀ b ∈ fp, H' b = none) E s1) E s
  done : ∀ (X : Cx), X.prog = P → X.w = w → X.K = K → X.calm = true → ∀ (i : Nat) (pins : List (Addr × Obj)) (s : Shared) (σ : St) (H : Hp) (E : Value → Shared → Prop), Inv X pins σ H s → (∀ b ∈ fp, FpOk X pins H b) → tn i s.heap → J.stop i H →
    wpAny (model P w) X.A (pyNext (.ref it)) (fun r s1 => r = none ∧ Inv X pins σ H s1) E s
  self : ∀ (A : Around) (i : Nat) (s : Shared) (Q : Value → Shared → Prop) (E : Value → Shared → Prop), tn i s.heap → Q (.ref it) s → wpAny (model P w) A (pyIter (.ref it)) Q E s
abbrev TI := St → Hp → (It → Hp → Prop) → Prop
/-- an iterator has come -/
def PIE (X : Cx) (pins : List (Addr × Obj)) (σ : St) (tg : Expr) (R : It → Hp → Prop) (itv : Value) (s2 : Shared) : Prop :=
  ∃ (it : Addr) (fp : List Addr) (tn : Nat → Heap → Prop) (J : It) (H' : Hp), itv = .ref it ∧ Inv X pins σ H' s2 ∧ Turn X.prog X.w X.K tg J fp it tn ∧ tn 0 s2.heap ∧ (∀ b ∈ fp, FpOk X pins H' b) ∧ R J H'
def PI (X : Cx) (tg iter : Expr) (wi : TI) : Prop :=
  ∀ (pins : List (Addr × Obj)) (s : Shared) (σ : St) (H : Hp) (R : It → Hp → Prop), Inv X pins σ H s → wi σ H R →
    wpAny (model X.prog X.w) X.A (eval iter X.env) (fun v s1 => wpAny (model X.prog X.w) X.A (pyIter v) (PIE X pins σ tg R) X.xe s1) X.xe s

/-- the step ahead of the store is nothing for an iterator that keeps no tuple -/
theorem go_of {M : Model} {A : Around} {E : Value → Shared → Prop} {s : Shared} {tg : Expr} {it : Addr} {u : Value} {o : Obj} {n : String} {vs : Array Value} {Q : Unit → Shared → Prop} (ho : s.heap.get? it = some o) (hc : o.cls = .type n) (hd : o.data = .fields vs)
    (hn : ["enumerate", "zip", "dict_itemiterator", "dict_reverseitemiterator", "odict_iterator", "itertools.zip_longest", "itertools.pairwise"].contains n = false) (hQ : Q () s) : wpAny M A (letOwnedTupleGo tg (.ref it) u) Q E s := by
  unfold letOwnedTupleGo
  cases tg <;> first
    | exact wpAny_pure hQ
    | (cases u <;> first
        | exact wpAny_pure hQ
        | (refine wpAny_bind (wpAny_load ho ?_)
           rw [hc, hd]
           show wpAny M A (if (["enumerate", "zip", "dict_itemiterator", "dict_reverseitemiterator", "odict_iterator", "itertools.zip_longest", "itertools.pairwise"].contains n && vs[0]? == some (rawInt _)) = true then _ else _) Q E s
           rw [if_neg (by intro h; rw [hn, Bool.false_and] at h; cases h)]
           exact wpAny_pure hQ))

/-- the list at a, as it stands at each turn (a loop may append to it) -/
def Itl (K : PySem.W.Frag) (a : Addr) : It :=
  ⟨fun i H => ∃ xs x, SqL K H a xs ∧ xs[i]? = some x, fun i H x H' => H' = H ∧ ∀ xs, SqL K H a xs → xs[i]? = some x, fun i H => ∃ xs, SqL K H a xs ∧ xs.length ≤ i⟩
def Itt (K : PySem.W.Frag) (a : Addr) : It :=
  ⟨fun i H => ∃ xs x, SqT K H a xs ∧ xs[i]? = some x, fun i H x H' => H' = H ∧ ∀ xs, SqT K H a xs → xs[i]? = some x, fun i H => ∃ xs, SqT K H a xs ∧ xs.length ≤ i⟩
/-- lo, lo + 1, .. (n of them) -/
def Itr (lo : Int) (n : Nat) : It := ⟨fun i _ => i < n, fun i H x H' => H' = H ∧ x = .int (lo + i), fun i _ => n ≤ i⟩
theorem turn_list {P : Program} {w : World} {K : PySem.W.Frag} {tg : Expr} (a it : Addr) : Turn P w K tg (Itl K a) [it] it (fun i h => h.IsListIter it a i) where
  mem := by simp
  obj := fun i h st b hb => by
    have e : b = it := by simpa using hb
    subst e
    obtain ⟨o, e, c, d⟩ := st
    exact ⟨o, e, fun v z => by rw [d] at z; cases z⟩
  keep := fun i h h' st k => st.at fun o e => k it (by simp) o e
  item := by
    intro X hP hw hK hc i pins s σ H E I hf st hg
    subst hP hw hK
    obtain ⟨xs, x, hq, hx⟩ := hg
    obtain ⟨its, rv, p, hz⟩ := I.list hq
    obtain ⟨u, hu, ru⟩ := rv.get hx
    obtain ⟨f0, f1, f2, f3, f4, f5⟩ := hf it (by simp)
    refine wpAny_pyNext_list_item st p.isList (x := u) (by simpa using hu) fun h' st' sb => ?_
    have I1 : Inv X pins σ H { s with heap := h' } := I.turned (t' := s.toks) (fun b o hb e => (sb.2 b hb).trans e) f0 f1 f3 f4 f5
    obtain ⟨o, e, c, d⟩ := id st'
    exact ⟨u, rfl, go_of (s := { s with heap := h' }) e c d (by decide) ⟨x, H, I1, ru, ⟨rfl, fun ys hy => by rw [I.list_inj hy hq]; exact hx⟩, st', fun b hb => (hf b hb).1⟩⟩
  done := by
    intro X hP hw hK hc i pins s σ H E I hf st hg
    subst hP hw hK
    obtain ⟨xs, hq, hx⟩ := hg
    obtain ⟨its, rv, p, hz⟩ := I.list hq
    obtain ⟨f0, f1, f2, f3, f4, f5⟩ := hf it (by simp)
    have hl := rv.length
    exact wpAny_pyNext_list_end (I.ok.hd hc) st p.isList (by simp; omega) fun h' eb => ⟨rfl, I.turned (t' := s.toks) (fun b o hb e => eb b o hb e) f0 f1 f3 f4 f5⟩
  self := fun _ _ _ _ _ st h => wpAny_pyIter_listiter st h
theorem turn_tuple {P : Program} {w : World} {K : PySem.W.Frag} {tg : Expr} (a it : Addr) : Turn P w K tg (Itt K a) [it] it (fun i h => h.IsTupleIter it a i) where
  mem := by simp
  obj := fun i h st b hb => by
    have e : b = it := by simpa using hb
    subst e
    obtain ⟨o, e, c, d⟩ := st
    exact ⟨o, e, fun v z => by rw [d] at z; cases z⟩
  keep := fun i h h' st k => st.at fun o e => k it (by simp) o e
  item := by
    intro X hP hw hK hc i pins s σ H E I hf st hg
    subst hP hw hK
    obtain ⟨xs, x, hq, hx⟩ := hg
    obtain ⟨its, rv, p, hz⟩ := I.tuple hq
    obtain ⟨u, hu, ru⟩ := rv.get hx
    obtain ⟨f0, f1, f2, f3, f4, f5⟩ := hf it (by simp)
    refine wpAny_pyNext_tuple_item st (show s.heap.IsTuple a its.toArray from p) (x := u) (by simpa using hu) fun h' st' sb => ?_
    have I1 : Inv X pins σ H { s with heap := h' } := I.turned (t' := s.toks) (fun b o hb e => (sb.2 b hb).trans e) f0 f1 f3 f4 f5
    obtain ⟨o, e, c, d⟩ := id st'
    exact ⟨u, rfl, go_of (s := { s with heap := h' }) e c d (by decide) ⟨x, H, I1, ru, ⟨rfl, fun ys hy => by rw [I.tuple_inj hy hq]; exact hx⟩, st', fun b hb => (hf b hb).1⟩⟩
  done := by
    intro X hP hw hK hc i pins s σ H E I hf st hg
    subst hP hw hK
    obtain ⟨xs, hq, hx⟩ := hg
    obtain ⟨its, rv, p, hz⟩ := I.tuple hq
    obtain ⟨f0, f1, f2, f3, f4, f5⟩ := hf it (by simp)
    have hl := rv.length
    exact wpAny_pyNext_tuple_end (I.ok.hd hc) st (show s.heap.IsTuple a its.toArray from p) (by simp; omega) fun h' eb => ⟨rfl, I.turned (t' := s.toks) (fun b o hb e => eb b o hb e) f0 f1 f3 f4 f5⟩
  self := fun _ _ _ _ _ st h => wpAny_pyIter_tupleiter st h
theorem turn_range {P : Program} {w : World} {K : PySem.W.Frag} {tg : Expr} (it : Addr) (lo : Int) (n : Nat) : Turn P w K tg (Itr lo n) [it] it (fun i h => IsRangeIter h it (lo + (i : Nat) * 1) ((n : Int) - (i : Nat)) 1) where
  mem := by simp
  obj := fun i h st b hb => by
    have e : b = it := by simpa using hb
    subst e
    exact ⟨_, st, fun v z => by
      have z' : Data.fields _ = Data.cell v := z
      cases z'⟩
  keep := fun i h h' st k => k it (by simp) _ st
  item := by
    intro X hP hw hK hc i pins s σ H E I hf st hg
    subst hP hw hK
    obtain ⟨f0, f1, f2, f3, f4, f5⟩ := hf it (by simp)
    have W := Walks.range (prog := X.prog) (w := X.w) (I.ok.hd hc) it lo 1 n
    refine W.item i s _ _ hg st fun v h' tk hv st' kk => ?_
    obtain ⟨t, rfl⟩ := hv
    have I1 : Inv X pins σ H { s with heap := h', toks := tk } := I.turned (fun b o hb e => kk b o (by simpa using hb) e) f0 f1 f3 f4 f5
    refine ⟨_, rfl, go_of (s := { s with heap := h', toks := tk }) (n := "range_iterator") st' rfl rfl (by decide) ⟨.int (lo + i), H, I1, ⟨t, ?_⟩, ⟨rfl, rfl⟩, st', fun b hb => (hf b hb).1⟩⟩
    rw [Int.mul_one]
  done := by
    intro X hP hw hK hc i pins s σ H E I hf st hg
    subst hP hw hK
    obtain ⟨f0, f1, f2, f3, f4, f5⟩ := hf it (by simp)
    exact wpAny_pyNext_range_end (I.ok.hd hc) st (by have : n ≤ i := hg; omega) fun h' eb => ⟨rfl, I.turned (t' := s.toks) (fun b o hb e => eb b o hb e) f0 f1 f3 f4 f5⟩
  self := fun _ _ _ _ _ st h => wpAny_pyIter_rangeiter st h
end L2

namespace L2
open PySem PySem.Spec PyProof.Rows
section
variable {X : Cx} {tg : Expr}
def iList (K : PySem.W.Frag) (tl : TE) : TI := fun σ H R => tl σ H fun x H1 => ∃ a, x = .ref a ∧ (∃ xs, SqL K H1 a xs) ∧ R (Itl K a) H1
def iTup (K : PySem.W.Frag) (tl : TE) : TI := fun σ H R => tl σ H fun x H1 => ∃ a, x = .ref a ∧ (∃ xs, SqT K H1 a xs) ∧ R (Itt K a) H1
theorem pi_list {l : Expr} {tl : TE} (hl : PE X l tl) : PI X tg l (iList X.K tl) := by
  intro pins s σ H R I h
  refine thn (hl pins s σ H _ I h) fun v s1 ⟨x, H1, I1, r1, q1⟩ => ?_
  obtain ⟨a, e, ⟨xs, hq⟩, q⟩ := q1
  subst e
  cases r1
  obtain ⟨its, rv, p, hz⟩ := I1.list hq
  refine wpAny_pyIter_list p.isList ?_
  refine ⟨s1.heap.objs.size, [s1.heap.objs.size], _, _, H1, rfl, I1.kept (t' := s1.toks) fun b o e => Heap.get?_push_of_some _ e, turn_list a _, ⟨_, Heap.get?_push_size _ rfl, rfl, rfl⟩, fun b hb => ?_, q⟩
  have e : b = s1.heap.objs.size := by simpa using hb
  subst e
  exact I1.fpOk (Nat.le_refl _) (I1.hok.fresh (Nat.le_refl _))
theorem pi_tup {l : Expr} {tl : TE} (hl : PE X l tl) : PI X tg l (iTup X.K tl) := by
  intro pins s σ H R I h
  refine thn (hl pins s σ H _ I h) fun v s1 ⟨x, H1, I1, r1, q1⟩ => ?_
  obtain ⟨a, e, ⟨xs, hq⟩, q⟩ := q1
  subst e
  cases r1
  obtain ⟨its, rv, p, hz⟩ := I1.tuple hq
  refine wpAny_pyIter_tuple (show s1.heap.IsTuple a its.toArray from p) ?_
  refine ⟨s1.heap.objs.size, [s1.heap.objs.size], _, _, H1, rfl, I1.kept (t' := s1.toks) fun b o e => Heap.get?_push_of_some _ e, turn_tuple a _, ⟨_, Heap.get?_push_size _ rfl, rfl, rfl⟩, fun b hb => ?_, q⟩
  have e : b = s1.heap.objs.size := by simpa using hb
  subst e
  exact I1.fpOk (Nat.le_refl _) (I1.hok.fresh (Nat.le_refl _))
/-- a range object just made, walked -/
theorem range_it {pins : List (Addr × Obj)} {σ : St} {H : Hp} {s : Shared} {R : It → Hp → Prop} {E : Value → Shared → Prop} {lo hi : Int} {t u v : Tok} {tk : Nat} (I : Inv X pins σ H s) (h1 : -(2 ^ 62) ≤ lo) (h2 : lo < 2 ^ 62) (h3 : -(2 ^ 62) ≤ hi) (h4 : hi < 2 ^ 62)
    (q : R (Itr lo (hi - lo).toNat) H) : wpAny (model X.prog X.w) X.A (pyIter (.ref s.heap.objs.size)) (PIE X pins σ tg R) E { s with heap := s.heap.push { cls := .type "range", data := .fields #[.int lo t, .int hi u, .int 1 v] }, toks := tk } := by
  refine wpAny_pyIter_range (IsRange.new ..) (small_one h1 h2 h3 h4) ?_
  have I1 : Inv X pins σ H { s with heap := s.heap.push { cls := .type "range", data := .fields #[.int lo t, .int hi u, .int 1 v] }, toks := tk } := I.kept fun b o e => Heap.get?_push_of_some _ e
  refine ⟨(s.heap.push { cls := .type "range", data := .fields #[.int lo t, .int hi u, .int 1 v] }).objs.size, [(s.heap.push { cls := .type "range", data := .fields #[.int lo t, .int hi u, .int 1 v] }).objs.size], _, _, H, rfl,
    I1.kept (t' := tk) fun b o e => Heap.get?_push_of_some _ e, turn_range _ lo (hi - lo).toNat, ?_, fun b hb => ?_, q⟩
  · have e1 : lo + ((0 : Nat) : Int) * 1 = lo := by simp
    have e2 : (((hi - lo).toNat : Nat) : Int) - ((0 : Nat) : Int) = Builtin.Range.rangeSize lo hi 1 := by rw [rangeSize_one]; split <;> omega
    show IsRangeIter _ _ (lo + ((0 : Nat) : Int) * 1) ((((hi - lo).toNat : Nat) : Int) - ((0 : Nat) : Int)) 1
    rw [e1, e2]
    exact Heap.get?_push_size _ rfl
  · have e : b = (s.heap.push { cls := .type "range", data := .fields #[.int lo t, .int hi u, .int 1 v] }).objs.size := by simpa using hb
    subst e
    exact I1.fpOk (Nat.le_refl _) (I1.hok.fresh (Nat.le_refl _))
def iRng1 (ta : TA) : TI := fun σ H R => ta σ H fun vs H1 => ∃ j : Int, vs = [.int j] ∧ -(2 ^ 62) ≤ j ∧ j < 2 ^ 62 ∧ R (Itr 0 j.toNat) H1
def iRng2 (ta : TA) : TI := fun σ H R => ta σ H fun vs H1 => ∃ i j : Int, vs = [.int i, .int j] ∧ (-(2 ^ 62) ≤ i ∧ i < 2 ^ 62 ∧ -(2 ^ 62) ≤ j ∧ j < 2 ^ 62) ∧ R (Itr i (j - i).toNat) H1
theorem pi_range1 {a : Expr} {ta : TA} {p pos : Pos} (hg : Gl X "range") (hm : X.mg "range" = none) (ha : PA X [a] ta) (hs : starEach [a] X.env = [(false, eval a X.env)] := by rfl) : PI X tg (.Call (.Name "range" p) [a] [] pos) (iRng1 ta) := by
  intro pins s σ H R I h
  refine Call_ (ld_blt I hg hm boot_range (PyProof.Rows.callWith_type1 (thn (ha pos pins s σ H _ I h) fun us s1 ⟨vs, H1, I1, r1, q1⟩ => ?_) hs rfl))
  obtain ⟨j, e, q1, q2, q⟩ := q1
  subst e
  cases r1 with
  | cons r rr =>
    cases rr
    obtain ⟨t, rfl⟩ := r
    exact call_range_1 (range_it I1 (by omega) (by omega) q1 q2 (by simpa using q))
theorem pi_range2 {a b : Expr} {ta : TA} {p pos : Pos} (hg : Gl X "range") (hm : X.mg "range" = none) (ha : PA X [a, b] ta) (hs : starEach [a, b] X.env = [(false, eval a X.env), (false, eval b X.env)] := by rfl) (hs2 : starEach [b] X.env = [(false, eval b X.env)] := by rfl) :
    PI X tg (.Call (.Name "range" p) [a, b] [] pos) (iRng2 ta) := by
  intro pins s σ H R I h
  refine Call_ (ld_blt I hg hm boot_range (PyProof.Rows.callWith_type1 (thn (ha pos pins s σ H _ I h) fun us s1 ⟨vs, H1, I1, r1, q1⟩ => ?_) (by rw [hs, hs2]) (by rw [hs2]; rfl)))
  obtain ⟨i, j, e, ⟨q1, q2, q3, q4⟩, q⟩ := q1
  subst e
  cases r1 with
  | cons r rr =>
    cases rr with
    | cons r' rr =>
      cases rr
      obtain ⟨t, rfl⟩ := r
      obtain ⟨t', rfl⟩ := r'
      exact call_range_2 (range_it I1 q1 q2 q3 q4 q)

/-! ### for -/
/-- W: the invariant by the turn and a measure; N: what the body is to reach -/
def tFor (wi : TI) (g : TG) (tb : TS) : TS := fun D σ H => wi σ H fun J H1 => ∃ W : Nat → Nat → St → Hp → Prop, (∃ m, W 0 m σ H1) ∧ ∀ i m σ H, W i m σ H →
  (J.stop i H ∧ D.nx σ H) ∨ (J.go i H ∧ ∃ N : St → Hp → Prop, (∀ σ' H', N σ' H' → ∃ m', m' < m ∧ W (i + 1) m' σ' H') ∧ ∀ x H', J.yld i H x H' → g x σ H' fun σ2 H2 => tb { D with nx := N, ct := N, bk := D.nx } σ2 H2)
/-- the records at fp as they stand -/
def pinsAt (fp : List Addr) (h : Heap) : List (Addr × Obj) := fp.filterMap fun b => (h.get? b).map fun o => (b, o)
theorem mem_pinsAt {fp : List Addr} {h : Heap} {b : Addr} {o : Obj} (hb : b ∈ fp) (e : h.get? b = some o) : (b, o) ∈ pinsAt fp h := List.mem_filterMap.mpr ⟨b, hb, by rw [e]; rfl⟩
theorem of_pinsAt {fp : List Addr} {h : Heap} {p : Addr × Obj} (hp : p ∈ pinsAt fp h) : p.1 ∈ fp ∧ h.get? p.1 = some p.2 := by
  obtain ⟨b, hb, e⟩ := List.mem_filterMap.mp hp
  cases q : h.get? b with
  | none => rw [q] at e; cases e
  | some o =>
    rw [q] at e
    have e' : (b, o) = p := Option.some.inj e
    subst e'
    exact ⟨hb, q⟩
theorem Inv.pinned {pins : List (Addr × Obj)} {σ : St} {H : Hp} {s : Shared} {fp : List Addr} (I : Inv X pins σ H s) (hf : ∀ b ∈ fp, FpOk X pins H b) (ho : ∀ b ∈ fp, ∃ o, s.heap.get? b = some o ∧ ∀ v, o.data ≠ .cell v) : Inv X (pins ++ pinsAt fp s.heap) σ H s :=
  I.pins_of fun p hp => (List.mem_append.mp hp).elim (fun z => I.pin p (List.mem_append_right _ z)) fun z => by
    obtain ⟨hb, e⟩ := of_pinsAt z
    obtain ⟨f0, f1, f2, _⟩ := hf p.1 hb
    obtain ⟨o, e', d⟩ := ho p.1 hb
    rw [e] at e'; cases e'
    exact ⟨e, f0, f1, f2, d⟩
theorem Inv.unpinned {pins pl : List (Addr × Obj)} {σ : St} {H : Hp} {s : Shared} (I : Inv X (pins ++ pl) σ H s) : Inv X pins σ H s := I.pins_of fun p hp => I.pin p (List.mem_append_right _ (List.mem_append_left _ hp))
theorem ps_for {iter : Expr} {body : List Stmt} {wi : TI} {g : TG} {tb : TS} {pos : Pos} (hp : PassesOwn (model X.prog X.w) X.A X.env X.xe) (hc : X.calm = true) (hi : PI X tg iter wi) (hg : PG X tg g) (hb : PSs X body tb)
    (hs : ∀ x, foldedSetIterable iter X.env x = pure x := by intro _; rfl) : PS X (.For tg iter body [] pos) (tFor wi g tb) := by
  intro pins s σ H D I h
  refine wpAny_For (thn (hi pins s σ H _ I h) fun v s1 h1 => thn h1 fun itv s2 h2 => ?_) hs
  obtain ⟨it, fp, tn, J, H2, e, I2, T, st2, f2, W, ⟨m0, w0⟩, turn⟩ := h2
  subst e
  -- what stays true of the iterator's objects through the loop
  have stat : ∀ {H' : Hp}, (∀ b ∈ fp, H' b = none) → ∀ b ∈ fp, FpOk X pins H' b := fun hn b hb => ⟨hn b hb, (f2 b hb).2⟩
  refine codeAny_forLoop_any (fun n s' => ∃ i σ' H', Inv X pins σ' H' s' ∧ tn i s'.heap ∧ (∀ b ∈ fp, H' b = none) ∧ W i n σ' H') ?_ m0 ⟨0, σ, H2, I2, st2, fun b hb => (f2 b hb).1, w0⟩
  rintro n s3 ⟨i, σ3, H3, I3, st3, fr3, w3⟩
  rcases turn i n σ3 H3 w3 with ⟨stop, qn⟩ | ⟨go, N, hN, step⟩
  · refine wpAny_passesOwn hp (thn (T.done X rfl rfl rfl hc i pins s3 σ3 H3 X.xe I3 (stat fr3) st3 stop) fun r s4 ⟨hr, I4⟩ => ?_)
    subst hr
    exact wpAny_execs_nil ⟨σ3, H3, I4, qn⟩
  · refine wpAny_passesOwn hp (thn (T.item X rfl rfl rfl hc i pins s3 σ3 H3 X.xe I3 (stat fr3) st3 go) fun r s4 ⟨u, hr, h4⟩ => ?_)
    subst hr
    refine wpAny_passesOwn hp (thn h4 fun _ s5 ⟨x, H5, I5, r5, y5, st5, fr5⟩ => ?_)
    have I5' := I5.pinned (stat fr5) (T.obj _ _ st5)
    refine wpAny_passesOwn hp (thn (hg _ s5 σ3 H5 x u _ I5' r5 (step x H5 y5)) fun _ s6 ⟨σ6, H6, I6, q6⟩ => ?_)
    refine wpAny_passesOwn hp (thn (hb _ s6 σ6 H6 _ I6 q6) fun f s7 q7 => ?_)
    have again : ∀ {σ7 : St} {H7 : Hp}, Inv X (pins ++ pinsAt fp s5.heap) σ7 H7 s7 → N σ7 H7 → ∃ m, m < n ∧ ∃ i σ' H', Inv X pins σ' H' s7 ∧ tn i s7.heap ∧ (∀ b ∈ fp, H' b = none) ∧ W i m σ' H' := fun {σ7 H7} I7 n7 => by
      obtain ⟨m', hm, w7⟩ := hN σ7 H7 n7
      refine ⟨m', hm, i + 1, σ7, H7, I7.unpinned, T.keep _ _ _ st5 fun b hb o e => (I7.pin (b, o) (List.mem_append_right _ (List.mem_append_right _ (mem_pinsAt hb e)))).1, fun b hb => ?_, w7⟩
      obtain ⟨o, e, d⟩ := T.obj _ _ st5 b hb
      exact (I7.pin (b, o) (List.mem_append_right _ (List.mem_append_right _ (mem_pinsAt hb e)))).2.1
    cases f with
    | next => obtain ⟨σ7, H7, I7, n7⟩ := q7; exact again I7 n7
    | cont => obtain ⟨σ7, H7, I7, n7⟩ := q7; exact again I7 n7
    | brk => obtain ⟨σ7, H7, I7, q7⟩ := q7; exact ⟨σ7, H7, I7.unpinned, q7⟩
    | ret v => obtain ⟨x7, σ7, H7, I7, r7, q7⟩ := q7; exact ⟨x7, σ7, H7, I7.unpinned, r7, q7⟩
end

/-! ### the forms one uses -/
/-- over a list that the body leaves as it is -/
theorem for_list {K : PySem.W.Frag} {a : Addr} {xs : List V} {g : TG} {tb : TS} {D : Ends} {σ : St} {H : Hp} (Pv : Nat → St → Hp → Prop) (h0 : Pv 0 σ H) (hl : ∀ i σ H, i ≤ xs.length → Pv i σ H → SqL K H a xs)
    (hs : ∀ i x σ H, xs[i]? = some x → Pv i σ H → g x σ H fun σ2 H2 => tb { D with nx := Pv (i + 1), ct := Pv (i + 1), bk := D.nx } σ2 H2) (hd : ∀ σ H, Pv xs.length σ H → D.nx σ H) :
    ∃ W : Nat → Nat → St → Hp → Prop, (∃ m, W 0 m σ H) ∧ ∀ i m σ H, W i m σ H →
      ((Itl K a).stop i H ∧ D.nx σ H) ∨ ((Itl K a).go i H ∧ ∃ N : St → Hp → Prop, (∀ σ' H', N σ' H' → ∃ m', m' < m ∧ W (i + 1) m' σ' H') ∧ ∀ x H', (Itl K a).yld i H x H' → g x σ H' fun σ2 H2 => tb { D with nx := N, ct := N, bk := D.nx } σ2 H2) := by
  refine ⟨fun i m σ H => m = xs.length - i ∧ i ≤ xs.length ∧ Pv i σ H, ⟨xs.length, by simp, Nat.zero_le _, h0⟩, ?_⟩
  rintro i m σ H ⟨rfl, hi, p⟩
  have q := hl i σ H hi p
  by_cases hlt : i < xs.length
  · refine .inr ⟨⟨xs, xs[i], q, by simp [hlt]⟩, Pv (i + 1), fun σ' H' p' => ⟨xs.length - (i + 1), by omega, rfl, hlt, p'⟩, fun x H' y => ?_⟩
    obtain ⟨e, y⟩ := y
    subst e
    exact hs i x σ _ (y xs q) p
  · have e : i = xs.length := by omega
    subst e
    exact .inl ⟨⟨xs, q, Nat.le_refl _⟩, hd σ H p⟩
theorem for_tup {K : PySem.W.Frag} {a : Addr} {xs : List V} {g : TG} {tb : TS} {D : Ends} {σ : St} {H : Hp} (Pv : Nat → St → Hp → Prop) (h0 : Pv 0 σ H) (hl : ∀ i σ H, i ≤ xs.length → Pv i σ H → SqT K H a xs)
    (hs : ∀ i x σ H, xs[i]? = some x → Pv i σ H → g x σ H fun σ2 H2 => tb { D with nx := Pv (i + 1), ct := Pv (i + 1), bk := D.nx } σ2 H2) (hd : ∀ σ H, Pv xs.length σ H → D.nx σ H) :
    ∃ W : Nat → Nat → St → Hp → Prop, (∃ m, W 0 m σ H) ∧ ∀ i m σ H, W i m σ H →
      ((Itt K a).stop i H ∧ D.nx σ H) ∨ ((Itt K a).go i H ∧ ∃ N : St → Hp → Prop, (∀ σ' H', N σ' H' → ∃ m', m' < m ∧ W (i + 1) m' σ' H') ∧ ∀ x H', (Itt K a).yld i H x H' → g x σ H' fun σ2 H2 => tb { D with nx := N, ct := N, bk := D.nx } σ2 H2) := by
  refine ⟨fun i m σ H => m = xs.length - i ∧ i ≤ xs.length ∧ Pv i σ H, ⟨xs.length, by simp, Nat.zero_le _, h0⟩, ?_⟩
  rintro i m σ H ⟨rfl, hi, p⟩
  have q := hl i σ H hi p
  by_cases hlt : i < xs.length
  · refine .inr ⟨⟨xs, xs[i], q, by simp [hlt]⟩, Pv (i + 1), fun σ' H' p' => ⟨xs.length - (i + 1), by omega, rfl, hlt, p'⟩, fun x H' y => ?_⟩
    obtain ⟨e, y⟩ := y
    subst e
    exact hs i x σ _ (y xs q) p
  · have e : i = xs.length := by omega
    subst e
    exact .inl ⟨⟨xs, q, Nat.le_refl _⟩, hd σ H p⟩
theorem for_range {lo : Int} {n : Nat} {g : TG} {tb : TS} {D : Ends} {σ : St} {H : Hp} (Pv : Nat → St → Hp → Prop) (h0 : Pv 0 σ H)
    (hs : ∀ i σ H, i < n → Pv i σ H → g (.int (lo + i)) σ H fun σ2 H2 => tb { D with nx := Pv (i + 1), ct := Pv (i + 1), bk := D.nx } σ2 H2) (hd : ∀ σ H, Pv n σ H → D.nx σ H) :
    ∃ W : Nat → Nat → St → Hp → Prop, (∃ m, W 0 m σ H) ∧ ∀ i m σ H, W i m σ H →
      ((Itr lo n).stop i H ∧ D.nx σ H) ∨ ((Itr lo n).go i H ∧ ∃ N : St → Hp → Prop, (∀ σ' H', N σ' H' → ∃ m', m' < m ∧ W (i + 1) m' σ' H') ∧ ∀ x H', (Itr lo n).yld i H x H' → g x σ H' fun σ2 H2 => tb { D with nx := N, ct := N, bk := D.nx } σ2 H2) := by
  refine ⟨fun i m σ H => m = n - i ∧ i ≤ n ∧ Pv i σ H, ⟨n, by simp, Nat.zero_le _, h0⟩, ?_⟩
  rintro i m σ H ⟨rfl, hi, p⟩
  by_cases hlt : i < n
  · refine .inr ⟨hlt, Pv (i + 1), fun σ' H' p' => ⟨n - (i + 1), by omega, rfl, hlt, p'⟩, fun x H' y => ?_⟩
    obtain ⟨e, y⟩ := y
    subst e y
    exact hs i σ _ hlt p
  · have e : i = n := by omega
    subst e
    exact .inl ⟨Nat.le_refl _, hd σ H p⟩
/-- while, by a word and a measure of the state -/
theorem while_by {c : TT} {tb : TS} {D : Ends} {σ : St} {H : Hp} (Pv : St → Hp → Prop) (μ : St → Hp → Nat) (h0 : Pv σ H)
    (hs : ∀ σ H, Pv σ H → c σ H fun b H1 => if b = true then tb { D with nx := fun σ' H' => Pv σ' H' ∧ μ σ' H' < μ σ H, ct := fun σ' H' => Pv σ' H' ∧ μ σ' H' < μ σ H, bk := D.nx } σ H1 else D.nx σ H1)
    (mono : ∀ σ H Q Q', (∀ b H1, Q b H1 → Q' b H1) → c σ H Q → c σ H Q') : tWhile c tb D σ H := by
  refine ⟨fun m σ H => m = μ σ H ∧ Pv σ H, ⟨_, rfl, h0⟩, ?_⟩
  rintro m σ H ⟨rfl, p⟩
  refine mono σ H _ _ (fun b H1 q => ?_) (hs σ H p)
  cases b with
  | true => exact ⟨_, fun σ' H' ⟨p', l⟩ => ⟨_, l, rfl, p'⟩, q⟩
  | false => exact q
end L2

namespace L2
open PySem PySem.Spec PyProof.Rows

abbrev R2 := V → V → Hp → VK → Prop
/-- a two-place operation on values: f is binaryOp op, inplaceOp op or compareOp op -/
def OpR (X : Cx) (f : Value → Value → Sem Value) (r : R2) : Prop :=
  ∀ (pins : List (Addr × Obj)) (s : Shared) (σ : St) (H : Hp) (x y : V) (v u : Value) (Q : VK), Inv X pins σ H s → RelV x v → RelV y u → r x y H Q →
    wpAny (model X.prog X.w) X.A (f v u) (EP X pins σ Q) X.xe s
/-- a one-place operation -/
def UnR (X : Cx) (f : Value → Sem Value) (r : V → Hp → VK → Prop) : Prop :=
  ∀ (pins : List (Addr × Obj)) (s : Shared) (σ : St) (H : Hp) (x : V) (v : Value) (Q : VK), Inv X pins σ H s → RelV x v → r x H Q →
    wpAny (model X.prog X.w) X.A (f v) (EP X pins σ Q) X.xe s
/-- a call of a value that is known (a builtin, a type) with values -/
def CallR (X : Cx) (f : Value) (r : List V → Hp → VK → Prop) : Prop :=
  ∀ (pins : List (Addr × Obj)) (s : Shared) (σ : St) (H : Hp) (xs : List V) (us : List Value) (Q : VK), Inv X pins σ H s → Vals xs us → r xs H Q →
    wpAny (model X.prog X.w) X.A (call f us) (EP X pins σ Q) X.xe s
/-- a value's truth -/
def TruR (X : Cx) (r : V → Hp → (Bool → Hp → Prop) → Prop) : Prop :=
  ∀ (pins : List (Addr × Obj)) (s : Shared) (σ : St) (H : Hp) (x : V) (v : Value) (Q : Bool → Hp → Prop), Inv X pins σ H s → RelV x v → r x H Q →
    wpAny (model X.prog X.w) X.A (truthy v) (TP X pins σ Q) X.xe s

def tOp (r : R2) (ta tb : TE) : TE := fun σ H Q => ta σ H fun x H1 => tb σ H1 fun y H2 => r x y H2 Q
def tUn (r : V → Hp → VK → Prop) (ta : TE) : TE := fun σ H Q => ta σ H fun x H1 => r x H1 Q
/-- ints in, under C, and a value out -/
def rI (C : Int → Int → Prop) (g : Int → Int → V) : R2 := fun x y H Q => ∃ i j, x = .int i ∧ y = .int j ∧ C i j ∧ Q (g i j) H
def rI0 (g : Int → Int → V) : R2 := fun x y H Q => ∃ i j, x = .int i ∧ y = .int j ∧ Q (g i j) H
def rU (g : Int → V) : V → Hp → VK → Prop := fun x H Q => ∃ i, x = .int i ∧ Q (g i) H

section
variable {X : Cx} {a b c : Expr} {ta tb tc : TE} {pos : Pos}

theorem binT (ha : PE X a ta) (hb : PE X b tb) {pins : List (Addr × Obj)} {s : Shared} {σ : St} {H : Hp} {R : V → V → Hp → Prop} (I : Inv X pins σ H s)
    (h : ta σ H fun x H1 => tb σ H1 fun y H2 => R x y H2) {Q : Value → Shared → Prop} {f : Value → Value → Sem Value}
    (hf : ∀ v u s2 x y H2, Inv X pins σ H2 s2 → RelV x v → RelV y u → R x y H2 → wpAny (model X.prog X.w) X.A (f v u) Q X.xe s2) :
    wpAny (model X.prog X.w) X.A (eval a X.env) (fun v s₁ => wpAny (model X.prog X.w) X.A (eval b X.env) (fun u s₂ => wpAny (model X.prog X.w) X.A (f v u) Q X.xe s₂) X.xe s₁) X.xe s := by
  refine thn (ha pins s σ H _ I h) fun v s1 ⟨x, H1, I1, r1, q1⟩ => ?_
  refine thn (hb pins s1 σ H1 _ I1 q1) fun u s2 ⟨y, H2, I2, r2, q2⟩ => ?_
  exact hf v u s2 x y H2 I2 r1 r2 q2

theorem pe_op {op : Operator} {r : R2} (ho : OpR X (binaryOp op) r) (ha : PE X a ta) (hb : PE X b tb) : PE X (.BinOp a op b pos) (tOp r ta tb) := by
  intro pins s σ H Q I h
  exact wpAny_BinOp (binT ha hb I h fun v u s2 x y H2 I2 rx ry q => ho pins s2 σ H2 x y v u Q I2 rx ry q)
theorem pe_un {op : UnaryOp} {r : V → Hp → VK → Prop} (ho : UnR X (unaryOp op) r) (ha : PE X a ta) : PE X (.UnaryOp op a pos) (tUn r ta) := by
  intro pins s σ H Q I h
  exact UnaryOp_ (thn (ha pins s σ H _ I h) fun v s1 ⟨x, H1, I1, r1, q1⟩ => ho pins s1 σ H1 x v Q I1 r1 q1)
/-- a op= e at a name: the name's slot i -/
theorem augR {op : Operator} {r : R2} (ho : OpR X (inplaceOp op) r) {pins : List (Addr × Obj)} {s : Shared} {σ : St} {H : Hp} {x y : V} {v u : Value} {Q : VK} (I : Inv X pins σ H s)
    (rx : RelV x v) (ry : RelV y u) (q : r x y H Q) : wpAny (model X.prog X.w) X.A (inplaceOp op v u) (EP X pins σ Q) X.xe s := ho pins s σ H x y v u Q I rx ry q

/-! ### ints -/
theorem opI {f : Value → Value → Sem Value} {C : Int → Int → Prop} {g : Int → Int → Int}
    (rule : ∀ (i j : Int) (t u : Tok) (s : Shared) (Q : Value → Shared → Prop) (E : Value → Shared → Prop), C i j → Q (.int (g i j) s.toks) { s with toks := s.toks + 1 } → wpAny (model X.prog X.w) X.A (f (.int i t) (.int j u)) Q E s) :
    OpR X f (rI C fun i j => .int (g i j)) := by
  intro pins s σ H x y v u Q I rx ry h
  obtain ⟨i, j, rfl, rfl, hc, q⟩ := h
  obtain ⟨t, rfl⟩ := rx
  obtain ⟨t', rfl⟩ := ry
  exact rule i j t t' s _ _ hc ⟨.int (g i j), H, I.tok _, ⟨_, rfl⟩, q⟩
theorem opI0 {f : Value → Value → Sem Value} {g : Int → Int → Int}
    (rule : ∀ (i j : Int) (t u : Tok) (s : Shared) (Q : Value → Shared → Prop) (E : Value → Shared → Prop), Q (.int (g i j) s.toks) { s with toks := s.toks + 1 } → wpAny (model X.prog X.w) X.A (f (.int i t) (.int j u)) Q E s) :
    OpR X f (rI0 fun i j => .int (g i j)) := by
  intro pins s σ H x y v u Q I rx ry h
  obtain ⟨i, j, rfl, rfl, q⟩ := h
  obtain ⟨t, rfl⟩ := rx
  obtain ⟨t', rfl⟩ := ry
  exact rule i j t t' s _ _ ⟨.int (g i j), H, I.tok _, ⟨_, rfl⟩, q⟩
theorem opB0 {f : Value → Value → Sem Value} {g : Int → Int → Bool}
    (rule : ∀ (i j : Int) (t u : Tok) (s : Shared) (Q : Value → Shared → Prop) (E : Value → Shared → Prop), Q (.bool (g i j)) s → wpAny (model X.prog X.w) X.A (f (.int i t) (.int j u)) Q E s) :
    OpR X f (rI0 fun i j => .bl (g i j)) := by
  intro pins s σ H x y v u Q I rx ry h
  obtain ⟨i, j, rfl, rfl, q⟩ := h
  obtain ⟨t, rfl⟩ := rx
  obtain ⟨t', rfl⟩ := ry
  exact rule i j t t' s _ _ ⟨.bl (g i j), H, I, rfl, q⟩

def CDiv (i j : Int) : Prop := 0 < j ∧ j < 1073741824
def CDivN (i j : Int) : Prop := j ≠ 0 ∧ j.natAbs < 1073741824
def CPow (i j : Int) : Prop := 0 ≤ j ∧ j ≤ 1000000 ∧ i.natAbs < 2 ^ 64
def CMul (i j : Int) : Prop := (-(2 ^ 64) < i ∧ i < 2 ^ 64) ∨ (-(2 ^ 64) < j ∧ j < 2 ^ 64)
theorem CMul.ok {i j : Int} (h : CMul i j) : IntMulOk i j := by
  rcases h with ⟨h1, h2⟩ | ⟨h1, h2⟩
  · exact .of_left (intBits_le_64 h1 h2)
  · exact .of_right (intBits_le_64 h1 h2)
theorem two_pow_nn (k : Nat) : (0 : Int) ≤ 2 ^ k := by
  rw [two_pow_cast]
  exact Int.natCast_nonneg _

theorem op_add : OpR X (binaryOp .Add) (rI0 fun i j => .int (i + j)) := opI0 fun _ _ _ _ _ _ _ q => add_int q
theorem op_sub : OpR X (binaryOp .Sub) (rI0 fun i j => .int (i - j)) := opI0 fun _ _ _ _ _ _ _ q => sub_int q
theorem op_mul : OpR X (binaryOp .Mult) (rI CMul fun i j => .int (i * j)) := opI fun _ _ _ _ _ _ _ hc q => mul_int q hc.ok
/-- // by a positive divisor -/
theorem op_fdiv : OpR X (binaryOp .FloorDiv) (rI CDiv fun i j => .int (i / j)) := opI fun i j _ _ _ _ _ hc q => by
  have h1 : (0 : Int) < j := hc.1
  have h2 : j < 1073741824 := hc.2
  exact floordiv_int (by omega) (by rw [Int.fdiv_eq_ediv_of_nonneg i (by omega)]; exact q) (.inl (PyProof.noPylong_small (by omega)))
theorem op_fdivN : OpR X (binaryOp .FloorDiv) (rI CDivN fun i j => .int (i.fdiv j)) := opI fun _ _ _ _ _ _ _ hc q => floordiv_int hc.1 q (.inl (PyProof.noPylong_small hc.2))
/-- % by a positive divisor of any size -/
theorem op_mod : OpR X (binaryOp .Mod) (rI (fun _ j => 0 < j) fun i j => .int (i % j)) := opI fun i j _ _ _ _ _ hc q => by
  have h1 : (0 : Int) < j := hc
  exact mod_int' (by omega) (by rw [Int.fmod_eq_emod_of_nonneg i (by omega)]; exact q)
theorem op_modN : OpR X (binaryOp .Mod) (rI (fun _ j => j ≠ 0) fun i j => .int (i.fmod j)) := opI fun _ _ _ _ _ _ _ hc q => mod_int' hc q
theorem op_pow : OpR X (binaryOp .Pow) (rI CPow fun i j => .int (i ^ j.toNat)) := opI fun _ _ _ _ _ _ _ hc q => pow_int_small hc.1 hc.2.1 hc.2.2 q
theorem op_shl : OpR X (binaryOp .LShift) (rI CPow fun i j => .int (i * 2 ^ j.toNat)) := opI fun _ _ _ _ _ _ _ hc q => lshift_int_small hc.1 hc.2.1 hc.2.2 q
theorem op_shr : OpR X (binaryOp .RShift) (rI (fun _ j => 0 ≤ j) fun i j => .int (i / 2 ^ j.toNat)) := opI fun i j _ _ _ _ _ hc q =>
  rshift_int hc (by rw [Int.fdiv_eq_ediv_of_nonneg i (two_pow_nn _)]; exact q)
theorem op_and : OpR X (binaryOp .BitAnd) (rI0 fun i j => .int (Builtin.bitAnd i j)) := opI0 fun _ _ _ _ _ _ _ q => and_int q
theorem op_or : OpR X (binaryOp .BitOr) (rI0 fun i j => .int (Builtin.bitOr i j)) := opI0 fun _ _ _ _ _ _ _ q => or_int q
theorem op_xor : OpR X (binaryOp .BitXor) (rI0 fun i j => .int (Builtin.bitXor i j)) := opI0 fun _ _ _ _ _ _ _ q => xor_int q

theorem iop_add : OpR X (inplaceOp .Add) (rI0 fun i j => .int (i + j)) := opI0 fun _ _ _ _ _ _ _ q => iadd_int q
theorem iop_sub : OpR X (inplaceOp .Sub) (rI0 fun i j => .int (i - j)) := opI0 fun _ _ _ _ _ _ _ q => isub_int q
theorem iop_mul : OpR X (inplaceOp .Mult) (rI CMul fun i j => .int (i * j)) := opI fun _ _ _ _ _ _ _ hc q => imul_int q hc.ok
theorem iop_fdiv : OpR X (inplaceOp .FloorDiv) (rI CDiv fun i j => .int (i / j)) := opI fun i j _ _ _ _ _ hc q => by
  have h1 : (0 : Int) < j := hc.1
  have h2 : j < 1073741824 := hc.2
  exact ifloordiv_int (by omega) (by rw [Int.fdiv_eq_ediv_of_nonneg i (by omega)]; exact q) (.inl (PyProof.noPylong_small (by omega)))
theorem iop_mod : OpR X (inplaceOp .Mod) (rI (fun _ j => 0 < j) fun i j => .int (i % j)) := opI fun i j _ _ _ _ _ hc q => by
  have h1 : (0 : Int) < j := hc
  exact imod_int (by omega) (by rw [Int.fmod_eq_emod_of_nonneg i (by omega)]; exact q)
theorem iop_shl : OpR X (inplaceOp .LShift) (rI CPow fun i j => .int (i * 2 ^ j.toNat)) := opI fun _ _ _ _ _ _ _ hc q => ilshift_int_small hc.1 hc.2.1 hc.2.2 q
theorem iop_shr : OpR X (inplaceOp .RShift) (rI (fun _ j => 0 ≤ j) fun i j => .int (i / 2 ^ j.toNat)) := opI fun i j _ _ _ _ _ hc q =>
  irshift_int hc (by rw [Int.fdiv_eq_ediv_of_nonneg i (two_pow_nn _)]; exact q)
theorem iop_and : OpR X (inplaceOp .BitAnd) (rI0 fun i j => .int (Builtin.bitAnd i j)) := opI0 fun _ _ _ _ _ _ _ q => iand_int q
theorem iop_or : OpR X (inplaceOp .BitOr) (rI0 fun i j => .int (Builtin.bitOr i j)) := opI0 fun _ _ _ _ _ _ _ q => ior_int q
theorem iop_xor : OpR X (inplaceOp .BitXor) (rI0 fun i j => .int (Builtin.bitXor i j)) := opI0 fun _ _ _ _ _ _ _ q => ixor_int q

theorem unI {f : Value → Sem Value} {g : Int → Int}
    (rule : ∀ (i : Int) (t : Tok) (s : Shared) (Q : Value → Shared → Prop) (E : Value → Shared → Prop), Q (.int (g i) s.toks) { s with toks := s.toks + 1 } → wpAny (model X.prog X.w) X.A (f (.int i t)) Q E s) :
    UnR X f (rU fun i => .int (g i)) := by
  intro pins s σ H x v Q I rx h
  obtain ⟨i, rfl, q⟩ := h
  obtain ⟨t, rfl⟩ := rx
  exact rule i t s _ _ ⟨.int (g i), H, I.tok _, ⟨_, rfl⟩, q⟩
theorem un_neg : UnR X (unaryOp .USub) (rU fun i => .int (-i)) := unI fun _ _ _ _ _ q => neg_int q
theorem un_inv : UnR X (unaryOp .Invert) (rU fun i => .int (Builtin.bitNot i)) := unI fun _ _ _ _ _ q => invert_int q

/-! ### bools among ints: n += (a < b) -/
theorem op_add_ib : OpR X (binaryOp .Add) (fun x y H Q => ∃ i k, x = .int i ∧ y = .bl k ∧ Q (.int (i + b2i k)) H) := by
  intro pins s σ H x y v u Q I rx ry h
  obtain ⟨i, k, rfl, rfl, q⟩ := h
  obtain ⟨t, rfl⟩ := rx
  cases ry
  exact add_int_bool ⟨.int (i + b2i k), H, I.tok _, ⟨_, rfl⟩, q⟩
end

/-! ### comparisons -/
/-- the scalars that == tells apart as data does -/
def scal : V → V → Bool
  | .non, .non => true | .non, .int _ => true | .int _, .non => true | .non, .bl _ => true | .bl _, .non => true | .non, .str _ => true | .str _, .non => true
  | .int _, .int _ => true | .bl _, .bl _ => true | .str _, .str _ => true | .byt _, .byt _ => true
  | .int _, .str _ => true | .str _, .int _ => true | .bl _, .str _ => true | .str _, .bl _ => true
  | _, _ => false
def rEq : R2 := fun x y H Q => scal x y = true ∧ Q (.bl (decide (x = y))) H
def rNe : R2 := fun x y H Q => scal x y = true ∧ Q (.bl (!decide (x = y))) H

theorem dec_int {i j : Int} : decide (V.int i = V.int j) = (i == j) := by
  rw [Bool.eq_iff_iff]
  simp
theorem dec_bl {i j : Bool} : decide (V.bl i = V.bl j) = (i == j) := by
  rw [Bool.eq_iff_iff]
  simp
theorem dec_str {i j : Str} : decide (V.str i = V.str j) = (i == j) := by
  rw [Bool.eq_iff_iff]
  simp
theorem dec_byt {i j : Array UInt8} : decide (V.byt i = V.byt j) = (i.toList == j.toList) := by
  rw [Bool.eq_iff_iff]
  cases i
  cases j
  simp

section
variable {X : Cx} {a b c : Expr} {ta tb tc : TE} {pos : Pos}
theorem fin_bl {pins : List (Addr × Obj)} {σ : St} {H : Hp} {s : Shared} {Q : VK} {k k' : Bool} (I : Inv X pins σ H s) (q : Q (.bl k) H) (e : k = k') : EP X pins σ Q (.bool k') s := by
  subst e
  exact ⟨.bl k, H, I, rfl, q⟩
theorem op_eq : OpR X (compareOp .Eq) rEq := by
  intro pins s σ H x y v u Q I rx ry h
  obtain ⟨hs, q⟩ := h
  cases x with
  | non =>
    cases rx
    cases y with
    | non => cases ry; exact PySem.EqNone.eq_none_none (fin_bl I q (by simp))
    | bl j => cases ry; exact PySem.EqNone.eq_none_bool (fin_bl I q (by simp))
    | int j => obtain ⟨t', rfl⟩ := ry; exact PySem.EqNone.eq_none_int (fin_bl I q (by simp))
    | str j => obtain ⟨t', rfl⟩ := ry; exact PySem.EqNone.eq_none_str (fin_bl I q (by simp))
    | _ => exact absurd (show false = true from hs) Bool.false_ne_true
  | bl i =>
    cases rx
    cases y with
    | non => cases ry; exact PySem.EqNone.eq_bool_none (fin_bl I q (by simp))
    | bl j => cases ry; exact eq_bool (fin_bl I q dec_bl)
    | str j => obtain ⟨t', rfl⟩ := ry; exact PySem.EqMixed.eq_bool_str (fin_bl I q (by simp))
    | _ => exact absurd (show false = true from hs) Bool.false_ne_true
  | int i =>
    obtain ⟨t, rfl⟩ := rx
    cases y with
    | non => cases ry; exact PySem.EqNone.eq_int_none (fin_bl I q (by simp))
    | int j => obtain ⟨t', rfl⟩ := ry; exact eq_int (fin_bl I q dec_int)
    | str j => obtain ⟨t', rfl⟩ := ry; exact PySem.EqMixed.eq_int_str (fin_bl I q (by simp))
    | _ => exact absurd (show false = true from hs) Bool.false_ne_true
  | str i =>
    obtain ⟨t, rfl⟩ := rx
    cases y with
    | non => cases ry; exact PySem.EqNone.eq_str_none (fin_bl I q (by simp))
    | bl j => cases ry; exact PySem.EqMixed.eq_str_bool (fin_bl I q (by simp))
    | int j => obtain ⟨t', rfl⟩ := ry; exact PySem.EqMixed.eq_str_int (fin_bl I q (by simp))
    | str j => obtain ⟨t', rfl⟩ := ry; exact eq_str (fin_bl I q dec_str)
    | _ => exact absurd (show false = true from hs) Bool.false_ne_true
  | byt i =>
    obtain ⟨t, rfl⟩ := rx
    cases y with
    | byt j => obtain ⟨t', rfl⟩ := ry; exact PySem.W.eq_bytes (fin_bl I q dec_byt)
    | _ => exact absurd (show false = true from hs) Bool.false_ne_true
  | _ => cases y <;> exact absurd (show false = true from hs) Bool.false_ne_true
theorem op_ne : OpR X (compareOp .NotEq) rNe := by
  intro pins s σ H x y v u Q I rx ry h
  obtain ⟨hs, q⟩ := h
  cases x with
  | non =>
    cases rx
    cases y with
    | non => cases ry; exact PySem.EqNone.ne_none_none (fin_bl I q (by simp))
    | bl j => cases ry; exact PySem.EqNone.ne_none_bool (fin_bl I q (by simp))
    | int j => obtain ⟨t', rfl⟩ := ry; exact PySem.EqNone.ne_none_int (fin_bl I q (by simp))
    | str j => obtain ⟨t', rfl⟩ := ry; exact PySem.EqNone.ne_none_str (fin_bl I q (by simp))
    | _ => exact absurd (show false = true from hs) Bool.false_ne_true
  | bl i =>
    cases rx
    cases y with
    | non => cases ry; exact PySem.EqNone.ne_bool_none (fin_bl I q (by simp))
    | bl j => cases ry; exact ne_bool (fin_bl I q (congrArg not dec_bl))
    | str j => obtain ⟨t', rfl⟩ := ry; exact PySem.EqMixed.ne_bool_str (fin_bl I q (by simp))
    | _ => exact absurd (show false = true from hs) Bool.false_ne_true
  | int i =>
    obtain ⟨t, rfl⟩ := rx
    cases y with
    | non => cases ry; exact PySem.EqNone.ne_int_none (fin_bl I q (by simp))
    | int j => obtain ⟨t', rfl⟩ := ry; exact ne_int (fin_bl I q (congrArg not dec_int))
    | str j => obtain ⟨t', rfl⟩ := ry; exact PySem.EqMixed.ne_int_str (fin_bl I q (by simp))
    | _ => exact absurd (show false = true from hs) Bool.false_ne_true
  | str i =>
    obtain ⟨t, rfl⟩ := rx
    cases y with
    | non => cases ry; exact PySem.EqNone.ne_str_none (fin_bl I q (by simp))
    | bl j => cases ry; exact PySem.EqMixed.ne_str_bool (fin_bl I q (by simp))
    | int j => obtain ⟨t', rfl⟩ := ry; exact PySem.EqMixed.ne_str_int (fin_bl I q (by simp))
    | str j => obtain ⟨t', rfl⟩ := ry; exact ne_str (fin_bl I q (congrArg not dec_str))
    | _ => exact absurd (show false = true from hs) Bool.false_ne_true
  | byt i =>
    obtain ⟨t, rfl⟩ := rx
    cases y with
    | byt j => obtain ⟨t', rfl⟩ := ry; exact PySem.W.ne_bytes (fin_bl I q (congrArg not dec_byt))
    | _ => exact absurd (show false = true from hs) Bool.false_ne_true
  | _ => cases y <;> exact absurd (show false = true from hs) Bool.false_ne_true

theorem op_lt : OpR X (compareOp .Lt) (rI0 fun i j => .bl (decide (i < j))) := opB0 fun _ _ _ _ _ _ _ q => lt_int q
theorem op_le : OpR X (compareOp .LtE) (rI0 fun i j => .bl (decide (i ≤ j))) := opB0 fun _ _ _ _ _ _ _ q => le_int q
theorem op_gt : OpR X (compareOp .Gt) (rI0 fun i j => .bl (decide (j < i))) := opB0 fun _ _ _ _ _ _ _ q => gt_int q
theorem op_ge : OpR X (compareOp .GtE) (rI0 fun i j => .bl (decide (j ≤ i))) := opB0 fun _ _ _ _ _ _ _ q => ge_int q
theorem op_lt_str : OpR X (compareOp .Lt) (fun x y H Q => ∃ i j, x = .str i ∧ y = .str j ∧ Q (.bl (decide (i.cps.toList < j.cps.toList))) H) := by
  intro pins s σ H x y v u Q I rx ry h
  obtain ⟨i, j, rfl, rfl, q⟩ := h
  obtain ⟨t, rfl⟩ := rx
  obtain ⟨t', rfl⟩ := ry
  exact lt_str (fin_bl I q rfl)
/-- the one string within the other -/
theorem op_in_str : OpR X (compareOp .In) (fun x y H Q => ∃ i j, x = .str i ∧ y = .str j ∧ Q (.bl (!(Builtin.Str.occurrences j i 0 j.length 1).isEmpty)) H) := by
  intro pins s σ H x y v u Q I rx ry h
  obtain ⟨i, j, rfl, rfl, q⟩ := h
  obtain ⟨t, rfl⟩ := rx
  obtain ⟨t', rfl⟩ := ry
  exact in_str (fin_bl I q rfl)

/-- is None, is not None: the right side a value none -/
theorem op_isN : OpR X (compareOp .Is) (fun x y H Q => y = .non ∧ Q (.bl (decide (x = .non))) H) := by
  intro pins s σ H x y v u Q I rx ry h
  obtain ⟨rfl, q⟩ := h
  cases ry
  refine is_none_gen (fin_bl I q ?_)
  cases x <;> first
    | (cases rx; rfl)
    | (obtain ⟨t, rfl⟩ := rx; rfl)
theorem op_notN : OpR X (compareOp .IsNot) (fun x y H Q => y = .non ∧ Q (.bl (!decide (x = .non))) H) := by
  intro pins s σ H x y v u Q I rx ry h
  obtain ⟨rfl, q⟩ := h
  cases ry
  refine isnot_none_gen (fin_bl I q ?_)
  cases x <;> first
    | (cases rx; rfl)
    | (obtain ⟨t, rfl⟩ := rx; rfl)

theorem op_notin_str : OpR X (compareOp .NotIn) (fun x y H Q => ∃ i j, x = .str i ∧ y = .str j ∧ Q (.bl (!(!(Builtin.Str.occurrences j i 0 j.length 1).isEmpty))) H) := by
  intro pins s σ H x y v u Q I rx ry h
  obtain ⟨i, j, rfl, rfl, q⟩ := h
  obtain ⟨t, rfl⟩ := rx
  obtain ⟨t', rfl⟩ := ry
  exact notIn_str (fin_bl I q rfl)
/-- is, is not of two objects that are tracked lists or instances -/
def isObj : HO → Bool
  | .lst _ => true
  | .ins _ _ _ => true
  | _ => false
theorem obj_there {pins : List (Addr × Obj)} {s : Shared} {σ : St} {H : Hp} {a : Addr} {o : HO} (I : Inv X pins σ H s) (h : H a = some o) (p : isObj o = true) : ∃ ob, s.heap.get? a = some ob ∧ ob.cls ≠ .type "tuple" := by
  cases o with
  | lst xs =>
    obtain ⟨_, its, n, _, e⟩ : xs.length ≤ sizeLine ∧ ∃ (its : List Value) (n : Nat), Vals xs its ∧ s.heap.get? a = some { cls := .type "list", data := .seq its.toArray n } := I.hok a _ h
    exact ⟨_, e, (by show Value.type "list" ≠ .type "tuple"; decide +kernel)⟩
  | ins C dx fs =>
    have x := I.hok a _ h
    obtain ⟨_, _, _, e, _⟩ := x
    exact ⟨_, e, (by show Value.ref C ≠ .type "tuple"; exact fun z => by cases z)⟩
  | _ => exact absurd (show false = true from p) Bool.false_ne_true
theorem op_is_ref : OpR X (compareOp .Is) (fun x y H Q => ∃ a b oa ob, x = .ref a ∧ y = .ref b ∧ H a = some oa ∧ isObj oa = true ∧ H b = some ob ∧ isObj ob = true ∧ Q (.bl (decide (a = b))) H) := by
  intro pins s σ H x y v u Q I rx ry h
  obtain ⟨a, b, oa, ob, rfl, rfl, ha, pa, hb, pb, q⟩ := h
  cases rx
  cases ry
  obtain ⟨o1, e1, n1⟩ := obj_there I ha pa
  obtain ⟨o2, e2, _⟩ := obj_there I hb pb
  by_cases z : a = b
  · subst z
    exact wpAny_is_ref_self (fin_bl I q (by simp))
  · exact wpAny_is_ref_other z e1 e2 n1 (fin_bl I q (by simp [z]))
theorem op_isnot_ref : OpR X (compareOp .IsNot) (fun x y H Q => ∃ a b oa ob, x = .ref a ∧ y = .ref b ∧ H a = some oa ∧ isObj oa = true ∧ H b = some ob ∧ isObj ob = true ∧ Q (.bl (!decide (a = b))) H) := by
  intro pins s σ H x y v u Q I rx ry h
  obtain ⟨a, b, oa, ob, rfl, rfl, ha, pa, hb, pb, q⟩ := h
  cases rx
  cases ry
  obtain ⟨o1, e1, n1⟩ := obj_there I ha pa
  obtain ⟨o2, e2, _⟩ := obj_there I hb pb
  by_cases z : a = b
  · subst z
    exact wpAny_isNot_ref_self (fin_bl I q (by simp))
  · exact wpAny_isNot_ref_other z e1 e2 n1 (fin_bl I q (by simp [z]))

/-- two rules for one operation: by cases -/
theorem OpR.or {f : Value → Value → Sem Value} {r r' : R2} (h : OpR X f r) (h' : OpR X f r') : OpR X f (fun x y H Q => r x y H Q ∨ r' x y H Q) := by
  intro pins s σ H x y v u Q I rx ry q
  rcases q with q | q
  · exact h pins s σ H x y v u Q I rx ry q
  · exact h' pins s σ H x y v u Q I rx ry q

theorem nomark (b : Expr) {op : CmpOp} (h : op ≠ .In := by decide) (h2 : op ≠ .NotIn := by decide) : behindInMarks op b = false := by
  have e1 : (op == CmpOp.In) = false := by cases op <;> first | rfl | exact absurd rfl h
  have e2 : (op == CmpOp.NotIn) = false := by cases op <;> first | rfl | exact absurd rfl h2
  cases b <;> simp [behindInMarks, e1, e2]
/-- a comparison as a value; hm: nomark b, or (for in, not in) by with_unfolding_all rfl -/
theorem pe_cmpR {op : CmpOp} {r : R2} (ho : OpR X (compareOp op) r) (ha : PE X a ta) (hb : PE X b tb) (hm : behindInMarks op b = false) : PE X (.Compare a [op] [b] pos) (tOp r ta tb) := by
  intro pins s σ H Q I h
  exact wpAny_Compare1 (binT ha hb I h fun v u s2 x y H2 I2 rx ry q => ho pins s2 σ H2 x y v u Q I2 rx ry q) hm
/-- a reading of a value as a test -/
def tTest (t : TE) : TT := fun σ H Q => t σ H fun x H' => ∃ k, x = .bl k ∧ Q k H'
theorem pt_cmpR {op : CmpOp} {r : R2} (ho : OpR X (compareOp op) r) (ha : PE X a ta) (hb : PE X b tb) (hm : behindInMarks op b = false) : PT X (.Compare a [op] [b] pos) (tTest (tOp r ta tb)) := by
  intro pins s σ H Q I h
  refine wpAny_isTrue_Compare1 (thn (ha pins s σ H _ I h) fun v s1 ⟨x, H1, I1, r1, q1⟩ => thn (hb pins s1 σ H1 _ I1 q1) fun u s2 ⟨y, H2, I2, r2, q2⟩ =>
    thn (ho pins s2 σ H2 x y v u _ I2 r1 r2 q2) fun c s3 ⟨z, H3, I3, r3, k, e, q3⟩ => ?_) hm
  subst e
  cases r3
  exact wpAny_truthy_bool ⟨H3, I3, q3⟩
/-- a op1 b op2 c -/
def tChain (r r' : R2) (ta tb tc : TE) : TE := fun σ H Q => ta σ H fun x H1 => tb σ H1 fun y H2 => r x y H2 fun z H3 => ∃ k, z = .bl k ∧
  (if k = true then tc σ H3 fun w' H4 => r' y w' H4 Q else Q (.bl false) H3)
theorem pe_chain {op op' : CmpOp} {r r' : R2} (ho : OpR X (compareOp op) r) (ho' : OpR X (compareOp op') r') (ha : PE X a ta) (hb : PE X b tb) (hc : PE X c tc)
    (hm : lastMarks [op, op'] [b, c] = false := by with_unfolding_all rfl) : PE X (.Compare a [op, op'] [b, c] pos) (tChain r r' ta tb tc) := by
  intro pins s σ H Q I h
  refine Compare_chain (thn (ha pins s σ H _ I h) fun v s1 ⟨x, H1, I1, r1, q1⟩ => chain_link (thn (hb pins s1 σ H1 _ I1 q1) fun u s2 ⟨y, H2, I2, r2, q2⟩ =>
    thn (ho pins s2 σ H2 x y v u _ I2 r1 r2 q2) fun d s3 ⟨z, H3, I3, r3, k, e, q3⟩ => ?_)) hm
  subst e
  cases r3
  refine wpAny_truthy_bool ?_
  cases k with
  | false => exact ite_ff ⟨.bl false, H3, I3, rfl, q3⟩
  | true => exact ite_tt (chain_last (thn (hc pins s3 σ H3 _ I3 q3) fun w' s4 ⟨z', H4, I4, r4, q4⟩ => ho' pins s4 σ H4 y z' u w' Q I4 r2 r4 q4))
theorem pt_chain {op op' : CmpOp} {r r' : R2} (ho : OpR X (compareOp op) r) (ho' : OpR X (compareOp op') r') (ha : PE X a ta) (hb : PE X b tb) (hc : PE X c tc)
    (hm : lastMarks [op, op'] [b, c] = false := by with_unfolding_all rfl) : PT X (.Compare a [op, op'] [b, c] pos) (tTest (tChain r r' ta tb tc)) := by
  intro pins s σ H Q I h
  refine isTrue_chain (thn (ha pins s σ H _ I h) fun v s1 ⟨x, H1, I1, r1, q1⟩ => test_link (thn (hb pins s1 σ H1 _ I1 q1) fun u s2 ⟨y, H2, I2, r2, q2⟩ =>
    thn (ho pins s2 σ H2 x y v u _ I2 r1 r2 q2) fun d s3 ⟨z, H3, I3, r3, k, e, q3⟩ => ?_)) hm
  subst e
  cases r3
  refine wpAny_truthy_bool ?_
  cases k with
  | false =>
    obtain ⟨k', e', q'⟩ := q3
    cases e'
    exact ite_ff ⟨H3, I3, q'⟩
  | true =>
    refine ite_tt (test_last (thn (hc pins s3 σ H3 _ I3 q3) fun w' s4 ⟨z', H4, I4, r4, q4⟩ => thn (ho' pins s4 σ H4 y z' u w' _ I4 r2 r4 q4) fun d' s5 ⟨z2, H5, I5, r5, k2, e2, q5⟩ => ?_))
    subst e2
    cases r5
    exact wpAny_truthy_bool ⟨H5, I5, q5⟩

/-! ### truth -/
/-- a value's truth by the abstract heap -/
def TruV (K : PySem.W.Frag) (x : V) (H : Hp) (k : Bool) : Prop :=
  match x with
  | .non => k = false
  | .bl b => k = b
  | .int i => k = (i != 0)
  | .str y => y.length ≤ sizeLine ∧ k = ((y.length : Int) != 0)
  | .byt y => y.size ≤ sizeLine ∧ k = ((y.size : Int) != 0)
  | .ref p => (∃ xs, SqL K H p xs ∧ k = !xs.isEmpty) ∨ (∃ xs, SqT K H p xs ∧ k = !xs.isEmpty) ∨ ∃ kvs, H p = some (.dK kvs) ∧ k = !kvs.isEmpty
  | _ => False
theorem isEmpty_kv {κ : Type} {kvs : List (κ × V)} {vs : List (κ × Value)} (r : KV kvs vs) : (!vs.isEmpty) = !kvs.isEmpty := by
  cases r <;> rfl
theorem isEmpty_of {xs : List V} {its : List Value} (r : Vals xs its) : (!its.toArray.isEmpty) = !xs.isEmpty := by
  cases r <;> simp
theorem line63 : (sizeLine : Nat) < 2 ^ 63 := by rw [sizeLine_eq]; decide
theorem tru_ok : TruR X (fun x H Q => ∃ k, TruV X.K x H k ∧ Q k H) := by
  intro pins s σ H x v Q I rx h
  obtain ⟨k, e, q⟩ := h
  have hl := line63
  have hs : sizeLine = 16777216 := sizeLine_eq
  cases x with
  | non =>
    cases rx
    have e' : k = false := e
    subst e'
    exact truthy_none ⟨H, I, q⟩
  | bl b =>
    cases rx
    have e' : k = b := e
    subst e'
    exact wpAny_truthy_bool ⟨H, I, q⟩
  | int i =>
    obtain ⟨t, rfl⟩ := rx
    have e' : k = (i != 0) := e
    subst e'
    exact PySem.P.truthy_int ⟨H, I, q⟩
  | str y =>
    obtain ⟨t, rfl⟩ := rx
    obtain ⟨hy, e'⟩ : y.length ≤ sizeLine ∧ k = ((y.length : Int) != 0) := e
    subst e'
    exact PySem.P.truthy_str (by omega) ⟨H, I.tok _, q⟩
  | byt y =>
    obtain ⟨t, rfl⟩ := rx
    obtain ⟨hy, e'⟩ : y.size ≤ sizeLine ∧ k = ((y.size : Int) != 0) := e
    subst e'
    exact PySem.W.truthy_bytes (by omega) ⟨H, I.tok _, q⟩
  | ref p =>
    cases rx
    have e' : (∃ xs, SqL X.K H p xs ∧ k = !xs.isEmpty) ∨ (∃ xs, SqT X.K H p xs ∧ k = !xs.isEmpty) ∨ ∃ kvs, H p = some (.dK kvs) ∧ k = !kvs.isEmpty := e
    rcases e' with ⟨xs, hx, e'⟩ | ⟨xs, hx, e'⟩ | ⟨kvs, hx, e'⟩
    · subst e'
      obtain ⟨its, r, pl, hz⟩ := I.list hx
      have hlen := r.length
      exact wpAny_truthy_list pl.isList (by simp only [List.size_toArray]; omega) ⟨H, I.tok _, by rw [isEmpty_of r]; exact q⟩
    · subst e'
      obtain ⟨its, r, pl, hz⟩ := I.tuple hx
      have hlen := r.length
      exact truthy_tuple pl (by simp only [List.size_toArray]; omega) ⟨H, I.tok _, by rw [isEmpty_of r]; exact q⟩
    · subst e'
      obtain ⟨hz, hS, vs, r, m⟩ : kvs.length ≤ sizeLine ∧ (p == sysModules) = false ∧ ∃ vs, KV kvs vs ∧ s.heap.DictOf (mixKind X.prog X.w) p vs := I.hok p _ hx
      have hlen : kvs.length = vs.length := Paired.length r
      exact wpAny_truthy_dict hS m (by omega) ⟨H, I.tok _, by rw [isEmpty_kv r]; exact q⟩
  | _ => exact (show False from e).elim
/-- any expression whose test is its value's truth (a name, a call, a subscript, a field ..: he by fun _ => rfl) -/
theorem pt_truth (ha : PE X a ta) (he : ∀ whole, isTrue a X.env whole = (do let v ← whole; standAt a.pos; holding [v] (truthy v))) :
    PT X a (fun σ H Q => ta σ H fun x H' => ∃ k, TruV X.K x H' k ∧ Q k H') := by
  intro pins s σ H Q I h
  exact isTrue_plain (thn (ha pins s σ H _ I h) fun v s1 ⟨x, H1, I1, r1, q1⟩ => tru_ok pins s1 σ H1 x v Q I1 r1 q1) (he _)

/-! ### strs and bytes -/
theorem pe_byt {x : List UInt8} {k : Nat} : PE X (.Constant (.bytes x) k pos) (fun _ H Q => Q (.byt x.toArray) H) := fun _ _ _ H _ I h => PySem.W.Constant_bytes ⟨.byt x.toArray, H, I.tok _, ⟨_, rfl⟩, h⟩
theorem op_add_str : OpR X (binaryOp .Add) (fun x y H Q => ∃ i j, x = .str i ∧ y = .str j ∧ i.length + j.length ≤ sizeLine ∧ Q (.str (i ++ j)) H) := by
  intro pins s σ H x y v u Q I rx ry h
  obtain ⟨i, j, rfl, rfl, hz, q⟩ := h
  obtain ⟨t, rfl⟩ := rx
  obtain ⟨t', rfl⟩ := ry
  exact add_str (fun t' tk => ⟨.str (i ++ j), H, I.tok _, ⟨_, rfl⟩, q⟩) hz
theorem iop_add_str : OpR X (inplaceOp .Add) (fun x y H Q => ∃ i j, x = .str i ∧ y = .str j ∧ i.length + j.length ≤ sizeLine ∧ Q (.str (i ++ j)) H) := by
  intro pins s σ H x y v u Q I rx ry h
  obtain ⟨i, j, rfl, rfl, hz, q⟩ := h
  obtain ⟨t, rfl⟩ := rx
  obtain ⟨t', rfl⟩ := ry
  exact iadd_str (fun t' tk => ⟨.str (i ++ j), H, I.tok _, ⟨_, rfl⟩, q⟩) hz
theorem op_add_byt : OpR X (binaryOp .Add) (fun x y H Q => ∃ i j, x = .byt i ∧ y = .byt j ∧ i.size + j.size ≤ 16777216 ∧ Q (.byt (i ++ j)) H) := by
  intro pins s σ H x y v u Q I rx ry h
  obtain ⟨i, j, rfl, rfl, hz, q⟩ := h
  obtain ⟨t, rfl⟩ := rx
  obtain ⟨t', rfl⟩ := ry
  exact PySem.W.KBy.add_bytes hz (fun t' tk => ⟨.byt (i ++ j), H, I.tok _, ⟨_, rfl⟩, q⟩)

def PlainIxT (b : Expr) : Prop := ∀ o i, subscripted b false o i = operate [o, i] (getItem o i)
/-- s[i], 0 ≤ i < len -/
theorem pe_item_str (ha : PE X a ta) (hb : PE X b tb) (hs : PlainIxT b) :
    PE X (.Subscript a b pos) (tOp (fun x y H Q => ∃ z i c, x = .str z ∧ y = .int i ∧ 0 ≤ i ∧ i < 2 ^ 63 ∧ i < z.length ∧ z.cps[i.toNat]? = some c ∧ Q (.str ⟨#[c]⟩) H) ta tb) := by
  intro pins s σ H Q I h
  refine Subscript_ (binT ha hb I h fun v u s2 x y H2 I2 rx ry q => ?_)
  obtain ⟨z, i, c, rfl, rfl, h0, h63, h1, hc, q⟩ := q
  obtain ⟨t, rfl⟩ := rx
  obtain ⟨t', rfl⟩ := ry
  have e : seqIndex? i z.length = some i.toNat := PySem.StrLaws.seqIndex_nonneg h0 h1
  exact tail_any (typeIs_str s2 z t) slot_str_getitem.lookup (getItem_str (c := c) (by
    have e1 : decide (i < -(2 ^ 63 : Int)) = false := decide_eq_false (by omega)
    have e2 : decide (i ≥ 2 ^ 63) = false := decide_eq_false (by omega)
    rw [e1, e2] <;> rfl) (by rw [e]; exact hc) ⟨.str ⟨#[c]⟩, H2, I2.tok _, ⟨_, rfl⟩, q⟩) (hs _ _)
/-- b[i], 0 ≤ i < len -/
theorem pe_item_byt (ha : PE X a ta) (hb : PE X b tb) (hs : PlainIxT b) :
    PE X (.Subscript a b pos) (tOp (fun x y H Q => ∃ (z : List UInt8) (i : Int), x = .byt z.toArray ∧ y = .int i ∧ z.length ≤ sizeLine ∧ 0 ≤ i ∧ i < z.length ∧ Q (.int ((z.getD i.toNat 0).toNat : Nat)) H) ta tb) := by
  intro pins s σ H Q I h
  refine Subscript_ (binT ha hb I h fun v u s2 x y H2 I2 rx ry q => ?_)
  obtain ⟨z, i, rfl, rfl, hz, h0, h1, q⟩ := q
  obtain ⟨t, rfl⟩ := rx
  obtain ⟨t', rfl⟩ := ry
  have hl : sizeLine = 16777216 := sizeLine_eq
  exact tail_any (PySem.W.typeIs_bytes s2 z.toArray t) PySem.W.FB.slot_bytes_getitem.lookup (PySem.W.getItem_bytes (by omega) h0 h1 ⟨.int ((z.getD i.toNat 0).toNat : Nat), H2, I2.tok _, ⟨_, rfl⟩, q⟩) (hs _ _)

/-! ### scalar builtins, by CallR -/
theorem vals1 {x : V} {us : List Value} (r : Vals [x] us) : ∃ u, us = [u] ∧ RelV x u := by
  cases r with
  | cons r1 r2 => cases r2; exact ⟨_, rfl, r1⟩
theorem vals2 {x y : V} {us : List Value} (r : Vals [x, y] us) : ∃ u w', us = [u, w'] ∧ RelV x u ∧ RelV y w' := by
  cases r with
  | cons r1 r2 =>
    cases r2 with
    | cons r3 r4 => cases r4; exact ⟨_, _, rfl, r1, r3⟩
theorem call_abs : CallR X (.builtin "abs") (fun xs H Q => ∃ i, xs = [.int i] ∧ Q (.int (if i < 0 then -i else i)) H) := by
  intro pins s σ H xs us Q I r h
  obtain ⟨i, rfl, q⟩ := h
  obtain ⟨u, rfl, t, rfl⟩ := vals1 r
  exact call_abs_int fun u tk => ⟨.int (if i < 0 then -i else i), H, I.tok _, ⟨_, rfl⟩, q⟩
theorem call_max2 (hc : X.calm = true) : CallR X (.builtin "max") (fun xs H Q => ∃ i j, xs = [.int i, .int j] ∧ Q (.int (if j > i then j else i)) H) := by
  intro pins s σ H xs us Q I r h
  obtain ⟨i, j, rfl, q⟩ := h
  obtain ⟨u, w', rfl, ⟨t, rfl⟩, ⟨t', rfl⟩⟩ := vals2 r
  refine max_two_ints (I.ok.hd hc) fun h' tk k => ⟨_, H, I.kept k, ?_, q⟩
  by_cases hj : j > i
  · rw [if_pos hj, if_pos hj]; exact ⟨_, rfl⟩
  · rw [if_neg hj, if_neg hj]; exact ⟨_, rfl⟩
theorem call_min2 (hc : X.calm = true) : CallR X (.builtin "min") (fun xs H Q => ∃ i j, xs = [.int i, .int j] ∧ Q (.int (if j < i then j else i)) H) := by
  intro pins s σ H xs us Q I r h
  obtain ⟨i, j, rfl, q⟩ := h
  obtain ⟨u, w', rfl, ⟨t, rfl⟩, ⟨t', rfl⟩⟩ := vals2 r
  refine min_two_ints (I.ok.hd hc) fun h' tk k => ⟨_, H, I.kept k, ?_, q⟩
  by_cases hj : j < i
  · rw [if_pos hj, if_pos hj]; exact ⟨_, rfl⟩
  · rw [if_neg hj, if_neg hj]; exact ⟨_, rfl⟩
theorem call_int1 : CallR X (.type "int") (fun xs H Q => (∃ i, xs = [.int i] ∧ Q (.int i) H) ∨ ∃ k, xs = [.bl k] ∧ Q (.int (if k then 1 else 0)) H) := by
  intro pins s σ H xs us Q I r h
  rcases h with ⟨i, rfl, q⟩ | ⟨k, rfl, q⟩
  · obtain ⟨u, rfl, t, rfl⟩ := vals1 r
    exact call_int_int ⟨.int i, H, I, ⟨_, rfl⟩, q⟩
  · obtain ⟨u, rfl, r1⟩ := vals1 r
    cases r1
    exact call_int_bool ⟨.int (if k then 1 else 0), H, I.tok _, ⟨_, rfl⟩, q⟩
theorem call_bool1 : CallR X (.type "bool") (fun xs H Q => (∃ i, xs = [.int i] ∧ Q (.bl (i != 0)) H) ∨ ∃ k, xs = [.bl k] ∧ Q (.bl k) H) := by
  intro pins s σ H xs us Q I r h
  rcases h with ⟨i, rfl, q⟩ | ⟨k, rfl, q⟩
  · obtain ⟨u, rfl, t, rfl⟩ := vals1 r
    exact call_bool_int ⟨.bl (i != 0), H, I, rfl, q⟩
  · obtain ⟨u, rfl, r1⟩ := vals1 r
    cases r1
    exact call_bool_bool ⟨.bl k, H, I, rfl, q⟩
theorem call_str_int : CallR X (.type "str") (fun xs H Q => ∃ i, xs = [.int i] ∧ i.natAbs.log2 < 1920 ∧ Q (.str (toString i)) H) := by
  intro pins s σ H xs us Q I r h
  obtain ⟨i, rfl, hz, q⟩ := h
  obtain ⟨u, rfl, t, rfl⟩ := vals1 r
  exact PySem.P.str_of_int hz ⟨.str _, H, I.tok _, ⟨_, rfl⟩, q⟩
theorem call_ord : CallR X (.builtin "ord") (fun xs H Q => ∃ x, xs = [.str x] ∧ x.length = 1 ∧ Q (.int (x.cps.getD 0 0 : Nat)) H) := by
  intro pins s σ H xs us Q I r h
  obtain ⟨x, rfl, hz, q⟩ := h
  obtain ⟨u, rfl, t, rfl⟩ := vals1 r
  exact ord_of_one hz ⟨.int _, H, I.tok _, ⟨_, rfl⟩, q⟩
theorem call_chr : CallR X (.builtin "chr") (fun xs H Q => ∃ i, xs = [.int i] ∧ 0 ≤ i ∧ i ≤ 1114111 ∧ Q (.str ⟨#[i.toNat]⟩) H) := by
  intro pins s σ H xs us Q I r h
  obtain ⟨i, rfl, h0, h1, q⟩ := h
  obtain ⟨u, rfl, t, rfl⟩ := vals1 r
  exact chr_of_range h0 h1 ⟨.str _, H, I.tok _, ⟨_, rfl⟩, q⟩
/-- len of a str, a bytes, a list, a tuple -/
def LenV (K : PySem.W.Frag) (x : V) (H : Hp) (n : Nat) : Prop :=
  match x with
  | .str y => y.length ≤ sizeLine ∧ n = y.length
  | .byt y => y.size ≤ sizeLine ∧ n = y.size
  | .ref p => (∃ xs, SqL K H p xs ∧ n = xs.length) ∨ ∃ xs, SqT K H p xs ∧ n = xs.length
  | _ => False
theorem call_len : CallR X (.builtin "len") (fun xs H Q => ∃ x n, xs = [x] ∧ LenV X.K x H n ∧ Q (.int n) H) := by
  intro pins s σ H xs us Q I r h
  obtain ⟨x, n, rfl, e, q⟩ := h
  obtain ⟨u, rfl, rx⟩ := vals1 r
  have hl := line63
  have hs : sizeLine = 16777216 := sizeLine_eq
  cases x with
  | str y =>
    obtain ⟨t, rfl⟩ := rx
    obtain ⟨hy, e'⟩ : y.length ≤ sizeLine ∧ n = y.length := e
    subst e'
    exact len_str (by omega) ⟨.int _, H, I.tok _, ⟨_, rfl⟩, q⟩
  | byt y =>
    obtain ⟨t, rfl⟩ := rx
    obtain ⟨hy, e'⟩ : y.size ≤ sizeLine ∧ n = y.size := e
    subst e'
    exact PySem.W.len_bytes (by omega) ⟨.int _, H, I.tok _, ⟨_, rfl⟩, q⟩
  | ref p =>
    cases rx
    have e' : (∃ xs, SqL X.K H p xs ∧ n = xs.length) ∨ ∃ xs, SqT X.K H p xs ∧ n = xs.length := e
    rcases e' with ⟨xs, hx, e'⟩ | ⟨xs, hx, e'⟩
    · subst e'
      obtain ⟨its, r', pl, hz⟩ := I.list hx
      have hlen := r'.length
      exact Calls.call_len_list pl.isList (by simp only [List.size_toArray]; omega) ⟨.int xs.length, H, I.tok _, ⟨_, by simp only [List.size_toArray]; rw [hlen]⟩, q⟩
    · subst e'
      obtain ⟨its, r', pl, hz⟩ := I.tuple hx
      have hlen := r'.length
      exact len_tuple pl (by simp only [List.size_toArray]; omega) ⟨.int xs.length, H, I.tok _, ⟨_, by simp only [List.size_toArray]; rw [hlen]⟩, q⟩
  | _ => exact (show False from e).elim
/-- divmod: a new tuple -/
theorem call_divmod : CallR X (.builtin "divmod") (fun xs H Q => ∃ i j, xs = [.int i, .int j] ∧ CDiv i j ∧ ∀ p, H p = none → Q (.ref p) (upd H p (.tup [.int (i / j), .int (i % j)]))) := by
  intro pins s σ H xs us Q I r h
  obtain ⟨i, j, rfl, ⟨h1, h2⟩, q⟩ := h
  obtain ⟨u, w', rfl, ⟨t, rfl⟩, ⟨t', rfl⟩⟩ := vals2 r
  refine divmod_int (by omega) ?_ (.inl (PyProof.noPylong_small (by omega)))
  rw [Int.fdiv_eq_ediv_of_nonneg i (by omega), Int.fmod_eq_emod_of_nonneg i (by omega)]
  have hn : H s.heap.objs.size = none := I.hok.fresh (Nat.le_refl _)
  refine ⟨.ref s.heap.objs.size, _, ?_, rfl, q _ hn⟩
  refine I.laid (fun b o e => Heap.get?_push_of_some _ e) (Nat.le_refl _) ⟨by simp only [List.length_cons, List.length_nil]; rw [sizeLine_eq]; decide, [.int (i / j) s.toks, .int (i % j) (s.toks + 1)], .cons ⟨_, rfl⟩ (.cons ⟨_, rfl⟩ .nil), ?_⟩
  exact ⟨_, Heap.get?_push_size s.heap rfl, rfl, 0, rfl⟩
end
end L2

namespace L2
open PySem PySem.Spec PyProof.Rows

/-! ### an instance, its attributes a map -/
structure ObjM (h : Heap) (x dx C : Addr) (mA : Str → Option Value) : Prop where
  obj : h.get? x = some (PySem.W.instObj C dx)
  ns : h.Ns1 dx mA
  ne : dx ≠ x

theorem lookIn_ns {h : Heap} {dx : Addr} {mA : Str → Option Value} (n : h.Ns1 dx mA) : ∃ od, h.get? dx = some od ∧ ∀ name, PySem.W.lookIn name od = some (mA name) := by
  obtain ⟨o, es, ep, ho, hd, hk, _, hm⟩ := n
  refine ⟨o, ho, fun name => ?_⟩
  have e := hm name
  unfold nsFind findBy at e
  rw [← Array.find?_toList] at e
  unfold PySem.W.lookIn
  rw [hd]
  dsimp only
  split
  · rename_i y q
    rw [q] at e
    exact congrArg some e
  · rename_i q
    rw [q] at e
    have a : es.toList.any (·.refKey) = false := by
      rw [List.any_eq_false]
      intro y hy
      obtain ⟨z, t, hkey⟩ := hk y (Array.mem_toList_iff.mp hy)
      simp [DictEntry.refKey, hkey]
    have a' : ¬ es.toList.any (·.refKey) = true := by rw [a]; exact Bool.false_ne_true
    rw [if_neg a']
    exact congrArg some e

theorem ObjM.look {h : Heap} {x dx C : Addr} {mA : Str → Option Value} (I : ObjM h x dx C mA) : ∃ od, PySem.W.InstAt h x (PySem.W.instObj C dx) C (some od) ∧ ∀ name, PySem.W.lookIn name od = some (mA name) :=
  let ⟨od, ho, hl⟩ := lookIn_ns I.ns
  ⟨od, ⟨I.obj, rfl, rfl, ho⟩, hl⟩

section
variable {prog : Program} {w : World} {A : Around} {E : Value → Shared → Prop} {s : Shared} {K : PySem.W.Frag} {x dx C f : Addr} {mA : Str → Option Value} {name : Str} {v : Value}

theorem get_map {expr : Bool} {Q : Value → Shared → Prop} (X : K.In s.heap) (I : ObjM s.heap x dx C mA) (hg : PySem.W.plainGet K C name = true) (hh : PySem.W.hasDictIn K C = true)
    (ha : PySem.W.findIn K (.ref C) name = some none) (hv : mA name = some v) (hv' : PySem.W.handedIn v = true) (h : Q v { s with toks := s.toks + 1 }) :
    wpAny (model prog w) A (getAttr (.ref x) name expr) Q E s := by
  obtain ⟨od, J, hl⟩ := I.look
  exact PySem.W.get_value X J (PySem.W.plainGet_of hg).1 (PySem.W.findObj_own hh ha rfl (by rw [hl, hv])) hv' h

theorem get_const {expr : Bool} {a : Value} {Q : Value → Shared → Prop} (X : K.In s.heap) (I : ObjM s.heap x dx C mA) (hg : PySem.W.plainGet K C name = true) (hh : PySem.W.hasDictIn K C = true)
    (ha : PySem.W.findIn K (.ref C) name = some (some a)) (hn : PySem.W.specialIn K a "__get__" = some none) (hc : PySem.W.copiedNames.contains name = false) (hv : mA name = none) (hv' : PySem.W.handedIn a = true)
    (h : Q a { s with toks := s.toks + 1 }) : wpAny (model prog w) A (getAttr (.ref x) name expr) Q E s := by
  obtain ⟨od, J, hl⟩ := I.look
  exact PySem.W.get_value X J (PySem.W.plainGet_of hg).1 (PySem.W.findObj_cls hh ha hn hv' hc (by rw [hl, hv])) hv' h

theorem get_meth {pl : Sem Bool} {Q : Value × List Value → Shared → Prop} (X : K.In s.heap) (I : ObjM s.heap x dx C mA) (hg : PySem.W.plainGet K C name = true)
    (hf : PySem.W.findIn K (.ref C) name = some (some (.ref f))) (ht : PySem.W.isFn K (.ref f) = true) (hv : mA name = none) (h : Q (.ref f, [.ref x]) s) :
    wpAny (model prog w) A (getMethod (.ref x) name pl) Q E s := by
  obtain ⟨od, J, hl⟩ := I.look
  exact PySem.W.method_fn X J (PySem.W.plainGet_of hg).1 (PySem.W.plainGet_of hg).2 hf (beq_iff_eq.mp ht) (by show (PySem.W.lookIn name od).map (·.isSome) = some false; rw [hl, hv]; rfl) h

theorem set_map {ns : List Str} {Q : Unit → Shared → Prop} (X : K.In s.heap) (I : ObjM s.heap x dx C mA)
    (hs : PySem.W.findIn K (.ref C) "__setattr__" = some (some (.builtin "object.__setattr__"))) (hp : PySem.W.plainOver K C = true) (ht : PySem.W.takerIn K C name = some none) (hh : PySem.W.hasDictIn K C = true)
    (hw : PySem.Within mA ns) (hsz : ns.length ≤ sizeLine)
    (h : ∀ h', ObjM h' x dx C (fun y => if y = name then some v else mA y) → Heap.SameBut dx s.heap h' → Q () { s with heap := h', toks := s.toks + 2 }) :
    wpAny (model prog w) A (setAttr (.ref x) name v) Q E s := by
  obtain ⟨od, J, hl⟩ := I.look
  refine PySem.W.set_plain X J hs (PySem.W.osa_open (s := { s with toks := s.toks + 1 }) (r := none) X J hp ht fun b => ?_)
  obtain ⟨cd, hc, hd'⟩ := PySem.W.any_some hh
  have hx : s.heap.get? x = some ⟨.ref C, some dx, .plain, #[]⟩ := I.obj
  refine wpAny_bind (wpAny_pure (wpAny_bind (wpAny_bind (wpAny_loadPart hx (wpAny_bind (PySem.W.Looks.here (s := { s with toks := s.toks + 1 }) (PySem.W.looks_clsIn X hc) ?_))))))
  rw [hd']
  refine wpAny_pure (a := some dx) (wpAny_bind (wpAny_pure (wpAny_bind ?_)))
  refine wpAny_nsSet1 (s := { s with toks := s.toks + 1 }) I.ns fun h' hn2 hs2 => ?_
  obtain ⟨oD, esD, epD, hoD, hdD, hcD⟩ := hn2.count (PySem.Within.cons name v hw)
  refine wpAny_bind (wpAny_lookBehind hoD (by rw [hdD]; exact pastItsLine_dict (Nat.le_trans hcD (by rw [List.length_cons]; omega))) ?_)
  exact wpAny_pure (h _ ⟨(hs2.2 _ (Ne.symm I.ne)).trans I.obj, hn2, I.ne⟩ hs2)

/-- C(..): the dict at the heap's end, the instance behind it; then its __init__ -/
theorem make_map {R : Result → Shared → Prop} {vs : List Value} {kw : List (Str × Value)} (X : K.In s.heap) (hm : PySem.W.makesIn K C = true)
    (hi : PySem.W.findIn K (.ref C) "__init__" = some (some (.ref f))) (hf : PySem.W.typeIn K (.ref f) = some (.type "function"))
    (h : codeAny (model prog w) (A.under (.builtin "type.__call__" ⟨.ref C :: vs, kw⟩)) (.call (.ref f) ⟨.ref (s.heap.objs.size + 1) :: vs, kw⟩) (PySem.W.InitBack (s.heap.objs.size + 1) R)
      { s with heap := (s.heap.push PySem.W.emptyDict).push (PySem.W.instObj C s.heap.objs.size) }) :
    codeAny (model prog w) A (.call (.ref C) ⟨vs, kw⟩) R s := by
  obtain ⟨hh, g, d, t, os⟩ := s
  exact PySem.W.make_core (PySem.W.makes_of X hm) (PySem.W.looks_findIn X hi) (fun self => PySem.W.bind_fn X self hf) (.inl rfl) h
/-- C() where there is no __init__ but object's -/
theorem make_map0 {R : Result → Shared → Prop} (X : K.In s.heap) (hm : PySem.W.makesIn K C = true)
    (hi : PySem.W.findIn K (.ref C) "__init__" = some (some (.builtin "object.__init__")))
    (hb : ∀ self, PySem.W.Looks (model prog w) s.heap (bindSpecial (.builtin "object.__init__") self) (.builtin "object.__init__", [self]))
    (h : codeAny (model prog w) (A.under (.builtin "type.__call__" ⟨[.ref C], []⟩)) (.call (.builtin "object.__init__") ⟨[.ref (s.heap.objs.size + 1)], []⟩) (PySem.W.InitBack (s.heap.objs.size + 1) R)
      { s with heap := (s.heap.push PySem.W.emptyDict).push (PySem.W.instObj C s.heap.objs.size) }) :
    codeAny (model prog w) A (.call (.ref C) ⟨[], []⟩) R s := by
  obtain ⟨hh, g, d, t, os⟩ := s
  exact PySem.W.make_core (PySem.W.makes_of X hm) (PySem.W.looks_findIn X hi) hb (.inr ⟨rfl, rfl⟩) h
end

/-! ### the attributes as a list of pairs -/
def putF (f : Str) (v : V) : List (Str × V) → List (Str × V)
  | [] => [(f, v)]
  | (g, x) :: r => if g = f then (g, v) :: r else (g, x) :: putF f v r
theorem lookup_putF (f g : Str) (v : V) : ∀ fs : List (Str × V), (putF f v fs).lookup g = if g = f then some v else fs.lookup g
  | [] => by
    show List.lookup g [(f, v)] = _
    by_cases h : g = f
    · have hb : (g == f) = true := beq_iff_eq.mpr h
      simp only [List.lookup, hb, if_pos h]
    · have hb : (g == f) = false := beq_eq_false_iff_ne.mpr h
      simp only [List.lookup, hb, if_neg h]
  | (k, x) :: r => by
    have ih := lookup_putF f g v r
    rw [show putF f v ((k, x) :: r) = (if k = f then (k, v) :: r else (k, x) :: putF f v r) from rfl]
    by_cases hk : k = f
    · rw [if_pos hk]
      by_cases h : g = k
      · have hb : (g == k) = true := beq_iff_eq.mpr h
        simp only [List.lookup, hb, if_pos (h.trans hk)]
      · have hb : (g == k) = false := beq_eq_false_iff_ne.mpr h
        simp only [List.lookup, hb, if_neg (fun e : g = f => h (e.trans hk.symm))]
    · rw [if_neg hk]
      by_cases h : g = k
      · have hb : (g == k) = true := beq_iff_eq.mpr h
        simp only [List.lookup, hb, if_neg (fun e : g = f => hk (h.symm.trans e))]
      · have hb : (g == k) = false := beq_eq_false_iff_ne.mpr h
        simp only [List.lookup, hb]
        exact ih
theorem keys_putF (f : Str) (v : V) : ∀ fs : List (Str × V), f ∈ (putF f v fs).map (·.1) ∧ ∀ g, g ∈ fs.map (·.1) → g ∈ (putF f v fs).map (·.1)
  | [] => ⟨by simp [putF], fun g h => by simp at h⟩
  | (k, x) :: r => by
    obtain ⟨i1, i2⟩ := keys_putF f v r
    rw [show putF f v ((k, x) :: r) = (if k = f then (k, v) :: r else (k, x) :: putF f v r) from rfl]
    by_cases hk : k = f
    · rw [if_pos hk]
      subst hk
      exact ⟨by simp, fun g h => by simpa using h⟩
    · rw [if_neg hk]
      refine ⟨?_, fun g h => ?_⟩
      · rw [List.map_cons]
        exact List.mem_cons_of_mem _ i1
      · rw [List.map_cons] at h ⊢
        rcases List.mem_cons.mp h with e | e
        · exact List.mem_cons.mpr (.inl e)
        · exact List.mem_cons_of_mem _ (i2 g e)
theorem length_putF (f : Str) (v : V) : ∀ fs : List (Str × V), (putF f v fs).length ≤ fs.length + 1
  | [] => by simp [putF]
  | (k, x) :: r => by
    have ih := length_putF f v r
    rw [show putF f v ((k, x) :: r) = (if k = f then (k, v) :: r else (k, x) :: putF f v r) from rfl]
    by_cases hk : k = f
    · rw [if_pos hk, List.length_cons, List.length_cons]; omega
    · rw [if_neg hk, List.length_cons, List.length_cons]; omega

theorem RelO.some_of {v : V} {o : Option Value} (r : RelO (some v) o) : ∃ u, o = some u ∧ RelV v u := by
  cases o with
  | none => exact (show False from r).elim
  | some u => exact ⟨u, rfl, r⟩
theorem RelO.none_of {o : Option Value} (r : RelO none o) : o = none := by
  cases o with
  | none => rfl
  | some u => exact (show False from r).elim
theorem handed_of {v : V} {u : Value} (r : RelV v u) : PySem.W.handedIn u = true := by
  cases v with
  | non => cases (show u = Value.none from r); rfl
  | bl b => cases (show u = Value.bool b from r); rfl
  | int i => obtain ⟨t, e⟩ := (show ∃ t, u = Value.int i t from r); cases e; rfl
  | str x => obtain ⟨t, e⟩ := (show ∃ t, u = Value.str x t from r); cases e; rfl
  | byt b => obtain ⟨t, e⟩ := (show ∃ t, u = Value.bytes b t from r); cases e; rfl
  | flt b => obtain ⟨t, e⟩ := (show ∃ t, u = Value.float b t from r); cases e; rfl
  | ref a => cases (show u = Value.ref a from r); rfl
  | ty n => cases (show u = Value.type n from r); rfl

section
variable {P : Program} {w : World} {H H' : Hp} {h h' : Heap} {a C dx : Addr} {fs fs' : List (Str × V)}
theorem ins_get (hok : HOk P w H h) (e : H a = some (.ins C dx fs)) : ∃ mA, ObjM h a dx C mA ∧ (∀ f, RelO (fs.lookup f) (mA f)) ∧ PySem.Within mA (fs.map (·.1)) ∧ fs.length ≤ 1000 ∧ H dx = some (.own a) := by
  obtain ⟨d, z, ne, ob, mA, n, r, q⟩ := (show ObjOk P w H h a (.ins C dx fs) from hok a _ e)
  exact ⟨mA, ⟨ob, n, ne⟩, r, q, z, d⟩
end

/-! ### what of the text a class must have -/
structure Cls (K : PySem.W.Frag) (C : Addr) : Prop where
  pg : PySem.W.plainGet K C Str.empty = true
  hd : PySem.W.hasDictIn K C = true
  po : PySem.W.plainOver K C = true
  sa : PySem.W.findIn K (.ref C) "__setattr__" = some (some (.builtin "object.__setattr__"))
theorem Cls.get {K : PySem.W.Frag} {C : Addr} (c : Cls K C) (f : Str) : PySem.W.plainGet K C f = true := c.pg
/-- no class of it has the name -/
def NoAttr (K : PySem.W.Frag) (C : Addr) (f : Str) : Prop := PySem.W.findIn K (.ref C) f = some none
theorem NoAttr.taker {K : PySem.W.Frag} {C : Addr} {f : Str} (n : NoAttr K C f) : PySem.W.takerIn K C f = some none := by
  unfold PySem.W.takerIn
  rw [show PySem.W.findIn K (.ref C) f = some none from n]
  rfl
/-- a constant of the class -/
structure Con (K : PySem.W.Frag) (C : Addr) (f : Str) (v : V) (u : Value) : Prop where
  at_ : PySem.W.findIn K (.ref C) f = some (some u)
  rel : RelV v u
  get : PySem.W.specialIn K u "__get__" = some none
  cp : PySem.W.copiedNames.contains f = false
/-- a method: a plain def of the class or of one above it -/
structure Meth (K : PySem.W.Frag) (C : Addr) (m : Str) (f : Addr) : Prop where
  at_ : PySem.W.findIn K (.ref C) m = some (some (.ref f))
  fn : PySem.W.isFn K (.ref f) = true
  kp : PySem.W.keepIn K (.ref f) = true

section
variable {X : Cx} {pins : List (Addr × Obj)} {σ : St} {H : Hp} {s : Shared} {a C dx : Addr} {fs : List (Str × V)} {f : Str} {v : V} {A : Around} {E : Value → Shared → Prop}

theorem getattr_ok {b : Bool} {Q : Value → Shared → Prop} (I : Inv X pins σ H s) (e : H a = some (.ins C dx fs)) (c : Cls X.K C) (n : NoAttr X.K C f) (l : fs.lookup f = some v)
    (h : ∀ u s', Inv X pins σ H s' → RelV v u → Q u s') : wpAny (model X.prog X.w) A (getAttr (.ref a) f b) Q E s := by
  obtain ⟨mA, O, r, _, _, _⟩ := ins_get I.hok e
  obtain ⟨u, hu, ru⟩ := RelO.some_of (v := v) (o := mA f) (by rw [← l]; exact r f)
  exact get_map I.kIn O (c.get f) c.hd n hu (handed_of ru) (h u _ (I.tok _) ru)

theorem getcon_ok {b : Bool} {u : Value} {Q : Value → Shared → Prop} (I : Inv X pins σ H s) (e : H a = some (.ins C dx fs)) (c : Cls X.K C) (k : Con X.K C f v u) (l : fs.lookup f = none)
    (h : ∀ s', Inv X pins σ H s' → Q u s') : wpAny (model X.prog X.w) A (getAttr (.ref a) f b) Q E s := by
  obtain ⟨mA, O, r, _, _, _⟩ := ins_get I.hok e
  have hn : mA f = none := RelO.none_of (by rw [← l]; exact r f)
  exact get_const I.kIn O (c.get f) c.hd k.at_ k.get k.cp hn (handed_of k.rel) (h _ (I.tok _))

theorem getmeth_ok {m : Str} {g : Addr} {pl : Sem Bool} {Q : Value × List Value → Shared → Prop} (I : Inv X pins σ H s) (e : H a = some (.ins C dx fs)) (c : Cls X.K C) (k : Meth X.K C m g) (l : fs.lookup m = none)
    (h : Q (.ref g, [.ref a]) s) : wpAny (model X.prog X.w) A (getMethod (.ref a) m pl) Q E s := by
  obtain ⟨mA, O, r, _, _, _⟩ := ins_get I.hok e
  have hn : mA m = none := RelO.none_of (by rw [← l]; exact r m)
  exact get_meth I.kIn O (c.get m) k.at_ k.fn hn h

theorem setattr_ok {y : V} {u : Value} {Q : Unit → Shared → Prop} (I : Inv X pins σ H s) (e : H a = some (.ins C dx fs)) (c : Cls X.K C) (n : NoAttr X.K C f) (hl : fs.length < 1000) (ry : RelV y u)
    (h : ∀ s', Inv X pins σ (upd H a (.ins C dx (putF f y fs))) s' → Q () s') : wpAny (model X.prog X.w) A (setAttr (.ref a) f u) Q E s := by
  obtain ⟨mA, O, r, wi, _, ho⟩ := ins_get I.hok e
  have hz : (fs.map (·.1)).length ≤ sizeLine := by rw [List.length_map, sizeLine_eq]; omega
  refine set_map I.kIn O c.sa c.po n.taker c.hd wi hz fun h' O' sb => h _ ?_
  have hd : ∃ o, h'.get? dx = some o := let ⟨o, _, _, e', _⟩ := O'.ns; ⟨o, e'⟩
  refine I.write (x := a) (e := dx) (by rw [e]; exact True.intro) (.inr ho) (fun b q hb z => (sb.2 b hb).trans z) hd ?_
  refine ⟨by rw [upd_ne O.ne]; exact ho, ?_, O.ne, O'.obj, _, O'.ns, fun g => ?_, fun g hg => ?_⟩
  · have := length_putF f y fs; omega
  · show RelO ((putF f y fs).lookup g) (if g = f then some u else mA g)
    rw [lookup_putF]
    by_cases q : g = f
    · rw [if_pos q, if_pos q]; exact ry
    · rw [if_neg q, if_neg q]; exact r g
  · by_cases q : g = f
    · rw [q]; exact (keys_putF f y fs).1
    · refine (keys_putF f y fs).2 g (wi g fun z => hg ?_)
      show (if g = f then some u else mA g) = none
      rw [if_neg q]; exact z

/-- a new instance, tracked, without attributes -/
theorem Inv.made (I : Inv X pins σ H s) : Inv X pins σ (upd (upd H s.heap.objs.size (.own (s.heap.objs.size + 1))) (s.heap.objs.size + 1) (.ins C s.heap.objs.size []))
    { s with heap := (s.heap.push PySem.W.emptyDict).push (PySem.W.instObj C s.heap.objs.size) } := by
  have e1 : (s.heap.push PySem.W.emptyDict).get? s.heap.objs.size = some PySem.W.emptyDict := Heap.get?_push_size s.heap rfl
  have e2 : ((s.heap.push PySem.W.emptyDict).push (PySem.W.instObj C s.heap.objs.size)).get? (s.heap.objs.size + 1) = some (PySem.W.instObj C s.heap.objs.size) := by
    have := Heap.get?_push_size (s.heap.push PySem.W.emptyDict) (o := PySem.W.instObj C s.heap.objs.size) rfl
    rwa [Heap.size_push] at this
  have e3 : (s.heap.push PySem.W.emptyDict).Ns s.heap.objs.size (fun _ => none) := ⟨PySem.W.emptyDict, #[], _, e1, rfl, (fun e he => absurd he (by simp)), fun _ => rfl⟩
  have I1 := I.laid (a := s.heap.objs.size) (o := .own (s.heap.objs.size + 1)) (h' := s.heap.push PySem.W.emptyDict) (t' := s.toks) (fun b u q => Heap.get?_push_of_some _ q) (Nat.le_refl _) ⟨_, e1⟩
  refine I1.laid (a := s.heap.objs.size + 1) (o := .ins C s.heap.objs.size []) (t' := s.toks) (fun b u q => Heap.get?_push_of_some _ q) (Nat.le_of_eq (Heap.size_push _ _)) ?_
  have ne : s.heap.objs.size ≠ s.heap.objs.size + 1 := Nat.ne_of_lt (Nat.lt_succ_self _)
  refine ⟨by rw [upd_ne ne, upd_same], Nat.zero_le _, ne, e2, fun _ => none, (Heap.Ns1.of_empty e3).at fun o q => Heap.get?_push_of_some _ q, fun _ => True.intro, fun y hy => absurd rfl hy⟩

/-- e.f where nothing but the object is asked: through attributeBase (super) and the last hold -/
theorem attr_of {prog : Program} {w : World} {env : Env} {e : Expr} {f : Str} {pos : Pos} {s : Shared} {Q : Value → Shared → Prop} (hb : attributeBase e f env (eval e env) = eval e env)
    (h : wpAny (model prog w) A (eval e env) (fun o s₁ => wpAny (model prog w) A (getAttr o f true) Q E s₁) E s) : wpAny (model prog w) A (eval (.Attribute e f pos) env) Q E s :=
  Attribute_any_ h (by rw [arm_eval_Attribute, hb])
end

/-! ### readings and rules -/
/-- e.f, an attribute of the instance -/
def tFld (K : PySem.W.Frag) (ta : TE) (f : Str) : TE := fun σ H Q => ta σ H fun x H1 => ∃ a C dx fs v, x = .ref a ∧ H1 a = some (.ins C dx fs) ∧ Cls K C ∧ NoAttr K C f ∧ fs.lookup f = some v ∧ Q v H1
/-- e.f, a constant of the class -/
def tCon (K : PySem.W.Frag) (ta : TE) (f : Str) : TE := fun σ H Q => ta σ H fun x H1 => ∃ a C dx fs v u, x = .ref a ∧ H1 a = some (.ins C dx fs) ∧ Cls K C ∧ Con K C f v u ∧ fs.lookup f = none ∧ Q v H1
/-- e.f = value -/
def sFld (K : PySem.W.Frag) (ta tv : TE) (f : Str) : TS := fun D σ H => tv σ H fun y H1 => ta σ H1 fun x H2 => ∃ a C dx fs, x = .ref a ∧ H2 a = some (.ins C dx fs) ∧ Cls K C ∧ NoAttr K C f ∧ fs.length < 1000 ∧
  D.nx σ (upd H2 a (.ins C dx (putF f y fs)))
/-- an augmented operator on two values -/
def InOp (X : Cx) (op : Operator) (rd : V → V → Hp → VK → Prop) : Prop :=
  ∀ (pins : List (Addr × Obj)) (s : Shared) (σ : St) (H : Hp) (x y : V) (u v : Value) (Q : VK), Inv X pins σ H s → RelV x u → RelV y v → rd x y H Q → wpAny (model X.prog X.w) X.A (inplaceOp op u v) (EP X pins σ Q) X.xe s
/-- e.f op= value -/
def sFldAug (K : PySem.W.Frag) (ta tv : TE) (rd : V → V → Hp → VK → Prop) (f : Str) : TS := fun D σ H => ta σ H fun x H1 => ∃ a C dx fs v, x = .ref a ∧ H1 a = some (.ins C dx fs) ∧ Cls K C ∧ NoAttr K C f ∧ fs.lookup f = some v ∧
  tv σ H1 fun y H2 => rd v y H2 fun z H3 => ∃ dx' fs', H3 a = some (.ins C dx' fs') ∧ fs'.length < 1000 ∧ D.nx σ (upd H3 a (.ins C dx' (putF f z fs')))

section
variable {X : Cx} {o e value : Expr} {f : Str} {pos pos' tpos : Pos} {ta tv : TE}
theorem pe_fld (he : PE X e ta) (hb : attributeBase e f X.env (eval e X.env) = eval e X.env) : PE X (.Attribute e f pos) (tFld X.K ta f) := by
  intro pins s σ H Q I h
  refine attr_of hb (thn (he pins s σ H _ I h) fun u s1 ⟨x, H1, I1, rx, a, C, dx, fs, v, ex, ea, c, n, l, q⟩ => ?_)
  subst ex
  obtain rfl : u = Value.ref a := rx
  exact getattr_ok I1 ea c n l fun u' s2 I2 ru => ⟨v, H1, I2, ru, q⟩
theorem pe_con (he : PE X e ta) (hb : attributeBase e f X.env (eval e X.env) = eval e X.env) : PE X (.Attribute e f pos) (tCon X.K ta f) := by
  intro pins s σ H Q I h
  refine attr_of hb (thn (he pins s σ H _ I h) fun u s1 ⟨x, H1, I1, rx, a, C, dx, fs, v, u0, ex, ea, c, k, l, q⟩ => ?_)
  subst ex
  obtain rfl : u = Value.ref a := rx
  exact getcon_ok I1 ea c k l fun s2 I2 => ⟨v, H1, I2, k.rel, q⟩
theorem ps_fld (ha : PE X o ta) (hv : PE X value tv) (hs : swapsWith value (some (.Attribute o f pos')) pos.line X.env = pure false) : PS X (.Assign [.Attribute o f pos'] value pos) (sFld X.K ta tv f) := by
  intro pins s σ H D I h
  refine plainObj_wpAny_Assign_Attribute (thn (hv pins s σ H _ I h) fun u s1 ⟨y, H1, I1, ry, q⟩ => thn (ha pins s1 σ H1 _ I1 q) fun ov s2 ⟨x, H2, I2, rx, a, C, dx, fs, ex, ea, c, n, l, q2⟩ => ?_) hs
  subst ex
  obtain rfl : ov = Value.ref a := rx
  exact setattr_ok I2 ea c n l ry fun s3 I3 => ⟨σ, _, I3, q2⟩
theorem ps_fldaug {op : Operator} {rd : V → V → Hp → VK → Prop} (ha : PE X o ta) (hv : PE X value tv) (hop : InOp X op rd) : PS X (.AugAssign (.Attribute o f tpos) op value pos) (sFldAug X.K ta tv rd f) := by
  intro pins s σ H D I h
  refine wpAny_AugAssign_AttributeAny (thn (ha pins s σ H _ I h) fun ov s1 ⟨x, H1, I1, rx, a, C, dx, fs, v, ex, ea, c, n, l, q⟩ => ?_)
  subst ex
  obtain rfl : ov = Value.ref a := rx
  refine getattr_ok I1 ea c n l fun u s2 I2 ru => thn (hv pins s2 σ H1 _ I2 q) fun w3 s3 ⟨y, H2, I3, ry, q3⟩ => thn (hop pins s3 σ H2 v y u w3 _ I3 ru ry q3) fun w4 s4 ⟨z, H3, I4, rz, dx', fs', ea', l', q4⟩ => ?_
  exact setattr_ok I4 ea' c n l' rz fun s5 I5 => ⟨σ, _, I5, q4⟩
def rAdd : V → V → Hp → VK → Prop := fun x y H Q => ∃ i j, x = .int i ∧ y = .int j ∧ Q (.int (i + j)) H
def rSub : V → V → Hp → VK → Prop := fun x y H Q => ∃ i j, x = .int i ∧ y = .int j ∧ Q (.int (i - j)) H
theorem in_add : InOp X .Add rAdd := by
  rintro pins s σ H x y u v Q I rx ry ⟨i, j, rfl, rfl, q⟩
  obtain ⟨t, rfl⟩ := (show ∃ t, u = Value.int i t from rx)
  obtain ⟨t', rfl⟩ := (show ∃ t', v = Value.int j t' from ry)
  exact PyProof.Rows.iadd_int ⟨.int (i + j), H, I.tok _, ⟨_, rfl⟩, q⟩
theorem in_sub : InOp X .Sub rSub := by
  rintro pins s σ H x y u v Q I rx ry ⟨i, j, rfl, rfl, q⟩
  obtain ⟨t, rfl⟩ := (show ∃ t, u = Value.int i t from rx)
  obtain ⟨t', rfl⟩ := (show ∃ t', v = Value.int j t' from ry)
  exact PyProof.Rows.isub_int ⟨.int (i - j), H, I.tok _, ⟨_, rfl⟩, q⟩

/-- what is between an instance and its method: the tree of a method call -/
theorem methcall_of {pl : Sem Bool} {m : Str} {apos : Pos} {args : List Expr} {pins : List (Addr × Obj)} {s : Shared} {σ : St} {H : Hp} {Q : Value → Shared → Prop} {te : TE} (he : PE X e te) (I : Inv X pins σ H s)
    (h : te σ H fun x H1 => ∃ a C dx fs g, x = .ref a ∧ H1 a = some (.ins C dx fs) ∧ Cls X.K C ∧ Meth X.K C m g ∧ fs.lookup m = none ∧
      ∀ s1, Inv X pins σ H1 s1 → wpAny (model X.prog X.w) X.A (callWith pos (.ref g) [.ref a] (backTo pos (starEach args X.env)) (backToKw pos (keywordEach [] X.env))) Q X.xe s1)
    (ht : eval (.Call (.Attribute e m apos) args [] pos) X.env = (do
      let ov ← eval e X.env
      standAt apos.atName
      let (f, first) ← holding [ov] (getMethod ov m pl)
      callWith pos f first (backTo pos (starEach args X.env)) (backToKw pos (keywordEach [] X.env)))) :
    wpAny (model X.prog X.w) X.A (eval (.Call (.Attribute e m apos) args [] pos) X.env) Q X.xe s := by
  refine PySem.W.methodCall_KW (pl := pl) (thn (he pins s σ H _ I h) fun u s1 ⟨x, H1, I1, rx, a, C, dx, fs, g, ex, ea, c, k, l, q⟩ => ?_) ht
  subst ex
  obtain rfl : u = Value.ref a := rx
  exact getmeth_ok I1 ea c k l (q s1 I1)
end

/-! ### isinstance -/
section
variable {X : Cx} {pins : List (Addr × Obj)} {σ : St} {H : Hp} {s : Shared} {A : Around} {E : Value → Shared → Prop} {Q : Value → Shared → Prop} {c : Value} {b : Bool}
/-- the type of a value, as the fragment's deciders take it; for an instance its class -/
inductive TyOf (K : PySem.W.Frag) (H : Hp) : V → Value → Prop where
  | non : TyOf K H .non (.type "NoneType")
  | bl (x : Bool) : TyOf K H (.bl x) (.type "bool")
  | int (i : Int) : TyOf K H (.int i) (.type "int")
  | str (x : Str) : TyOf K H (.str x) (.type "str")
  | flt (x : UInt64) : TyOf K H (.flt x) (.type "float")
  | lst {a : Addr} {xs : List V} (e : H a = some (.lst xs)) : TyOf K H (.ref a) (.type "list")
  | frz {a : Addr} {o : Obj} {xs : List V} (e : H a = some (.frz o (.lst xs))) : TyOf K H (.ref a) (.type "list")
  | tup {a : Addr} {xs : List V} (e : H a = some (.tup xs)) : TyOf K H (.ref a) (.type "tuple")
  | dK {a : Addr} {kvs : List (Key × V)} (e : H a = some (.dK kvs)) : TyOf K H (.ref a) (.type "dict")
  | dT {a : Addr} {kvs : List (List Key × V)} (e : H a = some (.dT kvs)) : TyOf K H (.ref a) (.type "dict")
  | ins {a C dx : Addr} {fs : List (Str × V)} (e : H a = some (.ins C dx fs)) (cl : Cls K C) (ha : PySem.W.findIn K (.ref C) "__class__" = some (some (.builtin "object.__class__")))
      (hn : PySem.W.specialIn K (.builtin "object.__class__") "__get__" = some (some (.builtin "getset_descriptor.__get__"))) (htk : PySem.W.takesIn K (.builtin "object.__class__") = some true)
      (hm : PySem.W.mroIn K C (.type "object") = some true) : TyOf K H (.ref a) (.ref C)
/-- isinstance(x, c) for one class c, a built-in or an own one: kitOne's answer -/
theorem isinst_ok {x : V} {u t : Value} (I : Inv X pins σ H s) (rx : RelV x u) (ty : TyOf X.K H x t) (e : PySem.W.kitOne X.K t c = some b) (h : ∀ tk, Q (.bool b) { s with toks := tk }) :
    wpAny (model X.prog X.w) A (call (.builtin "isinstance") [u, c]) Q E s := by
  cases ty with
  | non => cases (show u = Value.none from rx); exact PySem.W.kia_one PySem.W.kitx_none I.kIn True.intro e (fun z => nomatch z) h
  | bl y => cases (show u = Value.bool y from rx); exact PySem.W.kia_one PySem.W.kitx_bool I.kIn True.intro e (fun z => nomatch z) h
  | int i => obtain ⟨t, q⟩ := (show ∃ t, u = Value.int i t from rx); cases q; exact PySem.W.kia_one PySem.W.kitx_int I.kIn True.intro e (fun z => nomatch z) h
  | str y => obtain ⟨t, q⟩ := (show ∃ t, u = Value.str y t from rx); cases q; exact PySem.W.kia_one PySem.W.kitx_str I.kIn True.intro e (fun z => nomatch z) h
  | flt y => obtain ⟨t, q⟩ := (show ∃ t, u = Value.float y t from rx); cases q; exact PySem.W.kia_one PySem.W.kitx_float I.kIn True.intro e (fun z => nomatch z) h
  | @lst a xs ea =>
    cases (show u = Value.ref a from rx)
    obtain ⟨_, _, n, _, h1⟩ := (show ObjOk X.prog X.w H s.heap a (.lst xs) from I.hok a _ ea)
    exact PySem.W.kia_one PySem.W.kitx_list I.kIn ⟨_, h1, rfl⟩ e (fun z => nomatch z) h
  | @frz a ob xs ea =>
    cases (show u = Value.ref a from rx)
    obtain ⟨_, _, _, n, _, h1⟩ := (show ObjOk X.prog X.w H s.heap a (.frz ob (.lst xs)) from I.hok a _ ea)
    exact PySem.W.kia_one PySem.W.kitx_list I.kIn ⟨_, h1, rfl⟩ e (fun z => nomatch z) h
  | @tup a xs ea =>
    cases (show u = Value.ref a from rx)
    obtain ⟨_, _, _, p⟩ := (show ObjOk X.prog X.w H s.heap a (.tup xs) from I.hok a _ ea)
    obtain ⟨o, h1, h2, _⟩ := p
    exact PySem.W.kia_one PySem.W.kitx_tuple I.kIn ⟨o, h1, h2⟩ e (fun z => nomatch z) h
  | @dK a kvs ea =>
    cases (show u = Value.ref a from rx)
    obtain ⟨_, _, vs, _, p⟩ := (show ObjOk X.prog X.w H s.heap a (.dK kvs) from I.hok a _ ea)
    obtain ⟨o, es, ep, h1, h2, _⟩ := p
    exact PySem.W.kia_one PySem.W.kitx_dict I.kIn ⟨o, h1, h2.1⟩ e (fun z => nomatch z) h
  | @dT a kvs ea =>
    cases (show u = Value.ref a from rx)
    obtain ⟨_, _, xs, _, o, es, ep, h1, h2, _⟩ := (show ObjOk X.prog X.w H s.heap a (.dT kvs) from I.hok a _ ea)
    exact PySem.W.kia_one PySem.W.kitx_dict I.kIn ⟨o, h1, h2.1⟩ e (fun z => nomatch z) h
  | @ins a C dx fs ea cl ha hn htk hm =>
    cases (show u = Value.ref a from rx)
    obtain ⟨mA, O, _⟩ := ins_get I.hok ea
    obtain ⟨od, J, _⟩ := O.look
    exact PySem.W.kia_one (PySem.W.kitx_own (cl.get _) cl.hd ha hn htk hm) I.kIn J e (fun z => nomatch z) h
end
end L2

namespace L2
open PySem PySem.Spec PyProof.Rows

/-! ### room -/
structure Room (k : Nat) (A : Around) : Prop where
  hd : A.handled = none
  dp : A.depth + 3 * k + 5 < recursionLimit
  un : A.units + 16 * k + 200 < cLine
  gd : A.guards = some []
theorem Room.mono {j k : Nat} {A : Around} (r : Room k A) (h : j ≤ k) : Room j A := ⟨r.hd, by have := r.dp; omega, by have := r.un; omega, r.gd⟩
theorem Room.deeper {k : Nat} {A : Around} (r : Room (k + 1) A) (env : Env) : Room k (A.deeper env) :=
  ⟨r.hd, by have := r.dp; show A.depth + 1 + 3 * k + 5 < _; omega, by have := r.un; show A.units + 3 + 16 * k + 200 < _; omega, r.gd⟩
theorem Room.in1 {k : Nat} {A : Around} (r : Room (k + 1) A) : Room k A.in1 :=
  ⟨r.hd, by have := r.dp; show A.depth + 3 * k + 5 < _; omega, by have := r.un; show A.units + 1 + 16 * k + 200 < _; omega, r.gd⟩
theorem make_depth {A : Around} {C : Addr} {us : List Value} {kw : List (Str × Value)} : (A.under (.builtin "type.__call__" ⟨.ref C :: us, kw⟩)).depth = A.depth + 1 := by
  first | rfl | simp [Around.under, Code.weight, Code.isCreation, Code.isGuard, Code.isCaller, Code.frames, Code.isFrame, guardIds]
theorem make_units {A : Around} {C : Addr} {us : List Value} {kw : List (Str × Value)} : (A.under (.builtin "type.__call__" ⟨.ref C :: us, kw⟩)).units = A.units + 1 := by
  first | rfl | simp [Around.under, Code.cUnits, Code.frames, Code.isFrame]
theorem Room.make {k : Nat} {A : Around} (r : Room (k + 1) A) (C : Addr) (us : List Value) (kw : List (Str × Value)) : Room k (A.under (.builtin "type.__call__" ⟨.ref C :: us, kw⟩)) :=
  ⟨r.hd, by have := r.dp; rw [make_depth]; omega, by have := r.un; rw [make_units]; omega, by first | exact r.gd | (simpa [Around.under, Code.guards, Code.isGuard, guardIds, pushGuards] using r.gd)⟩
theorem Room.depth {k : Nat} {A : Around} (r : Room k A) : A.depth < recursionLimit := by have := r.dp; omega
theorem Room.units {k : Nat} {A : Around} (r : Room k A) : A.units + 64 < cLine := by have := r.un; omega
theorem Room.units0 {k : Nat} {A : Around} (r : Room k A) : A.units < cLine := by have := r.un; omega

/-! ### argument lists and displays -/
def tNil : TA := fun _ H Q => Q [] H
def tCons (ta : TE) (tr : TA) : TA := fun σ H Q => ta σ H fun x H1 => tr σ H1 fun xs H2 => Q (x :: xs) H2
section
variable {X : Cx} {e : Expr} {es : List Expr} {te : TE} {t : TA} {pos : Pos}
theorem pa_nil : PA X [] tNil := fun _ _ _ _ H Q I h => Calls.spliced_nil ⟨[], H, I, .nil, h⟩
theorem pa_cons (ha : PE X e te) (hr : PA X es t) (hs : starEach (e :: es) X.env = (false, eval e X.env) :: starEach es X.env := by rfl) : PA X (e :: es) (tCons te t) := by
  intro pos pins s σ H Q I h
  rw [hs]
  show wpAny _ _ (spliced ((false, eval e X.env) :: backTo pos (starEach es X.env))) _ _ s
  refine Calls.spliced_cons (thn (ha pins s σ H _ I h) fun u s1 ⟨x, H1, I1, r1, q1⟩ => ?_)
  exact thn (hr pos pins s1 σ H1 _ I1 q1) fun us s2 ⟨xs, H2, I2, r2, q2⟩ => ⟨x :: xs, H2, I2, .cons r1 r2, q2⟩

/-- a tuple, a list of written items -/
def tTup (t : TA) : TE := fun σ H Q => t σ H fun xs H1 => xs.length ≤ sizeLine ∧ ∀ p, H1 p = none → Q (.ref p) (upd H1 p (.tup xs))
def tLst (t : TA) : TE := fun σ H Q => t σ H fun xs H1 => xs.length ≤ sizeLine ∧ ∀ p, H1 p = none → Q (.ref p) (upd H1 p (.lst xs))
theorem pe_tup {x1} (h : PA X es t) : PE X (.Tuple es x1 pos) (tTup t) := by
  intro pins s σ H Q I hq
  refine wpAny_Tuple_spliced (thn (h pos pins s σ H _ I hq) fun us s1 ⟨xs, H1, I1, r, z, q⟩ => ⟨by rw [← r.length]; exact z, ?_⟩)
  have hf : H1 s1.heap.objs.size = none := I1.hok.fresh (Nat.le_refl _)
  refine ⟨.ref s1.heap.objs.size, upd H1 s1.heap.objs.size (.tup xs), I1.laid (t' := s1.toks) (fun b u e => Heap.get?_push_of_some _ e) (Nat.le_refl _) ?_, rfl, q _ hf⟩
  exact ⟨z, us, r, ⟨_, Heap.get?_push_size _ rfl, rfl, _, rfl⟩⟩
theorem pe_lst (h : PA X es t) : PE X (.List es pos) (tLst t) := by
  intro pins s σ H Q I hq
  refine wpAny_List_spliced (thn (h pos pins s σ H _ I hq) fun us s1 ⟨xs, H1, I1, r, z, q⟩ => ⟨by rw [← r.length]; exact z, ?_⟩)
  have hf : H1 s1.heap.objs.size = none := I1.hok.fresh (Nat.le_refl _)
  refine ⟨.ref s1.heap.objs.size, upd H1 s1.heap.objs.size (.lst xs), I1.laid (t' := s1.toks) (fun b u e => Heap.get?_push_of_some _ e) (Nat.le_refl _) ?_, rfl, q _ hf⟩
  exact ⟨z, us, 0, r, Heap.get?_push_size _ rfl⟩
end

/-! ### what a def promises -/
/-- a def's promise: the bound arguments in the parameters' order, the heap, the wanted end, the wanted exception -/
abbrev Sp := List V → Hp → VK → XK → Prop
/-- how an exception lies behind a call (file 08 gives it): the callers' frames, abstract heap and state ahead of the call, the wish, the exception, the state -/
abbrev CXT := List Env → Hp → Shared → XK → Value → Shared → Prop

/-- the state at a call -/
structure Env0 (P : Program) (w : World) (K : PySem.W.Frag) (mg : Str → Option Value) (base : Heap) (A : Around) (outer : List Env) (s : Shared) (H : Hp) : Prop where
  frames : A.frames = some outer
  mod : Mod K mg base
  bs : ∀ b o, base.get? b = some o → s.heap.get? b = some o ∧ H b = none
  bsz : base.objs.size ≤ s.heap.objs.size
  funs : s.heap.FunFrames base outer
  frf : ∀ b ∈ frs outer, H b = none
  hok : HOk P w H s.heap
  bare : AllBare s.gens
/-- a call's end -/
def CE (outer : List Env) (P : Program) (w : World) (H : Hp) (s : Shared) (Q : VK) (u : Value) (s' : Shared) : Prop :=
  ∃ v H', s'.os = s.os ∧ AllBare s'.gens ∧ Un (frs outer) [] H H' s.heap s'.heap ∧ HOk P w H' s'.heap ∧ RelV v u ∧ Q v H'
def CR (CX : CXT) (outer : List Env) (P : Program) (w : World) (H : Hp) (s : Shared) (Q : VK) (E : XK) (r : Result) (s' : Shared) : Prop :=
  match r with
  | .ok (.ret u) => CE outer P w H s Q u s'
  | .ok _ => False
  | .error e => CX outer H s E e s'
structure FnOk (P : Program) (w : World) (K : PySem.W.Frag) (mg : Str → Option Value) (base : Heap) (CX : CXT) (k : Nat) (f : Addr) (fd : FuncData) (ps : List Str) (sp : Sp) : Prop where
  len : ∀ vs H Q E, sp vs H Q E → vs.length = ps.length
  run : ∀ (A : Around) (outer : List Env) (s : Shared) (H : Hp) (args : Args) (us : List Value) (vs : List V) (Q : VK) (E : XK), Room k A → Env0 P w K mg base A outer s H → BindsTo s fd args (ps.zip us) → Vals vs us → sp vs H Q E →
    codeAny (model P w) A (.call (.ref f) args) (CR CX outer P w H s Q E) s
theorem FnOk.mono {P : Program} {w : World} {K : PySem.W.Frag} {mg : Str → Option Value} {base : Heap} {CX : CXT} {j k : Nat} {f : Addr} {fd : FuncData} {ps : List Str} {sp : Sp} (F : FnOk P w K mg base CX j f fd ps sp) (h : j ≤ k) :
    FnOk P w K mg base CX k f fd ps sp := ⟨F.len, fun A outer s H args us vs Q E hr => F.run A outer s H args us vs Q E (hr.mono h)⟩
/-- a weaker promise -/
theorem FnOk.imp {P : Program} {w : World} {K : PySem.W.Frag} {mg : Str → Option Value} {base : Heap} {CX : CXT} {k : Nat} {f : Addr} {fd : FuncData} {ps : List Str} {sp sp' : Sp} (F : FnOk P w K mg base CX k f fd ps sp)
    (h : ∀ vs H Q E, sp' vs H Q E → sp vs H Q E) : FnOk P w K mg base CX k f fd ps sp' :=
  ⟨fun vs H Q E q => F.len vs H Q E (h _ _ _ _ q), fun A outer s H args us vs Q E hr he hb hv hs => F.run A outer s H args us vs Q E hr he hb hv (h _ _ _ _ hs)⟩

theorem Env0.make {P : Program} {w : World} {K : PySem.W.Frag} {mg : Str → Option Value} {base : Heap} {A : Around} {outer : List Env} {s : Shared} {H : Hp} (e : Env0 P w K mg base A outer s H) (C : Addr) (us : List Value) (kw : List (Str × Value)) :
    Env0 P w K mg base (A.under (.builtin "type.__call__" ⟨.ref C :: us, kw⟩)) outer s H := ⟨by first | exact e.frames | (simpa [Around.under, Code.envs, Code.isFrame, pushEnvs] using e.frames), e.mod, e.bs, e.bsz, e.funs, e.frf, e.hok, e.bare⟩
theorem Env0.in1 {P : Program} {w : World} {K : PySem.W.Frag} {mg : Str → Option Value} {base : Heap} {A : Around} {outer : List Env} {s : Shared} {H : Hp} (e : Env0 P w K mg base A outer s H) :
    Env0 P w K mg base A.in1 outer s H := ⟨e.frames, e.mod, e.bs, e.bsz, e.funs, e.frf, e.hok, e.bare⟩

section
variable {X : Cx} {pins : List (Addr × Obj)} {σ : St} {H : Hp} {s s' : Shared}
/-- from a body: what a callee wants -/
theorem Inv.env0 (I : Inv X pins σ H s) : Env0 X.prog X.w X.K X.mg X.base X.A X.stack s H :=
  ⟨I.ok.frames, I.ok.mod, I.bs, Nat.le_trans I.ok.bsz I.sz, I.stack, I.stkFree, I.hok, I.bare⟩
/-- behind a call -/
theorem Inv.after {Q : VK} {u : Value} (I : Inv X pins σ H s) (h : CE X.stack X.prog X.w H s Q u s') : EP X pins σ Q u s' := by
  obtain ⟨v, H', os, bare, un, hok, r, q⟩ := h
  obtain ⟨hh, g, d, t, os'⟩ := s'
  obtain rfl : os' = s.os := os
  exact ⟨v, H', I.call (h' := hh) (g' := g) (d' := d) (t' := t) (ch := []) un hok bare (fun b z => absurd z (by simp)), r, q⟩
end

/-! ### calls -/
/-- f(..): the written arguments, then the defaults dvs; E: what is wanted of an exception -/
def tCall (sp : Sp) (dvs : List V) (E : XK) (t : TA) : TE := fun σ H Q => t σ H fun vs H1 => sp (vs ++ dvs) H1 Q E
/-- o.m(..) of an instance of the class at C -/
def tMeth (C : Addr) (m : Str) (sp : Sp) (dvs : List V) (E : XK) (ta : TE) (t : TA) : TE := fun σ H Q => ta σ H fun x H1 => ∃ a dx fs, x = .ref a ∧ H1 a = some (.ins C dx fs) ∧ fs.lookup m = none ∧
  t σ H1 fun vs H2 => sp (x :: (vs ++ dvs)) H2 Q E
/-- C(..): a new instance and its dict, then __init__ -/
def tMake (C : Addr) (sp : Sp) (dvs : List V) (E : XK) (t : TA) : TE := fun σ H Q => t σ H fun vs H1 => ∀ x dx, H1 x = none → H1 dx = none → dx ≠ x →
  sp (.ref x :: (vs ++ dvs)) (upd (upd H1 dx (.own x)) x (.ins C dx [])) (fun v H2 => v = .non ∧ Q (.ref x) H2) E

/-- how the parameters are bound: us the positional arguments, kw the keywords' values by name, ds the defaults that fill up -/
def Binds (K : PySem.W.Frag) (fd : FuncData) (ps : List Str) (ds : List Value) : Prop :=
  ∀ (s : Shared) (us : List Value), K.In s.heap → (us ++ ds).length = ps.length → BindsTo s fd ⟨us, []⟩ (ps.zip (us ++ ds))
/-- every parameter is given -/
theorem Binds.all {K : PySem.W.Frag} {fd : FuncData} {ps : List Str} (h : ∀ us : List Value, us.length = ps.length → bindArgs fd ⟨us, []⟩ = pure (ps.zip us)) : Binds K fd ps [] := fun s us _ hl => by
  rw [List.append_nil] at hl ⊢
  exact .of_eq (h us hl)

/-- an exception of a callee reaches what this body wants of exceptions -/
def Passes (CX : CXT) (X : Cx) (E : XK) : Prop := ∀ (pins : List (Addr × Obj)) (σ : St) (H : Hp) (s : Shared) (e : Value) (s' : Shared), Inv X pins σ H s → CX X.stack H s E e s' → X.xe e s'

section
variable {X : Cx} {CX : CXT} {k : Nat} {f C : Addr} {fd : FuncData} {ps : List Str} {sp : Sp} {dvs : List V} {ds : List Value} {E : XK} {x m : Str} {p pos apos : Pos} {e o : Expr} {es : List Expr} {ta : TE} {t : TA}

/-- the callee runs -/
theorem run_fn {pins : List (Addr × Obj)} {σ : St} {H : Hp} {s : Shared} {Q : VK} {us : List Value} {vs : List V} (F : FnOk X.prog X.w X.K X.mg X.base CX k f fd ps sp) (hr : Room k X.A) (hb : Binds X.K fd ps ds) (hd : Vals dvs ds) (hx : Passes CX X E)
    (I : Inv X pins σ H s) (r : Vals vs us) (h : sp (vs ++ dvs) H Q E) : wpAny (model X.prog X.w) X.A (call (.ref f) us) (EP X pins σ Q) X.xe s := by
  have r2 : Vals (vs ++ dvs) (us ++ ds) := r.append hd
  have hl : (us ++ ds).length = ps.length := by rw [← r2.length]; exact F.len _ _ _ _ h
  refine wpAny_call (codeAny_mono (F.run X.A X.stack s H ⟨us, []⟩ (us ++ ds) (vs ++ dvs) Q E hr I.env0 (hb s us I.kIn hl) r2 h) fun r s' hq => ?_)
  cases r with
  | error e => exact hx pins σ H s e s' I hq
  | ok fl =>
    cases fl with
    | ret u => exact I.after hq
    | next => exact False.elim hq
    | brk => exact False.elim hq
    | cont => exact False.elim hq

theorem pe_call (F : FnOk X.prog X.w X.K X.mg X.base CX k f fd ps sp) (hr : Room k X.A) (hg : Gl X x) (hm : X.mg x = some (.ref f)) (hk : PySem.W.keepIn X.K (.ref f) = true) (hb : Binds X.K fd ps ds) (hd : Vals dvs ds) (hx : Passes CX X E)
    (ha : PA X (e :: es) t) (hdb : (x == ("__debug__" : Str)) = false := by decide) (he : starEach (e :: es) X.env = (false, eval e X.env) :: starEach es X.env := by rfl) (hpl : (backTo pos (starEach es X.env)).any (·.1) = false := by rfl) :
    PE X (.Call (.Name x p) (e :: es) [] pos) (tCall sp dvs E t) := by
  intro pins s σ H Q I h
  refine wpAny_Call_Name_kw (ld_glob I hg hm ?_ hdb)
  refine PySem.W.callWith_K (h₀ := X.base) I.ok.mod.kin hk (thn (ha pos pins s σ H _ I h) fun us s1 ⟨vs, H1, I1, r, q⟩ => ⟨I1.kIn, ?_⟩) he hpl
  exact run_fn F hr hb hd hx I1 r q
theorem pe_call0 (F : FnOk X.prog X.w X.K X.mg X.base CX k f fd ps sp) (hr : Room k X.A) (hg : Gl X x) (hm : X.mg x = some (.ref f)) (hk : PySem.W.keepIn X.K (.ref f) = true) (hb : Binds X.K fd ps ds) (hd : Vals dvs ds) (hx : Passes CX X E)
    (hdb : (x == ("__debug__" : Str)) = false := by decide) : PE X (.Call (.Name x p) [] [] pos) (tCall sp dvs E tNil) := by
  intro pins s σ H Q I h
  refine wpAny_Call_Name_kw (ld_glob I hg hm ?_ hdb)
  exact PySem.W.callWith_K0 I.kIn hk (run_fn (us := []) F hr hb hd hx I .nil h)

/-- o.m(e, ..) -/
theorem pe_meth {pl : Sem Bool} (he : PE X o ta) (c : Cls X.K C) (hm : Meth X.K C m f) (F : FnOk X.prog X.w X.K X.mg X.base CX k f fd ps sp) (hr : Room k X.A) (hb : Binds X.K fd ps ds) (hd : Vals dvs ds) (hx : Passes CX X E) (ha : PA X (e :: es) t)
    (hst : starEach (e :: es) X.env = (false, eval e X.env) :: starEach es X.env := by rfl) (hpl : (backTo pos (starEach es X.env)).any (·.1) = false := by rfl)
    (ht : eval (.Call (.Attribute o m apos) (e :: es) [] pos) X.env = (do
      let ov ← eval o X.env
      standAt apos.atName
      let (f, first) ← holding [ov] (getMethod ov m pl)
      callWith pos f first (backTo pos (starEach (e :: es) X.env)) (backToKw pos (keywordEach [] X.env))) := by rfl) :
    PE X (.Call (.Attribute o m apos) (e :: es) [] pos) (tMeth C m sp dvs E ta t) := by
  intro pins s σ H Q I h
  refine PySem.W.methodCall_KW (pl := pl) (thn (he pins s σ H _ I h) fun u s1 ⟨x, H1, I1, rx, a, dx, fs, ex, ea, l, q⟩ => ?_) ht
  subst ex
  obtain rfl : u = Value.ref a := rx
  refine getmeth_ok I1 ea c hm l ?_
  refine PySem.W.callWith_K (first := [.ref a]) (h₀ := X.base) I.ok.mod.kin hm.kp (thn (ha pos pins s1 σ H1 _ I1 q) fun us s2 ⟨vs, H2, I2, r, q2⟩ => ⟨I2.kIn, ?_⟩) hst hpl
  exact run_fn (us := .ref a :: us) (vs := .ref a :: vs) F hr hb hd hx I2 (.cons rfl r) q2
/-- o.m() -/
theorem pe_meth0 {pl : Sem Bool} (he : PE X o ta) (c : Cls X.K C) (hm : Meth X.K C m f) (F : FnOk X.prog X.w X.K X.mg X.base CX k f fd ps sp) (hr : Room k X.A) (hb : Binds X.K fd ps ds) (hd : Vals dvs ds) (hx : Passes CX X E)
    (ht : eval (.Call (.Attribute o m apos) [] [] pos) X.env = (do
      let ov ← eval o X.env
      standAt apos.atName
      let (f, first) ← holding [ov] (getMethod ov m pl)
      callWith pos f first (backTo pos (starEach [] X.env)) (backToKw pos (keywordEach [] X.env))) := by rfl) :
    PE X (.Call (.Attribute o m apos) [] [] pos) (tMeth C m sp dvs E ta tNil) := by
  intro pins s σ H Q I h
  refine PySem.W.methodCall_KW (pl := pl) (thn (he pins s σ H _ I h) fun u s1 ⟨x, H1, I1, rx, a, dx, fs, ex, ea, l, q⟩ => ?_) ht
  subst ex
  obtain rfl : u = Value.ref a := rx
  refine getmeth_ok I1 ea c hm l ?_
  exact PySem.W.callWith_K0 (first := [.ref a]) I1.kIn hm.kp (run_fn (us := [.ref a]) (vs := [.ref a]) F hr hb hd hx I1 (.cons rfl .nil) q)

/-- what a class must have to be made -/
structure Mk (K : PySem.W.Frag) (C f : Addr) : Prop where
  makes : PySem.W.makesIn K C = true
  init : PySem.W.findIn K (.ref C) "__init__" = some (some (.ref f))
  fn : PySem.W.isFn K (.ref f) = true
  kp : PySem.W.keepIn K (.ref C) = true

theorem run_make {pins : List (Addr × Obj)} {σ : St} {H : Hp} {s : Shared} {Q : VK} {us : List Value} {vs : List V} (M : Mk X.K C f) (F : FnOk X.prog X.w X.K X.mg X.base CX k f fd ps sp) (hr : Room (k + 1) X.A) (hb : Binds X.K fd ps ds) (hd : Vals dvs ds)
    (hx : Passes CX X E) (I : Inv X pins σ H s) (r : Vals vs us)
    (h : ∀ x dx, H x = none → H dx = none → dx ≠ x → sp (.ref x :: (vs ++ dvs)) (upd (upd H dx (.own x)) x (.ins C dx [])) (fun v H2 => v = .non ∧ Q (.ref x) H2) E) :
    wpAny (model X.prog X.w) X.A (call (.ref C) us) (EP X pins σ Q) X.xe s := by
  have hq := h (s.heap.objs.size + 1) s.heap.objs.size (I.hok.fresh (Nat.le_succ _)) (I.hok.fresh (Nat.le_refl _)) (Nat.ne_of_lt (Nat.lt_succ_self _))
  have I2 := Inv.made (C := C) I
  have r2 : Vals (V.ref (s.heap.objs.size + 1) :: (vs ++ dvs)) (Value.ref (s.heap.objs.size + 1) :: (us ++ ds)) := .cons rfl (r.append hd)
  have hl : (Value.ref (s.heap.objs.size + 1) :: us ++ ds).length = ps.length := by
    have e := r2.length
    rw [F.len _ _ _ _ hq] at e
    exact e.symm
  refine wpAny_call (make_map (f := f) I.kIn M.makes M.init (beq_iff_eq.mp M.fn) (codeAny_mono (F.run _ X.stack _ _ ⟨Value.ref (s.heap.objs.size + 1) :: us, []⟩ (Value.ref (s.heap.objs.size + 1) :: (us ++ ds)) _ _ E (hr.make C us [])
    (I2.env0.make C us []) (hb _ (Value.ref (s.heap.objs.size + 1) :: us) I2.kIn hl) r2 hq) fun r s' hq' => ?_))
  cases r with
  | error e => exact hx pins σ _ _ e s' I2 hq'
  | ok fl =>
    cases fl with
    | ret u =>
      obtain ⟨v, H', I3, rv, ev, q3⟩ := I2.after hq'
      subst ev
      exact ⟨rv, ⟨V.ref (s.heap.objs.size + 1), H', I3, rfl, q3⟩⟩
    | next => exact False.elim hq'
    | brk => exact False.elim hq'
    | cont => exact False.elim hq'
theorem pe_make (M : Mk X.K C f) (F : FnOk X.prog X.w X.K X.mg X.base CX k f fd ps sp) (hr : Room (k + 1) X.A) (hg : Gl X x) (hm : X.mg x = some (.ref C)) (hb : Binds X.K fd ps ds) (hd : Vals dvs ds) (hx : Passes CX X E)
    (ha : PA X (e :: es) t) (hdb : (x == ("__debug__" : Str)) = false := by decide) (he : starEach (e :: es) X.env = (false, eval e X.env) :: starEach es X.env := by rfl) (hpl : (backTo pos (starEach es X.env)).any (·.1) = false := by rfl) :
    PE X (.Call (.Name x p) (e :: es) [] pos) (tMake C sp dvs E t) := by
  intro pins s σ H Q I h
  refine wpAny_Call_Name_kw (ld_glob I hg hm ?_ hdb)
  refine PySem.W.callWith_K (h₀ := X.base) I.ok.mod.kin M.kp (thn (ha pos pins s σ H _ I h) fun us s1 ⟨vs, H1, I1, r, q⟩ => ⟨I1.kIn, ?_⟩) he hpl
  exact run_make M F hr hb hd hx I1 r q
theorem pe_make0 (M : Mk X.K C f) (F : FnOk X.prog X.w X.K X.mg X.base CX k f fd ps sp) (hr : Room (k + 1) X.A) (hg : Gl X x) (hm : X.mg x = some (.ref C)) (hb : Binds X.K fd ps ds) (hd : Vals dvs ds) (hx : Passes CX X E)
    (hdb : (x == ("__debug__" : Str)) = false := by decide) : PE X (.Call (.Name x p) [] [] pos) (tMake C sp dvs E tNil) := by
  intro pins s σ H Q I h
  refine wpAny_Call_Name_kw (ld_glob I hg hm ?_ hdb)
  exact PySem.W.callWith_K0 I.kIn M.kp (run_make (us := []) M F hr hb hd hx I .nil h)
end

/-! ### keywords -/
/-- the values of the keywords, from the left -/
def PK (X : Cx) (kws : List Keyword) (t : TA) : Prop :=
  ∀ (pos : Pos) (pins : List (Addr × Obj)) (s : Shared) (σ : St) (H : Hp) (Q : List V → Hp → Prop), Inv X pins σ H s → t σ H Q → wpAny (model X.prog X.w) X.A (evalAll ((backToKw pos (keywordEach kws X.env)).map (·.2))) (AP X pins σ Q) X.xe s
section
variable {X : Cx} {CX : CXT} {k : Nat} {f C : Addr} {fd : FuncData} {ps ks : List Str} {sp : Sp} {E : XK} {x m : Str} {p pos apos kpos : Pos} {e o : Expr} {es : List Expr} {kws : List Keyword} {te ta : TE} {t tk : TA} {nm : Option Str}
theorem pk_nil : PK X [] tNil := fun _ _ _ _ H Q I h => wpAny_evalAll_nil ⟨[], H, I, .nil, h⟩
theorem pk_cons (ha : PE X e te) (hr : PK X kws t) : PK X (⟨nm, e, kpos⟩ :: kws) (tCons te t) := by
  intro pos pins s σ H Q I h
  show wpAny _ _ (evalAll ((do let v ← eval e X.env; standAt pos; pure v) :: (backToKw pos (keywordEach kws X.env)).map (·.2))) _ _ s
  refine wpAny_evalAll_cons (wpAny_bind (thn (ha pins s σ H _ I h) fun u s1 ⟨x, H1, I1, r1, q1⟩ => wpAny_bind (wpAny_standAt (wpAny_pure ?_))))
  exact thn (hr pos pins s1 σ H1 _ I1 q1) fun us s2 ⟨xs, H2, I2, r2, q2⟩ => ⟨x :: xs, H2, I2, .cons r1 r2, q2⟩

/-- how a call with keywords binds: g puts the positional values us and the keywords' values ws (names ks) in the parameters' order, defaults among them -/
structure KBinds (K : PySem.W.Frag) (fd : FuncData) (ps ks : List Str) (g : List Value → List Value → List Value) (gV : List V → List V → List V) : Prop where
  to : ∀ (s : Shared) (us ws : List Value), K.In s.heap → (g us ws).length = ps.length → BindsTo s fd ⟨us, ks.zip ws⟩ (ps.zip (g us ws))
  rel : ∀ {vs : List V} {us : List Value} {zs : List V} {ws : List Value}, Vals vs us → Vals zs ws → Vals (gV vs zs) (g us ws)
def tCallK (sp : Sp) (gV : List V → List V → List V) (E : XK) (t tk : TA) : TE := fun σ H Q => t σ H fun vs H1 => tk σ H1 fun zs H2 => sp (gV vs zs) H2 Q E
variable {g : List Value → List Value → List Value} {gV : List V → List V → List V}
theorem run_fnk {pins : List (Addr × Obj)} {σ : St} {H : Hp} {s : Shared} {Q : VK} {us ws : List Value} {vs zs : List V} (F : FnOk X.prog X.w X.K X.mg X.base CX k f fd ps sp) (hr : Room k X.A) (hb : KBinds X.K fd ps ks g gV) (hx : Passes CX X E)
    (I : Inv X pins σ H s) (r : Vals vs us) (rz : Vals zs ws) (h : sp (gV vs zs) H Q E) : wpAny (model X.prog X.w) X.A (call (.ref f) us (ks.zip ws)) (EP X pins σ Q) X.xe s := by
  have r2 := hb.rel r rz
  have hl : (g us ws).length = ps.length := by rw [← r2.length]; exact F.len _ _ _ _ h
  refine wpAny_call (codeAny_mono (F.run X.A X.stack s H ⟨us, ks.zip ws⟩ (g us ws) (gV vs zs) Q E hr I.env0 (hb.to s us ws I.kIn hl) r2 h) fun r s' hq => ?_)
  cases r with
  | error e => exact hx pins σ H s e s' I hq
  | ok fl =>
    cases fl with
    | ret u => exact I.after hq
    | next => exact False.elim hq
    | brk => exact False.elim hq
    | cont => exact False.elim hq
/-- f(e, .., k = v, ..) -/
theorem pe_callK (F : FnOk X.prog X.w X.K X.mg X.base CX k f fd ps sp) (hr : Room k X.A) (hg : Gl X x) (hm : X.mg x = some (.ref f)) (hk : PySem.W.keepIn X.K (.ref f) = true) (hb : KBinds X.K fd ps ks g gV) (hx : Passes CX X E)
    (ha : PA X (e :: es) t) (hkw : PK X kws tk) (hall : (backToKw pos (keywordEach kws X.env)).all (·.1.isSome) = true := by rfl) (hks : (backToKw pos (keywordEach kws X.env)).filterMap (·.1) = ks := by rfl)
    (hdb : (x == ("__debug__" : Str)) = false := by decide) (he : starEach (e :: es) X.env = (false, eval e X.env) :: starEach es X.env := by rfl)
    (hpl : ((backTo pos (starEach (e :: es) X.env)).any (·.1) || (backToKw pos (keywordEach kws X.env)).any (·.1.isNone)) = false := by rfl) :
    PE X (.Call (.Name x p) (e :: es) kws pos) (tCallK sp gV E t tk) := by
  intro pins s σ H Q I h
  refine wpAny_Call_Name_kw (ld_glob I hg hm ?_ hdb)
  refine PySem.W.callWith_KW (h₀ := X.base) I.ok.mod.kin hk hall (thn (ha pos pins s σ H _ I h) fun us s1 ⟨vs, H1, I1, r, q⟩ => ?_) hpl he
  refine thn (hkw pos pins s1 σ H1 _ I1 q) fun ws s2 ⟨zs, H2, I2, rz, q2⟩ => ⟨I2.kIn, ?_⟩
  rw [hks]
  exact run_fnk F hr hb hx I2 r rz q2
end

/-! ### a def's body keeps its promise -/
/-- names: the parameters first -/
structure FnScope (N P : List Str) (sc : Scope) : Prop where
  kind : sc.kind = .function
  co : sc.isCoroutine = false
  gen : sc.isGenerator = false
  nd : N.Nodup
  pre : N.take P.length = P
  par : ∀ x ∈ P, sc.names.lookup x = some .local ∨ sc.names.lookup x = some .cell
  nofree : ∀ y ∈ sc.names, y.2 ≠ .free

theorem bindL_out {kindOf : Str → Option NameKind} {x : Str} : ∀ {binds : List (Str × Value)} {m : Str → Option Value}, (∀ v, (x, v) ∉ binds) → bindL kindOf binds m x = m x
  | [], _, _ => rfl
  | (n, v) :: r, m, h => by
    unfold bindL
    rw [bindL_out fun w hw => h w (List.mem_cons_of_mem _ hw)]
    split
    · have : x ≠ n := by rintro rfl; exact h v List.mem_cons_self
      simp [this]
    · rfl
theorem bindC_out {kindOf : Str → Option NameKind} {x : Str} : ∀ {binds : List (Str × Value)} {m : Str → Option Value}, (∀ v, (x, v) ∉ binds) → bindC kindOf binds m x = m x
  | [], _, _ => rfl
  | (n, v) :: r, m, h => by
    unfold bindC
    rw [bindC_out fun w hw => h w (List.mem_cons_of_mem _ hw)]
    split
    · rfl
    · have : x ≠ n := by rintro rfl; exact h v List.mem_cons_self
      simp [this]
theorem bindL_get {kindOf : Str → Option NameKind} {x : Str} {v : Value} : ∀ {P : List Str} {vs : List Value} {i : Nat} {m : Str → Option Value}, P.Nodup → P[i]? = some x → vs[i]? = some v → kindOf x = some .local →
    bindL kindOf (P.zip vs) m x = some v
  | [], _, _, _, _, h, _, _ => by simp at h
  | _ :: _, [], _, _, _, _, h, _ => by simp at h
  | p :: P, w :: vs, 0, m, nd, h1, h2, hk => by
    simp at h1 h2; subst h1; subst h2
    show bindL kindOf ((p, w) :: P.zip vs) m p = _
    unfold bindL
    rw [bindL_out fun v hv => (List.nodup_cons.mp nd).1 (List.of_mem_zip hv).1, if_pos hk]
    simp
  | p :: P, w :: vs, i + 1, m, nd, h1, h2, hk => by
    show bindL kindOf ((p, w) :: P.zip vs) m x = _
    unfold bindL
    exact bindL_get (i := i) (List.nodup_cons.mp nd).2 (by simpa using h1) (by simpa using h2) hk
theorem bindC_get {kindOf : Str → Option NameKind} {x : Str} {v : Value} : ∀ {P : List Str} {vs : List Value} {i : Nat} {m : Str → Option Value}, P.Nodup → P[i]? = some x → vs[i]? = some v → kindOf x ≠ some .local →
    bindC kindOf (P.zip vs) m x = some v
  | [], _, _, _, _, h, _, _ => by simp at h
  | _ :: _, [], _, _, _, _, h, _ => by simp at h
  | p :: P, w :: vs, 0, m, nd, h1, h2, hk => by
    simp at h1 h2; subst h1; subst h2
    show bindC kindOf ((p, w) :: P.zip vs) m p = _
    unfold bindC
    rw [bindC_out fun v hv => (List.nodup_cons.mp nd).1 (List.of_mem_zip hv).1, if_neg hk]
    simp
  | p :: P, w :: vs, i + 1, m, nd, h1, h2, hk => by
    show bindC kindOf ((p, w) :: P.zip vs) m x = _
    unfold bindC
    exact bindC_get (i := i) (List.nodup_cons.mp nd).2 (by simpa using h1) (by simpa using h2) hk

/-- the names' values at the entry -/
def start (N : List Str) (vs : List V) : St := vs.map some ++ List.replicate (N.length - vs.length) none

/-- the context of a def's body, at its entry; an exception leaves the frame, then lies as CX says -/
def cxOf (CX : CXT) (P : Program) (w : World) (K : PySem.W.Frag) (mg : Str → Option Value) (base : Heap) (N : List Str) (qual : Str) (scope : Scope) (f : Addr) (cd : Value) (A : Around) (outer : List Env) (s : Shared) (H : Hp) (E : XK) : Cx where
  prog := P
  w := w
  K := K
  mg := mg
  base := base
  A := A.deeper (envOfC qual scope s.heap.objs.size f cd)
  N := N
  s₀ := s
  H₀ := H
  env := envOfC qual scope s.heap.objs.size f cd
  outer := outer
  stack := envOfC qual scope s.heap.objs.size f cd :: outer
  ex := []
  calm := true
  fn := fun _ => true
  pn := []
  xe := fun e s' => wpAny (model P w) (A.deeper (envOfC qual scope s.heap.objs.size f cd)) (leaving (envOfC qual scope s.heap.objs.size f cd) e) (fun _ s'' => CX outer H s E e s'') (fun e' s'' => CX outer H s E e' s'') s'

theorem cell_has {sc : Scope} {n : Nat} {x : Str} (h : sc.names.lookup x = some .cell) : ∃ c, (cellsFrom n sc.names []).lookup x = some c := by
  have q := PySem.W.cellsFrom_some sc.names n [] (.inl h)
  exact Option.isSome_iff_exists.mp q

theorem inv_start {CX : CXT} {P : Program} {w : World} {K : PySem.W.Frag} {mg : Str → Option Value} {base : Heap} {N ps : List Str} {qual : Str} {scope : Scope} {f : Addr} {cd : Value} {A : Around} {outer : List Env} {s s1 : Shared} {H : Hp} {E : XK} {us : List Value} {vs : List V}
    (S : FnScope N ps scope) (hd : A.handled = none) (e0 : Env0 P w K mg base A outer s H) (hl : vs.length = ps.length) (r : Vals vs us)
    (x : InCallC s s.heap.objs.size (bindL (envOfC qual scope s.heap.objs.size f cd).kindOf (ps.zip us) fun _ => none) (cellsFrom (s.heap.objs.size + 1) scope.names []) (bindC (envOfC qual scope s.heap.objs.size f cd).kindOf (ps.zip us) fun _ => none) s1) :
    Inv (cxOf CX P w K mg base N qual scope f cd A outer s H E) [] (start N vs) H s1 := by
  have hpl : ps.length ≤ N.length := by have := congrArg List.length S.pre; rw [List.length_take] at this; omega
  obtain ⟨h1, tk, rfl, hk⟩ := x.done
  have noA : ∀ b : Addr, b ∉ (cxOf CX P w K mg base N qual scope f cd A outer s H E).ex := fun b z => absurd (show b ∈ ([] : List Addr) from z) (by simp)
  refine ⟨⟨e0.mod, S.kind, rfl, rfl, Nat.le_refl _, fun y z c h1 h2 => ?_, fun y hy => ?_, fun y c _ h => ?_, fun _ => hd, Around.frames_deeper e0.frames, .inr ⟨rfl, rfl⟩, fun b z => absurd z (noA b), e0.bs, e0.bsz, fun b _ _ => noA b, fun b z => absurd z (noA b), e0.funs, e0.frf⟩,
    rfl, e0.bare, Un.kept hk, ⟨_, x.toInCall.ns, fun i y v h1 h2 h3 => ?_⟩, fun y c h => ⟨_, x.cell y c h⟩, e0.hok.fresh (Nat.le_refl _), fun y c h => ?_, fun p hp => absurd (show p ∈ ([] : List (Addr × Obj)) from hp) (by simp), e0.hok.kept hk, ?_⟩
  · exact name_of_addr x.apart (PySem.mem_of_lookup h1) (PySem.mem_of_lookup h2)
  · have hy : scope.names.lookup y = some .cell ∨ scope.names.lookup y = some .free := hy
    rcases hy with hy | hy
    · exact cell_has hy
    · exact absurd rfl (S.nofree _ (PySem.mem_of_lookup hy))
  · exact Nat.le_of_lt (x.above y c (PySem.mem_of_lookup h))
  · have hi : i < vs.length := by
      unfold start at h2
      by_cases hi : i < vs.length
      · exact hi
      · rw [List.getElem?_append_right (by simpa using hi)] at h2
        rw [List.getElem?_replicate] at h2
        split at h2 <;> cases h2
    have ha : vs[i]? = some v := by
      unfold start at h2
      rw [List.getElem?_append_left (by simpa using hi), List.getElem?_map] at h2
      cases e : vs[i]? with
      | none => rw [e] at h2; cases h2
      | some a => rw [e] at h2; cases h2; rfl
    obtain ⟨u, hu, rv⟩ := r.get ha
    have hp : ps[i]? = some y := by
      rw [← S.pre, List.getElem?_take_of_lt (by omega)]; exact h1
    have ndP : ps.Nodup := by rw [← S.pre]; exact S.nd.sublist (List.take_sublist _ _)
    refine ⟨u, rv, ?_⟩
    rcases S.par y (List.mem_of_getElem? hp) with k | k
    · exact .inl ⟨k, bindL_get ndP hp hu k⟩
    · obtain ⟨c, e⟩ := cell_has (n := s.heap.objs.size + 1) k
      refine .inr ⟨.inl k, c, e, ?_⟩
      have q := x.cell y c e
      rw [bindC_get ndP hp hu (by show scope.names.lookup y ≠ _; rw [k]; decide)] at q
      exact q
  · exact e0.hok.fresh (Nat.le_of_lt (x.above y c (PySem.mem_of_lookup h)))
  · unfold start
    show _ = N.length
    rw [List.length_append, List.length_map, List.length_replicate]
    omega

/-- THE RULE: a def (or a method) of the text, by its body. The body's reading t is chosen for each entry; it is run at the parameters' values -/
theorem fn_of {CX : CXT} {P : Program} {w : World} {K : PySem.W.Frag} {mg : Str → Option Value} {base : Heap} {k : Nat} {f : Addr} {name qual : Str} {params : Arguments} {body : List Stmt} {scope : Scope} {dV kV doc pm cdv ct oc : Value} {an od : Option Addr}
    {osl : Array (Option Value)} {N ps : List Str} {sp : Sp} (lk : K.lookup f = some ⟨oc, od, .func (PySem.W.fnOf name qual params body scope dV kV doc pm an cdv ct), osl⟩) (hcd : PySem.W.codeIn K cdv qual = true) (S : FnScope N ps scope)
    (len : ∀ vs H Q E, sp vs H Q E → vs.length = ps.length)
    (hbody : ∀ (A : Around) (outer : List Env) (s : Shared) (H : Hp) (vs : List V) (Q : VK) (E : XK), Room k (A.deeper (envOfC qual scope s.heap.objs.size f cdv)) → sp vs H Q E →
      ∃ t, PSs (cxOf CX P w K mg base N qual scope f cdv A outer s H E) body t ∧ t { nx := fun _ H' => Q .non H', rt := Q } (start N vs) H) :
    FnOk P w K mg base CX (k + 1) f (PySem.W.fnOf name qual params body scope dV kV doc pm an cdv ct) ps sp := by
  refine ⟨len, fun A outer s H args us vs Q E hr e0 hb r hsp => ?_⟩
  have hl := len _ _ _ _ hsp
  have KX : K.In s.heap := e0.mod.kin.keeps fun b o e => (e0.bs b o e).1
  have lim : s.heap.NoLimit := e0.mod.nolimit.keeps fun b o e => (e0.bs b o e).1
  have hkind : ∀ y ∈ ps.zip us, scope.names.lookup y.1 = some .local ∨ (scope.names.lookup y.1 = some .cell ∧ ((cellsFrom (s.heap.objs.size + 1) scope.names []).lookup y.1).isSome = true) := fun ⟨n, v⟩ hy => by
    rcases S.par n (List.of_mem_zip hy).1 with q | q
    · exact .inl q
    · exact .inr ⟨q, PySem.W.cellsFrom_some _ _ _ (.inl q)⟩
  refine codeAny_call_function hr.depth (KX _ _ lk) rfl S.co S.gen rfl (PySem.W.codeRec_of KX hcd) (hb _ _ _ _ ?_)
  refine wpAny_newFunctionEnv_cells S.kind hkind fun env he s1 x => ?_
  subst he
  refine ⟨lim.keeps x.toInCall.keep, codeAny_func ?_⟩
  obtain ⟨t, ht, hq⟩ := hbody A outer s H vs Q E (hr.deeper _) hsp
  have I : Inv (cxOf CX P w K mg base N qual scope f cdv A outer s H E) [] (start N vs) H s1 := inv_start S hr.hd e0 hl r x
  refine wpAny_mono (ht [] s1 (start N vs) H _ I hq) (fun fl s' hs => ?_) fun e s' hs => hs
  have fin : ∀ {σ' : St} {H' : Hp} {v : V} {u : Value}, Inv (cxOf CX P w K mg base N qual scope f cdv A outer s H E) [] σ' H' s' → RelV v u → Q v H' → CE outer P w H s Q u s' :=
    fun {σ' H' v u} J rv q => ⟨v, H', J.os, J.bare, J.base, J.hok, rv, q⟩
  cases fl with
  | ret u =>
    obtain ⟨v, σ', H', J, rv, q⟩ := hs
    exact fin J rv q
  | next =>
    obtain ⟨σ', H', J, q⟩ := hs
    exact fin (v := V.non) (u := Value.none) J rfl q
  | brk =>
    obtain ⟨_, _, _, q⟩ := hs
    exact False.elim q
  | cont =>
    obtain ⟨_, _, _, q⟩ := hs
    exact False.elim q
end L2

namespace L2
open PySem PySem.Spec PyProof.Rows
section
variable {X : Cx} {x : Str} {p pos : Pos} {e : Expr} {es : List Expr} {t : TA} {id T : String} {r : List V → Hp → VK → Prop}

def tCB (r : List V → Hp → VK → Prop) (t : TA) : TE := fun σ H Q => t σ H fun vs H1 => r vs H1 Q
/-- f(e, ..), f a built-in function -/
theorem pe_callB (hc : CallR X (.builtin id) r) (hg : Gl X x) (hm : X.mg x = none) (hv : bootBuiltins x = some (.builtin id)) (ha : PA X (e :: es) t) (hn : x ≠ "__name__" := by decide) (hdb : (x == ("__debug__" : Str)) = false := by decide)
    (he : starEach (e :: es) X.env = (false, eval e X.env) :: starEach es X.env := by rfl) (hpl : (backTo pos (starEach es X.env)).any (·.1) = false := by rfl) : PE X (.Call (.Name x p) (e :: es) [] pos) (tCB r t) := by
  intro pins s σ H Q I h
  refine wpAny_Call_Name_kw (ld_blt I hg hm hv ?_ hn hdb)
  exact PyProof.Rows.callWith_builtin1 (thn (ha pos pins s σ H _ I h) fun us s1 ⟨vs, H1, I1, r1, q1⟩ => hc pins s1 σ H1 vs us Q I1 r1 q1) he hpl
/-- T(e, ..), T a built-in type -/
theorem pe_callTy (hc : CallR X (.type T) r) (hg : Gl X x) (hm : X.mg x = none) (hv : bootBuiltins x = some (.type T)) (ha : PA X (e :: es) t) (hn : x ≠ "__name__" := by decide) (hdb : (x == ("__debug__" : Str)) = false := by decide)
    (he : starEach (e :: es) X.env = (false, eval e X.env) :: starEach es X.env := by rfl) (hpl : (backTo pos (starEach es X.env)).any (·.1) = false := by rfl) : PE X (.Call (.Name x p) (e :: es) [] pos) (tCB r t) := by
  intro pins s σ H Q I h
  refine wpAny_Call_Name_kw (ld_blt I hg hm hv ?_ hn hdb)
  exact PyProof.Rows.callWith_type1 (thn (ha pos pins s σ H _ I h) fun us s1 ⟨vs, H1, I1, r1, q1⟩ => hc pins s1 σ H1 vs us Q I1 r1 q1) he hpl
/-- T() -/
theorem pe_callTy0 (hc : CallR X (.type T) r) (hg : Gl X x) (hm : X.mg x = none) (hv : bootBuiltins x = some (.type T)) (hn : x ≠ "__name__" := by decide) (hdb : (x == ("__debug__" : Str)) = false := by decide) :
    PE X (.Call (.Name x p) [] [] pos) (tCB r tNil) := by
  intro pins s σ H Q I h
  refine wpAny_Call_Name_kw (ld_blt I hg hm hv ?_ hn hdb)
  exact PyProof.Rows.callWith_type0 (hc pins s σ H [] [] Q I .nil h)
end
end L2

namespace HT
open PySem PyProof.Rows

/-- t < u of tuples of ints -/
def lexLt : List Int → List Int → Bool
  | [], [] => false
  | [], _ :: _ => true
  | _ :: _, [] => false
  | x :: xs, y :: ys => if x = y then lexLt xs ys else decide (x < y)
theorem lexLt_cons (x y : Int) (xs ys : List Int) : lexLt (x :: xs) (y :: ys) = if x = y then lexLt xs ys else decide (x < y) := rfl
theorem lexLt_nil_nil : lexLt [] [] = false := rfl
theorem lexLt_nil_cons (y : Int) (ys : List Int) : lexLt [] (y :: ys) = true := rfl
theorem lexLt_cons_nil (x : Int) (xs : List Int) : lexLt (x :: xs) [] = false := rfl

theorem eqAt_int (A : Around) (s : Shared) (a : Int) (t : Tok) (c : Int) (u : Tok) : ∃ e, SeqAt.EqAt A s (.int a t) (.int c u) e ∧ (e = true ↔ a = c) :=
  ⟨(a == c), SeqAt.EqAt.int_int a t c u, by simp⟩
theorem rcLt_int (A : Around) (s : Shared) (a : Int) (t : Tok) (c : Int) (u : Tok) (prog : Program) (w : World) (E : Value → Shared → Prop) (Q : Value → Shared → Prop) (h : Q (.bool (decide (a < c))) s) :
    wpAny (model prog w) A (richCompare .Lt (.int a t) (.int c u)) Q E s :=
  (PyProof.Rows.lt_int h : wpAny (model prog w) A (compareOp .Lt (.int a t) (.int c u)) Q E s)

section
open PySem.SeqAt
open PySem.AutoSeq1 (wpAny_loadPart')
open PySem.MeetsSeq PySem.MeetsSeq2 PySem.MeetsSeq3

theorem tuple_lt_ints (l b : Addr) (items items2 : Array Value) (n n2 : Nat) (dd dd2 : Option Addr) (sl sl2 : Array (Option Value)) (ns ms : List Int) (hi : IntsAre items.toList ns) (hj : IntsAre items2.toList ms) :
    Meets (Builtin.«tuple.__lt__» ⟨[.ref l, .ref b], []⟩)
      (fun _ R s => s.heap.get? l = some { cls := .type "tuple", dict := dd, data := .seq items n, slots := sl } ∧ s.heap.get? b = some { cls := .type "tuple", dict := dd2, data := .seq items2 n2, slots := sl2 } ∧
        R (.ok (.ret (.bool (lexLt ns ms)))) s) :=
  .of_wp fun prog w A R s h => by
    obtain ⟨hp, g, d, tk, os⟩ := s; obtain ⟨hl, hb, h⟩ := h
    have f2 := AutoSeq1.sub_tuple_tuple
    have z1 : items.size = ns.length := by rw [← hi.length]; simp
    have z2 : items2.size = ms.length := by rw [← hj.length]; simp
    wp_walk using wpAny_loadPart' hl, wpAny_loadPart' hb, wpAny_forIn_list _ (fun rest b s' => b.1 = none ∧ s' = ⟨hp, g, d, tk, os⟩ ∧ ∃ (vs ws : List Value) (ns' ms' : List Int), rest = vs.zip ws ∧
      IntsAre vs ns' ∧ IntsAre ws ms' ∧ ns'.length + items2.size = ms'.length + items.size ∧ R (.ok (.ret (.bool (lexLt ns' ms')))) ⟨hp, g, d, tk, os⟩) _
    case turn =>
      rintro ⟨y, x⟩ rest b s' ⟨hb', rfl, vs, ws, ns', ms', hz, hvi, hwi, hlen, hR⟩
      cases hvi with
      | nil => rw [List.zip_nil_left] at hz; cases hz
      | cons a t hvi' =>
        cases hwi with
        | nil => rw [List.zip_nil_right] at hz; cases hz
        | cons c u hwi' =>
          rw [List.zip_cons_cons] at hz
          injection hz with hyx hrest
          injection hyx with hy hx
          subst hy hx
          rw [lexLt_cons] at hR
          simp only [List.length_cons] at hlen
          obtain ⟨e, he, hiff⟩ := eqAt_int A.in1 ⟨hp, g, d, tk, os⟩ a t c u
          refine wpAny_bind (he prog w _ _ ?_)
          cases e with
          | true =>
            rw [if_pos (hiff.mp rfl)] at hR
            wp_walk
            exact ⟨rfl, rfl, _, _, _, _, hrest, hvi', hwi', by omega, hR⟩
          | false =>
            rw [if_neg (fun q => absurd (hiff.mpr q) Bool.false_ne_true)] at hR
            have hri := rcLt_int A.in1 ⟨hp, g, d, tk, os⟩ a t c u prog w
            wp_walk using hri
            exact ⟨_, rfl, by simpa using hR⟩
    case fin =>
      rintro ⟨b1, b2⟩ s' ⟨hb', rfl, vs, ws, ns', ms', hz, hvi, hwi, hlen, hR⟩
      simp only at hb'
      subst hb'
      have hv : lexLt ns' ms' = decide (items.size < items2.size) := by
        cases hvi with
        | nil =>
          cases hwi with
          | nil =>
            simp only [List.length_nil] at hlen
            rw [lexLt_nil_nil]
            exact (decide_eq_false (by omega)).symm
          | cons c u hw =>
            simp only [List.length_nil, List.length_cons] at hlen
            rw [lexLt_nil_cons]
            exact (decide_eq_true (by omega)).symm
        | cons a t hv =>
          cases hwi with
          | nil =>
            simp only [List.length_nil, List.length_cons] at hlen
            rw [lexLt_cons_nil]
            exact (decide_eq_false (by omega)).symm
          | cons c u hw =>
            rw [List.zip_cons_cons] at hz
            cases hz
      rw [hv] at hR
      wp_walk
      exact ⟨_, rfl, by simpa [Builtin.Tuple.tupleCompareSizes] using hR⟩
    case h =>
      exact ⟨rfl, rfl, items.toList, items2.toList, ns, ms, rfl, hi, hj, by omega, h⟩
end

section
variable {prog : Program} {w : World} {A : Around} {E : Value → Shared → Prop} {s : Shared}

theorem lt_tupInts {l b : Addr} {items items2 : Array Value} {ns ms : List Int} {Q : Value → Shared → Prop} (hl : IsTup s.heap l items) (hb : IsTup s.heap b items2) (hi : IntsAre items.toList ns) (hj : IntsAre items2.toList ms)
    (hu : A.units < cLine) (h : Q (.bool (lexLt ns ms)) s) : wpAny (model prog w) A (compareOp .Lt (.ref l) (.ref b)) Q E s := by
  obtain ⟨⟨cls, dd, data, sl⟩, ho, hc, n, hd⟩ := id hl
  obtain ⟨⟨cls2, dd2, data2, sl2⟩, ho2, hc2, n2, hd2⟩ := id hb
  simp only at hc hd hc2 hd2
  subst hc hd hc2 hd2
  exact richCompare_meets_room (op := .Lt) ⟨_, ho, rfl⟩ ⟨_, ho2, rfl⟩ PySem.F.slot_tuple_lt PySem.F.entry_tuple_lt (PySem.F.args_tuple_lt_2 _ _) (tuple_lt_ints l b items items2 n n2 dd dd2 sl sl2 ns ms hi hj)
    ⟨ho, ho2, show Value.bool (lexLt ns ms) ≠ Value.notImplemented ∧ Q (.bool (lexLt ns ms)) s from ⟨(fun x => nomatch x), h⟩⟩ hu

/-- t + u, t not empty -/
theorem cat_tup {t b : Addr} {vs ws : List Value} {Q : Value → Shared → Prop} (ht : IsTup s.heap t vs.toArray) (hb : IsTup s.heap b ws.toArray) (hv : vs ≠ [])
    (h1 : ws = [] → Q (.ref t) s) (h2 : ws ≠ [] → Q (.ref s.heap.objs.size) { s with heap := s.heap.push { cls := .type "tuple", data := .seq (vs ++ ws).toArray } })
    (hsz : vs.length + ws.length ≤ sizeLine) : wpAny (model prog w) A (binaryOp .Add (.ref t) (.ref b)) Q E s := by
  obtain ⟨⟨cls, dd, data, sl⟩, ho, hc, n, hd⟩ := id ht
  obtain ⟨⟨cls2, dd2, data2, sl2⟩, ho2, hc2, n2, hd2⟩ := id hb
  simp only at hc hd hc2 hd2
  subst hc hd hc2 hd2
  have e : vs.toArray ++ ws.toArray = (vs ++ ws).toArray := by simp
  by_cases hw : ws = []
  · exact concat_meets ⟨_, ho, rfl⟩ ⟨_, ho2, rfl⟩ noFill_tuple_add seq_tuple_add PySem.F.slot_tuple_add PySem.F.entry_tuple_add (PySem.F.args_tuple_add_2 _ _)
      (tuple_addW1 t b vs.toArray ws.toArray n n2 dd dd2 sl sl2 (by simpa using hv) (by simp [hw])) ⟨ho, ho2, h1 hw⟩
  · refine concat_meets ⟨_, ho, rfl⟩ ⟨_, ho2, rfl⟩ noFill_tuple_add seq_tuple_add PySem.F.slot_tuple_add PySem.F.entry_tuple_add (PySem.F.args_tuple_add_2 _ _)
      (tuple_addW2 t b vs.toArray ws.toArray n n2 dd dd2 sl sl2 (by simpa using hv) (by simpa using hw) (by rw [List.size_toArray, List.size_toArray]; exact hsz)) ⟨ho, ho2, ?_⟩
    rw [e]
    exact h2 hw

/-! ### t[a:b], not the whole -/
/-- a slice's bound as a place among n (d where it is left out) -/
def sIx (n d : Nat) : Option Int → Nat
  | none => d
  | some v => if v < 0 then (v + (n : Int)).toNat else min v.toNat n
theorem sIx_none (n d : Nat) : sIx n d none = d := rfl
theorem sIx_nat (n d k : Nat) : sIx n d (some (k : Int)) = min k n := by
  show (if (k : Int) < 0 then ((k : Int) + (n : Int)).toNat else min (k : Int).toNat n) = min k n
  rw [if_neg (by omega), Int.toNat_natCast]
theorem sIx_le (n d : Nat) (hd : d ≤ n) (o : Option Int) : sIx n d o ≤ n := by
  cases o with
  | none => exact hd
  | some v =>
    show (if v < 0 then (v + (n : Int)).toNat else min v.toNat n) ≤ n
    by_cases hv : v < 0
    · rw [if_pos hv]; omega
    · rw [if_neg hv]; exact Nat.min_le_right _ _
theorem clip_eq (v : Int) (n d : Nat) : (if v < 0 then max (v + (n : Int)) 0 else min v (n : Int)) = ((sIx n d (some v) : Nat) : Int) := by
  show (if v < 0 then max (v + (n : Int)) 0 else min v (n : Int)) = (((if v < 0 then (v + (n : Int)).toNat else min v.toNat n) : Nat) : Int)
  by_cases hv : v < 0
  · simp only [if_pos hv]; omega
  · simp only [if_neg hv]; omega
theorem adjust_gen (lo hi : Option Int) (n : Nat) : Builtin.Slice.sliceAdjust lo hi 1 (n : Int) = (((sIx n 0 lo : Nat) : Int), ((sIx n n hi : Nat) : Int)) := by
  have h1 : ¬ ((1 : Int) < 0) := by omega
  unfold Builtin.Slice.sliceAdjust
  simp only [h1, if_false]
  refine Prod.ext ?_ ?_
  · cases lo with
    | none => rfl
    | some v => exact clip_eq v n 0
  · cases hi with
    | none => rfl
    | some v => exact clip_eq v n n
theorem places_gen (i j : Nat) : Builtin.Slice.slicePlaces (i : Int) (j : Int) 1 = j - i := by
  unfold Builtin.Slice.slicePlaces
  have h1 : (1 : Int) > 0 := by omega
  simp only [h1, if_true, Int.ediv_one]
  split <;> omega
theorem slicePart_ {v : Value} {o : Option Int} {Q : Option Int → Shared → Prop} (p : IsPart v o) (h : Q o s) : wpAny (model prog w) A (Builtin.Slice.slicePartIndex v) Q E s := by
  cases p with
  | none => exact slicePart_none h
  | int i t => exact slicePart_int h
theorem sliceApplied_gen {sl : Addr} {vl vu : Value} {lo hi : Option Int} {n : Nat} {Q : Int × Int × Nat → Shared → Prop} (hs : s.heap.IsSliceOf sl vl vu .none) (pl : IsPart vl lo) (pu : IsPart vu hi)
    (h : Q (((sIx n 0 lo : Nat) : Int), 1, sIx n n hi - sIx n 0 lo) s) : wpAny (model prog w) A (Builtin.Slice.sliceApplied (.ref sl) (pure (n : Int))) Q E s := by
  obtain ⟨os, hos, hcs, hds⟩ := id hs
  unfold Builtin.Slice.sliceApplied Builtin.Slice.sliceFields
  refine wpAny_bind (wpAny_bind (wpAny_field hos hds (x := vl) rfl (wpAny_bind (wpAny_field hos hds (x := vu) rfl (wpAny_bind (wpAny_field hos hds (x := .none) rfl (wpAny_pure ?_)))))))
  refine wpAny_bind (slicePart_none ?_)
  show wpAny _ _ (if ((1 : Int) == 0) = true then _ else _) _ _ s
  rw [if_neg (by decide)]
  refine wpAny_bind (slicePart_ pl (wpAny_bind (slicePart_ pu (wpAny_bind (wpAny_pure ?_)))))
  show wpAny _ _ (match Builtin.Slice.sliceAdjust lo hi 1 (n : Int) with | (lo, hi) => pure (lo, (1 : Int), Builtin.Slice.slicePlaces lo hi 1)) _ _ s
  rw [adjust_gen lo hi n]
  show wpAny _ _ (pure (((sIx n 0 lo : Nat) : Int), (1 : Int), Builtin.Slice.slicePlaces ((sIx n 0 lo : Nat) : Int) ((sIx n n hi : Nat) : Int) 1)) _ _ s
  rw [places_gen]
  exact wpAny_pure h
theorem pick_gen (xs : Array Value) (i k : Nat) : ((List.range k).filterMap fun (m : Nat) => xs[((i : Int) + (m : Int) * 1).toNat]?).toArray = ((xs.toList.drop i).take k).toArray := by
  have e : (fun (m : Nat) => xs[((i : Int) + (m : Int) * 1).toNat]?) = fun m => xs[i + m]? := by
    funext m
    have : ((i : Int) + (m : Int) * 1).toNat = i + m := by omega
    rw [this]
  rw [e]
  have := pick_run xs i k
  rw [List.filterMap_map] at this
  have e2 : ((fun x => xs[x]?) ∘ fun x => i + x) = fun m => xs[i + m]? := rfl
  rw [e2] at this
  rw [this]

theorem getItem_tuple_cut {t sl : Addr} {items : Array Value} {vl vu : Value} {lo hi : Option Int} {Q : Value → Shared → Prop} (ht : IsTup s.heap t items) (hs : s.heap.IsSliceOf sl vl vu .none) (pl : IsPart vl lo) (pu : IsPart vu hi)
    (hw : ¬ (sIx items.size 0 lo = 0 ∧ sIx items.size items.size hi = items.size))
    (h : Q (.ref s.heap.objs.size) { s with heap := s.heap.push { cls := .type "tuple", data := .seq ((items.toList.drop (sIx items.size 0 lo)).take (sIx items.size items.size hi - sIx items.size 0 lo)).toArray } })
    (hsz : items.size ≤ sizeLine) : wpAny (model prog w) A (getItem (.ref t) (.ref sl)) Q E s := by
  have htake : sizeOk (.seq ((items.toList.drop (sIx items.size 0 lo)).take (sIx items.size items.size hi - sIx items.size 0 lo)).toArray) := by
    show ((items.toList.drop (sIx items.size 0 lo)).take (sIx items.size items.size hi - sIx items.size 0 lo)).toArray.size ≤ sizeLine
    rw [List.size_toArray, List.length_take, List.length_drop, Array.length_toList]
    omega
  have hj : sIx items.size items.size hi ≤ items.size := sIx_le _ _ (Nat.le_refl _) hi
  obtain ⟨os, hos, hcs, hds⟩ := id hs
  have hTs : s.TypeIs (.ref sl) "slice" := ⟨os, hos, hcs⟩
  unfold getItem
  try with_reducible refine wpAny_holding ?_
  first | refine wpAny_bind (wpAny_pure ?_) | skip
  refine wpAny_bind (wpAny_sequenceKey ht.typeIs (by decide) ?_)
  refine wpAny_bind (wpAny_callSpecial?_slot (name := Str.ofString "__getitem__") ht.typeIs PyProof.Rows.slot_tuple_getitem
    (wpAny_call_entry PyProof.Rows.slot_tuple_getitem ht.typeIs entry_tuple_getitem ?_ (args_tuple_getitem _ _)))
  show wpAny _ _ (Builtin.Tuple.tupleItemsOf (.ref t) >>= _) _ _ s
  refine wpAny_bind (tupleItemsOf_ ht ?_)
  refine wpAny_bind (wpAny_typeOf hTs ?_)
  rw [if_pos (by decide)]
  refine wpAny_bind (sliceApplied_gen hs pl pu ?_)
  have hno : ¬ ((((sIx items.size 0 lo : Nat) : Int) == 0 && (1 : Int) == 1 && (sIx items.size items.size hi - sIx items.size 0 lo) == items.size) = true) := by
    intro q
    rw [Bool.and_eq_true, Bool.and_eq_true] at q
    have q1 : ((sIx items.size 0 lo : Nat) : Int) = 0 := eq_of_beq q.1.1
    have q2 : sIx items.size items.size hi - sIx items.size 0 lo = items.size := eq_of_beq q.2
    exact hw ⟨by omega, by omega⟩
  show wpAny _ _ (if (((sIx items.size 0 lo : Nat) : Int) == 0 && (1 : Int) == 1 && (sIx items.size items.size hi - sIx items.size 0 lo) == items.size) = true then _ else _) _ _ s
  rw [if_neg hno, pick_gen]
  first
    | exact wpAny_bind (m := Builtin.Tuple.tupleExact _) (wpAny_newObj_type (wpAny_pure ⟨_, rfl, wpAny_pure h⟩) htake)
    | exact wpAny_bind (m := Builtin.Tuple.tupleExact _) (wpAny_newObj_type (wpAny_bind (wpAny_pure (wpAny_pure ⟨_, rfl, wpAny_pure h⟩))) htake)
    | exact wpAny_bind (wpAny_bind (m := Builtin.Tuple.tupleExact _) (wpAny_newObj_type (wpAny_pure (wpAny_pure ⟨_, rfl, wpAny_pure h⟩)) htake))
    | exact wpAny_bind (wpAny_bind (m := Builtin.Tuple.tupleExact _) (wpAny_newObj_type (wpAny_pure ⟨_, rfl, wpAny_pure h⟩) htake))
end
end HT

namespace L2
open PySem PySem.Spec PyProof.Rows

/-! ### the parts of a slice -/
abbrev TO := St → Hp → (Option Int → Hp → Prop) → Prop
/-- a slice's part (left out, or an int) -/
def PO (X : Cx) (e : Option Expr) (t : TO) : Prop :=
  ∀ (pins : List (Addr × Obj)) (s : Shared) (σ : St) (H : Hp) (Q : Option Int → Hp → Prop), Inv X pins σ H s → t σ H Q →
    wpAny (model X.prog X.w) X.A (evalPart e X.env) (fun u s' => ∃ o H', Inv X pins σ H' s' ∧ IsPart u o ∧ Q o H') X.xe s
def tNoPart : TO := fun _ H Q => Q none H
def tPart (t : TE) : TO := fun σ H Q => t σ H fun x H1 => ∃ i, x = .int i ∧ Q (some i) H1

theorem intsAre_of {ns : List Int} : ∀ {us : List Value}, Vals (ns.map V.int) us → IntsAre us ns := by
  induction ns with
  | nil => intro us r; rw [List.map_nil] at r; cases r; exact .nil
  | cons n ns ih =>
    intro us r
    rw [List.map_cons] at r
    cases r with
    | cons r1 r2 =>
      obtain ⟨t, e⟩ := r1
      subst e
      exact .cons n t (ih r2)

section
variable {X : Cx} {e : Expr} {te : TE} {lo hi : Option Expr} {tl th : TO} {pos p2 : Pos}

theorem po_none : PO X none tNoPart := by
  intro pins s σ H Q I h
  rw [evalPart_none]
  exact wpAny_pure ⟨none, H, I, .none, h⟩
theorem po_some (h : PE X e te) : PO X (some e) (tPart te) := by
  intro pins s σ H Q I hw
  rw [evalPart_some]
  refine thn (h pins s σ H _ I hw) fun u s1 ⟨x, H1, I1, r1, q1⟩ => ?_
  obtain ⟨i, rfl, q⟩ := q1
  obtain ⟨t, rfl⟩ := r1
  exact ⟨some i, H1, I1, .int i t, q⟩

/-- what a slice of a value is, by values: the slice object stands at sl -/
def SlR (X : Cx) (r : V → Option Int → Option Int → Hp → VK → Prop) : Prop :=
  ∀ (pins : List (Addr × Obj)) (s : Shared) (σ : St) (H : Hp) (x : V) (v vl vu : Value) (lo hi : Option Int) (sl : Addr) (Q : VK), Inv X pins σ H s → RelV x v → s.heap.IsSliceOf sl vl vu .none → IsPart vl lo → IsPart vu hi → r x lo hi H Q →
    ∃ T id, typeLookup (.type T) "__getitem__" = pure (some (.builtin id)) ∧ s.TypeIs v T ∧ wpAny (model X.prog X.w) X.A (getItem v (.ref sl)) (EP X pins σ Q) X.xe s
theorem SlR.or {r r' : V → Option Int → Option Int → Hp → VK → Prop} (h : SlR X r) (h' : SlR X r') : SlR X (fun x lo hi H Q => r x lo hi H Q ∨ r' x lo hi H Q) := by
  intro pins s σ H x v vl vu lo hi sl Q I rx hs pl pu q
  rcases q with q | q
  · exact h pins s σ H x v vl vu lo hi sl Q I rx hs pl pu q
  · exact h' pins s σ H x v vl vu lo hi sl Q I rx hs pl pu q
def tSl (r : V → Option Int → Option Int → Hp → VK → Prop) (te : TE) (tl th : TO) : TE := fun σ H Q => te σ H fun x H1 => tl σ H1 fun l H2 => th σ H2 fun u H3 => r x l u H3 Q
/-- a[lo:hi], any a -/
theorem pe_slice {r : V → Option Int → Option Int → Hp → VK → Prop} (hr : SlR X r) (he : PE X e te) (hl : PO X lo tl) (hu : PO X hi th) : PE X (.Subscript e (.Slice lo hi none p2) pos) (tSl r te tl th) := by
  intro pins s σ H Q I h
  refine Subscript_ (thn (he pins s σ H _ I h) fun v s1 ⟨x, H1, I1, r1, q1⟩ => ?_)
  refine wpAny_Slice (thn (hl pins s1 σ H1 _ I1 q1) fun vl s2 ⟨l, H2, I2, pl, q2⟩ => thn (hu pins s2 σ H2 _ I2 q2) fun vu s3 ⟨u, H3, I3, pu, q3⟩ => ?_)
  rw [evalPart_none]
  refine wpAny_pure ?_
  have I4 : Inv X pins σ H3 { s3 with heap := s3.heap.push { cls := .type "slice", data := .fields #[vl, vu, .none] } } := I3.kept (t' := s3.toks) fun b ob q => Heap.get?_push_of_some _ q
  obtain ⟨T, id, hT, ht, hg⟩ := hr pins { s3 with heap := s3.heap.push { cls := .type "slice", data := .fields #[vl, vu, .none] } } σ H3 x v vl vu l u s3.heap.objs.size Q I4 r1 (Heap.IsSliceOf.new ..) pl pu q3
  show wpAny (model X.prog X.w) X.A (subscriptTail e (.Slice lo hi none p2) v (.ref s3.heap.objs.size)) (EP X pins σ Q) X.xe { s3 with heap := s3.heap.push { cls := .type "slice", data := .fields #[vl, vu, .none] } }
  exact tail_any (ops := [.ref s3.heap.objs.size, v]) ht hT hg (by with_unfolding_all rfl)

/-- the items of xs[lo:hi] -/
def cutV (xs : List V) (lo hi : Option Int) : List V := (xs.drop (HT.sIx xs.length 0 lo)).take (HT.sIx xs.length xs.length hi - HT.sIx xs.length 0 lo)
theorem cutV_length (xs : List V) (lo hi : Option Int) : (cutV xs lo hi).length ≤ xs.length := by
  unfold cutV
  rw [List.length_take, List.length_drop]
  omega
/-- t[lo:hi], not the whole of it (the whole would be t itself) -/
def rSlT (K : PySem.W.Frag) : V → Option Int → Option Int → Hp → VK → Prop := fun x lo hi H Q => ∃ a xs, x = .ref a ∧ SqT K H a xs ∧
  ¬ (HT.sIx xs.length 0 lo = 0 ∧ HT.sIx xs.length xs.length hi = xs.length) ∧ ∀ p, H p = none → Q (.ref p) (upd H p (.tup (cutV xs lo hi)))
theorem sl_tup : SlR X (rSlT X.K) := by
  intro pins s σ H x v vl vu lo hi sl Q I rx hs pl pu h
  obtain ⟨a, xs, rfl, hx, hw, q⟩ := h
  cases rx
  obtain ⟨its, r, ht, hz⟩ := I.tuple hx
  have hlen : its.toArray.size = xs.length := by rw [List.size_toArray]; exact r.length.symm
  refine ⟨"tuple", _, PyProof.Rows.slot_tuple_getitem.lookup, ht.typeIs, ?_⟩
  refine HT.getItem_tuple_cut ht hs pl pu (by rw [hlen]; exact hw) ?_ (by rw [hlen]; exact hz)
  rw [hlen]
  refine ⟨.ref s.heap.objs.size, _, I.laid (t' := s.toks) (o := .tup (cutV xs lo hi)) (fun b ob q => Heap.get?_push_of_some _ q) (Nat.le_refl _) ?_, rfl, q _ (I.hok.fresh (Nat.le_refl _))⟩
  exact ⟨Nat.le_trans (cutV_length xs lo hi) hz, _, (r.drop (HT.sIx xs.length 0 lo)).take (HT.sIx xs.length xs.length hi - HT.sIx xs.length 0 lo), IsTup.new _ _⟩

/-! ### t < u, t + u -/
def rLtT (K : PySem.W.Frag) : R2 := fun x y H Q => ∃ a b ns ms, x = .ref a ∧ y = .ref b ∧ SqT K H a (ns.map V.int) ∧ SqT K H b (ms.map V.int) ∧ Q (.bl (HT.lexLt ns ms)) H
theorem op_ltT (hu : X.A.units < cLine) : OpR X (compareOp .Lt) (rLtT X.K) := by
  intro pins s σ H x y v u Q I rx ry h
  obtain ⟨a, b, ns, ms, rfl, rfl, ha, hb, q⟩ := h
  cases rx
  cases ry
  obtain ⟨its, r1, p1, _⟩ := I.tuple ha
  obtain ⟨its2, r2, p2, _⟩ := I.tuple hb
  have i1 : IntsAre its.toArray.toList ns := intsAre_of r1
  have i2 : IntsAre its2.toArray.toList ms := intsAre_of r2
  exact HT.lt_tupInts p1 p2 i1 i2 hu ⟨.bl (HT.lexLt ns ms), H, I, rfl, q⟩
/-- t + u, t not empty: u empty gives t itself -/
def rCatT (K : PySem.W.Frag) : R2 := fun x y H Q => ∃ a b xs ys, x = .ref a ∧ y = .ref b ∧ SqT K H a xs ∧ SqT K H b ys ∧ xs ≠ [] ∧ xs.length + ys.length ≤ sizeLine ∧
  (ys = [] → Q (.ref a) H) ∧ (ys ≠ [] → ∀ p, H p = none → Q (.ref p) (upd H p (.tup (xs ++ ys))))
theorem Vals.nil_iff {xs : List V} {us : List Value} (r : Vals xs us) : us = [] ↔ xs = [] := by
  cases r with
  | nil => simp
  | cons _ _ => simp
theorem op_catT : OpR X (binaryOp .Add) (rCatT X.K) := by
  intro pins s σ H x y v u Q I rx ry h
  obtain ⟨a, b, xs, ys, rfl, rfl, ha, hb, hx, hz, q1, q2⟩ := h
  cases rx
  cases ry
  obtain ⟨its, r1, p1, _⟩ := I.tuple ha
  obtain ⟨its2, r2, p2, _⟩ := I.tuple hb
  refine HT.cat_tup p1 p2 (fun z => hx (r1.nil_iff.mp z)) (fun z => ⟨.ref a, H, I, rfl, q1 (r2.nil_iff.mp z)⟩) (fun z => ?_) (by rw [← r1.length, ← r2.length]; exact hz)
  refine ⟨.ref s.heap.objs.size, _, I.laid (t' := s.toks) (o := .tup (xs ++ ys)) (fun b ob q => Heap.get?_push_of_some _ q) (Nat.le_refl _) ?_, rfl, q2 (fun w => z (r2.nil_iff.mpr w)) _ (I.hok.fresh (Nat.le_refl _))⟩
  exact ⟨by rw [List.length_append]; exact hz, _, r1.append r2, IsTup.new _ _⟩
/-- tuple(t) -/
theorem call_tupleT : CallR X (.type "tuple") (fun xs H Q => ∃ a ys, xs = [.ref a] ∧ SqT X.K H a ys ∧ Q (.ref a) H) := by
  intro pins s σ H xs us Q I r h
  obtain ⟨a, ys, rfl, ha, q⟩ := h
  obtain ⟨u, rfl, ru⟩ := vals1 r
  cases ru
  obtain ⟨its, _, p1, _⟩ := I.tuple ha
  exact call_tuple_same (items := its.toArray) p1 ⟨.ref a, H, I, rfl, q⟩
end
end L2

namespace L2
open PySem PySem.Spec PyProof.Rows

/-! ### places -/
/-- the place that an index of any sign means -/
def ixN (n : Nat) (i : Int) : Option Nat := if 0 ≤ i then (if i < n then some i.toNat else none) else if -(n : Int) ≤ i then some (i + n).toNat else none
def atI {α : Type} (xs : List α) (i : Int) : Option α := (ixN xs.length i).bind fun j => xs[j]?
theorem ixN_seq {n : Nat} {i : Int} {j : Nat} (h : ixN n i = some j) : seqIndex? i n = some j ∧ j < n ∧ -(n : Int) ≤ i ∧ i < n := by
  unfold ixN at h
  by_cases h0 : 0 ≤ i
  · rw [if_pos h0] at h
    by_cases h1 : i < n
    · rw [if_pos h1] at h
      have e : i.toNat = j := Option.some.inj h
      exact ⟨by rw [seqIndex_of h0 h1, e], by omega, by omega, h1⟩
    · rw [if_neg h1] at h; cases h
  · rw [if_neg h0] at h
    by_cases h1 : -(n : Int) ≤ i
    · rw [if_pos h1] at h
      have e : (i + n).toNat = j := Option.some.inj h
      exact ⟨by rw [seqIndex_neg (by omega) h1, e], by omega, h1, by omega⟩
    · rw [if_neg h1] at h; cases h
theorem atI_get {α : Type} {xs : List α} {i : Int} {v : α} (h : atI xs i = some v) : ∃ j, seqIndex? i xs.length = some j ∧ xs[j]? = some v ∧ j < xs.length ∧ -(xs.length : Int) ≤ i ∧ i < xs.length := by
  unfold atI at h
  cases e : ixN xs.length i with
  | none => rw [e] at h; cases h
  | some j =>
    rw [e] at h
    obtain ⟨h1, h2, h3, h4⟩ := ixN_seq e
    exact ⟨j, h1, h, h2, h3, h4⟩
theorem atI_nat {α : Type} {xs : List α} {j : Nat} {v : α} (h : xs[j]? = some v) : atI xs (j : Int) = some v := by
  have hj : j < xs.length := (List.getElem?_eq_some_iff.mp h).1
  have e : ixN xs.length (j : Int) = some j := by
    unfold ixN
    rw [if_pos (by omega), if_pos (by omega)]; simp
  unfold atI; rw [e]; exact h
theorem atI_last {α : Type} (xs : List α) (v : α) : atI (xs ++ [v]) (-1) = some v := by
  have hl : (xs ++ [v]).length = xs.length + 1 := by simp
  have e : ixN (xs ++ [v]).length (-1) = some xs.length := by
    unfold ixN
    rw [hl, if_neg (by decide), if_pos (by omega)]
    congr 1
    omega
  unfold atI
  rw [e]
  show (xs ++ [v])[xs.length]? = some v
  simp

/-! ### what may be subscripted -/
/-- what stands as an index of a plain subscript -/
def PlainIx (b : Expr) : Prop := ∀ o i, subscripted b false o i = operate [o, i] (getItem o i)
/-- a subscript by values -/
def IxR (X : Cx) (r : R2) : Prop :=
  ∀ (value slice : Expr) (pins : List (Addr × Obj)) (s : Shared) (σ : St) (H : Hp) (x y : V) (v u : Value) (Q : VK), Inv X pins σ H s → RelV x v → RelV y u → r x y H Q →
    subscripted slice false v u = operate [v, u] (getItem v u) → wpAny (model X.prog X.w) X.A (subscriptTail value slice v u) (EP X pins σ Q) X.xe s
/-- a call of a builtin's method by values: the receiver, the arguments -/
def MtR (X : Cx) (id : String) (r : V → List V → Hp → VK → Prop) : Prop :=
  ∀ (pins : List (Addr × Obj)) (s : Shared) (σ : St) (H : Hp) (x : V) (xs : List V) (v : Value) (us : List Value) (Q : VK), Inv X pins σ H s → RelV x v → Vals xs us → r x xs H Q →
    wpAny (model X.prog X.w) X.A (call (.builtin id) (v :: us)) (EP X pins σ Q) X.xe s
section
variable {X : Cx} {a b : Expr} {ta tb : TE} {pos : Pos}
theorem IxR.or {r r' : R2} (h : IxR X r) (h' : IxR X r') : IxR X (fun x y H Q => r x y H Q ∨ r' x y H Q) := by
  intro value slice pins s σ H x y v u Q I rx ry q hs
  rcases q with q | q
  · exact h value slice pins s σ H x y v u Q I rx ry q hs
  · exact h' value slice pins s σ H x y v u Q I rx ry q hs
theorem MtR.or {id : String} {r r' : V → List V → Hp → VK → Prop} (h : MtR X id r) (h' : MtR X id r') : MtR X id (fun x xs H Q => r x xs H Q ∨ r' x xs H Q) := by
  intro pins s σ H x xs v us Q I rx rs q
  rcases q with q | q
  · exact h pins s σ H x xs v us Q I rx rs q
  · exact h' pins s σ H x xs v us Q I rx rs q
/-- a[b] -/
theorem pe_ix {r : R2} (hr : IxR X r) (ha : PE X a ta) (hb : PE X b tb) (hs : PlainIx b) : PE X (.Subscript a b pos) (tOp r ta tb) := by
  intro pins s σ H Q I h
  exact Subscript_ (binT ha hb I h fun v u s2 x y H2 I2 rx ry q => hr a b pins s2 σ H2 x y v u Q I2 rx ry q (hs _ _))

def rIxL (K : PySem.W.Frag) : R2 := fun x y H Q => ∃ p xs i v, x = .ref p ∧ y = .int i ∧ SqL K H p xs ∧ atI xs i = some v ∧ Q v H
def rIxT (K : PySem.W.Frag) : R2 := fun x y H Q => ∃ p xs i v, x = .ref p ∧ y = .int i ∧ SqT K H p xs ∧ atI xs i = some v ∧ Q v H
def rIxS : R2 := fun x y H Q => ∃ z i c, x = .str z ∧ y = .int i ∧ z.length ≤ sizeLine ∧ atI z.cps.toList i = some c ∧ Q (.str ⟨#[c]⟩) H
theorem ix_list : IxR X (rIxL X.K) := by
  intro value slice pins s σ H x y v u Q I rx ry h hs
  obtain ⟨p, xs, i, z, rfl, rfl, hq, he, q⟩ := h
  cases rx
  obtain ⟨t, rfl⟩ := ry
  obtain ⟨its, r, pl, hz⟩ := I.list hq
  obtain ⟨j, h1, h2, h3, h4, h5⟩ := atI_get he
  obtain ⟨w, ew, rw'⟩ := r.get h2
  have hl := r.length
  have hn := line63
  have fin : EP X pins σ Q w s := ⟨z, H, I, rw', q⟩
  by_cases h0 : 0 ≤ i
  · have hj : i.toNat = j := by
      rw [seqIndex_of h0 h5] at h1
      exact Option.some.inj h1
    exact item_listR pl.isList h0 (by omega) (by rw [hj]; simpa using ew) fin hs
  · have hj : (i + (its.toArray.size : Int)).toNat = j := by
      rw [seqIndex_neg (by omega) h4] at h1
      rw [List.size_toArray, ← hl]
      exact Option.some.inj h1
    exact subscriptTail_builtinR (x := w) pl.isList.typeIs slot_list_getitem.lookup
      (wpAny_getItem_list_neg (Q := fun r s' => r = w ∧ EP X pins σ Q r s') pl.isList (by omega) (by rw [List.size_toArray] <;> omega) (by omega) (by rw [hj]; simpa using ew) ⟨rfl, fin⟩) hs
theorem ix_tup : IxR X (rIxT X.K) := by
  intro value slice pins s σ H x y v u Q I rx ry h hs
  obtain ⟨p, xs, i, z, rfl, rfl, hq, he, q⟩ := h
  cases rx
  obtain ⟨t, rfl⟩ := ry
  obtain ⟨its, r, pl, hz⟩ := I.tuple hq
  obtain ⟨j, h1, h2, h3, h4, h5⟩ := atI_get he
  obtain ⟨w, ew, rw'⟩ := r.get h2
  have hl := r.length
  have hn := line63
  have fin : EP X pins σ Q w s := ⟨z, H, I, rw', q⟩
  exact subscriptTail_builtinR (x := w) pl.typeIs slot_tuple_getitem.lookup
    (getItem_tuple (j := j) (Q := fun r s' => r = w ∧ EP X pins σ Q r s') pl (by omega) (by omega) (by rw [List.size_toArray, ← hl]; exact h1) (by simpa using ew) ⟨rfl, fin⟩) hs
theorem ix_str : IxR X rIxS := by
  intro value slice pins s σ H x y v u Q I rx ry h hs
  obtain ⟨z, i, c, rfl, rfl, hz, he, q⟩ := h
  obtain ⟨t, rfl⟩ := rx
  obtain ⟨t', rfl⟩ := ry
  obtain ⟨j, h1, h2, h3, h4, h5⟩ := atI_get he
  have hl : z.cps.toList.length = z.length := by simp [Str.length]
  rw [hl] at h1 h4 h5
  have hn := line63
  exact tail_any (typeIs_str s z t) slot_str_getitem.lookup (getItem_str (c := c) (by
    have e1 : decide (i < -(2 ^ 63 : Int)) = false := decide_eq_false (by omega)
    have e2 : decide (i ≥ 2 ^ 63) = false := decide_eq_false (by omega)
    rw [e1, e2, Bool.or_false]) (by rw [h1]; simpa using h2) ⟨.str ⟨#[c]⟩, H, I.tok _, ⟨_, rfl⟩, q⟩) hs
/-- list, tuple or str -/
def rIx (K : PySem.W.Frag) : R2 := fun x y H Q => rIxL K x y H Q ∨ rIxT K x y H Q ∨ rIxS x y H Q
theorem ix_seq : IxR X (rIx X.K) := ix_list.or (ix_tup.or ix_str)

/-! ### xs[i] = v, any sign -/
/-- the list's object behind a store -/
theorem mapSeq_set (its : List Value) (n j : Nat) (u : Value) : Obj.mapSeq (·.setIfInBounds j u) { cls := .type "list", data := .seq its.toArray n } = { cls := .type "list", data := .seq (its.set j u).toArray n } := by
  simp [Obj.mapSeq]
theorem Inv.lst {pins : List (Addr × Obj)} {σ : St} {H : Hp} {s : Shared} {p : Addr} {xs : List V} (I : Inv X pins σ H s) (h : H p = some (.lst xs)) :
    ∃ (its : List Value) (n : Nat), Vals xs its ∧ s.heap.get? p = some { cls := .type "list", data := .seq its.toArray n } ∧ xs.length ≤ sizeLine := by
  obtain ⟨z, its, n, r, e⟩ := I.hok p _ h
  exact ⟨its, n, r, e, z⟩
/-- the list at p is written by an update of its object -/
theorem Inv.lstUpd {pins : List (Addr × Obj)} {σ : St} {H : Hp} {s : Shared} {p : Addr} {xs ys : List V} {its its' : List Value} {n n' : Nat} {f : Obj → Obj} (I : Inv X pins σ H s) (h : H p = some (.lst xs))
    (ho : s.heap.get? p = some { cls := .type "list", data := .seq its.toArray n }) (hf : f { cls := .type "list", data := .seq its.toArray n } = { cls := .type "list", data := .seq its'.toArray n' }) (r : Vals ys its') (hz : ys.length ≤ sizeLine) (t : Nat) :
    Inv X pins σ (upd H p (.lst ys)) { s with heap := s.heap.update p f, toks := t } := by
  have e : (s.heap.update p f).get? p = some { cls := .type "list", data := .seq its'.toArray n' } := by
    rw [Heap.get?_update_self f ho (by rw [hf] <;> rfl), hf]
  refine I.write (x := p) (e := p) (by rw [h]; trivial) (.inl rfl) (fun b u hb q => (Heap.get?_update_other _ _ (Ne.symm hb)).trans q) ⟨_, e⟩ ?_
  exact ⟨hz, its', n', r, e⟩
def rSetL : V → V → V → Hp → (Hp → Prop) → Prop := fun o i v H Q => ∃ p xs k j, o = .ref p ∧ i = .int k ∧ H p = some (.lst xs) ∧ ixN xs.length k = some j ∧ Q (upd H p (.lst (xs.set j v)))
theorem set_list : PSet X rSetL := by
  intro pins s σ H o i v ov iv u Q I ro ri rv h
  obtain ⟨p, xs, k, j, rfl, rfl, hp, hj, q⟩ := h
  cases ro
  obtain ⟨t, rfl⟩ := ri
  obtain ⟨its, n, r, ho, hz⟩ := I.lst hp
  obtain ⟨h1, h2, h3, h4⟩ := ixN_seq hj
  have hl := r.length
  have hn := line63
  have I' : Inv X pins σ (upd H p (.lst (xs.set j v))) { s with heap := s.heap.update p (Obj.mapSeq (·.setIfInBounds j u)) } :=
    I.lstUpd hp ho (mapSeq_set its n j u) (r.set rv j) (by rw [List.length_set]; exact hz) s.toks
  by_cases h0 : 0 ≤ k
  · have hk : k.toNat = j := by
      rw [seqIndex_of h0 h4] at h1
      exact Option.some.inj h1
    exact PySem.W.ki_setAt ho h0 (by omega) (by rw [List.size_toArray, ← hl]; exact h4) (by rw [hk]; exact ⟨_, I', q⟩)
  · have hk : (k + (its.toArray.size : Int)).toNat = j := by
      rw [seqIndex_neg (by omega) h3] at h1
      rw [List.size_toArray, ← hl]
      exact Option.some.inj h1
    exact PySem.W.ki_setBack ho (by omega) (by rw [List.size_toArray, ← hl]; exact h3) (by omega) (by rw [hk]; exact ⟨_, I', q⟩)

/-! ### slices -/
theorem slice_bounds (lo hi : Option Int) (n : Nat) : (sliceBounds lo hi none n).1 = ((HT.sIx n 0 lo : Nat) : Int) ∧ (sliceBounds lo hi none n).2.1 = ((HT.sIx n n hi : Nat) : Int) ∧ (sliceBounds lo hi none n).2.2 = 1 := by
  refine ⟨?_, ?_, rfl⟩
  · cases lo with
    | none => simp [sliceBounds, HT.sIx]
    | some i =>
      simp only [sliceBounds, HT.sIx, Option.getD_none, show (1 : Int) > 0 by decide, if_true]
      by_cases h : i < 0
      · simp only [h, if_true] <;> omega
      · simp only [h, if_false] <;> omega
  · cases hi with
    | none => simp [sliceBounds, HT.sIx]
    | some i =>
      simp only [sliceBounds, HT.sIx, Option.getD_none, show (1 : Int) > 0 by decide, if_true]
      by_cases h : i < 0
      · simp only [h, if_true] <;> omega
      · simp only [h, if_false] <;> omega
theorem slicePick_cut (its : List Value) (lo hi : Option Int) : slicePick its.toArray lo hi none = ((its.drop (HT.sIx its.length 0 lo)).take (HT.sIx its.length its.length hi - HT.sIx its.length 0 lo)).toArray := by
  obtain ⟨h1, h2, h3⟩ := slice_bounds lo hi its.toArray.size
  unfold slicePick
  rw [h1, h2, h3]
  simp only [sliceRange_one, pick_run, List.size_toArray] <;> rfl
/-- xs[lo:hi] of a list: a new list -/
def rSlL (K : PySem.W.Frag) : V → Option Int → Option Int → Hp → VK → Prop := fun x lo hi H Q => ∃ a xs, x = .ref a ∧ SqL K H a xs ∧ ∀ p, H p = none → Q (.ref p) (upd H p (.lst (cutV xs lo hi)))
theorem sl_list : SlR X (rSlL X.K) := by
  intro pins s σ H x v vl vu lo hi sl Q I rx hs pl pu h
  obtain ⟨a, xs, rfl, hx, q⟩ := h
  cases rx
  obtain ⟨its, r, ht, hz⟩ := I.list hx
  have hlen := r.length
  refine ⟨"list", _, slot_list_getitem.lookup, ht.isList.typeIs, ?_⟩
  refine wpAny_getItem_list_slice ht.isList hs pl pu .none (by simp) ?_ (by rw [List.size_toArray] <;> omega)
  rw [slicePick_cut, ← hlen]
  refine ⟨.ref s.heap.objs.size, _, I.laid (t' := s.toks) (o := .lst (cutV xs lo hi)) (fun b ob q => Heap.get?_push_of_some _ q) (Nat.le_refl _) ?_, rfl, q _ (I.hok.fresh (Nat.le_refl _))⟩
  exact ⟨Nat.le_trans (cutV_length xs lo hi) hz, _, 0, (r.drop (HT.sIx xs.length 0 lo)).take (HT.sIx xs.length xs.length hi - HT.sIx xs.length 0 lo), Heap.get?_push_size _ rfl⟩

/-! ### in, not in: flat items -/
def flatV : V → Bool
  | .non => true
  | .bl _ => true
  | .int _ => true
  | .str _ => true
  | _ => false
/-- == of flat values -/
def eqV : V → V → Bool
  | .non, .non => true
  | .bl a, .bl b => a == b
  | .bl a, .int b => (if a then 1 else 0) == b
  | .int a, .bl b => a == (if b then 1 else 0)
  | .int a, .int b => a == b
  | .str a, .str b => a == b
  | _, _ => false
theorem eqAt_V {A : Around} {s : Shared} {y x : V} {u v : Value} (ry : RelV y u) (rx : RelV x v) (fy : flatV y = true) (fx : flatV x = true) : SeqAt.EqAt A s u v (eqV y x) := by
  cases y with
  | non =>
    cases ry
    cases x with
    | non => cases rx; exact SeqAt.EqAt.same _
    | bl b => cases rx; exact SeqAt.EqAt.none_bool b
    | int b => obtain ⟨t, rfl⟩ := rx; exact SeqAt.EqAt.none_int b t
    | str b => obtain ⟨t, rfl⟩ := rx; exact SeqAt.EqAt.none_str b t
    | _ => exact absurd (show false = true from fx) Bool.false_ne_true
  | bl a =>
    cases ry
    cases x with
    | non => cases rx; exact SeqAt.EqAt.bool_none a
    | bl b => cases rx; exact SeqAt.EqAt.bool_bool a b
    | int b => obtain ⟨t, rfl⟩ := rx; exact SeqAt.EqAt.bool_int a b t
    | str b => obtain ⟨t, rfl⟩ := rx; exact SeqAt.EqAt.bool_str a b t
    | _ => exact absurd (show false = true from fx) Bool.false_ne_true
  | int a =>
    obtain ⟨t', rfl⟩ := ry
    cases x with
    | non => cases rx; exact SeqAt.EqAt.int_none a t'
    | bl b => cases rx; exact SeqAt.EqAt.int_bool a t' b
    | int b => obtain ⟨t, rfl⟩ := rx; exact SeqAt.EqAt.int_int a t' b t
    | str b => obtain ⟨t, rfl⟩ := rx; exact SeqAt.EqAt.int_str a t' b t
    | _ => exact absurd (show false = true from fx) Bool.false_ne_true
  | str a =>
    obtain ⟨t', rfl⟩ := ry
    cases x with
    | non => cases rx; exact SeqAt.EqAt.str_none a t'
    | bl b => cases rx; exact SeqAt.EqAt.str_bool a t' b
    | int b => obtain ⟨t, rfl⟩ := rx; exact SeqAt.EqAt.str_int a t' b t
    | str b => obtain ⟨t, rfl⟩ := rx; exact SeqAt.EqAt.str_str a t' b t
    | _ => exact absurd (show false = true from fx) Bool.false_ne_true
  | _ => exact absurd (show false = true from fy) Bool.false_ne_true
/-- the items' answers, read off the values (a value's own answer does not lean on its token) -/
def eqU (x : V) (u : Value) : Bool := match u with
  | .none => eqV .non x
  | .bool b => eqV (.bl b) x
  | .int i _ => eqV (.int i) x
  | .str z _ => eqV (.str z) x
  | _ => false
theorem eqU_of {x y : V} {u : Value} (r : RelV y u) (f : flatV y = true) : eqU x u = eqV y x := by
  cases y with
  | non => cases r; rfl
  | bl b => cases r; rfl
  | int i => obtain ⟨t, rfl⟩ := r; rfl
  | str z => obtain ⟨t, rfl⟩ := r; rfl
  | _ => exact absurd (show false = true from f) Bool.false_ne_true
theorem any_eqU {x : V} : ∀ {xs : List V} {us : List Value}, Vals xs us → xs.all flatV = true → us.any (eqU x) = xs.any fun y => eqV y x
  | _, _, .nil, _ => rfl
  | y :: xs, u :: us, .cons r t, f => by
    rw [List.all_cons, Bool.and_eq_true] at f
    rw [List.any_cons, List.any_cons, eqU_of r f.1, any_eqU t f.2]
theorem mem_eqAt {A : Around} {s : Shared} {x : V} {v : Value} (rx : RelV x v) (fx : flatV x = true) : ∀ {xs : List V} {us : List Value}, Vals xs us → xs.all flatV = true → ∀ u ∈ us, SeqAt.EqAt A s u v (eqU x u)
  | _, _, .nil, _ => fun u hu => by cases hu
  | y :: xs, u :: us, .cons r t, f => fun u' hu => by
    rw [List.all_cons, Bool.and_eq_true] at f
    rcases List.mem_cons.mp hu with rfl | hu
    · rw [eqU_of r f.1]; exact eqAt_V r rx f.1 fx
    · exact mem_eqAt rx fx t f.2 u' hu
def inV (x : V) (xs : List V) : Bool := xs.any fun y => eqV y x
/-- x in a list or tuple of flat items -/
def rIn (K : PySem.W.Frag) (neg : Bool) : R2 := fun x y H Q => ∃ p xs, y = .ref p ∧ (SqL K H p xs ∨ SqT K H p xs) ∧ flatV x = true ∧ xs.all flatV = true ∧ Q (.bl (if neg then !inV x xs else inV x xs)) H
theorem op_in_seq : OpR X (compareOp .In) (rIn X.K false) := by
  intro pins s σ H x y v u Q I rx ry h
  obtain ⟨p, xs, rfl, hq, fx, fs, q⟩ := h
  cases ry
  rcases hq with hq | hq
  · obtain ⟨its, r, pl, hz⟩ := I.list hq
    refine SeqAt.in_listAt (eqU x) pl.isList (fun w hw => mem_eqAt rx fx r fs w (by simpa using hw)) ⟨.bl _, H, I, rfl, ?_⟩
    rw [show its.toArray.any (eqU x) = its.any (eqU x) by simp, any_eqU r fs]
    exact q
  · obtain ⟨its, r, pl, hz⟩ := I.tuple hq
    refine SeqAt.in_tupleAt (eqU x) pl (fun w hw => mem_eqAt rx fx r fs w (by simpa using hw)) ⟨.bl _, H, I, rfl, ?_⟩
    rw [show its.toArray.any (eqU x) = its.any (eqU x) by simp, any_eqU r fs]
    exact q
theorem op_notIn_seq : OpR X (compareOp .NotIn) (rIn X.K true) := by
  intro pins s σ H x y v u Q I rx ry h
  obtain ⟨p, xs, rfl, hq, fx, fs, q⟩ := h
  cases ry
  rcases hq with hq | hq
  · obtain ⟨its, r, pl, hz⟩ := I.list hq
    refine SeqAt.notIn_listAt (eqU x) pl.isList (fun w hw => mem_eqAt rx fx r fs w (by simpa using hw)) ⟨.bl _, H, I, rfl, ?_⟩
    rw [show its.toArray.any (eqU x) = its.any (eqU x) by simp, any_eqU r fs]
    exact q
  · obtain ⟨its, r, pl, hz⟩ := I.tuple hq
    refine SeqAt.notIn_tupleAt (eqU x) pl (fun w hw => mem_eqAt rx fx r fs w (by simpa using hw)) ⟨.bl _, H, I, rfl, ?_⟩
    rw [show its.toArray.any (eqU x) = its.any (eqU x) by simp, any_eqU r fs]
    exact q
theorem op_notIn_str : OpR X (compareOp .NotIn) (fun x y H Q => ∃ i j, x = .str i ∧ y = .str j ∧ Q (.bl (!(!(Builtin.Str.occurrences j i 0 j.length 1).isEmpty))) H) := by
  intro pins s σ H x y v u Q I rx ry h
  obtain ⟨i, j, rfl, rfl, q⟩ := h
  obtain ⟨t, rfl⟩ := rx
  obtain ⟨t', rfl⟩ := ry
  exact notIn_str ⟨.bl _, H, I, rfl, q⟩

/-! ### len, list(x), tuple(x) of any list or tuple that is read -/
theorem call_len_seq : CallR X (.builtin "len") (fun xs H Q => ∃ p ys, xs = [.ref p] ∧ (SqL X.K H p ys ∨ SqT X.K H p ys) ∧ Q (.int ys.length) H) := by
  intro pins s σ H xs us Q I r h
  obtain ⟨p, ys, rfl, hq, q⟩ := h
  obtain ⟨u, rfl, rx⟩ := vals1 r
  cases rx
  have hn := line63
  rcases hq with hq | hq
  · obtain ⟨its, r', pl, hz⟩ := I.list hq
    have hlen := r'.length
    exact Calls.call_len_list pl.isList (by simp only [List.size_toArray] <;> omega) ⟨.int ys.length, H, I.tok _, ⟨s.toks + 1, by rw [List.size_toArray, hlen]⟩, q⟩
  · obtain ⟨its, r', pl, hz⟩ := I.tuple hq
    have hlen := r'.length
    exact len_tuple pl (by simp only [List.size_toArray] <;> omega) ⟨.int ys.length, H, I.tok _, ⟨s.toks + 1, by rw [List.size_toArray, hlen]⟩, q⟩
theorem call_len_str : CallR X (.builtin "len") (fun xs H Q => ∃ z, xs = [.str z] ∧ z.length ≤ sizeLine ∧ Q (.int z.length) H) := by
  intro pins s σ H xs us Q I r h
  obtain ⟨z, rfl, hz, q⟩ := h
  obtain ⟨u, rfl, t, rfl⟩ := vals1 r
  have hn := line63
  exact len_str (by omega) ⟨.int z.length, H, I.tok _, ⟨_, rfl⟩, q⟩
theorem CallR.or {f : Value} {r r' : List V → Hp → VK → Prop} (h : CallR X f r) (h' : CallR X f r') : CallR X f (fun xs H Q => r xs H Q ∨ r' xs H Q) := by
  intro pins s σ H xs us Q I rs q
  rcases q with q | q
  · exact h pins s σ H xs us Q I rs q
  · exact h' pins s σ H xs us Q I rs q
theorem call_list_of : CallR X (.type "list") (fun xs H Q => ∃ p ys, xs = [.ref p] ∧ (SqL X.K H p ys ∨ SqT X.K H p ys) ∧ ∀ l, H l = none → Q (.ref l) (upd H l (.lst ys))) := by
  intro pins s σ H xs us Q I r h
  obtain ⟨p, ys, rfl, hq, q⟩ := h
  obtain ⟨u, rfl, rx⟩ := vals1 r
  cases rx
  have fin : ∀ (its : List Value), Vals ys its → ys.length ≤ sizeLine → ∀ (h' : Heap) (c' : Nat), (∀ b o', s.heap.get? b = some o' → h'.get? b = some o') →
      h'.get? s.heap.objs.size = some { cls := .type "list", dict := none, data := .seq its.toArray c', slots := #[] } → EP X pins σ Q (.ref s.heap.objs.size) { s with heap := h' } := fun its r' hz h' c' kp e =>
    ⟨.ref s.heap.objs.size, _, I.laid (t' := s.toks) kp (Nat.le_refl _) (show ObjOk X.prog X.w _ h' _ (.lst ys) from ⟨hz, its, c', r', e⟩), rfl, q _ (I.hok.fresh (Nat.le_refl _))⟩
  rcases hq with hq | hq
  · obtain ⟨its, r', pl, hz⟩ := I.list hq
    have hlen := r'.length
    obtain ⟨o, ho, hc, n, hd⟩ := pl.isList
    exact call_list_seq p (.inl rfl) ho hc hd (fun h' c' kp e => fin its r' hz h' c' kp e) (by simp only [List.size_toArray] <;> omega)
  · obtain ⟨its, r', pl, hz⟩ := I.tuple hq
    have hlen := r'.length
    obtain ⟨o, ho, hc, n, hd⟩ := pl
    exact call_list_seq p (.inr rfl) ho hc hd (fun h' c' kp e => fin its r' hz h' c' kp e) (by simp only [List.size_toArray] <;> omega)
theorem call_tuple_of : CallR X (.type "tuple") (fun xs H Q => ∃ p ys, xs = [.ref p] ∧ ((SqL X.K H p ys ∧ ∀ l, H l = none → Q (.ref l) (upd H l (.tup ys))) ∨ (SqT X.K H p ys ∧ Q (.ref p) H))) := by
  intro pins s σ H xs us Q I r h
  obtain ⟨p, ys, rfl, h⟩ := h
  obtain ⟨u, rfl, rx⟩ := vals1 r
  cases rx
  rcases h with ⟨hq, q⟩ | ⟨hq, q⟩
  · obtain ⟨its, r', pl, hz⟩ := I.list hq
    have hlen := r'.length
    refine call_tuple_list pl.isList (fun h' kp => ?_) (by simp only [List.size_toArray] <;> omega)
    have I1 : Inv X pins σ H { s with heap := h' } := I.kept (t' := s.toks) kp
    have I2 : Inv X pins σ (upd H h'.objs.size (.tup ys)) { s with heap := h'.push { cls := .type "tuple", data := .seq its.toArray } } :=
      I1.laid (t' := s.toks) (fun b o e => Heap.get?_push_of_some _ e) (Nat.le_refl _) (show ObjOk X.prog X.w _ _ _ (.tup ys) from ⟨hz, its, r', IsTup.new _ _⟩)
    exact ⟨.ref h'.objs.size, _, I2, rfl, q _ (I1.hok.fresh (Nat.le_refl _))⟩
  · obtain ⟨its, r', pl, hz⟩ := I.tuple hq
    exact call_tuple_same pl ⟨.ref p, H, I, rfl, q⟩

/-! ### the call of a builtin's method: o.m(..) -/
/-- the value is of that builtin type -/
def tyV (K : PySem.W.Frag) (T : String) (x : V) (H : Hp) : Prop := match x with
  | .str _ => T = "str"
  | .int _ => T = "int"
  | .ref p => (T = "list" ∧ ∃ xs, SqL K H p xs) ∨ (T = "tuple" ∧ ∃ o, K.lookup p = some o ∧ o.cls = .type "tuple" ∧ o.dict = none) ∨
      (T = "dict" ∧ ((∃ kvs, H p = some (.dK kvs)) ∨ ∃ kvs, H p = some (.dT kvs))) ∨ (T = "set" ∧ ∃ S n, H p = some (.set S n))
  | _ => False
theorem tyV_is {pins : List (Addr × Obj)} {σ : St} {H : Hp} {s : Shared} {T : String} {x : V} {v : Value} (I : Inv X pins σ H s) (r : RelV x v) (ty : tyV X.K T x H) :
    s.TypeIs v T ∧ ∀ a, v = .ref a → ∃ ob, s.heap.get? a = some ob ∧ ob.dict = none := by
  cases x with
  | str z =>
    obtain ⟨t, rfl⟩ := r
    cases (show T = "str" from ty)
    exact ⟨typeIs_str s z t, fun _ e => nomatch e⟩
  | int i =>
    obtain ⟨t, rfl⟩ := r
    cases (show T = "int" from ty)
    exact ⟨typeIs_int s i t, fun _ e => nomatch e⟩
  | ref p =>
    cases r
    rcases ty with ⟨rfl, xs, hq⟩ | ⟨rfl, o, hk, hc, hd⟩ | ⟨rfl, hk⟩ | ⟨rfl, S, n, hk⟩
    · obtain ⟨its, _, pl, _⟩ := I.list hq
      refine ⟨pl.isList.typeIs, fun a e => ?_⟩
      cases e
      obtain ⟨o, n, e, c, hd, _⟩ := pl
      exact ⟨o, e, hd⟩
    · refine ⟨⟨o, I.kIn p o hk, hc⟩, fun a e => ?_⟩
      cases e
      exact ⟨o, I.kIn _ o hk, hd⟩
    · have z : ∃ o, s.heap.get? p = some o ∧ o.ExactDict := by
        rcases hk with ⟨kvs, hk⟩ | ⟨kvs, hk⟩
        · obtain ⟨_, _, _, _, o, _, _, e, ex, _⟩ := I.hok p _ hk
          exact ⟨o, e, ex⟩
        · obtain ⟨_, _, _, _, o, _, _, e, ex, _⟩ := I.hok p _ hk
          exact ⟨o, e, ex⟩
      obtain ⟨o, e, ex⟩ := z
      refine ⟨⟨o, e, ex.1⟩, fun a e2 => ?_⟩
      cases e2
      exact ⟨o, e, ex.2.1⟩
    · obtain ⟨o, _, _, _, e, ex, _⟩ := I.hok p _ hk
      refine ⟨⟨o, e, ex.1⟩, fun a e2 => ?_⟩
      cases e2
      exact ⟨o, e, ex.2.1⟩
  | _ => exact False.elim ty
def tBM0 (K : PySem.W.Frag) (T : String) (r : V → List V → Hp → VK → Prop) (to : TE) : TE := fun σ H Q => to σ H fun x H1 => tyV K T x H1 ∧ r x [] H1 Q
def tBM (K : PySem.W.Frag) (T : String) (r : V → List V → Hp → VK → Prop) (to : TE) (t : TA) : TE := fun σ H Q => to σ H fun x H1 => tyV K T x H1 ∧ t σ H1 fun xs H2 => r x xs H2 Q
variable {o e : Expr} {es : List Expr} {to : TE} {t : TA} {name : Str} {apos cpos : Pos} {T id : String} {r : V → List V → Hp → VK → Prop}
theorem pe_bm0 (pa : PlainAttrs T) (slot : Slot T name id) (hty : typeOf (.builtin id) = pure (.type "method_descriptor")) (hm : MtR X id r) (ho : PE X o to)
    (hbase : attributeBase o name X.env (eval o X.env) = eval o X.env := by rfl) (hline : (apos.endLine == cpos.line) = true := by rfl) : PE X (.Call (.Attribute o name apos) [] [] cpos) (tBM0 X.K T r to) := by
  intro pins s σ H Q I h
  refine wpAny_Call_method0_late hbase hline (thn (ho pins s σ H _ I h) fun v s1 ⟨x, H1, I1, r1, ty, q1⟩ => ?_)
  obtain ⟨h1, h2⟩ := tyV_is I1 r1 ty
  exact ⟨T, id, pa, slot, hty, h1, h2, Calls.callWith_builtin rfl (PySem.evalArgs_none (hm pins s1 σ H1 x [] v [] Q I1 r1 .nil q1))⟩
theorem pe_bm (pa : PlainAttrs T) (slot : Slot T name id) (hty : typeOf (.builtin id) = pure (.type "method_descriptor")) (hm : MtR X id r) (ho : PE X o to) (ha : PA X (e :: es) t)
    (hbase : attributeBase o name X.env (eval o X.env) = eval o X.env := by rfl)
    (hfew : ((backTo cpos (starEach (e :: es) X.env)).all (fun x => !x.1) && (backToKw cpos (keywordEach [] X.env)).all (fun x => x.1.isSome)
      && decide ((e :: es).length + ([] : List Keyword).length + (if ([] : List Keyword).isEmpty then 0 else 1) < 30)) = true := by rfl)
    (hline : (apos.endLine == cpos.line) = true := by rfl) (hs : starEach (e :: es) X.env = (false, eval e X.env) :: starEach es X.env := by rfl) (hplain : (backTo cpos (starEach es X.env)).any (·.1) = false := by rfl) :
    PE X (.Call (.Attribute o name apos) (e :: es) [] cpos) (tBM X.K T r to t) := by
  intro pins s σ H Q I h
  refine wpAny_Call_method_late hbase hfew hline rfl (thn (ho pins s σ H _ I h) fun v s1 ⟨x, H1, I1, r1, ty, q1⟩ => ?_)
  obtain ⟨h1, h2⟩ := tyV_is I1 r1 ty
  refine ⟨T, id, pa, slot, hty, h1, h2, ?_⟩
  have hA := ha cpos pins s1 σ H1 _ I1 q1
  rw [hs] at hA ⊢
  refine Calls.callWith_builtin (by show (false || (backTo cpos (starEach es X.env)).any (·.1)) = false; rw [hplain] <;> rfl) (Calls.evalArgs_plain ?_)
  exact thn hA fun us s2 ⟨vs, H2, I2, r2, q2⟩ => hm pins s2 σ H2 x vs v us Q I2 r1 r2 q2
/- xs.append(e), list.index on a module's tuple .. are MtR facts of 06m -/
end
end L2

namespace L2
open PySem PySem.Spec PyProof.Rows

def MtM (X : Cx) (id : String) (r : V → List V → Hp → VK → Prop) : Prop :=
  ∀ (pins : List (Addr × Obj)) (s : Shared) (σ : St) (H : Hp) (x : V) (xs : List V) (v : Value) (us : List Value) (Q : VK), Inv X pins σ H s → RelV x v → Vals xs us → r x xs H Q →
    wpAny (model X.prog X.w) X.A (call (.builtin id) (v :: us)) (EP X pins σ Q) X.xe s

/-! ### lists of values -/
theorem Vals.one : ∀ {x : V} {us : List Value}, Vals [x] us → ∃ u, us = [u] ∧ RelV x u
  | _, _, .cons r .nil => ⟨_, rfl, r⟩
theorem Vals.two : ∀ {x y : V} {us : List Value}, Vals [x, y] us → ∃ u v, us = [u, v] ∧ RelV x u ∧ RelV y v
  | _, _, _, .cons r (.cons q .nil) => ⟨_, _, rfl, r, q⟩
theorem Vals.zero : ∀ {us : List Value}, Vals [] us → us = []
  | _, .nil => rfl
theorem Vals.dropLast {xs : List V} {us : List Value} (h : Vals xs us) : Vals xs.dropLast us.dropLast := by
  induction h with
  | nil => exact .nil
  | cons r t ih =>
    cases t with
    | nil => exact .nil
    | cons q t' => exact .cons r ih
theorem Vals.eraseIdx : ∀ {xs : List V} {us : List Value} (i : Nat), Vals xs us → Vals (xs.eraseIdx i) (us.eraseIdx i)
  | _, _, _, .nil => .nil
  | _, _, 0, .cons _ t => t
  | _, _, i + 1, .cons r t => .cons r (Vals.eraseIdx i t)
theorem Vals.reverse {xs : List V} {us : List Value} (h : Vals xs us) : Vals xs.reverse us.reverse := by
  induction h with
  | nil => exact .nil
  | cons r t ih => rw [List.reverse_cons, List.reverse_cons]; exact Vals.append ih (.cons r .nil)
theorem Vals.rep {xs : List V} {us : List Value} (h : Vals xs us) : ∀ k : Nat, Vals (List.replicate k xs).flatten (List.replicate k us).flatten
  | 0 => .nil
  | k + 1 => by
    rw [List.replicate_succ, List.replicate_succ, List.flatten_cons, List.flatten_cons]
    exact Vals.append h (Vals.rep h k)
theorem erase_last {α : Type} (l : List α) : l.eraseIdx (l.length - 1) = l.dropLast := by
  induction l with
  | nil => rfl
  | cons a r ih =>
    cases r with
    | nil => rfl
    | cons b r =>
      have e : (a :: b :: r).length - 1 = ((b :: r).length - 1) + 1 := by
        have h1 : (a :: b :: r).length = r.length + 2 := rfl
        have h2 : (b :: r).length = r.length + 1 := rfl
        omega
      rw [e, List.eraseIdx_cons_succ, ih]
      all_goals rfl
theorem len_erase {α : Type} : ∀ (l : List α) (i : Nat), (l.eraseIdx i).length ≤ l.length
  | [], _ => Nat.le_refl _
  | _ :: _, 0 => Nat.le_succ _
  | _ :: r, i + 1 => Nat.succ_le_succ (len_erase r i)
theorem foldl_rep (its : List Value) : ∀ (k : Nat) (acc : List Value),
    List.foldl (fun x1 x2 => x1 ++ x2) acc.toArray (List.replicate k its.toArray) = (acc ++ (List.replicate k its).flatten).toArray
  | 0, acc => by simp
  | k + 1, acc => by
    have e : acc.toArray ++ its.toArray = (acc ++ its).toArray := by simp
    have e2 : (acc ++ its) ++ (List.replicate k its).flatten = acc ++ (List.replicate (k + 1) its).flatten := by
      rw [List.replicate_succ, List.flatten_cons, List.append_assoc]
    rw [← e2, ← foldl_rep its k (acc ++ its), ← e, List.replicate_succ, List.foldl_cons]

section
variable {X : Cx} {pins : List (Addr × Obj)} {σ : St} {H : Hp} {s : Shared} {l b : Addr} {xs ys zs : List V}

/-! ### the two steps: a tracked list is rewritten, a new list is laid -/
theorem Inv.lset {its its' : List Value} {n : Nat} {f : Array Value → Array Value} {t' : Nat} (I : Inv X pins σ H s) (hH : H l = some (.lst xs))
    (e : s.heap.get? l = some { cls := .type "list", data := .seq its.toArray n }) (hf : f its.toArray = its'.toArray) (hv : Vals ys its') (hz : ys.length ≤ sizeLine) :
    Inv X pins σ (upd H l (.lst ys)) { s with heap := s.heap.update l (Obj.mapSeq f), toks := t' } := by
  have q := PySem.IsL.update e f
  rw [hf] at q
  refine I.write (x := l) (e := l) (by rw [hH]; exact trivial) (.inl rfl) (fun b' u hb hu => (Heap.get?_update_other s.heap (Obj.mapSeq f) (Ne.symm hb)).trans hu) ⟨_, q⟩ ?_
  exact ⟨hz, its', _, hv, q⟩
theorem Inv.lnew {its : List Value} {t' : Nat} (I : Inv X pins σ H s) (hv : Vals ys its) (hz : ys.length ≤ sizeLine) :
    Inv X pins σ (upd H s.heap.objs.size (.lst ys)) { s with heap := s.heap.push { cls := .type "list", data := .seq its.toArray }, toks := t' } :=
  I.laid (fun _ _ q => Heap.get?_push_of_some _ q) (Nat.le_refl _) ⟨hz, its, 0, hv, Heap.get?_push_size _ rfl⟩
theorem Inv.fresh (I : Inv X pins σ H s) : H s.heap.objs.size = none := I.hok.fresh (Nat.le_refl _)
theorem Inv.lstM (I : Inv X pins σ H s) (hH : H l = some (.lst xs)) : xs.length ≤ sizeLine ∧ ∃ (its : List Value) (n : Nat), Vals xs its ∧ xs.length = its.length ∧ s.heap.get? l = some { cls := .type "list", data := .seq its.toArray n } := by
  obtain ⟨z, its, n, r, e⟩ := I.hok l _ hH
  exact ⟨z, its, n, r, r.length, e⟩

theorem notLongL {n : Nat} (h : n ≤ sizeLine) : Builtin.List.listTooLong n = false := by
  unfold Builtin.List.listTooLong
  exact decide_eq_false (by omega)
end

section
variable {X : Cx}

/-! ### methods -/
def rAppend : V → List V → Hp → VK → Prop := fun x vs H Q => ∃ l xs y, x = .ref l ∧ vs = [y] ∧ H l = some (.lst xs) ∧ xs.length < sizeLine ∧ Q .non (upd H l (.lst (xs ++ [y])))
theorem mt_append : MtM X "list.append" rAppend := by
  intro pins s σ H x vs v us Q I rx rv h
  obtain ⟨l, xs, y, rfl, rfl, hH, hz, q⟩ := h
  cases rx
  obtain ⟨u, rfl, ru⟩ := rv.one
  obtain ⟨z, its, n, r, hl, e⟩ := I.lstM hH
  refine call_meets F.slot_list_append ⟨_, e, rfl⟩ F.entry_list_append (F.args_list_append_2 _ _) (PySem.list_append l its.toArray n u (by rw [List.size_toArray]; omega)) ⟨e, ?_⟩
  refine ⟨.non, _, I.lset (its' := its ++ [u]) hH e (by simp) (r.append (.cons ru .nil)) ?_, rfl, q⟩
  rw [List.length_append, List.length_singleton]
  omega

def rExtend : V → List V → Hp → VK → Prop := fun x vs H Q => ∃ l b xs zs, x = .ref l ∧ vs = [.ref b] ∧ H l = some (.lst xs) ∧ H b = some (.lst zs) ∧ xs.length + zs.length ≤ sizeLine ∧ Q .non (upd H l (.lst (xs ++ zs)))
theorem mt_extend : MtM X "list.extend" rExtend := by
  intro pins s σ H x vs v us Q I rx rv h
  obtain ⟨l, b, xs, zs, rfl, rfl, hH, hB, hz, q⟩ := h
  cases rx
  obtain ⟨u, rfl, ru⟩ := rv.one
  cases ru
  obtain ⟨z, its, n, r, hl, e⟩ := I.lstM hH
  obtain ⟨z2, its2, n2, r2, hl2, e2⟩ := I.lstM hB
  have hsz : its.toArray.size + its2.toArray.size ≤ sizeLine := by rw [List.size_toArray, List.size_toArray]; omega
  have hlong : ¬ (!its.toArray.isEmpty && Builtin.List.listTooLong (its.toArray.size + its2.toArray.size)) = true := by
    rw [notLongL hsz, Bool.and_false]
    exact Bool.false_ne_true
  refine call_meets F.slot_list_extend ⟨_, e, rfl⟩ F.entry_list_extend (F.args_list_extend_2 _ _)
    (AutoSeq1.list_extend_list_list_0 l its.toArray n b its2.toArray n2 hlong (by rw [List.size_toArray]; omega) (by omega)) ⟨e, e2, ?_⟩
  refine ⟨.non, _, I.lset (its' := its ++ its2) hH e (by simp) (r.append r2) ?_, rfl, q⟩
  rw [List.length_append]
  omega

def rPop : V → List V → Hp → VK → Prop := fun x vs H Q => ∃ l xs y, x = .ref l ∧ vs = [] ∧ H l = some (.lst xs) ∧ xs[xs.length - 1]? = some y ∧ Q y (upd H l (.lst xs.dropLast))
theorem mt_pop : MtM X "list.pop" rPop := by
  intro pins s σ H x vs v us Q I rx rv h
  obtain ⟨l, xs, y, rfl, rfl, hH, hy, q⟩ := h
  cases rx
  have hus := rv.zero
  subst hus
  obtain ⟨z, its, n, r, hl, e⟩ := I.lstM hH
  obtain ⟨u, hu, ru⟩ := r.get hy
  have hy' : its.toArray[its.toArray.size - 1]? = some u := by
    show its.toArray[its.length - 1]? = some u
    rw [← Array.getElem?_toList, ← hl]
    exact hu
  refine call_meets F.slot_list_pop ⟨_, e, rfl⟩ F.entry_list_pop (F.args_list_pop_1 _) (MeetsSeq.list_pop_last l its.toArray n u hy' (by rw [List.size_toArray]; omega)) ⟨e, ?_⟩
  refine ⟨y, _, I.lset (its' := its.dropLast) hH e ?_ r.dropLast ?_, ru, q⟩
  · show its.toArray.eraseIdxIfInBounds (its.toArray.size - 1) = its.dropLast.toArray
    rw [List.size_toArray, List.eraseIdxIfInBounds_toArray, erase_last]
  · rw [List.length_dropLast]
    omega

def rPopAt : V → List V → Hp → VK → Prop := fun x vs H Q => ∃ l xs i k y, x = .ref l ∧ vs = [.int i] ∧ H l = some (.lst xs) ∧ -(2 ^ 63) ≤ i ∧ i < 2 ^ 63 ∧ seqIndex? i xs.length = some k ∧ xs[k]? = some y ∧ Q y (upd H l (.lst (xs.eraseIdx k)))
theorem mt_popAt : MtM X "list.pop" rPopAt := by
  intro pins s σ H x vs v us Q I rx rv h
  obtain ⟨l, xs, i, k, y, rfl, rfl, hH, h1, h2, hk, hy, q⟩ := h
  cases rx
  obtain ⟨u, rfl, ru⟩ := rv.one
  obtain ⟨t, rfl⟩ := ru
  obtain ⟨z, its, n, r, hl, e⟩ := I.lstM hH
  obtain ⟨w, hw, rw'⟩ := r.get hy
  refine call_meets F.slot_list_pop ⟨_, e, rfl⟩ F.entry_list_pop (F.args_list_pop_2 _ _)
    (MeetsSeq.list_pop_at l its.toArray n i t k w (fitsIndex_both h1 h2) (by rw [List.size_toArray, ← hl]; exact hk) (by rw [← Array.getElem?_toList]; exact hw) (by rw [List.size_toArray]; omega)) ⟨e, ?_⟩
  refine ⟨y, _, I.lset (its' := its.eraseIdx k) hH e ?_ (r.eraseIdx k) ?_, rw', q⟩
  · show its.toArray.eraseIdxIfInBounds k = (its.eraseIdx k).toArray
    rw [List.eraseIdxIfInBounds_toArray]
  · have := len_erase xs k
    omega

def rReverse : V → List V → Hp → VK → Prop := fun x vs H Q => ∃ l xs, x = .ref l ∧ vs = [] ∧ H l = some (.lst xs) ∧ Q .non (upd H l (.lst xs.reverse))
theorem mt_reverse : MtM X "list.reverse" rReverse := by
  intro pins s σ H x vs v us Q I rx rv h
  obtain ⟨l, xs, rfl, rfl, hH, q⟩ := h
  cases rx
  have hus := rv.zero
  subst hus
  obtain ⟨z, its, n, r, hl, e⟩ := I.lstM hH
  refine call_meets F.slot_list_reverse ⟨_, e, rfl⟩ F.entry_list_reverse (F.args_list_reverse_1 _) (AutoSeq1.list_reverse_list_0 l its.toArray n (by rw [List.size_toArray]; omega)) ⟨e, ?_⟩
  refine ⟨.non, _, I.lset (its' := its.reverse) hH e (by simp) r.reverse ?_, rfl, q⟩
  rw [List.length_reverse]
  omega

def rClear : V → List V → Hp → VK → Prop := fun x vs H Q => ∃ l xs, x = .ref l ∧ vs = [] ∧ H l = some (.lst xs) ∧ Q .non (upd H l (.lst []))
theorem mt_clear : MtM X "list.clear" rClear := by
  intro pins s σ H x vs v us Q I rx rv h
  obtain ⟨l, xs, rfl, rfl, hH, q⟩ := h
  cases rx
  have hus := rv.zero
  subst hus
  obtain ⟨z, its, n, r, hl, e⟩ := I.lstM hH
  refine call_meets F.slot_list_clear ⟨_, e, rfl⟩ F.entry_list_clear (F.args_list_clear_1 _) (AutoSeq1.list_clear_list_0 l its.toArray n (by rw [List.size_toArray]; omega)) ⟨e, ?_⟩
  exact ⟨.non, _, I.lset (its' := []) (ys := []) hH e rfl .nil (Nat.zero_le _), rfl, q⟩

/-! ### list + list, list += list, list * int -/
def rCat : R2 := fun x y H Q => ∃ l b xs zs, x = .ref l ∧ y = .ref b ∧ H l = some (.lst xs) ∧ H b = some (.lst zs) ∧ xs.length + zs.length ≤ sizeLine ∧ ∀ p, H p = none → Q (.ref p) (upd H p (.lst (xs ++ zs)))
theorem op_cat : OpR X (binaryOp .Add) rCat := by
  intro pins s σ H x y v u Q I rx ry h
  obtain ⟨l, b, xs, zs, rfl, rfl, hH, hB, hz, q⟩ := h
  cases rx
  cases ry
  obtain ⟨z, its, n, r, hl, e⟩ := I.lstM hH
  obtain ⟨z2, its2, n2, r2, hl2, e2⟩ := I.lstM hB
  refine PySem.P.add_list e e2 ?_ (by rw [List.size_toArray, List.size_toArray]; omega)
  have ea : its.toArray ++ its2.toArray = (its ++ its2).toArray := by simp
  rw [ea]
  exact ⟨.ref _, _, I.lnew (t' := s.toks) (r.append r2) (by rw [List.length_append]; omega), rfl, q _ I.fresh⟩
/-- a list times an int (a negative one is nothing) -/
def rRep : R2 := fun x y H Q => ∃ l k xs, x = .ref l ∧ y = .int k ∧ H l = some (.lst xs) ∧ -(2 ^ 63) ≤ k ∧ k < 2 ^ 63 ∧ xs.length * k.toNat ≤ sizeLine ∧
  ∀ p, H p = none → Q (.ref p) (upd H p (.lst (List.replicate k.toNat xs).flatten))
theorem len_rep {α : Type} (xs : List α) (k : Nat) : (List.replicate k xs).flatten.length = k * xs.length := by
  induction k with
  | zero => simp
  | succ k ih => rw [List.replicate_succ, List.flatten_cons, List.length_append, ih, Nat.succ_mul, Nat.add_comm]
theorem op_rep : OpR X (binaryOp .Mult) rRep := by
  intro pins s σ H x y v u Q I rx ry h
  obtain ⟨l, k, xs, rfl, rfl, hH, h1, h2, hz, q⟩ := h
  cases rx
  obtain ⟨t, rfl⟩ := ry
  obtain ⟨z, its, n, r, hl, e⟩ := I.lstM hH
  have hlen : its.toArray.size * k.toNat ≤ sizeLine := by rw [List.size_toArray, ← hl]; exact hz
  have hcap : ¬ its.toArray.size * k.toNat > (2 ^ 63 - 1) / 8 := by
    have : (sizeLine : Nat) ≤ (2 ^ 63 - 1) / 8 := by decide
    omega
  have hfit : ¬ (!Builtin.List.listFitsIndex k) = true := by
    rw [fitsIndex_both h1 h2]
    exact Bool.false_ne_true
  have hlong : ¬ Builtin.List.listTooLong (its.toArray.size * k.toNat) = true := by
    rw [notLongL hlen]
    exact Bool.false_ne_true
  have hnew : List.foldl (fun x1 x2 => x1 ++ x2) #[] (List.replicate (if its.toArray.isEmpty = true then 0 else k.toNat) its.toArray) = (List.replicate k.toNat its).flatten.toArray := by
    have f0 : ∀ m : Nat, List.foldl (fun x1 x2 => x1 ++ x2) #[] (List.replicate m its.toArray) = (List.replicate m its).flatten.toArray := fun m => by
      have := foldl_rep its m []
      rw [List.nil_append] at this
      exact this
    rw [f0]
    cases its with
    | nil => simp
    | cons a r' => rw [if_neg (by simp)]
  refine wpAny_binaryOp_repeat_ref (T := "list") (U := "int") (by decide) ⟨_, e, rfl⟩ (fun s' => typeIs_int s' k t) noFill_list_mul F.fills_int_mul F.slot_int_rmul repeat_list F.slot_int_index.lookup
    (call_meets F.slot_int_rmul (typeIs_int s k t) F.entry_int_rmul (F.args_int_rmul_2 _ _) (int___rmul___int_list k t l its.toArray n)
      ⟨e, rfl, ⟨_, e, rfl⟩, call_meets F.slot_list_mul ⟨_, e, rfl⟩ F.entry_list_mul (F.args_list_mul_2 _ _) (AutoListH.list___mul___list_int_3 l its.toArray n k t hfit hcap hlong) ⟨e, ?_⟩⟩)
  rw [hnew]
  exact ⟨.ref _, _, I.lnew (t' := s.toks) (r.rep k.toNat) (by rw [len_rep, Nat.mul_comm]; exact hz), rfl, q _ I.fresh⟩

/-! ### del xs[i] -/
theorem del_list {pins : List (Addr × Obj)} {s : Shared} {σ : St} {H : Hp} {l : Addr} {xs : List V} {i : Int} {t : Tok} {k : Nat} {Q : Unit → Shared → Prop} (I : Inv X pins σ H s) (hH : H l = some (.lst xs))
    (h1 : -(2 ^ 63) ≤ i) (h2 : i < 2 ^ 63) (hk : seqIndex? i xs.length = some k) (h : ∀ s', Inv X pins σ (upd H l (.lst (xs.eraseIdx k))) s' → Q () s') :
    wpAny (model X.prog X.w) X.A (delItem (.ref l) (.int i t)) Q X.xe s := by
  obtain ⟨z, its, n, r, hl, e⟩ := I.lstM hH
  refine PySem.P.delItem_list (k := k) e (fitsIndex_both h1 h2) (by rw [List.size_toArray, ← hl]; exact hk) (h _ ?_) (by rw [List.size_toArray]; omega)
  refine I.lset (its' := its.eraseIdx k) (t' := s.toks) hH e ?_ (r.eraseIdx k) ?_
  · show its.toArray.eraseIdxIfInBounds k = (its.eraseIdx k).toArray
    rw [List.eraseIdxIfInBounds_toArray]
  · have := len_erase xs k
    omega
end

/-! ### xs[a:b] = ys -/
section
variable {prog : Program} {w : World} {A : Around} {E : Value → Shared → Prop} {s : Shared}
theorem splice_eq (its its2 : List Value) (a c : Nat) : its.toArray.extract 0 a ++ its2.toArray ++ its.toArray.extract c its.toArray.size = (its.take a ++ its2 ++ its.drop c).toArray := by
  apply Array.toList_inj.mp
  first
    | (simp
       exact List.take_of_length_le (by simp))
    | simp [List.take_of_length_le]
    | simp
theorem bounds_run {a c n : Nat} (hac : a ≤ c) (hc : c ≤ n) : sliceBounds (some (a : Int)) (some (c : Int)) none n = ((a : Int), (c : Int), 1) := by
  simp only [sliceBounds, Option.getD_none]
  have h1 : ¬ ((a : Int) < 0) := by omega
  have h2 : ¬ ((c : Int) < 0) := by omega
  simp only [h1, h2, if_false, show (1 : Int) > 0 by decide, if_true]
  congr 1
  · omega
  · congr 1; omega
set_option maxRecDepth 100000 in
/-- list.__setitem__ with a slice of step one and another list -/
theorem setItem_slice {l b sl : Addr} {items new : Array Value} {n n2 : Nat} {vl vu : Value} {a c : Nat} {Q : Unit → Shared → Prop}
    (e : s.heap.get? l = some { cls := .type "list", data := .seq items n }) (e2 : s.heap.get? b = some { cls := .type "list", data := .seq new n2 }) (hne : l ≠ b)
    (hs : s.heap.IsSliceOf sl vl vu .none) (pl : IsPart vl (some (a : Int))) (pu : IsPart vu (some (c : Int))) (hac : a ≤ c) (hc : c ≤ items.size)
    (hsz : items.size + new.size ≤ sizeLine) (h : Q () { s with heap := s.heap.update l (Obj.mapSeq fun xs => xs.extract 0 a ++ new ++ xs.extract c xs.size) }) :
    wpAny (model prog w) A (setItem (.ref l) (.ref sl) (.ref b)) Q E s := by
  have hl : s.heap.IsList l items := PySem.IsL.isList e
  have hb : s.heap.IsList b new := PySem.IsL.isList e2
  obtain ⟨os, hos, hcs, hds⟩ := id hs
  have hTs : s.TypeIs (.ref sl) "slice" := ⟨os, hos, hcs⟩
  have hstep : ¬ ((rawPart none == rawInt 0) = true) := Bool.false_ne_true
  have hsame : Builtin.List.listSameRef (.ref l) (.ref b) = false := by
    unfold Builtin.List.listSameRef
    exact beq_eq_false_iff_ne.mpr hne
  have hmax : (max (a : Int) (c : Int)).toNat = c := by omega
  have hz' : ((fun xs : Array Value => xs.extract 0 a ++ new ++ xs.extract c xs.size) items).size ≤ sizeLine + 1 := by
    simp only [Array.size_append, Array.size_extract]
    omega
  unfold setItem
  try with_reducible refine wpAny_holding ?_
  first | refine wpAny_bind (wpAny_pure ?_) | skip
  refine wpAny_bind (wpAny_sequenceKey hl.typeIs (by decide) ?_)
  refine wpAny_bind (wpAny_callSpecial?_slot (name := Str.ofString "__setitem__") hl.typeIs slot_list_setitem
    (wpAny_call_entry slot_list_setitem hl.typeIs entry_list_setitem ?_ (args_list_setitem _ _ _)))
  show wpAny _ _ (Builtin.List.listSubscript? (.ref sl) >>= _) _ _ s
  refine wpAny_bind ?_
  unfold Builtin.List.listSubscript?
  refine wpAny_bind (wpAny_specialOf hTs slice_no_index ?_)
  simp only [Option.isNone_none, if_true]
  refine wpAny_pure ?_
  show wpAny _ _ (typeOf (.ref sl) >>= _) _ _ s
  refine wpAny_bind (wpAny_typeOf hTs ?_)
  first
    | rw [if_neg (by decide)]
    | refine PySem.W.KFB.if_not (by decide) ?_
  rw [listSliceParts_eq]
  refine wpAny_bind (wpAny_bind (wpAny_field hos hds (x := .none) rfl (wpAny_bind (wpAny_listPart .none ?_))))
  rw [if_neg hstep]
  refine wpAny_bind (wpAny_field hos hds (x := vl) rfl (wpAny_bind (wpAny_listPart pl ?_)))
  refine wpAny_bind (wpAny_field hos hds (x := vu) rfl (wpAny_bind (wpAny_listPart pu (wpAny_pure ?_))))
  first
    | simp only [hsame, Bool.false_eq_true, if_false]
    | refine PySem.W.KFB.if_not hsame ?_
    | (dsimp only
       rw [if_neg (by rw [hsame]; exact Bool.false_ne_true)])
  refine wpAny_bind (m := Builtin.List.listAllItems (.ref b) "must assign iterable to extended slice") ?_
  unfold Builtin.List.listAllItems
  refine wpAny_bind (wpAny_typeOf hb.typeIs ?_)
  first
    | refine PySem.W.KFB.if_so (by decide) ?_
    | rw [if_pos (by decide)]
    | simp only [beq_self_eq_true, Bool.true_or, if_true]
  unfold Builtin.List.listItems
  refine wpAny_bind (wpAny_seqItems e2 rfl (wpAny_pure ?_))
  refine wpAny_bind (wpAny_bind (wpAny_seqItems e rfl (wpAny_pure ?_)))
  refine wpAny_bind (wpAny_of_eq ((sliceIndices_raw (some (a : Int)) (some (c : Int)) none items.size (by simp)).trans (congrArg (pure : Int × Int × Int → Sem (Int × Int × Int)) (bounds_run hac hc))) ?_)
  show wpAny _ _ (if ((1 : Int) == 1) = true then _ else _) _ _ s
  rw [if_pos (by decide)]
  refine wpAny_bind (wpAny_rule ?_)
  first
    | simp only [notLongL hsz, Bool.false_eq_true, if_false]
    | refine PySem.W.KFB.if_not (notLongL hsz) ?_
  first | refine wpAny_bind (wpAny_pure ?_) | skip
  show wpAny _ _ (updateSeq l (fun xs => xs.extract 0 ((a : Int)).toNat ++ new ++ xs.extract (max (a : Int) (c : Int)).toNat xs.size) >>= _) _ _ s
  rw [hmax, Int.toNat_natCast]
  refine wpAny_bind (wpAny_updateSeq (hz := Nat.le_trans (Nat.le_add_right _ _) hsz) (_hz' := hz') e rfl ?_)
  refine wpAny_bind (wpAny_letGo ?_)
  first
    | exact wpAny_bind (wpAny_pure (wpAny_pure ⟨.none, rfl, wpAny_pure h⟩))
    | exact wpAny_pure ⟨.none, rfl, wpAny_pure h⟩
end

section
variable {X : Cx}
/-- xs[a:c] = ys of another list, at the value level: sl is the slice object that was just made -/
theorem set_slice {pins : List (Addr × Obj)} {s : Shared} {σ : St} {H : Hp} {l b sl : Addr} {xs ys : List V} {a c : Int} {vl vu : Value} {Q : Unit → Shared → Prop} (I : Inv X pins σ H s)
    (hH : H l = some (.lst xs)) (hB : H b = some (.lst ys)) (hne : l ≠ b) (hs : s.heap.IsSliceOf sl vl vu .none) (ra : RelV (.int a) vl) (rc : RelV (.int c) vu) (h0 : 0 ≤ a) (hac : a ≤ c) (hc : c ≤ xs.length)
    (hz : xs.length + ys.length ≤ sizeLine) (h : ∀ s', Inv X pins σ (upd H l (.lst (xs.take a.toNat ++ ys ++ xs.drop c.toNat))) s' → Q () s') :
    wpAny (model X.prog X.w) X.A (setItem (.ref l) (.ref sl) (.ref b)) Q X.xe s := by
  obtain ⟨ta, rfl⟩ := ra
  obtain ⟨tc, rfl⟩ := rc
  obtain ⟨z, its, n, r, hl, e⟩ := I.lstM hH
  obtain ⟨z2, its2, n2, r2, hl2, e2⟩ := I.lstM hB
  obtain ⟨a', rfl⟩ := Int.eq_ofNat_of_zero_le h0
  obtain ⟨c', rfl⟩ := Int.eq_ofNat_of_zero_le (Int.le_trans h0 hac)
  simp only [Int.toNat_natCast] at h
  refine setItem_slice (a := a') (c := c') e e2 hne hs (.int _ _) (.int _ _) (by omega) (by rw [List.size_toArray]; omega) (by rw [List.size_toArray, List.size_toArray]; omega) (h _ ?_)
  refine I.lset (its' := its.take a' ++ its2 ++ its.drop c') (t' := s.toks) hH e ?_ (Vals.append (Vals.append (r.take _) r2) (r.drop _)) ?_
  · exact splice_eq its its2 a' c'
  · rw [List.length_append, List.length_append, List.length_take, List.length_drop]
    omega
end
end L2

namespace Att
open PySem PySem.W PySem.Calls PyProof.Rows

/-! ### the script -/
theorem ints_of_wellAll {P : Params} {h : Heap} : ∀ (ns : List Int) (vs : List Value), WellAll P h vs (ns.map WData.int) → IntsAre vs ns := by
  intro ns
  induction ns with
  | nil =>
    intro vs w
    rw [List.map_nil] at w
    cases w
    exact .nil
  | cons n ns ih =>
    intro vs w
    rw [List.map_cons] at w
    cases w with
    | cons a b =>
      cases a
      exact .cons _ _ (ih _ b)

theorem script_of {l : OpenLaw} {n : Nat} (hn : l.most = some n) {P : Params} {h : Heap} {args : List WData} {vals : List Value}
    (hpre : l.row.toRowW.claim.pre args = true) (hwl : WellAll P h vals args) :
    ∃ a vs ns, vals = [Value.ref a] ∧ args = [WData.list (ns.map WData.int)] ∧ h.get? a = some { cls := .type "list", data := .seq vs.toArray } ∧ IntsAre vs ns ∧ ns.length ≤ n := by
  have hsh : WShape.hasAll [] args [.list .int] = true := (pre_splitW hpre).1
  have hc : l.pre.holds [] { args := args } = true := (pre_splitW hpre).2
  obtain ⟨d, r, rfl, h1, h2⟩ := hasAllW_cons hsh
  obtain rfl := hasAllW_nil h2
  obtain ⟨xs, rfl, h3⟩ := hasW_list h1
  obtain ⟨ns, rfl⟩ := items_int h3
  have hlen : ns.length ≤ n := by
    unfold OpenLaw.pre at hc
    have h4 : (WTm.not (.lt (.lit (.int (n : Int))) (.len (.arg 0)))).holds [] { args := [.list (ns.map .int)] } = true := by
      have h4 := (holds_andW hc).1
      rw [hn] at h4
      exact h4
    have h5 := condW_of h4 (w_not (w_lt w_lit (w_len_list (w_arg rfl))))
    rw [List.length_map] at h5
    refine Nat.le_of_not_lt fun q => ?_
    have q' : (n : Int) < ((ns.length : Nat) : Int) := by omega
    first
      | (rw [decide_eq_true q'] at h5; exact absurd h5 (by decide))
      | (simp at h5; omega)
  cases hwl with
  | cons w1 w2 =>
    cases w2
    cases w1 with
    | list ho hall => exact ⟨_, _, ns, rfl, rfl, ho, ints_of_wellAll ns _ hall, hlen⟩

theorem post_true (l : OpenLaw) (args : List WData) : l.row.toRowW.claim.post args (.bool true) args = true :=
  postW_of (r := l.row.toRowW) (X := (true == true))
    (show WShape.has [] (.bool true) .bool = true by first | rfl | decide | simp [WShape.has, WShape.arms, WShape.armsAll])
    (show (WTm.eq .res (.lit (.bool true))).value [] { args := args, res := some (.bool true), after := args } = some (.bool (true == true)) from w_eq_bool (w_res rfl) w_lit) rfl

/-! ### the attachment: holds_open's last premise (the goal 'hc' behind k_head) from a wpAny of the law's body -/
theorem attach {l : OpenLaw} {n : Nat} {q : Program} {loose : List Str} {XP : (Str → Option Value) → Heap → Prop} {YP : World → Heap → Prop} {d : DefRec} {x : Str}
    (hn : l.most = some n) (hdf : d.params.defaults = [])
    (hbind : ∀ pm cd doc v : Value, bindArgs (docDef d.name d.params d.body d.scope pm cd doc) ⟨[v], []⟩ = pure [(x, v)])
    (hx : d.scope.names.lookup x = some .local ∨ d.scope.names.lookup x = some .cell)
    (hk : d.scope.kind = .function) (hco : d.scope.isCoroutine = false) (hgen : d.scope.isGenerator = false)
    (body : ∀ (w : World) (s₀ s₁ s : Shared) (mg mb : Str → Option Value) (fa : Addr) (o : Obj) (pm cd doc : Value) (a : Addr) (vs : List Value) (ns : List Int),
      Ground q loose [] XP w s₀ mg mb s₁.heap → YP w s₁.heap →
      s₁.heap.get? fa = some o → o.data = .func (docDef d.name d.params d.body d.scope pm cd doc) → s₁.heap.CodeRec cd d.name → mg d.name = some (.ref fa) →
      s₁.heap.get? a = some { cls := .type "list", data := .seq vs.toArray } → IntsAre vs ns → ns.length ≤ n →
      s.gens = #[] → s.os = s₁.os →
      Fr s₁.heap s₁.heap.objs.size s.heap (bindL (envOfC d.name d.scope s₁.heap.objs.size fa cd).kindOf [(x, .ref a)] fun _ => none) →
      Cl s₁.heap.objs.size (cellsFrom (s₁.heap.objs.size + 1) d.scope.names []) s.heap (bindC (envOfC d.name d.scope s₁.heap.objs.size fa cd).kindOf [(x, .ref a)] fun _ => none) →
      wpAny (model l.prog w) (callerA.deeper (envOfC d.name d.scope s₁.heap.objs.size fa cd)) (execs d.body (envOfC d.name d.scope s₁.heap.objs.size fa cd))
        (fun f s' => f = .ret (.bool true) ∧ OldK s₁.heap s'.heap ∧ s'.os = s₁.os ∧ AllBare s'.gens) (fun _ _ => False) s) :
    WalkO q loose XP YP l.row.toRowW d [] (fun f vs => PySem.call f vs) := by
  intro w s₀ s₁ mg mb G Y fa o pm cd doc dV kV ho hd hcd hD hmg hg args vals as hpre hlay hrd hwl hlo
  obtain rfl : dV = .none := Dflts.none hD hdf
  obtain rfl : kV = .none := Dflts.noKw hD
  obtain ⟨a, vs, ns, rfl, rfl, hobj, hints, hlen⟩ := script_of hn hpre hwl
  refine enter_call ?_
  refine call_cells_ret (o := o) (by rw [depth_caller]; decide) ho (fd_plain hd) G.T.nolimit hcd (hbind pm cd doc (.ref a)) (fun y hy => ?_) (fun h₁ tk F X => ?_) hco hgen hk
  · obtain rfl : y = (x, Value.ref a) := List.mem_singleton.mp hy
    rcases hx with e | e
    · exact .inl e
    · exact .inr ⟨e, cellsFrom_some _ _ _ (.inl e)⟩
  · refine wpAny_mono (body w s₀ s₁ { s₁ with heap := h₁, toks := tk } mg mb fa o pm cd doc a vs ns G Y ho (fd_plain hd) hcd hmg hobj hints hlen hg rfl F X) (fun f s' hq => ?_) (fun _ _ hq => hq)
    obtain ⟨rfl, h2, h3, h4⟩ := hq
    exact ⟨.inl ⟨.bool true, .bool true, [], rfl, fun _ => rfl, .bool true, post_true l _, fun _ => ⟨List.Pairwise.nil, fun _ hm => (nomatch hm)⟩⟩, h2, h3, h4⟩

/-- the same from a codeAny of the CALL (for a layer whose function contracts speak of calls) -/
theorem attach_call {l : OpenLaw} {n : Nat} {q : Program} {loose : List Str} {XP : (Str → Option Value) → Heap → Prop} {YP : World → Heap → Prop} {d : DefRec}
    (hn : l.most = some n) (hdf : d.params.defaults = [])
    (call : ∀ (w : World) (s₀ s₁ : Shared) (mg mb : Str → Option Value) (fa : Addr) (o : Obj) (pm cd doc : Value) (a : Addr) (vs : List Value) (ns : List Int),
      Ground q loose [] XP w s₀ mg mb s₁.heap → YP w s₁.heap →
      s₁.heap.get? fa = some o → o.data = .func (docDef d.name d.params d.body d.scope pm cd doc) → s₁.heap.CodeRec cd d.name → mg d.name = some (.ref fa) →
      s₁.heap.get? a = some { cls := .type "list", data := .seq vs.toArray } → IntsAre vs ns → ns.length ≤ n → s₁.gens = #[] →
      codeAny (model l.prog w) callerA (.call (.ref fa) ⟨[.ref a], []⟩) (fun r s' => r = .ok (.ret (.bool true)) ∧ OldK s₁.heap s'.heap ∧ s'.os = s₁.os ∧ AllBare s'.gens) s₁) :
    WalkO q loose XP YP l.row.toRowW d [] (fun f vs => PySem.call f vs) := by
  intro w s₀ s₁ mg mb G Y fa o pm cd doc dV kV ho hd hcd hD hmg hg args vals as hpre hlay hrd hwl hlo
  obtain rfl : dV = .none := Dflts.none hD hdf
  obtain rfl : kV = .none := Dflts.noKw hD
  obtain ⟨a, vs, ns, rfl, rfl, hobj, hints, hlen⟩ := script_of hn hpre hwl
  refine enter_call (codeAny_mono (call w s₀ s₁ mg mb fa o pm cd doc a vs ns G Y ho (fd_plain hd) hcd hmg hobj hints hlen hg) fun r s' hq => ?_)
  obtain ⟨rfl, h2, h3, h4⟩ := hq
  exact ⟨.inl ⟨.bool true, .bool true, [], rfl, fun _ => rfl, .bool true, post_true l _, fun _ => ⟨List.Pairwise.nil, fun _ hm => (nomatch hm)⟩⟩, h2, h3, h4⟩

/-- the same where the top left finished generators (o_head chose holds_openN): nothing may have changed at all and no generator may be left -/
theorem attachN {l : OpenLaw} {n : Nat} {q : Program} {loose : List Str} {XP : (Str → Option Value) → Heap → Prop} {YP : World → Heap → Prop} {d : DefRec} {x : Str}
    (hn : l.most = some n) (hdf : d.params.defaults = [])
    (hbind : ∀ pm cd doc v : Value, bindArgs (docDef d.name d.params d.body d.scope pm cd doc) ⟨[v], []⟩ = pure [(x, v)])
    (hx : d.scope.names.lookup x = some .local ∨ d.scope.names.lookup x = some .cell)
    (hk : d.scope.kind = .function) (hco : d.scope.isCoroutine = false) (hgen : d.scope.isGenerator = false)
    (body : ∀ (w : World) (s₀ s₁ s : Shared) (mg mb : Str → Option Value) (fa : Addr) (o : Obj) (pm cd doc : Value) (a : Addr) (vs : List Value) (ns : List Int),
      Ground q loose [] XP w s₀ mg mb s₁.heap → YP w s₁.heap →
      s₁.heap.get? fa = some o → o.data = .func (docDef d.name d.params d.body d.scope pm cd doc) → s₁.heap.CodeRec cd d.name → mg d.name = some (.ref fa) →
      s₁.heap.get? a = some { cls := .type "list", data := .seq vs.toArray } → IntsAre vs ns → ns.length ≤ n →
      s.gens = #[] → s.os = s₁.os →
      Fr s₁.heap s₁.heap.objs.size s.heap (bindL (envOfC d.name d.scope s₁.heap.objs.size fa cd).kindOf [(x, .ref a)] fun _ => none) →
      Cl s₁.heap.objs.size (cellsFrom (s₁.heap.objs.size + 1) d.scope.names []) s.heap (bindC (envOfC d.name d.scope s₁.heap.objs.size fa cd).kindOf [(x, .ref a)] fun _ => none) →
      wpAny (model l.prog w) (callerA.deeper (envOfC d.name d.scope s₁.heap.objs.size fa cd)) (execs d.body (envOfC d.name d.scope s₁.heap.objs.size fa cd))
        (fun f s' => f = .ret (.bool true) ∧ (∀ b o, s₁.heap.get? b = some o → s'.heap.get? b = some o) ∧ s'.os = s₁.os ∧ s'.gens = #[]) (fun _ _ => False) s) :
    WalkN q loose XP YP l.row.toRowW d [] (fun f vs => PySem.call f vs) := by
  intro w s₀ s₁ mg mb G Y fa o pm cd doc dV kV ho hd hcd hD hmg hg args vals as hpre hlay hrd hwl hlo
  obtain rfl : dV = .none := Dflts.none hD hdf
  obtain rfl : kV = .none := Dflts.noKw hD
  obtain ⟨a, vs, ns, rfl, rfl, hobj, hints, hlen⟩ := script_of hn hpre hwl
  refine enter_callW ?_
  refine call_cells_ret (o := o) (by rw [depth_caller]; decide) ho (fd_plain hd) G.T.nolimit hcd (hbind pm cd doc (.ref a)) (fun y hy => ?_) (fun h₁ tk F X => ?_) hco hgen hk
  · obtain rfl : y = (x, Value.ref a) := List.mem_singleton.mp hy
    rcases hx with e | e
    · exact .inl e
    · exact .inr ⟨e, cellsFrom_some _ _ _ (.inl e)⟩
  · refine wpAny_mono (body w s₀ s₁ { s₁ with heap := h₁, toks := tk } mg mb fa o pm cd doc a vs ns G Y ho (fd_plain hd) hcd hmg hobj hints hlen hg rfl F X) (fun f s' hq => ?_) (fun _ _ hq => hq)
    obtain ⟨rfl, h2, h3, h4⟩ := hq
    exact ⟨.inl ⟨.bool true, .bool true, [], rfl, fun _ => rfl, .bool true, post_true l _, fun _ => ⟨List.Pairwise.nil, fun _ hm => (nomatch hm)⟩⟩, h2, h3, h4⟩

/-! ### rules over ANY heap (no ledger) from facts about the written part K: the library's own take a ledger (News) for what they write -/
section
variable {prog : Program} {w : World} {A : Around} {E : Value → Shared → Prop} {s : Shared} {K : Frag}

/-- a def of the module, or a method (qual 'C.m'), entered: the frame is the next address; cells behind it -/
theorem call_fn {R : Result → Shared → Prop} {name qual : Str} {params : Arguments} {body : List Stmt} {scope : Scope} {dV kV doc pm cdv ct oc : Value} {an od : Option Addr} {osl : Array (Option Value)} {f : Addr} {args : Args} {binds : List (Str × Value)}
    (X : K.In s.heap) (hlim : s.heap.NoLimit) (ho : K.lookup f = some ⟨oc, od, .func (fnOf name qual params body scope dV kV doc pm an cdv ct), osl⟩) (hcd : codeIn K cdv qual = true) (hroom : A.depth < recursionLimit)
    (hbind : BindsTo s (fnOf name qual params body scope dV kV doc pm an cdv ct) args binds)
    (hkind : (binds.all fun y => scope.names.lookup y.1 == some .local || scope.names.lookup y.1 == some .cell) = true)
    (h : ∀ s₁, InCallC s s.heap.objs.size (bindL (envOfC qual scope s.heap.objs.size f cdv).kindOf binds fun _ => none) (cellsFrom (s.heap.objs.size + 1) scope.names [])
        (bindC (envOfC qual scope s.heap.objs.size f cdv).kindOf binds fun _ => none) s₁ →
      wpAny (model prog w) (A.deeper (envOfC qual scope s.heap.objs.size f cdv)) (execs body (envOfC qual scope s.heap.objs.size f cdv))
        (fun fl s' => R (.ok (.ret (match fl with | .ret v => v | _ => .none))) s')
        (fun e s' => wpAny (model prog w) (A.deeper (envOfC qual scope s.heap.objs.size f cdv)) (leaving (envOfC qual scope s.heap.objs.size f cdv) e) (fun _ s'' => R (.error e) s'') (fun e' s'' => R (.error e') s'') s') s₁)
    (hco : scope.isCoroutine = false) (hgen : scope.isGenerator = false) (hk : scope.kind = .function) : codeAny (model prog w) A (.call (.ref f) args) R s := by
  refine codeAny_call_function hroom (X _ _ ho) rfl hco hgen rfl (codeRec_of X hcd) (hbind _ _ _ _ ?_)
  refine wpAny_newFunctionEnv_cells hk (kindsX hkind _) fun env he s₁ x => ?_
  subst he
  exact ⟨hlim.keeps x.toInCall.keep, codeAny_func (h s₁ x)⟩

/-- C(..): dict at size, instance at size + 1, then __init__ -/
theorem make_obj {R : Result → Shared → Prop} {C fI : Addr} {rest : List Value} {kw : List (Str × Value)}
    (X : K.In s.heap) (hm : makesIn K C = true) (hi : findIn K (.ref C) "__init__" = some (some (.ref fI))) (hf : isFn K (.ref fI) = true)
    (h : codeAny (model prog w) (A.under (.builtin "type.__call__" ⟨.ref C :: rest, kw⟩)) (.call (.ref fI) ⟨.ref (s.heap.objs.size + 1) :: rest, kw⟩) (InitBack (s.heap.objs.size + 1) R)
      { s with heap := (s.heap.push emptyDict).push (instObj C s.heap.objs.size) }) : codeAny (model prog w) A (.call (.ref C) ⟨rest, kw⟩) R s := by
  obtain ⟨hh, g, d, t, os⟩ := s
  exact make_core (makes_of X hm) (looks_findIn X hi) (fun self => bind_fn X self (beq_iff_eq.mp hf)) (.inl rfl) h

/-- x.name where the instance's dict holds the name and the class does not -/
theorem get_field {x C : Addr} {ox : Obj} {es : List DictEntry} {n : Nat} {name : Str} {expr : Bool} {v : Value} {Q : Value → Shared → Prop}
    (X : K.In s.heap) (I : PySem.W.InstAt s.heap x ox C (some (dictOf es n))) (hg : plainGet K C name = true) (hh : hasDictIn K C = true) (ha : findIn K (.ref C) name = some none)
    (hl : getL name es = some (some v)) (hv : handedIn v = true) (h : Q v { s with toks := s.toks + 1 }) : wpAny (model prog w) A (getAttr (.ref x) name expr) Q E s :=
  get_value X I (plainGet_of hg).1 (findObj_own hh ha rfl hl) hv h

/-- x.m(..): the method found in the class -/
theorem get_method {x C f : Addr} {ox : Obj} {es : List DictEntry} {n : Nat} {name : Str} {pl : Sem Bool} {Q : Value × List Value → Shared → Prop}
    (X : K.In s.heap) (I : PySem.W.InstAt s.heap x ox C (some (dictOf es n))) (hg : plainGet K C name = true) (hf : findIn K (.ref C) name = some (some (.ref f))) (ht : isFn K (.ref f) = true)
    (hl : getL name es = some none) (h : Q (.ref f, [.ref x]) s) : wpAny (model prog w) A (getMethod (.ref x) name pl) Q E s :=
  method_fn X I (plainGet_of hg).1 (plainGet_of hg).2 hf (beq_iff_eq.mp ht) (by show (lookIn name (dictOf es n)).map _ = _; rw [lookIn_dict, hl]; rfl) h

/-! the whole heap as the ledger: makes every rule that writes through a ledger a rule over any heap -/
def noObjs (h : Heap) : Heap := { h with objs := #[] }
theorem noObjs_get (h : Heap) (b : Addr) : (noObjs h).get? b = none := by
  cases e : (noObjs h).get? b with
  | none => rfl
  | some o => exact absurd (Heap.lt_size e) (Nat.not_lt_zero _)
def ledger (h : Heap) (L d : Addr) : List (Addr × Obj) := (List.range h.objs.size).filterMap fun a => if a = L ∨ a = d then none else (h.get? a).map fun o => (a, o)
theorem mem_ledger {h : Heap} {L d a : Addr} {o : Obj} : (a, o) ∈ ledger h L d ↔ a ≠ L ∧ a ≠ d ∧ h.get? a = some o := by
  unfold ledger
  rw [List.mem_filterMap]
  constructor
  · rintro ⟨b, _, e⟩
    split at e
    · cases e
    · rename_i hb
      obtain ⟨o', ho, e'⟩ := Option.map_eq_some_iff.mp e
      cases e'
      exact ⟨fun q => hb (.inl q), fun q => hb (.inr q), ho⟩
  · rintro ⟨n1, n2, ho⟩
    refine ⟨a, List.mem_range.mpr (Heap.lt_size ho), ?_⟩
    rw [if_neg (show ¬ (a = L ∨ a = d) from fun q => q.elim n1 n2), ho] <;> rfl
theorem news_ledger {h : Heap} {L d : Addr} {od : Obj} (hne : d ≠ L) (ho : h.get? d = some od) : News (noObjs h) L h ([] ++ (d, od) :: ledger h L d) := by
  rintro ⟨a, o⟩ hp
  rcases List.mem_cons.mp hp with e | hp
  · cases e
    exact ⟨ho, hne, noObjs_get _ _⟩
  · obtain ⟨n1, n2, e⟩ := mem_ledger.mp hp
    exact ⟨e, n1, noObjs_get _ _⟩
theorem fr_all {h : Heap} {L : Addr} {m : Str → Option Value} (n : h.Ns L m) : Fr (noObjs h) L h m :=
  ⟨n, fun b o e => (by rw [noObjs_get] at e; cases e), Nat.zero_le _⟩
/-- Upd of the head entry (for append_K, setItem_K ..) -/
theorem upd_ledger {h : Heap} {L d : Addr} {o o' : Obj} : Upd d o o' ((d, o) :: ledger h L d) ((d, o') :: ledger h L d) :=
  .head fun ⟨_, _⟩ hp => (mem_ledger.mp hp).2.1

/-- x.name = v over any heap: L is any namespace of the heap (the frame's, say): its map stays, its object is not told; all else but the dict stays -/
theorem set_field {x C dx L : Addr} {ox : Obj} {m : Str → Option Value} {es es' : List DictEntry} {n n' : Nat} {name : Str} {v : Value} {Q : Unit → Shared → Prop}
    (X : K.In s.heap) (I : PySem.W.InstAt s.heap x ox C (some (dictOf es n))) (hd : ox.dict = some dx) (hL : s.heap.Ns L m) (hne : dx ≠ L)
    (hs : findIn K (.ref C) "__setattr__" = some (some (.builtin "object.__setattr__"))) (hp : plainOver K C = true) (ht : takerIn K C name = some none) (hh : hasDictIn K C = true) (hl : (getL name es).isSome = true)
    (e : (putL name (PyData.keyHash w.params name) (.str name (s.toks + 1)) v es, putN name es n) = (es', n')) (hz : es'.length ≤ 1000)
    (h : ∀ h' : Heap, h'.Ns L m → h'.get? dx = some (dictOf es' n') → (∀ b o, b ≠ dx → b ≠ L → s.heap.get? b = some o → h'.get? b = some o) → Q () { s with heap := h', toks := s.toks + 2 }) :
    wpAny (model prog w) A (setAttr (.ref x) name v) Q E s := by
  obtain ⟨e1, e2⟩ := Prod.mk.inj e
  have hdx : s.heap.get? dx = some (dictOf es n) := by
    have := I.dict
    rw [hd] at this
    exact this
  refine set_plain X I hs (osa_dict (s := { s with toks := s.toks + 1 }) (h₀ := noObjs s.heap) (L := L) (m := m) (od := dictOf es n) (od' := dictOf es' n') (es := es') (n := n') (pre := []) (post := ledger s.heap L dx)
    (fr_all hL) (news_ledger hne hdx) X I hd hp ht hh hl (fun _ q => nomatch q) (fun ⟨_, _⟩ q => (mem_ledger.mp q).2.1) (by rw [putName_dict, e1, e2]) rfl hz fun h' F' N' => ?_)
  exact h h' F'.ns (N'.get (List.Mem.head _)) fun b o n1 n2 ho => N'.get (List.Mem.tail _ (mem_ledger.mpr ⟨n2, n1, ho⟩))
end
end Att

namespace L2
open PySem PySem.Spec PyProof.Rows

theorem vals_ints : ∀ {vs : List Value} {ns : List Int}, IntsAre vs ns → Vals (ns.map V.int) vs
  | _, _, .nil => .nil
  | _, _, .cons n t h => .cons ⟨t, rfl⟩ (vals_ints h)

/-- nothing is tracked but the script, known to the object (or it is an object of the module) -/
def Only (H : Hp) : Prop := ∀ b, H b = none ∨ ∃ o xs, H b = some (.frz o (.lst xs))

/-- THE HEAD: the law's promise, at the heap behind the top. F, the promise of the law's def, may use that base is part of the heap (so K.In base, base.Ns mainGlobals mg stand in Mod) -/
theorem law_call {P : Program} {w : World} {K : PySem.W.Frag} {mg mb : Str → Option Value} {CX : CXT} {k : Nat} {fa a : Addr} {fd : FuncData} {x : Str} {sp : Sp} {s₁ : Shared} {vs : List Value} {ns : List Int}
    (KX : K.In s₁.heap) (hns : s₁.heap.Ns mainGlobals mg) (hb : s₁.heap.Ns builtinsNs mb) (hbb : ∀ x : Str, x ≠ "__name__" → mb x = bootBuiltins x) (hlim : s₁.heap.NoLimit) (hg : s₁.gens = #[])
    (ha : s₁.heap.get? a = some { cls := .type "list", data := .seq vs.toArray }) (hi : IntsAre vs ns) (hl : ns.length ≤ sizeLine) (hr : Room k callerA)
    (F : ∀ base : Heap, K.In base → base.Ns mainGlobals mg → FnOk P w K mg base CX k fa fd [x] sp) (hbind : ∀ (s : Shared) (u : Value), BindsTo s fd ⟨[u], []⟩ [(x, u)])
    (hsp : ∀ H : Hp, Only H → SqL K H a (ns.map V.int) → sp [.ref a] H (fun v _ => v = .bl true) fun _ _ _ => False)
    (hCX : ∀ H e s', CX [] H s₁ (fun _ _ _ => False) e s' → False) :
    codeAny (model P w) callerA (.call (.ref fa) ⟨[.ref a], []⟩) (fun r s' => r = .ok (.ret (.bool true)) ∧ OldK s₁.heap s'.heap ∧ s'.os = s₁.os ∧ AllBare s'.gens) s₁ := by
  have rv := vals_ints hi
  have lenV := hi.length
  -- from an abstract heap in which nothing but the script may be tracked
  have core : ∀ H : Hp, Only H → SqL K H a (ns.map V.int) → HOk P w H s₁.heap → (∀ b, H b ≠ none → b = a) → (H a ≠ none → K.lookup a = none) →
      codeAny (model P w) callerA (.call (.ref fa) ⟨[.ref a], []⟩) (fun r s' => r = .ok (.ret (.bool true)) ∧ OldK s₁.heap s'.heap ∧ s'.os = s₁.os ∧ AllBare s'.gens) s₁ := by
    intro H hO hS hok hA hK
    have base_of : ∀ {b : Addr} {o : Obj}, s₁.heap.get? b = some o → H b = none → (hidT s₁.heap H).get? b = some o := fun e n => hidT_get e n
    have noA : ∀ {b : Addr} {o : Obj} {es : Array DictEntry} {ep : Nat}, s₁.heap.get? b = some o → o.data = .dict es ep → H b = none := fun {b o es ep} e d => by
      cases q : H b with
      | none => rfl
      | some u =>
        have e' : b = a := hA b (by rw [q]; simp)
        subst e'
        rw [ha] at e; cases e
        have d' : Data.seq vs.toArray _ = Data.dict es ep := d
        cases d'
    have nsK : ∀ {b : Addr} {m : Str → Option Value}, s₁.heap.Ns b m → (hidT s₁.heap H).Ns b m := fun {b m} ⟨o, es, ep, e, d, r⟩ => ⟨o, es, ep, base_of e (noA e d), d, r⟩
    have hKb : K.In (hidT s₁.heap H) := fun b o e => base_of (KX b o e) (by
      cases q : H b with
      | none => rfl
      | some u =>
        have e' : b = a := hA b (by rw [q]; simp)
        subst e'
        rw [hK (by rw [q]; simp)] at e; cases e)
    have hM : Mod K mg (hidT s₁.heap H) := ⟨hKb, nsK hns, ⟨mb, nsK hb, hbb⟩, let ⟨mc, h1, h2⟩ := hlim; ⟨mc, nsK h1, h2⟩⟩
    have e0 : Env0 P w K mg (hidT s₁.heap H) callerA [] s₁ H := ⟨rfl, hM, fun b o e => of_hidT e, Nat.le_of_eq (hidT_size _ _), trivial, fun b hb => absurd (show b ∈ ([] : List Addr) from hb) (by simp), hok, .of_eq hg⟩
    refine codeAny_mono ((F _ hKb (nsK hns)).run callerA [] s₁ H ⟨[.ref a], []⟩ [.ref a] [.ref a] _ _ hr e0 (hbind s₁ (.ref a)) (.cons rfl .nil) (hsp H hO hS)) fun r s' h => ?_
    cases r with
    | error e => exact (hCX H e s' h).elim
    | ok fl =>
      cases fl with
      | next => exact False.elim h
      | brk => exact False.elim h
      | cont => exact False.elim h
      | ret u =>
        obtain ⟨v, H', os, bare, un, hok', r', q⟩ := h
        have q' : v = .bl true := q
        subst q'
        obtain rfl : u = Value.bool true := r'
        refine ⟨rfl, OldK.of_keep fun b o e => ?_, os, bare⟩
        cases q : H b with
        | none => exact un.keep b o e q (by intro z; exact absurd (show b ∈ ([] : List Addr) from z) (by simp)) (by simp)
        | some u =>
          rcases hO b with z | ⟨ob, xs, z⟩
          · rw [q] at z; cases z
          · have z2 := un.frzs b ob _ z
            obtain ⟨e1, _⟩ := hok b _ z
            obtain ⟨e2, _⟩ := hok' b _ z2
            rw [e] at e1; cases e1
            exact e2
  cases hk : K.lookup a with
  | some o =>
    -- the script is one of the module's own objects
    have e := KX a o hk
    rw [ha] at e
    cases e
    refine core (fun _ => none) (fun _ => .inl rfl) (.inr ⟨_, vs.toArray, _, hk, rfl, rfl, rfl, by rw [List.size_toArray, lenV]; exact hl, by simpa using rv⟩) (fun b u z => by have z' : (none : Option HO) = some u := z; cases z') (fun b z => absurd rfl z) fun z => absurd rfl z
  | none =>
    refine core (fun b => if b = a then some (.frz { cls := .type "list", data := .seq vs.toArray } (.lst (ns.map V.int))) else none) (fun b => ?_) (.inl (.inr ⟨{ cls := .type "list", data := .seq vs.toArray }, if_pos rfl⟩)) (fun b u z => ?_) (fun b z => ?_) fun _ => hk
    · by_cases hb : b = a
      · exact .inr ⟨_, _, if_pos hb⟩
      · exact .inl (if_neg hb)
    · by_cases hb : b = a
      · have z' := (if_pos hb).symm.trans z
        cases z'
        subst hb
        exact ⟨ha, by rw [List.length_map]; exact hl, vs, _, rv, ha⟩
      · have z' := (if_neg hb).symm.trans z
        cases z'
    · by_cases hb : b = a
      · exact hb
      · exact absurd (if_neg hb) z
end L2

namespace L2
open PySem PySem.Spec PyProof.Rows

abbrev KOf {K : PySem.W.Frag} {h : Heap} (_ : K.In h) : PySem.W.Frag := K

/-- the goal that k_head leaves (case hc), from the law's promise. F gives the function object fd (K's own) once, then the promise over every base -/
theorem walk_of {l : PySem.W.OpenLaw} {n k : Nat} {q : Program} {loose : List Str} {XP : (Str → Option Value) → Heap → Prop} {YP : World → Heap → Prop} {d : DefRec} {K : Params → PySem.W.Frag} {CX : World → CXT} {sp : World → Sp} {x : Str}
    (hn : l.most = some n) (hn2 : n ≤ sizeLine) (hdf : d.params.defaults = []) (hr : Room k callerA)
    (hY : ∀ (w : World) (h : Heap), YP w h → (K w.params).In h)
    (F : ∀ (w : World) (mg : Str → Option Value) (fa : Addr) (h : Heap), (K w.params).In h → h.Ns mainGlobals mg → mg d.name = some (.ref fa) →
      ∃ fd : FuncData, (∀ (s : Shared) (u : Value), BindsTo s fd ⟨[u], []⟩ [(x, u)]) ∧
        ∀ base : Heap, (K w.params).In base → base.Ns mainGlobals mg → FnOk l.prog w (K w.params) mg base (CX w) k fa fd [x] (sp w))
    (hsp : ∀ (w : World) (H : Hp) (a : Addr) (ns : List Int), ns.length ≤ n → Only H → SqL (K w.params) H a (ns.map V.int) → sp w [.ref a] H (fun v _ => v = .bl true) fun _ _ _ => False)
    (hCX : ∀ (w : World) (H : Hp) (s : Shared) (e : Value) (s' : Shared), CX w [] H s (fun _ _ _ => False) e s' → False) :
    PySem.W.WalkO q loose XP YP l.row.toRowW d [] (fun f vs => PySem.call f vs) := by
  refine Att.attach_call hn hdf fun w s₀ s₁ mg mb fa o pm cd doc a vs ns G Y ho hd hcd hmg hobj hints hlen hg => ?_
  have KX := hY w _ Y
  obtain ⟨fd, hb, hF⟩ := F w mg fa _ KX G.T.g hmg
  exact law_call KX G.T.g G.T.b G.T.builtins G.T.nolimit hg hobj hints (Nat.le_trans hlen hn2) hr hF hb (fun H hO hS => hsp w H a ns hlen hO hS) fun H e s' => hCX w H s₁ e s'
/-- the same where the promise hangs on the written part alone: (sp := My.sp_law), no hole under a binder -/
theorem walk_ofK {l : PySem.W.OpenLaw} {n k : Nat} {q : Program} {loose : List Str} {XP : (Str → Option Value) → Heap → Prop} {YP : World → Heap → Prop} {d : DefRec} {K : Params → PySem.W.Frag} {CX : CXT} {sp : PySem.W.Frag → Sp} {x : Str}
    (hn : l.most = some n) (hn2 : n ≤ sizeLine) (hdf : d.params.defaults = []) (hr : Room k callerA)
    (hY : ∀ (w : World) (h : Heap), YP w h → (K w.params).In h)
    (F : ∀ (w : World) (mg : Str → Option Value) (fa : Addr) (h : Heap), (K w.params).In h → h.Ns mainGlobals mg → mg d.name = some (.ref fa) →
      ∃ fd : FuncData, (∀ (s : Shared) (u : Value), BindsTo s fd ⟨[u], []⟩ [(x, u)]) ∧
        ∀ base : Heap, (K w.params).In base → base.Ns mainGlobals mg → FnOk l.prog w (K w.params) mg base CX k fa fd [x] (sp (K w.params)))
    (hsp : ∀ (K : PySem.W.Frag) (H : Hp) (a : Addr) (ns : List Int), ns.length ≤ n → Only H → SqL K H a (ns.map V.int) → sp K [.ref a] H (fun v _ => v = .bl true) fun _ _ _ => False)
    (hCX : ∀ (H : Hp) (s : Shared) (e : Value) (s' : Shared), CX [] H s (fun _ _ _ => False) e s' → False) :
    PySem.W.WalkO q loose XP YP l.row.toRowW d [] (fun f vs => PySem.call f vs) :=
  walk_of (K := K) (CX := fun _ => CX) (sp := fun w => sp (K w.params)) hn hn2 hdf hr hY F (fun w H a ns h1 h2 h3 => hsp (K w.params) H a ns h1 h2 h3) fun _ H s e s' => hCX H s e s'
end L2

/- THE LAST THEOREM (shape; LID, My.* are yours):
   My.Adr: a structure of the addresses that your layer names (classes, functions); My.Txt K t: a structure (Prop) of the equations over K;
   My.txt_mk : {K} {implicit addresses ..} (e1 : nsIn K mainGlobals "law" = some (some (.ref f))) (e2 : K.lookup f = some ⟨oc, od, .func (fnOf "law" "law" params body scope dV kV doc pm an cdv ct), sl⟩) (e3 : codeIn K cdv "law" = true) .. : ∃ t, My.Txt K t

set_option maxRecDepth 100000 in
set_option maxHeartbeats 0 in
theorem PySem.Challenge.cw_LID_holds : PySem.Challenge.rw_LID.Holds := by
  w_on; o_law; k_head; (case hw => w_witness2)
  k_fill
  refine L2.walk_of (l := PySem.Challenge.rw_LID) (n := 63) (k := 40) (x := "script") (CX := fun w => ..) (sp := fun _ => My.sp_law) rfl (by decide) rfl ⟨rfl, by decide, by decide⟩ (fun w h Y => PySem.W.kIn_of Y) ?F ?S ?C
  case F =>
    intro w mg fa h KX G hmg
    have T : ∃ t, My.Txt (L2.KOf KX) t := by
      dsimp only [L2.KOf]                          -- K must stand as «<heap const> w.params» for k_is
      refine' My.txt_mk ?e1 ?e2 ?e3 ..
      (case e1 => PySem.W.k_is)                    -- in the order: a name -> its address -> its object -> its parts
      (case e2 => PySem.W.k_is)
      ..
    obtain ⟨t, T⟩ := T
    have e0 := hmg.symm.trans (PySem.W.mg_of KX G T.law)
    cases e0                                       -- fa is the law's own address
    exact ⟨_, fun s u => .of_eq rfl, fun base kb nb => My.law_fn T kb nb⟩     -- if «.of_eq rfl» comes too early: refine' ⟨_, ?b, fun base kb nb => My.law_fn T kb nb⟩; exact fun s u => .of_eq rfl
  case S => exact fun w H a ns hl hO hS => ..
  case C => exact ..
(the tactic k_is has no namespace: write k_is) -/

/-! SHORT WORDS over the layer: a def of the text, its body, what a loop and a test want. -/
namespace L2
open PySem PySem.Spec PyProof.Rows

/-! ### the text by places -/
/-- the j-th statement of a class's body -/
def inClass (s : Stmt) (j : Nat) : Stmt := match s with
  | .ClassDef _ _ _ body _ _ _ _ _ _ _ => body.getD j (.Pass ⟨0, 0, 0, 0⟩)
  | _ => .Pass ⟨0, 0, 0, 0⟩
def defArgs (s : Stmt) : Arguments := match s with
  | .FunctionDef _ a _ _ _ _ _ _ _ _ => a
  | _ => { posonlyargs := [], args := [], vararg := none, kwonlyargs := [], kw_defaults := [], kwarg := none, defaults := [] }
def defBody (s : Stmt) : List Stmt := match s with
  | .FunctionDef _ _ b _ _ _ _ _ _ _ => b
  | _ => []
def defScope (s : Stmt) : Scope := match s with
  | .FunctionDef _ _ _ _ _ _ sc _ _ _ => sc
  | _ => { kind := .function, names := [], isGenerator := false, isCoroutine := false }

/-! ### no exception leaves a def -/
abbrev CX0 : CXT := fun _ _ _ _ _ _ => False
abbrev E0 : XK := fun _ _ _ => False
theorem pass0 {X : Cx} : Passes CX0 X E0 := fun _ _ _ _ _ _ _ h => h.elim

/-! ### a def (or method) of the text as it stands behind the top -/
structure Fun (K : PySem.W.Frag) (x qual : Str) (st : Stmt) (f : Addr) (fd : FuncData) : Prop where
  ex : ∃ (oc : Value) (od : Option Addr) (kV doc pm : Value) (an : Option Addr) (cdv ct : Value) (osl : Array (Option Value)),
    fd = PySem.W.fnOf x qual (defArgs st) (defBody st) (defScope st) .none kV doc pm an cdv ct ∧ K.lookup f = some ⟨oc, od, .func fd, osl⟩ ∧ PySem.W.codeIn K cdv qual = true
  kp : PySem.W.keepIn K (.ref f) = true
section
variable {P : Program} {w : World} {K : PySem.W.Frag} {mg : Str → Option Value} {base : Heap}
/-- THE RULE for a def: its body as a term of rules, and the reading of that term -/
theorem Fun.ok {x qual : Str} {st : Stmt} {f : Addr} {fd : FuncData} {N ps : List Str} {k : Nat} {sp : Sp} (F : Fun K x qual st f fd) (S : FnScope N ps (defScope st)) (len : ∀ vs H Q E, sp vs H Q E → vs.length = ps.length)
    (hbody : ∀ (cdv : Value) (A : Around) (outer : List Env) (s : Shared) (H : Hp) (vs : List V) (Q : VK) (E : XK), Room k (A.deeper (envOfC qual (defScope st) s.heap.objs.size f cdv)) → sp vs H Q E →
      ∃ t, PSs (cxOf CX0 P w K mg base N qual (defScope st) f cdv A outer s H E).nox (defBody st) t ∧ t { nx := fun _ H' => Q .non H', rt := Q } (start N vs) H) : FnOk P w K mg base CX0 (k + 1) f fd ps sp := by
  obtain ⟨oc, od, kV, doc, pm, an, cdv, ct, osl, rfl, lk, hcd⟩ := F.ex
  refine fn_of lk hcd S len fun A outer s H vs Q E hr hsp => ?_
  obtain ⟨t, h, q⟩ := hbody cdv A outer s H vs Q E hr hsp
  exact ⟨t, h.nox, q⟩
/-- how its arguments bind (no defaults): h is «fun _ _ _ _ _ _ us hl => match us, hl with | [_, _], _ => rfl», one _ a parameter -/
theorem Fun.binds {x qual : Str} {st : Stmt} {f : Addr} {fd : FuncData} {ps : List Str} (F : Fun K x qual st f fd)
    (h : ∀ (kV doc pm : Value) (an : Option Addr) (cdv ct : Value) (us : List Value), us.length = ps.length → bindArgs (PySem.W.fnOf x qual (defArgs st) (defBody st) (defScope st) .none kV doc pm an cdv ct) ⟨us, []⟩ = pure (ps.zip us)) : Binds K fd ps [] := by
  obtain ⟨oc, od, kV, doc, pm, an, cdv, ct, osl, rfl, lk, hcd⟩ := F.ex
  exact .all (h kV doc pm an cdv ct)
theorem fun_mk {x qual : Str} {st : Stmt} {f : Addr} {oc : Value} {od an : Option Addr} {osl : Array (Option Value)} {kV doc pm cdv ct : Value} (l : K.lookup f = some ⟨oc, od, .func (PySem.W.fnOf x qual (defArgs st) (defBody st) (defScope st) .none kV doc pm an cdv ct), osl⟩)
    (c : PySem.W.codeIn K cdv qual = true) (k : PySem.W.keepIn K (.ref f) = true) : Fun K x qual st f (PySem.W.fnOf x qual (defArgs st) (defBody st) (defScope st) .none kV doc pm an cdv ct) := ⟨⟨oc, od, kV, doc, pm, an, cdv, ct, osl, rfl, l, c⟩, k⟩
end
theorem hu_of {A : Around} {k : Nat} (hr : Room k A) : A.units + 1 < cLine := Nat.lt_of_le_of_lt (Nat.add_le_add_left (by decide : 1 ≤ 64) _) hr.units
theorem small1000 {n : Nat} (h : n ≤ 1000) : n < sizeLine := Nat.lt_of_le_of_lt h (by decide)

/-! ### expressions in short: the name that stands in the i-th slot -/
section
variable {X : Cx}
theorem pv (i : Nat) {x : Str} {pos : Pos} (hN : X.N[i]? = some x := by rfl) (hv : Vis X.env.scope x := by first | exact Or.inl rfl | exact Or.inr (Or.inl rfl) | exact Or.inr (Or.inr rfl)) (hd : (x == ("__debug__" : Str)) = false := by decide)
    (hcd : (x == ("__classdict__" : Str)) = false := by decide) : PE X (.Name x pos) (tVar i) := pe_var hN hv hd hcd
end

/-! ### tests -/
theorem iteF {A B : Prop} (h : B) : if false = true then A else B := by
  rw [if_neg Bool.false_ne_true]
  exact h
theorem iteT {A B : Prop} (h : A) : if true = true then A else B := by
  rw [if_pos rfl]
  exact h
theorem ite2 {c A B : Prop} [Decidable c] (h1 : c → A) (h2 : ¬ c → B) : if c then A else B := by
  by_cases h : c
  · rw [if_pos h]
    exact h1 h
  · rw [if_neg h]
    exact h2 h
theorem iteNS {c A B : Prop} [Decidable c] (hc : c) (h : B) : if (!decide c) = true then A else B := by
  rw [decide_eq_true hc]
  exact iteF h

/-! ### heaps -/
/-- all that was tracked is as it was -/
def Same (H H' : Hp) : Prop := ∀ b o, H b = some o → H' b = some o
theorem Same.refl (H : Hp) : Same H H := fun _ _ h => h
theorem Same.trans {H H1 H2 : Hp} (a : Same H H1) (b : Same H1 H2) : Same H H2 := fun c o h => b c o (a c o h)
theorem Same.free {H H' : Hp} (e : Same H H') {l : Addr} (h : H' l = Option.none) : H l = Option.none := by
  cases q : H l with
  | none => rfl
  | some o =>
    rw [e l o q] at h
    cases h
theorem Same.seq {K : PySem.W.Frag} {H H' : Hp} {a : Addr} {xs : List V} (e : Same H H') (h : SqL K H a xs) : SqL K H' a xs := by
  rcases h with (h | ⟨o, h⟩) | h
  · exact .inl (.inl (e _ _ h))
  · exact .inl (.inr ⟨o, e _ _ h⟩)
  · exact .inr h

end L2


set_option Elab.async false
set_option linter.all false
set_option maxRecDepth 100000
namespace L2
open PySem PySem.Spec PyProof.Rows

/-! ### the closure of a block, by names -/
def closL (cells : List (Str × Addr)) : List (Str × NameKind) → List (Str × Addr) → List (Str × Addr)
  | [], acc => acc
  | (n, k) :: r, acc => if k == .free then closL cells r ((n, (cells.lookup n).getD 0) :: acc) else closL cells r acc
theorem clos_forIn {env : Env} : ∀ (names : List (Str × NameKind)) (acc : List (Str × Addr)), (∀ n, (n, NameKind.free) ∈ names → ∃ c, env.cells.lookup n = some c) →
    (forIn (m := Sem) names acc fun (x : Str × NameKind) (cs : List (Str × Addr)) => match x with
      | (name, kind) => if (kind == NameKind.free) = true then (do let a ← cellOf env name; pure (ForInStep.yield ((name, a) :: cs))) else pure (ForInStep.yield cs)) = pure (closL env.cells names acc)
  | [], acc, _ => by rw [List.forIn_nil]; rfl
  | (n, k) :: r, acc, h => by
    rw [List.forIn_cons]
    unfold closL
    by_cases hk : (k == NameKind.free) = true
    · obtain ⟨c, hc⟩ := h n (by have := eq_of_beq hk; subst this; exact List.mem_cons_self)
      have e : cellOf env n = pure c := by unfold cellOf; rw [hc]
      simp only [hk, if_true]
      rw [e, hc]
      exact clos_forIn r _ fun m hm => h m (List.mem_cons_of_mem _ hm)
    · simp only [hk]
      exact clos_forIn r _ fun m hm => h m (List.mem_cons_of_mem _ hm)
theorem closureFor_eq {scope : Scope} {env : Env} (h : ∀ n, (n, NameKind.free) ∈ scope.names → ∃ c, env.cells.lookup n = some c) : closureFor scope env = pure (closL env.cells scope.names []) := by
  have q := clos_forIn (env := env) scope.names [] h
  unfold closureFor
  exact (congrArg (fun m => m >>= fun cs => pure cs) q)
theorem closL_not {cells : List (Str × Addr)} {x : Str} : ∀ {names : List (Str × NameKind)} {acc : List (Str × Addr)}, (x, NameKind.free) ∉ names → (closL cells names acc).lookup x = acc.lookup x
  | [], _, _ => rfl
  | (n, k) :: r, acc, h => by
    unfold closL
    by_cases hk : (k == NameKind.free) = true
    · rw [if_pos hk, closL_not fun z => h (List.mem_cons_of_mem _ z), List.lookup_cons]
      have : (x == n) = false := by
        cases e : x == n with
        | false => rfl
        | true =>
          have e1 := eq_of_beq e
          have e2 := eq_of_beq hk
          subst e1; subst e2
          exact absurd List.mem_cons_self h
      rw [this]
    · rw [if_neg hk, closL_not fun z => h (List.mem_cons_of_mem _ z)]
theorem closL_free {cells : List (Str × Addr)} {x : Str} : ∀ {names : List (Str × NameKind)} {acc : List (Str × Addr)}, (x, NameKind.free) ∈ names → (closL cells names acc).lookup x = some ((cells.lookup x).getD 0)
  | (n, k) :: r, acc, h => by
    unfold closL
    by_cases hr : (x, NameKind.free) ∈ r
    · by_cases hk : (k == NameKind.free) = true
      · rw [if_pos hk]; exact closL_free hr
      · rw [if_neg hk]; exact closL_free hr
    · rcases List.mem_cons.mp h with e | e
      · cases e
        rw [if_pos (show (NameKind.free == NameKind.free) = true from rfl), closL_not hr, List.lookup_cons]
        simp
      · exact absurd e hr
theorem cellsFrom_acc : ∀ (names : List (Str × NameKind)) (n : Nat) (acc : List (Str × Addr)), cellsFrom n names acc = cellsFrom n names [] ++ acc
  | [], _, _ => rfl
  | (x, k) :: r, n, acc => by
    unfold cellsFrom
    by_cases hk : (k == NameKind.cell) = true
    · rw [if_pos hk, if_pos hk, cellsFrom_acc r (n + 1) ((x, n) :: acc), cellsFrom_acc r (n + 1) [(x, n)], List.append_assoc]; rfl
    · rw [if_neg hk, if_neg hk]; exact cellsFrom_acc r n acc
theorem cellsFrom_mem {x : Str} {c : Addr} : ∀ {names : List (Str × NameKind)} {n : Nat}, (x, c) ∈ cellsFrom n names [] → (x, NameKind.cell) ∈ names ∧ n ≤ c
  | [], _, h => nomatch h
  | (y, k) :: r, n, h => by
    unfold cellsFrom at h
    by_cases hk : (k == NameKind.cell) = true
    · rw [if_pos hk, cellsFrom_acc] at h
      rcases List.mem_append.mp h with h | h
      · obtain ⟨h1, h2⟩ := cellsFrom_mem h
        exact ⟨List.mem_cons_of_mem _ h1, by omega⟩
      · have e : (x, c) = (y, n) := by simpa using h
        cases e
        have := eq_of_beq hk
        subst this
        exact ⟨List.mem_cons_self, Nat.le_refl _⟩
    · rw [if_neg hk] at h
      obtain ⟨h1, h2⟩ := cellsFrom_mem h
      exact ⟨List.mem_cons_of_mem _ h1, h2⟩

/-! ### the names of a block inside another -/
structure CompScope (sc : Scope) (N own : List Str) (scope : Scope) : Prop where
  kind : scope.kind = .function
  frees : ∀ n, (n, NameKind.free) ∈ scope.names → sc.names.lookup n = some .cell ∨ sc.names.lookup n = some .free
  own : ∀ x ∈ own, (x, NameKind.free) ∉ scope.names
  out : ∀ x ∈ N, scope.names.lookup x ≠ some .local ∧ scope.names.lookup x ≠ some .cell
  uniq : ∀ p ∈ scope.names, scope.names.lookup p.1 = some p.2
def compLook (sc : Scope) (N own : List Str) (scope : Scope) : Bool :=
  (scope.kind == .function) && scope.names.all (fun p => p.2 != .free || (sc.names.lookup p.1 == some .cell) || (sc.names.lookup p.1 == some .free)) &&
  own.all (fun x => scope.names.all fun p => !(p.1 == x && p.2 == .free)) && N.all (fun x => scope.names.lookup x != some .local && scope.names.lookup x != some .cell) &&
  scope.names.all (fun p => scope.names.lookup p.1 == some p.2)
theorem CompScope.of {sc : Scope} {N own : List Str} {scope : Scope} (h : compLook sc N own scope = true) : CompScope sc N own scope := by
  unfold compLook at h
  simp only [Bool.and_eq_true] at h
  obtain ⟨⟨⟨⟨h1, h2⟩, h3⟩, h4⟩, h5⟩ := h
  refine ⟨eq_of_beq h1, fun n hn => ?_, fun x hx hn => ?_, fun x hx => ?_, fun p hp => ?_⟩
  · have := List.all_eq_true.mp h2 _ hn
    simp only [Bool.or_eq_true, bne_self_eq_false, Bool.false_eq_true, false_or] at this
    rcases this with q | q
    · exact .inl (eq_of_beq q)
    · exact .inr (eq_of_beq q)
  · have := List.all_eq_true.mp (List.all_eq_true.mp h3 x hx) _ hn
    simp at this
  · have := List.all_eq_true.mp h4 x hx
    simp only [Bool.and_eq_true, bne_iff_ne] at this
    exact this
  · exact eq_of_beq (List.all_eq_true.mp h5 p hp)
theorem lookup_relabel {env : Env} {x : Str} : ∀ (names : List (Str × NameKind)),
    (names.map fun (n, k) => if (k == NameKind.free && env.scope.kind == .function && env.kindOf n == some .cell) then (n, NameKind.cell) else (n, k)).lookup x
      = (names.lookup x).map fun k => if (k == NameKind.free && env.scope.kind == .function && env.kindOf x == some .cell) then NameKind.cell else k
  | [] => rfl
  | (n, k) :: r => by
    have ih := lookup_relabel (env := env) (x := x) r
    rw [List.map_cons]
    show List.lookup x ((if (k == NameKind.free && env.scope.kind == .function && env.kindOf n == some .cell) = true then (n, NameKind.cell) else (n, k)) :: _) = _
    by_cases hc : (k == NameKind.free && env.scope.kind == .function && env.kindOf n == some .cell) = true
    · rw [if_pos hc, List.lookup_cons, List.lookup_cons]
      cases hx : x == n with
      | true => have := eq_of_beq hx; subst this; exact congrArg some (if_pos hc).symm
      | false => exact ih
    · rw [if_neg hc, List.lookup_cons, List.lookup_cons]
      cases hx : x == n with
      | true => have := eq_of_beq hx; subst this; exact congrArg some (if_neg hc).symm
      | false => exact ih
theorem mem_of_lookupK {names : List (Str × NameKind)} {x : Str} {k : NameKind} (h : names.lookup x = some k) : (x, k) ∈ names := PySem.mem_of_lookup h

def cenvOf (scope : Scope) (C : Addr) (env : Env) : Env :=
  { scope := relabel scope env, locals := C, globals := env.globals, cells := cellsFrom (C + 1) scope.names (closL env.cells scope.names []), qual := env.qual, func := none, code := env.code, frame := env.frame, builtins := env.builtins }

theorem wp_newCompEnv {M : Model} {A : Around} {E : Value → Shared → Prop} {s : Shared} {scope : Scope} {env : Env} {cl : List (Str × Addr)} {Q : Env → Shared → Prop}
    (hQ : Q { scope := scope, locals := s.heap.objs.size, globals := env.globals, cells := cellsFrom (s.heap.objs.size + 1) scope.names cl, qual := env.qual, func := none, code := env.code, frame := env.frame, builtins := env.builtins }
      { s with heap := pushCells (s.heap.push { cls := .type "dict", data := .dict #[] }) scope.names }) :
    wpAny M A (newFunctionEnv scope env.globals cl [] env.qual none .none (some env)) Q E s := by
  simp only [newFunctionEnv, Option.isSome_some, if_true]
  refine wpAny_bind (wpAny_alloc ?_)
  refine wpAny_bind (wpAny_layCells _ (fun name kind cells => by cases hkc : kind == NameKind.cell <;> simp [hkc]) _ _ _ _ ?_)
  rw [show ({ s with heap := s.heap.push { cls := .type "dict", data := .dict #[] } } : Shared).heap.objs.size = s.heap.objs.size + 1 from Heap.size_push ..]
  exact wpAny_pure hQ

/-- the context of a comprehension's block -/
def cxComp (X : Cx) (own : List Str) (scope : Scope) (C : Addr) (s2 : Shared) (H2 : Hp) (fp : List Addr) (pins : List (Addr × Obj)) : Cx where
  prog := X.prog
  w := X.w
  K := X.K
  mg := X.mg
  base := X.base
  A := X.A
  N := own ++ X.N
  s₀ := s2
  H₀ := H2
  env := cenvOf scope C X.env
  outer := X.stack
  stack := X.stack
  ex := fp
  fn := fun x => own.any (· == x)
  calm := X.calm
  pn := X.pn ++ pins
  xe := fun _ _ => False

section
variable {X : Cx} {own : List Str} {scope : Scope} {pins : List (Addr × Obj)} {σ : St} {H2 : Hp} {s2 : Shared} {fp : List Addr}
theorem relabel_lookup (x : Str) : (relabel scope X.env).names.lookup x = (scope.names.lookup x).map fun k => if (k == NameKind.free && X.env.scope.kind == .function && X.env.kindOf x == some .cell) then NameKind.cell else k :=
  lookup_relabel _
theorem cells_split {C : Addr} {x : Str} {c : Addr} (h : (cenvOf scope C X.env).cells.lookup x = some c) : ((x, c) ∈ cellsFrom (C + 1) scope.names [] ∧ (x, NameKind.cell) ∈ scope.names ∧ C + 1 ≤ c) ∨ (closL X.env.cells scope.names []).lookup x = some c := by
  have h' : (cellsFrom (C + 1) scope.names (closL X.env.cells scope.names [])).lookup x = some c := h
  rw [cellsFrom_acc, List.lookup_append] at h'
  cases e : (cellsFrom (C + 1) scope.names []).lookup x with
  | some d =>
    rw [e] at h'
    cases h'
    have m := PySem.mem_of_lookup e
    exact .inl ⟨m, cellsFrom_mem m⟩
  | none =>
    rw [e] at h'
    exact .inr h'
theorem clos_old (I : Inv X pins σ H2 s2) (CS : CompScope X.env.scope X.N own scope) {x : Str} {c : Addr} (h : (closL X.env.cells scope.names []).lookup x = some c) : (x, NameKind.free) ∈ scope.names ∧ X.env.cells.lookup x = some c := by
  by_cases hf : (x, NameKind.free) ∈ scope.names
  · refine ⟨hf, ?_⟩
    rw [closL_free hf] at h
    obtain ⟨d, hd⟩ := I.ok.has x (CS.frees x hf)
    rw [hd] at h
    cases h
    exact hd
  · rw [closL_not hf] at h
    cases h
/-- the block's context is well -/
theorem comp_ok (I : Inv X pins σ H2 s2) (CS : CompScope X.env.scope X.N own scope) {C : Addr} (hC : s2.heap.objs.size ≤ C) (hf : ∀ b ∈ fp, FpOk X pins H2 b) (hl : ∀ b ∈ fp, b < s2.heap.objs.size) : (cxComp X own scope C s2 H2 fp pins).Ok := by
  have old : ∀ x c, (closL X.env.cells scope.names []).lookup x = some c → X.env.cells.lookup x = some c ∧ c < s2.heap.objs.size := fun x c h => by
    obtain ⟨_, q⟩ := clos_old I CS h
    obtain ⟨v, z⟩ := I.cell x c q
    exact ⟨q, z.lt⟩
  refine ⟨I.ok.mod, CS.kind, I.ok.glob, I.ok.blt, hC, fun x y c h1 h2 => ?_, fun x hx => ?_, fun x c hx h => ?_, I.ok.hd, I.ok.frames, .inl rfl, fun b hb => ⟨?_, fun x c h => ?_⟩, I.bs, Nat.le_trans I.ok.bsz I.sz, fun b o e hb => ?_, fun b hb z => ?_, I.stack, I.stkFree⟩
  · rcases cells_split h1 with ⟨a1, _, a2⟩ | a1 <;> rcases cells_split h2 with ⟨b1, _, b2⟩ | b1
    · have ap := (cellsFrom_ok scope.names { (default : Heap) with objs := Array.replicate (C + 1) default } (C + 1) [] ⟨fun _ _ hm => (nomatch hm), List.Pairwise.nil⟩ (by simp)).apart
      simp only [Array.size_replicate] at ap
      exact name_of_addr ap a1 b1
    · exact absurd (Nat.lt_of_lt_of_le (old y c b1).2 (Nat.le_trans hC (Nat.le_trans (Nat.le_succ _) a2))) (Nat.lt_irrefl _)
    · exact absurd (Nat.lt_of_lt_of_le (old x c a1).2 (Nat.le_trans hC (Nat.le_trans (Nat.le_succ _) b2))) (Nat.lt_irrefl _)
    · exact I.ok.inj x y c (old x c a1).1 (old y c b1).1
  · have hx' : (relabel scope X.env).names.lookup x = some .cell ∨ (relabel scope X.env).names.lookup x = some .free := hx
    rw [relabel_lookup] at hx'
    show ∃ c, (cellsFrom (C + 1) scope.names (closL X.env.cells scope.names [])).lookup x = some c
    refine Option.isSome_iff_exists.mp (PySem.W.cellsFrom_some _ _ _ ?_)
    cases e : scope.names.lookup x with
    | none => rw [e] at hx'; simp at hx'
    | some k =>
      rw [e] at hx'
      by_cases hk : k = .free
      · subst hk
        exact .inr (by rw [closL_free (mem_of_lookupK e)]; rfl)
      · have hb : (k == NameKind.free) = false := by simpa using hk
        simp only [Option.map_some, hb, Bool.false_and, Bool.false_eq_true, if_false, Option.some.injEq] at hx'
        rcases hx' with q | q
        · exact .inl (by rw [q])
        · exact absurd q hk
  · obtain ⟨y, hy, e⟩ := List.any_eq_true.mp hx
    have := eq_of_beq e
    subst this
    rcases cells_split h with ⟨_, _, a⟩ | a
    · exact Nat.le_trans hC (Nat.le_trans (Nat.le_succ _) a)
    · exact absurd (clos_old I CS a).1 (CS.own _ hy)
  · exact Nat.ne_of_lt (Nat.lt_of_lt_of_le (hl b hb) hC)
  · rcases cells_split h with ⟨_, _, a⟩ | a
    · exact Ne.symm (Nat.ne_of_lt (Nat.lt_of_lt_of_le (hl b hb) (Nat.le_trans hC (Nat.le_trans (Nat.le_succ _) a))))
    · exact (hf b hb).2.2.2.2.1 x c (old x c a).1
  · rcases (hf b hb).2.2.2.1 with z | z
    · exact I.ok.noex b o e z
    · exact absurd (Nat.lt_of_lt_of_le (Heap.lt_size e) (Nat.le_trans I.ok.bsz z)) (Nat.lt_irrefl _)
  · rcases List.mem_cons.mp (I.stkSub b z) with e | e
    · exact (hf b hb).2.1 e
    · exact (hf b hb).2.2.1 e

/-- the outer names, as the block sees them -/
theorem comp_loc (I : Inv X pins σ H2 s2) (CS : CompScope X.env.scope X.N own scope) {C : Addr} {h : Heap} (hc : ∀ c v, s2.heap.IsCell c v → (∃ x, X.env.cells.lookup x = some c) → h.IsCell c v) {m : Str → Option Value} :
    ∀ (i : Nat) (x : Str) (v : V), (own ++ X.N)[i]? = some x → (List.replicate own.length (none : Option V) ++ σ)[i]? = some (some v) → Vis (relabel scope X.env) x → ∃ u, RelV v u ∧ Look (cenvOf scope C X.env) h m x u := by
  intro i x v h1 h2 h3
  have hi : own.length ≤ i := by
    by_cases hi : own.length ≤ i
    · exact hi
    · rw [List.getElem?_append_left (by simpa using hi), List.getElem?_replicate] at h2
      split at h2 <;> cases h2
  rw [List.getElem?_append_right hi] at h1
  rw [List.getElem?_append_right (by simpa using hi), List.length_replicate] at h2
  have hN := CS.out x (List.mem_of_getElem? h1)
  have hfr : scope.names.lookup x = some .free := by
    unfold Vis at h3
    rw [relabel_lookup] at h3
    cases e : scope.names.lookup x with
    | none => rw [e] at h3; simp at h3
    | some k =>
      rw [e] at h3 hN
      by_cases hk : k = .free
      · rw [hk]
      · have hb : (k == NameKind.free) = false := by simpa using hk
        simp only [Option.map_some, hb, Bool.false_and, Bool.false_eq_true, if_false, Option.some.injEq] at h3
        rcases h3 with q | q | q
        · exact absurd (by rw [q]) hN.1
        · exact absurd (by rw [q]) hN.2
        · exact absurd q hk
  have hm := mem_of_lookupK hfr
  have hk := CS.frees x hm
  obtain ⟨mX, hn, hl⟩ := I.loc
  obtain ⟨u, r, l⟩ := hl _ x v h1 h2 (hk.elim (fun z => .inr (.inl z)) fun z => .inr (.inr z))
  refine ⟨u, r, ?_⟩
  rcases l with ⟨z, _⟩ | ⟨_, c, hcx, z⟩
  · have z' : X.env.scope.names.lookup x = some .local := z
    rcases hk with q | q <;> rw [q] at z' <;> cases z'
  · refine .inr ⟨?_, c, ?_, hc c _ z ⟨x, hcx⟩⟩
    · show (relabel scope X.env).names.lookup x = some .cell ∨ (relabel scope X.env).names.lookup x = some .free
      rw [relabel_lookup, hfr]
      simp only [Option.map_some]
      split
      · exact .inl rfl
      · exact .inr rfl
    · show (cellsFrom (C + 1) scope.names (closL X.env.cells scope.names [])).lookup x = some c
      rw [cellsFrom_acc, List.lookup_append]
      have no : (cellsFrom (C + 1) scope.names []).lookup x = none := by
        cases e : (cellsFrom (C + 1) scope.names []).lookup x with
        | none => rfl
        | some d =>
          have := CS.uniq _ (cellsFrom_mem (PySem.mem_of_lookup e)).1
          simp only [] at this
          rw [hfr] at this
          cases this
      rw [no, closL_free hm, hcx]
      rfl
end
end L2

set_option Elab.async false
set_option linter.all false
set_option maxRecDepth 100000
namespace L2
open PySem PySem.Spec PyProof.Rows

theorem loop_turns {prog : Program} {w : World} {A : Around} {R : Result → Shared → Prop} {s : Shared} {elt target iter : Expr} {ifs : List Expr} {scope : Scope} {pos : Pos} {it acc : Value} {env : Env} (I : Nat → Shared → Prop)
    (turn : ∀ n s, I n s → wpAny (model prog w) A (pyNext it) (fun r s1 => match r with
      | none => R (.ok .next) s1
      | some v => wpAny (model prog w) A (letOwnedTupleGo target it v) (fun _ s2 => wpAny (model prog w) A (assign target env v) (fun _ s3 =>
          wpAny (model prog w) A (forIn ifs true fun c r => if r = true then do let ok ← isTrue c env (eval c env); pure (ForInStep.yield ok) else pure (ForInStep.yield r)) (fun ok s4 =>
            if ok = true then wpAny (model prog w) A (eval elt env) (fun x s5 =>
              wpAny (model prog w) A (call (.builtin "list.append") [acc, x]) (fun _ s6 => ∃ m, m < n ∧ I m s6) (fun _ _ => False) s5) (fun _ _ => False) s4
            else ∃ m, m < n ∧ I m s4) (fun _ _ => False) s3) (fun _ _ => False) s2) (fun _ _ => False) s1) (fun _ _ => False) s)
    (n : Nat) (h : I n s) :
    codeAny (model prog w) A (.compLoop (.ListComp elt [⟨target, iter, ifs, 0⟩] scope pos) 0 it acc env) R s := by
  refine codeAny_loop rfl I (fun n s hI => ?_) n h
  show wpAny _ A ((compTurn (.ListComp elt [⟨target, iter, ifs, 0⟩] scope pos) 0 it acc env).onRaise (fun x => do noteFrame x env; theTreesLotGoes x)) _ _ s
  refine wpAny_noted ?_
  rw [compTurn_list]
  refine wpAny_mono (E := fun _ _ => False) (E' := _) (Q' := _) ?_ (fun _ _ q => q) fun _ _ z => z.elim
  refine wpAny_bind (wpAny_standAt (wpAny_bind (thn (turn n s hI) (fun r s1 h1 => ?_))))
  cases r with
  | none => exact wpAny_pure h1
  | some v =>
    refine wpAny_bind (thn h1 fun _ s2 h2 => ?_)
    refine wpAny_bind (thn h2 fun _ s3 h3 => wpAny_bind (thn h3 fun ok s4 h4 => ?_))
    cases ok with
    | false => exact wpAny_pure ⟨rfl, h4⟩
    | true => exact wpAny_bind (wpAny_bind (thn h4 fun x s5 h5 => wpAny_bind (thn h5 fun _ s6 h6 => wpAny_pure (wpAny_pure ⟨rfl, h6⟩))))

/-- the tests of a clause -/
def PTs (X : Cx) (ifs : List Expr) (t : TT) : Prop :=
  ∀ (pins : List (Addr × Obj)) (s : Shared) (σ : St) (H : Hp) (Q : Bool → Hp → Prop), Inv X pins σ H s → t σ H Q →
    wpAny (model X.prog X.w) X.A (forIn ifs true fun c r => if r = true then do let ok ← isTrue c X.env (eval c X.env); pure (ForInStep.yield ok) else pure (ForInStep.yield r)) (TP X pins σ Q) X.xe s
def tYes : TT := fun _ H Q => Q true H
theorem pts_nil {X : Cx} : PTs X [] tYes := fun _ _ _ H _ I h => wpAny_tests_nil ⟨H, I, h⟩
theorem pts_one {X : Cx} {c : Expr} {t : TT} (h : PT X c t) : PTs X [c] t := fun pins s σ H Q I q => wpAny_tests_one (h pins s σ H Q I q)

/-- what a comprehension does, turn by turn: W by the turn, a measure, the list so far, the heap -/
def compW (n : Nat) (J : It) (g : TG) (tc : TT) (te : TE) (σ : St) (H : Hp) (Q : VK) : Prop :=
  ∃ W : Nat → Nat → List V → Hp → Prop, (∃ m, W 0 m [] H) ∧ ∀ i m ys H, W i m ys H →
    (J.stop i H ∧ ys.length ≤ sizeLine ∧ ∀ p, H p = none → Q (.ref p) (upd H p (.lst ys))) ∨
    (J.go i H ∧ ys.length ≤ sizeLine ∧ ∃ N : List V → Hp → Prop, (∀ ys' H', N ys' H' → ∃ m', m' < m ∧ W (i + 1) m' ys' H') ∧ ∀ x H', J.yld i H x H' → g x (List.replicate n none ++ σ) H' fun σ2 H2 => tc σ2 H2 fun b H3 =>
      if b = true then te σ2 H3 fun y H4 => N (ys ++ [y]) H4 else N ys H3)

theorem comp_block {X : Cx} {own : List Str} {scope : Scope} {pins : List (Addr × Obj)} {σ : St} {H2 : Hp} {s2 : Shared} {fp : List Addr} {it : Addr} {tn : Nat → Heap → Prop} {J : It} {elt tg iter : Expr} {ifs : List Expr} {pos : Pos} {g : TG} {tc : TT} {te : TE} {Q : VK}
    {RR : Value → Addr → Result → Shared → Prop} {E : Value → Shared → Prop} (I : Inv X pins σ H2 s2) (CS : CompScope X.env.scope X.N own scope) (hc : X.calm = true) (T : Turn X.prog X.w X.K tg J fp it tn) (st : tn 0 s2.heap) (hf : ∀ b ∈ fp, FpOk X pins H2 b)
    (hg : ∀ C s2 H2 fp pins, PG (cxComp X own scope C s2 H2 fp pins) tg g) (ht : ∀ C s2 H2 fp pins, PTs (cxComp X own scope C s2 H2 fp pins) ifs tc) (he : ∀ C s2 H2 fp pins, PE (cxComp X own scope C s2 H2 fp pins) elt te)
    (hW : compW own.length J g tc te σ H2 Q)
    (hR : ∀ D C H' s', Inv X pins σ H' s' → FpOk X pins H' C → (∃ m, s'.heap.Ns C m) → Q (.ref D) H' → RR (.ref D) C (.ok .next) s') :
    wpAny (model X.prog X.w) X.A (newList []) (fun acc s3 => wpAny (model X.prog X.w) X.A (newFunctionEnv scope X.env.globals (closL X.env.cells scope.names []) [] X.env.qual none .none (some X.env)) (fun cenv s4 =>
      codeAny (model X.prog X.w) X.A (.compStart (.ListComp elt [⟨tg, iter, ifs, 0⟩] scope pos) 0 (.ref it) acc { cenv with scope := relabel scope X.env }) (RR acc cenv.locals) s4) E s3) E s2 := by
  refine wpAny_newObj_type (wp_newCompEnv ?_)
  dsimp only
  generalize hH : s2.heap.push { cls := .type "list", dict := none, data := .seq ([] : List Value).toArray } = h3
  have hDC : h3.objs.size = s2.heap.objs.size + 1 := by rw [← hH, Heap.size_push]
  have eC : ({ scope := relabel scope X.env, locals := h3.objs.size, globals := X.env.globals, cells := cellsFrom (h3.objs.size + 1) scope.names (closL X.env.cells scope.names []), qual := X.env.qual, func := none, code := X.env.code, frame := X.env.frame, builtins := X.env.builtins } : Env) = cenvOf scope h3.objs.size X.env := rfl
  rw [eC]
  generalize eD : s2.heap.objs.size = D at *
  generalize eCC : h3.objs.size = C at *
  have hl : ∀ b ∈ fp, b < s2.heap.objs.size := fun b hb => by
    obtain ⟨o, e, _⟩ := T.obj 0 _ st b hb
    exact Heap.lt_size e
  have hC : s2.heap.objs.size ≤ C := by omega
  generalize hH4 : pushCells (h3.push { cls := .type "dict", data := .dict #[] }) scope.names = h4
  have k34 : ∀ b o, (h3.push { cls := .type "dict", data := .dict #[] }).get? b = some o → h4.get? b = some o := fun b o e => by rw [← hH4]; exact pushCells_keeps _ _ b o e
  have k24 : ∀ b o, s2.heap.get? b = some o → h4.get? b = some o := fun b o e => k34 b o (Heap.get?_push_of_some _ (by rw [← hH]; exact Heap.get?_push_of_some _ e))
  have nsC : h4.Ns C fun _ => none := by
    have := Heap.Ns.new h3 (.type "dict")
    rw [eCC] at this
    exact this.keeps k34
  have accD : h4.get? D = some { cls := .type "list", data := .seq (([] : List Value).toArray) } := k34 _ _ (Heap.get?_push_of_some _ (by rw [← hH, ← eD]; exact Heap.get?_push_size _ rfl))
  have cellN : ∀ x c, (x, c) ∈ cellsFrom (C + 1) scope.names [] → h4.IsCell c none ∧ C + 1 ≤ c := fun x c hm => by
    have ok := cellsFrom_ok scope.names (h3.push { cls := .type "dict", data := .dict #[] }) (C + 1) [] ⟨fun _ _ hm => (nomatch hm), List.Pairwise.nil⟩ (by rw [Heap.size_push]; omega)
    rw [Heap.size_push, eCC, hH4] at ok
    exact ok.empty x c hm
  have hne : H2 D = none := by rw [← eD]; exact I.hok.fresh (Nat.le_refl _)
  have ok' : (cxComp X own scope C s2 H2 fp pins).Ok := comp_ok I CS hC hf hl
  -- the outer names, at any later state
  have rebase : ∀ {σ' : St} {H' : Hp} {ps : List (Addr × Obj)} {s' : Shared}, Inv (cxComp X own scope C s2 H2 fp pins) ps σ' H' s' → Inv (cxComp X own scope C s2 H2 fp pins) ps (List.replicate own.length none ++ σ) H' s' := fun {σ' H' ps s'} J' => by
    obtain ⟨m, hn, _⟩ := J'.loc
    refine ⟨J'.ok, J'.os, J'.bare, J'.base, ⟨m, hn, comp_loc I CS fun c v z ⟨x, hx⟩ => ?_⟩, J'.cell, J'.free, J'.freeC, J'.pin, J'.hok, ?_⟩
    · obtain ⟨o, ho, hd⟩ := z
      obtain ⟨sl, e⟩ := J'.base.any ho (I.freeC x c hx) fun hb => (hf c hb).2.2.2.2.1 x c hx rfl
      exact ⟨_, e, hd⟩
    · show (List.replicate own.length none ++ σ).length = (own ++ X.N).length
      rw [List.length_append, List.length_append, List.length_replicate, I.len]
  have start : Inv (cxComp X own scope C s2 H2 fp pins) [] (List.replicate own.length none ++ σ) H2 { s2 with heap := h4 } := by
    have I4 : Inv X pins σ H2 { s2 with heap := h4 } := I.kept (t' := s2.toks) k24
    refine ⟨ok', rfl, I.bare, Un.kept k24, ⟨_, nsC, comp_loc I CS fun c v z _ => z.keeps k24⟩, fun x c h => ?_, I.hok.fresh hC, fun x c h => ?_, fun p hp => ?_, I4.hok, ?_⟩
    · rcases cells_split h with ⟨a, _, _⟩ | a
      · exact ⟨_, (cellN x c a).1⟩
      · obtain ⟨v, z⟩ := I.cell x c (clos_old I CS a).2
        exact ⟨v, z.keeps k24⟩
    · rcases cells_split h with ⟨_, _, a⟩ | a
      · exact I.hok.fresh (Nat.le_trans hC (Nat.le_trans (Nat.le_succ _) a))
      · exact I.freeC x c (clos_old I CS a).2
    · have hp' : p ∈ X.pn ++ pins := by
        rcases List.mem_append.mp hp with z | z
        · exact z
        · exact nomatch z
      obtain ⟨e, n, ne, nf, d⟩ := I.pin p hp'
      refine ⟨k24 _ _ e, n, Nat.ne_of_lt (Nat.lt_of_lt_of_le (Heap.lt_size e) hC), fun z => ?_, d⟩
      rcases List.mem_cons.mp (I.stkSub _ z) with q | q
      · exact ne q
      · exact nf q
    · show (List.replicate own.length none ++ σ).length = (own ++ X.N).length
      rw [List.length_append, List.length_append, List.length_replicate, I.len]
  obtain ⟨W, ⟨m0, w0⟩, turn⟩ := hW
  -- the block's iterator and list
  have nfs : ∀ b, s2.heap.objs.size ≤ b → b ∉ (cxComp X own scope C s2 H2 fp pins).fs := fun b hb z => by
    rcases List.mem_cons.mp (I.stkSub b z) with q | q
    · rw [q] at hb; exact absurd (Nat.lt_of_lt_of_le I.lt hb) (Nat.lt_irrefl _)
    · exact I.nofs hb q
  have fpD : ∀ {H' : Hp}, H' D = none → FpOk (cxComp X own scope C s2 H2 fp pins) [] H' D := fun {H'} hn => by
    refine ⟨hn, Nat.ne_of_lt (by show D < C; omega), nfs D (by omega), .inr (by show s2.heap.objs.size ≤ D; omega), fun x c h z => ?_, fun p hp z => ?_⟩
    · rcases cells_split h with ⟨_, _, a⟩ | a
      · rw [z] at a; exact absurd (Nat.lt_of_lt_of_le (show D < C + 1 by omega) a) (Nat.lt_irrefl _)
      · obtain ⟨v, q⟩ := I.cell x c (clos_old I CS a).2
        have := q.lt
        rw [z, eD] at this
        exact Nat.lt_irrefl _ this
    · have hp' : p ∈ X.pn ++ pins := by
        rcases List.mem_append.mp hp with z | z
        · exact z
        · exact nomatch z
      have := Heap.lt_size (I.pin p hp').1
      rw [z, eD] at this
      exact Nat.lt_irrefl _ this
  have nD : D ∉ fp := fun z => by have := hl D z; rw [eD] at this; exact Nat.lt_irrefl _ this
  have stat : ∀ {H' : Hp} {ps : List (Addr × Obj)}, (∀ p ∈ ps, p.1 = D) → (∀ b ∈ fp, H' b = none) → ∀ b ∈ fp, FpOk (cxComp X own scope C s2 H2 fp pins) ps H' b := fun {H' ps} hps hn b hb => by
    obtain ⟨f0, f1, f2, f3, f4, f5⟩ := hf b hb
    refine ⟨hn b hb, (ok'.exf b hb).1, ok'.exfs b hb, .inl hb, (ok'.exf b hb).2, fun p hp => ?_⟩
    rcases List.mem_append.mp hp with z | z
    · exact f5 p z
    · rw [hps p z]
      exact fun q => nD (q ▸ hb)
  -- the loop
  let LI : Nat → Shared → Prop := fun n s' => ∃ i ys its k H', Inv (cxComp X own scope C s2 H2 fp pins) [] (List.replicate own.length none ++ σ) H' s' ∧ tn i s'.heap ∧ (∀ b ∈ fp, H' b = none) ∧ H' D = none ∧
    s'.heap.get? D = some { cls := .type "list", data := .seq (List.toArray its) k } ∧ Vals ys its ∧ W i n ys H'
  have l0 : LI m0 { s2 with heap := h4 } := ⟨0, [], [], 0, H2, start, T.keep _ _ _ st fun b _ o e => k24 b o e, fun b hb => (hf b hb).1, hne, accD, .nil, w0⟩
  have loop : codeAny (model X.prog X.w) X.A (.compLoop (.ListComp elt [⟨tg, iter, ifs, 0⟩] scope pos) 0 (.ref it) (.ref D) (cenvOf scope C X.env)) (RR (.ref D) C) { s2 with heap := h4 } := by
    refine loop_turns LI ?_ m0 l0
    rintro n s3 ⟨i, ys, its, k, H3, I3, st3, fr3, d3, a3, v3, w3⟩
    rcases turn i n ys H3 w3 with ⟨stop, hz, qn⟩ | ⟨go, hz, NN, hNN, step⟩
    · have I3p := I3.pinned (fp := [D]) (fun b hb => (List.mem_singleton.mp hb) ▸ fpD d3) fun b hb => ⟨_, (List.mem_singleton.mp hb) ▸ a3, fun v z => (by cases z)⟩
      refine thn (T.done (cxComp X own scope C s2 H2 fp pins) rfl rfl rfl hc i _ s3 _ H3 _ I3p (stat (fun p hp => by have q : p ∈ pinsAt [D] s3.heap := hp; have := (of_pinsAt q).1; simpa using this) fr3) st3 stop) fun r s4 ⟨hr, I4⟩ => ?_
      subst hr
      have a4 : s4.heap.get? D = _ := (I4.pin (D, _) (List.mem_append_right _ (List.mem_append_right _ (mem_pinsAt (by simp) a3)))).1
      have u4 : Un (frs X.stack) fp H2 H3 s2.heap s4.heap := I4.base
      have okD : HOk X.prog X.w (upd H3 D (.lst ys)) s4.heap := fun b o e => by
        by_cases hb : b = D
        · subst hb
          rw [upd_same] at e
          cases e
          exact ⟨hz, its, k, v3, a4⟩
        · rw [upd_ne hb] at e
          exact (I4.hok b o e).stay (fun _ _ _ q => q) (fun c q => by rw [upd_ne (ne_of_none q d3)]; exact q) fun c xs q => by rw [upd_ne (ne_of_none q d3)]; exact q
      have nDo : ∀ b o, s2.heap.get? b = some o → b ≠ D := fun b o e => by rw [← eD]; exact Nat.ne_of_lt (Heap.lt_size e)
      have uD : Un (frs X.stack) fp H2 (upd H3 D (.lst ys)) s2.heap s4.heap := ⟨u4.keep, u4.slot, fun b o e n hx => by rw [upd_ne (nDo b o e)]; exact u4.free b o e n hx, u4.there,
        fun b xs e => by rw [upd_ne (ne_of_none e hne)]; exact u4.tups b xs e, fun b o xs e => by rw [upd_ne (ne_of_none e hne)]; exact u4.frzs b o xs e, fun b ps e => by rw [upd_ne (ne_of_none e hne)]; exact u4.tbls b ps e⟩
      have I5 : Inv X pins σ (upd H3 D (.lst ys)) s4 := I.call' (I4.os) uD okD I4.bare fun b hb => ⟨(hf b hb).2.2.2.1, (hf b hb).2.1, (hf b hb).2.2.2.2.1, (hf b hb).2.2.2.2.2⟩
      obtain ⟨m, hn, _⟩ := I4.loc
      refine hR D C _ s4 I5 ⟨by rw [upd_ne (show C ≠ D by omega)]; exact I4.free, Nat.ne_of_gt (Nat.lt_of_lt_of_le I.lt hC), I.nofs hC, .inr (Nat.le_trans I.sz hC), fun x c e z => ?_, fun p hp z => ?_⟩ ⟨m, hn⟩ (qn D d3)
      · obtain ⟨v, q⟩ := I.cell x c e
        exact absurd (Nat.lt_of_lt_of_le q.lt (by rw [z]; exact hC)) (Nat.lt_irrefl _)
      · exact absurd (Nat.lt_of_lt_of_le (Heap.lt_size (I.pin p hp).1) (by rw [z]; exact hC)) (Nat.lt_irrefl _)
    · have I3p := I3.pinned (fp := [D]) (fun b hb => (List.mem_singleton.mp hb) ▸ fpD d3) fun b hb => ⟨_, (List.mem_singleton.mp hb) ▸ a3, fun v z => (by cases z)⟩
      have onlyD : ∀ p ∈ ([] ++ pinsAt [D] s3.heap), p.1 = D := fun p hp => by have q : p ∈ pinsAt [D] s3.heap := hp; have := (of_pinsAt q).1; simpa using this
      refine thn (T.item (cxComp X own scope C s2 H2 fp pins) rfl rfl rfl hc i _ s3 _ H3 _ I3p (stat onlyD fr3) st3 go) fun r s4 ⟨u, hr, h4'⟩ => ?_
      subst hr
      refine thn h4' fun _ s5 ⟨x, H5, I5, r5, y5, st5, fr5⟩ => ?_
      have I5p := I5.pinned (fp := fp) (stat onlyD fr5) (T.obj _ _ st5)
      have cont : ∀ {s6 : Shared} {σ6 : St} {H6 : Hp}, Inv (cxComp X own scope C s2 H2 fp pins) (([] ++ pinsAt [D] s3.heap) ++ pinsAt fp s5.heap) σ6 H6 s6 →
          Inv (cxComp X own scope C s2 H2 fp pins) [] (List.replicate own.length none ++ σ) H6 s6 ∧ tn (i + 1) s6.heap ∧ (∀ b ∈ fp, H6 b = none) ∧ H6 D = none ∧ s6.heap.get? D = some { cls := .type "list", data := .seq (List.toArray its) k } := fun {s6 σ6 H6} I6 => by
        have pD := I6.pin (D, _) (List.mem_append_right _ (List.mem_append_left _ (List.mem_append_right _ (mem_pinsAt (by simp) a3))))
        refine ⟨rebase (I6.pins_of fun p hp => nomatch hp), T.keep _ _ _ st5 fun b hb o e => (I6.pin (b, o) (List.mem_append_right _ (List.mem_append_right _ (mem_pinsAt hb e)))).1, fun b hb => ?_, pD.2.1, pD.1⟩
        obtain ⟨o, e, _⟩ := T.obj _ _ st5 b hb
        exact (I6.pin (b, o) (List.mem_append_right _ (List.mem_append_right _ (mem_pinsAt hb e)))).2.1
      refine thn (hg C s2 H2 fp pins _ s5 _ H5 x u _ I5p r5 (step x H5 y5)) fun _ s6 ⟨σ6, H6, I6, q6⟩ => ?_
      refine thn (ht C s2 H2 fp pins _ s6 σ6 H6 _ I6 q6) fun b s7 ⟨H7, I7, q7⟩ => ?_
      cases b with
      | false =>
        have q7' : NN ys H7 := q7
        obtain ⟨m', hm, w7⟩ := hNN _ _ q7'
        obtain ⟨c1, c2, c3, c4, c5⟩ := cont I7
        exact ⟨m', hm, i + 1, ys, its, k, H7, c1, c2, c3, c4, c5, v3, w7⟩
      | true =>
        refine thn (he C s2 H2 fp pins _ s7 σ6 H7 _ I7 q7) fun v s8 ⟨y, H8, I8, r8, q8⟩ => ?_
        obtain ⟨m', hm, w8⟩ := hNN _ _ q8
        obtain ⟨c1, c2, c3, c4, c5⟩ := cont I8
        refine wpAny_list_append_plain ⟨k, c5⟩ (fun h' hp hs => ?_) (by rw [List.size_toArray, ← v3.length]; exact hz)
        obtain ⟨k', e'⟩ := hp
        obtain ⟨f0, f1, f2, f3, f4, f5⟩ := fpD c4
        refine ⟨m', hm, i + 1, ys ++ [y], its ++ [v], k', H8, c1.turned (t' := s8.toks) (fun b o hb e => (hs.2 b hb).trans e) f0 f1 f3 f4 f5, T.keep _ _ _ c2 fun b hb o e => (hs.2 b fun z => nD (z ▸ hb)).trans e, c3, c4, ?_, v3.append (.cons r8 .nil), w8⟩
        show h'.get? D = _
        rw [e']
        simp
  exact codeAny_compStart_list loop (T.self X.A 0 { s2 with heap := h4 } _ _ (T.keep _ _ _ st fun b _ o e => k24 b o e) loop)
end L2

set_option Elab.async false
set_option linter.all false
set_option maxRecDepth 100000
namespace L2
open PySem PySem.Spec PyProof.Rows
section
variable {X : Cx} {own : List Str} {scope : Scope} {elt tg iter : Expr} {ifs : List Expr} {pos : Pos} {wi : TI} {g : TG} {tc : TT} {te : TE}
def tComp (n : Nat) (wi : TI) (g : TG) (tc : TT) (te : TE) : TE := fun σ H Q => wi σ H fun J H1 => compW n J g tc te σ H1 Q
theorem comp_names {sc : Scope} {N : List Str} (CS : CompScope sc N own scope) : ∀ x ∈ scope.names, x.2 = .local → scope.names.lookup x.1 = some .local := fun x hx e => by rw [CS.uniq x hx, e]
/-- [elt for tg in iter if ..], as a value -/
theorem pe_comp (own : List Str) (CS : compLook X.env.scope X.N own scope = true) (hc : X.calm = true) (hi : PI X tg iter wi) (hg : ∀ C s2 H2 fp pins, PG (cxComp X own scope C s2 H2 fp pins) tg g)
    (ht : ∀ C s2 H2 fp pins, PTs (cxComp X own scope C s2 H2 fp pins) ifs tc) (he : ∀ C s2 H2 fp pins, PE (cxComp X own scope C s2 H2 fp pins) elt te) (hs : ∀ x, foldedSetIterable iter X.env x = pure x := by intro _; rfl) :
    PE X (.ListComp elt [⟨tg, iter, ifs, 0⟩] scope pos) (tComp own.length wi g tc te) := by
  intro pins s σ H Q I h
  have CS := CompScope.of CS
  rw [eval_ListComp]
  refine wpAny_comprehension_free (use := none) (g := ⟨tg, iter, ifs, 0⟩) rfl hs (closureFor_eq fun n hn => I.ok.has n (CS.frees n hn)) CS.kind (comp_names CS) (thn (hi pins s σ H _ I h) fun v s1 h1 => thn h1 fun itv s2 h2 => ?_)
  obtain ⟨it, fp, tn, J, H2, e, I2, T, st2, f2, hW⟩ := h2
  subst e
  refine comp_block (RR := fun acc C => compPost (model X.prog X.w) X.A X.xe none (EP X pins σ Q) acc C) I2 CS hc T st2 f2 hg ht he hW fun D C H' s' I' fC ⟨m, hn⟩ q => ?_
  refine ⟨m, hn, fun h' hs' => ⟨.ref D, H', ?_, rfl, q⟩⟩
  obtain ⟨f0, f1, _, f3, f4, f5⟩ := fC
  exact I'.turned (t' := s'.toks) (fun b o hb e => (hs'.2 b hb).trans e) f0 f1 f3 f4 f5
/-- x = [elt for tg in iter if ..] -/
theorem ps_comp (own : List Str) {i : Nat} {x : Str} {pos' spos : Pos} (hN : X.N.Nodup) (hxi : X.N[i]? = some x) (hx : X.env.scope.names.lookup x = some .local) (CS : compLook X.env.scope X.N own scope = true) (hc : X.calm = true) (hi : PI X tg iter wi) (hg : ∀ C s2 H2 fp pins, PG (cxComp X own scope C s2 H2 fp pins) tg g)
    (ht : ∀ C s2 H2 fp pins, PTs (cxComp X own scope C s2 H2 fp pins) ifs tc) (he : ∀ C s2 H2 fp pins, PE (cxComp X own scope C s2 H2 fp pins) elt te) (hs : ∀ x, foldedSetIterable iter X.env x = pure x := by intro _; rfl)
    (hsw : swapsWith (.ListComp elt [⟨tg, iter, ifs, 0⟩] scope pos) (some (.Name x pos')) spos.line X.env = pure true := by rfl) :
    PS X (.Assign [.Name x pos'] (.ListComp elt [⟨tg, iter, ifs, 0⟩] scope pos) spos) (tAsg (tComp own.length wi g tc te) (gName i)) := by
  intro pins s σ H D I h
  have CS := CompScope.of CS
  rw [exec_Assign_Name_used _ _ _ _ hsw]
  refine wpAny_bind (wpAny_standAt (wpAny_bind ?_))
  show wpAny _ X.A (do let _ ← comprehension (.ListComp elt [⟨tg, iter, ifs, 0⟩] scope pos) scope X.env _ (newList []) false (eval iter X.env) (some (assign (.Name x pos') X.env))) _ _ s
  refine wpAny_bind (thn (wpAny_comprehension_free (use := some (assign (.Name x pos') X.env)) (Q := fun _ s' => SP X pins D .next s') (g := ⟨tg, iter, ifs, 0⟩) rfl hs (closureFor_eq fun n hn => I.ok.has n (CS.frees n hn)) CS.kind (comp_names CS)
    (thn (hi pins s σ H _ I h) fun v s1 h1 => thn h1 fun itv s2 h2 => ?_)) fun _ s' hq => wpAny_pure (wpAny_pure hq))
  obtain ⟨it, fp, tn, J, H2, e, I2, T, st2, f2, hW⟩ := h2
  subst e
  refine comp_block (Q := fun x H1 => gName i x σ H1 D.nx) (RR := fun acc C => compPost (model X.prog X.w) X.A X.xe (some (assign (.Name x pos') X.env)) (fun _ s' => SP X pins D .next s') acc C) I2 CS hc T st2 f2 hg ht he hW fun Dl C H' s' I' fC ⟨m, hn⟩ q => ?_
  show wpAny _ _ (assign (.Name x pos') X.env (.ref Dl)) _ _ s'
  refine wpAny_assign_Name (store_ok2 (v := .ref Dl) I' hN hxi (.inl hx) rfl (fun s'' I'' hsb => ?_) (.inr hx))
  obtain ⟨f0, f1, f2', f3, f4, f5⟩ := fC
  obtain ⟨a, sb, ha⟩ := hsb
  have hCa : C ≠ a := by
    rcases ha with e | e
    · rw [e]; exact f1
    · exact (f4 x a e).symm
  refine ⟨m, hn.sameBut sb hCa, fun h' hs' => ⟨_, H', ?_, q⟩⟩
  exact I''.turned (t' := s''.toks) (fun b o hb e => (hs'.2 b hb).trans e) f0 f1 f3 f4 f5
end

/-! ### the forms one uses: a comprehension over a list, a tuple, a range -/
section
variable {g : TG} {tc : TT} {te : TE} {σ : St} {H : Hp} {Q : VK} {n : Nat}
/-- over a tuple (or list) whose items are xs: Pv by how many are taken, the list so far, the heap -/
theorem comp_tup {K : PySem.W.Frag} {a : Addr} {xs : List V} (Pv : Nat → List V → Hp → Prop) (h0 : Pv 0 [] H) (hl : ∀ i ys H, i ≤ xs.length → Pv i ys H → SqT K H a xs ∧ ys.length ≤ sizeLine)
    (hs : ∀ i x ys H, xs[i]? = some x → Pv i ys H → g x (List.replicate n none ++ σ) H fun σ2 H2 => tc σ2 H2 fun b H3 => if b = true then te σ2 H3 fun y H4 => Pv (i + 1) (ys ++ [y]) H4 else Pv (i + 1) ys H3)
    (hd : ∀ ys H, Pv xs.length ys H → ∀ p, H p = none → Q (.ref p) (upd H p (.lst ys))) : compW n (Itt K a) g tc te σ H Q := by
  refine ⟨fun i m ys H => m = xs.length - i ∧ i ≤ xs.length ∧ Pv i ys H, ⟨xs.length, by simp, Nat.zero_le _, h0⟩, ?_⟩
  rintro i m ys H ⟨rfl, hi, p⟩
  obtain ⟨q, hz⟩ := hl i ys H hi p
  by_cases hlt : i < xs.length
  · refine .inr ⟨⟨xs, xs[i], q, by simp [hlt]⟩, hz, Pv (i + 1), fun ys' H' p' => ⟨xs.length - (i + 1), by omega, rfl, hlt, p'⟩, fun x H' y => ?_⟩
    obtain ⟨e, y⟩ := y
    subst e
    exact hs i x ys _ (y xs q) p
  · have e : i = xs.length := by omega
    subst e
    exact .inl ⟨⟨xs, q, Nat.le_refl _⟩, hz, hd ys H p⟩
theorem comp_list {K : PySem.W.Frag} {a : Addr} {xs : List V} (Pv : Nat → List V → Hp → Prop) (h0 : Pv 0 [] H) (hl : ∀ i ys H, i ≤ xs.length → Pv i ys H → SqL K H a xs ∧ ys.length ≤ sizeLine)
    (hs : ∀ i x ys H, xs[i]? = some x → Pv i ys H → g x (List.replicate n none ++ σ) H fun σ2 H2 => tc σ2 H2 fun b H3 => if b = true then te σ2 H3 fun y H4 => Pv (i + 1) (ys ++ [y]) H4 else Pv (i + 1) ys H3)
    (hd : ∀ ys H, Pv xs.length ys H → ∀ p, H p = none → Q (.ref p) (upd H p (.lst ys))) : compW n (Itl K a) g tc te σ H Q := by
  refine ⟨fun i m ys H => m = xs.length - i ∧ i ≤ xs.length ∧ Pv i ys H, ⟨xs.length, by simp, Nat.zero_le _, h0⟩, ?_⟩
  rintro i m ys H ⟨rfl, hi, p⟩
  obtain ⟨q, hz⟩ := hl i ys H hi p
  by_cases hlt : i < xs.length
  · refine .inr ⟨⟨xs, xs[i], q, by simp [hlt]⟩, hz, Pv (i + 1), fun ys' H' p' => ⟨xs.length - (i + 1), by omega, rfl, hlt, p'⟩, fun x H' y => ?_⟩
    obtain ⟨e, y⟩ := y
    subst e
    exact hs i x ys _ (y xs q) p
  · have e : i = xs.length := by omega
    subst e
    exact .inl ⟨⟨xs, q, Nat.le_refl _⟩, hz, hd ys H p⟩
end
end L2

set_option Elab.async false
set_option linter.all false
set_option maxRecDepth 100000
namespace L2
open PySem PySem.Spec PyProof.Rows

/-- an inner iterator i over the object l, by its state and items -/
structure Nx (P : Program) (w : World) (i l : Addr) (st : Nat → Heap → Prop) (xs : List Value) : Prop where
  obj : ∀ k h, st k h → ∃ o vs, h.get? i = some o ∧ o.data = .fields vs
  keep : ∀ k h h', st k h → (∀ o, h.get? i = some o → h'.get? i = some o) → (∀ o, h.get? l = some o → h'.get? l = some o) → st k h'
  item : ∀ (A : Around) k (s : Shared) x (Q : Value → Shared → Prop) (E : Value → Shared → Prop), st k s.heap → xs[k]? = some x → (∀ h', st (k + 1) h' → Heap.SameBut i s.heap h' → Q x { s with heap := h' }) →
    wpAny (model P w) A (Builtin.SmallTypes.nextOf (.ref i)) Q E s
  done : ∀ (A : Around) k (s : Shared) (Q : Value → Shared → Prop) (E : Value → Shared → Prop), A.handled = none → st k s.heap → xs[k]? = none →
    (∀ h' e, Heap.ExtBut i s.heap h' → (∃ o, h'.get? e = some o ∧ o.cls = .type "StopIteration") → E (.ref e) { s with heap := h' }) → wpAny (model P w) A (Builtin.SmallTypes.nextOf (.ref i)) Q E s

section
variable {P : Program} {w : World} {A : Around} {E : Value → Shared → Prop} {s : Shared}
theorem ne_iter_tup {h : Heap} {i l : Addr} {k : Nat} {its : Array Value} (a : h.IsTupleIter i l k) (b : h.IsTuple l its) : i ≠ l := fun e => by
  obtain ⟨o, h1, c1, _⟩ := a
  obtain ⟨o', h2, c2, _⟩ := b
  rw [e, h2] at h1; cases h1
  rw [c2] at c1
  exact absurd c1 (by decide)
theorem ne_iter_lst {h : Heap} {i l : Addr} {k : Nat} {its : Array Value} (a : h.IsListIter i l k) (b : h.IsList l its) : i ≠ l := fun e => by
  obtain ⟨o, h1, c1, _⟩ := a
  obtain ⟨o', h2, c2, _⟩ := b
  rw [e, h2] at h1; cases h1
  rw [c2] at c1
  exact absurd c1 (by decide)
theorem nextOf_tup {it t : Addr} {k : Nat} {its : Array Value} {x : Value} {Q : Value → Shared → Prop} (a : s.heap.IsTupleIter it t k) (b : s.heap.IsTuple t its) (hx : its[k]? = some x)
    (q : ∀ h', h'.IsTupleIter it t (k + 1) → Heap.SameBut it s.heap h' → Q x { s with heap := h' }) : wpAny (model P w) A (Builtin.SmallTypes.nextOf (.ref it)) Q E s := by
  obtain ⟨oi, gi, ci, di⟩ := id a
  obtain ⟨ot, gt, _, nt, dt⟩ := b
  unfold Builtin.SmallTypes.nextOf
  refine wpAny_bind (wpAny_callSpecial?_slot (name := Str.ofString "__next__") a.typeIs F.slot_tuple_iterator_next (wpAny_call_entry F.slot_tuple_iterator_next a.typeIs F.entry_tuple_iterator_next ?_ (F.args_tuple_iterator_next_1 _)))
  show wpAny _ _ (field (Value.ref it) 0 >>= _) _ _ s
  refine wpAny_bind (wpAny_field (x := Value.ref t) gi di rfl ?_)
  rw [if_neg (show ¬ (Value.ref t == Value.none) = true from Bool.false_ne_true)]
  show wpAny _ _ (field (Value.ref it) 1 >>= _) _ _ s
  refine wpAny_bind (wpAny_field (x := Value.int k 0) gi di rfl ?_)
  show wpAny _ _ (seqItems? (Value.ref t) >>= _) _ _ s
  refine wpAny_bind (wpAny_seqItems gt dt ?_)
  simp only [hx, Int.toNat_natCast]
  refine wpAny_bind (wpAny_setField gi di (by simp) (wpAny_pure ⟨x, rfl, wpAny_pure (q _ ⟨_, Heap.get?_update_self _ gi (Obj.isFreed_of_fields (Obj.data_mapFields di _)), (Obj.cls_mapFields ..).trans ci, ?_⟩ (Heap.SameBut.update ..))⟩))
  rw [Obj.data_mapFields di]
  simp [rawInt]
theorem nextOf_tup_end {it t : Addr} {k : Nat} {its : Array Value} {Q : Value → Shared → Prop} (hh : A.handled = none) (a : s.heap.IsTupleIter it t k) (b : s.heap.IsTuple t its) (hx : its[k]? = none)
    (q : ∀ h' e, Heap.ExtBut it s.heap h' → (∃ o, h'.get? e = some o ∧ o.cls = .type "StopIteration") → E (.ref e) { s with heap := h' }) : wpAny (model P w) A (Builtin.SmallTypes.nextOf (.ref it)) Q E s := by
  obtain ⟨oi, gi, ci, di⟩ := id a
  obtain ⟨ot, gt, _, nt, dt⟩ := b
  unfold Builtin.SmallTypes.nextOf
  refine wpAny_bind (wpAny_callSpecial?_slot (name := Str.ofString "__next__") a.typeIs F.slot_tuple_iterator_next (wpAny_call_entry F.slot_tuple_iterator_next a.typeIs F.entry_tuple_iterator_next ?_ (F.args_tuple_iterator_next_1 _)))
  show wpAny _ _ (field (Value.ref it) 0 >>= _) _ _ s
  refine wpAny_bind (wpAny_field (x := Value.ref t) gi di rfl ?_)
  rw [if_neg (show ¬ (Value.ref t == Value.none) = true from Bool.false_ne_true)]
  show wpAny _ _ (field (Value.ref it) 1 >>= _) _ _ s
  refine wpAny_bind (wpAny_field (x := Value.int k 0) gi di rfl ?_)
  show wpAny _ _ (seqItems? (Value.ref t) >>= _) _ _ s
  refine wpAny_bind (wpAny_seqItems gt dt ?_)
  simp only [hx, Int.toNat_natCast]
  refine wpAny_bind (wpAny_rule (wpAny_bind (wpAny_setField gi di (by simp) ?_)))
  show wpAny _ _ (newExc (Value.type "StopIteration") [] >>= _) _ _ _
  refine wpAny_bind ?_
  simp only [newTuple, newExc]
  refine wpAny_bind (wpAny_newObj_type ?_ (by size_fits))
  refine wpAny_bind (m := firstArgMember _ _) (wpAny_of_eq (a := Value.none) (by first | rfl | (unfold firstArgMember; rfl)) ?_)
  refine wpAny_newObj_type ?_ (by size_fits)
  unfold raiseNew
  refine wpAny_bind (wpAny_handled ?_)
  rw [show A.in1.handled = none from hh]
  exact wpAny_bind (wpAny_pure (wpAny_throw (q _ _ (((Heap.SameBut.update ..).extBut.push _).push _) ⟨_, Heap.get?_push_size _ rfl, rfl⟩)))
theorem nx_tup (i l : Addr) (xs : List Value) : Nx P w i l (fun k h => h.IsTupleIter i l k ∧ h.IsTuple l xs.toArray) xs where
  obj := fun k h ⟨⟨o, a, _, c⟩, _⟩ => ⟨o, _, a, c⟩
  keep := fun k h h' ⟨a, b⟩ k1 k2 => ⟨a.at k1, let ⟨o, e, r⟩ := b; ⟨o, k2 o e, r⟩⟩
  item := fun A k s x Q E ⟨a, b⟩ hx q => nextOf_tup a b (by simpa using hx) fun h' a' sb => q h' ⟨a', let ⟨o, e, r⟩ := b; ⟨o, (sb.2 l (ne_iter_tup a b).symm).trans e, r⟩⟩ sb
  done := fun A k s Q E hh ⟨a, b⟩ hx q => nextOf_tup_end hh a b (by simpa using hx) q
theorem nx_lst (i l : Addr) (xs : List Value) : Nx P w i l (fun k h => h.IsListIter i l k ∧ h.IsList l xs.toArray) xs where
  obj := fun k h ⟨⟨o, a, _, c⟩, _⟩ => ⟨o, _, a, c⟩
  keep := fun k h h' ⟨a, b⟩ k1 k2 => ⟨a.at k1, let ⟨o, e, r⟩ := b; ⟨o, k2 o e, r⟩⟩
  item := fun A k s x Q E ⟨a, b⟩ hx q => wpAny_nextOf_list_item a b (by simpa using hx) fun h' a' sb => q h' ⟨a', let ⟨o, e, r⟩ := b; ⟨o, (sb.2 l (ne_iter_lst a b).symm).trans e, r⟩⟩ sb
  done := fun A k s Q E hh ⟨a, b⟩ hx q => wpAny_nextOf_list_end hh a b (by simpa using hx) q

/-- the zip's own objects, apart from one another and from what is walked -/
structure ZA (z TI TO i1 i2 l1 l2 : Addr) : Prop where
  a1 : TI ≠ z
  a2 : TO ≠ z
  a3 : i1 ≠ z
  a4 : i2 ≠ z
  a5 : TI ≠ TO
  a6 : TI ≠ i1
  a7 : TI ≠ i2
  a8 : TO ≠ i1
  a9 : TO ≠ i2
  b1 : i1 ≠ i2
  b2 : l1 ≠ z
  b3 : l1 ≠ TO
  b4 : l1 ≠ i2
  b5 : l2 ≠ z
  b6 : l2 ≠ TO
  b7 : l2 ≠ i1
variable {st1 st2 : Nat → Heap → Prop} {xs ys : List Value} {z TI TO i1 i2 l1 l2 : Addr} {k : Nat} {a b : Value}
theorem sb_get {h h' : Heap} {c d : Addr} {o : Obj} (sb : Heap.SameBut c h h') (ne : d ≠ c) (e : h.get? d = some o) : h'.get? d = some o := (sb.2 d ne).trans e
theorem zip_item (D : ZA z TI TO i1 i2 l1 l2) (N1 : Nx P w i1 l1 st1 xs) (N2 : Nx P w i2 l2 st2 ys) {x y : Value} {Q : Value → Shared → Prop} (hz : IsZip s.heap z TI TO .none) (hI : IsPair s.heap TI (.ref i1) (.ref i2)) (hO : IsPair s.heap TO a b)
    (s1 : st1 k s.heap) (s2 : st2 k s.heap) (hx : xs[k]? = some x) (hy : ys[k]? = some y)
    (q : ∀ h', IsZip h' z TI TO (rawInt s.heap.objs.size) → IsPair h' TO x y → st1 (k + 1) h' → st2 (k + 1) h' → IsPair h' s.heap.objs.size x y →
      (∀ c o, c ≠ z → c ≠ TO → c ≠ i1 → c ≠ i2 → s.heap.get? c = some o → h'.get? c = some o) → Q (.ref s.heap.objs.size) { s with heap := h' }) :
    wpAny (model P w) A (Builtin.«zip.__next__» ⟨[.ref z], []⟩) (fun fin s' => ∃ v, fin = .done (.ret v) ∧ Q v s') E s := by
  show wpAny _ _ (field (Value.ref z) 2 >>= _) _ _ _
  refine wpAny_bind (wpAny_field (x := Value.bool false) hz rfl rfl ?_)
  show wpAny _ _ (field (Value.ref z) 3 >>= _) _ _ _
  refine wpAny_bind (wpAny_field (x := Value.ref TI) hz rfl rfl ?_)
  refine wpAny_bind (wpAny_seqItems hI rfl ?_)
  show wpAny _ _ (Builtin.SmallTypes.ownedTupleIsFree (Value.ref z) >>= _) _ _ _
  refine wpAny_bind ?_
  unfold Builtin.SmallTypes.ownedTupleIsFree
  refine wpAny_bind (wpAny_field (x := Value.none) hz rfl rfl (wpAny_pure ?_))
  simp only [if_true]
  refine wpAny_bind (wpAny_rule (wpAny_bind (wpAny_field (x := Value.ref TO) hz rfl rfl ?_)))
  refine wpAny_bind (wpAny_setField_rec hz (by simp) fun g1 z1 e1 => ?_)
  have z1 : IsZip g1 z TI TO .ellipsis := z1
  refine wpAny_bind ?_
  simp only [List.zipIdx_nil, List.zipIdx_cons, List.forIn_nil, List.forIn_cons]
  refine wpAny_bind (wpAny_bind (wpAny_onRaise ?_))
  show wpAny _ _ (Builtin.SmallTypes.nextOf (Value.ref i1) >>= _) _ _ _
  refine wpAny_bind (N1.item _ k _ x _ _ (N1.keep _ _ _ s1 (fun o => sb_get e1 D.a3) fun o => sb_get e1 D.b2) hx fun g2 t1 e2 => wpAny_pure ?_)
  have O2 : IsPair g2 TO a b := sb_get e2 D.a8 (sb_get e1 D.a2 hO)
  refine wpAny_bind (wpAny_seqItems O2 rfl (wpAny_bind (wpAny_updateSeq_pair O2 fun g3 O3 e3 => ?_)))
  have O3 : IsPair g3 TO x b := O3
  refine wpAny_bind (wpAny_letGo (wpAny_pure (wpAny_bind (wpAny_bind (wpAny_onRaise ?_)))))
  show wpAny _ _ (Builtin.SmallTypes.nextOf (Value.ref i2) >>= _) _ _ _
  refine wpAny_bind (N2.item _ k _ y _ _ (N2.keep _ _ _ s2 (fun o e => sb_get e3 D.a9.symm (sb_get e2 D.b1.symm (sb_get e1 D.a4 e))) fun o e => sb_get e3 D.b6 (sb_get e2 D.b7 (sb_get e1 D.b5 e))) hy fun g4 t2 e4 => wpAny_pure ?_)
  have O4 : IsPair g4 TO x b := sb_get e4 D.a9 O3
  refine wpAny_bind (wpAny_seqItems O4 rfl (wpAny_bind (wpAny_updateSeq_pair O4 fun g5 O5 e5 => ?_)))
  have O5 : IsPair g5 TO x y := O5
  refine wpAny_bind (wpAny_letGo (wpAny_pure (wpAny_pure (wpAny_bind (wpAny_seqItems O5 rfl (wpAny_bind (wpAny_newTuple ?_)))))))
  have sz : g5.objs.size = s.heap.objs.size := by rw [e5.1, e4.1, e3.1, e2.1, e1.1]
  have z5 : IsZip g5 z TI TO .ellipsis := sb_get e5 D.a2.symm (sb_get e4 D.a4.symm (sb_get e3 D.a2.symm (sb_get e2 D.a3.symm z1)))
  have zlt : z < g5.objs.size := Heap.lt_size z5
  have u1 : st1 (k + 1) g5 := N1.keep _ _ _ t1 (fun o e => sb_get e5 D.a8.symm (sb_get e4 D.b1 (sb_get e3 D.a8.symm e))) fun o e => sb_get e5 D.b3 (sb_get e4 D.b4 (sb_get e3 D.b3 e))
  have u2 : st2 (k + 1) g5 := N2.keep _ _ _ t2 (fun o e => sb_get e5 D.a9.symm e) fun o e => sb_get e5 D.b6 e
  show wpAny _ _ (Builtin.SmallTypes.ownedTupleHandOut (Value.ref z) (.ref g5.objs.size) >>= _) _ _ _
  refine wpAny_bind ?_
  unfold Builtin.SmallTypes.ownedTupleHandOut
  have z6 : IsZip (g5.push { cls := .type "tuple", data := .seq #[x, y] }) z TI TO .ellipsis := Heap.get?_push_of_some _ z5
  refine wpAny_bind (wpAny_setField_rec z6 (by simp) fun g7 z7 e7 => ?_)
  have z7 : IsZip g7 z TI TO (rawInt g5.objs.size) := z7
  refine wpAny_setField_rec z7 (by simp) fun g8 z8 e8 => ?_
  have z8 : IsZip g8 z TI TO (rawInt g5.objs.size) := z8
  have up : ∀ c o, c ≠ z → g5.get? c = some o → g8.get? c = some o := fun c o n e => sb_get e8 n (sb_get e7 n (Heap.get?_push_of_some _ e))
  have nw : IsPair g8 g5.objs.size x y := sb_get e8 (Nat.ne_of_gt zlt) (sb_get e7 (Nat.ne_of_gt zlt) (Heap.get?_push_size _ rfl))
  rw [sz] at z8 nw
  refine wpAny_pure ⟨_, rfl, ?_⟩
  show Q (.ref g5.objs.size) _
  rw [sz]
  exact q g8 z8 (up _ _ D.a2 O5) (N1.keep _ _ _ u1 (fun o => up _ o D.a3) fun o => up _ o D.b2) (N2.keep _ _ _ u2 (fun o => up _ o D.a4) fun o => up _ o D.b5) nw fun c o n1 n2 n3 n4 e =>
    up c o n1 (sb_get e5 n2 (sb_get e4 n4 (sb_get e3 n2 (sb_get e2 n3 (sb_get e1 n1 e)))))
theorem zip_end (hh : A.handled = none) (D : ZA z TI TO i1 i2 l1 l2) (N1 : Nx P w i1 l1 st1 xs) (N2 : Nx P w i2 l2 st2 ys) {Q : PySem.Fin → Shared → Prop} (hz : IsZip s.heap z TI TO .none) (hI : IsPair s.heap TI (.ref i1) (.ref i2)) (hO : IsPair s.heap TO a b)
    (s1 : st1 k s.heap) (s2 : st2 k s.heap) (hend : xs[k]? = none ∨ ys[k]? = none)
    (q : ∀ h' e, (∀ c o, c ≠ z → c ≠ TO → c ≠ i1 → c ≠ i2 → s.heap.get? c = some o → h'.get? c = some o) → (∃ o, h'.get? e = some o ∧ o.cls = .type "StopIteration") → E (.ref e) { s with heap := h' }) :
    wpAny (model P w) A (Builtin.«zip.__next__» ⟨[.ref z], []⟩) Q E s := by
  show wpAny _ _ (field (Value.ref z) 2 >>= _) _ _ _
  refine wpAny_bind (wpAny_field (x := Value.bool false) hz rfl rfl ?_)
  show wpAny _ _ (field (Value.ref z) 3 >>= _) _ _ _
  refine wpAny_bind (wpAny_field (x := Value.ref TI) hz rfl rfl ?_)
  refine wpAny_bind (wpAny_seqItems hI rfl ?_)
  show wpAny _ _ (Builtin.SmallTypes.ownedTupleIsFree (Value.ref z) >>= _) _ _ _
  refine wpAny_bind ?_
  unfold Builtin.SmallTypes.ownedTupleIsFree
  refine wpAny_bind (wpAny_field (x := Value.none) hz rfl rfl (wpAny_pure ?_))
  simp only [if_true]
  refine wpAny_bind (wpAny_rule (wpAny_bind (wpAny_field (x := Value.ref TO) hz rfl rfl ?_)))
  refine wpAny_bind (wpAny_setField_rec hz (by simp) fun g1 z1 e1 => ?_)
  have z1 : IsZip g1 z TI TO .ellipsis := z1
  refine wpAny_bind ?_
  simp only [List.zipIdx_nil, List.zipIdx_cons, List.forIn_nil, List.forIn_cons]
  refine wpAny_bind (wpAny_bind (wpAny_onRaise ?_))
  show wpAny _ _ (Builtin.SmallTypes.nextOf (Value.ref i1) >>= _) _ _ _
  have t1 : st1 k g1 := N1.keep _ _ _ s1 (fun o => sb_get e1 D.a3) fun o => sb_get e1 D.b2
  cases hx : xs[k]? with
  | none =>
    refine wpAny_bind (N1.done _ k _ _ _ hh t1 hx fun g2 e e2 ⟨oe, he, ce⟩ => ?_)
    have z2 : IsZip g2 z TI TO .ellipsis := e2 _ _ D.a3.symm z1
    have ne : e ≠ z := fun r => by
      rw [r, z2] at he
      cases he
      exact absurd (show Value.type "zip" = Value.type "StopIteration" from ce) (by decide)
    exact wpAny_setField_rec z2 (by simp) fun g3 _ e3 => q g3 e (fun c o n1 _ n3 _ r => sb_get e3 n1 (e2 _ _ n3 (sb_get e1 n1 r))) ⟨oe, sb_get e3 ne he, ce⟩
  | some x =>
    have hy : ys[k]? = none := by
      rcases hend with r | r
      · rw [hx] at r; cases r
      · exact r
    refine wpAny_bind (N1.item _ k _ x _ _ t1 hx fun g2 t1 e2 => wpAny_pure ?_)
    have O2 : IsPair g2 TO a b := sb_get e2 D.a8 (sb_get e1 D.a2 hO)
    refine wpAny_bind (wpAny_seqItems O2 rfl (wpAny_bind (wpAny_updateSeq_pair O2 fun g3 O3 e3 => ?_)))
    refine wpAny_bind (wpAny_letGo (wpAny_pure (wpAny_bind (wpAny_bind (wpAny_onRaise ?_)))))
    show wpAny _ _ (Builtin.SmallTypes.nextOf (Value.ref i2) >>= _) _ _ _
    refine wpAny_bind (N2.done _ k _ _ _ hh (N2.keep _ _ _ s2 (fun o e => sb_get e3 D.a9.symm (sb_get e2 D.b1.symm (sb_get e1 D.a4 e))) fun o e => sb_get e3 D.b6 (sb_get e2 D.b7 (sb_get e1 D.b5 e))) hy fun g4 e e4 ⟨oe, he, ce⟩ => ?_)
    have z4 : IsZip g4 z TI TO .ellipsis := e4 _ _ D.a4.symm (sb_get e3 D.a2.symm (sb_get e2 D.a3.symm z1))
    have ne : e ≠ z := fun r => by
      rw [r, z4] at he
      cases he
      exact absurd (show Value.type "zip" = Value.type "StopIteration" from ce) (by decide)
    exact wpAny_setField_rec z4 (by simp) fun g5 _ e5 => q g5 e (fun c o n1 n2 n3 n4 r => sb_get e5 n1 (e4 _ _ n4 (sb_get e3 n2 (sb_get e2 n3 (sb_get e1 n1 r))))) ⟨oe, sb_get e5 ne he, ce⟩
end
end L2

set_option Elab.async false
set_option linter.all false
set_option maxRecDepth 100000
namespace L2
open PySem PySem.Spec PyProof.Rows
section
variable {P : Program} {w : World} {A : Around} {E : Value → Shared → Prop} {s : Shared}
/-- zip(t, u) of two tuples: its five objects, newly laid -/
structure ZNew (h h' : Heap) (l1 l2 : Addr) : Prop where
  z : IsZip h' (h.objs.size + 4) (h.objs.size + 2) (h.objs.size + 3) .none
  ti : IsPair h' (h.objs.size + 2) (.ref h.objs.size) (.ref (h.objs.size + 1))
  to : IsPair h' (h.objs.size + 3) .none .none
  i1 : h'.IsTupleIter h.objs.size l1 0
  i2 : h'.IsTupleIter (h.objs.size + 1) l2 0
  sz : h'.objs.size = h.objs.size + 5
  keep : ∀ c o, h.get? c = some o → h'.get? c = some o
abbrev zh1 (h : Heap) (u : Addr) : Heap := h.push { cls := .type "tuple_iterator", data := .fields #[.ref u, .int 0 0] }
abbrev zh3 (h : Heap) (a b : Addr) : Heap := h.push { cls := .type "tuple", data := .seq #[.ref a, .ref b] }
abbrev zh4 (h : Heap) : Heap := h.push { cls := .type "tuple", data := .seq #[.none, .none] }
abbrev zh5 (h : Heap) (a b : Addr) : Heap := h.push { cls := .type "zip", data := .fields #[.none, .bool false, .bool false, .ref a, .ref b] }
abbrev zAll (h : Heap) (l1 l2 : Addr) : Heap := zh5 (zh4 (zh3 (zh1 (zh1 h l1) l2) h.objs.size (zh1 h l1).objs.size)) (zh1 (zh1 h l1) l2).objs.size (zh3 (zh1 (zh1 h l1) l2) h.objs.size (zh1 h l1).objs.size).objs.size
theorem zAll_new (h : Heap) (l1 l2 : Addr) : ZNew h (zAll h l1 l2) l1 l2 := by
  have e1 : (zh1 h l1).objs.size = h.objs.size + 1 := Heap.size_push ..
  have e2 : (zh1 (zh1 h l1) l2).objs.size = h.objs.size + 2 := by rw [Heap.size_push, e1]
  have e3 : (zh3 (zh1 (zh1 h l1) l2) h.objs.size (zh1 h l1).objs.size).objs.size = h.objs.size + 3 := by rw [Heap.size_push, e2]
  have e4 : (zh4 (zh3 (zh1 (zh1 h l1) l2) h.objs.size (zh1 h l1).objs.size)).objs.size = h.objs.size + 4 := by rw [Heap.size_push, e3]
  have p5 : (zAll h l1 l2).get? (zh4 (zh3 (zh1 (zh1 h l1) l2) h.objs.size (zh1 h l1).objs.size)).objs.size = some _ := Heap.get?_push_size _ rfl
  have p4 : (zAll h l1 l2).get? (zh3 (zh1 (zh1 h l1) l2) h.objs.size (zh1 h l1).objs.size).objs.size = some _ := Heap.get?_push_of_some _ (Heap.get?_push_size _ rfl)
  have p3 : (zAll h l1 l2).get? (zh1 (zh1 h l1) l2).objs.size = some _ := Heap.get?_push_of_some _ (Heap.get?_push_of_some _ (Heap.get?_push_size _ rfl))
  have p2 : (zAll h l1 l2).get? (zh1 h l1).objs.size = some _ := Heap.get?_push_of_some _ (Heap.get?_push_of_some _ (Heap.get?_push_of_some _ (Heap.get?_push_size _ rfl)))
  have p1 : (zAll h l1 l2).get? h.objs.size = some _ := Heap.get?_push_of_some _ (Heap.get?_push_of_some _ (Heap.get?_push_of_some _ (Heap.get?_push_of_some _ (Heap.get?_push_size _ rfl))))
  rw [e2, e3, e4] at p5
  rw [e3] at p4
  rw [e2, e1] at p3
  rw [e1] at p2
  exact ⟨p5, p3, p4, ⟨_, p1, rfl, rfl⟩, ⟨_, p2, rfl, rfl⟩, by rw [Heap.size_push, e4], fun c o e => Heap.get?_push_of_some _ (Heap.get?_push_of_some _ (Heap.get?_push_of_some _ (Heap.get?_push_of_some _ (Heap.get?_push_of_some _ e))))⟩
theorem zip_new_tup (l1 l2 : Addr) (xs ys : Array Value) :
    Meets (Builtin.«zip.__new__» ⟨[.type "zip", .ref l1, .ref l2], []⟩) (fun _ R s => s.heap.IsTuple l1 xs ∧ s.heap.IsTuple l2 ys ∧ R (.ok (.ret (.ref (zh4 (zh3 (zh1 (zh1 s.heap l1) l2) s.heap.objs.size (zh1 s.heap l1).objs.size)).objs.size))) { s with heap := zAll s.heap l1 l2 }) :=
  .of_wp fun prog w A R s h => by
    obtain ⟨hp, g, d, tk, os⟩ := s
    obtain ⟨t1, t2, h⟩ := h
    have hsub := sub_zip
    have T1 : Heap.IsTuple (Shared.heap ⟨hp, g, d, tk, os⟩) l1 xs := t1
    have T2 : Heap.IsTuple (Shared.heap ⟨hp.push { cls := .type "tuple_iterator", data := .fields #[.ref l1, .int 0 0] }, g, d, tk, os⟩) l2 ys := Heap.IsTuple.push t2 _
    wp_walk using wpAny_pyIter_tuple T1, wpAny_pyIter_tuple T2
    exact ⟨_, rfl, h⟩
theorem call_zip_tup {l1 l2 : Addr} {xs ys : Array Value} {Q : Value → Shared → Prop} (t1 : s.heap.IsTuple l1 xs) (t2 : s.heap.IsTuple l2 ys) (q : ∀ h', ZNew s.heap h' l1 l2 → Q (.ref (s.heap.objs.size + 4)) { s with heap := h' }) :
    wpAny (model P w) A (call (.type "zip") [.ref l1, .ref l2]) Q E s := by
  refine callType_new F.called_zip (by decide) (F.typeCall_zip_2 _ _) (F.newCall_zip_2 _ _) (fun obj => F.args_object_init_3 obj _ _) F.entry_zip_new (zip_new_tup l1 l2 xs ys) ⟨t1, t2, ?_⟩
  have n := zAll_new s.heap l1 l2
  have e4 : (zh4 (zh3 (zh1 (zh1 s.heap l1) l2) s.heap.objs.size (zh1 s.heap l1).objs.size)).objs.size = s.heap.objs.size + 4 := by
    have := n.sz
    rw [Heap.size_push] at this
    omega
  show _ ∧ _
  rw [e4]
  exact ⟨⟨_, n.z, rfl⟩, q _ n⟩

theorem next_zip_item {z TI TO i1 i2 l1 l2 : Addr} {k : Nat} {xs ys : List Value} {x y a b : Value} {Q : Option Value → Shared → Prop} (D : ZA z TI TO i1 i2 l1 l2) (hz : IsZip s.heap z TI TO .none) (hI : IsPair s.heap TI (.ref i1) (.ref i2)) (hO : IsPair s.heap TO a b)
    (t1 : s.heap.IsTupleIter i1 l1 k) (t2 : s.heap.IsTupleIter i2 l2 k) (h1 : s.heap.IsTuple l1 xs.toArray) (h2 : s.heap.IsTuple l2 ys.toArray) (hx : xs[k]? = some x) (hy : ys[k]? = some y)
    (q : ∀ h', IsZip h' z TI TO (rawInt s.heap.objs.size) → IsPair h' TO x y → h'.IsTupleIter i1 l1 (k + 1) → h'.IsTupleIter i2 l2 (k + 1) → IsPair h' s.heap.objs.size x y →
      (∀ c o, c ≠ z → c ≠ TO → c ≠ i1 → c ≠ i2 → s.heap.get? c = some o → h'.get? c = some o) → Q (some (.ref s.heap.objs.size)) { s with heap := h' }) : wpAny (model P w) A (pyNext (.ref z)) Q E s := by
  have hT : s.TypeIs (.ref z) "zip" := ⟨_, hz, rfl⟩
  unfold pyNext
  refine wpAny_bind (wpAny_attempt (wpAny_callSpecial?_slot (name := Str.ofString "__next__") hT F.slot_zip_next (wpAny_call_entry F.slot_zip_next hT F.entry_zip_next ?_ (F.args_zip_next_1 _))))
  exact zip_item D (nx_tup i1 l1 xs) (nx_tup i2 l2 ys) hz hI hO ⟨t1, h1⟩ ⟨t2, h2⟩ hx hy fun h' a1 a2 a3 a4 a5 a6 => wpAny_pure (q h' a1 a2 a3.1 a4.1 a5 a6)
theorem next_zip_end {z TI TO i1 i2 l1 l2 : Addr} {k : Nat} {xs ys : List Value} {a b : Value} {Q : Option Value → Shared → Prop} (hh : A.handled = none) (D : ZA z TI TO i1 i2 l1 l2) (hz : IsZip s.heap z TI TO .none) (hI : IsPair s.heap TI (.ref i1) (.ref i2)) (hO : IsPair s.heap TO a b)
    (t1 : s.heap.IsTupleIter i1 l1 k) (t2 : s.heap.IsTupleIter i2 l2 k) (h1 : s.heap.IsTuple l1 xs.toArray) (h2 : s.heap.IsTuple l2 ys.toArray) (hend : xs[k]? = none ∨ ys[k]? = none)
    (q : ∀ h', (∀ c o, c ≠ z → c ≠ TO → c ≠ i1 → c ≠ i2 → s.heap.get? c = some o → h'.get? c = some o) → Q none { s with heap := h' }) : wpAny (model P w) A (pyNext (.ref z)) Q E s := by
  have hT : s.TypeIs (.ref z) "zip" := ⟨_, hz, rfl⟩
  unfold pyNext
  refine wpAny_bind (wpAny_attempt (wpAny_callSpecial?_slot (name := Str.ofString "__next__") hT F.slot_zip_next (wpAny_call_entry F.slot_zip_next hT F.entry_zip_next ?_ (F.args_zip_next_1 _))))
  refine zip_end (A := A.in1) hh D (nx_tup i1 l1 xs) (nx_tup i2 l2 ys) hz hI hO ⟨t1, h1⟩ ⟨t2, h2⟩ hend fun h' e hk ⟨o, ho, hc⟩ => ?_
  exact wpAny_bind (wpAny_isInstance (T := "StopIteration") (b := true) ⟨o, ho, hc⟩ isSubtype_stop (wpAny_pure (q _ hk)))
end

/-- the pairs of two tuples -/
def Itz (K : PySem.W.Frag) (a1 a2 : Addr) : It :=
  ⟨fun i H => ∃ xs ys x y, SqT K H a1 xs ∧ SqT K H a2 ys ∧ xs[i]? = some x ∧ ys[i]? = some y,
   fun i H v H' => ∃ p x y, v = .ref p ∧ H p = none ∧ H' = upd H p (.tup [x, y]) ∧ (∀ xs, SqT K H a1 xs → xs[i]? = some x) ∧ ∀ ys, SqT K H a2 ys → ys[i]? = some y,
   fun i H => ∃ xs ys, SqT K H a1 xs ∧ SqT K H a2 ys ∧ (xs.length ≤ i ∨ ys.length ≤ i)⟩
theorem turn_zip {P : Program} {w : World} {K : PySem.W.Frag} {es : List Expr} {kk : _} {tpos : Pos} (a1 a2 z TI TO i1 i2 : Addr) (D : ZA z TI TO i1 i2 a1 a2) : Turn P w K (.Tuple es kk tpos) (Itz K a1 a2) [z, TI, TO, i1, i2] z
    (fun k h => IsZip h z TI TO .none ∧ IsPair h TI (.ref i1) (.ref i2) ∧ (∃ a b, IsPair h TO a b) ∧ h.IsTupleIter i1 a1 k ∧ h.IsTupleIter i2 a2 k) where
  mem := List.mem_cons_self
  obj := fun k h st b hb => by
    obtain ⟨hz, hI, ⟨a, c, hO⟩, ⟨o1, e1, _, d1⟩, ⟨o2, e2, _, d2⟩⟩ := st
    simp only [List.mem_cons, List.not_mem_nil, or_false] at hb
    rcases hb with rfl | rfl | rfl | rfl | rfl
    · exact ⟨_, hz, fun v r => by cases r⟩
    · exact ⟨_, hI, fun v r => by cases r⟩
    · exact ⟨_, hO, fun v r => by cases r⟩
    · exact ⟨_, e1, fun v r => by rw [d1] at r; cases r⟩
    · exact ⟨_, e2, fun v r => by rw [d2] at r; cases r⟩
  keep := fun k h h' st kp => by
    obtain ⟨hz, hI, ⟨a, c, hO⟩, t1, t2⟩ := st
    exact ⟨kp z (by simp) _ hz, kp TI (by simp) _ hI, ⟨a, c, kp TO (by simp) _ hO⟩, t1.at (kp i1 (by simp)), t2.at (kp i2 (by simp))⟩
  item := by
    intro X hP hw hK hc i pins s σ H E I hf st hg
    subst hP hw hK
    obtain ⟨xs, ys, x, y, q1, q2, hx, hy⟩ := hg
    obtain ⟨its1, r1, p1, _⟩ := I.tuple q1
    obtain ⟨its2, r2, p2, _⟩ := I.tuple q2
    obtain ⟨u1, hu1, ru1⟩ := r1.get hx
    obtain ⟨u2, hu2, ru2⟩ := r2.get hy
    obtain ⟨hz, hI, ⟨a, c, hO⟩, t1, t2⟩ := st
    refine next_zip_item D hz hI hO t1 t2 (show s.heap.IsTuple a1 its1.toArray from p1) (show s.heap.IsTuple a2 its2.toArray from p2) hu1 hu2 fun h' z' o' t1' t2' nw kp => ?_
    refine ⟨_, rfl, wpAny_letOwnedTupleGo_zip z' fun h2 z2 sb => ?_⟩
    have lt : ∀ {b : Addr} {o : Obj}, s.heap.get? b = some o → b ≠ s.heap.objs.size := fun e => Nat.ne_of_lt (Heap.lt_size e)
    have nz : s.heap.objs.size ≠ z := (lt hz).symm
    have hf0 : H s.heap.objs.size = none := I.hok.fresh (Nat.le_refl _)
    have hI2 : IsPair h2 TI (.ref i1) (.ref i2) := sb_get sb D.a1 (kp _ _ D.a1 D.a5 D.a6 D.a7 hI)
    have kall : ∀ b o, b ∉ [z, TI, TO, i1, i2] → s.heap.get? b = some o → h2.get? b = some o := fun b o hb e => by
      simp only [List.mem_cons, List.not_mem_nil, or_false, not_or] at hb
      exact sb_get sb hb.1 (kp b o hb.1 hb.2.2.1 hb.2.2.2.1 hb.2.2.2.2 e)
    have trk : ∀ {b : Addr} {u : HO}, H b = some u → b ∉ [z, TI, TO, i1, i2] := fun {b u} e hb => by
      rw [(hf b hb).1] at e; cases e
    have there : ∀ b o, s.heap.get? b = some o → ∃ o', h2.get? b = some o' := fun b o e => by
      by_cases hb : b ∈ [z, TI, TO, i1, i2]
      · simp only [List.mem_cons, List.not_mem_nil, or_false] at hb
        rcases hb with rfl | rfl | rfl | rfl | rfl
        · exact ⟨_, z2⟩
        · exact ⟨_, hI2⟩
        · exact ⟨_, sb_get sb D.a2 o'⟩
        · obtain ⟨_, e1, _⟩ := t1'
          exact ⟨_, sb_get sb D.a3 e1⟩
        · obtain ⟨_, e1, _⟩ := t2'
          exact ⟨_, sb_get sb D.a4 e1⟩
      · exact ⟨o, kall b o hb e⟩
    have hokN : HOk X.prog X.w (upd H s.heap.objs.size (.tup [x, y])) h2 := fun b u e => by
      by_cases hb : b = s.heap.objs.size
      · subst hb
        rw [upd_same] at e
        cases e
        exact ⟨by show 2 ≤ sizeLine; decide, [u1, u2], .cons ru1 (.cons ru2 .nil), ⟨_, sb_get sb nz nw, rfl, _, rfl⟩⟩
      · rw [upd_ne hb] at e
        refine (I.hok b u e).stay (fun d v hd r => kall d v ?_ r) (fun d r => by rw [upd_ne (ne_of_none r hf0)]; exact r) fun d vs r => by rw [upd_ne (ne_of_none r hf0)]; exact r
        rcases hd with rfl | hd
        · exact trk e
        · exact trk hd
    have I2 : Inv X pins σ (upd H s.heap.objs.size (.tup [x, y])) { s with heap := h2 } := by
      refine I.step (g' := s.gens) (d' := s.drawn) (t' := s.toks) (ch := [z, TI, TO, i1, i2]) (fun b hb => ⟨(hf b hb).2.2.2.1, (hf b hb).2.1, (hf b hb).2.2.2.2.1, (hf b hb).2.2.2.2.2⟩) (fun b o _ _ hb e _ => kall b o hb e) (fun b o _ _ hb e _ => ⟨o.slots, kall b o hb e⟩)
        (fun b o _ e n => by rw [upd_ne (lt e)]; exact n) (fun b o _ e => there b o e) (fun b vs e => by rw [upd_ne (ne_of_none e hf0)]; exact e) (fun b o v e => by rw [upd_ne (ne_of_none e hf0)]; exact e) (fun b ps e => ⟨#[], by rw [upd_ne (ne_of_none e hf0), e]; simp⟩) (fun m hm => ?_) hokN I.bare
      obtain ⟨o, es', ep, e, r⟩ := hm
      exact ⟨o, es', ep, kall _ o (fun hb => (hf _ hb).2.1 rfl) e, r⟩
    refine ⟨.ref s.heap.objs.size, _, I2, rfl, ⟨_, x, y, rfl, hf0, rfl, fun vs h => by rw [I.tuple_inj h q1]; exact hx, fun vs h => by rw [I.tuple_inj h q2]; exact hy⟩, ⟨z2, hI2, ⟨_, _, sb_get sb D.a2 o'⟩, t1'.at fun o e => sb_get sb D.a3 e, t2'.at fun o e => sb_get sb D.a4 e⟩, fun b hb => ?_⟩
    have hb' := (hf b hb).1
    by_cases e : b = s.heap.objs.size
    · exfalso
      simp only [List.mem_cons, List.not_mem_nil, or_false] at hb
      rcases hb with r | r | r | r | r
      · exact lt hz (r ▸ e)
      · exact lt hI (r ▸ e)
      · exact lt hO (r ▸ e)
      · obtain ⟨_, e1, _⟩ := t1; exact lt e1 (r ▸ e)
      · obtain ⟨_, e1, _⟩ := t2; exact lt e1 (r ▸ e)
    · rw [upd_ne e]; exact hb'
  done := by
    intro X hP hw hK hc i pins s σ H E I hf st hg
    subst hP hw hK
    obtain ⟨xs, ys, q1, q2, hl⟩ := hg
    obtain ⟨its1, r1, p1, _⟩ := I.tuple q1
    obtain ⟨its2, r2, p2, _⟩ := I.tuple q2
    obtain ⟨hz, hI, ⟨a, c, hO⟩, t1, t2⟩ := st
    refine next_zip_end (I.ok.hd hc) D hz hI hO t1 t2 (show s.heap.IsTuple a1 its1.toArray from p1) (show s.heap.IsTuple a2 its2.toArray from p2) ?_ fun h' kp => ⟨rfl, ?_⟩
    · have e1 := r1.length
      have e2 := r2.length
      rcases hl with r | r
      · exact .inl (List.getElem?_eq_none_iff.mpr (by omega))
      · exact .inr (List.getElem?_eq_none_iff.mpr (by omega))
    · have kall : ∀ b o, b ∉ [z, TI, TO, i1, i2] → s.heap.get? b = some o → h'.get? b = some o := fun b o hb e => by
        simp only [List.mem_cons, List.not_mem_nil, or_false, not_or] at hb
        exact kp b o hb.1 hb.2.2.1 hb.2.2.2.1 hb.2.2.2.2 e
      have trk : ∀ {b : Addr} {u : HO}, H b = some u → b ∉ [z, TI, TO, i1, i2] := fun {b u} e hb => by
        rw [(hf b hb).1] at e; cases e
      refine I.step (g' := s.gens) (d' := s.drawn) (t' := s.toks) (ch := [z, TI, TO, i1, i2]) (fun b hb => ⟨(hf b hb).2.2.2.1, (hf b hb).2.1, (hf b hb).2.2.2.2.1, (hf b hb).2.2.2.2.2⟩) (fun b o _ _ hb e _ => kall b o hb e) (fun b o _ _ hb e _ => ⟨o.slots, kall b o hb e⟩)
        (fun b o _ e n => n) (fun b o hb e => ⟨o, kall b o hb e⟩) (fun b vs e => e) (fun b o v e => e) (fun b ps e => ⟨#[], by rw [e]; simp⟩) (fun m hm => ?_) (fun b u e => (I.hok b u e).stay (fun d v hd r => kall d v ?_ r) (fun _ r => r) fun _ _ r => r) I.bare
      · obtain ⟨o, es', ep, e, r⟩ := hm
        exact ⟨o, es', ep, kall _ o (fun hb => (hf _ hb).2.1 rfl) e, r⟩
      · rcases hd with rfl | hd
        · exact trk e
        · exact trk hd
  self := fun _ _ _ _ _ st h => wpAny_pyIter_zip st.1 h

section
variable {X : Cx} {es : List Expr} {kk : Nat} {tpos : Pos}
theorem nene (a b : Nat) (h : a ≠ b) : @Ne Addr a b := h
theorem za_of (n a b : Nat) (h1 : a < n) (h2 : b < n) : ZA (n + 4) (n + 2) (n + 3) n (n + 1) a b := by
  constructor <;> refine nene _ _ ?_ <;> omega
def iZip (K : PySem.W.Frag) (ta : TA) : TI := fun σ H R => ta σ H fun vs H1 => ∃ a1 a2 xs ys, vs = [.ref a1, .ref a2] ∧ SqT K H1 a1 xs ∧ SqT K H1 a2 ys ∧ R (Itz K a1 a2) H1
theorem pi_zip {e1 e2 : Expr} {ta : TA} {p pos : Pos} (hg : Gl X "zip") (hm : X.mg "zip" = none) (ha : PA X [e1, e2] ta) (hs : starEach [e1, e2] X.env = [(false, eval e1 X.env), (false, eval e2 X.env)] := by rfl) (hs2 : starEach [e2] X.env = [(false, eval e2 X.env)] := by rfl) :
    PI X (.Tuple es kk tpos) (.Call (.Name "zip" p) [e1, e2] [] pos) (iZip X.K ta) := by
  intro pins s σ H R I h
  refine Call_ (ld_blt I hg hm (by decide +kernel : bootBuiltins "zip" = some (.type "zip")) (PyProof.Rows.callWith_type1 (thn (ha pos pins s σ H _ I h) fun us s1 ⟨vs, H1, I1, r1, q1⟩ => ?_) (by rw [hs, hs2]) (by rw [hs2]; rfl)))
  obtain ⟨a1, a2, xs, ys, e, t1, t2, q⟩ := q1
  subst e
  cases r1 with
  | cons r rr =>
    cases rr with
    | cons r' rr =>
      cases rr
      cases r
      cases r'
      obtain ⟨its1, v1, p1, _⟩ := I1.tuple t1
      obtain ⟨its2, v2, p2, _⟩ := I1.tuple t2
      have L1 : a1 < s1.heap.objs.size := by obtain ⟨_, e, _⟩ := p1; exact Heap.lt_size e
      have L2 : a2 < s1.heap.objs.size := by obtain ⟨_, e, _⟩ := p2; exact Heap.lt_size e
      refine call_zip_tup (show s1.heap.IsTuple a1 its1.toArray from p1) (show s1.heap.IsTuple a2 its2.toArray from p2) fun h' N => ?_
      refine wpAny_pyIter_zip (s := { s1 with heap := h' }) N.z ?_
      have I2 : Inv X pins σ H1 { s1 with heap := h' } := I1.kept (t' := s1.toks) N.keep
      refine ⟨s1.heap.objs.size + 4, [s1.heap.objs.size + 4, s1.heap.objs.size + 2, s1.heap.objs.size + 3, s1.heap.objs.size, s1.heap.objs.size + 1], _, _, H1, rfl, I2, turn_zip a1 a2 _ _ _ _ _ (za_of _ _ _ L1 L2), ⟨N.z, N.ti, ⟨_, _, N.to⟩, N.i1, N.i2⟩, fun b hb => ?_, q⟩
      have ge : s1.heap.objs.size ≤ b := by
        simp only [List.mem_cons, List.not_mem_nil, or_false] at hb
        rcases hb with rfl | rfl | rfl | rfl | rfl
        · exact Nat.le_add_right _ _
        · exact Nat.le_add_right _ _
        · exact Nat.le_add_right _ _
        · exact Nat.le_refl _
        · exact Nat.le_add_right _ _
      exact I1.fpOk ge (I1.hok.fresh ge)
end
end L2


set_option Elab.async false
set_option linter.all false
set_option maxRecDepth 100000
namespace L2
open PySem PySem.Spec PyProof.Rows

/-! ### lists of pairs as tables -/
section
variable {κ : Type} [DecidableEq κ]
def valV (kvs : List (κ × V)) (k : κ) : Option V := (kvs.find? fun kv => decide (kv.1 = k)).map (·.2)
/-- in its place, or at the end -/
def putK (kvs : List (κ × V)) (k : κ) (v : V) : List (κ × V) :=
  if (kvs.any fun kv => decide (kv.1 = k)) = true then kvs.map (fun kv => if kv.1 = k then (kv.1, v) else kv) else kvs ++ [(k, v)]
def dropK (kvs : List (κ × V)) (k : κ) : List (κ × V) := kvs.filter fun kv => decide (kv.1 ≠ k)

theorem valV_nil {k : κ} : valV ([] : List (κ × V)) k = none := rfl
theorem valV_pos {p : κ × V} {r : List (κ × V)} {k : κ} (e : p.1 = k) : valV (p :: r) k = some p.2 := by simp [valV, List.find?_cons, e]
theorem valV_neg {p : κ × V} {r : List (κ × V)} {k : κ} (e : ¬ p.1 = k) : valV (p :: r) k = valV r k := by simp [valV, List.find?_cons, e]
theorem valV_any (k : κ) : ∀ kvs : List (κ × V), (kvs.any fun kv => decide (kv.1 = k)) = (valV kvs k).isSome
  | [] => rfl
  | p :: r => by
    rw [List.any_cons]
    by_cases e : p.1 = k
    · simp only [valV_pos e, decide_eq_true e, Bool.true_or, Option.isSome_some]
    · rw [valV_neg e, decide_eq_false e, Bool.false_or]; exact valV_any k r
theorem valV_map (k j : κ) (y : V) : ∀ kvs : List (κ × V), valV (kvs.map fun kv => if kv.1 = k then (kv.1, y) else kv) j = (valV kvs j).map fun x => if j = k then y else x
  | [] => rfl
  | p :: r => by
    have ih := valV_map k j y r
    rw [List.map_cons]
    by_cases h : p.1 = k
    · rw [if_pos h]
      by_cases e : p.1 = j
      · rw [valV_pos (p := (p.1, y)) e, valV_pos e, Option.map_some, if_pos (e.symm.trans h)]
      · rw [valV_neg (p := (p.1, y)) e, valV_neg e, ih]
    · rw [if_neg h]
      by_cases e : p.1 = j
      · rw [valV_pos (p := p) e, valV_pos e, Option.map_some, if_neg (fun z => h (e.trans z))]
      · rw [valV_neg (p := p) e, valV_neg e, ih]
theorem valV_snoc (k j : κ) (y : V) : ∀ kvs : List (κ × V), valV kvs k = none → valV (kvs ++ [(k, y)]) j = if j = k then some y else valV kvs j
  | [], _ => by
    by_cases e : k = j
    · rw [if_pos e.symm]; exact valV_pos (p := (k, y)) e
    · rw [if_neg (fun z => e z.symm)]; exact valV_neg (p := (k, y)) e
  | p :: r, hn => by
    rw [List.cons_append]
    have hk : ¬ p.1 = k := fun z => by rw [valV_pos z] at hn; cases hn
    rw [valV_neg hk] at hn
    have ih := valV_snoc k j y r hn
    by_cases e : p.1 = j
    · rw [valV_pos e, valV_pos e, if_neg (fun z => hk (e.trans z))]
    · rw [valV_neg e, valV_neg e, ih]
theorem valV_put (kvs : List (κ × V)) (k j : κ) (y : V) : valV (putK kvs k y) j = if j = k then some y else valV kvs j := by
  unfold putK
  by_cases a : (kvs.any fun kv => decide (kv.1 = k)) = true
  · rw [if_pos a, valV_map]
    rw [valV_any] at a
    by_cases e : j = k
    · obtain ⟨x, hx⟩ := Option.isSome_iff_exists.mp a
      rw [if_pos e, e, hx, Option.map_some, if_pos rfl]
    · rw [if_neg e]
      cases valV kvs j with
      | none => rfl
      | some x => rw [Option.map_some, if_neg e]
  · rw [if_neg a]
    refine valV_snoc k j y kvs ?_
    rw [valV_any] at a
    cases q : valV kvs k with
    | none => rfl
    | some x => rw [q] at a; exact (a rfl).elim
theorem length_putK (kvs : List (κ × V)) (k : κ) (v : V) : (putK kvs k v).length ≤ kvs.length + 1 := by
  unfold putK
  split
  · rw [List.length_map]; omega
  · rw [List.length_append, List.length_cons, List.length_nil]; omega
theorem putK_new {kvs : List (κ × V)} {k : κ} (v : V) (h : valV kvs k = none) : putK kvs k v = kvs ++ [(k, v)] := by
  unfold putK
  rw [valV_any, h]
  exact if_neg (by decide)

theorem RelO.isSome_eq {o : Option V} {u : Option Value} (r : RelO o u) : o.isSome = u.isSome := by
  cases o with
  | none => cases u with
    | none => rfl
    | some _ => exact (show False from r).elim
  | some _ => cases u with
    | none => exact (show False from r).elim
    | some _ => rfl
theorem RelO.getD {o : Option V} {u : Option Value} {d : V} {d' : Value} (r : RelO o u) (rd : RelV d d') : RelV (o.getD d) (u.getD d') := by
  cases o with
  | none => cases u with
    | none => exact rd
    | some _ => exact (show False from r).elim
  | some _ => cases u with
    | none => exact (show False from r).elim
    | some _ => exact r

/-- raw tables of the same keys -/
theorem KV.val {kvs : List (κ × V)} {vs : List (κ × Value)} (r : KV kvs vs) (k : κ) : RelO (valV kvs k) (valueAt vs k) := by
  unfold KV at r
  induction r with
  | nil => exact True.intro
  | @cons p q ps qs h t ih =>
    obtain ⟨h1, h2⟩ := h
    by_cases e : p.1 = k
    · have e' : q.1 = k := h1.symm.trans e
      have b : valueAt (q :: qs) k = some q.2 := by simp [valueAt, List.find?_cons, e']
      rw [valV_pos e, b]; exact h2
    · have e' : ¬ q.1 = k := fun z => e (h1.trans z)
      have b : valueAt (q :: qs) k = valueAt qs k := by simp [valueAt, List.find?_cons, e']
      rw [valV_neg e, b]; exact ih
theorem KV.any {kvs : List (κ × V)} {vs : List (κ × Value)} (r : KV kvs vs) (k : κ) : (kvs.any fun kv => decide (kv.1 = k)) = vs.any fun kv => decide (kv.1 = k) := by
  unfold KV at r
  induction r with
  | nil => rfl
  | cons h t ih => rw [List.any_cons, List.any_cons, ih, h.1]
theorem KV.repl {kvs : List (κ × V)} {vs : List (κ × Value)} (r : KV kvs vs) (k : κ) {y : V} {u : Value} (ry : RelV y u) :
    KV (kvs.map fun kv => if kv.1 = k then (kv.1, y) else kv) (vs.map fun kv => if kv.1 = k then (kv.1, u) else kv) := by
  unfold KV at r ⊢
  induction r with
  | nil => exact .nil
  | @cons p q ps qs h t ih =>
    rw [List.map_cons, List.map_cons]
    refine .cons ?_ ih
    obtain ⟨h1, h2⟩ := h
    by_cases e : p.1 = k
    · rw [if_pos e, if_pos (h1.symm.trans e)]; exact ⟨h1, ry⟩
    · rw [if_neg e, if_neg (fun z => e (h1.trans z))]; exact ⟨h1, h2⟩
theorem KV.put {kvs : List (κ × V)} {vs : List (κ × Value)} (r : KV kvs vs) (k : κ) {y : V} {u : Value} (ry : RelV y u) : KV (putK kvs k y) (stored vs k u) := by
  unfold putK stored
  rw [r.any k]
  by_cases e : (vs.any fun kv => decide (kv.1 = k)) = true
  · rw [if_pos e, if_pos e]; exact r.repl k ry
  · rw [if_neg e, if_neg e]; exact Paired.snoc r ⟨rfl, ry⟩
theorem KV.drop {kvs : List (κ × V)} {vs : List (κ × Value)} (r : KV kvs vs) (k : κ) : KV (dropK kvs k) (without vs k) := by
  unfold KV at r ⊢
  unfold dropK without
  induction r with
  | nil => exact .nil
  | @cons p q ps qs h t ih =>
    obtain ⟨h1, h2⟩ := h
    rw [List.filter_cons, List.filter_cons]
    by_cases e : p.1 = k
    · have a : ¬ decide (p.1 ≠ k) = true := by simp [e]
      have b : ¬ decide (q.1 ≠ k) = true := by simp [h1.symm.trans e]
      rw [if_neg a, if_neg b]; exact ih
    · have e' : ¬ q.1 = k := fun z => e (h1.trans z)
      have a : decide (p.1 ≠ k) = true := by simp [e]
      have b : decide (q.1 ≠ k) = true := by simp [e']
      rw [if_pos a, if_pos b]; exact .cons ⟨h1, h2⟩ ih
theorem KV.keys {kvs : List (κ × V)} {vs : List (κ × Value)} (r : KV kvs vs) : kvs.map (·.1) = vs.map (·.1) := by
  unfold KV at r
  induction r with
  | nil => rfl
  | cons h t ih => rw [List.map_cons, List.map_cons, ih, h.1]
theorem KV.length {kvs : List (κ × V)} {vs : List (κ × Value)} (r : KV kvs vs) : kvs.length = vs.length := Paired.length r
theorem dropK_le (kvs : List (κ × V)) (k : κ) : (dropK kvs k).length ≤ kvs.length := List.length_filter_le _ _
end


/-! ### a tracked dict, its keys ints and texts or tuples of these -/
theorem kV_is {P : Program} {w : World} {k : Key} {u : Value} (r : RelV (kV k) u) : (mixKind P w).is k u = true := by
  cases k with
  | inl i => obtain ⟨t, e⟩ := (show ∃ t, u = Value.int i t from r); subst e; exact mixKind_int P w i t
  | inr x => obtain ⟨t, e⟩ := (show ∃ t, u = Value.str x t from r); subst e; exact mixKind_str P w x t
theorem kV_inj {a b : Key} (e : kV a = kV b) : a = b := by
  cases a with
  | inl i => cases b with
    | inl j => have e' : V.int i = V.int j := e; injection e' with e'; rw [e']
    | inr y => exact nomatch (show V.int i = V.str y from e)
  | inr x => cases b with
    | inl j => exact nomatch (show V.str x = V.int j from e)
    | inr y => have e' : V.str x = V.str y := e; injection e' with e'; rw [e']
theorem kVs_inj : ∀ {a b : List Key}, a.map kV = b.map kV → a = b
  | [], [], _ => rfl
  | [], _ :: _, e => by simp at e
  | _ :: _, [], e => by simp at e
  | x :: xs, y :: ys, e => by
    rw [List.map_cons, List.map_cons] at e
    injection e with e1 e2
    rw [kV_inj e1, kVs_inj e2]
theorem items_are {P : Program} {w : World} : ∀ {ks : List Key} {us : List Value}, Vals (ks.map kV) us → ItemsAre (mixKind P w) ks us
  | [], _, r => by rw [List.map_nil] at r; cases r; exact .nil
  | k :: ks, _, r => by
    rw [List.map_cons] at r
    cases r with
    | cons h t => exact .cons (kV_is h) (items_are t)

/-- raw entries of a dict with tuple keys -/
abbrev KT (H : Hp) : List (List Key × V) → List (List Key × Addr × Value) → Prop := Paired fun p q => p.1 = q.1 ∧ H q.2.1 = some (.tup (p.1.map kV)) ∧ RelV p.2 q.2.2
theorem KT.val {H : Hp} {kvs : List (List Key × V)} {xs : List (List Key × Addr × Value)} (r : KT H kvs xs) (k : List Key) : RelO (valV kvs k) ((atKey xs k).map (·.2)) := by
  induction r with
  | nil => exact True.intro
  | @cons p q ps qs h t ih =>
    obtain ⟨h1, _, h2⟩ := h
    by_cases e : p.1 = k
    · have e' : q.1 = k := h1.symm.trans e
      have b : atKey (q :: qs) k = some q.2 := by simp [atKey, List.find?_cons, e']
      rw [valV_pos e, b]; exact h2
    · have e' : ¬ q.1 = k := fun z => e (h1.trans z)
      have b : atKey (q :: qs) k = atKey qs k := by simp [atKey, List.find?_cons, e']
      rw [valV_neg e, b]; exact ih
theorem KT.repl {H : Hp} {kvs : List (List Key × V)} {xs : List (List Key × Addr × Value)} (r : KT H kvs xs) (k : List Key) {y : V} {u : Value} (ry : RelV y u) :
    KT H (kvs.map fun kv => if kv.1 = k then (kv.1, y) else kv) (xs.map (putAt k u)) := by
  induction r with
  | nil => exact .nil
  | @cons p q ps qs h t ih =>
    rw [List.map_cons, List.map_cons]
    refine .cons ?_ ih
    obtain ⟨h1, h2, h3⟩ := h
    unfold putAt
    by_cases e : p.1 = k
    · rw [if_pos e, if_pos (h1.symm.trans e)]; exact ⟨h1, h2, ry⟩
    · rw [if_neg e, if_neg (fun z => e (h1.trans z))]; exact ⟨h1, h2, h3⟩
theorem KT.put {H : Hp} {kvs : List (List Key × V)} {xs : List (List Key × Addr × Value)} (r : KT H kvs xs) (k : List Key) {b : Addr} {y : V} {u : Value} (hb : H b = some (.tup (k.map kV))) (ry : RelV y u) :
    KT H (putK kvs k y) (storedH xs k b u) := by
  have e : (kvs.any fun kv => decide (kv.1 = k)) = (atKey xs k).isSome := by
    rw [valV_any, (r.val k).isSome_eq, Option.isSome_map]
  unfold putK storedH
  rw [e]
  by_cases q : (atKey xs k).isSome = true
  · rw [if_pos q, if_pos q]; exact r.repl k ry
  · rw [if_neg q, if_neg q]; exact Paired.snoc r ⟨rfl, hb, ry⟩
theorem KT.keeps {H H' : Hp} {kvs : List (List Key × V)} {xs : List (List Key × Addr × Value)} (r : KT H kvs xs) (ht : ∀ b ys, H b = some (.tup ys) → H' b = some (.tup ys)) : KT H' kvs xs :=
  Paired.mapP r fun _ _ z => ⟨z.1, ht _ _ z.2.1, z.2.2⟩

section
variable {P : Program} {w : World} {H : Hp} {h : Heap} {a : Addr}
theorem rd_of {u : HO} (ok : HOk P w H h) (e : Rd H a u) : ObjOk P w H h a u := e.ok ok
theorem dk_rd {kvs : List (Key × V)} (ok : HOk P w H h) (e : Rd H a (.dK kvs)) : kvs.length ≤ sizeLine ∧ (a == sysModules) = false ∧ ∃ vs, KV kvs vs ∧ h.DictOf (mixKind P w) a vs :=
  show ObjOk P w H h a (.dK kvs) from rd_of ok e
theorem dk_of {kvs : List (Key × V)} (ok : HOk P w H h) (e : H a = some (.dK kvs)) : kvs.length ≤ sizeLine ∧ (a == sysModules) = false ∧ ∃ vs, KV kvs vs ∧ h.DictOf (mixKind P w) a vs := dk_rd ok (.inl e)
/-- a tracked tuple of ints and texts is a key -/
theorem key_of {ks : List Key} (ok : HOk P w H h) (e : H a = some (.tup (ks.map kV))) : (tupleKind (mixKind P w)).is h ks a := by
  obtain ⟨_, its, r, o, h1, h2, n, h3⟩ := (show ObjOk P w H h a (.tup (ks.map kV)) from ok a _ e)
  exact ⟨o, its.toArray, n, h1, h2, h3, by simpa using items_are r⟩
theorem dt_rd {kvs : List (List Key × V)} (ok : HOk P w H h) (e : Rd H a (.dT kvs)) : kvs.length ≤ sizeLine ∧ (a == sysModules) = false ∧
    ∃ xs, KT H kvs xs ∧ h.DictOfH (tupleKind (mixKind P w)) a xs := by
  obtain ⟨z, y, xs, r, o, es, ep, h1, h2, h3, h4, h5⟩ := (show ObjOk P w H h a (.dT kvs) from rd_of ok e)
  refine ⟨z, y, xs, r, o, es, ep, h1, h2, h3, h4, fun x hx => ?_, h5⟩
  have all : ∀ {l : List (List Key × V)} {m : List (List Key × Addr × Value)}, KT H l m → ∀ x ∈ m, (tupleKind (mixKind P w)).is h x.1 x.2.1 := by
    intro l m q
    induction q with
    | nil => intro x hx; exact nomatch hx
    | @cons p q ps qs hq t ih =>
      intro x hx
      rcases List.mem_cons.mp hx with e | hx
      · subst e
        exact key_of ok (by rw [← hq.1]; exact hq.2.1)
      · exact ih x hx
  exact all r x hx
theorem dt_of {kvs : List (List Key × V)} (ok : HOk P w H h) (e : H a = some (.dT kvs)) : kvs.length ≤ sizeLine ∧ (a == sysModules) = false ∧
    ∃ xs, KT H kvs xs ∧ h.DictOfH (tupleKind (mixKind P w)) a xs := dt_rd ok (.inl e)
end

/-- what the dict at a holds at the key y -/
def DGet (H : Hp) (a : Addr) (y : V) (r : Option V) : Prop :=
  (∃ kvs k, Rd H a (.dK kvs) ∧ y = kV k ∧ r = valV kvs k) ∨ ∃ kvs k b, Rd H a (.dT kvs) ∧ y = .ref b ∧ H b = some (.tup (k.map kV)) ∧ r = valV kvs k
/-- the heap behind a[y] = v -/
def DPut (H : Hp) (a : Addr) (y v : V) (H' : Hp) : Prop :=
  (∃ kvs k, H a = some (.dK kvs) ∧ y = kV k ∧ kvs.length < sizeLine ∧ H' = upd H a (.dK (putK kvs k v))) ∨
  ∃ kvs k b, H a = some (.dT kvs) ∧ y = .ref b ∧ H b = some (.tup (k.map kV)) ∧ kvs.length < sizeLine ∧ H' = upd H a (.dT (putK kvs k v))
theorem DGet.k {H : Hp} {a : Addr} {kvs : List (Key × V)} {k : Key} (e : H a = some (.dK kvs)) : DGet H a (kV k) (valV kvs k) := .inl ⟨kvs, k, .inl e, rfl, rfl⟩
theorem DGet.t {H : Hp} {a b : Addr} {kvs : List (List Key × V)} {k : List Key} (e : H a = some (.dT kvs)) (eb : H b = some (.tup (k.map kV))) : DGet H a (.ref b) (valV kvs k) := .inr ⟨kvs, k, b, .inl e, rfl, eb, rfl⟩
theorem DPut.k {H : Hp} {a : Addr} {kvs : List (Key × V)} {k : Key} {v : V} (e : H a = some (.dK kvs)) (hl : kvs.length < sizeLine) : DPut H a (kV k) v (upd H a (.dK (putK kvs k v))) := .inl ⟨kvs, k, e, rfl, hl, rfl⟩
theorem DPut.t {H : Hp} {a b : Addr} {kvs : List (List Key × V)} {k : List Key} {v : V} (e : H a = some (.dT kvs)) (eb : H b = some (.tup (k.map kV))) (hl : kvs.length < sizeLine) :
    DPut H a (.ref b) v (upd H a (.dT (putK kvs k v))) := .inr ⟨kvs, k, b, e, rfl, eb, hl, rfl⟩


section
variable {X : Cx} {pins : List (Addr × Obj)} {σ : St} {H : Hp} {s : Shared} {a : Addr} {y v : V} {u r : Value} {o : Option V} {A : Around} {E : Value → Shared → Prop}

theorem Inv.big (I : Inv X pins σ H s) : sysModules < s.heap.objs.size := by
  have h : mainGlobals < s.heap.objs.size := (I.mod.glob.keeps I.bk).lt
  exact Nat.lt_trans (by decide) h

/-- d[y], there -/
theorem d_getItem {Q : Value → Shared → Prop} (hu : A.units + 1 < cLine) (I : Inv X pins σ H s) (g : DGet H a y (some v)) (ry : RelV y u) (h : ∀ w' s', Inv X pins σ H s' → RelV v w' → Q w' s') :
    wpAny (model X.prog X.w) A (getItem (.ref a) u) Q E s := by
  rcases g with ⟨kvs, k, e, ey, l⟩ | ⟨kvs, k, b, e, ey, eb, l⟩
  · subst ey
    obtain ⟨z, hd, vs, rel, dd⟩ := dk_rd I.hok e
    obtain ⟨w', hw, rw'⟩ := RelO.some_of (v := v) (o := valueAt vs k) (by rw [l]; exact rel.val k)
    exact wpAny_getItem_of (kV_is ry) dd.mapOf hw (h w' _ (I.tok _) rw')
  · subst ey
    cases (show u = Value.ref b from ry)
    obtain ⟨z, hd, xs, rel, dd⟩ := dt_rd I.hok e
    obtain ⟨w', hw, rw'⟩ := RelO.some_of (v := v) (o := (atKey xs k).map (·.2)) (by rw [l]; exact rel.val k)
    obtain ⟨p, hp, hp2⟩ := Option.map_eq_some_iff.mp hw
    refine wpAny_getItem_heap (tupleKind_room_in1 hu) (key_of I.hok eb) dd hp ?_
    rw [hp2]
    exact h w' _ (I.tok _) rw'
/-- y in d -/
theorem d_in {Q : Value → Shared → Prop} (hu : A.units + 1 < cLine) (I : Inv X pins σ H s) (g : DGet H a y o) (ry : RelV y u) (h : ∀ s', Inv X pins σ H s' → Q (.bool o.isSome) s') :
    wpAny (model X.prog X.w) A (compareOp .In u (.ref a)) Q E s := by
  rcases g with ⟨kvs, k, e, ey, l⟩ | ⟨kvs, k, b, e, ey, eb, l⟩
  · subst ey
    obtain ⟨z, hd, vs, rel, dd⟩ := dk_rd I.hok e
    refine wpAny_in_of (kV_is ry) hd dd.mapOf ?_
    rw [← (rel.val k).isSome_eq, ← l]
    exact h _ (I.tok _)
  · subst ey
    cases (show u = Value.ref b from ry)
    obtain ⟨z, hd, xs, rel, dd⟩ := dt_rd I.hok e
    refine wpAny_in_heap (tupleKind_room_in1 hu) (key_of I.hok eb) hd dd ?_
    have q := (rel.val k).isSome_eq
    rw [Option.isSome_map] at q
    rw [← q, ← l]
    exact h _ (I.tok _)
theorem d_notIn {Q : Value → Shared → Prop} (hu : A.units + 1 < cLine) (I : Inv X pins σ H s) (g : DGet H a y o) (ry : RelV y u) (h : ∀ s', Inv X pins σ H s' → Q (.bool (!o.isSome)) s') :
    wpAny (model X.prog X.w) A (compareOp .NotIn u (.ref a)) Q E s := by
  rcases g with ⟨kvs, k, e, ey, l⟩ | ⟨kvs, k, b, e, ey, eb, l⟩
  · subst ey
    obtain ⟨z, hd, vs, rel, dd⟩ := dk_rd I.hok e
    refine wpAny_notIn_of (kV_is ry) hd dd.mapOf ?_
    rw [← (rel.val k).isSome_eq, ← l]
    exact h _ (I.tok _)
  · subst ey
    cases (show u = Value.ref b from ry)
    obtain ⟨z, hd, xs, rel, dd⟩ := dt_rd I.hok e
    refine wpAny_notIn_heap (tupleKind_room_in1 hu) (key_of I.hok eb) hd dd ?_
    have q := (rel.val k).isSome_eq
    rw [Option.isSome_map] at q
    rw [← q, ← l]
    exact h _ (I.tok _)
/-- a dict's object is replaced -/
theorem d_write {h' : Heap} {t' : Nat} {ob : HO} (I : Inv X pins σ H s) (mu : Mut (H a)) (hs : Heap.SameBut a s.heap h') (he : ∃ q, h'.get? a = some q) (new : ObjOk X.prog X.w (upd H a ob) h' a ob) :
    Inv X pins σ (upd H a ob) { s with heap := h', toks := t' } :=
  I.write (x := a) (e := a) mu (.inl rfl) (fun b q hb z => (hs.2 b hb).trans z) he new
theorem dk_new {P : Program} {w : World} {H' : Hp} {h' : Heap} {kvs : List (Key × V)} {vs : List (Key × Value)} (z : kvs.length ≤ sizeLine) (hd : (a == sysModules) = false) (rel : KV kvs vs) (dd : h'.DictOf (mixKind P w) a vs) :
    ObjOk P w H' h' a (.dK kvs) := ⟨z, hd, vs, rel, dd⟩
/-- d[y] = v -/
theorem d_setItem {H' : Hp} {Q : Unit → Shared → Prop} (hu : A.units + 1 < cLine) (I : Inv X pins σ H s) (g : DPut H a y v H') (ry : RelV y u) (rv : RelV v r) (h : ∀ s', Inv X pins σ H' s' → Q () s') :
    wpAny (model X.prog X.w) A (setItem (.ref a) u r) Q E s := by
  rcases g with ⟨kvs, k, e, ey, l, eH⟩ | ⟨kvs, k, b, e, ey, eb, l, eH⟩
  · subst ey eH
    obtain ⟨z, hd, vs, rel, dd⟩ := dk_of I.hok e
    have hz : vs.length ≤ sizeLine := by rw [← rel.length]; exact z
    have hl : (putK kvs k v).length ≤ sizeLine := by have := length_putK kvs k v; omega
    refine wpAny_setItem_pairs (hsz := hz) (kV_is ry) dd fun h' dd' hs => h _ ?_
    have he : ∃ q, h'.get? a = some q := let ⟨q, _, _, hq, _⟩ := dd'; ⟨q, hq⟩
    exact d_write I (by rw [e]; exact True.intro) hs he (dk_new hl hd (rel.put k rv) dd')
  · subst ey eH
    cases (show u = Value.ref b from ry)
    obtain ⟨z, hd, xs, rel, dd⟩ := dt_of I.hok e
    have hz : xs.length ≤ sizeLine := by rw [← Paired.length rel]; exact z
    have hl : (putK kvs k v).length ≤ sizeLine := by have := length_putK kvs k v; omega
    refine wpAny_setItem_heap (hsz := hz) (tupleKind_room_in1 hu) (key_of I.hok eb) dd fun h' dd' hs => h _ ?_
    obtain ⟨q, es, ep, hq, h2, h3, h4, _, h5⟩ := dd'
    refine d_write I (by rw [e]; exact True.intro) hs ⟨q, hq⟩ ⟨hl, hd, _, (rel.put k eb rv).keeps fun c ys ec => ?_, q, es, ep, hq, h2, h3, h4, h5⟩
    rw [upd_ne (ne_of ec e (fun z => nomatch z))]
    exact ec
end

section
variable {X : Cx} {pins : List (Addr × Obj)} {σ : St} {H : Hp} {s : Shared} {a : Addr} {kvs : List (Key × V)} {k : Key} {u : Value} {A : Around} {E : Value → Shared → Prop}
/-- del d[k] -/
theorem d_delItem {Q : Unit → Shared → Prop} (I : Inv X pins σ H s) (e : H a = some (.dK kvs)) (ry : RelV (kV k) u) (l : (valV kvs k).isSome = true) (h : ∀ s', Inv X pins σ (upd H a (.dK (dropK kvs k))) s' → Q () s') :
    wpAny (model X.prog X.w) A (delItem (.ref a) u) Q E s := by
  obtain ⟨z, hd, vs, rel, dd⟩ := dk_of I.hok e
  refine wpAny_delItem_slot dd.typeIs (by decide) PySem.F.slot_dict_delitem
    (call_meetsIn PySem.F.slot_dict_delitem dd.typeIs PySem.F.entry_dict_delitem (PySem.F.args_dict_delitem_2 _ _) (meets_dict_delitem_pairs (mixKind X.prog X.w) a (kV_is ry)) ⟨vs, dd, by rw [← rel.length]; exact z, by rw [← (rel.val k).isSome_eq]; exact l, fun h' dd' hs => h _ ?_⟩)
  have he : ∃ q, h'.get? a = some q := let ⟨q, _, _, hq, _⟩ := dd'; ⟨q, hq⟩
  exact d_write I (by rw [e]; exact True.intro) hs he (dk_new (Nat.le_trans (dropK_le kvs k) z) hd (rel.drop k) dd')
/-- d.pop(k[, x]), there -/
theorem d_pop {v : V} {more : List Value} {Q : Value → Shared → Prop} (I : Inv X pins σ H s) (e : H a = some (.dK kvs)) (ry : RelV (kV k) u) (l : valV kvs k = some v) (hm : more = [] ∨ ∃ x, more = [x])
    (h : ∀ w' s', Inv X pins σ (upd H a (.dK (dropK kvs k))) s' → RelV v w' → Q w' s') : wpAny (model X.prog X.w) A (call (.builtin "dict.pop") (.ref a :: u :: more)) Q E s := by
  obtain ⟨z, hd, vs, rel, dd⟩ := dk_of I.hok e
  obtain ⟨w', hw, rw'⟩ := RelO.some_of (v := v) (o := valueAt vs k) (by rw [← l]; exact rel.val k)
  have hp : (keyPart u).isSome = true := by
    cases k with
    | inl i => obtain ⟨t, q⟩ := (show ∃ t, u = Value.int i t from ry); subst q; rfl
    | inr x => obtain ⟨t, q⟩ := (show ∃ t, u = Value.str x t from ry); subst q; rfl
  have ha : argsOk "dict.pop" ⟨.ref a :: u :: more, []⟩ := by
    rcases hm with q | ⟨x, q⟩
    · subst q; exact PySem.F.args_dict_pop_2 _ _
    · subst q; exact PySem.F.args_dict_pop_3 _ _ _
  refine call_meetsIn PySem.F.slot_dict_pop dd.typeIs PySem.F.entry_dict_pop ha (meets_dict_pop_there (mixKind X.prog X.w) a (kV_is ry) more hm hp)
    ⟨vs, w', dd, by rw [← rel.length]; exact z, hw, fun h' dd' hs => h w' _ ?_ rw'⟩
  have he : ∃ q, h'.get? a = some q := let ⟨q, _, _, hq, _⟩ := dd'; ⟨q, hq⟩
  exact d_write I (by rw [e]; exact True.intro) hs he (dk_new (Nat.le_trans (dropK_le kvs k) z) hd (rel.drop k) dd')
/-- d.pop(k, x), not there -/
theorem d_popD {r : Value} {Q : Value → Shared → Prop} (I : Inv X pins σ H s) (e : H a = some (.dK kvs)) (ry : RelV (kV k) u) (l : valV kvs k = none) (h : ∀ s', Inv X pins σ H s' → Q r s') :
    wpAny (model X.prog X.w) A (call (.builtin "dict.pop") [.ref a, u, r]) Q E s := by
  obtain ⟨z, hd, vs, rel, dd⟩ := dk_of I.hok e
  have hn : valueAt vs k = none := RelO.none_of (by rw [← l]; exact rel.val k)
  have hp : (keyPart u).isSome = true := by
    cases k with
    | inl i => obtain ⟨t, q⟩ := (show ∃ t, u = Value.int i t from ry); subst q; rfl
    | inr x => obtain ⟨t, q⟩ := (show ∃ t, u = Value.str x t from ry); subst q; rfl
  exact call_meetsIn PySem.F.slot_dict_pop dd.typeIs PySem.F.entry_dict_pop (PySem.F.args_dict_pop_3 _ _ _) (meets_dict_pop_default (mixKind X.prog X.w) a (kV_is ry) hd hp r) ⟨vs, dd, hn, h _ (I.tok _)⟩
/-- d.clear() -/
theorem d_clear {Q : Value → Shared → Prop} (I : Inv X pins σ H s) (e : H a = some (.dK kvs)) (h : ∀ s', Inv X pins σ (upd H a (.dK [])) s' → Q .none s') : wpAny (model X.prog X.w) A (call (.builtin "dict.clear") [.ref a]) Q E s := by
  obtain ⟨z, hd, vs, rel, dd⟩ := dk_of I.hok e
  refine call_meetsIn PySem.F.slot_dict_clear dd.typeIs PySem.F.entry_dict_clear (PySem.F.args_dict_clear_1 _) (meets_dict_clear (mixKind X.prog X.w) a) ⟨vs, dd, by rw [← rel.length]; exact z, fun h' dd' hs => h _ ?_⟩
  have he : ∃ q, h'.get? a = some q := let ⟨q, _, _, hq, _⟩ := dd'; ⟨q, hq⟩
  exact d_write (t' := s.toks) I (by rw [e]; exact True.intro) hs he (dk_new (Nat.zero_le _) hd .nil dd')
/-- len(d) -/
theorem d_len {Q : Value → Shared → Prop} (I : Inv X pins σ H s) (e : Rd H a (.dK kvs)) (h : ∀ t s', Inv X pins σ H s' → Q (.int kvs.length t) s') : wpAny (model X.prog X.w) A (call (.builtin "len") [.ref a]) Q E s := by
  obtain ⟨z, hd, vs, rel, dd⟩ := dk_rd I.hok e
  refine call_len_dict hd dd (by rw [← rel.length]; rw [sizeLine_eq] at z; omega) ?_
  rw [← rel.length]
  exact h _ _ (I.tok _)
/-- if d -/
theorem d_truth {Q : Bool → Shared → Prop} (I : Inv X pins σ H s) (e : Rd H a (.dK kvs)) (h : ∀ s', Inv X pins σ H s' → Q (!kvs.isEmpty) s') : wpAny (model X.prog X.w) A (truthy (.ref a)) Q E s := by
  obtain ⟨z, hd, vs, rel, dd⟩ := dk_rd I.hok e
  refine wpAny_truthy_dict hd dd (by rw [← rel.length]; rw [sizeLine_eq] at z; omega) ?_
  have q : kvs.isEmpty = vs.isEmpty := by cases rel <;> rfl
  rw [← q]
  exact h _ (I.tok _)
end


/-! ### readings and rules -/
/-- the element of a subscription, not a slice -/
def NoSl (i : Expr) : Prop := ∀ ov iv, subscripted i false ov iv = operate [ov, iv] (getItem ov iv)
theorem subD_of {prog : Program} {w : World} {A : Around} {E : Value → Shared → Prop} {s : Shared} {env : Env} {value slice : Expr} {pos : Pos} {T id : String} {Q : Value → Shared → Prop}
    (hl : typeLookup (.type T) "__getitem__" = pure (some (.builtin id))) (hs : NoSl slice)
    (h : wpAny (model prog w) A (eval value env) (fun o s₁ => wpAny (model prog w) A (eval slice env) (fun i s₂ => s₂.TypeIs o T ∧ wpAny (model prog w) A (getItem o i) Q E s₂) E s₁) E s) :
    wpAny (model prog w) A (eval (.Subscript value slice pos) env) Q E s := by
  refine Subscript_ (wpAny_mono h (fun o s₁ h₁ => wpAny_mono h₁ (fun i s₂ h₂ => ?_) fun _ _ x => x) fun _ _ x => x)
  obtain ⟨hT, h₂⟩ := h₂
  unfold subscriptTail
  refine wpAny_bind ?_
  rw [getitemInPython_of_ne hT.not_modules]
  refine wpAny_bind (wpAny_specialOf hT hl ?_)
  have fin : wpAny (model prog w) A (subscripted slice false o i) (fun r s₃ => wpAny (model prog w) A (letTemporaryGo value o r >>= fun _ => pure r) Q E s₃) E s₂ := by
    rw [hs o i]
    exact wpAny_operating (wpAny_mono h₂ (fun r s₃ h₃ => wpAny_bind (wpAny_letTemporaryGo (wpAny_pure h₃))) fun _ _ x => x)
  first
    | exact wpAny_pure (wpAny_bind fin)
    | exact wpAny_bind (wpAny_pure (wpAny_bind fin))
    | exact wpAny_bind fin

theorem dict_typeIs {X : Cx} {pins : List (Addr × Obj)} {σ : St} {H : Hp} {s : Shared} {a : Addr} {y : V} {o : Option V} (I : Inv X pins σ H s) (g : DGet H a y o) : s.TypeIs (.ref a) "dict" := by
  rcases g with ⟨kvs, k, e, _, _⟩ | ⟨kvs, k, b, e, _, _, _⟩
  · obtain ⟨_, _, vs, _, dd⟩ := dk_rd I.hok e
    exact dd.typeIs
  · obtain ⟨_, _, xs, _, dd⟩ := dt_rd I.hok e
    exact dd.typeIs
theorem dict_noDict {X : Cx} {pins : List (Addr × Obj)} {σ : St} {H : Hp} {s : Shared} {a : Addr} {y : V} {o : Option V} (I : Inv X pins σ H s) (g : DGet H a y o) :
    ∀ b, Value.ref a = .ref b → ∃ ob, s.heap.get? b = some ob ∧ ob.dict = none := fun b q => by
  cases q
  rcases g with ⟨kvs, k, e, _, _⟩ | ⟨kvs, k, b, e, _, _, _⟩
  · obtain ⟨_, _, vs, _, ob, _, _, h1, h2, _⟩ := dk_rd I.hok e
    exact ⟨ob, h1, h2.2.1⟩
  · obtain ⟨_, _, xs, _, ob, _, _, h1, h2, _⟩ := dt_rd I.hok e
    exact ⟨ob, h1, h2.2.1⟩

/-- d[y] -/
def tDGet (td ty : TE) : TE := fun σ H Q => td σ H fun x H1 => ty σ H1 fun y H2 => ∃ a v, x = .ref a ∧ DGet H2 a y (some v) ∧ Q v H2
/-- y in d, y not in d -/
def tDIn (ty td : TE) : TE := fun σ H Q => ty σ H fun y H1 => td σ H1 fun x H2 => ∃ a o, x = .ref a ∧ DGet H2 a y o ∧ Q (.bl o.isSome) H2
def tDNotIn (ty td : TE) : TE := fun σ H Q => ty σ H fun y H1 => td σ H1 fun x H2 => ∃ a o, x = .ref a ∧ DGet H2 a y o ∧ Q (.bl (!o.isSome)) H2
/-- d[y] = v -/
def sDPut (td ty tv : TE) : TS := fun D σ H => tv σ H fun v H1 => td σ H1 fun x H2 => ty σ H2 fun y H3 => ∃ a H4, x = .ref a ∧ DPut H3 a y v H4 ∧ D.nx σ H4
/-- d[y] op= v -/
def sDAug (td ty tv : TE) (rd : V → V → Hp → VK → Prop) : TS := fun D σ H => td σ H fun x H1 => ty σ H1 fun y H2 => ∃ a v, x = .ref a ∧ DGet H2 a y (some v) ∧
  tv σ H2 fun y2 H3 => rd v y2 H3 fun z H4 => ∃ H5, DPut H4 a y z H5 ∧ D.nx σ H5
/-- del d[y] -/
def sDDel (td ty : TE) : TS := fun D σ H => td σ H fun x H1 => ty σ H1 fun y H2 => ∃ a kvs k, x = .ref a ∧ H2 a = some (.dK kvs) ∧ y = kV k ∧ (valV kvs k).isSome = true ∧ D.nx σ (upd H2 a (.dK (dropK kvs k)))

section
variable {X : Cx} {o i e value : Expr} {pos pos' tpos : Pos} {td ty tv : TE}
theorem pe_dget (hu : X.A.units + 1 < cLine) (ho : PE X o td) (hi : PE X i ty) (hs : NoSl i) : PE X (.Subscript o i pos) (tDGet td ty) := by
  intro pins s σ H Q I h
  refine subD_of PySem.F.slot_dict_getitem.lookup hs (thn (ho pins s σ H _ I h) fun u s1 ⟨x, H1, I1, rx, q1⟩ => thn (hi pins s1 σ H1 _ I1 q1) fun iv s2 ⟨y, H2, I2, ry, a, v, ex, g, q2⟩ => ?_)
  subst ex
  obtain rfl : u = Value.ref a := rx
  exact ⟨dict_typeIs I2 g, d_getItem hu I2 g ry fun w' s3 I3 rw' => ⟨v, H2, I3, rw', q2⟩⟩
theorem pc_din (hu : X.A.units + 1 < cLine) (hi : PE X i ty) (ho : PE X o td) : PC X .In i o (tDIn ty td) := by
  intro pins s σ H Q I h
  refine thn (hi pins s σ H _ I h) fun iv s1 ⟨y, H1, I1, ry, q1⟩ => thn (ho pins s1 σ H1 _ I1 q1) fun u s2 ⟨x, H2, I2, rx, a, ov, ex, g, q2⟩ => ?_
  subst ex
  obtain rfl : u = Value.ref a := rx
  exact d_in hu I2 g ry fun s3 I3 => ⟨.bl ov.isSome, H2, I3, rfl, q2⟩
theorem pc_dnotin (hu : X.A.units + 1 < cLine) (hi : PE X i ty) (ho : PE X o td) : PC X .NotIn i o (tDNotIn ty td) := by
  intro pins s σ H Q I h
  refine thn (hi pins s σ H _ I h) fun iv s1 ⟨y, H1, I1, ry, q1⟩ => thn (ho pins s1 σ H1 _ I1 q1) fun u s2 ⟨x, H2, I2, rx, a, ov, ex, g, q2⟩ => ?_
  subst ex
  obtain rfl : u = Value.ref a := rx
  exact d_notIn hu I2 g ry fun s3 I3 => ⟨.bl (!ov.isSome), H2, I3, rfl, q2⟩
theorem ps_dput (hu : X.A.units + 1 < cLine) (ho : PE X o td) (hi : PE X i ty) (hv : PE X value tv) (hs : swapsWith value (some (.Subscript o i pos')) pos.line X.env = pure false) :
    PS X (.Assign [.Subscript o i pos'] value pos) (sDPut td ty tv) := by
  intro pins s σ H D I h
  refine wpAny_Assign_Subscript (thn (hv pins s σ H _ I h) fun r s1 ⟨v, H1, I1, rv, q1⟩ => thn (ho pins s1 σ H1 _ I1 q1) fun u s2 ⟨x, H2, I2, rx, q2⟩ => thn (hi pins s2 σ H2 _ I2 q2) fun iv s3 ⟨y, H3, I3, ry, a, H4, ex, g, q3⟩ => ?_) hs
  subst ex
  obtain rfl : u = Value.ref a := rx
  exact d_setItem hu I3 g ry rv fun s4 I4 => ⟨σ, H4, I4, q3⟩
theorem ps_daug {op : Operator} {rd : V → V → Hp → VK → Prop} (hu : X.A.units + 1 < cLine) (ho : PE X o td) (hi : PE X i ty) (hv : PE X value tv) (hop : InOp X op rd)
    (ha : ∀ ov iv new, augStore i ov iv new = (do holding [new, ov, iv] (setItem ov iv new); release [new, ov, iv] []; pure .next)) : PS X (.AugAssign (.Subscript o i tpos) op value pos) (sDAug td ty tv rd) := by
  intro pins s σ H D I h
  refine wpAny_AugAssign_SubscriptAny (thn (ho pins s σ H _ I h) fun u s1 ⟨x, H1, I1, rx, q1⟩ => thn (hi pins s1 σ H1 _ I1 q1) fun iv s2 ⟨y, H2, I2, ry, a, v, ex, g, q2⟩ => ?_) ha
  subst ex
  obtain rfl : u = Value.ref a := rx
  refine d_getItem hu I2 g ry fun w' s3 I3 rw' => thn (hv pins s3 σ H2 _ I3 q2) fun w2 s4 ⟨y2, H3, I4, ry2, q3⟩ => thn (hop pins s4 σ H3 v y2 w' w2 _ I4 rw' ry2 q3) fun w3 s5 ⟨z, H4, I5, rz, H5, g5, q4⟩ => ?_
  exact d_setItem hu I5 g5 ry rz fun s6 I6 => ⟨σ, H5, I6, q4⟩
theorem ps_ddel (ho : PE X o td) (hi : PE X i ty) : PS X (.Delete [.Subscript o i tpos] pos) (sDDel td ty) := by
  intro pins s σ H D I h
  refine wpAny_Delete (wpAny_deleteEach_cons (wpAny_delete_Subscript (thn (ho pins s σ H _ I h) fun u s1 ⟨x, H1, I1, rx, q1⟩ => thn (hi pins s1 σ H1 _ I1 q1) fun iv s2 ⟨y, H2, I2, ry, a, kvs, k, ex, e, ey, l, q2⟩ => ?_)))
  subst ex ey
  obtain rfl : u = Value.ref a := rx
  exact d_delItem I2 e ry l fun s3 I3 => wpAny_deleteEach_nil ⟨σ, _, I3, q2⟩
end


/-! ### displays -/
theorem dk_empty {P : Program} {w : World} {H : Hp} (h : Heap) (hb : sysModules < h.objs.size) : ObjOk P w H (h.push { cls := .type "dict", data := .dict #[] }) h.objs.size (.dK []) :=
  ⟨Nat.zero_le _, beq_eq_false_iff_ne.mpr (Ne.symm (Nat.ne_of_lt hb)), [], .nil, Heap.DictOf.new h⟩
theorem dt_empty {P : Program} {w : World} {H : Hp} (h : Heap) (hb : sysModules < h.objs.size) : ObjOk P w H (h.push { cls := .type "dict", data := .dict #[] }) h.objs.size (.dT []) :=
  ⟨Nat.zero_le _, beq_eq_false_iff_ne.mpr (Ne.symm (Nat.ne_of_lt hb)), [], .nil, _, #[], 0, Heap.get?_push_size _ rfl, ⟨rfl, rfl, rfl⟩, rfl, rfl, List.nodup_nil⟩
/-- {}, to be a dict of the kind that is wanted -/
def tDNewK : TE := fun _ H Q => ∀ p, H p = none → Q (.ref p) (upd H p (.dK []))
def tDNewT : TE := fun _ H Q => ∀ p, H p = none → Q (.ref p) (upd H p (.dT []))
section
variable {X : Cx} {pos : Pos}
theorem pe_dnewK : PE X (.Dict [] [] pos) tDNewK := fun pins s σ H Q I h =>
  wpAny_Dict_empty ⟨.ref s.heap.objs.size, _, I.laid (a := s.heap.objs.size) (o := .dK []) (t' := s.toks) (fun _ _ q => Heap.get?_push_of_some _ q) (Nat.le_refl _) (dk_empty s.heap I.big), rfl, h _ (I.hok.fresh (Nat.le_refl _))⟩
theorem pe_dnewT : PE X (.Dict [] [] pos) tDNewT := fun pins s σ H Q I h =>
  wpAny_Dict_empty ⟨.ref s.heap.objs.size, _, I.laid (a := s.heap.objs.size) (o := .dT []) (t' := s.toks) (fun _ _ q => Heap.get?_push_of_some _ q) (Nat.le_refl _) (dt_empty s.heap I.big), rfl, h _ (I.hok.fresh (Nat.le_refl _))⟩
end

/-- the pairs of a display, from the left -/
def tPairs : List (TE × TE) → St → Hp → (List (V × V) → Hp → Prop) → Prop
  | [], _, H, Q => Q [] H
  | (tk, tv) :: r, σ, H, Q => tk σ H fun x H1 => tv σ H1 fun y H2 => tPairs r σ H2 fun ps H3 => Q ((x, y) :: ps) H3
abbrev VV : List (V × V) → List (Value × Value) → Prop := Paired fun p q => RelV p.1 q.1 ∧ RelV p.2 q.2
def PPs (X : Cx) (pos : Pos) (keys : List (Option Expr)) (values : List Expr) (trs : List (TE × TE)) : Prop :=
  ∀ (pins : List (Addr × Obj)) (s : Shared) (σ : St) (H : Hp) (Q : List (V × V) → Hp → Prop), Inv X pins σ H s → tPairs trs σ H Q →
    wpAny (model X.prog X.w) X.A (evalPairs (pairTrees keys values X.env pos)) (fun vs s' => ∃ ps H', Inv X pins σ H' s' ∧ VV ps vs ∧ Q ps H') X.xe s
theorem pps_nil {X : Cx} {pos : Pos} : PPs X pos [] [] [] := fun pins s σ H Q I h => pairTrees_nil_walk ⟨[], H, I, .nil, h⟩
theorem pps_cons {X : Cx} {pos : Pos} {k v : Expr} {ks : List (Option Expr)} {vs : List Expr} {tk tv : TE} {trs : List (TE × TE)} (hk : PE X k tk) (hv : PE X v tv) (hr : PPs X pos ks vs trs) :
    PPs X pos (some k :: ks) (v :: vs) ((tk, tv) :: trs) := fun pins s σ H Q I h =>
  pairTrees_cons_walk (thn (hk pins s σ H _ I h) fun u s1 ⟨x, H1, I1, rx, q1⟩ => thn (hv pins s1 σ H1 _ I1 q1) fun w2 s2 ⟨y, H2, I2, ry, q2⟩ =>
    thn (hr pins s2 σ H2 _ I2 q2) fun ws s3 ⟨ps, H3, I3, rel, q3⟩ => ⟨(x, y) :: ps, H3, I3, .cons ⟨rx, ry⟩ rel, q3⟩)

def mergeK (kvs more : List (Key × V)) : List (Key × V) := more.foldl (fun acc kv => putK acc kv.1 kv.2) kvs
theorem KV.merge : ∀ {more : List (Key × V)} {rs : List (Key × Value)} {kvs : List (Key × V)} {vs : List (Key × Value)}, KV more rs → KV kvs vs → KV (mergeK kvs more) (merged vs rs) := by
  intro more rs kvs vs r
  unfold KV at r
  induction r generalizing kvs vs with
  | nil => intro q; exact q
  | @cons p q ps qs h t ih =>
    intro r0
    have e : KV (putK kvs p.1 p.2) (stored vs q.1 q.2) := by
      have := r0.put p.1 h.2
      rw [← h.1]; exact this
    exact ih e
theorem length_mergeK : ∀ (more kvs : List (Key × V)), (mergeK kvs more).length ≤ kvs.length + more.length
  | [], kvs => by show kvs.length ≤ kvs.length + 0; omega
  | p :: r, kvs => by
    have h1 := length_mergeK r (putK kvs p.1 p.2)
    have h2 := length_putK kvs p.1 p.2
    show (mergeK (putK kvs p.1 p.2) r).length ≤ _
    rw [List.length_cons]; omega
theorem carries_of {P : Program} {w : World} : ∀ {kvs : List (Key × V)} {ws : List (Value × Value)}, VV (kvs.map fun kv => (kV kv.1, kv.2)) ws → ∃ rs, Carries (mixKind P w) ws rs ∧ KV kvs rs
  | [], _, r => by rw [List.map_nil] at r; cases r; exact ⟨[], True.intro, .nil⟩
  | p :: kvs, _, r => by
    rw [List.map_cons] at r
    cases r with
    | @cons a b as bs h t =>
      obtain ⟨rs, c, q⟩ := carries_of (P := P) (w := w) t
      obtain ⟨b1, b2⟩ := b
      exact ⟨(p.1, b2) :: rs, ⟨kV_is h.1, rfl, c⟩, .cons ⟨rfl, h.2⟩ q⟩
/-- {k: v, ..} with keys ints and texts; the new dict stands empty while the pairs are made -/
def tDisp (trs : List (TE × TE)) : TE := fun σ H Q => ∀ p, H p = none → tPairs trs σ (upd H p (.dK [])) fun ps H2 => H2 p = some (.dK []) ∧ ∃ kvs : List (Key × V), ps = kvs.map (fun kv => (kV kv.1, kv.2)) ∧ kvs.length ≤ 15 ∧ Q (.ref p) (upd H2 p (.dK (mergeK [] kvs)))
theorem pe_disp {X : Cx} {pos : Pos} {keys : List (Option Expr)} {values : List Expr} {trs : List (TE × TE)} (h : PPs X pos keys values trs) (hall : keys.all (·.isSome) = true) (hl : keys.length = values.length) (h0 : keys ≠ [])
    (h15 : keys.length ≤ 15) : PE X (.Dict keys values pos) (tDisp trs) := by
  intro pins s σ H Q I q
  have hn := I.hok.fresh (Nat.le_refl s.heap.objs.size)
  have I1 := I.laid (a := s.heap.objs.size) (o := .dK []) (h' := s.heap.push { cls := .type "dict", data := .dict #[] }) (t' := s.toks) (fun _ _ q => Heap.get?_push_of_some _ q) (Nat.le_refl _) (dk_empty s.heap I.big)
  refine wpAny_Dict_walk (knd := mixKind X.prog X.w) hall hl h0 h15 (thn (h pins _ σ _ _ I1 (q _ hn)) fun ws s2 ⟨ps, H2, I2, rel, e, kvs, ep, lk, q2⟩ => ?_)
  subst ep
  obtain ⟨rs, c, rk⟩ := carries_of (P := X.prog) (w := X.w) rel
  obtain ⟨z, hd, vs0, r0, dd⟩ := dk_of I2.hok e
  cases r0
  refine ⟨rs, c, dd, fun h' dd' hs => ⟨.ref s.heap.objs.size, _, ?_, rfl, q2⟩⟩
  have hz : (mergeK [] kvs).length ≤ sizeLine := by
    have h1 := length_mergeK kvs []
    rw [List.length_nil] at h1
    rw [sizeLine_eq]; omega
  have he : ∃ q, h'.get? s.heap.objs.size = some q := let ⟨q, _, _, hq, _⟩ := dd'; ⟨q, hq⟩
  exact d_write I2 (by rw [e]; exact True.intro) hs he (dk_new hz hd (rk.merge .nil) dd')


/-! ### methods -/
/-- a method call o.m(e) of a built-in, with one argument: what must be seen of the text -/
structure M1 (X : Cx) (o : Expr) (m : Str) (apos : Pos) (e : Expr) (cpos : Pos) : Prop where
  base : attributeBase o m X.env (eval o X.env) = eval o X.env
  few : ((backTo cpos (starEach [e] X.env)).all (fun x => !x.1) && (backToKw cpos (keywordEach [] X.env)).all (fun x => x.1.isSome)
    && decide (([e] : List Expr).length + ([] : List Keyword).length + (if ([] : List Keyword).isEmpty then 0 else 1) < 30)) = true
  line : (apos.endLine == cpos.line) = true
  trees : backTo cpos (starEach [e] X.env) = [(false, eval e X.env)]
structure M2 (X : Cx) (o : Expr) (m : Str) (apos : Pos) (e f : Expr) (cpos : Pos) : Prop where
  base : attributeBase o m X.env (eval o X.env) = eval o X.env
  few : ((backTo cpos (starEach [e, f] X.env)).all (fun x => !x.1) && (backToKw cpos (keywordEach [] X.env)).all (fun x => x.1.isSome)
    && decide (([e, f] : List Expr).length + ([] : List Keyword).length + (if ([] : List Keyword).isEmpty then 0 else 1) < 30)) = true
  line : (apos.endLine == cpos.line) = true
  trees : backTo cpos (starEach [e, f] X.env) = [(false, eval e X.env), (false, eval f X.env)]

/-- a is a dict, whatever its keys -/
def IsD (H : Hp) (a : Addr) : Prop := (∃ kvs, Rd H a (.dK kvs)) ∨ ∃ kvs, Rd H a (.dT kvs)
theorem isD_at {X : Cx} {pins : List (Addr × Obj)} {σ : St} {H : Hp} {s : Shared} {a : Addr} (I : Inv X pins σ H s) (d : IsD H a) :
    s.TypeIs (.ref a) "dict" ∧ (∀ b, Value.ref a = .ref b → ∃ ob, s.heap.get? b = some ob ∧ ob.dict = none) ∧ (a == sysModules) = false := by
  rcases d with ⟨kvs, e⟩ | ⟨kvs, e⟩
  · obtain ⟨_, hd, vs, _, dd⟩ := dk_rd I.hok e
    refine ⟨dd.typeIs, fun b q => ?_, hd⟩
    cases q
    obtain ⟨ob, _, _, h1, h2, _⟩ := dd
    exact ⟨ob, h1, h2.2.1⟩
  · obtain ⟨_, hd, xs, _, dd⟩ := dt_rd I.hok e
    refine ⟨dd.typeIs, fun b q => ?_, hd⟩
    cases q
    obtain ⟨ob, _, _, h1, h2, _⟩ := dd
    exact ⟨ob, h1, h2.2.1⟩

section
variable {X : Cx} {pins : List (Addr × Obj)} {σ : St} {H : Hp} {s : Shared} {a : Addr} {y d : V} {u r : Value} {o : Option V} {A : Around} {E : Value → Shared → Prop}
/-- d.get(y) -/
theorem d_get1 {Q : Value → Shared → Prop} (hu : A.units + 1 < cLine) (I : Inv X pins σ H s) (g : DGet H a y o) (ry : RelV y u) (h : ∀ w' s', Inv X pins σ H s' → RelV (o.getD .non) w' → Q w' s') :
    wpAny (model X.prog X.w) A (call (.builtin "dict.get") [.ref a, u]) Q E s := by
  rcases g with ⟨kvs, k, e, ey, l⟩ | ⟨kvs, k, b, e, ey, eb, l⟩
  · subst ey
    obtain ⟨z, hd, vs, rel, dd⟩ := dk_rd I.hok e
    refine call_meetsIn PySem.F.slot_dict_get dd.typeIs PySem.F.entry_dict_get (PySem.F.args_dict_get_2 _ _) (meets_dict_get (mixKind X.prog X.w) a (kV_is ry) hd) ⟨_, dd.mapOf, h _ _ (I.tok _) ?_⟩
    rw [l]
    exact (rel.val k).getD rfl
  · subst ey
    cases (show u = Value.ref b from ry)
    obtain ⟨z, hd, xs, rel, dd⟩ := dt_rd I.hok e
    refine call_meetsIn PySem.F.slot_dict_get dd.typeIs PySem.F.entry_dict_get (PySem.F.args_dict_get_2 _ _) (meetsH_dict_get (tupleKind (mixKind X.prog X.w)) a b hd) ⟨tupleKind_room_in1 hu, k, xs, key_of I.hok eb, dd, h _ _ (I.tok _) ?_⟩
    rw [l]
    exact (rel.val k).getD rfl
/-- d.get(y, x) -/
theorem d_get2 {Q : Value → Shared → Prop} (hu : A.units + 1 < cLine) (I : Inv X pins σ H s) (g : DGet H a y o) (ry : RelV y u) (rd : RelV d r) (h : ∀ w' s', Inv X pins σ H s' → RelV (o.getD d) w' → Q w' s') :
    wpAny (model X.prog X.w) A (call (.builtin "dict.get") [.ref a, u, r]) Q E s := by
  rcases g with ⟨kvs, k, e, ey, l⟩ | ⟨kvs, k, b, e, ey, eb, l⟩
  · subst ey
    obtain ⟨z, hd, vs, rel, dd⟩ := dk_rd I.hok e
    refine call_meetsIn PySem.F.slot_dict_get dd.typeIs PySem.F.entry_dict_get (PySem.F.args_dict_get_3 _ _ _) (meets_dict_get_default (mixKind X.prog X.w) a (kV_is ry) hd r) ⟨_, dd.mapOf, h _ _ (I.tok _) ?_⟩
    rw [l]
    exact (rel.val k).getD rd
  · subst ey
    cases (show u = Value.ref b from ry)
    obtain ⟨z, hd, xs, rel, dd⟩ := dt_rd I.hok e
    refine call_meetsIn PySem.F.slot_dict_get dd.typeIs PySem.F.entry_dict_get (PySem.F.args_dict_get_3 _ _ _) (meetsH_dict_get_default (tupleKind (mixKind X.prog X.w)) a b hd r) ⟨tupleKind_room_in1 hu, k, xs, key_of I.hok eb, dd, h _ _ (I.tok _) ?_⟩
    rw [l]
    exact (rel.val k).getD rd
end

def tDGet1 (td ty : TE) : TE := fun σ H Q => td σ H fun x H1 => ∃ a, x = .ref a ∧ IsD H1 a ∧ ty σ H1 fun y H2 => ∃ o, DGet H2 a y o ∧ Q (o.getD .non) H2
def tDGet2 (td ty tx : TE) : TE := fun σ H Q => td σ H fun x H1 => ∃ a, x = .ref a ∧ IsD H1 a ∧ ty σ H1 fun y H2 => tx σ H2 fun z H3 => ∃ o, DGet H3 a y o ∧ Q (o.getD z) H3
/-- d.pop(k): there; d.pop(k, x): there or not -/
def tDPop1 (td ty : TE) : TE := fun σ H Q => td σ H fun x H1 => ∃ a, x = .ref a ∧ IsD H1 a ∧ ty σ H1 fun y H2 => ∃ kvs k v, H2 a = some (.dK kvs) ∧ y = kV k ∧ valV kvs k = some v ∧ Q v (upd H2 a (.dK (dropK kvs k)))
def tDPop2 (td ty tx : TE) : TE := fun σ H Q => td σ H fun x H1 => ∃ a, x = .ref a ∧ IsD H1 a ∧ ty σ H1 fun y H2 => tx σ H2 fun z H3 => ∃ kvs k, H3 a = some (.dK kvs) ∧ y = kV k ∧
  (∀ v, valV kvs k = some v → Q v (upd H3 a (.dK (dropK kvs k)))) ∧ (valV kvs k = none → Q z H3)
section
variable {X : Cx} {o e f : Expr} {apos cpos : Pos} {td ty tx : TE}
theorem pe_dget1 (hu : X.A.units + 1 < cLine) (ho : PE X o td) (he : PE X e ty) (m : M1 X o "get" apos e cpos) : PE X (.Call (.Attribute o "get" apos) [e] [] cpos) (tDGet1 td ty) := by
  intro pins s σ H Q I h
  refine wpAny_Call_method m.base m.few m.line PySem.F.plainAttrs_dict PySem.F.slot_dict_get PySem.F.type_dict_get (thn (ho pins s σ H _ I h) fun u s1 ⟨x, H1, I1, rx, a, ex, d, q1⟩ => ?_)
  subst ex
  obtain rfl : u = Value.ref a := rx
  obtain ⟨t1, t2, _⟩ := isD_at I1 d
  refine ⟨t1, t2, ?_⟩
  rw [m.trees]
  refine Calls.callWith_builtin rfl (Calls.evalArgs_plain (Calls.spliced_cons (thn (he pins s1 σ H1 _ I1 q1) fun iv s2 ⟨y, H2, I2, ry, ov, g, q2⟩ => Calls.spliced_nil ?_)))
  exact d_get1 hu I2 g ry fun w' s3 I3 rw' => ⟨_, H2, I3, rw', q2⟩
theorem pe_dget2 (hu : X.A.units + 1 < cLine) (ho : PE X o td) (he : PE X e ty) (hf : PE X f tx) (m : M2 X o "get" apos e f cpos) : PE X (.Call (.Attribute o "get" apos) [e, f] [] cpos) (tDGet2 td ty tx) := by
  intro pins s σ H Q I h
  refine wpAny_Call_method m.base m.few m.line PySem.F.plainAttrs_dict PySem.F.slot_dict_get PySem.F.type_dict_get (thn (ho pins s σ H _ I h) fun u s1 ⟨x, H1, I1, rx, a, ex, d, q1⟩ => ?_)
  subst ex
  obtain rfl : u = Value.ref a := rx
  obtain ⟨t1, t2, _⟩ := isD_at I1 d
  refine ⟨t1, t2, ?_⟩
  rw [m.trees]
  refine Calls.callWith_builtin rfl (Calls.evalArgs_plain (Calls.spliced_cons (thn (he pins s1 σ H1 _ I1 q1) fun iv s2 ⟨y, H2, I2, ry, q2⟩ =>
    Calls.spliced_cons (thn (hf pins s2 σ H2 _ I2 q2) fun fv s3 ⟨z, H3, I3, rz, ov, g, q3⟩ => Calls.spliced_nil ?_))))
  exact d_get2 hu I3 g ry rz fun w' s4 I4 rw' => ⟨_, H3, I4, rw', q3⟩
theorem pe_dpop1 (ho : PE X o td) (he : PE X e ty) (m : M1 X o "pop" apos e cpos) : PE X (.Call (.Attribute o "pop" apos) [e] [] cpos) (tDPop1 td ty) := by
  intro pins s σ H Q I h
  refine wpAny_Call_method m.base m.few m.line PySem.F.plainAttrs_dict PySem.F.slot_dict_pop PySem.F.type_dict_pop (thn (ho pins s σ H _ I h) fun u s1 ⟨x, H1, I1, rx, a, ex, d, q1⟩ => ?_)
  subst ex
  obtain rfl : u = Value.ref a := rx
  obtain ⟨t1, t2, _⟩ := isD_at I1 d
  refine ⟨t1, t2, ?_⟩
  rw [m.trees]
  refine Calls.callWith_builtin rfl (Calls.evalArgs_plain (Calls.spliced_cons (thn (he pins s1 σ H1 _ I1 q1) fun iv s2 ⟨y, H2, I2, ry, kvs, k, v, ea, ey, l, q2⟩ => Calls.spliced_nil ?_)))
  subst ey
  exact d_pop I2 ea ry l (.inl rfl) fun w' s3 I3 rw' => ⟨v, _, I3, rw', q2⟩
theorem pe_dpop2 (ho : PE X o td) (he : PE X e ty) (hf : PE X f tx) (m : M2 X o "pop" apos e f cpos) : PE X (.Call (.Attribute o "pop" apos) [e, f] [] cpos) (tDPop2 td ty tx) := by
  intro pins s σ H Q I h
  refine wpAny_Call_method m.base m.few m.line PySem.F.plainAttrs_dict PySem.F.slot_dict_pop PySem.F.type_dict_pop (thn (ho pins s σ H _ I h) fun u s1 ⟨x, H1, I1, rx, a, ex, d, q1⟩ => ?_)
  subst ex
  obtain rfl : u = Value.ref a := rx
  obtain ⟨t1, t2, _⟩ := isD_at I1 d
  refine ⟨t1, t2, ?_⟩
  rw [m.trees]
  refine Calls.callWith_builtin rfl (Calls.evalArgs_plain (Calls.spliced_cons (thn (he pins s1 σ H1 _ I1 q1) fun iv s2 ⟨y, H2, I2, ry, q2⟩ =>
    Calls.spliced_cons (thn (hf pins s2 σ H2 _ I2 q2) fun fv s3 ⟨z, H3, I3, rz, kvs, k, ea, ey, q3, q4⟩ => Calls.spliced_nil ?_))))
  subst ey
  cases l : valV kvs k with
  | some v => exact d_pop I3 ea ry l (.inr ⟨fv, rfl⟩) fun w' s4 I4 rw' => ⟨v, _, I4, rw', q3 v l⟩
  | none => exact d_popD I3 ea ry l fun s4 I4 => ⟨z, H3, I4, rz, q4 l⟩
end

/-! ### dict(d): a copy -/
section
variable {X : Cx} {pins : List (Addr × Obj)} {σ : St} {H : Hp} {s : Shared} {a : Addr} {kvs : List (Key × V)} {A : Around} {E : Value → Shared → Prop}
theorem d_copyOf {Q : Value → Shared → Prop} (I : Inv X pins σ H s) (e : Rd H a (.dK kvs)) (h : ∀ p s', H p = none → Inv X pins σ (upd H p (.dK kvs)) s' → Q (.ref p) s') : wpAny (model X.prog X.w) A (call (.type "dict") [.ref a]) Q E s := by
  obtain ⟨z, hd, vs, rel, dd⟩ := dk_rd I.hok e
  refine kt_call_dict hd dd (by rw [← rel.length]; exact z) fun h' dd' hs => ?_
  refine h _ _ (I.hok.fresh (Nat.le_refl _)) (I.laid (a := s.heap.objs.size) (o := .dK kvs) (t' := s.toks) (fun b q hq => ?_) (Nat.le_refl _) (dk_new z (beq_eq_false_iff_ne.mpr (Ne.symm (Nat.ne_of_lt I.big))) rel dd'))
  exact (hs.2 b (Nat.ne_of_lt (Heap.lt_size hq))).trans (Heap.get?_push_of_some _ hq)
end


section
variable {X : Cx} {pins : List (Addr × Obj)} {σ : St} {H : Hp} {s : Shared} {a : Addr} {y : V} {u : Value} {A : Around} {E : Value → Shared → Prop}
/-- d[y], not there: a KeyError -/
theorem d_missing {Q : Value → Shared → Prop} (hu : A.units + 1 < cLine) (hh : A.handled = none) (I : Inv X pins σ H s) (g : DGet H a y none) (ry : RelV y u)
    (h : ∀ h' e t', Heap.NewExc s.heap h' e "KeyError" → E (.ref e) { s with heap := h', toks := t' }) : wpAny (model X.prog X.w) A (getItem (.ref a) u) Q E s := by
  rcases g with ⟨kvs, k, e, ey, l⟩ | ⟨kvs, k, b, e, ey, eb, l⟩
  · subst ey
    obtain ⟨z, hd, vs, rel, dd⟩ := dk_rd I.hok e
    have hn : valueAt vs k = none := RelO.none_of (by rw [l]; exact rel.val k)
    exact wpAny_getItem_missing_of (kV_is ry) hd hh dd.mapOf hn fun h' ex ne => h h' ex _ ne
  · subst ey
    cases (show u = Value.ref b from ry)
    obtain ⟨z, hd, xs, rel, dd⟩ := dt_rd I.hok e
    have hn : (atKey xs k).map (·.2) = none := RelO.none_of (by rw [l]; exact rel.val k)
    exact wpAny_getItem_missing_heap (tupleKind_room_in1 hu) (key_of I.hok eb) hd hh dd (Option.map_eq_none_iff.mp hn) fun h' ex ne => h h' ex _ ne
end
end L2
namespace L2
open PySem PySem.Spec PyProof.Rows
/-! ### a dict's pairs: keys that differ -/
section
variable {κ : Type} [DecidableEq κ]
theorem valV_not {kvs : List (κ × V)} {k : κ} (h : valV kvs k = none) : ¬ k ∈ kvs.map (·.1) := by
  intro m
  obtain ⟨p, hp, e⟩ := List.mem_map.mp m
  have q : (kvs.any fun kv => decide (kv.1 = k)) = true := List.any_eq_true.mpr ⟨p, hp, decide_eq_true e⟩
  rw [valV_any, h] at q
  exact absurd q (by simp)
theorem valV_in {kvs : List (κ × V)} {k : κ} {v : V} (h : valV kvs k = some v) : k ∈ kvs.map (·.1) := by
  have q : (kvs.any fun kv => decide (kv.1 = k)) = true := by
    rw [valV_any, h]
    all_goals rfl
  obtain ⟨p, hp, e⟩ := List.any_eq_true.mp q
  exact List.mem_map.mpr ⟨p, hp, of_decide_eq_true e⟩
theorem nd_snoc : ∀ {l : List κ} {k : κ}, l.Nodup → ¬ k ∈ l → (l ++ [k]).Nodup
  | [], k, _, _ => by simp
  | a :: r, k, h, hk => by
    obtain ⟨h1, h2⟩ := List.nodup_cons.mp h
    show (a :: (r ++ [k])).Nodup
    refine List.nodup_cons.mpr ⟨fun m => ?_, nd_snoc h2 fun m => hk (List.mem_cons.mpr (Or.inr m))⟩
    rcases List.mem_append.mp m with q | q
    · exact h1 q
    · exact hk (List.mem_cons.mpr (Or.inl (List.mem_singleton.mp q).symm))
theorem nd_putK {kvs : List (κ × V)} {k : κ} (v : V) (hn : (kvs.map (·.1)).Nodup) (h : valV kvs k = none) : ((putK kvs k v).map (·.1)).Nodup := by
  rw [putK_new v h, List.map_append]
  exact nd_snoc hn (valV_not h)
theorem dropK_pos {p : κ × V} {r : List (κ × V)} {k : κ} (e : p.1 = k) : dropK (p :: r) k = dropK r k := by
  unfold dropK
  rw [List.filter_cons, if_neg (by simp [e])]
theorem dropK_neg {p : κ × V} {r : List (κ × V)} {k : κ} (e : ¬ p.1 = k) : dropK (p :: r) k = p :: dropK r k := by
  unfold dropK
  rw [List.filter_cons, if_pos (by simp [e])]
theorem dropK_no : ∀ {kvs : List (κ × V)} {k : κ}, ¬ k ∈ kvs.map (·.1) → dropK kvs k = kvs
  | [], _, _ => rfl
  | p :: r, k, h => by
    have h' : ¬ k ∈ r.map (·.1) := fun m => by
      obtain ⟨q, hq, e⟩ := List.mem_map.mp m
      exact h (List.mem_map.mpr ⟨q, List.mem_cons.mpr (Or.inr hq), e⟩)
    rw [dropK_neg fun e => h (List.mem_map.mpr ⟨p, List.mem_cons.mpr (Or.inl rfl), e⟩), dropK_no h']
theorem dropK_mem {kvs : List (κ × V)} {k : κ} {p : κ × V} (h : p ∈ dropK kvs k) : p ∈ kvs := (List.mem_filter.mp h).1
theorem nd_dropK : ∀ {kvs : List (κ × V)} {k : κ}, (kvs.map (·.1)).Nodup → ((dropK kvs k).map (·.1)).Nodup
  | [], _, _ => List.nodup_nil
  | p :: r, k, h => by
    have h : (p.1 :: r.map (·.1)).Nodup := h
    obtain ⟨h1, h2⟩ := List.nodup_cons.mp h
    by_cases e : p.1 = k
    · rw [dropK_pos e]
      exact nd_dropK h2
    · rw [dropK_neg e]
      show (p.1 :: (dropK r k).map (·.1)).Nodup
      refine List.nodup_cons.mpr ⟨fun m => h1 ?_, nd_dropK h2⟩
      obtain ⟨q, hq, eq⟩ := List.mem_map.mp m
      exact List.mem_map.mpr ⟨q, dropK_mem hq, eq⟩
theorem dropK_len : ∀ {kvs : List (κ × V)} {k : κ}, (kvs.map (·.1)).Nodup → k ∈ kvs.map (·.1) → (dropK kvs k).length + 1 = kvs.length
  | [], _, _, m => by simp at m
  | p :: r, k, h, m => by
    have h : (p.1 :: r.map (·.1)).Nodup := h
    have m : k = p.1 ∨ k ∈ r.map (·.1) := List.mem_cons.mp m
    obtain ⟨h1, h2⟩ := List.nodup_cons.mp h
    by_cases e : p.1 = k
    · subst e
      rw [dropK_pos rfl, dropK_no h1]
      all_goals rfl
    · have m' : k ∈ r.map (·.1) := m.resolve_left fun z => e z.symm
      have q := dropK_len h2 m'
      rw [dropK_neg e, List.length_cons, List.length_cons]
      omega
end
end L2


set_option Elab.async false
set_option linter.all false
set_option maxRecDepth 100000
namespace L2
open PySem PySem.Spec PyProof.Rows

/-! ### an iterator that the library walks, as a Turn -/
theorem turn_walks {P : Program} {w : World} {K : PySem.W.Frag} {tg : Expr} {it : Addr} {n : Nat} {Pv : Nat → Value → Prop} {St : Nat → Heap → Prop} {f : Nat → V} (W : ∀ A : Around, A.handled = none → Walks P w A it [it] [it] n Pv St)
    (ob : ∀ i h, St i h → ∃ (o : Obj) (m : String) (vs : Array Value), h.get? it = some o ∧ o.cls = .type m ∧ o.data = .fields vs ∧ ["enumerate", "zip", "dict_itemiterator", "dict_reverseitemiterator", "odict_iterator", "itertools.zip_longest", "itertools.pairwise"].contains m = false)
    (rel : ∀ i v, i < n → Pv i v → RelV (f i) v) (sf : ∀ (A : Around) (i : Nat) (s : Shared) (Q : Value → Shared → Prop) (E : Value → Shared → Prop), St i s.heap → Q (.ref it) s → wpAny (model P w) A (pyIter (.ref it)) Q E s) : Turn P w K tg ⟨fun i _ => i < n, fun i H x H' => H' = H ∧ x = f i, fun i _ => i = n⟩ [it] it St where
  mem := by simp
  obj := fun i h st b hb => by
    have e : b = it := by simpa using hb
    subst e
    obtain ⟨o, m, vs, e, _, d, _⟩ := ob i h st
    exact ⟨o, e, fun v z => by rw [d] at z; cases z⟩
  keep := fun i h h' st k => (W { handled := none, depth := 0, frames := none, guards := none, units := 0 } rfl).frame i h h' st fun b hb o e => k b hb o e
  item := by
    intro X hP hw hK hc i pins s σ H E I hf st hg
    subst hP hw hK
    obtain ⟨f0, f1, f2, f3, f4, f5⟩ := hf it (by simp)
    refine (W X.A (I.ok.hd hc)).item i s _ _ hg st fun v h' tk hv st' kk => ?_
    have I1 : Inv X pins σ H { s with heap := h', toks := tk } := I.turned (fun b o hb e => kk b o (by simpa using hb) e) f0 f1 f3 f4 f5
    obtain ⟨o, m, vs, e, c, d, nm⟩ := ob _ _ st'
    exact ⟨v, rfl, go_of (s := { s with heap := h', toks := tk }) e c d nm ⟨f i, H, I1, rel i v hg hv, ⟨rfl, rfl⟩, st', fun b hb => (hf b hb).1⟩⟩
  done := by
    intro X hP hw hK hc i pins s σ H E I hf st hg
    subst hP hw hK
    obtain ⟨f0, f1, f2, f3, f4, f5⟩ := hf it (by simp)
    have hg' : i = n := hg
    subst hg'
    exact (W X.A (I.ok.hd hc)).done s _ _ st fun h' tk kk => ⟨rfl, I.turned (fun b o hb e => kk b o (by simpa using hb) e) f0 f1 f3 f4 f5⟩
  self := sf

/-- the signs of a text -/
def sgn (x : Str) (i : Nat) : V := .str ⟨#[x.cps.getD i 0]⟩
def Its (x : Str) : It := ⟨fun i _ => i < x.cps.size, fun i H v H' => H' = H ∧ v = sgn x i, fun i _ => i = x.cps.size⟩
theorem rel_sgn {x : Str} (i : Nat) (v : Value) (hi : i < x.cps.size) (h : SignAt x i v) : RelV (sgn x i) v := by
  obtain ⟨c, u, e, rfl⟩ := h
  refine ⟨u, ?_⟩
  have : x.cps.getD i 0 = c := by rw [Array.getD_eq_getD_getElem?, e]; rfl
  rw [this]
section
variable {X : Cx} {tg : Expr}
def iStr (tl : TE) : TI := fun σ H R => tl σ H fun v H1 => ∃ x, v = .str x ∧ R (Its x) H1
theorem pi_str {l : Expr} {tl : TE} (hl : PE X l tl) : PI X tg l (iStr tl) := by
  intro pins s σ H R I h
  refine thn (hl pins s σ H _ I h) fun v s1 ⟨x, H1, I1, r1, q1⟩ => ?_
  obtain ⟨x, e, q⟩ := q1
  subst e
  obtain ⟨t, rfl⟩ := r1
  have fp : ∀ b ∈ [s1.heap.objs.size], FpOk X pins H1 b := fun b hb => by
    have e : b = s1.heap.objs.size := by simpa using hb
    subst e
    exact I1.fpOk (Nat.le_refl _) (I1.hok.fresh (Nat.le_refl _))
  cases ha : x.cps.all (· < 128) with
  | false =>
    refine wpAny_pyIter_wide ha ?_
    refine ⟨s1.heap.objs.size, [s1.heap.objs.size], _, Its x, H1, rfl, I1.kept (t' := s1.toks) fun b o e => Heap.get?_push_of_some _ e,
      turn_walks (fun A hA => Walks.strWide hA _ x t) (fun i h ⟨o, e, c, d⟩ => ⟨o, _, _, e, c, d, by decide⟩) rel_sgn fun A i s Q E st h => wpAny_pyIter_striter_wide st h, ⟨_, Heap.get?_push_size _ rfl, rfl, rfl⟩, fp, q⟩
  | true =>
    refine wpAny_pyIter_ascii ha ?_
    refine ⟨s1.heap.objs.size, [s1.heap.objs.size], _, Its x, H1, rfl, I1.kept (t' := s1.toks) fun b o e => Heap.get?_push_of_some _ e,
      turn_walks (fun A hA => Walks.strAscii hA _ x t) (fun i h ⟨o, e, c, d⟩ => ⟨o, _, _, e, c, d, by decide⟩) rel_sgn fun A i s Q E st h => wpAny_pyIter_striter_ascii st h, ⟨_, Heap.get?_push_size _ rfl, rfl, rfl⟩, fp, q⟩
end

/-! ### comprehensions over a text, a range, the pairs of two tuples -/
section
variable {g : TG} {tc : TT} {te : TE} {σ : St} {H : Hp} {Q : VK} {n : Nat}
theorem comp_by {J : It} {f : Nat → V} (N : Nat) (hgo : ∀ i H, i < N → J.go i H) (hst : ∀ H, J.stop N H) (hy : ∀ i H x H', J.yld i H x H' → H' = H ∧ x = f i) (Pv : Nat → List V → Hp → Prop) (h0 : Pv 0 [] H) (hl : ∀ i ys H, i ≤ N → Pv i ys H → ys.length ≤ sizeLine)
    (hs : ∀ i ys H, i < N → Pv i ys H → g (f i) (List.replicate n none ++ σ) H fun σ2 H2 => tc σ2 H2 fun b H3 => if b = true then te σ2 H3 fun y H4 => Pv (i + 1) (ys ++ [y]) H4 else Pv (i + 1) ys H3)
    (hd : ∀ ys H, Pv N ys H → ∀ p, H p = none → Q (.ref p) (upd H p (.lst ys))) : compW n J g tc te σ H Q := by
  refine ⟨fun i m ys H => m = N - i ∧ i ≤ N ∧ Pv i ys H, ⟨N, by simp, Nat.zero_le _, h0⟩, ?_⟩
  rintro i m ys H ⟨rfl, hi, p⟩
  by_cases hlt : i < N
  · refine .inr ⟨hgo i H hlt, hl i ys H hi p, Pv (i + 1), fun ys' H' p' => ⟨N - (i + 1), by omega, rfl, hlt, p'⟩, fun x H' y => ?_⟩
    obtain ⟨e, e2⟩ := hy _ _ _ _ y
    subst e e2
    exact hs i ys _ hlt p
  · have e : i = N := by omega
    subst e
    exact .inl ⟨hst H, hl i ys H hi p, hd ys H p⟩
theorem comp_str {x : Str} (Pv : Nat → List V → Hp → Prop) (h0 : Pv 0 [] H) (hl : ∀ i ys H, i ≤ x.cps.size → Pv i ys H → ys.length ≤ sizeLine)
    (hs : ∀ i ys H, i < x.cps.size → Pv i ys H → g (sgn x i) (List.replicate n none ++ σ) H fun σ2 H2 => tc σ2 H2 fun b H3 => if b = true then te σ2 H3 fun y H4 => Pv (i + 1) (ys ++ [y]) H4 else Pv (i + 1) ys H3)
    (hd : ∀ ys H, Pv x.cps.size ys H → ∀ p, H p = none → Q (.ref p) (upd H p (.lst ys))) : compW n (Its x) g tc te σ H Q :=
  comp_by x.cps.size (fun _ _ h => h) (fun _ => rfl) (fun _ _ _ _ h => h) Pv h0 hl hs hd
theorem comp_range {lo : Int} {N : Nat} (Pv : Nat → List V → Hp → Prop) (h0 : Pv 0 [] H) (hl : ∀ i ys H, i ≤ N → Pv i ys H → ys.length ≤ sizeLine)
    (hs : ∀ i ys H, i < N → Pv i ys H → g (.int (lo + i)) (List.replicate n none ++ σ) H fun σ2 H2 => tc σ2 H2 fun b H3 => if b = true then te σ2 H3 fun y H4 => Pv (i + 1) (ys ++ [y]) H4 else Pv (i + 1) ys H3)
    (hd : ∀ ys H, Pv N ys H → ∀ p, H p = none → Q (.ref p) (upd H p (.lst ys))) : compW n (Itr lo N) g tc te σ H Q :=
  comp_by (f := fun i => .int (lo + i)) N (fun _ _ h => h) (fun _ => Nat.le_refl _) (fun _ _ _ _ h => h) Pv h0 hl hs hd
theorem comp_zip {K : PySem.W.Frag} {a1 a2 : Addr} {xs ys : List V} (Pv : Nat → List V → Hp → Prop) (h0 : Pv 0 [] H) (hl : ∀ i zs H, i ≤ min xs.length ys.length → Pv i zs H → SqT K H a1 xs ∧ SqT K H a2 ys ∧ zs.length ≤ sizeLine)
    (hs : ∀ i x y zs H p, xs[i]? = some x → ys[i]? = some y → Pv i zs H → H p = none → g (.ref p) (List.replicate n none ++ σ) (upd H p (.tup [x, y])) fun σ2 H2 => tc σ2 H2 fun b H3 => if b = true then te σ2 H3 fun v H4 => Pv (i + 1) (zs ++ [v]) H4 else Pv (i + 1) zs H3)
    (hd : ∀ zs H, Pv (min xs.length ys.length) zs H → ∀ p, H p = none → Q (.ref p) (upd H p (.lst zs))) : compW n (Itz K a1 a2) g tc te σ H Q := by
  refine ⟨fun i m zs H => m = min xs.length ys.length - i ∧ i ≤ min xs.length ys.length ∧ Pv i zs H, ⟨min xs.length ys.length, by simp, Nat.zero_le _, h0⟩, ?_⟩
  rintro i m zs H ⟨rfl, hi, p⟩
  obtain ⟨q1, q2, hz⟩ := hl i zs H hi p
  by_cases hlt : i < min xs.length ys.length
  · have l1 : i < xs.length := by omega
    have l2 : i < ys.length := by omega
    refine .inr ⟨⟨xs, ys, xs[i], ys[i], q1, q2, by simp [l1], by simp [l2]⟩, hz, Pv (i + 1), fun zs' H' p' => ⟨min xs.length ys.length - (i + 1), by omega, rfl, hlt, p'⟩, fun v H' y => ?_⟩
    obtain ⟨a, x, y, rfl, ha, rfl, hx, hy⟩ := y
    exact hs i x y zs H a (hx xs q1) (hy ys q2) p ha
  · have e : i = min xs.length ys.length := by omega
    subst e
    exact .inl ⟨⟨xs, ys, q1, q2, by omega⟩, hz, hd zs H p⟩
end

/-! ### built-ins: all of bools, sorted of texts -/
section
variable {X : Cx}
theorem all_range (bs : List Bool) : ((List.range bs.length).all fun i => (bs[i]?).getD true) = bs.all id := by
  rw [Bool.eq_iff_iff]
  simp only [List.all_eq_true, List.mem_range, id]
  constructor
  · intro h b hb
    obtain ⟨i, hi, rfl⟩ := List.mem_iff_getElem.mp hb
    simpa [hi] using h i hi
  · intro h i hi
    simp only [hi, List.getElem?_eq_getElem, Option.getD_some]
    exact h _ (List.getElem_mem hi)
theorem call_all (hc : X.calm = true) : CallR X (.builtin "all") (fun xs H Q => ∃ (l : Addr) (bs : List Bool), xs = [.ref l] ∧ SqL X.K H l (bs.map V.bl) ∧ Q (.bl (bs.all id)) H) := by
  intro pins s σ H vs us Q I r h
  obtain ⟨l, bs, rfl, hq, q⟩ := h
  cases r with
  | cons r rr =>
    cases rr
    cases r
    obtain ⟨its, rv, p, _⟩ := I.list hq
    have pl := p.isList
    have hlt : l < s.heap.objs.size := by obtain ⟨_, e, _⟩ := pl; exact Heap.lt_size e
    refine call_all_walk (wpAny_pyIter_list pl ?_)
    refine ⟨s.heap.objs.size, [s.heap.objs.size, l], [s.heap.objs.size], its.toArray.size, _, _, fun i => (bs[i]?).getD true, rfl, Walks.list (A := X.A.in1) (I.ok.hd hc) _ l (Nat.ne_of_lt hlt) its.toArray, ⟨⟨_, Heap.get?_push_size _ rfl, rfl, rfl⟩, pl.push _⟩, fun i v s' Q' E' hP hQ => ?_, fun h' tk hk => ?_⟩
    · have hP' : its[i]? = some v := by simpa using hP
      have hi : i < (bs.map V.bl).length := by rw [rv.length]; exact (List.getElem?_eq_some_iff.mp hP').1
      obtain ⟨u, hu, ru⟩ := rv.get (i := i) (x := (bs.map V.bl)[i]) (by simp [hi])
      rw [hP'] at hu
      cases hu
      rw [List.length_map] at hi
      simp only [List.getElem_map] at ru
      obtain rfl : v = Value.bool bs[i] := ru
      have hQ' := hQ
      simp only [hi, List.getElem?_eq_getElem, Option.getD_some] at hQ'
      exact wpAny_truthy_bool hQ'
    · have e : ((List.range its.toArray.size).all fun i => (bs[i]?).getD true) = bs.all id := by
        rw [List.size_toArray, ← rv.length, List.length_map]; exact all_range bs
      rw [e]
      exact ⟨.bl _, H, I.kept fun b o e => hk b o (fun hm => by rw [List.mem_singleton.mp hm] at e; exact Nat.lt_irrefl _ (Heap.lt_size e)) (Heap.get?_push_of_some _ e), rfl, q⟩
theorem strs_are : ∀ {ss : List Str} {us : List Value}, Vals (ss.map V.str) us → StrsAre us ss
  | [], _, h => by cases h; exact .nil
  | s :: ss, _, h => by
    cases h with
    | cons r t =>
      obtain ⟨u, rfl⟩ := r
      exact .cons _ _ (strs_are t)
theorem vals_strs : ∀ {ss : List Str} {us : List Value}, StrsAre us ss → Vals (ss.map V.str) us
  | _, _, .nil => .nil
  | _, _, .cons _ t h => .cons ⟨t, rfl⟩ (vals_strs h)
theorem call_sortedS : CallR X (.builtin "sorted") (fun xs H Q => ∃ (l : Addr) (ss : List Str), xs = [.ref l] ∧ SqL X.K H l (ss.map V.str) ∧ ss.length < 64 ∧ ∀ ss' p, ss'.Perm ss → sortedS ss' = true → H p = none → Q (.ref p) (upd H p (.lst (ss'.map V.str)))) := by
  intro pins s σ H vs us Q I r h
  obtain ⟨l, ss, rfl, hq, h64, q⟩ := h
  cases r with
  | cons r rr =>
    cases rr
    cases r
    obtain ⟨its, rv, p, _⟩ := I.list hq
    have hl := rv.length
    rw [List.length_map] at hl
    refine sorted_strs p.isList (strs_are rv) (by omega) fun out ss' h1 h2 h3 => ?_
    have ge : s.heap.objs.size ≤ s.heap.objs.size + 1 := Nat.le_succ _
    have nn : H (s.heap.objs.size + 1) = none := I.hok.fresh ge
    obtain ⟨e, he⟩ := sortedAll_at s.heap its out
    refine ⟨.ref _, _, I.laid (t' := s.toks) (o := .lst (ss'.map V.str)) (fun b o k => sortedAll_old k) ge ⟨?_, out.toList, e, vals_strs h1, by simpa [seqObj] using he⟩, rfl, q ss' _ h2 h3 nn⟩
    rw [List.length_map, h2.length_eq]
    exact Nat.le_trans (Nat.le_of_lt h64) (by decide)
theorem op_le_str : OpR X (compareOp .LtE) (fun x y H Q => ∃ i j, x = .str i ∧ y = .str j ∧ Q (.bl (!decide (j.cps.toList < i.cps.toList))) H) := by
  intro pins s σ H x y v u Q I rx ry h
  obtain ⟨i, j, rfl, rfl, q⟩ := h
  obtain ⟨t, rfl⟩ := rx
  obtain ⟨t', rfl⟩ := ry
  exact P.le_str ⟨.bl _, H, I, rfl, q⟩
end
end L2

set_option Elab.async false
set_option linter.all false
set_option maxRecDepth 100000
namespace L2
open PySem PySem.Spec PyProof.Rows

/-! ### data that stands in the abstract heap -/
/-- the pairs of a dict whose values are scalars -/
def scalD : V → Option PyData
  | .non => some .none
  | .bl b => some (.bool b)
  | .int i => some (.int i)
  | .str x => some (.str x)
  | _ => none
def keyD : Key → PyData
  | .inl i => .int i
  | .inr x => .str x
def pairsD : List (Key × V) → Option (List (PyData × PyData))
  | [] => some []
  | (k, v) :: r => match scalD v, pairsD r with
    | some d, some ds => some ((keyD k, d) :: ds)
    | _, _ => none
mutual
def Rep (H : Hp) : PyData → V → Prop
  | .none, v => v = .non
  | .bool b, v => v = .bl b
  | .int i, v => v = .int i
  | .str x, v => v = .str x
  | .tuple ds, v => ∃ a vs, v = .ref a ∧ H a = some (.tup vs) ∧ Reps H ds vs
  | .list ds, v => ∃ a vs, v = .ref a ∧ H a = some (.lst vs) ∧ Reps H ds vs
  | .dict kvs, v => ∃ a ks, v = .ref a ∧ H a = some (.dK ks) ∧ pairsD ks = some kvs
def Reps (H : Hp) : List PyData → List V → Prop
  | [], vs => vs = []
  | d :: ds, vs => ∃ w ws, vs = w :: ws ∧ Rep H d w ∧ Reps H ds ws
end
/-! made of texts, numbers and tuples alone -/
mutual
def flatT : PyData → Bool
  | .none | .bool _ | .int _ | .str _ => true
  | .tuple ds => flatTs ds
  | .list _ | .dict _ => false
def flatTs : List PyData → Bool
  | [] => true
  | d :: ds => flatT d && flatTs ds
end
/-! all that was tracked stays: data stays -/
mutual
theorem Rep.same {H H' : Hp} (s : Same H H') : ∀ {d : PyData} {v : V}, Rep H d v → Rep H' d v
  | .none, _, h => h
  | .bool _, _, h => h
  | .int _, _, h => h
  | .str _, _, h => h
  | .tuple ds, _, ⟨a, vs, e, h, r⟩ => ⟨a, vs, e, s _ _ h, Reps.same s r⟩
  | .list ds, _, ⟨a, vs, e, h, r⟩ => ⟨a, vs, e, s _ _ h, Reps.same s r⟩
  | .dict _, _, ⟨a, ks, e, h, r⟩ => ⟨a, ks, e, s _ _ h, r⟩
theorem Reps.same {H H' : Hp} (s : Same H H') : ∀ {ds : List PyData} {vs : List V}, Reps H ds vs → Reps H' ds vs
  | [], _, h => h
  | _ :: _, _, ⟨w, ws, e, h, r⟩ => ⟨w, ws, e, Rep.same s h, Reps.same s r⟩
end
theorem Reps.length {H : Hp} : ∀ {ds : List PyData} {vs : List V}, Reps H ds vs → vs.length = ds.length
  | [], _, h => by cases h; rfl
  | _ :: ds, _, ⟨w, ws, e, _, r⟩ => by rw [e, List.length_cons, List.length_cons, Reps.length r]
theorem Reps.get {H : Hp} : ∀ {ds : List PyData} {vs : List V} {i : Nat} {v : V}, Reps H ds vs → vs[i]? = some v → ∃ d, ds[i]? = some d ∧ Rep H d v
  | [], _, i, v, h, e => by cases h; simp at e
  | d :: ds, _, 0, v, ⟨w, ws, e0, h, r⟩, e => by subst e0; simp at e; subst e; exact ⟨d, rfl, h⟩
  | d :: ds, _, i + 1, v, ⟨w, ws, e0, h, r⟩, e => by
    subst e0
    obtain ⟨u, e1, e2⟩ := Reps.get (i := i) r (by simpa using e)
    exact ⟨u, by simpa using e1, e2⟩
theorem Reps.get' {H : Hp} : ∀ {ds : List PyData} {vs : List V} {i : Nat} {d : PyData}, Reps H ds vs → ds[i]? = some d → ∃ v, vs[i]? = some v ∧ Rep H d v
  | [], _, i, v, h, e => by simp at e
  | d :: ds, _, 0, v, ⟨w, ws, e0, h, r⟩, e => by subst e0; simp at e; subst e; exact ⟨w, rfl, h⟩
  | d :: ds, _, i + 1, v, ⟨w, ws, e0, h, r⟩, e => by
    subst e0
    obtain ⟨u, e1, e2⟩ := Reps.get' (i := i) r (by simpa using e)
    exact ⟨u, by simpa using e1, e2⟩
theorem Reps.append {H : Hp} : ∀ {ds es : List PyData} {vs us : List V}, Reps H ds vs → Reps H es us → Reps H (ds ++ es) (vs ++ us)
  | [], _, _, _, h, r => by cases h; exact r
  | d :: ds, _, _, _, ⟨w, ws, e, h, q⟩, r => by subst e; exact ⟨w, _, rfl, h, Reps.append q r⟩
theorem Reps.nil {H : Hp} : Reps H [] [] := rfl
theorem Reps.cons {H : Hp} {d : PyData} {ds : List PyData} {v : V} {vs : List V} (h : Rep H d v) (r : Reps H ds vs) : Reps H (d :: ds) (v :: vs) := ⟨v, vs, rfl, h, r⟩
theorem Reps.one {H : Hp} {d : PyData} {v : V} (h : Rep H d v) : Reps H [d] [v] := .cons h .nil
theorem Reps.take {H : Hp} : ∀ {ds : List PyData} {vs : List V} (n : Nat), Reps H ds vs → Reps H (ds.take n) (vs.take n)
  | [], _, n, h => by cases h; simp [Reps]
  | d :: ds, _, 0, ⟨w, ws, e, h, r⟩ => by subst e; exact rfl
  | d :: ds, _, n + 1, ⟨w, ws, e, h, r⟩ => by subst e; exact .cons h (Reps.take n r)
theorem Reps.drop {H : Hp} : ∀ {ds : List PyData} {vs : List V} (n : Nat), Reps H ds vs → Reps H (ds.drop n) (vs.drop n)
  | [], _, n, h => by cases h; simp [Reps]
  | d :: ds, _, 0, h => h
  | d :: ds, _, n + 1, ⟨w, ws, e, h, r⟩ => by subst e; exact Reps.drop n r
theorem Reps.strs {H : Hp} : ∀ (ss : List Str), Reps H (ss.map .str) (ss.map V.str)
  | [] => rfl
  | s :: ss => .cons rfl (Reps.strs ss)
theorem Reps.strs_inv {H : Hp} : ∀ {ss : List Str} {vs : List V}, Reps H (ss.map .str) vs → vs = ss.map V.str
  | [], _, h => h
  | s :: ss, _, ⟨w, ws, e, h, r⟩ => by
    subst e
    have h' : w = .str s := h
    rw [h', Reps.strs_inv r]; rfl
theorem Rep.ofTup {H : Hp} {a : Addr} {vs : List V} {ds : List PyData} (h : H a = some (.tup vs)) (r : Reps H ds vs) : Rep H (.tuple ds) (.ref a) := ⟨a, vs, rfl, h, r⟩
theorem Rep.ofLst {H : Hp} {a : Addr} {vs : List V} {ds : List PyData} (h : H a = some (.lst vs)) (r : Reps H ds vs) : Rep H (.list ds) (.ref a) := ⟨a, vs, rfl, h, r⟩

/-! ### .. stands in the heap -/
theorem scal_reads {h : Heap} {v : V} {u : Value} {d : PyData} (e : scalD v = some d) (r : RelV v u) : Reads h u d [] := by
  cases v with
  | non => cases e; cases r; exact .none
  | bl b => cases e; cases r; exact .bool b
  | int i => cases e; obtain ⟨t, rfl⟩ := r; exact .int i t
  | str x => cases e; obtain ⟨t, rfl⟩ := r; exact .str x t
  | _ => cases e
theorem key_reads {h : Heap} {k : Key} {u : Value} (e : keyIs k u = true) : Reads h u (keyD k) [] := by
  rcases keyIs_shape e with ⟨i, t, rfl, rfl⟩ | ⟨x, t, rfl, rfl⟩
  · exact .int i t
  · exact .str x t
theorem pairs_reads {P : Program} {w : World} {h : Heap} : ∀ {ks : List (Key × V)} {vs : List (Key × Value)} {es : List DictEntry} {kvs : List (PyData × PyData)}, pairsD ks = some kvs → KV ks vs → Pairs (mixKind P w) es vs →
    ReadsAll h (es.map (·.key)) (kvs.map (·.1)) [] ∧ ReadsAll h (es.map (·.val)) (kvs.map (·.2)) []
  | [], _, es, kvs, e, r, p => by
    cases e
    cases r
    cases es with
    | nil => exact ⟨.nil, .nil⟩
    | cons _ _ => exact (by cases p)
  | (k, v) :: ks, _, es, kvs, e, r, p => by
    cases r with
    | cons r1 r2 =>
      rename_i q vs'
      obtain ⟨k', u⟩ := q
      obtain ⟨e1, e2⟩ := r1
      simp only at e1 e2
      subst e1
      cases p with
      | cons hk hv hr =>
        unfold pairsD at e
        cases e1 : scalD v with
        | none => rw [e1] at e; cases e
        | some d =>
          cases e3 : pairsD ks with
          | none => rw [e1, e3] at e; cases e
          | some ds =>
            rw [e1, e3] at e
            cases e
            obtain ⟨z1, z2⟩ := pairs_reads e3 r2 hr
            exact ⟨.cons (as := []) (bs := []) (key_reads hk) z1, .cons (as := []) (bs := []) (by show Reads h (DictEntry.val _) d []; rw [hv]; exact scal_reads e1 e2) z2⟩
section
variable {X : Cx} {pins : List (Addr × Obj)} {σ : St} {H : Hp} {s : Shared}
mutual
theorem Rep.reads (I : Inv X pins σ H s) : ∀ {d : PyData} {v : V} {u : Value}, Rep H d v → RelV v u → ∃ as, Reads s.heap u d as
  | .none, _, u, h, r => by cases h; cases r; exact ⟨_, .none⟩
  | .bool b, _, u, h, r => by cases h; cases r; exact ⟨_, .bool b⟩
  | .int i, _, u, h, r => by cases h; obtain ⟨t, rfl⟩ := r; exact ⟨_, .int i t⟩
  | .str x, _, u, h, r => by cases h; obtain ⟨t, rfl⟩ := r; exact ⟨_, .str x t⟩
  | .tuple ds, _, u, ⟨a, vs, e, h, q⟩, r => by
    subst e
    cases r
    obtain ⟨_, its, rv, o, ho, hc, n, hd⟩ := I.hok a _ h
    obtain ⟨as, z⟩ := Reps.reads I q rv
    exact ⟨_, .tuple ho hc hd (by simpa using z)⟩
  | .list ds, _, u, ⟨a, vs, e, h, q⟩, r => by
    subst e
    cases r
    obtain ⟨_, its, n, rv, ho⟩ := I.hok a _ h
    obtain ⟨as, z⟩ := Reps.reads I q rv
    exact ⟨_, .list ho rfl rfl (by simpa using z)⟩
  | .dict kvs, _, u, ⟨a, ks, e, h, q⟩, r => by
    subst e
    cases r
    obtain ⟨_, _, vs, rk, o, es, ep, ho, hx, hd, _, hp, _⟩ := I.hok a _ h
    obtain ⟨z1, z2⟩ := pairs_reads (P := X.prog) (w := X.w) (h := s.heap) q rk hp
    exact ⟨_, .dict ho hx.1 hd z1 z2⟩
theorem Reps.reads (I : Inv X pins σ H s) : ∀ {ds : List PyData} {vs : List V} {us : List Value}, Reps H ds vs → Vals vs us → ∃ as, ReadsAll s.heap us ds as
  | [], _, us, h, r => by cases h; cases r; exact ⟨_, .nil⟩
  | d :: ds, _, us, ⟨w, ws, e, h, q⟩, r => by
    subst e
    cases r with
    | cons r1 r2 =>
      obtain ⟨as, z⟩ := Rep.reads I h r1
      obtain ⟨bs, y⟩ := Reps.reads I q r2
      exact ⟨_, .cons z y⟩
end
end

/-! ### ==, !=, in, not in, repr of data -/
section
variable {X : Cx} {k : Nat}
def dOk (d : PyData) : Bool := d.canLay0 && decide (d.depth ≤ 40)
theorem dOk.lay {d : PyData} (h : dOk d = true) : d.canLay0 = true := (Bool.and_eq_true_iff.mp h).1
theorem dOk.dep {d : PyData} (h : dOk d = true) : d.depth ≤ 40 := of_decide_eq_true (Bool.and_eq_true_iff.mp h).2
def rEqD : R2 := fun x y H Q => ∃ d e, Rep H d x ∧ Rep H e y ∧ dOk d = true ∧ dOk e = true ∧ Q (.bl (PyData.eqv d e)) H
def rNeD : R2 := fun x y H Q => ∃ d e, Rep H d x ∧ Rep H e y ∧ dOk d = true ∧ dOk e = true ∧ Q (.bl (!PyData.eqv d e)) H
theorem op_eqD (hr : Room k X.A) : OpR X (compareOp .Eq) rEqD := by
  intro pins s σ H x y v u Q I rx ry h
  obtain ⟨d, e, h1, h2, o1, o2, q⟩ := h
  obtain ⟨as, z⟩ := Rep.reads I h1 rx
  obtain ⟨bs, y'⟩ := Rep.reads I h2 ry
  exact SeqAt.compareEq_reads z y' (dOk.lay o1) (dOk.lay o2) (by have := dOk.dep o1; have := hr.units; omega) ⟨.bl _, H, I, rfl, q⟩
theorem op_neD (hr : Room k X.A) : OpR X (compareOp .NotEq) rNeD := by
  intro pins s σ H x y v u Q I rx ry h
  obtain ⟨d, e, h1, h2, o1, o2, q⟩ := h
  obtain ⟨as, z⟩ := Rep.reads I h1 rx
  obtain ⟨bs, y'⟩ := Rep.reads I h2 ry
  exact SeqAt.compareNe_reads z y' (dOk.lay o1) (dOk.lay o2) (by have := dOk.dep o1; have := hr.units; omega) ⟨.bl _, H, I, rfl, q⟩
/-- x in t, t a tuple of data -/
def rInT (neg : Bool) : R2 := fun x y H Q => ∃ d ds, Rep H d x ∧ Rep H (.tuple ds) y ∧ dOk d = true ∧ dOk (.tuple ds) = true ∧ Q (.bl (xor neg (ds.any fun e => PyData.eqv e d))) H
def rInL (neg : Bool) : R2 := fun x y H Q => ∃ d ds, Rep H d x ∧ Rep H (.list ds) y ∧ dOk d = true ∧ dOk (.list ds) = true ∧ Q (.bl (xor neg (ds.any fun e => PyData.eqv e d))) H
theorem inRoom {A : Around} {d : PyData} {ds : List PyData} (hr : Room k A) (h : dOk d = true) : A.units + 1 + min (PyData.depthAll ds) d.depth < cLine := by
  have := dOk.dep h
  have := hr.units
  omega
theorem op_inT (hr : Room k X.A) : OpR X (compareOp .In) (rInT false) := by
  intro pins s σ H x y v u Q I rx ry h
  obtain ⟨d, ds, h1, h2, o1, o2, q⟩ := h
  obtain ⟨as, z⟩ := Rep.reads I h1 rx
  obtain ⟨bs, y'⟩ := Rep.reads I h2 ry
  have l2 : PyData.canLayAll0 ds = true := by have := dOk.lay o2; simpa [PyData.canLay0] using this
  exact SeqAt.in_tuple_reads y' z l2 (dOk.lay o1) (inRoom hr o1) ⟨.bl _, H, I, rfl, by simpa using q⟩
theorem op_ninT (hr : Room k X.A) : OpR X (compareOp .NotIn) (rInT true) := by
  intro pins s σ H x y v u Q I rx ry h
  obtain ⟨d, ds, h1, h2, o1, o2, q⟩ := h
  obtain ⟨as, z⟩ := Rep.reads I h1 rx
  obtain ⟨bs, y'⟩ := Rep.reads I h2 ry
  have l2 : PyData.canLayAll0 ds = true := by have := dOk.lay o2; simpa [PyData.canLay0] using this
  exact SeqAt.notIn_tuple_reads y' z l2 (dOk.lay o1) (inRoom hr o1) ⟨.bl _, H, I, rfl, by simpa using q⟩
theorem op_inL (hr : Room k X.A) : OpR X (compareOp .In) (rInL false) := by
  intro pins s σ H x y v u Q I rx ry h
  obtain ⟨d, ds, h1, h2, o1, o2, q⟩ := h
  obtain ⟨as, z⟩ := Rep.reads I h1 rx
  obtain ⟨bs, y'⟩ := Rep.reads I h2 ry
  have l2 : PyData.canLayAll0 ds = true := by have := dOk.lay o2; simpa [PyData.canLay0] using this
  exact SeqAt.in_list_reads y' z l2 (dOk.lay o1) (inRoom hr o1) ⟨.bl _, H, I, rfl, by simpa using q⟩
theorem op_ninL (hr : Room k X.A) : OpR X (compareOp .NotIn) (rInL true) := by
  intro pins s σ H x y v u Q I rx ry h
  obtain ⟨d, ds, h1, h2, o1, o2, q⟩ := h
  obtain ⟨as, z⟩ := Rep.reads I h1 rx
  obtain ⟨bs, y'⟩ := Rep.reads I h2 ry
  have l2 : PyData.canLayAll0 ds = true := by have := dOk.lay o2; simpa [PyData.canLay0] using this
  exact SeqAt.notIn_list_reads y' z l2 (dOk.lay o1) (inRoom hr o1) ⟨.bl _, H, I, rfl, by simpa using q⟩
/-- repr(x) -/
def rRepr : List V → Hp → VK → Prop := fun xs H Q => ∃ d v, xs = [v] ∧ Rep H d v ∧ d.showable = true ∧ dOk d = true ∧ d.shown.length ≤ sizeLine ∧ Q (.str d.shown) H
theorem call_repr (hr : Room k X.A) : CallR X (.builtin "repr") rRepr := by
  intro pins s σ H vs us Q I r h
  obtain ⟨d, v, rfl, h1, hs, o, hz, q⟩ := h
  cases r with
  | cons r rr =>
    cases rr
    rename_i u
    obtain ⟨as, z⟩ := Rep.reads I h1 r
    have big : ∀ {a : Addr}, u = .ref a → wpAny (model X.prog X.w) X.A (call (.builtin "repr") [u]) (EP X pins σ Q) X.xe s := fun {a} e => by
      subst e
      refine repr_of_reads' z hs (fun hd => ?_) hr.gd (by have := dOk.dep o; have := hr.units; omega) (fun _ _ e => e) (fun h' t tk hk => ⟨.str _, H, I.kept hk, ⟨_, rfl⟩, q⟩) hz
      rw [PyData.hasDict_of_canLay d (dOk.lay o)] at hd
      cases hd
    cases d with
    | none => cases h1; cases r; exact PySem.P.repr_of_none ⟨.str _, H, I.tok _, ⟨_, rfl⟩, by simpa [PyData.shown] using q⟩
    | bool b => cases h1; cases r; exact PySem.P.repr_of_bool ⟨.str _, H, I.tok _, ⟨_, rfl⟩, by simpa [PyData.shown] using q⟩
    | int i =>
      cases h1
      obtain ⟨t, rfl⟩ := r
      exact PySem.P.repr_of_int (by simpa [PyData.showable] using hs) ⟨.str _, H, I.tok _, ⟨_, rfl⟩, by simpa [PyData.shown] using q⟩
    | str x =>
      cases h1
      obtain ⟨t, rfl⟩ := r
      exact PySem.P.repr_of_str ⟨.str _, H, I.tok _, ⟨_, rfl⟩, by simpa [PyData.shown] using q⟩ (by simpa [PyData.shown] using hz)
    | tuple ds =>
      obtain ⟨a, vs, rfl, _, _⟩ := h1
      exact big r
    | list ds =>
      obtain ⟨a, vs, rfl, _, _⟩ := h1
      exact big r
    | dict ds => exact absurd o (by simp [dOk, PyData.canLay0])
/-- repr of a dict of scalars -/
def rReprK : List V → Hp → VK → Prop := fun xs H Q => ∃ kvs v, xs = [v] ∧ Rep H (.dict kvs) v ∧ (PyData.dict kvs).showable = true ∧ (PyData.dict kvs).depth ≤ 20 ∧ (PyData.dict kvs).shown.length ≤ sizeLine ∧ Q (.str (PyData.dict kvs).shown) H
theorem call_reprK (hr : Room k X.A) : CallR X (.builtin "repr") rReprK := by
  intro pins s σ H vs us Q I r h
  obtain ⟨kvs, v, rfl, h1, hs, hd, hz, q⟩ := h
  obtain ⟨a, ks, rfl, ha, e⟩ := h1
  cases r with
  | cons r rr =>
    cases rr
    cases r
    obtain ⟨_, ne, vs, rk, o, es, ep, ho, hx, hdd, _, hp, _⟩ := I.hok a _ ha
    obtain ⟨z1, z2⟩ := pairs_reads (P := X.prog) (w := X.w) (h := s.heap) e rk hp
    refine repr_of_reads' (Reads.dict ho hx.1 hdd z1 z2) hs (fun _ hm => ?_) hr.gd (by have := hr.units; omega) (fun _ _ e => e) (fun h' t tk hk => ⟨.str _, H, I.kept hk, ⟨_, rfl⟩, q⟩) hz
    have : sysModules = a := by simpa using hm
    rw [← this] at ne
    simp at ne
/-- isinstance(x, T), T a built-in type -/
def tyD : PyData → String
  | .none => "NoneType"
  | .bool _ => "bool"
  | .int _ => "int"
  | .str _ => "str"
  | .tuple _ => "tuple"
  | .list _ => "list"
  | .dict _ => "dict"
theorem Rep.ty {H : Hp} {K : PySem.W.Frag} {d : PyData} {v : V} (h : Rep H d v) : TyOf K H v (.type (tyD d)) := by
  cases d with
  | none => cases h; exact .non
  | bool b => cases h; exact .bl b
  | int i => cases h; exact .int i
  | str x => cases h; exact .str x
  | tuple ds => obtain ⟨a, vs, rfl, e, _⟩ := h; exact .tup e
  | list ds => obtain ⟨a, vs, rfl, e, _⟩ := h; exact .lst e
  | dict ds => obtain ⟨a, ks, rfl, e, _⟩ := h; exact .dK e
theorem call_isi : CallR X (.builtin "isinstance") (fun xs H Q => ∃ x n t b, xs = [x, .ty n] ∧ TyOf X.K H x t ∧ PySem.W.kitOne X.K t (.type n) = some b ∧ Q (.bl b) H) := by
  intro pins s σ H vs us Q I r h
  obtain ⟨x, n, t, b, rfl, ty, e, q⟩ := h
  cases r with
  | cons r rr =>
    cases rr with
    | cons r' rr =>
      cases rr
      cases r'
      exact isinst_ok I r ty e fun tk => ⟨.bl b, H, I.tok _, rfl, q⟩
theorem kit_tuple (K : PySem.W.Frag) (d : PyData) : PySem.W.kitOne K (.type (tyD d)) (.type "tuple") = some (match d with | .tuple _ => true | _ => false) := by
  cases d <;> first | rfl | decide
theorem kit_str (K : PySem.W.Frag) (d : PyData) : PySem.W.kitOne K (.type (tyD d)) (.type "str") = some (match d with | .str _ => true | _ => false) := by
  cases d <;> first | rfl | decide
end
end L2

set_option Elab.async false
set_option linter.all false
set_option maxRecDepth 100000
namespace L2
open PySem PySem.Spec PyProof.Rows

/-! ### a def of the text that keeps its promise -/
structure HasFn (P : Program) (w : World) (K : PySem.W.Frag) (mg : Str → Option Value) (base : Heap) (x : Str) (ps : List Str) (k : Nat) (sp : Sp) : Prop where
  ex : ∃ (f : Addr) (fd : FuncData), mg x = some (.ref f) ∧ PySem.W.keepIn K (.ref f) = true ∧ Binds K fd ps [] ∧ FnOk P w K mg base CX0 k f fd ps sp
theorem HasFn.mono {P : Program} {w : World} {K : PySem.W.Frag} {mg : Str → Option Value} {base : Heap} {x : Str} {ps : List Str} {j k : Nat} {sp : Sp} (F : HasFn P w K mg base x ps j sp) (h : j ≤ k) : HasFn P w K mg base x ps k sp :=
  let ⟨f, fd, a, b, c, d⟩ := F.ex
  ⟨f, fd, a, b, c, d.mono h⟩
section
variable {X : Cx} {x : Str} {ps : List Str} {k : Nat} {sp : Sp} {e : Expr} {es : List Expr} {t : TA} {p pos : Pos}
theorem pe_fn (F : HasFn X.prog X.w X.K X.mg X.base x ps k sp) (hr : Room k X.A) (hg : Gl X x) (ha : PA X (e :: es) t) (hdb : (x == ("__debug__" : Str)) = false := by decide) (he : starEach (e :: es) X.env = (false, eval e X.env) :: starEach es X.env := by rfl)
    (hpl : (backTo pos (starEach es X.env)).any (·.1) = false := by rfl) : PE X (.Call (.Name x p) (e :: es) [] pos) (tCall sp [] E0 t) := by
  obtain ⟨f, fd, h1, h2, h3, h4⟩ := F.ex
  exact pe_call h4 hr hg h1 h2 h3 .nil pass0 ha hdb he hpl
theorem pe_fn0 (F : HasFn X.prog X.w X.K X.mg X.base x ps k sp) (hr : Room k X.A) (hg : Gl X x) (hdb : (x == ("__debug__" : Str)) = false := by decide) : PE X (.Call (.Name x p) [] [] pos) (tCall sp [] E0 tNil) := by
  obtain ⟨f, fd, h1, h2, h3, h4⟩ := F.ex
  exact pe_call0 h4 hr hg h1 h2 h3 .nil pass0 hdb
end

theorem Same.upd {H H' : Hp} {p : Addr} {o : HO} (s : Same H H') (hp : H' p = none) : Same H (upd H' p o) := fun b u e => by rw [upd_ne (ne_of_none (s b u e) hp)]; exact s b u e
theorem Same.new {H : Hp} {p : Addr} {o : HO} (hp : H p = none) : Same H (L2.upd H p o) := (Same.refl H).upd hp
/-- a name of a comprehension's own -/
theorem pg_c {X : Cx} (i : Nat) {x : Str} {pos : Pos} (hN : X.N.Nodup) (hi : X.N[i]? = some x) (hx : Loc X.env.scope x) (hf : X.fn x = true) : PG X (.Name x pos) (gName i) := pg_name hN hi hx (Or.inl hf)
/-- two names of a comprehension's own -/
theorem pg_pair {X : Cx} (K : PySem.W.Frag) (i j : Nat) {x y : Str} {px py tpos : Pos} {kk : Nat} (hN : X.N.Nodup) (hK : X.K = K) (hc : X.calm = true) (hi : X.N[i]? = some x) (hj : X.N[j]? = some y) (hx : Loc X.env.scope x) (hy : Loc X.env.scope y) (fx : X.fn x = true) (fy : X.fn y = true)
    (h1 : (assignEach [.Name x px, .Name y py] X.env).map (·.2) = [assign (.Name x px) X.env, assign (.Name y py) X.env] := by rfl) (h2 : (assignEach [.Name y py] X.env).map (·.2) = [assign (.Name y py) X.env] := by rfl) (h0 : (assignEach [] X.env).map (·.2) = [] := by rfl)
    (hn : (assignEach [.Name x px, .Name y py] X.env).length = 2 := by rfl) (hst : (assignEach [.Name x px, .Name y py] X.env).findIdx? (·.1) = none := by rfl) :
    PG X (.Tuple [.Name x px, .Name y py] kk tpos) (gTup K 2 (gCons (gName i) (gCons (gName j) gNil))) := by
  subst hK
  exact pg_tup (n := 2) hc (pgs_cons (pg_c i hN hi hx fx) (pgs_cons (pg_c j hN hj hy fy) pgs_nil (by rw [h2, h0])) (by rw [h1, h2])) hn hst
/-! ### comprehensions without a test -/
section
variable {g : TG} {te : TE} {σ : St} {H : Hp} {Q : VK} {n : Nat}
theorem comp_str0 {x : Str} (Pv : Nat → List V → Hp → Prop) (h0 : Pv 0 [] H) (hl : ∀ i ys H, i ≤ x.cps.size → Pv i ys H → ys.length ≤ sizeLine)
    (hs : ∀ i ys H, i < x.cps.size → Pv i ys H → g (sgn x i) (List.replicate n none ++ σ) H fun σ2 H2 => te σ2 H2 fun y H4 => Pv (i + 1) (ys ++ [y]) H4)
    (hd : ∀ ys H, Pv x.cps.size ys H → ∀ p, H p = none → Q (.ref p) (upd H p (.lst ys))) : compW n (Its x) g tYes te σ H Q := comp_str Pv h0 hl hs hd
theorem comp_range0 {lo : Int} {N : Nat} (Pv : Nat → List V → Hp → Prop) (h0 : Pv 0 [] H) (hl : ∀ i ys H, i ≤ N → Pv i ys H → ys.length ≤ sizeLine)
    (hs : ∀ i ys H, i < N → Pv i ys H → g (.int (lo + i)) (List.replicate n none ++ σ) H fun σ2 H2 => te σ2 H2 fun y H4 => Pv (i + 1) (ys ++ [y]) H4)
    (hd : ∀ ys H, Pv N ys H → ∀ p, H p = none → Q (.ref p) (upd H p (.lst ys))) : compW n (Itr lo N) g tYes te σ H Q := comp_range Pv h0 hl hs hd
theorem comp_tup0 {K : PySem.W.Frag} {a : Addr} {xs : List V} (Pv : Nat → List V → Hp → Prop) (h0 : Pv 0 [] H) (hl : ∀ i ys H, i ≤ xs.length → Pv i ys H → SqT K H a xs ∧ ys.length ≤ sizeLine)
    (hs : ∀ i x ys H, xs[i]? = some x → Pv i ys H → g x (List.replicate n none ++ σ) H fun σ2 H2 => te σ2 H2 fun y H4 => Pv (i + 1) (ys ++ [y]) H4)
    (hd : ∀ ys H, Pv xs.length ys H → ∀ p, H p = none → Q (.ref p) (upd H p (.lst ys))) : compW n (Itt K a) g tYes te σ H Q := comp_tup Pv h0 hl hs hd
theorem comp_list0 {K : PySem.W.Frag} {a : Addr} {xs : List V} (Pv : Nat → List V → Hp → Prop) (h0 : Pv 0 [] H) (hl : ∀ i ys H, i ≤ xs.length → Pv i ys H → SqL K H a xs ∧ ys.length ≤ sizeLine)
    (hs : ∀ i x ys H, xs[i]? = some x → Pv i ys H → g x (List.replicate n none ++ σ) H fun σ2 H2 => te σ2 H2 fun y H4 => Pv (i + 1) (ys ++ [y]) H4)
    (hd : ∀ ys H, Pv xs.length ys H → ∀ p, H p = none → Q (.ref p) (upd H p (.lst ys))) : compW n (Itl K a) g tYes te σ H Q := comp_list Pv h0 hl hs hd
theorem comp_zip0 {K : PySem.W.Frag} {a1 a2 : Addr} {xs ys : List V} (Pv : Nat → List V → Hp → Prop) (h0 : Pv 0 [] H) (hl : ∀ i zs H, i ≤ min xs.length ys.length → Pv i zs H → SqT K H a1 xs ∧ SqT K H a2 ys ∧ zs.length ≤ sizeLine)
    (hs : ∀ i x y zs H p, xs[i]? = some x → ys[i]? = some y → Pv i zs H → H p = none → g (.ref p) (List.replicate n none ++ σ) (upd H p (.tup [x, y])) fun σ2 H2 => te σ2 H2 fun v H4 => Pv (i + 1) (zs ++ [v]) H4)
    (hd : ∀ zs H, Pv (min xs.length ys.length) zs H → ∀ p, H p = none → Q (.ref p) (upd H p (.lst zs))) : compW n (Itz K a1 a2) g tYes te σ H Q := comp_zip Pv h0 hl hs hd
end
/-! ### built-in names -/
theorem bt_isinstance : bootBuiltins "isinstance" = some (.builtin "isinstance") := by decide +kernel
theorem bt_len : bootBuiltins "len" = some (.builtin "len") := by decide +kernel
theorem bt_all : bootBuiltins "all" = some (.builtin "all") := by decide +kernel
theorem bt_repr : bootBuiltins "repr" = some (.builtin "repr") := by decide +kernel
theorem bt_sorted : bootBuiltins "sorted" = some (.builtin "sorted") := by decide +kernel
theorem bt_divmod : bootBuiltins "divmod" = some (.builtin "divmod") := by decide +kernel
theorem bt_abs : bootBuiltins "abs" = some (.builtin "abs") := by decide +kernel
theorem bt_min : bootBuiltins "min" = some (.builtin "min") := by decide +kernel
theorem bt_max : bootBuiltins "max" = some (.builtin "max") := by decide +kernel
theorem bt_str : bootBuiltins "str" = some (.type "str") := by decide +kernel
theorem bt_tuple : bootBuiltins "tuple" = some (.type "tuple") := by decide +kernel
theorem bt_list : bootBuiltins "list" = some (.type "list") := by decide +kernel
def blNames : List Str := ["isinstance", "len", "all", "repr", "sorted", "divmod", "abs", "min", "max", "str", "tuple", "list", "zip", "range"]
/-- none of the built-in names is hidden by the text -/
def Bl (mg : Str → Option Value) : Prop := ∀ x ∈ blNames, mg x = none
section
variable {X : Cx} {e e2 : Expr} {te te2 : TE} {t : TA} {p p2 pos : Pos}
/-- isinstance(e, tuple), isinstance(e, str) -/
def isTup : PyData → Bool | .tuple _ => true | _ => false
def isStr : PyData → Bool | .str _ => true | _ => false
def rIsi (n : String) (f : PyData → Bool) : List V → Hp → VK → Prop := fun xs H Q => ∃ x d, xs = [x, .ty n] ∧ Rep H d x ∧ Q (.bl (f d)) H
theorem call_isiT : CallR X (.builtin "isinstance") (rIsi "tuple" isTup) := by
  intro pins s σ H vs us Q I r ⟨x, d, e, h, q⟩
  exact call_isi pins s σ H vs us Q I r ⟨x, "tuple", _, isTup d, e, h.ty, by rw [kit_tuple]; cases d <;> rfl, q⟩
theorem call_isiS : CallR X (.builtin "isinstance") (rIsi "str" isStr) := by
  intro pins s σ H vs us Q I r ⟨x, d, e, h, q⟩
  exact call_isi pins s σ H vs us Q I r ⟨x, "str", _, isStr d, e, h.ty, by rw [kit_str]; cases d <;> rfl, q⟩
theorem pe_isiT (B : Bl X.mg) (h : PE X e te) (g1 : Gl X "isinstance" := by rfl) (g2 : Gl X "tuple" := by rfl) (hs : starEach [e, .Name "tuple" p2] X.env = (false, eval e X.env) :: starEach [.Name "tuple" p2] X.env := by rfl) (hs2 : starEach [.Name "tuple" p2] X.env = [(false, eval (.Name "tuple" p2) X.env)] := by rfl)
    (hpl : (backTo pos (starEach [.Name "tuple" p2] X.env)).any (·.1) = false := by rfl) : PE X (.Call (.Name "isinstance" p) [e, .Name "tuple" p2] [] pos) (tCB (rIsi "tuple" isTup) (tCons te (tCons (tC (.ty "tuple")) tNil))) :=
  pe_callB call_isiT g1 (B _ (by decide)) bt_isinstance (pa_cons h (pa_cons (pe_bltn (v := .ty "tuple") g2 (B _ (by decide)) bt_tuple rfl) pa_nil hs2) hs) (by decide) (by decide) hs hpl
theorem pe_isiS (B : Bl X.mg) (h : PE X e te) (g1 : Gl X "isinstance" := by rfl) (g2 : Gl X "str" := by rfl) (hs : starEach [e, .Name "str" p2] X.env = (false, eval e X.env) :: starEach [.Name "str" p2] X.env := by rfl) (hs2 : starEach [.Name "str" p2] X.env = [(false, eval (.Name "str" p2) X.env)] := by rfl)
    (hpl : (backTo pos (starEach [.Name "str" p2] X.env)).any (·.1) = false := by rfl) : PE X (.Call (.Name "isinstance" p) [e, .Name "str" p2] [] pos) (tCB (rIsi "str" isStr) (tCons te (tCons (tC (.ty "str")) tNil))) :=
  pe_callB call_isiS g1 (B _ (by decide)) bt_isinstance (pa_cons h (pa_cons (pe_bltn (v := .ty "str") g2 (B _ (by decide)) bt_str rfl) pa_nil hs2) hs) (by decide) (by decide) hs hpl
/-- len of data -/
def lenD : PyData → Nat
  | .str x => x.length
  | .tuple ds => ds.length
  | .list ds => ds.length
  | _ => 0
def rLenD : List V → Hp → VK → Prop := fun xs H Q => ∃ d v, xs = [v] ∧ Rep H d v ∧ lenD d ≤ sizeLine ∧ (match d with | .str _ => true | .tuple _ => true | .list _ => true | _ => false) = true ∧ Q (.int (lenD d)) H
theorem call_lenX : CallR X (.builtin "len") rLenD := by
  intro pins s σ H vs us Q I r ⟨d, v, e, h, hz, hd, q⟩
  subst e
  refine call_len pins s σ H _ us Q I r ⟨v, lenD d, rfl, ?_, q⟩
  cases d with
  | str x => cases h; exact ⟨hz, rfl⟩
  | tuple ds =>
    obtain ⟨a, vs, rfl, ha, rs⟩ := h
    exact .inr ⟨vs, SqT.of ha, rs.length.symm⟩
  | list ds =>
    obtain ⟨a, vs, rfl, ha, rs⟩ := h
    exact .inl ⟨vs, SqL.of ha, rs.length.symm⟩
  | none => cases hd
  | bool _ => cases hd
  | int _ => cases hd
  | dict _ => cases hd
theorem pe_lenD (B : Bl X.mg) (h : PE X e te) (g1 : Gl X "len" := by rfl) (hs : starEach [e] X.env = (false, eval e X.env) :: starEach [] X.env := by rfl) : PE X (.Call (.Name "len" p) [e] [] pos) (tCB rLenD (tCons te tNil)) :=
  pe_callB call_lenX g1 (B _ (by decide)) bt_len (pa_cons h pa_nil hs) (by decide) (by decide) hs rfl
theorem pe_all (B : Bl X.mg) (hc : X.calm = true) (h : PE X e te) (g1 : Gl X "all" := by rfl) (hs : starEach [e] X.env = (false, eval e X.env) :: starEach [] X.env := by rfl) : PE X (.Call (.Name "all" p) [e] [] pos) (tCB (fun xs H Q => ∃ (l : Addr) (bs : List Bool), xs = [.ref l] ∧ SqL X.K H l (bs.map V.bl) ∧ Q (.bl (bs.all id)) H) (tCons te tNil)) :=
  pe_callB (call_all hc) g1 (B _ (by decide)) bt_all (pa_cons h pa_nil hs) (by decide) (by decide) hs rfl
end

/-! ### written data -/
def mapO (f : Expr → Option PyData) : List Expr → Option (List PyData)
  | [] => some []
  | e :: es => match f e, mapO f es with
    | some d, some ds => some (d :: ds)
    | _, _ => none
def litD : Nat → Expr → Option PyData
  | 0, _ => none
  | n + 1, e => match e with
    | .Constant .none _ _ => some .none
    | .Constant (.bool b) _ _ => some (.bool b)
    | .Constant (.int i) _ _ => some (.int i)
    | .Constant (.str x) _ _ => some (.str x)
    | .Tuple es _ _ => if es.length ≤ 1000 then (mapO (litD n) es).map .tuple else none
    | .List es _ => if es.length ≤ 1000 then (mapO (litD n) es).map .list else none
    | .UnaryOp .USub (.Constant (.int i) _ _) _ => some (.int (-i))
    | .BinOp (.Constant (.int a) _ _) .Pow (.Constant (.int b) _ _) _ => if 0 ≤ b ∧ b ≤ 1000000 ∧ a.natAbs < 2 ^ 64 then some (.int (a ^ b.toNat)) else none
    | .Dict [] [] _ => some (.dict [])
    | .Dict [some (.Constant (.str k) _ _)] [.Constant (.int i) _ _] _ => some (.dict [(.str k, .int i)])
    | _ => none
abbrev litDs (n : Nat) (es : List Expr) : Option (List PyData) := mapO (litD n) es
/-- objects that are new between two heaps -/
def NewIn (H H' N : Hp) : Prop := ∀ c o, N c = some o → H c = none ∧ H' c = some o
def tLit (d : PyData) : TE := fun _ H Q => ∀ r H' N, Same H H' → NewIn H H' N → Rep N d r → Q r H'
def tLits (ds : List PyData) : TA := fun _ H Q => ∀ rs H' N, Same H H' → NewIn H H' N → Reps N ds rs → Q rs H'
def noHp : Hp := fun _ => none
theorem NewIn.no {H H' : Hp} : NewIn H H' noHp := fun _ _ e => by cases e
theorem NewIn.same {H H' N : Hp} (n : NewIn H H' N) : Same N H' := fun c o e => (n c o e).2
def plusHp (N M : Hp) : Hp := fun c => match N c with | some o => some o | none => M c
theorem plus_l {N M : Hp} : Same N (plusHp N M) := fun c o e => by simp only [plusHp, e]
theorem plus_r {H H1 H2 N M : Hp} (n : NewIn H H1 N) (m : NewIn H1 H2 M) : Same M (plusHp N M) := fun c o e => by
  have h1 := (m c o e).1
  cases q : N c with
  | none => simp only [plusHp, q, e]
  | some u => rw [(n c u q).2] at h1; cases h1
theorem NewIn.plus {H H1 H2 N M : Hp} (s1 : Same H H1) (s2 : Same H1 H2) (n : NewIn H H1 N) (m : NewIn H1 H2 M) : NewIn H H2 (plusHp N M) := fun c o e => by
  cases q : N c with
  | some u =>
    simp only [plusHp, q] at e
    cases e
    exact ⟨(n c _ q).1, s2 _ _ (n c _ q).2⟩
  | none =>
    simp only [plusHp, q] at e
    exact ⟨s1.free (m c o e).1, (m c o e).2⟩
theorem NewIn.put {H H1 N : Hp} {p : Addr} {o : HO} (s1 : Same H H1) (n : NewIn H H1 N) (hp : H1 p = none) : NewIn H (upd H1 p o) (upd N p o) ∧ Same N (upd N p o) := by
  have np : ∀ c u, N c = some u → c ≠ p := fun c u e z => by subst z; rw [(n c u e).2] at hp; cases hp
  refine ⟨fun c u e => ?_, fun c u e => by rw [upd_ne (np c u e)]; exact e⟩
  by_cases hc : c = p
  · subst hc
    rw [upd_same] at e
    cases e
    exact ⟨s1.free hp, upd_same⟩
  · rw [upd_ne hc] at e
    exact ⟨(n c u e).1, by rw [upd_ne hc]; exact (n c u e).2⟩
theorem litDs_length : ∀ {es : List Expr} {n : Nat} {ds : List PyData}, litDs n es = some ds → ds.length = es.length
  | [], n, ds, h => by unfold litDs mapO at h; cases h; rfl
  | e :: es, n, ds, h => by
    unfold litDs mapO at h
    split at h
    · rename_i d ds' h1 h2
      cases h
      rw [List.length_cons, List.length_cons, litDs_length h2]
    · cases h
section
variable {X : Cx}
theorem pa_lits {n : Nat} (ih : ∀ (e : Expr) (d : PyData), litD n e = some d → PE X e (tLit d) ∧ ∀ es : List Expr, starEach (e :: es) X.env = (false, eval e X.env) :: starEach es X.env) : ∀ (es : List Expr) (ds : List PyData), litDs n es = some ds → PA X es (tLits ds)
  | [], ds, h => by
    unfold litDs mapO at h
    cases h
    intro pos pins s σ H Q I q
    exact pa_nil pos pins s σ H Q I (q [] H noHp (Same.refl H) .no rfl)
  | e :: es, ds, h => by
    unfold litDs mapO at h
    split at h
    · rename_i d ds' h1 h2
      cases h
      obtain ⟨a, b⟩ := ih e d h1
      intro pos pins s σ H Q I q
      refine pa_cons a (pa_lits ih es ds' h2) (b es) pos pins s σ H Q I fun r H1 N1 s1 n1 hr rs H2 N2 s2 n2 hrs => q _ H2 _ (s1.trans s2) (n1.plus s1 s2 n2) (.cons (hr.same plus_l) (hrs.same (plus_r n1 n2)))
    · cases h
theorem pe_lit_aux : ∀ (n : Nat) (e : Expr) (d : PyData), litD n e = some d → PE X e (tLit d) ∧ ∀ es : List Expr, starEach (e :: es) X.env = (false, eval e X.env) :: starEach es X.env := by
  intro n
  induction n with
  | zero => intro e d h; unfold litD at h; cases h
  | succ n ih =>
    intro e d h
    unfold litD at h
    split at h
    · cases h; exact ⟨fun pins s σ H Q I q => pe_non pins s σ H Q I (q _ H noHp (Same.refl H) .no rfl), fun _ => rfl⟩
    · cases h; exact ⟨fun pins s σ H Q I q => pe_bl pins s σ H Q I (q _ H noHp (Same.refl H) .no rfl), fun _ => rfl⟩
    · cases h; exact ⟨fun pins s σ H Q I q => pe_int pins s σ H Q I (q _ H noHp (Same.refl H) .no rfl), fun _ => rfl⟩
    · cases h; exact ⟨fun pins s σ H Q I q => pe_str pins s σ H Q I (q _ H noHp (Same.refl H) .no rfl), fun _ => rfl⟩
    · rename_i es k' p'
      split at h
      · rename_i hl
        cases h1 : mapO (litD n) es with
        | none => rw [h1] at h; cases h
        | some ds =>
          rw [h1] at h
          cases h
          refine ⟨fun pins s σ H Q I q => pe_tup (pa_lits ih es ds h1) pins s σ H Q I fun rs H1 N1 s1 n1 hrs => ⟨?_, fun p hp => q _ _ _ (s1.upd hp) (n1.put s1 hp).1 ⟨p, rs, rfl, upd_same, hrs.same (n1.put s1 hp).2⟩⟩, fun _ => rfl⟩
          rw [hrs.length, litDs_length h1]
          exact Nat.le_trans hl (by decide)
      · cases h
    · rename_i es p'
      split at h
      · rename_i hl
        cases h1 : mapO (litD n) es with
        | none => rw [h1] at h; cases h
        | some ds =>
          rw [h1] at h
          cases h
          refine ⟨fun pins s σ H Q I q => pe_lst (pa_lits ih es ds h1) pins s σ H Q I fun rs H1 N1 s1 n1 hrs => ⟨?_, fun p hp => q _ _ _ (s1.upd hp) (n1.put s1 hp).1 ⟨p, rs, rfl, upd_same, hrs.same (n1.put s1 hp).2⟩⟩, fun _ => rfl⟩
          rw [hrs.length, litDs_length h1]
          exact Nat.le_trans hl (by decide)
      · cases h
    · cases h; exact ⟨fun pins s σ H Q I q => pe_un un_neg pe_int pins s σ H Q I ⟨_, rfl, q _ H noHp (Same.refl H) .no rfl⟩, fun _ => rfl⟩
    · split at h
      · rename_i hl
        cases h
        exact ⟨fun pins s σ H Q I q => pe_op op_pow pe_int pe_int pins s σ H Q I ⟨_, _, rfl, rfl, hl, q _ H noHp (Same.refl H) .no rfl⟩, fun _ => rfl⟩
      · cases h
    · cases h; exact ⟨fun pins s σ H Q I q => pe_dnewK pins s σ H Q I fun p hp => q _ _ (upd noHp p (.dK [])) (Same.new hp) (NewIn.put (Same.refl H) .no hp).1 ⟨p, [], rfl, upd_same, rfl⟩, fun _ => rfl⟩
    · rename_i k k1 p1 i i1 p2 p3
      cases h
      refine ⟨fun pins s σ H Q I q => pe_disp (pps_cons pe_str pe_int pps_nil) rfl rfl (by simp) (by show 1 ≤ 15; decide) pins s σ H Q I fun p hp => ⟨upd_same, [(Sum.inr k, V.int i)], rfl, by show 1 ≤ 15; decide, ?_⟩, fun _ => rfl⟩
      refine q _ _ (upd noHp p (.dK [(Sum.inr k, V.int i)])) (fun b o e => ?_) (fun c o e => ?_) ⟨p, [(Sum.inr k, V.int i)], rfl, upd_same, rfl⟩
      · rw [upd_ne (ne_of_none e hp), upd_ne (ne_of_none e hp)]
        exact e
      · by_cases hc : c = p
        · subst hc
          rw [upd_same] at e
          cases e
          exact ⟨hp, upd_same⟩
        · rw [upd_ne hc] at e
          cases e
    · cases h
@[irreducible] def Lit (n : Nat) (e : Expr) (d : PyData) : Prop := litD n e = some d
theorem Lit.of {n : Nat} {e : Expr} {d : PyData} (h : litD n e = some d) : Lit n e d := by unfold Lit; exact h
theorem Lit.eq {n : Nat} {e : Expr} {d : PyData} (h : Lit n e d) : litD n e = some d := by unfold Lit at h; exact h
theorem pe_lit (n : Nat) {e : Expr} {d : PyData} (h : Lit n e d) : PE X e (tLit d) := (pe_lit_aux n e d h.eq).1
end
end L2

set_option Elab.async false
set_option linter.all false
set_option maxRecDepth 100000
namespace L2
open PySem PySem.Spec PyProof.Rows

/-! ### t < u of tuples of texts -/
def lexS : List Str → List Str → Bool
  | [], [] => false
  | [], _ :: _ => true
  | _ :: _, [] => false
  | x :: xs, y :: ys => if x = y then lexS xs ys else decide (x.cps.toList < y.cps.toList)
section
open PySem.SeqAt
open PySem.AutoSeq1 (wpAny_loadPart')
open PySem.MeetsSeq PySem.MeetsSeq2 PySem.MeetsSeq3
theorem eqAt_str2 (A : Around) (s : Shared) (x : Str) (t : Tok) (y : Str) (u : Tok) : ∃ e, SeqAt.EqAt A s (.str x t) (.str y u) e ∧ (e = true ↔ x = y) := ⟨(x == y), SeqAt.EqAt.str_str x t y u, by simp⟩
theorem rcLt_str2 (A : Around) (s : Shared) (x : Str) (t : Tok) (y : Str) (u : Tok) (P : Program) (w : World) (E : Value → Shared → Prop) (Q : Value → Shared → Prop) (h : Q (.bool (decide (x.cps.toList < y.cps.toList))) s) :
    wpAny (model P w) A (richCompare .Lt (.str x t) (.str y u)) Q E s := (PySem.P.lt_str h : wpAny (model P w) A (compareOp .Lt (.str x t) (.str y u)) Q E s)
theorem tuple_lt_strs (l b : Addr) (its1 its2 : Array Value) (n n2 : Nat) (dd dd2 : Option Addr) (sl sl2 : Array (Option Value)) (ss ts : List Str) (hi : StrsAre its1.toList ss) (hj : StrsAre its2.toList ts) :
    Meets (Builtin.«tuple.__lt__» ⟨[.ref l, .ref b], []⟩) (fun _ R s => s.heap.get? l = some { cls := .type "tuple", dict := dd, data := .seq its1 n, slots := sl } ∧ s.heap.get? b = some { cls := .type "tuple", dict := dd2, data := .seq its2 n2, slots := sl2 } ∧ R (.ok (.ret (.bool (lexS ss ts)))) s) :=
  .of_wp fun prog w A R s h => by
    obtain ⟨hp, g, d, tk, os⟩ := s
    obtain ⟨hl, hb, h⟩ := h
    have f2 := AutoSeq1.sub_tuple_tuple
    have z1 : its1.size = ss.length := by rw [← hi.length]; simp
    have z2 : its2.size = ts.length := by rw [← hj.length]; simp
    wp_walk using wpAny_loadPart' hl, wpAny_loadPart' hb, wpAny_forIn_list _ (fun rest b s' => b.1 = none ∧ s' = ⟨hp, g, d, tk, os⟩ ∧ ∃ (vs ws : List Value) (ss' ts' : List Str), rest = vs.zip ws ∧ StrsAre vs ss' ∧ StrsAre ws ts' ∧ ss'.length + its2.size = ts'.length + its1.size ∧ R (.ok (.ret (.bool (lexS ss' ts')))) ⟨hp, g, d, tk, os⟩) _
    case turn =>
      rintro ⟨y, x⟩ rest b s' ⟨hb', rfl, vs, ws, ss', ts', hz, hvi, hwi, hlen, hR⟩
      cases hvi with
      | nil => rw [List.zip_nil_left] at hz; cases hz
      | cons a t hvi' =>
        cases hwi with
        | nil => rw [List.zip_nil_right] at hz; cases hz
        | cons c u hwi' =>
          rw [List.zip_cons_cons] at hz
          injection hz with hyx hrest
          injection hyx with hy hx
          subst hy hx
          have hR : R (.ok (.ret (.bool (if a = c then lexS _ _ else decide (a.cps.toList < c.cps.toList))))) ⟨hp, g, d, tk, os⟩ := hR
          simp only [List.length_cons] at hlen
          obtain ⟨e, he, hiff⟩ := eqAt_str2 A.in1 ⟨hp, g, d, tk, os⟩ a t c u
          refine wpAny_bind (he prog w _ _ ?_)
          cases e with
          | true =>
            rw [if_pos (hiff.mp rfl)] at hR
            wp_walk
            exact ⟨rfl, rfl, _, _, _, _, hrest, hvi', hwi', by omega, hR⟩
          | false =>
            rw [if_neg (fun q => absurd (hiff.mpr q) Bool.false_ne_true)] at hR
            have hri := rcLt_str2 A.in1 ⟨hp, g, d, tk, os⟩ a t c u prog w
            wp_walk using hri
            exact ⟨_, rfl, by simpa using hR⟩
    case fin =>
      rintro ⟨b1, b2⟩ s' ⟨hb', rfl, vs, ws, ss', ts', hz, hvi, hwi, hlen, hR⟩
      simp only at hb'
      subst hb'
      have hv : lexS ss' ts' = decide (its1.size < its2.size) := by
        cases hvi with
        | nil =>
          cases hwi with
          | nil =>
            simp only [List.length_nil] at hlen
            exact (decide_eq_false (by omega)).symm
          | cons c u hw =>
            simp only [List.length_nil, List.length_cons] at hlen
            exact (decide_eq_true (by omega)).symm
        | cons a t hv =>
          cases hwi with
          | nil =>
            simp only [List.length_nil, List.length_cons] at hlen
            exact (decide_eq_false (by omega)).symm
          | cons c u hw =>
            rw [List.zip_cons_cons] at hz
            cases hz
      rw [hv] at hR
      wp_walk
      exact ⟨_, rfl, by simpa [Builtin.Tuple.tupleCompareSizes] using hR⟩
    case h => exact ⟨rfl, rfl, its1.toList, its2.toList, ss, ts, rfl, hi, hj, by omega, h⟩
end
section
variable {X : Cx} {k : Nat}
def rLtTS : R2 := fun x y H Q => ∃ ss ts : List Str, Rep H (.tuple (ss.map .str)) x ∧ Rep H (.tuple (ts.map .str)) y ∧ Q (.bl (lexS ss ts)) H
theorem op_ltTS (hr : Room k X.A) : OpR X (compareOp .Lt) rLtTS := by
  intro pins s σ H x y v u Q I rx ry h
  obtain ⟨ss, ts, ⟨a, vs, rfl, ha, r1⟩, ⟨b, us, rfl, hb, r2⟩, q⟩ := h
  cases rx
  cases ry
  cases r1.strs_inv
  cases r2.strs_inv
  obtain ⟨its1, v1, ⟨⟨c1, d1, e1, l1⟩, p1, h1, n1, z1⟩, _⟩ := I.tuple (SqT.of (K := X.K) ha)
  obtain ⟨its2, v2, ⟨⟨c2, d2, e2, l2⟩, p2, h2, n2, z2⟩, _⟩ := I.tuple (SqT.of (K := X.K) hb)
  simp only at h1 z1 h2 z2
  subst h1 z1 h2 z2
  exact richCompare_meets_room (op := .Lt) ⟨_, p1, rfl⟩ ⟨_, p2, rfl⟩ PySem.F.slot_tuple_lt PySem.F.entry_tuple_lt (PySem.F.args_tuple_lt_2 _ _) (tuple_lt_strs a b _ _ n1 n2 d1 d2 l1 l2 ss ts (strs_are v1) (strs_are v2))
    ⟨p1, p2, show Value.bool (lexS ss ts) ≠ Value.notImplemented ∧ EP X pins σ Q (.bool (lexS ss ts)) s from ⟨(fun x => nomatch x), ⟨.bl _, H, I, rfl, q⟩⟩⟩ hr.units0

/-! ### t + u, t[a:b] as data -/
def rCatD : R2 := fun x y H Q => ∃ ds es, Rep H (.tuple ds) x ∧ Rep H (.tuple es) y ∧ ds.length + es.length ≤ sizeLine ∧ ∀ r H', Same H H' → Rep H' (.tuple (ds ++ es)) r → Q r H'
theorem op_catD : OpR X (binaryOp .Add) rCatD := by
  intro pins s σ H x y v u Q I rx ry h
  obtain ⟨ds, es, h1, h2, hz, q⟩ := h
  obtain ⟨a, vs, rfl, ha, r1⟩ := id h1
  obtain ⟨b, us, rfl, hb, r2⟩ := id h2
  by_cases hv : vs = []
  · subst hv
    have hd : ds = [] := List.length_eq_zero_iff.mp r1.length.symm
    subst hd
    cases rx
    cases ry
    obtain ⟨its1, v1, ⟨⟨c1, d1, e1, l1⟩, p1, g1, n1, z1⟩, _⟩ := I.tuple (SqT.of (K := X.K) ha)
    obtain ⟨its2, v2, ⟨⟨c2, d2, e2, l2⟩, p2, g2, n2, z2⟩, _⟩ := I.tuple (SqT.of (K := X.K) hb)
    simp only at g1 z1 g2 z2
    subst g1 z1 g2 z2
    cases v1
    exact concat_meets ⟨_, p1, rfl⟩ ⟨_, p2, rfl⟩ noFill_tuple_add seq_tuple_add PySem.F.slot_tuple_add PySem.F.entry_tuple_add (PySem.F.args_tuple_add_2 _ _) (tuple_addW0 a b _ _ n1 n2 d1 d2 l1 l2 rfl) ⟨p1, p2, ⟨.ref b, H, I, rfl, q _ H (Same.refl H) h2⟩⟩
  · refine op_catT pins s σ H _ _ v u Q I rx ry ⟨a, b, vs, us, rfl, rfl, SqT.of ha, SqT.of hb, hv, by rw [r1.length, r2.length]; exact hz, fun e => ?_, fun e p hp => ?_⟩
    · subst e
      have he : es = [] := List.length_eq_zero_iff.mp r2.length.symm
      subst he
      exact q _ H (Same.refl H) (by rw [List.append_nil]; exact h1)
    · have sm : Same H (upd H p (.tup (vs ++ us))) := Same.new hp
      exact q _ _ sm ⟨p, _, rfl, upd_same, Reps.append (r1.same sm) (r2.same sm)⟩
def cutD (ds : List PyData) (lo hi : Option Int) : List PyData := (ds.drop (HT.sIx ds.length 0 lo)).take (HT.sIx ds.length ds.length hi - HT.sIx ds.length 0 lo)
def rSlD : V → Option Int → Option Int → Hp → VK → Prop := fun x lo hi H Q => ∃ ds, Rep H (.tuple ds) x ∧ ∀ r H', Same H H' → Rep H' (.tuple (cutD ds lo hi)) r → Q r H'
theorem getItem_whole {P : Program} {w : World} {A : Around} {E : Value → Shared → Prop} {s : Shared} {t sl : Addr} {items : Array Value} {vl vu : Value} {lo hi : Option Int} {Q : Value → Shared → Prop} (ht : IsTup s.heap t items) (hs : s.heap.IsSliceOf sl vl vu .none) (pl : IsPart vl lo) (pu : IsPart vu hi)
    (h0 : HT.sIx items.size 0 lo = 0) (h1 : HT.sIx items.size items.size hi = items.size) (q : Q (.ref t) s) : wpAny (model P w) A (getItem (.ref t) (.ref sl)) Q E s := by
  obtain ⟨os, hos, hcs, hds⟩ := id hs
  have hTs : s.TypeIs (.ref sl) "slice" := ⟨os, hos, hcs⟩
  unfold getItem
  try with_reducible refine wpAny_holding ?_
  first | refine wpAny_bind (wpAny_pure ?_) | skip
  refine wpAny_bind (wpAny_sequenceKey ht.typeIs (by decide) ?_)
  refine wpAny_bind (wpAny_callSpecial?_slot (name := Str.ofString "__getitem__") ht.typeIs PyProof.Rows.slot_tuple_getitem (wpAny_call_entry PyProof.Rows.slot_tuple_getitem ht.typeIs entry_tuple_getitem ?_ (args_tuple_getitem _ _)))
  show wpAny _ _ (Builtin.Tuple.tupleItemsOf (.ref t) >>= _) _ _ s
  refine wpAny_bind (tupleItemsOf_ ht (wpAny_bind (wpAny_typeOf hTs ?_)))
  rw [if_pos (by decide)]
  refine wpAny_bind (HT.sliceApplied_gen hs pl pu ?_)
  rw [h0, h1]
  show wpAny _ _ (if ((((0 : Nat) : Int) == 0 && (1 : Int) == 1 && (items.size - 0) == items.size) = true) then _ else _) _ _ s
  rw [if_pos (by simp)]
  unfold Builtin.Tuple.tupleIsExact
  refine wpAny_bind (wpAny_bind (wpAny_typeOf ht.typeIs (wpAny_pure ?_)))
  first
    | exact wpAny_bind (wpAny_rule (wpAny_bind (wpAny_pure (wpAny_pure ⟨_, rfl, wpAny_pure q⟩))))
    | exact wpAny_bind (wpAny_rule (wpAny_pure ⟨_, rfl, wpAny_pure q⟩))
    | (rw [if_pos (by decide)]; exact wpAny_bind (wpAny_rule (wpAny_bind (wpAny_pure (wpAny_pure ⟨_, rfl, wpAny_pure q⟩)))))
    | (rw [if_pos (by decide)]; exact wpAny_bind (wpAny_rule (wpAny_pure ⟨_, rfl, wpAny_pure q⟩)))
theorem sl_tupD : SlR X rSlD := by
  intro pins s σ H x v vl vu lo hi sl Q I rx hs pl pu h
  obtain ⟨ds, h1, q⟩ := h
  obtain ⟨a, xs, rfl, ha, r1⟩ := id h1
  cases rx
  obtain ⟨its, rv, ht, hz⟩ := I.tuple (SqT.of (K := X.K) ha)
  have hl : its.toArray.size = xs.length := by rw [List.size_toArray]; exact rv.length.symm
  by_cases hw : HT.sIx xs.length 0 lo = 0 ∧ HT.sIx xs.length xs.length hi = xs.length
  · refine ⟨"tuple", _, PyProof.Rows.slot_tuple_getitem.lookup, ht.typeIs, getItem_whole ht hs pl pu (by rw [hl]; exact hw.1) (by rw [hl]; exact hw.2) ⟨.ref a, H, I, rfl, q _ H (Same.refl H) ?_⟩⟩
    have e : cutD ds lo hi = ds := by
      unfold cutD
      rw [← r1.length, hw.1, hw.2, List.drop_zero, Nat.sub_zero, r1.length, List.take_length]
    rw [e]
    exact h1
  · refine sl_tup pins s σ H (.ref a) _ vl vu lo hi sl Q I rfl hs pl pu ⟨a, xs, rfl, SqT.of ha, hw, fun p hp => ?_⟩
    have sm : Same H (upd H p (.tup (cutV xs lo hi))) := Same.new hp
    refine q _ _ sm ⟨p, _, rfl, upd_same, ?_⟩
    have e : cutD ds lo hi = (ds.drop (HT.sIx xs.length 0 lo)).take (HT.sIx xs.length xs.length hi - HT.sIx xs.length 0 lo) := by
      unfold cutD
      rw [r1.length]
    rw [e]
    exact ((r1.same sm).drop _).take _
end
end L2

set_option Elab.async false
set_option linter.all false
set_option maxRecDepth 100000
namespace L2
open PySem PySem.Spec PyProof.Rows

/-! ### an exception behind a call -/
theorem ObjOk.obj {P : Program} {w : World} {H : Hp} {h : Heap} {a : Addr} {o : HO} (x : ObjOk P w H h a o) : ∃ ob, h.get? a = some ob := by
  cases o with
  | lst xs => obtain ⟨_, _, _, _, e⟩ := x; exact ⟨_, e⟩
  | tup xs => obtain ⟨_, _, _, ob, e, _⟩ := x; exact ⟨ob, e⟩
  | dK kvs => obtain ⟨_, _, _, _, ob, _, _, e, _⟩ := x; exact ⟨ob, e⟩
  | dT kvs => obtain ⟨_, _, _, _, ob, _, _, e, _⟩ := x; exact ⟨ob, e⟩
  | set S n => obtain ⟨ob, _, _, _, e, _⟩ := x; exact ⟨ob, e⟩
  | ins C dx fs => obtain ⟨_, _, _, e, _⟩ := x; exact ⟨_, e⟩
  | own y => exact x
  | xd fs => obtain ⟨_, ⟨ob, _, _, e, _⟩, _⟩ := x; exact ⟨ob, e⟩
  | rng lo hi => obtain ⟨_, _, _, e⟩ := x; exact ⟨_, e⟩
  | frz ob u => exact ⟨_, x.1⟩
  | tbl ps => exact ⟨_, x⟩
  | met f y => exact ⟨_, x⟩
  | ext φ => exact x.2.1
/-- an exception flies: B holds all that stays while it passes through frames -/
def Fly (P : Program) (w : World) : CXT := fun outer H s E e s' =>
  ∃ (a : Addr) (cls : Value) (t : Addr) (B : Heap) (H' : Hp), e = .ref a ∧ s'.os = s.os ∧ AllBare s'.gens ∧ Un (frs outer) [] H H' s.heap s'.heap ∧ HOk P w H' s'.heap ∧ Heap.FlyingW B outer a cls (.ref t) s'.heap ∧
    (∀ b o, s.heap.get? b = some o → b ∉ frs outer → ∃ o', s'.heap.get? b = some o' ∧ B.get? b = some o') ∧ (∀ b u, H' b = some u → ∃ o', s'.heap.get? b = some o' ∧ B.get? b = some o') ∧ E cls none H'
section
variable {P : Program} {w : World} {K : PySem.W.Frag} {mg : Str → Option Value} {base : Heap} {N : List Str} {qual : Str} {scope : Scope} {f : Addr} {cd : Value} {A : Around} {outer : List Env} {s : Shared} {H : Hp} {E : XK}
/-- .. through a def's frame -/
theorem fly_pass : Passes (Fly P w) (cxOf (Fly P w) P w K mg base N qual scope f cd A outer s H E) E := by
  intro pins σ H1 s1 e s' I ⟨a, cls, t, B, H', e1, os, bare, un, hok, fl, old, trk, q⟩
  subst e1
  have J := I.call' os un hok bare (fun b z => nomatch z)
  have hfr : (A.deeper (envOfC qual scope s.heap.objs.size f cd)).frames = some (envOfC qual scope s.heap.objs.size f cd :: outer) := I.ok.frames
  have noA : ∀ b : Addr, b ∉ (cxOf (Fly P w) P w K mg base N qual scope f cd A outer s H E).ex := fun b z => nomatch z
  have inB : ∀ b o, s.heap.get? b = some o → b ∉ frs outer → ∃ o', s'.heap.get? b = some o' ∧ B.get? b = some o' := fun b o e hb => by
    obtain ⟨o1, e1⟩ := I.base.there b o e (noA b)
    refine old b o1 e1 fun z => ?_
    rcases List.mem_cons.mp (I.stkSub b z) with z | z
    · have z2 : b = s.heap.objs.size := z
      exact absurd (Heap.lt_size e) (by rw [z2]; exact Nat.lt_irrefl _)
    · exact hb z
  refine wpAny_leaves_onW hfr rfl fl fun h' fl' up => ?_
  refine ⟨a, cls, t, B, H', rfl, os.trans I.os, bare, ⟨fun b o e n hb _ => ?_, fun b o e n hb _ => ?_, fun b o e n _ => J.base.free b o e n (noA b), fun b o e _ => ?_, J.base.tups, J.base.frzs, J.base.tbls⟩, fun b u e => ?_, fl', fun b o e hb => ?_, fun b u e => ?_, q⟩
  · have e2 := J.base.keep b o e n hb (noA b)
    obtain ⟨o', e3, e4⟩ := inB b o e hb
    rw [e2] at e3; cases e3
    exact fl'.1 b o e4
  · obtain ⟨sl, e2⟩ := J.base.slot b o e n hb (noA b)
    obtain ⟨_, o', e3, nf⟩ := J.funs.mem hb
    rw [e2] at e3; cases e3
    obtain ⟨sl', e4⟩ := up b _ e2 nf
    exact ⟨sl', e4⟩
  · by_cases hb : b ∈ frs outer
    · obtain ⟨o2, e2⟩ := J.base.there b o e (noA b)
      obtain ⟨_, o', e3, nf⟩ := J.funs.mem hb
      obtain ⟨sl', e4⟩ := up b _ e3 nf
      exact ⟨_, e4⟩
    · obtain ⟨o', e3, e4⟩ := inB b o e hb
      exact ⟨o', fl'.1 b o' e4⟩
  · refine (hok b u e).stay (fun c v hc z => ?_) (fun _ z => z) fun _ _ z => z
    have : ∃ u', H' c = some u' := by
      rcases hc with hc | hc
      · exact ⟨u, hc ▸ e⟩
      · exact ⟨_, hc⟩
    obtain ⟨u', hu⟩ := this
    obtain ⟨o', e3, e4⟩ := trk c u' hu
    rw [z] at e3; cases e3
    exact fl'.1 c v e4
  · obtain ⟨o', e3, e4⟩ := inB b o e hb
    exact ⟨o', fl'.1 b o' e4, e4⟩
  · obtain ⟨o', e3, e4⟩ := trk b u e
    exact ⟨o', fl'.1 b o' e4, e4⟩
/-- what the top has made of an own class of errors -/
structure XCls (K : PySem.W.Frag) (mg : Str → Option Value) (x : Str) (C : Addr) (bmB : List Value) (newId : String) : Prop where
  ns : PySem.W.nsIn K mainGlobals x = some (some (.ref C))
  ex : PySem.W.excIn K C bmB newId = true
theorem XCls.own {X : Cx} {pins : List (Addr × Obj)} {σ : St} {H : Hp} {s : Shared} {x : Str} {C : Addr} {bmB : List Value} {newId : String} (c : XCls X.K X.mg x C bmB newId) (I : Inv X pins σ H s) : OwnCls x C bmB newId X.mg X.base := by
  refine ⟨PySem.W.mg_of I.mod.kin I.mod.glob c.ns, ?_⟩
  have q := c.ex
  have X0 := I.mod.kin
  unfold PySem.W.excIn at q
  split at q
  · rename_i dd cd sl ho
    split at q
    · rename_i C' bm k0 k1 k2 k3 n k5 hm hs
      simp only [Bool.and_eq_true, beq_iff_eq, Bool.not_eq_true'] at q
      obtain ⟨⟨⟨⟨⟨rfl, rfl⟩, hdel⟩, ht⟩, hok⟩, hni⟩ := q
      obtain ⟨nm, bs, mro, ns, qn, hd, sn, sub, ab, col, del⟩ := cd
      dsimp only at hm hdel hok hni
      subst hm hdel
      have hsl : sl = #[k0, k1, k2, k3, some (.builtin n), k5] := by
        obtain ⟨l⟩ := sl
        simp only at hs
        rw [hs]
      subst hsl
      exact ⟨bm, ns, nm, qn, bs, hd, sn, sub, ab, col, dd, k0, k1, k2, k3, k5, _, X0 _ _ ho, .of_isNs (PySem.W.isNs_of_in X0 hok), PySem.W.nsMap_none_of_in X0 hok hni, PySem.W.tail_of_in X0 ht⟩
    · cases q
  · cases q
/-- raise C(e ..) of an own class -/
def tRaise (E : XK) (C : Addr) (t : TA) : TS := fun _ σ H => t σ H fun vs H1 => vs.length ≤ sizeLine ∧ E (.ref C) none H1
theorem ps_raise {B newId initId : String} {bmB : List Value} {C : Addr} {x : Str} {e : Expr} {es : List Expr} {t : TA} {np cpos pos : Pos} (c : XCls K mg x C bmB newId) (FB : ExcBaseFacts B newId initId bmB) (hd : A.handled = none)
    (hg : Gl (cxOf (Fly P w) P w K mg base N qual scope f cd A outer s H E) x) (ha : PA (cxOf (Fly P w) P w K mg base N qual scope f cd A outer s H E) (e :: es) t)
    (he : starEach (e :: es) (envOfC qual scope s.heap.objs.size f cd) = (false, eval e (envOfC qual scope s.heap.objs.size f cd)) :: starEach es (envOfC qual scope s.heap.objs.size f cd) := by rfl)
    (hplain : (backTo cpos (starEach es (envOfC qual scope s.heap.objs.size f cd))).any (·.1) = false := by rfl) (hdb : (x == ("__debug__" : Str)) = false := by decide) :
    PS (cxOf (Fly P w) P w K mg base N qual scope f cd A outer s H E) (.Raise (some (.Call (.Name x np) (e :: es) [] cpos)) none pos) (tRaise E C t) := by
  intro pins s1 σ H1 D I h
  have O := XCls.own (X := cxOf (Fly P w) P w K mg base N qual scope f cd A outer s H E) c I
  obtain ⟨tl, Nn, nm, q, bs, hdct, sn, sub, ab, col, dd, k0, k1, k2, k3, k5, mN, hC, hN, hni, T⟩ := O.obj
  refine wpAny_Raise_call_subT (C := C) (nm := nm) (q := q) (N := Nn) (bs := bs) (bm := tl) (hdct := hdct) (sn := sn) (sub := sub) (ab := ab) (col := col) (dd := dd) (k0 := k0) (k1 := k1) (k2 := k2) (k3 := k3) (k5 := k5)
    FB (mN := mN) (T.hasType FB.hasBase) hd (by show (backTo cpos (starEach (e :: es) (envOfC qual scope s.heap.objs.size f cd))).any (·.1) = false; rw [he]; show (false || (backTo cpos (starEach es (envOfC qual scope s.heap.objs.size f cd))).any (·.1)) = false; rw [hplain]; rfl) hni
    (ld_glob I hg O.bound ⟨rfl, ?_⟩ hdb)
  have h1 := ha cpos pins s1 σ H1 _ I h
  show wpAny _ _ (evalArgs (.ref C) true (backTo cpos (starEach (e :: es) (envOfC qual scope s.heap.objs.size f cd))) []) _ _ _
  have h1' : wpAny (model P w) (A.deeper (envOfC qual scope s.heap.objs.size f cd)) (spliced (backTo cpos (starEach (e :: es) (envOfC qual scope s.heap.objs.size f cd)))) _ _ s1 := h1
  rw [he] at h1' ⊢
  refine Calls.evalArgs_plain (wpAny_mono h1' (fun vs s2 ⟨xs, H2, I2, r, hz, qE⟩ => ?_) fun _ _ y => y)
  have k2 : ∀ b o, base.get? b = some o → s2.heap.get? b = some o := I2.bk
  refine ⟨rfl, by rw [← r.length]; exact hz, k2 _ _ hC, hN.keeps k2, T.keeps k2, fun h' a hm => ?_⟩
  -- it leaves the frame
  have hfr : (A.deeper (envOfC qual scope s.heap.objs.size f cd)).frames = some (envOfC qual scope s.heap.objs.size f cd :: outer) := I.ok.frames
  have noA : ∀ b : Addr, b ∉ (cxOf (Fly P w) P w K mg base N qual scope f cd A outer s H E).ex := fun b z => nomatch z
  have ffs : s2.heap.FunFrames base (envOfC qual scope s.heap.objs.size f cd :: outer) := I2.stack
  have hin : ∀ env ∈ (envOfC qual scope s.heap.objs.size f cd :: outer), ∀ b, env.frame = some b → b ∈ frs (envOfC qual scope s.heap.objs.size f cd :: outer) := fun env he b hb => List.mem_filterMap.mpr ⟨env, he, hb⟩
  show wpAny _ _ (leaving (envOfC qual scope s.heap.objs.size f cd) (.ref a)) _ _ _
  refine wpAny_leaves_madeW (base := PySem.W.hideAll s2.heap (frs (envOfC qual scope s.heap.objs.size f cd :: outer))) hfr rfl (fun b o z => PySem.W.of_hideAll _ z) (PySem.W.funFrames_hide ffs hin) hm fun h'' t fl tup nt up => ?_
  have inB : ∀ b o, s2.heap.get? b = some o → b ∉ frs (envOfC qual scope s.heap.objs.size f cd :: outer) → (PySem.W.hideAll s2.heap (frs (envOfC qual scope s.heap.objs.size f cd :: outer))).get? b = some o := fun b o z hb => PySem.W.hideAll_get _ z hb
  have notL : ∀ b o, s.heap.get? b = some o → b ∉ frs outer → b ∉ frs (envOfC qual scope s.heap.objs.size f cd :: outer) := fun b o z hb m => by
    rcases List.mem_cons.mp (I2.stkSub b m) with z' | z'
    · have z2 : b = s.heap.objs.size := z'
      exact absurd (Heap.lt_size z) (by rw [z2]; exact Nat.lt_irrefl _)
    · exact hb z'
  have trkB : ∀ b u, H2 b = some u → ∃ o', s2.heap.get? b = some o' ∧ (PySem.W.hideAll s2.heap (frs (envOfC qual scope s.heap.objs.size f cd :: outer))).get? b = some o' := fun b u z => by
    obtain ⟨o', e'⟩ := (I2.hok b u z).obj
    refine ⟨o', e', inB b o' e' fun m => ?_⟩
    have := I2.stkFree b m
    rw [z] at this; cases this
  refine ⟨a, .ref C, t, _, H2, rfl, I2.os, I2.bare, ⟨fun b o z n hb _ => ?_, fun b o z n hb _ => ?_, fun b o z n _ => I2.base.free b o z n (noA b), fun b o z _ => ?_, I2.base.tups, I2.base.frzs, I2.base.tbls⟩, fun b u z => ?_, fl, fun b o z hb => ?_, fun b u z => ?_, qE⟩
  · have e2 := I2.base.keep b o z n hb (noA b)
    exact fl.1 b o (inB b o e2 (notL b o z hb))
  · obtain ⟨sl, e2⟩ := I2.base.slot b o z n hb (noA b)
    obtain ⟨_, o', e3, nf⟩ := I2.funs.mem hb
    rw [e2] at e3; cases e3
    obtain ⟨sl', e4⟩ := up b _ (hm.keeps _ _ e2) nf
    exact ⟨sl', e4⟩
  · by_cases hb : b ∈ frs outer
    · obtain ⟨_, o', e3, nf⟩ := I2.funs.mem hb
      obtain ⟨sl', e4⟩ := up b _ (hm.keeps _ _ e3) nf
      exact ⟨_, e4⟩
    · obtain ⟨o2, e2⟩ := I2.base.there b o z (noA b)
      exact ⟨o2, fl.1 b o2 (inB b o2 e2 (notL b o z hb))⟩
  · refine (I2.hok b u z).stay (fun c v hc y => ?_) (fun _ y => y) fun _ _ y => y
    have : ∃ u', H2 c = some u' := by
      rcases hc with hc | hc
      · exact ⟨u, hc ▸ z⟩
      · exact ⟨_, hc⟩
    obtain ⟨u', hu⟩ := this
    obtain ⟨o', e3, e4⟩ := trkB c u' hu
    rw [y] at e3; cases e3
    exact fl.1 c v e4
  · obtain ⟨o2, e2⟩ := I2.base.there b o z (noA b)
    exact ⟨o2, fl.1 b o2 (inB b o2 e2 (notL b o z hb)), inB b o2 e2 (notL b o z hb)⟩
  · obtain ⟨o', e3, e4⟩ := trkB b u z
    exact ⟨o', fl.1 b o' e4, e4⟩
end
end L2

set_option Elab.async false
set_option linter.all false
set_option maxRecDepth 100000
namespace L2
open PySem PySem.Spec PyProof.Rows

/-- as FnOk, the promise may look at the state of the call -/
structure FnOkS (P : Program) (w : World) (K : PySem.W.Frag) (mg : Str → Option Value) (base : Heap) (CX : CXT) (k : Nat) (f : Addr) (fd : FuncData) (ps : List Str) (sp : Shared → Sp) : Prop where
  len : ∀ s vs H Q E, sp s vs H Q E → vs.length = ps.length
  run : ∀ (A : Around) (outer : List Env) (s : Shared) (H : Hp) (args : Args) (us : List Value) (vs : List V) (Q : VK) (E : XK), Room k A → Env0 P w K mg base A outer s H → BindsTo s fd args (ps.zip us) → Vals vs us → sp s vs H Q E →
    codeAny (model P w) A (.call (.ref f) args) (CR CX outer P w H s Q E) s
/-- the context of an except suite -/
abbrev Cx.held (X : Cx) (a : Addr) : Cx := { X with A := X.A.mark (some (.ref a)), calm := false, xe := fun _ _ => False }
theorem Inv.held {X : Cx} {pins : List (Addr × Obj)} {σ : St} {H : Hp} {s : Shared} (I : Inv X pins σ H s) (a : Addr) : Inv (X.held a) pins σ H s :=
  ⟨⟨I.ok.mod, I.ok.kind, I.ok.glob, I.ok.blt, I.ok.above, I.ok.inj, I.ok.has, I.ok.cab, (fun z => nomatch z), I.ok.frames, I.ok.stk, I.ok.exf, I.ok.bs, I.ok.bsz, I.ok.noex, I.ok.exfs, I.ok.funs, I.ok.frf⟩, I.os, I.bare, I.base, I.loc, I.cell, I.free, I.freeC, I.pin, I.hok, I.len⟩
/-- the object at a is of the class cls -/
def isClsAt (a : Addr) (cls : Value) : Heap → Prop := fun h => ∃ o, h.get? a = some o ∧ o.cls = cls
theorem isClsAt.ok {P : Program} {w : World} {H : Hp} {h : Heap} {a : Addr} {cls : Value} (x : isClsAt a cls h) : ObjOk P w H h a (.ext (isClsAt a cls)) :=
  ⟨x, let ⟨o, e, _⟩ := x; ⟨o, e⟩, fun h1 h2 ⟨o, e, c⟩ k => ⟨o, k o e, c⟩⟩
/-- behind a station of a flying exception -/
theorem fly_un {P : Program} {w : World} {l : List Env} {H H' : Hp} {g h h' : Heap} {B : Heap} (un : Un (frs l) [] H H' g h) (hok : HOk P w H' h) (st : B.StaysIn h') (up : h.UpToSlots h') (ff : h.FunFrames B l)
    (old : ∀ b o, g.get? b = some o → b ∉ frs l → ∃ o', h.get? b = some o' ∧ B.get? b = some o') (trk : ∀ b u, H' b = some u → ∃ o', h.get? b = some o' ∧ B.get? b = some o') : Un (frs l) [] H H' g h' ∧ HOk P w H' h' := by
  have no : ∀ b : Addr, b ∉ ([] : List Addr) := fun b z => nomatch z
  refine ⟨⟨fun b o e n hb _ => ?_, fun b o e n hb _ => ?_, fun b o e n _ => un.free b o e n (no b), fun b o e _ => ?_, un.tups, un.frzs, un.tbls⟩, fun b u e => ?_⟩
  · have e2 := un.keep b o e n hb (no b)
    obtain ⟨o', e3, e4⟩ := old b o e hb
    rw [e2] at e3; cases e3
    exact st b o e4
  · obtain ⟨sl, e2⟩ := un.slot b o e n hb (no b)
    obtain ⟨_, o', e3, nf⟩ := ff.mem hb
    rw [e2] at e3; cases e3
    obtain ⟨sl', e4⟩ := up b _ e2 nf
    exact ⟨sl', e4⟩
  · by_cases hb : b ∈ frs l
    · obtain ⟨_, o', e3, nf⟩ := ff.mem hb
      obtain ⟨sl', e4⟩ := up b _ e3 nf
      exact ⟨_, e4⟩
    · obtain ⟨o', e3, e4⟩ := old b o e hb
      exact ⟨o', st b o' e4⟩
  · refine (hok b u e).stay (fun c v hc z => ?_) (fun _ z => z) fun _ _ z => z
    have : ∃ u', H' c = some u' := by
      rcases hc with hc | hc
      · exact ⟨u, hc ▸ e⟩
      · exact ⟨_, hc⟩
    obtain ⟨u', hu⟩ := this
    obtain ⟨o', e3, e4⟩ := trk c u' hu
    rw [z] at e3; cases e3
    exact st c v e4
theorem UpToSlots_trans {h1 h2 h3 : Heap} (a : h1.UpToSlots h2) (b : h2.UpToSlots h3) : h1.UpToSlots h3 := a.trans b
theorem named_xe {α : Type} {M : Model} {A : Around} {t : Sem α} {Q1 : α → Shared → Prop} {E1 : Value → Shared → Prop} {s1 : Shared} (T : ∀ XE, XE = E1 → wpAny M A t Q1 XE s1) : wpAny M A t Q1 E1 s1 := T E1 rfl
/-- A DEF THAT IS ONE try: body, except D as n: suite -/
theorem fn_try {P : Program} {w : World} {K : PySem.W.Frag} {mg : Str → Option Value} {base : Heap} {k : Nat} {f : Addr} {name qual : Str} {params : Arguments} {body : List Stmt} {scope : Scope} {dV kV doc pm cdv ct oc : Value} {an od : Option Addr}
    {osl : Array (Option Value)} {N ps : List Str} {sp : Shared → Sp} {n D : Str} {DC : Addr} {b0 : Stmt} {suite : List Stmt} {tpos hpos np : Pos} {i : Nat}
    (lk : K.lookup f = some ⟨oc, od, .func (PySem.W.fnOf name qual params [.Try body [.ExceptHandler (some (.Name D np)) (some n) (b0 :: suite) hpos] [] [] tpos] scope dV kV doc pm an cdv ct), osl⟩) (hcd : PySem.W.codeIn K cdv qual = true) (S : FnScope N ps scope)
    (hD : mg D = some (.ref DC)) (hi : N[i]? = some n) (hn : scope.names.lookup n = some .local) (hgD : scope.names.lookup D = some .globalImplicit) (hdb : (D == ("__debug__" : Str)) = false)
    (len : ∀ s vs H Q E, sp s vs H Q E → vs.length = ps.length)
    (hbody : ∀ (A : Around) (outer : List Env) (s : Shared) (H : Hp) (vs : List V) (Q : VK) (E : XK), Room k (A.deeper (envOfC qual scope s.heap.objs.size f cdv)) → sp s vs H Q E →
      ∃ (tb : XK → TS) (th : TS), (∀ EH XE, Passes (Fly P w) ((cxOf CX0 P w K mg base N qual scope f cdv A outer s H E).wish XE) EH → PSs ((cxOf CX0 P w K mg base N qual scope f cdv A outer s H E).wish XE) body (tb EH)) ∧
        (∀ a, PSs ((cxOf CX0 P w K mg base N qual scope f cdv A outer s H E).held a) (b0 :: suite) th) ∧
        tb (fun cls _ H' => PySem.W.exmOne K cls (.ref DC) = some true ∧ ∀ (a : Addr) (σ' : St), H' a = none → σ'.length = N.length → th { nx := fun _ H'' => Q .non H'', rt := Q } (σ'.set i (some (.ref a))) (upd H' a (.ext (isClsAt a cls)))) { nx := fun _ H' => Q .non H', rt := Q } (start N vs) H) :
    FnOkS P w K mg base CX0 (k + 1) f (PySem.W.fnOf name qual params [.Try body [.ExceptHandler (some (.Name D np)) (some n) (b0 :: suite) hpos] [] [] tpos] scope dV kV doc pm an cdv ct) ps sp := by
  refine ⟨len, fun A outer s H args us vs Q E hr e0 hb r hsp => ?_⟩
  have hl := len _ _ _ _ _ hsp
  have KX : K.In s.heap := e0.mod.kin.keeps fun b o e => (e0.bs b o e).1
  have lim : s.heap.NoLimit := e0.mod.nolimit.keeps fun b o e => (e0.bs b o e).1
  have hkind : ∀ y ∈ ps.zip us, scope.names.lookup y.1 = some .local ∨ (scope.names.lookup y.1 = some .cell ∧ ((cellsFrom (s.heap.objs.size + 1) scope.names []).lookup y.1).isSome = true) := fun ⟨n, v⟩ hy => by
    rcases S.par n (List.of_mem_zip hy).1 with q | q
    · exact .inl q
    · exact .inr ⟨q, PySem.W.cellsFrom_some _ _ _ (.inl q)⟩
  refine codeAny_call_function hr.depth (KX _ _ lk) rfl S.co S.gen rfl (PySem.W.codeRec_of KX hcd) (hb _ _ _ _ ?_)
  refine wpAny_newFunctionEnv_cells S.kind hkind fun env he s1 x => ?_
  subst he
  refine ⟨lim.keeps x.toInCall.keep, codeAny_func ?_⟩
  obtain ⟨tb, th, hb1, hs1, hq⟩ := hbody A outer s H vs Q E (hr.deeper _) hsp
  have I : Inv (cxOf CX0 P w K mg base N qual scope f cdv A outer s H E) [] (start N vs) H s1 := inv_start S hr.hd e0 hl r x
  generalize hX : cxOf CX0 P w K mg base N qual scope f cdv A outer s H E = X at I hb1 hs1
  have hP : X.prog = P := by rw [← hX]; rfl
  have hw : X.w = w := by rw [← hX]; rfl
  have hA : X.A = A.deeper (envOfC qual scope s.heap.objs.size f cdv) := by rw [← hX]; rfl
  have henv : X.env = envOfC qual scope s.heap.objs.size f cdv := by rw [← hX]; rfl
  have hs0 : X.s₀ = s := by rw [← hX]; rfl
  have hH0 : X.H₀ = H := by rw [← hX]; rfl
  have hout : X.outer = outer := by rw [← hX]; rfl
  have hex : X.ex = [] := by rw [← hX]; rfl
  have hstk : X.stack = X.env :: X.outer := by rw [← hX]; rfl
  have hfrm : X.env.frame = some X.env.locals := by rw [← hX]; rfl
  have hN : X.N = N := by rw [← hX]; rfl
  have hK : X.K = K := by rw [← hX]; rfl
  have hmg : X.mg = mg := by rw [← hX]; rfl
  have hkn : X.env.kindOf n = some .local := by rw [← hX]; exact hn
  have hkD : Gl X D := by rw [← hX]; exact hgD
  have hcls : (X.env.scope.kind == .class || (X.env.scope.kind == .module && X.env.locals != X.env.globals)) = false := by rw [I.ok.kind]; rfl
  -- the end of the call
  have fin : ∀ {σ' : St} {H' : Hp} {v : V} {u : Value} {s' : Shared}, Inv X [] σ' H' s' → RelV v u → Q v H' → CE outer X.prog X.w H s Q u s' := fun {σ' H' v u s'} J rv q => by
    refine ⟨v, H', by rw [← hs0]; exact J.os, J.bare, ?_, J.hok, rv, q⟩
    have := J.base
    unfold Cx.fs at this
    rw [hout, hex, hH0, hs0] at this
    exact this
  show wpAny (model P w) (A.deeper (envOfC qual scope s.heap.objs.size f cdv)) (execs [.Try body [.ExceptHandler (some (.Name D np)) (some n) (b0 :: suite) hpos] [] [] tpos] (envOfC qual scope s.heap.objs.size f cdv)) (fun fl s' => CR CX0 outer P w H s Q E (.ok (.ret (match fl with | .ret v => v | _ => .none))) s') _ s1
  rw [← hA, ← henv]
  have NX : N.Nodup := S.nd
  -- what a raised exception meets
  refine wpAny_execs_cons (wpAny_Try_except ?_)
  rw [← hP, ← hw]
  refine named_xe fun XE hXE => ?_
  refine thn (hb1 (fun cls _ H' => PySem.W.exmOne K cls (.ref DC) = some true ∧ ∀ (a : Addr) (σ' : St), H' a = none → σ'.length = N.length → th { nx := fun _ H'' => Q .non H'', rt := Q } (σ'.set i (some (.ref a))) (upd H' a (.ext (isClsAt a cls)))) XE ?_ [] s1 (start N vs) H _ (I.wish XE) hq) (fun fl s' hs => ?_)
  · -- the handler
    intro pins σ' H1 s2 e s' I1 ⟨a, cls, t, B, H', e1, os, bare, un, hok, fl, old, trk, hm, hq2⟩
    subst e1
    show XE (.ref a) s'
    rw [hXE]
    have hok : HOk X.prog X.w H' s'.heap := by rw [hP, hw]; exact hok
    have I0 : Inv X [] σ' H1 s2 := I1.unwish.pins_of fun p hp => nomatch hp
    have hfr : X.A.frames = some (X.env :: X.outer) := by rw [I0.ok.frames, hstk]
    have fl : Heap.FlyingW B (X.env :: X.outer) a cls (.ref t) s'.heap := by rw [← hstk]; exact fl
    refine wpAny_looks_onW hfr hfrm fl fun h4 held4 up4 => wpAny_landsW held4 fun h5 fl5 up5 => ?_
    have up45 := up4.trans up5
    have ff : s'.heap.FunFrames B X.stack := by rw [hstk]; exact fl.2.2.1
    have na : H' a = none := by
      cases q : H' a with
      | none => rfl
      | some u =>
        obtain ⟨o', _, e4⟩ := trk a u q
        rw [fl.2.1] at e4; cases e4
    have nold : s2.heap.get? a = none := by
      cases q : s2.heap.get? a with
      | none => rfl
      | some o =>
        by_cases hb : a ∈ frs X.stack
        · obtain ⟨_, o', e3, nf⟩ := ff.mem hb
          obtain ⟨oe, ws, hoe, _, hoed, _⟩ := fl.first
          rw [e3] at hoe; cases hoe
          exact absurd hoed (nf ws)
        · obtain ⟨o', _, e4⟩ := old a o q hb
          rw [fl.2.1] at e4; cases e4
    have J5 : Inv X [] σ' H' { s' with heap := h5 } := by
      obtain ⟨u5, k5⟩ := fly_un un hok fl5.1 up45 ff old trk
      exact I0.call' os u5 k5 bare (fun b z => nomatch z)
    refine wpAny_handleBy_cons (codeAny_handlers_test (ld_glob (X := X.held a) (J5.held a) hkD (by show X.mg D = _; rw [hmg]; exact hD) ?_ hdb)) (by intro q; cases q)
    have LT : PySem.W.Looks (model X.prog X.w) h5 (typeOf (.ref a)) cls := by
      obtain ⟨ob, hob, hc⟩ := fl5.there
      subst hc
      exact (PySem.W.Looks.ld hob).andThen .now
    have KX5 : K.In h5 := by rw [← hK]; exact J5.kIn
    refine (PySem.W.exm_one KX5 LT hm).here ?_
    refine codeAny_handlers_suite_as (lands_againW fl5 fun h6 fl6 up6 => ?_)
    have J6 : Inv X [] σ' (upd H' a (.ext (isClsAt a cls))) { s' with heap := h6 } := by
      obtain ⟨u6, k6⟩ := fly_un un hok fl6.1 (up45.trans up6) ff old trk
      refine I0.call' os ⟨u6.keep, u6.slot, fun b o z n' h' => ?_, u6.there, fun b xs z => ?_, fun b o xs z => ?_, fun b ps z => ?_⟩ (fun b u z => ?_) bare (fun b z => nomatch z)
      · have hne : b ≠ a := fun y => by rw [y, nold] at z; cases z
        rw [upd_ne hne]; exact u6.free b o z n' h'
      · have y := u6.tups b xs z
        rw [upd_ne (ne_of_none y na)]; exact y
      · have y := u6.frzs b o xs z
        rw [upd_ne (ne_of_none y na)]; exact y
      · obtain ⟨more, y⟩ := u6.tbls b ps z
        exact ⟨more, by rw [upd_ne (ne_of_none y na)]; exact y⟩
      · by_cases hba : b = a
        · subst hba
          rw [upd_same] at z; cases z
          exact isClsAt.ok (let ⟨ob, hob, hc⟩ := fl6.there; ⟨ob, hob, hc⟩)
        · rw [upd_ne hba] at z
          refine (k6 b u z).stay (fun _ _ _ y => y) (fun c y => ?_) fun c xs y => ?_
          · rw [upd_ne (ne_of_none y na)]; exact y
          · rw [upd_ne (ne_of_none y na)]; exact y
    refine store_ok (X := X.held a) (J6.held a) (by show X.N.Nodup; rw [hN]; exact NX) (by show X.N[i]? = _; rw [hN]; exact hi) (.inl hkn) (v := .ref a) rfl (fun s7 I7 => ?_) (.inr hkn)
    refine wpAny_mono (hs1 a [] s7 _ _ _ I7 (hq2 a σ' na (by rw [I0.len, hN]))) (fun fl' s8 hs => ?_) fun _ _ z => False.elim z
    -- behind the suite
    have done : ∀ {σ8 : St} {H8 : Hp} {v : V} {u : Value}, Inv (X.held a) [] σ8 H8 s8 → RelV v u → Q v H8 → ∀ h9 tk, Heap.SameBut X.env.locals s8.heap h9 → CE outer X.prog X.w H s Q u { s8 with heap := h9, toks := tk } := fun {σ8 H8 v u} J rv q h9 tk sb => by
      have hsz : s.heap.objs.size ≤ X.env.locals := by have := J.ok.above; rw [show (X.held a).s₀ = X.s₀ from rfl, hs0] at this; exact this
      have bs := J.base
      have noE : ∀ b : Addr, b ∉ (X.held a).ex := fun b z => by rw [show (X.held a).ex = X.ex from rfl, hex] at z; cases z
      have hne : ∀ b o, s.heap.get? b = some o → b ≠ X.env.locals := fun b o z y => absurd (Heap.lt_size z) (by rw [y]; exact Nat.not_lt.mpr hsz)
      have e1 : (X.held a).s₀ = s := hs0
      have e2 : (X.held a).H₀ = H := hH0
      have e3 : (X.held a).fs = frs outer := by show frs X.outer = _; rw [hout]
      rw [e1, e2, e3] at bs
      refine ⟨v, H8, by rw [← hs0]; exact J.os, J.bare, ⟨fun b o z n' hb _ => (sb.2 b (hne b o z)).trans (bs.keep b o z n' hb (noE b)), fun b o z n' hb _ => ?_, fun b o z n' _ => bs.free b o z n' (noE b), fun b o z _ => ?_, bs.tups, bs.frzs, bs.tbls⟩, ?_, rv, q⟩
      · obtain ⟨sl, y⟩ := bs.slot b o z n' hb (noE b)
        exact ⟨sl, (sb.2 b (hne b o z)).trans y⟩
      · obtain ⟨o', y⟩ := bs.there b o z (noE b)
        exact ⟨o', (sb.2 b (hne b o z)).trans y⟩
      · intro b u' z
        have hb : b ≠ X.env.locals := fun y => by have := J.free; rw [show (X.held a).env.locals = X.env.locals from rfl, ← y, z] at this; cases this
        refine (J.hok b u' z).stay (fun c v' hc y => (sb.2 c ?_).trans y) (fun _ y => y) fun _ _ y => y
        rcases hc with hc | hc
        · rw [hc]; exact hb
        · intro y
          have := J.free; rw [show (X.held a).env.locals = X.env.locals from rfl, ← y, hc] at this; cases this
    cases fl' with
    | ret u =>
      obtain ⟨v, σ8, H8, J, rv, q⟩ := hs
      obtain ⟨m8, hn8, _⟩ := id J.loc
      exact wpAny_nameGoes_keeps hkn hn8 hcls fun h9 v9 _ sb => done J rv q h9 _ sb
    | next =>
      obtain ⟨σ8, H8, J, q⟩ := hs
      obtain ⟨m8, hn8, _⟩ := id J.loc
      exact wpAny_nameGoes_keeps hkn hn8 hcls fun h9 v9 _ sb => wpAny_execs_nil (done (v := .non) (u := .none) J rfl q h9 _ sb)
    | brk => obtain ⟨_, _, _, q⟩ := hs; exact False.elim q
    | cont => obtain ⟨_, _, _, q⟩ := hs; exact False.elim q
  · cases fl with
    | ret u => obtain ⟨v, σ', H', J, rv, q⟩ := hs; exact fin J.unwish rv q
    | next => obtain ⟨σ', H', J, q⟩ := hs; exact wpAny_execs_nil (wpAny_execs_nil (fin (v := .non) (u := .none) J.unwish rfl q))
    | brk => obtain ⟨_, _, _, q⟩ := hs; exact False.elim q
    | cont => obtain ⟨_, _, _, q⟩ := hs; exact False.elim q
end L2

set_option Elab.async false
set_option linter.all false
set_option maxRecDepth 100000
/-! ### isinstance of a caught exception of an own class: only its type is known -/
namespace PySem.W
open PySem PySem.Spec PySem.Calls PyProof.Rows Builtin Builtin.ObjectAttr Builtin.Getset_descriptor
section
variable {prog : Program} {w : World} {K : Frag} {y D : Addr}
theorem exc_find {M : Model} {h : Heap} {nm : Str} {at1 g1 : Value} (X : K.In h) (ha : findIn K (.ref D) nm = some (some at1)) (hn : specialIn K at1 "__get__" = some (some g1)) (htk : takesIn K at1 = some true) :
    Looks M h (find (.ref y) (.ref D) nm) (.bind g1 at1) := by
  have K1 := looks_findIn (M := M) X ha
  have K2 : Looks M h (getOf (some at1)) (some g1) := looks_specialIn X hn
  have K3 := looks_takesIn (M := M) X htk
  exact K1.andThen (K2.andThen ((show Looks M h (dataDescriptor? (some at1) (some g1)) (some (g1, at1)) from K3.andThen .now).andThen (Looks.tag .now)))
theorem exc_cls_get {A : Around} {R : Result → Shared → Prop} {s : Shared} {tp : Value} (X : K.In s.heap) (LT : Looks (model prog w) s.heap (typeOf (.ref y)) (.ref D)) (hm : mroIn K D (.type "object") = some true) (k : R (.ok (.ret (.ref D))) s) :
    codeAny (model prog w) A (.call (.builtin "getset_descriptor.__get__") ⟨[.builtin "object.__class__", .ref y, tp], []⟩) R s := by
  obtain ⟨h1, gs, dr, tk, os⟩ := s
  have LM := looks_mroIn (M := model prog w) X hm
  refine codeAny_call_builtin KF.slot_gs.plain KF.entry_gs (KF.slot_gs.check _ _ _ _ _ _ _ _ KF.type_class (KF.args_gs _ _ _) ?_)
  unfold Builtin.«getset_descriptor.__get__»
  unfold descrGet
  rw [dga_obj]
  refine wpAny_bind (wpAny_pure ?_)
  unfold descrGetter descrCheckInstance
  unfold descrNameAndClass isInstance
  simp only [KF.owner_class]
  repeat lk
  refine ⟨Code.quiet_builtin _ (by decide +kernel), codeAny_builtin KF.entry_class ?_⟩
  unfold Builtin.«object.__class__»
  unfold shownTypeOf
  repeat lk
  exact k
/-- what an own class of exceptions answers to a look -/
structure ExcLook (K : Frag) (D : Addr) : Prop where
  g1 : findIn K (.ref D) "__getattribute__" = some (some (.builtin "BaseException.__getattribute__"))
  g2 : findIn K (.ref D) "__getattr__" = some none
  be : mroIn K D (.type "BaseException") = some true
  a : findIn K (.ref D) "__class__" = some (some (.builtin "object.__class__"))
  n : specialIn K (.builtin "object.__class__") "__get__" = some (some (.builtin "getset_descriptor.__get__"))
  t : takesIn K (.builtin "object.__class__") = some true
  m : mroIn K D (.type "object") = some true
theorem exc_check {M : Model} {A : Around} {E : Value → Shared → Prop} {nameV : Value} {Q : Unit → Shared → Prop} {s : Shared} (L : ExcLook K D) (X : K.In s.heap) (LT : Looks M s.heap (typeOf (.ref y)) (.ref D)) (hq : Q () s) :
    wpAny M A (checkBuiltinCall "BaseException.__getattribute__" ⟨[.ref y, nameV], []⟩) Q E s := by
  obtain ⟨h1, gs, dr, tk, os⟩ := s
  have LM := looks_mroIn (M := M) X L.be
  have hk : builtinKind "BaseException.__getattribute__" = some .slot := by decide +kernel
  have hsplit : splitId "BaseException.__getattribute__" = some ("BaseException", "__getattribute__") := by decide +kernel
  have ha := F.args_bexc_ga (.ref y) nameV
  simp only [checkBuiltinCall, hk, hsplit]
  refine wpAny_bind ?_
  unfold isInstance
  repeat (first | lk | wp_step)
  exact hq
theorem exc_entry {A : Around} {E : Value → Shared → Prop} {tk : Tok} {Q : Fin → Shared → Prop} {s : Shared} (L : ExcLook K D) (X : K.In s.heap) (LT : Looks (model prog w) s.heap (typeOf (.ref y)) (.ref D)) (hq : Q (.done (.ret (.ref D))) s) :
    wpAny (model prog w) A (Builtin.«object.__getattribute__» ⟨[.ref y, .str "__class__" tk], []⟩) Q E s := by
  obtain ⟨h1, gs, dr, tk', os⟩ := s
  have K3 := exc_find (M := model prog w) (y := y) X L.a L.n L.t
  unfold Builtin.«object.__getattribute__»
  have e1 : slotArgs "__getattribute__" 1 ⟨[.ref y, .str "__class__" tk], []⟩ = pure (.ref y, [.str "__class__" tk]) := rfl
  have e2 : attrName (.str "__class__" tk) = pure "__class__" := rfl
  dsimp only
  rw [e1]
  refine wpAny_bind (wpAny_pure ?_)
  dsimp only
  rw [e2]
  refine wpAny_bind (wpAny_pure (wpAny_bind (LT.at (wpAny_bind (K3.at ?_)))))
  show wpAny _ _ (holding [.builtin "object.__class__"] (call (.builtin "getset_descriptor.__get__") [.builtin "object.__class__", .ref y, .ref D]) >>= ret) _ _ _
  exact wpAny_bind (wpAny_holding (wpAny_call (exc_cls_get X LT L.m (wpAny_pure hq))))
theorem exc_cls {A : Around} {E : Value → Shared → Prop} {Q : Option Value → Shared → Prop} {s : Shared} (L : ExcLook K D)
    (X : K.In s.heap) (LT : Looks (model prog w) s.heap (typeOf (.ref y)) (.ref D)) (k : Q (some (.ref D)) { s with toks := s.toks + 1 }) : wpAny (model prog w) A (getAttr? (.ref y) "__class__") Q E s := by
  obtain ⟨h1, gs, dr, tk, os⟩ := s
  have K1 := looks_findIn (M := model prog w) X L.g1
  have K2 := looks_findIn (M := model prog w) X L.g2
  have f3 := F.excAttr_ValueError.ga.bind (.ref y)
  unfold getAttr? getAttrBy?
  unfold getAttrBy
  refine wpAny_bind (wpAny_mkText (wpAny_bind (wpAny_attempt (wpAny_holding (wpAny_bind (LT.at (wpAny_bind (K1.at ?_))))))))
  have e1 : (Value.builtin "BaseException.__getattribute__" == Value.builtin "object.__getattribute__") = false := by decide +kernel
  have e0 : (onTheHeap (Value.ref D) && (Value.builtin "BaseException.__getattribute__" == Value.builtin "object.__getattribute__")) = false := by rw [e1]; rfl
  dsimp only
  rw [e0]
  show wpAny _ _ (getAttrByItsOwn _ _ _ _ _ _) _ _ _
  unfold getAttrByItsOwn
  refine wpAny_bind (K2.at ?_)
  refine wpAny_bind (wpAny_attempt (wpAny_holding ?_))
  show wpAny _ _ (boundAndCalled _ _ _) _ _ _
  unfold boundAndCalled
  rw [f3]
  refine wpAny_bind (wpAny_pure ?_)
  refine wpAny_call (codeAny_call_builtin F.excAttr_ValueError.ga.plain F.entry_bexc_ga (exc_check L X LT (exc_entry L X LT ?_)))
  exact handed_on rfl (wpAny_pure k)
theorem kitx_exc (hcl : (clsIn K D).isSome = true) (L : ExcLook K D) :
    KitX K (.ref y) (.ref D) (L2.isClsAt y (.ref D)) where
  ty := fun M h _ ⟨o, e, c⟩ => c ▸ (Looks.ld e).andThen .now
  it := fun _ _ X _ => by
    obtain ⟨cd0, z⟩ := Option.isSome_iff_exists.mp hcl
    unfold clsIn at z
    split at z
    · rename_i ho
      intro A1 Q1 E1 s1 kp q
      unfold isType
      unfold loadHead
      exact wpAny_bind (wpAny_loadPart (kp _ _ (X _ _ ho)) (wpAny_pure q))
    · cases z
  ne := fun h tp dd its n sl X htp => by
    obtain ⟨cd0, z⟩ := Option.isSome_iff_exists.mp hcl
    refine Bool.eq_false_iff.mpr fun q => ?_
    have e : D = tp := Value.ref.inj (beq_iff_eq.mp q)
    subst e
    unfold clsIn at z
    split at z
    · rename_i ho
      have bad := (X _ _ ho).symm.trans htp
      cases bad
    · cases z
  ca := fun X p k => exc_cls L X (let ⟨o, e, c⟩ := p; c ▸ (Looks.ld e).andThen .now) k
end
end PySem.W

set_option Elab.async false
set_option linter.all false
set_option maxRecDepth 100000
namespace L2
open PySem PySem.Spec PyProof.Rows
/-! ### calls within an except suite -/
structure RoomH (k : Nat) (A : Around) : Prop where
  dp : A.depth + 3 * k + 5 < recursionLimit
  un : A.units + 16 * k + 200 < cLine
  gd : A.guards = some []
theorem Room.h {k : Nat} {A : Around} (r : Room k A) : RoomH k A := ⟨r.dp, r.un, r.gd⟩
theorem Room.held {k : Nat} {A : Around} (r : Room k A) (e : Option Value) : RoomH k (A.mark e) := ⟨r.dp, r.un, r.gd⟩
theorem RoomH.deep {k : Nat} {A : Around} (r : RoomH (k + 1) A) (env : Env) : RoomH k (A.deeper env) :=
  ⟨by have := r.dp; show A.depth + 1 + 3 * k + 5 < _; omega, by have := r.un; show A.units + 3 + 16 * k + 200 < _; omega, r.gd⟩
theorem RoomH.dpt {k : Nat} {A : Around} (r : RoomH k A) : A.depth < recursionLimit := by have := r.dp; omega
/-- as FnOk, wherever it is called -/
structure FnOkH (P : Program) (w : World) (K : PySem.W.Frag) (mg : Str → Option Value) (base : Heap) (k : Nat) (f : Addr) (fd : FuncData) (ps : List Str) (sp : Sp) : Prop where
  len : ∀ vs H Q E, sp vs H Q E → vs.length = ps.length
  run : ∀ (A : Around) (outer : List Env) (s : Shared) (H : Hp) (args : Args) (us : List Value) (vs : List V) (Q : VK) (E : XK), RoomH k A → Env0 P w K mg base A outer s H → BindsTo s fd args (ps.zip us) → Vals vs us → sp vs H Q E →
    codeAny (model P w) A (.call (.ref f) args) (CR CX0 outer P w H s Q E) s
/-- the context of such a def's body: not calm, nothing is raised -/
abbrev cxH (P : Program) (w : World) (K : PySem.W.Frag) (mg : Str → Option Value) (base : Heap) (N : List Str) (qual : Str) (scope : Scope) (f : Addr) (cd : Value) (A : Around) (outer : List Env) (s : Shared) (H : Hp) (E : XK) : Cx :=
  { cxOf CX0 P w K mg base N qual scope f cd A outer s H E with calm := false, xe := fun _ _ => False }
theorem fn_ofH {P : Program} {w : World} {K : PySem.W.Frag} {mg : Str → Option Value} {base : Heap} {k : Nat} {f : Addr} {name qual : Str} {params : Arguments} {body : List Stmt} {scope : Scope} {dV kV doc pm cdv ct oc : Value} {an od : Option Addr}
    {osl : Array (Option Value)} {N ps : List Str} {sp : Sp} (lk : K.lookup f = some ⟨oc, od, .func (PySem.W.fnOf name qual params body scope dV kV doc pm an cdv ct), osl⟩) (hcd : PySem.W.codeIn K cdv qual = true) (S : FnScope N ps scope)
    (len : ∀ vs H Q E, sp vs H Q E → vs.length = ps.length)
    (hbody : ∀ (A : Around) (outer : List Env) (s : Shared) (H : Hp) (vs : List V) (Q : VK) (E : XK), RoomH k (A.deeper (envOfC qual scope s.heap.objs.size f cdv)) → sp vs H Q E →
      ∃ t, PSs (cxH P w K mg base N qual scope f cdv A outer s H E) body t ∧ t { nx := fun _ H' => Q .non H', rt := Q } (start N vs) H) :
    FnOkH P w K mg base (k + 1) f (PySem.W.fnOf name qual params body scope dV kV doc pm an cdv ct) ps sp := by
  refine ⟨len, fun A outer s H args us vs Q E hr e0 hb r hsp => ?_⟩
  have hl := len _ _ _ _ hsp
  have kb : ∀ b o, base.get? b = some o → s.heap.get? b = some o := fun b o e => (e0.bs b o e).1
  have hkind : ∀ y ∈ ps.zip us, scope.names.lookup y.1 = some .local ∨ (scope.names.lookup y.1 = some .cell ∧ ((cellsFrom (s.heap.objs.size + 1) scope.names []).lookup y.1).isSome = true) := fun ⟨n, v⟩ hy => by
    rcases S.par n (List.of_mem_zip hy).1 with q | q
    · exact .inl q
    · exact .inr ⟨q, PySem.W.cellsFrom_some _ _ _ (.inl q)⟩
  refine codeAny_call_function hr.dpt (e0.mod.kin.keeps kb _ _ lk) rfl S.co S.gen rfl (PySem.W.codeRec_of (e0.mod.kin.keeps kb) hcd) (hb _ _ _ _ ?_)
  refine wpAny_newFunctionEnv_cells S.kind hkind fun env he s1 x => ?_
  subst he
  refine ⟨(e0.mod.nolimit.keeps kb).keeps x.toInCall.keep, codeAny_func ?_⟩
  obtain ⟨t, ht, hq⟩ := hbody A outer s H vs Q E (hr.deep _) hsp
  have e1 : Env0 P w K mg base { A with handled := none } outer s H := ⟨e0.frames, e0.mod, e0.bs, e0.bsz, e0.funs, e0.frf, e0.hok, e0.bare⟩
  have I0 : Inv (cxOf CX0 P w K mg base N qual scope f cdv { A with handled := none } outer s H E) [] (start N vs) H s1 := inv_start S rfl e1 hl r x
  have I : Inv (cxH P w K mg base N qual scope f cdv A outer s H E) [] (start N vs) H s1 :=
    ⟨⟨I0.ok.mod, I0.ok.kind, I0.ok.glob, I0.ok.blt, I0.ok.above, I0.ok.inj, I0.ok.has, I0.ok.cab, (fun z => nomatch z), I0.ok.frames, I0.ok.stk, I0.ok.exf, I0.ok.bs, I0.ok.bsz, I0.ok.noex, I0.ok.exfs, I0.ok.funs, I0.ok.frf⟩, I0.os, I0.bare, I0.base, I0.loc, I0.cell, I0.free, I0.freeC, I0.pin, I0.hok, I0.len⟩
  refine wpAny_mono (ht [] s1 (start N vs) H _ I hq) (fun fl s' hs => ?_) fun e s' hs => False.elim hs
  cases fl with
  | ret u =>
    obtain ⟨v, σ', H', J, rv, q⟩ := hs
    exact ⟨v, H', J.os, J.bare, J.base, J.hok, rv, q⟩
  | next =>
    obtain ⟨σ', H', J, q⟩ := hs
    exact ⟨.non, H', J.os, J.bare, J.base, J.hok, rfl, q⟩
  | brk => obtain ⟨_, _, _, q⟩ := hs; exact False.elim q
  | cont => obtain ⟨_, _, _, q⟩ := hs; exact False.elim q
theorem Fun.okH {P : Program} {w : World} {K : PySem.W.Frag} {mg : Str → Option Value} {base : Heap} {x qual : Str} {st : Stmt} {f : Addr} {fd : FuncData} {N ps : List Str} {k : Nat} {sp : Sp} (F : Fun K x qual st f fd) (S : FnScope N ps (defScope st)) (len : ∀ vs H Q E, sp vs H Q E → vs.length = ps.length)
    (hbody : ∀ (cdv : Value) (A : Around) (outer : List Env) (s : Shared) (H : Hp) (vs : List V) (Q : VK) (E : XK), RoomH k (A.deeper (envOfC qual (defScope st) s.heap.objs.size f cdv)) → sp vs H Q E →
      ∃ t, PSs (cxH P w K mg base N qual (defScope st) f cdv A outer s H E) (defBody st) t ∧ t { nx := fun _ H' => Q .non H', rt := Q } (start N vs) H) : FnOkH P w K mg base (k + 1) f fd ps sp := by
  obtain ⟨oc, od, kV, doc, pm, an, cdv, ct, osl, rfl, lk, hcd⟩ := F.ex
  exact fn_ofH lk hcd S len fun A outer s H vs Q E hr hsp => hbody cdv A outer s H vs Q E hr hsp
structure HasFnH (P : Program) (w : World) (K : PySem.W.Frag) (mg : Str → Option Value) (base : Heap) (x : Str) (ps : List Str) (k : Nat) (sp : Sp) : Prop where
  ex : ∃ (f : Addr) (fd : FuncData), mg x = some (.ref f) ∧ PySem.W.keepIn K (.ref f) = true ∧ Binds K fd ps [] ∧ FnOkH P w K mg base k f fd ps sp
theorem pe_fnH {X : Cx} {x : Str} {ps : List Str} {k : Nat} {sp : Sp} {e : Expr} {es : List Expr} {t : TA} {p pos : Pos} (F : HasFnH X.prog X.w X.K X.mg X.base x ps k sp) (hr : RoomH k X.A) (hg : Gl X x) (ha : PA X (e :: es) t) (hdb : (x == ("__debug__" : Str)) = false := by decide)
    (he : starEach (e :: es) X.env = (false, eval e X.env) :: starEach es X.env := by rfl) (hpl : (backTo pos (starEach es X.env)).any (·.1) = false := by rfl) : PE X (.Call (.Name x p) (e :: es) [] pos) (tCall sp [] E0 t) := by
  obtain ⟨f, fd, hm, hk, hb, F⟩ := F.ex
  intro pins s σ H Q I h
  refine wpAny_Call_Name_kw (ld_glob I hg hm ?_ hdb)
  refine PySem.W.callWith_K (h₀ := X.base) I.ok.mod.kin hk (thn (ha pos pins s σ H _ I h) fun us s1 ⟨vs, H1, I1, r1, q1⟩ => ⟨I1.kIn, ?_⟩) he hpl
  have r2 : Vals (vs ++ []) (us ++ []) := r1.append .nil
  have hl : (us ++ []).length = ps.length := by rw [← r2.length]; exact F.len _ _ _ _ q1
  refine wpAny_call (codeAny_mono (F.run X.A X.stack s1 H1 ⟨us, []⟩ (us ++ []) (vs ++ []) Q E0 hr I1.env0 (hb s1 us I1.kIn hl) r2 q1) fun r s' hq => ?_)
  cases r with
  | error e => exact hq.elim
  | ok fl =>
    cases fl with
    | ret u => exact I1.after hq
    | next => exact False.elim hq
    | brk => exact False.elim hq
    | cont => exact False.elim hq
/-! ### what is never reached -/
theorem pe_never {X : Cx} {e : Expr} : PE X e (fun _ _ _ => False) := fun _ _ _ _ _ _ h => h.elim
/-! ### isinstance of a caught exception -/
structure ECls (K : PySem.W.Frag) (D : Addr) : Prop where
  c : (PySem.W.clsIn K D).isSome = true
  l : PySem.W.ExcLook K D
def clsV : V → Option Value
  | .ref C => some (.ref C)
  | .ty n => some (.type n)
  | _ => none
def rIsiE (K : PySem.W.Frag) : List V → Hp → VK → Prop := fun xs H Q => ∃ a D v c b, xs = [.ref a, v] ∧ clsV v = some c ∧ H a = some (.ext (isClsAt a (.ref D))) ∧ ECls K D ∧ PySem.W.kitOne K (.ref D) c = some b ∧ Q (.bl b) H
section
variable {X : Cx}
theorem call_isiE : CallR X (.builtin "isinstance") (rIsiE X.K) := by
  intro pins s σ H vs us Q I r h
  obtain ⟨a, D, v, c, b, rfl, hv, ha, ec, e, q⟩ := h
  cases r with
  | cons r rr =>
    cases rr with
    | cons r' rr =>
      cases rr
      cases r
      rename_i u2
      have hc : c = u2 := by
        cases v with
        | ref C => simp only [clsV, Option.some.injEq] at hv; cases r'; exact hv.symm
        | ty n => simp only [clsV, Option.some.injEq] at hv; cases r'; exact hv.symm
        | _ => simp [clsV] at hv
      subst hc
      obtain ⟨p, _, _⟩ := (show ObjOk X.prog X.w H s.heap a (.ext (isClsAt a (.ref D))) from I.hok a _ ha)
      exact PySem.W.kia_one (PySem.W.kitx_exc ec.c ec.l) I.kIn p e (fun z => nomatch z) fun tk => ⟨.bl b, H, I.tok _, rfl, q⟩
theorem bools_of {bs : List Bool} : ∀ {us : List Value}, Vals (bs.map V.bl) us → us = bs.map Value.bool := by
  induction bs with
  | nil => intro us r; cases r; rfl
  | cons b bs ih =>
    intro us r
    cases r with
    | cons r rr => rw [ih rr]; cases r; rfl
def rCountB : V → List V → Hp → VK → Prop := fun x vs H Q => ∃ (l : Addr) (bs : List Bool), x = .ref l ∧ vs = [.bl true] ∧ H l = some (.lst (bs.map V.bl)) ∧ Q (.int ((bs.countP fun b => b) : Nat)) H
theorem mt_countB : MtM X "list.count" rCountB := by
  intro pins s σ H x vs v us Q I rx rv h
  obtain ⟨l, bs, rfl, rfl, hH, q⟩ := h
  cases rx
  obtain ⟨u, rfl, ru⟩ := rv.one
  cases ru
  obtain ⟨z, its, n, r, hl, e⟩ := I.lstM hH
  have hi := bools_of r
  subst hi
  refine call_meets F.slot_list_count ⟨_, e, rfl⟩ F.entry_list_count (F.args_list_count_2 _ _) (PySem.SeqAt.list_countAt l _ n none #[] (.bool true) (fun y => match y with | .bool b => b | _ => false)) ⟨e, fun y hy => ?_, ?_⟩
  · obtain ⟨b, _, rfl⟩ := List.mem_map.mp (by simpa using hy : y ∈ bs.map Value.bool)
    have := PySem.SeqAt.EqAt.bool_bool (A := X.A.in1) (s := s) b true
    cases b <;> exact this
  · have hc : List.countP (fun y => match y with | Value.bool b => b | _ => false) (List.map Value.bool bs).toArray.toList = bs.countP fun b => b := by
      rw [List.toList_toArray, List.countP_map]
      rfl
    rw [hc]
    exact ⟨.int ((bs.countP fun b => b) : Nat), H, I.tok _, ⟨_, rfl⟩, q⟩
def rIndexB : V → List V → Hp → VK → Prop := fun x vs H Q => ∃ (l : Addr) (bs : List Bool) (j : Nat), x = .ref l ∧ vs = [.bl true] ∧ H l = some (.lst (bs.map V.bl)) ∧ bs[j]? = some true ∧ (∀ m, m < j → bs[m]? = some false) ∧ j < 1000 ∧ Q (.int (j : Nat)) H
theorem mt_indexB : MtM X "list.index" rIndexB := by
  intro pins s σ H x vs v us Q I rx rv h
  obtain ⟨l, bs, j, rfl, rfl, hH, hj, hno, hs, q⟩ := h
  cases rx
  obtain ⟨u, rfl, ru⟩ := rv.one
  cases ru
  obtain ⟨z, its, n, r, hl, e⟩ := I.lstM hH
  have hi := bools_of r
  subst hi
  obtain ⟨hj1, hj2⟩ := List.getElem?_eq_some_iff.mp hj
  refine call_meets F.slot_list_index ⟨_, e, rfl⟩ F.entry_list_index (F.args_list_index_2 _ _) (PySem.SeqAt.list_indexAt l _ n none #[] (.bool true) (fun y => match y with | .bool b => b | _ => false) j (by simpa using hj1) (by omega) (by simp [hj2]) (fun m hm hmj => ?_)) ⟨e, fun y hy => ?_, ?_⟩
  · obtain ⟨h1, h2⟩ := List.getElem?_eq_some_iff.mp (hno m hmj)
    simp [h2]
  · obtain ⟨b, _, rfl⟩ := List.mem_map.mp (by simpa using hy : y ∈ bs.map Value.bool)
    have := PySem.SeqAt.EqAt.bool_bool (A := X.A.in1) (s := s) b true
    cases b <;> exact this
  · exact ⟨.int (j : Nat), H, I.tok _, ⟨_, rfl⟩, q⟩
end
end L2

set_option Elab.async false
set_option linter.all false
set_option maxRecDepth 100000
namespace L2
open PySem PySem.Spec PyProof.Rows
/-! ### an exception passes any frame of ours -/
theorem fly_passG {X : Cx} {E : XK} (hstk : X.stack = X.env :: X.outer) (hfrm : X.env.frame = some X.env.locals) (hex : X.ex = [])
    (hxe : ∀ e s', wpAny (model X.prog X.w) X.A (leaving X.env e) (fun _ s'' => Fly X.prog X.w X.outer X.H₀ X.s₀ E e s'') (fun e' s'' => Fly X.prog X.w X.outer X.H₀ X.s₀ E e' s'') s' → X.xe e s') : Passes (Fly X.prog X.w) X E := by
  intro pins σ H1 s1 e s' I ⟨a, cls, t, B, H', e1, os, bare, un, hok, fl, old, trk, q⟩
  subst e1
  have J := I.call' os un hok bare (fun b z => nomatch z)
  have hfr : X.A.frames = some (X.env :: X.outer) := by rw [I.ok.frames, hstk]
  have noA : ∀ b : Addr, b ∉ X.ex := fun b z => by rw [hex] at z; cases z
  have inB : ∀ b o, X.s₀.heap.get? b = some o → b ∉ frs X.outer → ∃ o', s'.heap.get? b = some o' ∧ B.get? b = some o' := fun b o e hb => by
    obtain ⟨o1, e1⟩ := I.base.there b o e (noA b)
    refine old b o1 e1 fun z => ?_
    rcases List.mem_cons.mp (I.stkSub b z) with z | z
    · exact absurd (Heap.lt_size e) (by rw [z]; exact Nat.not_lt.mpr I.ok.above)
    · exact hb z
  refine hxe _ _ ?_
  rw [hstk] at fl
  refine wpAny_leaves_onW hfr hfrm fl fun h' fl' up => ?_
  have ub : Un (frs X.outer) [] X.H₀ H' X.s₀.heap s'.heap := by
    have := J.base
    rw [hex] at this
    exact this
  obtain ⟨u2, k2⟩ := fly_un ub J.hok fl'.1 up fl.2.2.1.2.2 inB trk
  refine ⟨a, cls, t, B, H', rfl, os.trans I.os, bare, u2, k2, fl', fun b o e hb => ?_, fun b u e => ?_, q⟩
  · obtain ⟨o', _, e4⟩ := inB b o e hb
    exact ⟨o', fl'.1 b o' e4, e4⟩
  · obtain ⟨o', _, e4⟩ := trk b u e
    exact ⟨o', fl'.1 b o' e4, e4⟩
/-! ### a lambda's frame -/
abbrev lamEnv (qual : Str) (scope : Scope) (L f : Addr) (cd : Value) (clos : List (Str × Addr)) : Env := PySem.W.envX qual scope L f cd clos
def cxLam (P : Program) (w : World) (K : PySem.W.Frag) (mg : Str → Option Value) (base : Heap) (N : List Str) (qual : Str) (scope : Scope) (f : Addr) (cd : Value) (clos : List (Str × Addr)) (A : Around) (outer : List Env) (s : Shared) (H : Hp) (E : XK) : Cx where
  prog := P
  w := w
  K := K
  mg := mg
  base := base
  A := A.deeper (lamEnv qual scope s.heap.objs.size f cd clos)
  N := N
  s₀ := s
  H₀ := H
  env := lamEnv qual scope s.heap.objs.size f cd clos
  outer := outer
  stack := lamEnv qual scope s.heap.objs.size f cd clos :: outer
  ex := []
  calm := true
  fn := fun _ => false
  pn := []
  xe := fun e s' => wpAny (model P w) (A.deeper (lamEnv qual scope s.heap.objs.size f cd clos)) (leaving (lamEnv qual scope s.heap.objs.size f cd clos) e) (fun _ s'' => Fly P w outer H s E e s'') (fun e' s'' => Fly P w outer H s E e' s'') s'
theorem lam_pass {P : Program} {w : World} {K : PySem.W.Frag} {mg : Str → Option Value} {base : Heap} {N : List Str} {qual : Str} {scope : Scope} {f : Addr} {cd : Value} {clos : List (Str × Addr)} {A : Around} {outer : List Env} {s : Shared} {H : Hp} {E : XK} :
    Passes (Fly P w) (cxLam P w K mg base N qual scope f cd clos A outer s H E) E := fly_passG (X := cxLam P w K mg base N qual scope f cd clos A outer s H E) rfl rfl rfl fun _ _ h => h
/-- a lambda's text, as far as a frame asks: no parameters, each of its own names is free (or global) -/
structure LamScope (scope : Scope) : Prop where
  co : scope.isCoroutine = false
  gen : scope.isGenerator = false
  kind : scope.kind = .function
  nocell : ∀ x ∈ scope.names, x.2 ≠ .cell
/-- THE CALL of a lambda without parameters, at a state in which its cells stand -/
theorem lam_run {P : Program} {w : World} {K : PySem.W.Frag} {mg : Str → Option Value} {base : Heap} {N : List Str} {qual name : Str} {params : Arguments} {scope : Scope} {body : Expr} {f c' : Addr} {clos : List (Str × Addr)} {pm ctv : Value} {o : Obj} {A : Around} {outer : List Env} {s : Shared} {H : Hp} {Q : VK} {E : XK} {vs : List V} {k : Nat} {t : TE}
    (S : LamScope scope) (hr : Room (k + 1) A) (e0 : Env0 P w K mg base A outer s H) (ho : s.heap.get? f = some o) (hd : o.data = .func (PySem.W.kla_fn name qual params body scope clos pm (.ref c') ctv)) (hcd : s.heap.CodeRec (.ref c') qual)
    (hbind : bindArgs (PySem.W.kla_fn name qual params body scope clos pm (.ref c') ctv) ⟨[], []⟩ = pure [])
    (hinj : ∀ x y c, clos.lookup x = some c → clos.lookup y = some c → x = y) (hhas : ∀ x, scope.names.lookup x = some .free → ∃ c, clos.lookup x = some c)
    (hcell : ∀ x c, clos.lookup x = some c → (∃ v, s.heap.IsCell c v) ∧ H c = none) (hN : N.length = vs.length)
    (hv : ∀ (i : Nat) (x : Str) (v : V), N[i]? = some x → vs[i]? = some v → scope.names.lookup x = some .free ∧ ∃ c u, clos.lookup x = some c ∧ s.heap.IsCell c (some u) ∧ RelV v u)
    (hb : Room k (A.deeper (lamEnv qual scope s.heap.objs.size f (.ref c') clos)) → PE (cxLam P w K mg base N qual scope f (.ref c') clos A outer s H E) body t) (hq : t (vs.map some) H Q) :
    codeAny (model P w) A (.call (.ref f) ⟨[], []⟩) (CR (Fly P w) outer P w H s Q E) s := by
  have kb : ∀ b o, base.get? b = some o → s.heap.get? b = some o := fun b o e => (e0.bs b o e).1
  refine PySem.W.kla_callFunE hr.depth ho hd S.co S.gen rfl hcd ?_
  rw [hbind]
  refine wpAny_pure (wpAny_newFunctionEnv S.nocell (fun x hx => nomatch hx) (fun h₁ hns hsb => ?_) S.kind)
  have hk₁ : ∀ b o, s.heap.get? b = some o → h₁.get? b = some o := fun b o e => (hsb.2 b (Nat.ne_of_lt (Heap.lt_size e))).trans (Heap.get?_push_of_some _ e)
  refine ⟨(e0.mod.nolimit.keeps kb).keeps hk₁, ?_⟩
  show codeAny _ _ (.expr body (lamEnv qual scope s.heap.objs.size f (.ref c') clos)) _ _
  refine PySem.W.kla_codeExpr ?_
  have isK : ∀ {c : Addr} {v : Option Value}, s.heap.IsCell c v → h₁.IsCell c v := fun ⟨ob, e, d⟩ => ⟨ob, hk₁ _ _ e, d⟩
  have noA : ∀ b : Addr, b ∉ ([] : List Addr) := fun b z => nomatch z
  have I : Inv (cxLam P w K mg base N qual scope f (.ref c') clos A outer s H E) [] (vs.map some) H { s with heap := h₁, toks := s.toks + ([] : List (Str × Value)).length } := by
    refine ⟨⟨e0.mod, S.kind, rfl, rfl, Nat.le_refl _, hinj, fun y hy => ?_, (fun y c hf _ => nomatch hf), fun _ => hr.hd, Around.frames_deeper e0.frames, .inr ⟨rfl, rfl⟩, fun b z => absurd z (noA b), e0.bs, e0.bsz, fun b _ _ => noA b, fun b z => absurd z (noA b), e0.funs, e0.frf⟩,
      rfl, e0.bare, Un.kept hk₁, ⟨_, hns, fun i x v h1 h2 h3 => ?_⟩, fun x c h => ?_, e0.hok.fresh (Nat.le_refl _), fun x c h => (hcell x c h).2, (fun p hp => nomatch hp), e0.hok.kept hk₁, ?_⟩
    · have hy : scope.names.lookup y = some .cell ∨ scope.names.lookup y = some .free := hy
      rcases hy with hy | hy
      · exact absurd rfl (S.nocell _ (PySem.mem_of_lookup hy))
      · exact hhas y hy
    · have h2' : vs[i]? = some v := by
        rw [List.getElem?_map] at h2
        cases e : vs[i]? with
        | none => rw [e] at h2; cases h2
        | some u => rw [e] at h2; cases h2; rfl
      obtain ⟨hf, c, u, hc, hic, rv⟩ := hv i x v h1 h2'
      exact ⟨u, rv, .inr ⟨.inr hf, c, hc, isK hic⟩⟩
    · obtain ⟨⟨v, hv'⟩, _⟩ := hcell x c h
      exact ⟨v, isK hv'⟩
    · rw [List.length_map]
      exact hN.symm
  refine wpAny_mono (hb (hr.deeper _) [] _ _ H Q I hq) (fun u s' ⟨v, H', J, rv, q⟩ => ?_) fun e s' h => h
  exact ⟨v, H', J.os, J.bare, J.base, J.hok, rv, q⟩
/-! ### what a caller knows of a lambda -/
/-- called at any state in which nothing untracked has changed since s -/
def LamC (P : Program) (w : World) (K : PySem.W.Frag) (mg : Str → Option Value) (base : Heap) (s : Shared) (H : Hp) (f : Addr) (k : Nat) (G : VK → XK → Prop) : Prop :=
  (∃ o fd, s.heap.get? f = some o ∧ o.data = .func fd) ∧ H f = none ∧
  ∀ (A : Around) (outer : List Env) (s2 : Shared) (fs : List Addr) (Q : VK) (E : XK), Room k A → Env0 P w K mg base A outer s2 H → Un fs [] H H s.heap s2.heap → G Q E → codeAny (model P w) A (.call (.ref f) ⟨[], []⟩) (CR (Fly P w) outer P w H s2 Q E) s2
/-- p() of a local name that holds a lambda, at the entry's heap -/
def tLam (G : VK → XK → Prop) (EH : XK) (i : Nat) (H0 : Hp) (f : Addr) : TE := fun σ H Q => σ[i]? = some (some (.ref f)) ∧ H = H0 ∧ G Q EH
theorem pe_lamCall {X : Cx} {i : Nat} {x : Str} {p pos : Pos} {f : Addr} {k : Nat} {G : VK → XK → Prop} {EH : XK} (hN : X.N[i]? = some x) (hl : X.env.scope.names.lookup x = some .local) (hdb : (x == ("__debug__" : Str)) = false) (hcd : (x == ("__classdict__" : Str)) = false) (hex : X.ex = [])
    (L : LamC X.prog X.w X.K X.mg X.base X.s₀ X.H₀ f k G) (hr : Room k X.A) (hx : Passes (Fly X.prog X.w) X EH) : PE X (.Call (.Name x p) [] [] pos) (tLam G EH i X.H₀ f) := by
  intro pins s σ H Q I ⟨h1, h2, h3⟩
  subst h2
  have ub : Un X.fs [] X.H₀ X.H₀ X.s₀.heap s.heap := by
    have := I.base
    rw [hex] at this
    exact this
  obtain ⟨⟨o, fd, ho, hfd⟩, hf0, hrun⟩ := L
  refine wpAny_Call_Name_kw (thn (pe_var hN (.inl hl) hdb hcd pins s σ X.H₀ (fun v H' => v = .ref f ∧ H' = X.H₀) I ⟨_, h1, rfl, rfl⟩) fun u s1 ⟨v, H1, I1, r1, q1, q2⟩ => ?_)
  subst q1
  subst q2
  cases r1
  have ub1 : Un X.fs [] X.H₀ X.H₀ X.s₀.heap s1.heap := by
    have := I1.base
    rw [hex] at this
    exact this
  obtain ⟨sl, e1⟩ := ub1.any ho hf0 (fun z => nomatch z)
  obtain ⟨oc, od, dat, osl⟩ := o
  cases hfd
  refine PySem.W.callWith_F0 ⟨_, _, _, _, e1⟩ ?_
  refine wpAny_call (codeAny_mono (hrun X.A X.stack s1 X.fs Q EH hr I1.env0 ub1 h3) fun r s' hq => ?_)
  cases r with
  | error e => exact hx pins σ _ s1 e s' I1 hq
  | ok fl =>
    cases fl with
    | ret u => exact I1.after hq
    | next => exact False.elim hq
    | brk => exact False.elim hq
    | cont => exact False.elim hq
end L2

set_option Elab.async false
set_option linter.all false
set_option maxRecDepth 100000
namespace L2
open PySem
/-! ### a heap without one object -/
def hid (H : Hp) (b : Addr) : Hp := fun a => if a = b then none else H a
theorem hid_ne {H : Hp} {a b : Addr} (h : a ≠ b) : hid H b a = H a := if_neg h
theorem hid_self {H : Hp} {b : Addr} : hid H b b = none := if_pos rfl
theorem hid_get {H : Hp} {a b : Addr} {o : HO} (h : hid H b a = some o) : a ≠ b ∧ H a = some o := by
  by_cases e : a = b
  · subst e; rw [hid_self] at h; cases h
  · rw [hid_ne e] at h; exact ⟨e, h⟩
theorem hid_same (H : Hp) (b : Addr) : Same (hid H b) H := fun a o h => (hid_get h).2
theorem Same.hid {H H' : Hp} (s : Same H H') (b : Addr) : Same (hid H b) (hid H' b) := fun a o h => by
  obtain ⟨n, e⟩ := hid_get h
  rw [hid_ne n]; exact s a o e
theorem Same.hidUpd {H H' : Hp} {b : Addr} {o : HO} (s : Same (L2.hid H b) (L2.hid H' b)) : Same (L2.hid H b) (L2.hid (L2.upd H' b o) b) := fun a u h => by
  have := s a u h
  obtain ⟨n, e⟩ := hid_get this
  rw [hid_ne n, upd_ne n]; exact e
/-- a box: a list of one number, not below nought -/
def Box (H : Hp) (b : Addr) : Prop := ∃ n : Int, 0 ≤ n ∧ H b = some (.lst [.int n])
theorem Box.same {H H' : Hp} {b : Addr} (s : Same H H') (x : Box H b) : Box H' b := let ⟨n, h, e⟩ := x; ⟨n, h, s _ _ e⟩
section
variable {X : Cx} {e : Expr} {te : TE} {p pos : Pos}
theorem pe_lenS (B : Bl X.mg) (h : PE X e te) (g1 : Gl X "len" := by rfl) (hs : starEach [e] X.env = (false, eval e X.env) :: starEach [] X.env := by rfl) : PE X (.Call (.Name "len" p) [e] [] pos) (tCB (fun xs H Q => ∃ p ys, xs = [.ref p] ∧ (SqL X.K H p ys ∨ SqT X.K H p ys) ∧ Q (.int ys.length) H) (tCons te tNil)) :=
  pe_callB call_len_seq g1 (B _ (by decide)) bt_len (pa_cons h pa_nil hs) (by decide) (by decide) hs rfl
end
end L2
namespace L2
open PySem PySem.Spec PyProof.Rows
/-! ### part of a heap, and how it grows along -/
structure Ext (H G H' G' : Hp) : Prop where
  sh : Same H H'
  sg : Same G G'
  gs : Same G' H'
  old : ∀ c, H c ≠ none → G' c = G c
theorem Ext.refl {H G : Hp} (s : Same G H) : Ext H G H G := ⟨Same.refl H, Same.refl G, s, fun _ _ => rfl⟩
theorem Ext.new {H G : Hp} {p : Addr} {o : HO} (s : Same G H) (hp : H p = none) : Ext H G (upd H p o) (upd G p o) := by
  refine ⟨Same.new hp, Same.new (s.free hp), fun c u e => ?_, fun c hc => upd_ne fun z => hc (z ▸ hp)⟩
  by_cases h : c = p
  · subst h; rw [upd_same] at e ⊢; exact e
  · rw [upd_ne h] at e ⊢; exact s c u e
theorem Ext.view {H H' G' : Hp} {b : Addr} (e : Ext H (hid H b) H' G') (hb : H b ≠ none) : Same G' (hid H' b) := fun c o q => by
  have nb : c ≠ b := fun z => by
    subst z
    rw [e.old c hb, hid_self] at q
    cases q
  rw [hid_ne nb]
  exact e.gs c o q
theorem Box.ne {H : Hp} {b : Addr} (x : Box H b) : H b ≠ none := by
  obtain ⟨n, _, e⟩ := x
  rw [e]
  exact fun z => by cases z
theorem NewIn.view {H H' N : Hp} {b : Addr} (n : NewIn H H' N) (hb : H b ≠ none) : Same N (hid H' b) := fun c o e => by
  have nb : c ≠ b := fun z => by subst z; exact hb (n c o e).1
  rw [hid_ne nb]
  exact (n c o e).2
section
variable {X : Cx} {k : Nat}
def rCatG : R2 := fun x y H Q => ∃ G ds es, Same G H ∧ Rep G (.tuple ds) x ∧ Rep G (.tuple es) y ∧ ds.length + es.length ≤ sizeLine ∧ ∀ r H' G', Ext H G H' G' → Rep G' (.tuple (ds ++ es)) r → Q r H'
theorem op_catG : OpR X (binaryOp .Add) rCatG := by
  intro pins s σ H x y v u Q I rx ry h
  obtain ⟨G, ds, es, sg, h1, h2, hz, q⟩ := h
  obtain ⟨a, vs, rfl, ha, r1⟩ := id h1
  obtain ⟨b, us, rfl, hb, r2⟩ := id h2
  by_cases hv : vs = []
  · subst hv
    have hd : ds = [] := List.length_eq_zero_iff.mp r1.length.symm
    subst hd
    cases rx
    cases ry
    obtain ⟨its1, v1, ⟨⟨c1, d1, e1, l1⟩, p1, g1, n1, z1⟩, _⟩ := I.tuple (SqT.of (K := X.K) (sg _ _ ha))
    obtain ⟨its2, v2, ⟨⟨c2, d2, e2, l2⟩, p2, g2, n2, z2⟩, _⟩ := I.tuple (SqT.of (K := X.K) (sg _ _ hb))
    simp only at g1 z1 g2 z2
    subst g1 z1 g2 z2
    cases v1
    exact concat_meets ⟨_, p1, rfl⟩ ⟨_, p2, rfl⟩ noFill_tuple_add seq_tuple_add PySem.F.slot_tuple_add PySem.F.entry_tuple_add (PySem.F.args_tuple_add_2 _ _) (tuple_addW0 a b _ _ n1 n2 d1 d2 l1 l2 rfl) ⟨p1, p2, ⟨.ref b, H, I, rfl, q _ H G (Ext.refl sg) h2⟩⟩
  · refine op_catT pins s σ H _ _ v u Q I rx ry ⟨a, b, vs, us, rfl, rfl, SqT.of (sg _ _ ha), SqT.of (sg _ _ hb), hv, by rw [r1.length, r2.length]; exact hz, fun e => ?_, fun e p hp => ?_⟩
    · subst e
      have he : es = [] := List.length_eq_zero_iff.mp r2.length.symm
      subst he
      exact q _ H G (Ext.refl sg) (by rw [List.append_nil]; exact h1)
    · have x := Ext.new (o := .tup (vs ++ us)) sg hp
      exact q _ _ _ x ⟨p, _, rfl, upd_same, Reps.append (r1.same x.sg) (r2.same x.sg)⟩
def rSlG : V → Option Int → Option Int → Hp → VK → Prop := fun x lo hi H Q => ∃ G ds, Same G H ∧ Rep G (.tuple ds) x ∧ ∀ r H' G', Ext H G H' G' → Rep G' (.tuple (cutD ds lo hi)) r → Q r H'
theorem sl_tupG : SlR X rSlG := by
  intro pins s σ H x v vl vu lo hi sl Q I rx hs pl pu h
  obtain ⟨G, ds, sg, h1, q⟩ := h
  obtain ⟨a, xs, rfl, ha, r1⟩ := id h1
  cases rx
  obtain ⟨its, rv, ht, hz⟩ := I.tuple (SqT.of (K := X.K) (sg _ _ ha))
  have hl : its.toArray.size = xs.length := by rw [List.size_toArray]; exact rv.length.symm
  by_cases hw : HT.sIx xs.length 0 lo = 0 ∧ HT.sIx xs.length xs.length hi = xs.length
  · refine ⟨"tuple", _, PyProof.Rows.slot_tuple_getitem.lookup, ht.typeIs, getItem_whole ht hs pl pu (by rw [hl]; exact hw.1) (by rw [hl]; exact hw.2) ⟨.ref a, H, I, rfl, q _ H G (Ext.refl sg) ?_⟩⟩
    have e : cutD ds lo hi = ds := by
      unfold cutD
      rw [← r1.length, hw.1, hw.2, List.drop_zero, Nat.sub_zero, r1.length, List.take_length]
    rw [e]
    exact h1
  · refine sl_tup pins s σ H (.ref a) _ vl vu lo hi sl Q I rfl hs pl pu ⟨a, xs, rfl, SqT.of (sg _ _ ha), hw, fun p hp => ?_⟩
    have x := Ext.new (o := .tup (cutV xs lo hi)) sg hp
    refine q _ _ _ x ⟨p, _, rfl, upd_same, ?_⟩
    have e : cutD ds lo hi = (ds.drop (HT.sIx xs.length 0 lo)).take (HT.sIx xs.length xs.length hi - HT.sIx xs.length 0 lo) := by
      unfold cutD
      rw [r1.length]
    rw [e]
    exact ((r1.same x.sg).drop _).take _
end
end L2
namespace L2
open PySem PySem.Spec PyProof.Rows
theorem FnOk.no {P : Program} {w : World} {K : PySem.W.Frag} {mg : Str → Option Value} {base : Heap} {k : Nat} {f : Addr} {fd : FuncData} {ps : List Str} : FnOk P w K mg base CX0 k f fd ps (fun _ _ _ _ => False) :=
  ⟨fun _ _ _ _ h => h.elim, fun _ _ _ _ _ _ _ _ _ _ _ _ _ h => h.elim⟩
/-- name = name + [written data] -/
theorem ps_litCat {X : Cx} {i : Nat} {x : Str} {e : Expr} {d : PyData} {n : Nat} {q q2 bp p lp : Pos} {es : List Expr} (he : e = .List es lp) (hl : Lit n e d) (hN : X.N.Nodup) (hi : X.N[i]? = some x) (hx : Loc X.env.scope x) (hf : X.fn x = true) (hd : (x == ("__debug__" : Str)) = false) (hcd : (x == ("__classdict__" : Str)) = false)
    (hv : Vis X.env.scope x) (hsw : swapsWith (.BinOp (.Name x q2) .Add (.List es lp) bp) (some (.Name x q)) p.line X.env = pure false) : PS X (.Assign [.Name x q] (.BinOp (.Name x q2) .Add e bp) p) (tAsg (tOp rCat (tVar i) (tLit d)) (gName i)) :=
  ps_set (i := i) hN hi hx (pe_op op_cat (pe_var hi hv hd hcd) (@pe_lit X n e d hl)) (by rw [he]; exact hsw) (Or.inl hf)
theorem ps_retCat {X : Cx} {i : Nat} {x : Str} {e : Expr} {d : PyData} {n : Nat} {q2 bp p : Pos} (hl : Lit n e d) (hi : X.N[i]? = some x) (hd : (x == ("__debug__" : Str)) = false) (hcd : (x == ("__classdict__" : Str)) = false)
    (hv : Vis X.env.scope x) : PS X (.Return (some (.BinOp (.Name x q2) .Add e bp)) p) (tRet (tOp rCat (tVar i) (tLit d))) :=
  ps_ret (pe_op op_cat (pe_var hi hv hd hcd) (@pe_lit X n e d hl))
/-- a list of new data -/
def Grown (H0 H : Hp) (ds : List PyData) (a : Addr) : Prop := ∃ N vs, Same H0 H ∧ NewIn H0 H N ∧ N a = some (.lst vs) ∧ Reps N ds vs
theorem Grown.lit {H0 H N : Hp} {ds : List PyData} {r : V} (s : Same H0 H) (n : NewIn H0 H N) (h : Rep N (.list ds) r) : ∃ a, r = .ref a ∧ Grown H0 H ds a := by
  obtain ⟨a, vs, rfl, ha, rs⟩ := h
  exact ⟨a, rfl, N, vs, s, n, ha, rs⟩
theorem Grown.cat {H0 H : Hp} {ds es : List PyData} {a : Addr} {σ : St} {i : Nat} {Q : VK} (g : Grown H0 H ds a) (hσ : σ[i]? = some (some (.ref a))) (hz : ds.length + es.length ≤ sizeLine) (k : ∀ a' H', Grown H0 H' (ds ++ es) a' → Q (.ref a') H') : tOp rCat (tVar i) (tLit (.list es)) σ H Q := by
  obtain ⟨N, vs, s, n, ha, rs⟩ := g
  refine ⟨_, hσ, fun r H1 N1 s1 n1 h1 => ?_⟩
  obtain ⟨b, us, rfl, hb, ru⟩ := h1
  have pn := n.plus s s1 n1
  refine ⟨a, b, vs, us, rfl, rfl, s1 _ _ (n.same _ _ ha), n1.same _ _ hb, by rw [rs.length, ru.length]; exact hz, fun p hp => ?_⟩
  have q := pn.put (o := .lst (vs ++ us)) (s.trans s1) hp
  exact k p _ ⟨_, _, (s.trans s1).upd hp, q.1, upd_same, (Reps.append (rs.same plus_l) (ru.same (plus_r n n1))).same q.2⟩
theorem Grown.catS {H0 H : Hp} {ds es : List PyData} {a : Addr} {x : Option V} {t : TS} {D : Ends} (g : Grown H0 H ds a) (hz : ds.length + es.length ≤ sizeLine) (k : ∀ a' H', Grown H0 H' (ds ++ es) a' → t D [x, some (.ref a')] H') : tSeq (tAsg (tOp rCat (tVar 1) (tLit (.list es))) (gName 1)) t D [x, some (.ref a)] H :=
  g.cat rfl hz k
end L2
namespace L2
open PySem PySem.Spec PyProof.Rows
section
variable {X : Cx} {o e : Expr} {es : List Expr} {to te : TE} {t : TA} {name : Str} {apos cpos p pos : Pos} {T id : String} {r : V → List V → Hp → VK → Prop}
theorem pe_bmK (K : PySem.W.Frag) (hK : X.K = K) (pa : PlainAttrs T) (slot : Slot T name id) (hty : typeOf (.builtin id) = pure (.type "method_descriptor")) (hm : MtR X id r) (ho : PE X o to) (ha : PA X (e :: es) t)
    (hbase : attributeBase o name X.env (eval o X.env) = eval o X.env := by rfl)
    (hfew : ((backTo cpos (starEach (e :: es) X.env)).all (fun x => !x.1) && (backToKw cpos (keywordEach [] X.env)).all (fun x => x.1.isSome)
      && decide ((e :: es).length + ([] : List Keyword).length + (if ([] : List Keyword).isEmpty then 0 else 1) < 30)) = true := by rfl)
    (hline : (apos.endLine == cpos.line) = true := by rfl) (hs : starEach (e :: es) X.env = (false, eval e X.env) :: starEach es X.env := by rfl) (hplain : (backTo cpos (starEach es X.env)).any (·.1) = false := by rfl) :
    PE X (.Call (.Attribute o name apos) (e :: es) [] cpos) (tBM K T r to t) := by
  subst hK
  exact pe_bm pa slot hty hm ho ha hbase hfew hline hs hplain
theorem pe_lenK (K : PySem.W.Frag) (hK : X.K = K) (B : Bl X.mg) (h : PE X e te) (g1 : Gl X "len" := by rfl) (hs : starEach [e] X.env = (false, eval e X.env) :: starEach [] X.env := by rfl) : PE X (.Call (.Name "len" p) [e] [] pos) (tCB (fun xs H Q => ∃ p ys, xs = [.ref p] ∧ (SqL K H p ys ∨ SqT K H p ys) ∧ Q (.int ys.length) H) (tCons te tNil)) := by
  subst hK
  exact pe_lenS B h g1 hs
end
theorem Same.hidPut {H H' : Hp} {b a : Addr} {o : HO} (s : Same (L2.hid H b) (L2.hid H' b)) (h : H a = none) : Same (L2.hid H b) (L2.hid (L2.upd H' a o) b) := fun c u e => by
  have ca : c ≠ a := fun z => by subst z; rw [(hid_get e).2] at h; cases h
  obtain ⟨nb, e'⟩ := hid_get (s c u e)
  rw [hid_ne nb, upd_ne ca]
  exact e'
theorem Box.put {H : Hp} {b a : Addr} {o : HO} (x : Box H b) (h : b ≠ a) : Box (L2.upd H a o) b := let ⟨n, h0, e⟩ := x; ⟨n, h0, by rw [upd_ne h]; exact e⟩
theorem hid_up {H : Hp} {b a : Addr} {o : HO} (h : a ≠ b) : hid (L2.upd H a o) b a = some o := by rw [hid_ne h, upd_same]
theorem Box.far {H : Hp} {b a : Addr} (x : Box H b) (h : H a = none) : a ≠ b := fun e => by subst e; obtain ⟨_, _, q⟩ := x; rw [q] at h; cases h
end L2
namespace L2
open PySem PySem.Spec PyProof.Rows
theorem Vals.ofGet : ∀ (us : List Value) (f : Nat → V), (∀ j v, us[j]? = some v → RelV (f j) v) → Vals ((List.range us.length).map f) us
  | [], _, _ => .nil
  | u :: us, f, h => by
    rw [List.length_cons, List.range_succ_eq_map, List.map_cons, List.map_map]
    exact .cons (h 0 u rfl) (Vals.ofGet us (f ∘ Nat.succ) fun j v e => h (j + 1) v e)
section
variable {X : Cx}
/-- tuple(text) -/
theorem call_tupleS (hc : X.calm = true) : CallR X (.type "tuple") (fun xs H Q => ∃ x, xs = [.str x] ∧ x.cps.size ≤ sizeLine ∧ ∀ p, H p = none → Q (.ref p) (upd H p (.tup ((List.range x.cps.size).map (sgn x))))) := by
  intro pins s σ H xs us Q I r h
  obtain ⟨x, rfl, hz, q⟩ := h
  obtain ⟨u, rfl, rx⟩ := vals1 r
  obtain ⟨t, rfl⟩ := rx
  refine call_tuple_str (I.ok.hd hc) x t (fun h' tk acc kp hacc => ?_) hz
  have I1 : Inv X pins σ H { s with heap := h', toks := tk } := I.kept (t' := tk) kp
  have hv : Vals ((List.range x.cps.size).map (sgn x)) acc.toList := by
    have e : acc.toList.length = x.cps.size := by rw [Array.length_toList, hacc.1]
    rw [← e]
    refine Vals.ofGet _ _ fun j v ev => rel_sgn j v ?_ (hacc.2 j v (by simpa using ev))
    rw [← e]
    exact (List.getElem?_eq_some_iff.mp ev).1
  have I2 : Inv X pins σ (upd H h'.objs.size (.tup ((List.range x.cps.size).map (sgn x)))) { s with heap := h'.push { cls := .type "tuple", data := .seq acc }, toks := tk } := by
    refine I1.laid (t' := tk) (fun b o e => Heap.get?_push_of_some _ e) (Nat.le_refl _) (show ObjOk X.prog X.w _ _ _ (.tup _) from ⟨by rw [List.length_map, List.length_range]; exact hz, acc.toList, hv, ?_⟩)
    have := IsTup.new h' acc
    simpa using this
  exact ⟨.ref h'.objs.size, _, I2, rfl, q _ (I1.hok.fresh (Nat.le_refl _))⟩
end
end L2
namespace L2
open PySem
/-- what is new since H0, and a view of it -/
structure Gr (H0 H G : Hp) : Prop where
  s : Same H0 H
  n : NewIn H0 H G
theorem Gr.no {H : Hp} : Gr H H noHp := ⟨Same.refl H, .no⟩
theorem Gr.same {H0 H G : Hp} (g : Gr H0 H G) : Same G H := g.n.same
theorem Gr.lit {H0 H G H' N : Hp} (g : Gr H0 H G) (s : Same H H') (n : NewIn H H' N) : Gr H0 H' (plusHp G N) ∧ Same G (plusHp G N) ∧ Same N (plusHp G N) := ⟨⟨g.s.trans s, g.n.plus g.s s n⟩, plus_l, plus_r g.n n⟩
theorem Gr.ext {H0 H G H' G' : Hp} (g : Gr H0 H G) (x : Ext H G H' G') : Gr H0 H' G' := by
  refine ⟨g.s.trans x.sh, fun c o e => ⟨?_, x.gs c o e⟩⟩
  cases h : H0 c with
  | none => rfl
  | some u =>
    have h1 := g.s c u h
    rw [x.old c (by rw [h1]; intro z; cases z)] at e
    rw [(g.n c o e).1] at h
    cases h
theorem Gr.put {H0 H G : Hp} {p : Addr} {o : HO} (g : Gr H0 H G) (hp : H p = none) : Gr H0 (upd H p o) (upd G p o) ∧ Same G (upd G p o) := ⟨⟨g.s.upd hp, (g.n.put g.s hp).1⟩, (g.n.put g.s hp).2⟩
end L2

set_option Elab.async false
set_option linter.all false
set_option maxRecDepth 100000
namespace L2
open PySem PySem.Spec PyProof.Rows
/-! ### the code of a lambda, kept in its maker's table -/
def recAt (c : Addr) (q : Str) : Heap → Prop := fun h => h.CodeRec (.ref c) q
theorem recAt.ok {P : Program} {w : World} {H : Hp} {h : Heap} {c : Addr} {q : Str} (x : recAt c q h) : ObjOk P w H h c (.ext (recAt c q)) := by
  have st : ∀ h1 h2 : Heap, recAt c q h1 → (∀ o, h1.get? c = some o → h2.get? c = some o) → recAt c q h2 := fun h1 h2 ⟨c1, oc, vs, t, e, e1, e2, e3⟩ k => by
    cases e
    exact ⟨c, oc, vs, t, rfl, k _ e1, e2, e3⟩
  exact ⟨x, (by obtain ⟨c1, oc, vs, t, e, e1, _⟩ := x; cases e; exact ⟨oc, e1⟩), st⟩
def TabOk (H : Hp) (P : Addr) (q : Str) : Prop := ∃ ps : Array Value, H P = some (.tbl ps) ∧ TriplesOk ps.toList ∧ ∀ (pos : Pos) (c : Value), codeAmong pos ps.toList = some c → ∃ a, c = .ref a ∧ a ≠ P ∧ H a = some (.ext (recAt a q))
theorem TabOk.same {H H' : Hp} {P : Addr} {q : Str} (s : Same H H') (x : TabOk H P q) : TabOk H' P q :=
  let ⟨ps, e, t, k⟩ := x; ⟨ps, s _ _ e, t, fun pos c z => let ⟨a, h1, h2, h3⟩ := k pos c z; ⟨a, h1, h2, s _ _ h3⟩⟩
theorem TabOk.ne {H : Hp} {P : Addr} {q : Str} (x : TabOk H P q) : H P ≠ none := by
  obtain ⟨ps, e, _⟩ := x
  rw [e]; exact fun z => by cases z
theorem triples_moreN {a b : Int} {t u : Tok} {c : Value} : ∀ (n : Nat) (l : List Value), l.length ≤ n → TriplesOk l → TriplesOk (l ++ [.int a t, .int b u, c])
  | _, [], _, _ => trivial
  | 0, _ :: _, h, _ => absurd h (by simp)
  | n + 1, v :: l, hn, ht => by
    unfold TriplesOk at ht
    split at ht
    · rename_i e; cases e
    · rename_i x y x' y' z r e
      cases e
      have hl : r.length ≤ n := by simp only [List.length_cons] at hn; omega
      exact triples_moreN n r hl ht
    · exact ht.elim
theorem triples_more {l : List Value} {a b : Int} {t u : Tok} {c : Value} (h : TriplesOk l) : TriplesOk (l ++ [.int a t, .int b u, c]) := triples_moreN l.length l (Nat.le_refl _) h
theorem among_moreN (pos : Pos) {a b : Int} {t u : Tok} {c d : Value} : ∀ (n : Nat) (l : List Value), l.length ≤ n → TriplesOk l → codeAmong pos (l ++ [.int a t, .int b u, c]) = some d → codeAmong pos l = some d ∨ d = c
  | _, [], _, _, h => by
    simp only [List.nil_append, codeAmong] at h
    split at h
    · cases h; exact .inr rfl
    · cases h
  | 0, _ :: _, h, _, _ => absurd h (by simp)
  | n + 1, v :: l, hn, ht, h => by
    unfold TriplesOk at ht
    split at ht
    · rename_i e; cases e
    · rename_i x y x' y' z r e
      cases e
      have hl : r.length ≤ n := by simp only [List.length_cons] at hn; omega
      have h' : codeAmong pos (.int x y :: .int x' y' :: z :: (r ++ [.int a t, .int b u, c])) = some d := h
      unfold codeAmong at h' ⊢
      split at h'
      · rename_i q; rw [if_pos q]; exact .inl h'
      · rename_i q; rw [if_neg q]; exact among_moreN pos n r hl ht h'
    · exact ht.elim
theorem among_more (pos : Pos) {l : List Value} {a b : Int} {t u : Tok} {c d : Value} (ht : TriplesOk l) (h : codeAmong pos (l ++ [.int a t, .int b u, c]) = some d) : codeAmong pos l = some d ∨ d = c := among_moreN pos l.length l (Nat.le_refl _) ht h
/-- the module of the built-in names, as the top has left it -/
structure BMod (base : Heap) (mg : Str → Option Value) (bm : Addr) : Prop where
  g : mg "__builtins__" = some (.ref bm)
  n1 : bm ≠ builtinsNs
  ob : ∃ o, base.get? bm = some o ∧ o.cls = .type "module" ∧ o.dict = some builtinsNs ∧ o.data = .plain
section
variable {X : Cx} {pins : List (Addr × Obj)} {σ : St} {H : Hp} {s : Shared}
/-- lambda: .., evaluated -/
theorem lam_eval {c P bm : Addr} {params : Arguments} {body : Expr} {lscope : Scope} {lpos : Pos} {Q : Value → Shared → Prop} {E : Value → Shared → Prop} (I : Inv X pins σ H s) (hcode : X.env.code = .ref c) (ht : PySem.W.codeHdIn X.K c P = true) (B : BMod X.base X.mg bm)
    (tb : TabOk H P (X.env.qual ++ "<lambda>")) (hdef : defaultsOf params X.env = ([], [])) (hfree : ∀ n, (n, NameKind.free) ∈ lscope.names → X.env.kindOf n = some .cell ∨ X.env.kindOf n = some .free)
    (k : ∀ f o c' pm ctv H' s', Inv X pins σ H' s' → s'.heap.get? f = some o → o.data = .func (PySem.W.kla_fn "<lambda>" (X.env.qual ++ "<lambda>") params body lscope (closL X.env.cells lscope.names []) pm (.ref c') ctv) → H' f = none → H' c' = some (.ext (recAt c' (X.env.qual ++ "<lambda>"))) →
      TabOk H' P (X.env.qual ++ "<lambda>") → Same (hid H P) (hid H' P) → Q (.ref f) s') :
    wpAny (model X.prog X.w) X.A (eval (.Lambda params body lscope lpos) X.env) Q E s := by
  obtain ⟨ps, hP, htr, hcs⟩ := id tb
  have hPo : s.heap.get? P = some (PySem.W.tabObj ps) := (show ObjOk X.prog X.w H s.heap P (.tbl ps) from I.hok P _ hP)
  have C : PySem.W.CodeHd s.heap c P := PySem.W.codeHd_of_K I.kIn ht
  have hgs : s.heap.Ns mainGlobals X.mg := I.mod.glob.keeps I.bk
  obtain ⟨ob, hbo, hb1, hb2, hb3⟩ := B.ob
  have hbh := I.bk _ _ hbo
  have hgP : mainGlobals ≠ P := fun z => by
    obtain ⟨o, es, ep, e, hd, _⟩ := hgs
    rw [z, hPo] at e; cases e; cases hd
  have hbP : bm ≠ P := fun z => by rw [z, hPo] at hbh; cases hbh; cases hb1
  have hbG : bm ≠ mainGlobals := fun z => by
    obtain ⟨o, es, ep, e, hd, _⟩ := id hgs
    rw [← z, hbh] at e; cases e; rw [hb3] at hd; cases hd
  have hb : s.heap.BuiltinsAt X.mg P := ⟨bm, _, B.g, B.n1, hbG, hbP, hbh, hb1, hb2, hb3⟩
  have hcl := closureFor_eq (scope := lscope) (env := X.env) fun n hn => I.ok.has n (hfree n hn)
  refine PySem.W.kla_eval hdef ?_
  cases hca : codeAmong lpos ps.toList with
  | some cv =>
    obtain ⟨a, rfl, hne, ha⟩ := hcs lpos cv hca
    refine PySem.W.kla_makeFunctionHit (mg := X.mg) hcl I.ok.glob hgs hcode C hPo htr hca hb fun ctv h' tk hk hsz => ?_
    have kp : ∀ b u, s.heap.get? b = some u → (h'.push { cls := .type "function", data := .func (PySem.W.kla_fn "<lambda>" (X.env.qual ++ "<lambda>") params body lscope (closL X.env.cells lscope.names []) ((X.mg "__name__").getD .none) (.ref a) ctv) }).get? b = some u := fun b u e => Heap.get?_push_of_some _ (hk b u e)
    exact k h'.objs.size _ a _ ctv H _ (I.kept (t' := tk) kp) (Heap.get?_push_size _ rfl) rfl (I.hok.fresh hsz) ha tb (Same.refl _)
  | none =>
    refine PySem.W.kla_makeFunction (mg := X.mg) hcl I.ok.glob hgs hcode C hPo htr hca hgP hb fun c' ctv h' tk hx hge hlt hrec htb => ?_
    have hc0 : H c' = none := I.hok.fresh hge
    have hcP : c' ≠ P := fun z => by rw [z, hP] at hc0; cases hc0
    have hf0 : H h'.objs.size = none := I.hok.fresh (Nat.le_of_lt (Nat.lt_of_le_of_lt hge hlt))
    have hsz : s.heap.objs.size ≤ h'.objs.size := Nat.le_of_lt (Nat.lt_of_le_of_lt hge hlt)
    have hfc : h'.objs.size ≠ c' := Nat.ne_of_gt hlt
    have hfP : h'.objs.size ≠ P := fun z => by rw [← z, hf0] at hP; cases hP
    have kp : ∀ b u, b ≠ P → s.heap.get? b = some u → (h'.push (PySem.W.kla_obj "<lambda>" (X.env.qual ++ "<lambda>") params body lscope (closL X.env.cells lscope.names []) ((X.mg "__name__").getD .none) c' ctv)).get? b = some u := fun b u n e => Heap.get?_push_of_some _ (hx b u n e)
    have hPn : (h'.push (PySem.W.kla_obj "<lambda>" (X.env.qual ++ "<lambda>") params body lscope (closL X.env.cells lscope.names []) ((X.mg "__name__").getD .none) c' ctv)).get? P = some (PySem.W.tabObj (ps ++ #[rawInt lpos.line, rawInt lpos.col, .ref c'])) := Heap.get?_push_of_some _ htb
    have hrecn : recAt c' (X.env.qual ++ "<lambda>") (h'.push (PySem.W.kla_obj "<lambda>" (X.env.qual ++ "<lambda>") params body lscope (closL X.env.cells lscope.names []) ((X.mg "__name__").getD .none) c' ctv)) := by
      obtain ⟨c1, oc, vs, t, e, e1, e2, e3⟩ := hrec
      cases e
      exact ⟨c', oc, vs, t, rfl, Heap.get?_push_of_some _ e1, e2, e3⟩
    have hfn : (h'.push (PySem.W.kla_obj "<lambda>" (X.env.qual ++ "<lambda>") params body lscope (closL X.env.cells lscope.names []) ((X.mg "__name__").getD .none) c' ctv)).get? h'.objs.size = some (PySem.W.kla_obj "<lambda>" (X.env.qual ++ "<lambda>") params body lscope (closL X.env.cells lscope.names []) ((X.mg "__name__").getD .none) c' ctv) := Heap.get?_push_size _ rfl
    generalize h'.push (PySem.W.kla_obj "<lambda>" (X.env.qual ++ "<lambda>") params body lscope (closL X.env.cells lscope.names []) ((X.mg "__name__").getD .none) c' ctv) = g at kp hPn hrecn hfn
    have nP : ∀ b, H b = none → b ≠ P := fun b n z => by rw [z, hP] at n; cases n
    have J : Inv X pins σ (upd (upd H P (.tbl (ps ++ #[rawInt lpos.line, rawInt lpos.col, .ref c']))) c' (.ext (recAt c' (X.env.qual ++ "<lambda>")))) { s with heap := g, gens := s.gens, drawn := s.drawn, toks := tk } := by
      refine I.step (g' := s.gens) (d' := s.drawn) (t' := tk) (ch := []) (fun _ z => nomatch z) (fun b o _ _ _ e n => kp b o (nP b n) e) (fun b o _ _ _ e n => ⟨o.slots, kp b o (nP b n) e⟩) (fun b o _ e n => ?_) (fun b o _ e => ?_) (fun b xs e => ?_) (fun b o u e => ?_) (fun b qs e => ?_) (fun m hm => ?_) (fun b u e => ?_) I.bare
      · have bc : b ≠ c' := Nat.ne_of_lt (Nat.lt_of_lt_of_le (Heap.lt_size e) hge)
        rw [upd_ne bc, upd_ne (nP b n)]; exact n
      · by_cases hb' : b = P
        · subst hb'; exact ⟨_, hPn⟩
        · exact ⟨o, kp b o hb' e⟩
      · have bP : b ≠ P := fun z => by rw [z, hP] at e; cases e
        rw [upd_ne (ne_of_none e hc0), upd_ne bP]; exact e
      · have bP : b ≠ P := fun z => by rw [z, hP] at e; cases e
        rw [upd_ne (ne_of_none e hc0), upd_ne bP]; exact e
      · by_cases hb' : b = P
        · subst hb'
          rw [hP] at e; cases e
          exact ⟨_, by rw [upd_ne (Ne.symm hcP), upd_same]⟩
        · exact ⟨#[], by rw [upd_ne (ne_of_none e hc0), upd_ne hb', e]; simp⟩
      · obtain ⟨o, es, ep, ho, r⟩ := hm
        exact ⟨o, es, ep, kp _ o (nP _ I.free) ho, r⟩
      · by_cases hbc : b = c'
        · subst hbc
          rw [upd_same] at e; cases e
          exact recAt.ok hrecn
        · rw [upd_ne hbc] at e
          by_cases hb' : b = P
          · subst hb'
            rw [upd_same] at e; cases e
            exact hPn
          · rw [upd_ne hb'] at e
            refine (I.hok b u e).stay (fun d v hd z => kp d v ?_ z) (fun d z => ?_) fun d xs z => ?_
            · rcases hd with hd | hd
              · rw [hd]; exact hb'
              · intro y; rw [y, hP] at hd; cases hd
            · have dP : d ≠ P := fun y => by rw [y, hP] at z; cases z
              rw [upd_ne (ne_of_none z hc0), upd_ne dP]; exact z
            · have dP : d ≠ P := fun y => by rw [y, hP] at z; cases z
              rw [upd_ne (ne_of_none z hc0), upd_ne dP]; exact z
    have sH : Same (hid H P) (hid (upd (upd H P (.tbl (ps ++ #[rawInt lpos.line, rawInt lpos.col, .ref c']))) c' (.ext (recAt c' (X.env.qual ++ "<lambda>")))) P) := fun b o e => by
      obtain ⟨n1, e1⟩ := hid_get e
      rw [hid_ne n1, upd_ne (ne_of_none e1 hc0), upd_ne n1]; exact e1
    refine k h'.objs.size _ c' _ ctv _ _ J hfn rfl (by rw [upd_ne hfc, upd_ne hfP]; exact hf0) upd_same ⟨_, by rw [upd_ne (Ne.symm hcP), upd_same], ?_, fun pos d z => ?_⟩ sH
    · rw [Array.toList_append]
      exact triples_more htr
    · rw [Array.toList_append] at z
      rcases among_more pos htr z with z | z
      · obtain ⟨a, h1, h2, h3⟩ := hcs pos d z
        exact ⟨a, h1, h2, by rw [upd_ne (ne_of_none h3 hc0), upd_ne h2]; exact h3⟩
      · exact ⟨c', z, hcP, upd_same⟩
end
end L2

set_option Elab.async false
set_option linter.all false
set_option maxRecDepth 100000
namespace L2
open PySem PySem.Spec PyProof.Rows
structure HasFnS (P : Program) (w : World) (K : PySem.W.Frag) (mg : Str → Option Value) (base : Heap) (x : Str) (ps : List Str) (k : Nat) (sp : Shared → Sp) : Prop where
  ex : ∃ (f : Addr) (fd : FuncData), mg x = some (.ref f) ∧ PySem.W.keepIn K (.ref f) = true ∧ Binds K fd ps [] ∧ FnOkS P w K mg base CX0 k f fd ps sp
/-- the promise of a def that is handed a lambda -/
def spLam (P : Program) (w : World) (K : PySem.W.Frag) (mg : Str → Option Value) (base : Heap) (k : Nat) (M : (VK → XK → Prop) → VK → Prop) : Shared → Sp := fun s vs H Q _ => ∃ f G, vs = [.ref f] ∧ LamC P w K mg base s H f k G ∧ M G Q
theorem closL_some {cells : List (Str × Addr)} {names : List (Str × NameKind)} {x : Str} {c : Addr} (hh : ∀ n, (n, NameKind.free) ∈ names → ∃ c, cells.lookup n = some c) (h : (closL cells names []).lookup x = some c) : (x, NameKind.free) ∈ names ∧ cells.lookup x = some c := by
  by_cases hm : (x, NameKind.free) ∈ names
  · rw [closL_free hm] at h
    obtain ⟨c', e⟩ := hh x hm
    rw [e] at h
    cases h
    exact ⟨hm, e⟩
  · rw [closL_not hm] at h
    cases h
def tLamArg (tb : XK → TE) (idx : List Nat) (P : Addr) (q : Str) (M : (VK → XK → Prop) → VK → Prop) : TE := fun σ H Q => ∃ vs : List V, vs.length = idx.length ∧ (∀ (j : Nat) (v : V), vs[j]? = some v → ∃ i, idx[j]? = some i ∧ σ[i]? = some (some v)) ∧ TabOk H P q ∧
  ∀ H1, TabOk H1 P q → Same (hid H P) (hid H1 P) → M (fun Q' E' => tb E' (vs.map some) H1 Q') Q
section
variable {X : Cx}
/-- g(lambda: body), g a def of ours -/
theorem pe_lamArg {g : Str} {pn : Str} {k kl : Nat} {M : (VK → XK → Prop) → VK → Prop} {c P bm : Addr} {params : Arguments} {body : Expr} {lscope : Scope} {lpos p pos : Pos} {N2 : List Str} {idx : List Nat} {tb : XK → TE}
    (F : HasFnS X.prog X.w X.K X.mg X.base g [pn] k (spLam X.prog X.w X.K X.mg X.base (kl + 1) M)) (hr : Room k X.A) (hg : Gl X g) (hcode : X.env.code = .ref c) (ht : PySem.W.codeHdIn X.K c P = true) (B : BMod X.base X.mg bm)
    (S : LamScope lscope) (hdef : defaultsOf params X.env = ([], [])) (hfree : ∀ n, (n, NameKind.free) ∈ lscope.names → X.env.kindOf n = some .cell ∨ X.env.kindOf n = some .free) (hlk : ∀ x, (x, NameKind.free) ∈ lscope.names → lscope.names.lookup x = some .free)
    (hbind : ∀ clos pm c' ctv, bindArgs (PySem.W.kla_fn "<lambda>" (X.env.qual ++ "<lambda>") params body lscope clos pm (.ref c') ctv) ⟨[], []⟩ = pure [])
    (hN2 : N2.length = idx.length) (hix : ∀ (j : Nat) (x : Str), N2[j]? = some x → ∃ i, idx[j]? = some i ∧ X.N[i]? = some x ∧ (x, NameKind.free) ∈ lscope.names)
    (hbody : ∀ (f c' : Addr) (clos : List (Str × Addr)) (A : Around) (outer : List Env) (s : Shared) (H : Hp) (E : XK), Room kl (A.deeper (lamEnv (X.env.qual ++ "<lambda>") lscope s.heap.objs.size f (.ref c') clos)) → PE (cxLam X.prog X.w X.K X.mg X.base N2 (X.env.qual ++ "<lambda>") lscope f (.ref c') clos A outer s H E) body (tb E))
    (hdb : (g == ("__debug__" : Str)) = false := by decide) (hs : starEach [.Lambda params body lscope lpos] X.env = (false, eval (.Lambda params body lscope lpos) X.env) :: starEach [] X.env := by rfl) :
    PE X (.Call (.Name g p) [.Lambda params body lscope lpos] [] pos) (tLamArg tb idx P (X.env.qual ++ "<lambda>") M) := by
  obtain ⟨fg, fd, hm, hk, hb, FS⟩ := F.ex
  intro pins s σ H Q I ⟨vs, hvl, hvs, tab, km⟩
  refine wpAny_Call_Name_kw (ld_glob I hg hm ?_ hdb)
  refine PySem.W.callWith_K (h₀ := X.base) I.ok.mod.kin hk ?_ hs rfl
  rw [hs]
  refine Calls.spliced_cons (lam_eval I hcode ht B tab hdef hfree fun f o c' pm ctv H1 s1 I1 ho hd hf0 hc' tab1 sH => ?_)
  refine Calls.spliced_nil ⟨I1.kIn, ?_⟩
  have hh : ∀ n, (n, NameKind.free) ∈ lscope.names → ∃ c, X.env.cells.lookup n = some c := fun n hn => I1.ok.has n (hfree n hn)
  have LC : LamC X.prog X.w X.K X.mg X.base s1 H1 f (kl + 1) (fun Q' E' => tb E' (vs.map some) H1 Q') := by
    refine ⟨⟨o, _, ho, hd⟩, hf0, fun A outer s2 fs Q' E' hr' e0 un hG => ?_⟩
    have no : ∀ b : Addr, b ∉ ([] : List Addr) := fun b z => nomatch z
    obtain ⟨sl, e1⟩ := un.any ho hf0 (no f)
    have cellU : ∀ x cc v, X.env.cells.lookup x = some cc → s1.heap.IsCell cc v → s2.heap.IsCell cc v := fun x cc v hx ⟨ob, eo, dd⟩ => by
      obtain ⟨sl', e'⟩ := un.any eo (I1.freeC x cc hx) (no cc)
      exact ⟨_, e', dd⟩
    obtain ⟨rec, _⟩ := (show ObjOk X.prog X.w H1 s2.heap c' (.ext (recAt c' (X.env.qual ++ "<lambda>"))) from e0.hok c' _ hc')
    refine lam_run (N := N2) (vs := vs) (t := tb E') (o := { o with slots := sl }) S hr' e0 e1 hd rec (hbind _ _ _ _) (fun x y cc h1 h2 => ?_) (fun x hx => ?_) (fun x cc h1 => ?_) (by rw [hN2, hvl]) (fun j x v h1 h2 => ?_) (hbody f c' _ A outer s2 H1 E') hG
    · exact I1.ok.inj x y cc (closL_some hh h1).2 (closL_some hh h2).2
    · have hm' := PySem.mem_of_lookup hx
      obtain ⟨cc, e⟩ := hh x hm'
      exact ⟨cc, by rw [closL_free hm', e]; rfl⟩
    · have hx := (closL_some hh h1).2
      obtain ⟨v, hv⟩ := I1.cell x cc hx
      exact ⟨⟨v, cellU x cc v hx hv⟩, I1.freeC x cc hx⟩
    · obtain ⟨i, hi, hNi, hmx⟩ := hix j x h1
      obtain ⟨i', hi', hσ⟩ := hvs j v h2
      rw [hi] at hi'; cases hi'
      obtain ⟨m, hns, hl⟩ := I1.loc
      have vis : Vis X.env.scope x := (hfree x hmx).elim (fun z => .inr (.inl z)) (fun z => .inr (.inr z))
      obtain ⟨u, rv, look⟩ := hl i x v hNi hσ vis
      refine ⟨hlk x hmx, ?_⟩
      rcases look with ⟨kl', _⟩ | ⟨_, cc, hc, hcell⟩
      · rcases hfree x hmx with z | z
        · rw [kl'] at z; cases z
        · rw [kl'] at z; cases z
      · exact ⟨cc, u, by rw [closL_free hmx, hc]; rfl, cellU x cc _ hc hcell, rv⟩
  have hsp : spLam X.prog X.w X.K X.mg X.base (kl + 1) M s1 [.ref f] H1 Q E0 := ⟨f, _, rfl, LC, km H1 tab1 sH⟩
  have r2 : Vals [V.ref f] [Value.ref f] := .cons rfl .nil
  have hl : ([Value.ref f] ++ []).length = [pn].length := rfl
  refine wpAny_call (codeAny_mono (FS.run X.A X.stack s1 H1 ⟨[.ref f], []⟩ ([.ref f] ++ []) [.ref f] Q E0 hr I1.env0 (hb s1 [.ref f] I1.kIn hl) r2 hsp) fun r s' hq => ?_)
  cases r with
  | error e => exact hq.elim
  | ok fl =>
    cases fl with
    | ret u => exact I1.after hq
    | next => exact False.elim hq
    | brk => exact False.elim hq
    | cont => exact False.elim hq
end
end L2

set_option Elab.async false
set_option linter.all false
set_option maxRecDepth 100000
/-! ### a text is no dict -/
namespace PySem.SeqAt
open PySem PySem.MeetsSeq PySem.AutoSeq1
theorem str_eq_no_dict (b : Str) (u : Tok) (l : Addr) (es : Array DictEntry) (n : Nat) (dd : Option Addr) (sl : Array (Option Value)) :
    Meets (Builtin.«str.__eq__» ⟨[.str b u, .ref l], []⟩) (fun _ R s => s.heap.get? l = some { cls := .type "dict", dict := dd, data := .dict es n, slots := sl } ∧ R (.ok (.ret .notImplemented)) s) :=
  .of_wp fun prog w A R s h => by
    obtain ⟨hp, g, d, tk, os⟩ := s
    obtain ⟨hl, h⟩ := h
    wp_walk using wpAny_loadPart' hl, wpAny_load hl
    exact ⟨_, rfl, h⟩
theorem dict_eq_no_str (b : Str) (u : Tok) (l : Addr) (es : Array DictEntry) (n : Nat) (dd : Option Addr) (sl : Array (Option Value)) :
    Meets (Builtin.«dict.__eq__» ⟨[.ref l, .str b u], []⟩) (fun _ R s => s.heap.get? l = some { cls := .type "dict", dict := dd, data := .dict es n, slots := sl } ∧ R (.ok (.ret .notImplemented)) s) :=
  .of_wp fun prog w A R s h => by
    obtain ⟨hp, g, d, tk, os⟩ := s
    obtain ⟨hl, h⟩ := h
    have f1 := F.sub_str_dict
    wp_walk using wpAny_loadPart' hl, wpAny_load hl
    exact ⟨_, rfl, h⟩
theorem EqAt.str_dct {A : Around} {s : Shared} {l : Addr} {es : Array DictEntry} {n : Nat} {dd : Option Addr} {sl : Array (Option Value)} (b : Str) (u : Tok) (hl : s.heap.get? l = some { cls := .type "dict", dict := dd, data := .dict es n, slots := sl }) (hu : A.units < cLine) : EqAt A s (.str b u) (.ref l) false := fun prog w E Q h => by
  unfold eqBool
  refine wpAny_holding (wpAny_ite_split (fun hab => absurd (eq_of_beq hab) nofun) (fun _ => wpAny_bind ?_))
  refine rc_eq_decline_or (k := false) (typeIs_str s b u) ⟨_, hl, rfl⟩ (by decide) F.sub_dict_str F.slot_str_eq F.slot_dict_eq_refl
    (fun _ hq => call_meets F.slot_str_eq (typeIs_str s b u) F.entry_str_eq (F.args_str_eq_2 _ _) (str_eq_no_dict b u l es n dd sl) ⟨hl, hq⟩)
    (fun _ hq => call_meets F.slot_dict_eq_refl ⟨_, hl, rfl⟩ F.entry_dict_eq (F.args_dict_eq_2 _ _) (dict_eq_no_str b u l es n dd sl) ⟨hl, hq⟩)
    (fun _ hq => wpAny_of_eq (rfl : isSame (.str b u) (.ref l) = pure false) hq) (.inr hu) (wpAny_truthy_bool h)
end PySem.SeqAt

set_option Elab.async false
set_option linter.all false
set_option maxRecDepth 100000
namespace E2
open PySem L2
def top (i : Nat) : Stmt := PySem.Challenge.pw_everalike_k02_strikers_and_struck.main.body.getD i (.Pass ⟨0, 0, 0, 0⟩)
abbrev sIsName : Stmt := top 19
/-- what the walk asks of the module's names -/
structure Txt (mg : Str → Option Value) : Prop where
  b : Bl mg
  six : ∃ t, mg "LONGEST_NAME" = some (.int 6 t)
  twl : ∃ t, mg "MOST_NAMES" = some (.int 12 t)
def az (c : Nat) : Bool := decide (97 ≤ c) && decide (c ≤ 122)
def isName : PyData → Bool
  | .str x => decide (1 ≤ x.length) && decide (x.length ≤ 6) && x.cps.toList.all az
  | _ => false
mutual
def fine : PyData → Bool
  | .none | .bool _ => true
  | .int i => decide (i ∈ ([0, 1, -1, 7, 10 ^ 29] : List Int))
  | .str x => decide (x.length ≤ 100) && PyData.strOk x
  | .tuple ds => fines ds && decide (ds.length ≤ 100000)
  | .list ds => fines ds && decide (ds.length ≤ 100000)
  | .dict _ => false
def fines : List PyData → Bool
  | [] => true
  | d :: ds => fine d && fines ds
end
theorem isName_str {x : Str} (h1 : (1 : Int) ≤ ((lenD (.str x) : Nat) : Int)) (h2 : ((lenD (.str x) : Nat) : Int) ≤ 6) : isName (.str x) = x.cps.toList.all az := by
  have a1 : 1 ≤ x.length := by have : (1 : Int) ≤ (x.length : Int) := h1; omega
  have a2 : x.length ≤ 6 := by have : (x.length : Int) ≤ 6 := h2; omega
  simp [isName, a1, a2]
theorem isName_long {x : Str} (h2 : ¬ ((lenD (.str x) : Nat) : Int) ≤ 6) : isName (.str x) = false := by
  have a2 : ¬ x.length ≤ 6 := by have : ¬ (x.length : Int) ≤ 6 := h2; omega
  simp [isName, a2]
theorem isName_short {x : Str} (h2 : ¬ (1 : Int) ≤ ((lenD (.str x) : Nat) : Int)) : isName (.str x) = false := by
  have a2 : ¬ 1 ≤ x.length := by have : ¬ (1 : Int) ≤ (x.length : Int) := h2; omega
  simp only [isName, decide_eq_false a2, Bool.false_and]
theorem lt1 (a c : Nat) : decide ([a] < [c]) = decide (a < c) := by
  rw [decide_eq_decide]
  constructor
  · intro h
    cases h with
    | rel h => exact h
    | cons h => cases h
  · intro h
    exact .rel h
theorem cpsA : ("a" : Str).cps.toList = [97] := by decide +kernel
theorem cpsZ : ("z" : Str).cps.toList = [122] := by decide +kernel
theorem ltA (c : Nat) : (!decide ((⟨#[c]⟩ : Str).cps.toList < ("a" : Str).cps.toList)) = decide (97 ≤ c) := by
  rw [cpsA, show (⟨#[c]⟩ : Str).cps.toList = [c] from rfl, lt1]
  by_cases h : c < 97
  · rw [decide_eq_true h, decide_eq_false (by omega)]; rfl
  · rw [decide_eq_false h, decide_eq_true (by omega)]; rfl
theorem ltZ (c : Nat) : (!decide (("z" : Str).cps.toList < (⟨#[c]⟩ : Str).cps.toList)) = decide (c ≤ 122) := by
  rw [cpsZ, show (⟨#[c]⟩ : Str).cps.toList = [c] from rfl, lt1]
  by_cases h : 122 < c
  · rw [decide_eq_true h, decide_eq_false (by omega)]; rfl
  · rw [decide_eq_false h, decide_eq_true (by omega)]; rfl
def spData (f : PyData → Bool) : Sp := fun vs H Q _ => ∃ d v, vs = [v] ∧ Rep H d v ∧ fine d = true ∧ d.depth ≤ 20 ∧ ∀ H', Same H H' → Q (.bl (f d)) H'
section
variable {P : Program} {w : World} {K : PySem.W.Frag} {mg : Str → Option Value} {base : Heap}
theorem sc1 : FnScope ["thing"] ["thing"] (defScope sIsName) := ⟨rfl, rfl, rfl, by decide +kernel, rfl, by decide +kernel, by decide +kernel⟩
theorem nd1 : (["letter", "thing"] : List Str).Nodup := by decide +kernel
theorem ok_is_name {f : Addr} {fd : FuncData} (F : Fun K "is_name" "is_name" sIsName f fd) (T : Txt mg) : FnOk P w K mg base CX0 1 f fd ["thing"] (spData isName) := by
  refine F.ok sc1 (fun vs H Q E h => ?_) (fun cdv A outer s H vs Q E hr h => ?_)
  · obtain ⟨d, v, rfl, _⟩ := h
    rfl
  · obtain ⟨d, v, rfl, h, hf, hd, k⟩ := h
    obtain ⟨t6, e6⟩ := T.six
    refine ⟨_, pss_cons (ps_if (pw_or (pt_not (pt_val (pe_isiS T.b (pv 0)))) (pw_or1 (pt_not (pt_chain op_le op_le pe_int (pe_lenD T.b (pv 0)) (pe_glob (by rfl) e6 (v := .int 6) ⟨_, rfl⟩))))).pt (pss_one (ps_ret pe_bl)) pss_nil)
      (pss_one (ps_ret (pe_all T.b rfl (pe_comp ["letter"] rfl rfl (pi_str (pv 0)) (fun _ _ _ _ _ => pg_name (i := 0) nd1 rfl (Or.inl rfl)) (fun _ _ _ _ _ => pts_nil) (fun _ _ _ _ _ => pe_chain op_le_str op_le_str pe_str (pv 0) pe_str))))), ?_⟩
    refine ⟨v, rfl, _, d, rfl, h, _, rfl, ?_⟩
    cases d with
    | str x =>
      refine iteF ?_
      cases h
      have hl : x.length ≤ 100 := by simp [fine] at hf; exact hf.1
      refine ⟨_, rfl, .str x, _, rfl, rfl, Nat.le_trans hl (by decide), rfl, 1, _, rfl, rfl, _, rfl, ?_⟩
      refine ite2 (fun c1 => ?_) (fun c1 => ?_)
      · refine ⟨_, _, rfl, rfl, _, rfl, ?_⟩
        by_cases c2 : ((lenD (PyData.str x) : Nat) : Int) ≤ 6
        · rw [decide_eq_true c2]
          refine iteF ⟨_, rfl, x, rfl, comp_str0 (fun i ys H' => Same H H' ∧ ys = (x.cps.toList.take i).map fun c => V.bl (az c)) ⟨Same.refl H, rfl⟩ (fun i ys H' hi ⟨_, e⟩ => ?_) (fun i ys H' hi ⟨sm, e⟩ => ?_) fun ys H' ⟨sm, e⟩ p hp => ?_⟩
          · rw [e, List.length_map, List.length_take]
            have : x.cps.size ≤ 100 := hl
            exact Nat.le_trans (Nat.min_le_left _ _) (Nat.le_trans (Nat.le_trans hi this) (by decide))
          · refine ⟨_, rfl, _, _, rfl, rfl, _, rfl, ?_⟩
            have ec : x.cps.getD i 0 = x.cps.toList[i]'(by simpa using hi) := by simp [Array.getD, hi]
            have et : x.cps.toList.take (i + 1) = x.cps.toList.take i ++ [x.cps.getD i 0] := by rw [List.take_succ_eq_append_getElem (by simpa using hi), ec]
            rw [ltA]
            refine ite2 (fun c3 => ⟨_, _, rfl, rfl, sm, ?_⟩) (fun c3 => ⟨sm, ?_⟩)
            · rw [ltZ, et, List.map_append, e]
              simp only [List.map_cons, List.map_nil, az]
              rw [show decide (97 ≤ x.cps.getD i 0) = true from c3, Bool.true_and]
            · rw [et, List.map_append, e]
              simp only [List.map_cons, List.map_nil, az]
              rw [show decide (97 ≤ x.cps.getD i 0) = false from by simpa using c3, Bool.false_and]
          · refine ⟨_, x.cps.toList.map az, rfl, SqL.of (by rw [upd_same, e, List.take_of_length_le (by simp), List.map_map]; rfl), ?_⟩
            have := k (upd H' p (.lst ys)) (sm.upd hp)
            rw [isName_str (of_decide_eq_true c1) c2] at this
            simpa using this
        · rw [decide_eq_false c2]
          refine iteT ?_
          have := k H (Same.refl H)
          rw [isName_long c2] at this
          exact this
      · refine ⟨_, rfl, iteT ?_⟩
        have := k H (Same.refl H)
        rw [isName_short (by simpa using c1)] at this
        exact this
    | none => exact iteT (iteT (k H (Same.refl H)))
    | bool _ => exact iteT (iteT (k H (Same.refl H)))
    | int _ => exact iteT (iteT (k H (Same.refl H)))
    | tuple _ => exact iteT (iteT (k H (Same.refl H)))
    | list _ => exact iteT (iteT (k H (Same.refl H)))
    | dict _ => first | (simp [fine] at hf; done) | exact absurd g.f (by simp [fine])
end
end E2

set_option Elab.async false
set_option linter.all false
set_option maxRecDepth 100000
namespace E2
open PySem L2
abbrev sRise : Stmt := top 20
abbrev sAreN : Stmt := top 21
abbrev sIsSt : Stmt := top 22
abbrev sAreS : Stmt := top 23
abbrev sIsWeb : Stmt := top 24
def strsOf : List PyData → List Str
  | .str x :: r => x :: strsOf r
  | _ => []
theorem strsOf_map : ∀ ss : List Str, strsOf (ss.map .str) = ss
  | [] => rfl
  | s :: ss => by rw [List.map_cons, strsOf, strsOf_map ss]
def cmpD : PyData → PyData → Bool
  | .str x, .str y => decide (x.cps.toList < y.cps.toList)
  | .tuple a, .tuple b => lexS (strsOf a) (strsOf b)
  | _, _ => false
def comparable (ds : List PyData) : Prop := (∀ d ∈ ds, ∃ x, d = .str x) ∨ ∀ d ∈ ds, ∃ ss : List Str, d = .tuple (ss.map .str)
def rising (ds : List PyData) : Bool := (ds.zip (ds.drop 1)).all fun p => cmpD p.1 p.2
def spRise : Sp := fun vs H Q _ => ∃ ds v, vs = [v] ∧ Rep H (.tuple ds) v ∧ comparable ds ∧ ds.length ≤ 100000 ∧ ∀ H', Same H H' → Q (.bl (rising ds)) H'
theorem Reps.mem {H : Hp} {ds : List PyData} {vs : List V} {i : Nat} {v : V} (h : Reps H ds vs) (e : vs[i]? = some v) : ∃ d, ds[i]? = some d ∧ d ∈ ds ∧ Rep H d v := by
  obtain ⟨d, e1, e2⟩ := h.get e
  exact ⟨d, e1, List.mem_of_getElem? e1, e2⟩
theorem take_snoc {α : Type} (l : List α) (i : Nat) (x : α) (h : l[i]? = some x) : l.take (i + 1) = l.take i ++ [x] := by
  obtain ⟨hi, e⟩ := List.getElem?_eq_some_iff.mp h
  rw [List.take_succ_eq_append_getElem hi, e]
theorem cut_tail (ds : List PyData) : cutD ds (some 1) none = ds.drop 1 := by
  unfold cutD
  have e : HT.sIx ds.length 0 (some 1) = min 1 ds.length := HT.sIx_nat ds.length 0 1
  rw [e, HT.sIx_none]
  cases ds with
  | nil => rfl
  | cons d r =>
    have : min 1 (d :: r).length = 1 := by simp
    rw [this, List.take_of_length_le (by simp)]
section
variable {P : Program} {w : World} {K : PySem.W.Frag} {mg : Str → Option Value} {base : Heap}
theorem sc2 : FnScope ["things"] ["things"] (defScope sRise) := ⟨rfl, rfl, rfl, by decide +kernel, rfl, by decide +kernel, by decide +kernel⟩
theorem nd2 : (["low", "high", "things"] : List Str).Nodup := by decide +kernel
theorem ok_rise {f : Addr} {fd : FuncData} (F : Fun K "is_rising" "is_rising" sRise f fd) (T : Txt mg) : FnOk P w K mg base CX0 1 f fd ["things"] spRise := by
  refine F.ok sc2 (fun vs H Q E h => ?_) (fun cdv A outer s H vs Q E hr h => ?_)
  · obtain ⟨d, v, rfl, _⟩ := h
    rfl
  · obtain ⟨ds, v, rfl, h, hc, hl, k⟩ := h
    refine ⟨_, pss_one (ps_ret (pe_all T.b rfl (pe_comp ["low", "high"] rfl rfl (pi_zip (by rfl) (T.b _ (by decide)) (pa_cons (pv 0) (pa_cons (pe_slice sl_tupD (pv 0) (po_some pe_int) po_none) pa_nil)))
      (fun _ _ _ _ _ => pg_pair K 0 1 nd2 rfl rfl rfl rfl (Or.inl rfl) (Or.inl rfl) rfl rfl) (fun _ _ _ _ _ => pts_nil) (fun _ _ _ _ _ => pe_cmpR (op_lt_str.or (op_ltTS hr)) (pv 0) (pv 1) (nomark _))))), ?_⟩
    refine ⟨v, rfl, v, rfl, 1, rfl, ds, h, fun r H1 s1 hr1 => ?_⟩
    rw [cut_tail] at hr1
    have h1 := h.same s1
    obtain ⟨a1, xs, rfl, ha1, rx⟩ := id h1
    obtain ⟨a2, ys, rfl, ha2, ry⟩ := id hr1
    refine ⟨a1, a2, xs, ys, rfl, SqT.of ha1, SqT.of ha2, ?_⟩
    have lx := rx.length
    have ly := ry.length
    rw [List.length_drop] at ly
    have hz : (ds.zip (ds.drop 1)).length = min xs.length ys.length := by rw [List.length_zip, List.length_drop, lx, ly]
    refine comp_zip0 (fun i zs H' => Same H1 H' ∧ zs = ((ds.zip (ds.drop 1)).take i).map fun p => V.bl (cmpD p.1 p.2)) ⟨Same.refl H1, rfl⟩ (fun i zs H' hi ⟨sm, e⟩ => ⟨SqT.of (sm _ _ ha1), SqT.of (sm _ _ ha2), ?_⟩) (fun i x y zs H' p hx hy ⟨sm, e⟩ hp => ?_) fun zs H' ⟨sm, e⟩ p hp => ?_
    · rw [e, List.length_map, List.length_take]
      exact Nat.le_trans (Nat.min_le_left _ _) (Nat.le_trans hi (Nat.le_trans (Nat.min_le_left _ _) (by rw [lx]; exact Nat.le_trans hl (by decide))))
    · refine ⟨p, [x, y], rfl, SqT.of upd_same, rfl, x, [y], rfl, y, [], rfl, rfl, x, rfl, y, rfl, ?_⟩
      have sm2 : Same H1 (upd H' p (.tup [x, y])) := sm.upd hp
      obtain ⟨d, e1, m1, r1⟩ := Reps.mem (rx.same sm2) hx
      obtain ⟨d', e2, m2, r2⟩ := Reps.mem (ry.same sm2) hy
      have m2' : d' ∈ ds := List.mem_of_mem_drop m2
      have ez : (ds.zip (ds.drop 1))[i]? = some (d, d') := by rw [List.getElem?_zip_eq_some]; exact ⟨e1, e2⟩
      have fin : zs ++ [V.bl (cmpD d d')] = ((ds.zip (ds.drop 1)).take (i + 1)).map fun p => V.bl (cmpD p.1 p.2) := by
        rw [take_snoc _ _ _ ez, List.map_append, e]; rfl
      rcases hc with hc | hc
      · obtain ⟨x1, rfl⟩ := hc d m1
        obtain ⟨x2, rfl⟩ := hc d' m2'
        cases r1
        cases r2
        exact .inl ⟨x1, x2, rfl, rfl, sm2, fin⟩
      · obtain ⟨x1, rfl⟩ := hc d m1
        obtain ⟨x2, rfl⟩ := hc d' m2'
        refine .inr ⟨x1, x2, r1, r2, sm2, ?_⟩
        rw [← fin, cmpD, strsOf_map, strsOf_map]
    · refine ⟨p, (ds.zip (ds.drop 1)).map fun p => cmpD p.1 p.2, rfl, SqL.of (by rw [upd_same, e, List.take_of_length_le (by rw [hz]; exact Nat.le_refl _), List.map_map]; rfl), ?_⟩
      have := k (upd H' p (.lst zs)) ((s1.trans sm).upd hp)
      rw [rising] at this
      rw [List.all_map]
      exact this

/-! ### are_names -/
def items : PyData → List PyData
  | .tuple ds => ds
  | _ => []
def areNames : PyData → Bool
  | .tuple ds => decide (ds.length ≤ 12) && ds.all isName && rising ds
  | _ => false
theorem fine_tup {ds : List PyData} (h : fine (.tuple ds) = true) : fines ds = true ∧ ds.length ≤ 100000 := by simpa [fine] using h
theorem fines_mem : ∀ {ds : List PyData} {d : PyData}, fines ds = true → d ∈ ds → fine d = true
  | _ :: _, d, h, m => by
    simp only [fines, Bool.and_eq_true] at h
    rcases List.mem_cons.mp m with rfl | m
    · exact h.1
    · exact fines_mem h.2 m
theorem depth_mem : ∀ {ds : List PyData} {d : PyData}, d ∈ ds → d.depth ≤ PyData.depthAll ds
  | _ :: _, d, m => by
    simp only [PyData.depthAll]
    rcases List.mem_cons.mp m with rfl | m
    · exact Nat.le_max_left _ _
    · exact Nat.le_trans (depth_mem m) (Nat.le_max_right _ _)
/-- data that is small and plain -/
structure Good (d : PyData) : Prop where
  f : fine d = true
  d : d.depth ≤ 20
/-- data, or a dict of scalars -/
def spTop (f : PyData → Bool) : Sp := fun vs H Q _ => ∃ d v, vs = [v] ∧ Rep H d v ∧ (Good d ∨ ∃ kvs, d = .dict kvs) ∧ ∀ H', Same H H' → Q (.bl (f d)) H'
theorem Good.mem {ds : List PyData} {d : PyData} (g : Good (.tuple ds)) (m : d ∈ ds) : Good d := by
  refine ⟨fines_mem (fine_tup g.f).1 m, ?_⟩
  have := g.d
  simp only [PyData.depth] at this
  exact Nat.le_trans (depth_mem m) (by omega)
mutual
theorem lay_fine : ∀ {d : PyData}, fine d = true → d.canLay0 = true
  | .none, _ => by simp [PyData.canLay0]
  | .bool _, _ => by simp [PyData.canLay0]
  | .int _, _ => by simp [PyData.canLay0]
  | .str x, h => by simp [fine] at h; simpa [PyData.canLay0] using h.2
  | .tuple ds, h => by simp only [PyData.canLay0]; exact lay_fines (fine_tup h).1
  | .list ds, h => by simp only [fine, Bool.and_eq_true] at h; simp only [PyData.canLay0]; exact lay_fines h.1
  | .dict _, h => by simp [fine] at h
theorem lay_fines : ∀ {ds : List PyData}, fines ds = true → PyData.canLayAll0 ds = true
  | [], _ => by simp [PyData.canLayAll0]
  | d :: ds, h => by
    simp only [fines, Bool.and_eq_true] at h
    simp only [PyData.canLayAll0, Bool.and_eq_true]
    exact ⟨lay_fine h.1, lay_fines h.2⟩
end
theorem Good.ok {d : PyData} (g : Good d) : dOk d = true := by
  unfold dOk
  rw [lay_fine g.f, decide_eq_true (Nat.le_trans g.d (by decide))]
  rfl
theorem isName_inv {d : PyData} (h : isName d = true) : ∃ x, d = .str x := by
  cases d with
  | str x => exact ⟨x, rfl⟩
  | _ => simp [isName] at h
theorem names_cmp {ds : List PyData} (h : ds.all isName = true) : comparable ds := .inl fun d m => isName_inv (List.all_eq_true.mp h d m)
theorem sc3 : FnScope ["thing"] ["thing"] (defScope sAreN) := ⟨rfl, rfl, rfl, by decide +kernel, rfl, by decide +kernel, by decide +kernel⟩
theorem nd3 : (["part", "thing"] : List Str).Nodup := by decide +kernel
/-- all([f(x) for x in t]): what is left when each call has its value -/
theorem ok_are_names {f : Addr} {fd : FuncData} (F : Fun K "are_names" "are_names" sAreN f fd) (T : Txt mg) (FN : HasFn P w K mg base "is_name" ["thing"] 1 (spData isName)) (FR : HasFn P w K mg base "is_rising" ["things"] 1 spRise) :
    FnOk P w K mg base CX0 2 f fd ["thing"] (spData areNames) := by
  refine F.ok sc3 (fun vs H Q E h => ?_) (fun cdv A outer s H vs Q E hr h => ?_)
  · obtain ⟨d, v, rfl, _⟩ := h
    rfl
  · obtain ⟨d, v, rfl, h, hf, hd, k⟩ := h
    obtain ⟨t12, e12⟩ := T.twl
    refine ⟨_, pss_cons (ps_if (pw_or (pt_not (pt_val (pe_isiT T.b (pv 0)))) (pw_or1 (pt_cmpR op_gt (pe_lenD T.b (pv 0)) (pe_glob (by rfl) e12 (v := .int 12) ⟨_, rfl⟩) (nomark _)))).pt (pss_one (ps_ret pe_bl)) pss_nil)
      (pss_one (ps_ret (pe_and (pe_all T.b rfl (pe_comp ["part"] rfl rfl (pi_tup (pv 0)) (fun _ _ _ _ _ => pg_c 0 nd3 rfl (Or.inl rfl) rfl) (fun _ _ _ _ _ => pts_nil) (fun _ _ _ _ _ => pe_fn FN hr (by rfl) (pa_cons (pv 0) pa_nil))))
        (pe_one (pe_fn FR hr (by rfl) (pa_cons (pv 0) pa_nil)))))), ?_⟩
    refine ⟨v, rfl, _, d, rfl, h, _, rfl, ?_⟩
    have g : Good d := ⟨hf, hd⟩
    cases d with
    | tuple ds =>
      obtain ⟨hfs, hln⟩ := fine_tup hf
      refine iteF ⟨_, rfl, _, _, rfl, h, Nat.le_trans hln (by decide), rfl, _, _, rfl, rfl, _, rfl, ?_⟩
      by_cases c2 : (12 : Int) < ((lenD (.tuple ds) : Nat) : Int)
      · rw [decide_eq_true c2]
        refine iteT ?_
        have := k H (Same.refl H)
        have c3 : ¬ ds.length ≤ 12 := by have : (12 : Int) < (ds.length : Int) := c2; omega
        simp only [areNames, decide_eq_false c3, Bool.false_and] at this
        exact this
      · rw [decide_eq_false c2]
        have c3 : ds.length ≤ 12 := by have : ¬ (12 : Int) < (ds.length : Int) := c2; omega
        obtain ⟨a, xs, rfl, ha, rx⟩ := id h
        have lx := rx.length
        refine iteF ⟨_, rfl, a, rfl, ⟨xs, SqT.of ha⟩, comp_tup0 (fun i ys H' => Same H H' ∧ ys = (ds.take i).map fun e => V.bl (isName e)) ⟨Same.refl H, rfl⟩ (fun i ys H' hi ⟨sm, e⟩ => ⟨SqT.of (sm _ _ ha), ?_⟩) (fun i x ys H' hx ⟨sm, e⟩ => ?_) fun ys H' ⟨sm, e⟩ p hp => ?_⟩
        · rw [e, List.length_map, List.length_take]
          exact Nat.le_trans (Nat.min_le_right _ _) (Nat.le_trans hln (by decide))
        · obtain ⟨d', e1, m1, r1⟩ := Reps.mem (rx.same sm) hx
          refine ⟨x, rfl, d', x, rfl, r1, (g.mem m1).f, (g.mem m1).d, fun H2 s2 => ⟨sm.trans s2, ?_⟩⟩
          rw [take_snoc _ _ _ e1, List.map_append, e]
          rfl
        · refine ⟨p, ds.map isName, rfl, SqL.of (by rw [upd_same, e, List.take_of_length_le (by rw [lx]; exact Nat.le_refl _), List.map_map]; rfl), _, rfl, ?_⟩
          have sm2 : Same H (upd H' p (.lst ys)) := sm.upd hp
          have ea : (ds.map isName).all id = ds.all isName := by rw [List.all_map]; rfl
          rw [ea]
          refine ite2 (fun c4 => ?_) (fun c4 => ?_)
          · refine ⟨_, rfl, ds, _, rfl, h.same sm2, names_cmp c4, hln, fun H3 s3 => ?_⟩
            have := k H3 (sm2.trans s3)
            simp only [areNames, decide_eq_true c3, c4, Bool.true_and] at this
            exact this
          · have := k _ sm2
            simp only [areNames, Bool.not_eq_true _ ▸ c4, Bool.and_false, Bool.false_and] at this
            exact this
    | none => exact iteT (iteT (k H (Same.refl H)))
    | bool _ => exact iteT (iteT (k H (Same.refl H)))
    | int _ => exact iteT (iteT (k H (Same.refl H)))
    | str _ => exact iteT (iteT (k H (Same.refl H)))
    | list _ => exact iteT (iteT (k H (Same.refl H)))
    | dict _ => first | (simp [fine] at hf; done) | exact absurd g.f (by simp [fine])
end
end E2

set_option Elab.async false
set_option linter.all false
set_option maxRecDepth 100000
namespace E2
open PySem L2
section
variable {P : Program} {w : World} {K : PySem.W.Frag} {mg : Str → Option Value} {base : Heap}
/-! ### is_strike -/
def isStrike (ds : List PyData) : PyData → Bool
  | .tuple [x, y] => ds.any (fun e => PyData.eqv e x) && ds.any fun e => PyData.eqv e y
  | _ => false
theorem isStrike_no {ds es : List PyData} (h : es.length ≠ 2) : isStrike ds (.tuple es) = false := by
  match es, h with
  | [], _ => rfl
  | [_], _ => rfl
  | [_, _], h => exact absurd rfl h
  | _ :: _ :: _ :: _, _ => rfl
def spStrike : Sp := fun vs H Q _ => ∃ d ds v u, vs = [v, u] ∧ Rep H d v ∧ Rep H (.tuple ds) u ∧ Good d ∧ Good (.tuple ds) ∧ ∀ H', Same H H' → Q (.bl (isStrike ds d)) H'
theorem sc4 : FnScope ["thing", "names"] ["thing", "names"] (defScope sIsSt) := ⟨rfl, rfl, rfl, by decide +kernel, rfl, by decide +kernel, by decide +kernel⟩
theorem atI_0 {α : Type} (x : α) (xs : List α) : atI (x :: xs) 0 = some x := atI_nat (j := 0) (v := x) (show (x :: xs)[0]? = some x from rfl)
theorem atI_1 {α : Type} (x y : α) (xs : List α) : atI (x :: y :: xs) 1 = some y := atI_nat (j := 1) (v := y) (show (x :: y :: xs)[1]? = some y from rfl)
theorem ok_is_strike {f : Addr} {fd : FuncData} (F : Fun K "is_strike" "is_strike" sIsSt f fd) (T : Txt mg) : FnOk P w K mg base CX0 1 f fd ["thing", "names"] spStrike := by
  refine F.ok sc4 (fun vs H Q E h => ?_) (fun cdv A outer s H vs Q E hr h => ?_)
  · obtain ⟨_, _, _, _, rfl, _⟩ := h
    rfl
  · obtain ⟨d, ds, v, u, rfl, h, hn, g, gn, k⟩ := h
    refine ⟨_, pss_cons (ps_if (pw_or (pt_not (pt_val (pe_isiT T.b (pv 0)))) (pw_or1 (pt_cmpR op_ne (pe_lenD T.b (pv 0)) pe_int (nomark _)))).pt (pss_one (ps_ret pe_bl)) pss_nil)
      (pss_one (ps_ret (pe_and (pe_cmpR (op_inT hr) (pe_ix ix_tup (pv 0) pe_int (fun _ _ => rfl)) (pv 1) (by with_unfolding_all rfl)) (pe_one (pe_cmpR (op_inT hr) (pe_ix ix_tup (pv 0) pe_int (fun _ _ => rfl)) (pv 1) (by with_unfolding_all rfl)))))), ?_⟩
    refine ⟨v, rfl, _, d, rfl, h, _, rfl, ?_⟩
    cases d with
    | tuple es =>
      refine iteF ⟨_, rfl, _, _, rfl, h, Nat.le_trans (fine_tup g.f).2 (by decide), rfl, rfl, _, rfl, ?_⟩
      by_cases c : es.length = 2
      · match es, c with
        | [x, y], _ =>
          refine iteF ?_
          obtain ⟨a, xs, rfl, ha, x1, r1, rfl, hx, y1, r2, rfl, hy, e3⟩ := id h
          cases e3
          refine ⟨_, rfl, a, _, 0, x1, rfl, rfl, SqT.of ha, atI_0 _ _, u, rfl, x, ds, hx, hn, (g.mem (by simp)).ok, gn.ok, _, rfl, ?_⟩
          rw [Bool.false_xor]
          refine ite2 (fun c1 => ?_) (fun c1 => ?_)
          · refine ⟨_, rfl, a, _, 1, y1, rfl, rfl, SqT.of ha, atI_1 _ _ _, u, rfl, y, ds, hy, hn, (g.mem (by simp)).ok, gn.ok, ?_⟩
            have := k H (Same.refl H)
            simp only [isStrike, c1, Bool.true_and] at this
            rw [Bool.false_xor]
            exact this
          · have := k H (Same.refl H)
            simp only [isStrike, Bool.not_eq_true _ ▸ c1, Bool.false_and] at this
            exact this
      · have e : decide (V.int ((lenD (.tuple es) : Nat) : Int) = V.int 2) = false := decide_eq_false fun z => c (by injection z with z; have z' : (es.length : Int) = 2 := z; omega)
        rw [e]
        refine iteT ?_
        have := k H (Same.refl H)
        rw [isStrike_no c] at this
        exact this
    | none => exact iteT (iteT (k H (Same.refl H)))
    | bool _ => exact iteT (iteT (k H (Same.refl H)))
    | int _ => exact iteT (iteT (k H (Same.refl H)))
    | str _ => exact iteT (iteT (k H (Same.refl H)))
    | list _ => exact iteT (iteT (k H (Same.refl H)))
    | dict _ => first | (simp [fine] at hf; done) | exact absurd g.f (by simp [fine])

/-! ### are_strikes -/
def areStrikes (ds : List PyData) : PyData → Bool
  | .tuple ps => ps.all (isStrike ds) && rising ps
  | _ => false
def spStrikes : Sp := fun vs H Q _ => ∃ d ds v u, vs = [v, u] ∧ Rep H d v ∧ Rep H (.tuple ds) u ∧ Good d ∧ Good (.tuple ds) ∧ ds.all isName = true ∧ ∀ H', Same H H' → Q (.bl (areStrikes ds d)) H'
theorem eqv_str {e x : PyData} (he : isName e = true) (h : PyData.eqv e x = true) : ∃ s, x = .str s := by
  obtain ⟨s, rfl⟩ := isName_inv he
  cases x with
  | str y => exact ⟨y, rfl⟩
  | _ => simp [PyData.eqv] at h
theorem strike_inv {ds : List PyData} {d : PyData} (hn : ds.all isName = true) (h : isStrike ds d = true) : ∃ ss : List Str, d = .tuple (ss.map .str) := by
  have key : ∀ {x : PyData}, (ds.any fun e => PyData.eqv e x) = true → ∃ s, x = .str s := fun {x} q => by
    obtain ⟨e, m, q⟩ := List.any_eq_true.mp q
    exact eqv_str (List.all_eq_true.mp hn e m) q
  unfold isStrike at h
  split at h
  · rw [Bool.and_eq_true] at h
    obtain ⟨x, rfl⟩ := key h.1
    obtain ⟨y, rfl⟩ := key h.2
    exact ⟨[x, y], rfl⟩
  · cases h
theorem sc5 : FnScope ["thing", "names"] ["thing", "names"] (defScope sAreS) := ⟨rfl, rfl, rfl, by decide +kernel, rfl, by decide +kernel, by decide +kernel⟩
theorem nd5 : (["part", "thing", "names"] : List Str).Nodup := by decide +kernel
theorem ok_are_strikes {f : Addr} {fd : FuncData} (F : Fun K "are_strikes" "are_strikes" sAreS f fd) (T : Txt mg) (FS : HasFn P w K mg base "is_strike" ["thing", "names"] 1 spStrike) (FR : HasFn P w K mg base "is_rising" ["things"] 1 spRise) :
    FnOk P w K mg base CX0 2 f fd ["thing", "names"] spStrikes := by
  refine F.ok sc5 (fun vs H Q E h => ?_) (fun cdv A outer s H vs Q E hr h => ?_)
  · obtain ⟨_, _, _, _, rfl, _⟩ := h
    rfl
  · obtain ⟨d, ds, v, u, rfl, h, hn, g, gn, an, k⟩ := h
    refine ⟨_, pss_cons (ps_if (pt_not (pt_val (pe_isiT T.b (pv 0)))) (pss_one (ps_ret pe_bl)) pss_nil)
      (pss_one (ps_ret (pe_and (pe_all T.b rfl (pe_comp ["part"] rfl rfl (pi_tup (pv 0)) (fun _ _ _ _ _ => pg_c 0 nd5 rfl (Or.inl rfl) rfl) (fun _ _ _ _ _ => pts_nil) (fun _ _ _ _ _ => pe_fn FS hr (by rfl) (pa_cons (pv 0) (pa_cons (pv 2) pa_nil)))))
        (pe_one (pe_fn FR hr (by rfl) (pa_cons (pv 0) pa_nil)))))), ?_⟩
    refine ⟨v, rfl, _, d, rfl, h, _, rfl, ?_⟩
    cases d with
    | tuple es =>
      obtain ⟨a, xs, rfl, ha, rx⟩ := id h
      have lx := rx.length
      have hln := (fine_tup g.f).2
      refine iteF ⟨_, rfl, a, rfl, ⟨xs, SqT.of ha⟩, comp_tup0 (fun i ys H' => Same H H' ∧ ys = (es.take i).map fun e => V.bl (isStrike ds e)) ⟨Same.refl H, rfl⟩ (fun i ys H' hi ⟨sm, e⟩ => ⟨SqT.of (sm _ _ ha), ?_⟩) (fun i x ys H' hx ⟨sm, e⟩ => ?_) fun ys H' ⟨sm, e⟩ p hp => ?_⟩
      · rw [e, List.length_map, List.length_take]
        exact Nat.le_trans (Nat.min_le_right _ _) (Nat.le_trans hln (by decide))
      · obtain ⟨d', e1, m1, r1⟩ := Reps.mem (rx.same sm) hx
        refine ⟨x, rfl, u, rfl, d', ds, x, u, rfl, r1, hn.same sm, g.mem m1, gn, fun H2 s2 => ⟨sm.trans s2, ?_⟩⟩
        rw [take_snoc _ _ _ e1, List.map_append, e]
        rfl
      · refine ⟨p, es.map (isStrike ds), rfl, SqL.of (by rw [upd_same, e, List.take_of_length_le (by rw [lx]; exact Nat.le_refl _), List.map_map]; rfl), _, rfl, ?_⟩
        have sm2 : Same H (upd H' p (.lst ys)) := sm.upd hp
        have ea : (es.map (isStrike ds)).all id = es.all (isStrike ds) := by rw [List.all_map]; rfl
        rw [ea]
        refine ite2 (fun c4 => ?_) (fun c4 => ?_)
        · refine ⟨_, rfl, es, _, rfl, h.same sm2, .inr fun e m => strike_inv an (List.all_eq_true.mp c4 e m), hln, fun H3 s3 => ?_⟩
          have := k H3 (sm2.trans s3)
          simp only [areStrikes, c4, Bool.true_and] at this
          exact this
        · have := k _ sm2
          simp only [areStrikes, Bool.not_eq_true _ ▸ c4, Bool.false_and] at this
          exact this
    | none => exact iteT (k H (Same.refl H))
    | bool _ => exact iteT (k H (Same.refl H))
    | int _ => exact iteT (k H (Same.refl H))
    | str _ => exact iteT (k H (Same.refl H))
    | list _ => exact iteT (k H (Same.refl H))
    | dict _ => first | (simp [fine] at hf; done) | exact absurd g.f (by simp [fine])

/-! ### is_web -/
def isWeb : PyData → Bool
  | .tuple [a, b] => areNames a && areStrikes (items a) b
  | _ => false
theorem isWeb_no {es : List PyData} (h : es.length ≠ 2) : isWeb (.tuple es) = false := by
  match es, h with
  | [], _ => rfl
  | [_], _ => rfl
  | [_, _], h => exact absurd rfl h
  | _ :: _ :: _ :: _, _ => rfl
theorem areNames_inv {d : PyData} (h : areNames d = true) : ∃ ds, d = .tuple ds ∧ ds.all isName = true := by
  cases d with
  | tuple ds =>
    simp only [areNames, Bool.and_eq_true] at h
    exact ⟨ds, rfl, h.1.2⟩
  | _ => simp [areNames] at h
theorem sc6 : FnScope ["thing", "names", "strikes"] ["thing"] (defScope sIsWeb) := ⟨rfl, rfl, rfl, by decide +kernel, rfl, by decide +kernel, by decide +kernel⟩
theorem ok_is_web {f : Addr} {fd : FuncData} (F : Fun K "is_web" "is_web" sIsWeb f fd) (T : Txt mg) (FN : HasFn P w K mg base "are_names" ["thing"] 2 (spData areNames)) (FS : HasFn P w K mg base "are_strikes" ["thing", "names"] 2 spStrikes) :
    FnOk P w K mg base CX0 3 f fd ["thing"] (spTop isWeb) := by
  refine F.ok sc6 (fun vs H Q E h => ?_) (fun cdv A outer s H vs Q E hr h => ?_)
  · obtain ⟨_, _, rfl, _⟩ := h
    rfl
  · obtain ⟨d, v, rfl, h, hg, k⟩ := h
    refine ⟨_, pss_cons (ps_if (pw_or (pt_not (pt_val (pe_isiT T.b (pv 0)))) (pw_or1 (pt_cmpR op_ne (pe_lenD T.b (pv 0)) pe_int (nomark _)))).pt (pss_one (ps_ret pe_bl)) pss_nil)
      (pss_cons (ps_asg (pv 0) (pg_pair K 1 2 sc6.nd rfl rfl rfl rfl (Or.inl rfl) (Or.inl rfl) rfl rfl))
      (pss_one (ps_ret (pe_and (pe_fn FN hr (by rfl) (pa_cons (pv 1) pa_nil)) (pe_one (pe_fn FS hr (by rfl) (pa_cons (pv 2) (pa_cons (pv 1) pa_nil)))))))), ?_⟩
    refine ⟨v, rfl, _, d, rfl, h, _, rfl, ?_⟩
    rcases hg with g | ⟨kvs, rfl⟩
    rotate_left
    · exact iteT (iteT (k H (Same.refl H)))
    cases d with
    | tuple es =>
      refine iteF ⟨_, rfl, _, _, rfl, h, Nat.le_trans (fine_tup g.f).2 (by decide), rfl, rfl, _, rfl, ?_⟩
      by_cases c : es.length = 2
      · match es, c with
        | [x, y], _ =>
          refine iteF ?_
          obtain ⟨a, xs, rfl, ha, x1, r1, rfl, hx, y1, r2, rfl, hy, e3⟩ := id h
          cases e3
          have gx : Good x := g.mem (by simp)
          have gy : Good y := g.mem (by simp)
          refine ⟨_, rfl, a, _, rfl, SqT.of ha, rfl, x1, _, rfl, y1, [], rfl, rfl, x1, rfl, x, x1, rfl, hx, gx.f, gx.d, fun H1 s1 => ⟨_, rfl, ?_⟩⟩
          refine ite2 (fun c1 => ?_) (fun c1 => ?_)
          · obtain ⟨ds, rfl, an⟩ := areNames_inv c1
            refine ⟨y1, rfl, x1, rfl, y, ds, y1, x1, rfl, hy.same s1, hx.same s1, gy, gx, an, fun H2 s2 => ?_⟩
            have := k H2 (s1.trans s2)
            simp only [isWeb, c1, items, Bool.true_and] at this
            exact this
          · have := k H1 s1
            simp only [isWeb, Bool.not_eq_true _ ▸ c1, Bool.false_and] at this
            exact this
      · have e : decide (V.int ((lenD (.tuple es) : Nat) : Int) = V.int 2) = false := decide_eq_false fun z => c (by injection z with z; have z' : (es.length : Int) = 2 := z; omega)
        rw [e]
        refine iteT ?_
        have := k H (Same.refl H)
        rw [isWeb_no c] at this
        exact this
    | none => exact iteT (iteT (k H (Same.refl H)))
    | bool _ => exact iteT (iteT (k H (Same.refl H)))
    | int _ => exact iteT (iteT (k H (Same.refl H)))
    | str _ => exact iteT (iteT (k H (Same.refl H)))
    | list _ => exact iteT (iteT (k H (Same.refl H)))
    | dict _ => exact absurd g.f (by simp [fine])
end
end E2

set_option Elab.async false
set_option linter.all false
set_option maxRecDepth 100000
namespace E2
open PySem L2
abbrev sLN : Stmt := top 37
abbrev sLR : Stmt := top 38
abbrev sLW : Stmt := top 39
def alphabet : Str := "abcdefghijklmnopqrstuvwxyz"
theorem alpha_cps : alphabet.cps.toList = (List.range 26).map (97 + ·) := by decide +kernel
theorem alpha_mem (c : Nat) : decide (c ∈ alphabet.cps.toList) = az c := by
  rw [alpha_cps, az, Bool.eq_iff_iff]
  simp only [decide_eq_true_eq, List.mem_map, List.mem_range, Bool.and_eq_true]
  constructor
  · rintro ⟨a, h, rfl⟩
    omega
  · intro h
    exact ⟨c - 97, by omega, by omega⟩
theorem ok_list {ds : List PyData} (h : fines ds = true) (hd : PyData.depthAll ds ≤ 20) : dOk (.list ds) = true := by
  unfold dOk
  have e1 : (PyData.list ds).canLay0 = true := by simp only [PyData.canLay0]; exact lay_fines h
  have e2 : (PyData.list ds).depth ≤ 40 := by simp only [PyData.depth]; omega
  rw [e1, decide_eq_true e2]
  rfl
theorem ok_nil : dOk (.list []) = true := by decide
theorem eqv_nil (ds : List PyData) : PyData.eqv (.list ds) (.list []) = ds.isEmpty := by
  cases ds with
  | nil => simp [PyData.eqv, PyData.eqvAll]
  | cons d r => simp [PyData.eqv, PyData.eqvAll]
theorem fines_strs : ∀ (cs : List Nat), (∀ c ∈ cs, c < 0x110000) → fines (cs.map fun c => .str ⟨#[c]⟩) = true
  | [], _ => rfl
  | c :: cs, h => by
    have h1 : c < 1114112 := h c (by simp)
    simp only [List.map_cons, fines, Bool.and_eq_true]
    refine ⟨?_, fines_strs cs fun c' m => h c' (by simp [m])⟩
    simp [fine, PyData.strOk, Str.length, h1]
theorem depth_strs : ∀ (cs : List Nat), PyData.depthAll (cs.map fun c => .str ⟨#[c]⟩) = 0
  | [] => by simp [PyData.depthAll]
  | c :: cs => by simp [PyData.depthAll, PyData.depth, depth_strs cs]
theorem reps_signs {H : Hp} : ∀ (cs : List Nat), Reps H (cs.map fun c => .str ⟨#[c]⟩) (cs.map fun c => V.str ⟨#[c]⟩)
  | [] => rfl
  | c :: cs => .cons rfl (reps_signs cs)
section
variable {P : Program} {w : World} {K : PySem.W.Frag} {mg : Str → Option Value} {base : Heap}
theorem sc15 : FnScope ["_law_thing"] ["_law_thing"] (defScope sLN) := ⟨rfl, rfl, rfl, by decide +kernel, rfl, by decide +kernel, by decide +kernel⟩
theorem nd15 : (["_law_sign", "_law_thing"] : List Str).Nodup := by decide +kernel
theorem ok_lname {f : Addr} {fd : FuncData} (F : Fun K "_law_is_name" "_law_is_name" sLN f fd) (T : Txt mg) : FnOk P w K mg base CX0 1 f fd ["_law_thing"] (spData isName) := by
  refine F.ok sc15 (fun vs H Q E h => ?_) (fun cdv A outer s H vs Q E hr h => ?_)
  · obtain ⟨d, v, rfl, _⟩ := h
    rfl
  · obtain ⟨d, v, rfl, h, hf, hd, k⟩ := h
    refine ⟨_, pss_cons (ps_if (pw_or (pt_not (pt_val (pe_isiS T.b (pv 0)))) (pw_or1 (pt_not (pt_chain op_le op_le pe_int (pe_lenD T.b (pv 0)) pe_int)))).pt (pss_one (ps_ret pe_bl)) pss_nil)
      (pss_one (ps_ret (pe_cmpR (op_eqD hr) (pe_comp ["_law_sign"] rfl rfl (pi_str (pv 0)) (fun _ _ _ _ _ => pg_c 0 nd15 rfl (Or.inl rfl) rfl) (fun _ _ _ _ _ => pts_one (pt_cmpR op_notin_str (pv 0) pe_str (by with_unfolding_all rfl))) (fun _ _ _ _ _ => pv 0)) (pe_lst pa_nil) (nomark _)))), ?_⟩
    refine ⟨v, rfl, _, d, rfl, h, _, rfl, ?_⟩
    cases d with
    | str x =>
      refine iteF ?_
      cases h
      have hl : x.length ≤ 100 := by simp [fine] at hf; exact hf.1
      have hok : ∀ c ∈ x.cps.toList, c < 0x110000 := by
        have : PyData.strOk x = true := by simp only [fine, Bool.and_eq_true] at hf; exact hf.2
        intro c hc
        have q := Array.all_eq_true.mp this
        obtain ⟨i, hi, e⟩ := List.mem_iff_getElem.mp hc
        have := q i (by simpa using hi)
        simp at this e
        rw [e] at this
        exact this
      refine ⟨_, rfl, .str x, _, rfl, rfl, Nat.le_trans hl (by decide), rfl, 1, _, rfl, rfl, _, rfl, ?_⟩
      refine ite2 (fun c1 => ?_) (fun c1 => ?_)
      · refine ⟨_, _, rfl, rfl, _, rfl, ?_⟩
        by_cases c2 : ((lenD (PyData.str x) : Nat) : Int) ≤ 6
        · rw [decide_eq_true c2]
          refine iteF ⟨_, rfl, x, rfl, comp_str (fun i ys H' => Same H H' ∧ ys = ((x.cps.toList.take i).filter fun c => !az c).map fun c => V.str ⟨#[c]⟩) ⟨Same.refl H, rfl⟩ (fun i ys H' hi ⟨_, e⟩ => ?_) (fun i ys H' hi ⟨sm, e⟩ => ?_) fun ys H' ⟨sm, e⟩ p hp => ?_⟩
          · rw [e, List.length_map]
            have : x.cps.size ≤ 100 := hl
            refine Nat.le_trans (List.length_filter_le _ _) ?_
            rw [List.length_take]
            exact Nat.le_trans (Nat.min_le_left _ _) (Nat.le_trans (Nat.le_trans hi this) (by decide))
          · refine ⟨_, rfl, _, _, rfl, rfl, _, rfl, ?_⟩
            have ec : x.cps.toList[i]? = some (x.cps.getD i 0) := by simp [Array.getD, hi]
            have em : (!(!(Builtin.Str.occurrences alphabet ⟨#[x.cps.getD i 0]⟩ 0 alphabet.length 1).isEmpty)) = !az (x.cps.getD i 0) := by rw [StrLaws.found_one, alpha_mem]
            rw [show ("abcdefghijklmnopqrstuvwxyz" : Str) = alphabet from rfl, em]
            refine ite2 (fun c3 => ⟨_, rfl, sm, ?_⟩) (fun c3 => ⟨sm, ?_⟩)
            · rw [take_snoc _ _ _ ec, List.filter_append, List.filter_cons_of_pos (p := fun c => !az c) c3, List.map_append, e]
              rfl
            · rw [take_snoc _ _ _ ec, List.filter_append, List.filter_cons_of_neg (p := fun c => !az c) c3, List.map_append, e]
              simp
          · refine ⟨by decide, fun p2 hp2 => ?_⟩
            have sm2 : Same H (upd H' p (.lst ys)) := sm.upd hp
            have sm3 : Same (upd H' p (.lst ys)) (upd (upd H' p (.lst ys)) p2 (.lst [])) := Same.new hp2
            have e' : ys = (x.cps.toList.filter fun c => !az c).map fun c => V.str ⟨#[c]⟩ := by rw [e, List.take_of_length_le (by simp)]
            refine ⟨.list ((x.cps.toList.filter fun c => !az c).map fun c => .str ⟨#[c]⟩), .list [], (Rep.ofLst upd_same (by rw [e']; exact reps_signs _)).same sm3, Rep.ofLst upd_same .nil, ok_list (fines_strs _ fun c m => hok c (List.mem_filter.mp m).1) (by rw [depth_strs]; decide), ok_nil, ?_⟩
            have := k _ (sm2.trans sm3)
            rw [isName_str (of_decide_eq_true c1) c2] at this
            rw [eqv_nil]
            have ea : ((x.cps.toList.filter fun c => !az c).map fun c => PyData.str ⟨#[c]⟩).isEmpty = x.cps.toList.all az := by
              rw [List.isEmpty_map, Bool.eq_iff_iff, List.isEmpty_iff, List.filter_eq_nil_iff, List.all_eq_true]
              constructor
              · intro h c m
                simpa using h c m
              · intro h c m
                simpa using h c m
            rw [ea]
            exact this
        · rw [decide_eq_false c2]
          refine iteT ?_
          have := k H (Same.refl H)
          rw [isName_long c2] at this
          exact this
      · refine ⟨_, rfl, iteT ?_⟩
        have := k H (Same.refl H)
        rw [isName_short (by simpa using c1)] at this
        exact this
    | none => exact iteT (iteT (k H (Same.refl H)))
    | bool _ => exact iteT (iteT (k H (Same.refl H)))
    | int _ => exact iteT (iteT (k H (Same.refl H)))
    | tuple _ => exact iteT (iteT (k H (Same.refl H)))
    | list _ => exact iteT (iteT (k H (Same.refl H)))
    | dict _ => first | (simp [fine] at hf; done) | exact absurd g.f (by simp [fine])

/-! ### _law_rises -/
theorem sc16 : FnScope ["_law_row"] ["_law_row"] (defScope sLR) := ⟨rfl, rfl, rfl, by decide +kernel, rfl, by decide +kernel, by decide +kernel⟩
theorem nd16 : (["_law_one", "_law_other", "_law_row"] : List Str).Nodup := by decide +kernel
theorem reps_ones {H : Hp} : ∀ n : Nat, Reps H (List.replicate n (.int 1)) (List.replicate n (V.int 1))
  | 0 => rfl
  | n + 1 => .cons rfl (reps_ones n)
theorem fines_ones : ∀ n : Nat, fines (List.replicate n (.int 1)) = true
  | 0 => rfl
  | n + 1 => by rw [List.replicate_succ, fines, fines_ones n]; decide
theorem depth_ones : ∀ n : Nat, PyData.depthAll (List.replicate n (.int 1)) = 0
  | 0 => by simp [PyData.depthAll]
  | n + 1 => by rw [List.replicate_succ, PyData.depthAll, depth_ones n]; simp [PyData.depth]
theorem ok_rises {f : Addr} {fd : FuncData} (F : Fun K "_law_rises" "_law_rises" sLR f fd) (T : Txt mg) : FnOk P w K mg base CX0 1 f fd ["_law_row"] spRise := by
  refine F.ok sc16 (fun vs H Q E h => ?_) (fun cdv A outer s H vs Q E hr h => ?_)
  · obtain ⟨d, v, rfl, _⟩ := h
    rfl
  · obtain ⟨ds, v, rfl, h, hc, hl, k⟩ := h
    refine ⟨_, pss_one (ps_ret (pe_cmpR (op_eqD hr) (pe_comp ["_law_one", "_law_other"] rfl rfl (pi_zip (by rfl) (T.b _ (by decide)) (pa_cons (pv 0) (pa_cons (pe_slice sl_tupD (pv 0) (po_some pe_int) po_none) pa_nil)))
      (fun _ _ _ _ _ => pg_pair K 0 1 nd16 rfl rfl rfl rfl (Or.inl rfl) (Or.inl rfl) rfl rfl) (fun _ _ _ _ _ => pts_one (pt_not (pt_cmpR (op_lt_str.or (op_ltTS hr)) (pv 0) (pv 1) (nomark _)))) (fun _ _ _ _ _ => pe_int)) (pe_lst pa_nil) (nomark _))), ?_⟩
    refine ⟨v, rfl, v, rfl, 1, rfl, ds, h, fun r H1 s1 hr1 => ?_⟩
    rw [cut_tail] at hr1
    have h1 := h.same s1
    obtain ⟨a1, xs, rfl, ha1, rx⟩ := id h1
    obtain ⟨a2, ys, rfl, ha2, ry⟩ := id hr1
    refine ⟨a1, a2, xs, ys, rfl, SqT.of ha1, SqT.of ha2, ?_⟩
    have lx := rx.length
    have ly := ry.length
    rw [List.length_drop] at ly
    have hz : (ds.zip (ds.drop 1)).length = min xs.length ys.length := by rw [List.length_zip, List.length_drop, lx, ly]
    let bad : PyData × PyData → Bool := fun p => !cmpD p.1 p.2
    refine comp_zip (fun i zs H' => Same H1 H' ∧ zs = List.replicate (((ds.zip (ds.drop 1)).take i).filter bad).length (V.int 1)) ⟨Same.refl H1, rfl⟩ (fun i zs H' hi ⟨sm, e⟩ => ⟨SqT.of (sm _ _ ha1), SqT.of (sm _ _ ha2), ?_⟩) (fun i x y zs H' p hx hy ⟨sm, e⟩ hp => ?_) fun zs H' ⟨sm, e⟩ p hp => ?_
    · rw [e, List.length_replicate]
      refine Nat.le_trans (List.length_filter_le _ _) ?_
      rw [List.length_take]
      exact Nat.le_trans (Nat.min_le_left _ _) (Nat.le_trans hi (Nat.le_trans (Nat.min_le_left _ _) (by rw [lx]; exact Nat.le_trans hl (by decide))))
    · refine ⟨p, [x, y], rfl, SqT.of upd_same, rfl, x, [y], rfl, y, [], rfl, rfl, x, rfl, y, rfl, ?_⟩
      have sm2 : Same H1 (upd H' p (.tup [x, y])) := sm.upd hp
      obtain ⟨d, e1, m1, r1⟩ := Reps.mem (rx.same sm2) hx
      obtain ⟨d', e2, m2, r2⟩ := Reps.mem (ry.same sm2) hy
      have m2' : d' ∈ ds := List.mem_of_mem_drop m2
      have ez : (ds.zip (ds.drop 1))[i]? = some (d, d') := by rw [List.getElem?_zip_eq_some]; exact ⟨e1, e2⟩
      have fin : ∀ b, b = cmpD d d' → ∃ kk, V.bl b = V.bl kk ∧ (if (!kk) = true then tC (V.int 1) ((List.replicate 2 none ++ start ["_law_row"] [V.ref a1]).set 0 (some x) |>.set 1 (some y)) (upd H' p (.tup [x, y])) fun y H4 => Same H1 H4 ∧ zs ++ [y] = List.replicate (((ds.zip (ds.drop 1)).take (i + 1)).filter bad).length (V.int 1)
          else Same H1 (upd H' p (.tup [x, y])) ∧ zs = List.replicate (((ds.zip (ds.drop 1)).take (i + 1)).filter bad).length (V.int 1)) := fun b hb => by
        refine ⟨b, rfl, ite2 (fun c => ⟨sm2, ?_⟩) (fun c => ⟨sm2, ?_⟩)⟩
        · rw [take_snoc _ _ _ ez, List.filter_append, List.filter_cons_of_pos (by show (!cmpD d d') = true; rw [← hb]; exact c), List.filter_nil, List.length_append, List.length_singleton, List.replicate_succ', e]
        · rw [take_snoc _ _ _ ez, List.filter_append, List.filter_cons_of_neg (by show ¬ (!cmpD d d') = true; rw [← hb]; exact c), List.filter_nil, List.append_nil, e]
      rcases hc with hc | hc
      · obtain ⟨x1, rfl⟩ := hc d m1
        obtain ⟨x2, rfl⟩ := hc d' m2'
        cases r1
        cases r2
        exact .inl ⟨x1, x2, rfl, rfl, fin _ rfl⟩
      · obtain ⟨x1, rfl⟩ := hc d m1
        obtain ⟨x2, rfl⟩ := hc d' m2'
        exact .inr ⟨x1, x2, r1, r2, fin _ (by rw [cmpD, strsOf_map, strsOf_map])⟩
    · refine ⟨by decide, fun p2 hp2 => ?_⟩
      have sm3 : Same (upd H' p (.lst zs)) (upd (upd H' p (.lst zs)) p2 (.lst [])) := Same.new hp2
      have e' : zs = List.replicate ((ds.zip (ds.drop 1)).filter bad).length (V.int 1) := by rw [e, List.take_of_length_le (by rw [hz]; exact Nat.le_refl _)]
      refine ⟨.list (List.replicate ((ds.zip (ds.drop 1)).filter bad).length (.int 1)), .list [], (Rep.ofLst upd_same (by rw [e']; exact reps_ones _)).same sm3, Rep.ofLst upd_same .nil, ok_list (fines_ones _) (by rw [depth_ones]; decide), ok_nil, ?_⟩
      have := k _ (((s1.trans sm).upd hp).trans sm3)
      rw [eqv_nil]
      have ea : (List.replicate ((ds.zip (ds.drop 1)).filter bad).length (PyData.int 1)).isEmpty = rising ds := by
        rw [rising, Bool.eq_iff_iff, List.isEmpty_iff, List.replicate_eq_nil_iff, List.length_eq_zero_iff, List.filter_eq_nil_iff, List.all_eq_true]
        constructor
        · intro h q m
          have := h q m
          simpa [bad] using this
        · intro h q m
          have := h q m
          simpa [bad] using this
      rw [ea]
      exact this
end
end E2

set_option Elab.async false
set_option linter.all false
set_option maxRecDepth 100000
namespace E2
open PySem L2
section
variable {P : Program} {w : World} {K : PySem.W.Frag} {mg : Str → Option Value} {base : Heap}
theorem sc17 : FnScope ["_law_thing", "_law_names", "_law_pairs", "_law_pair"] ["_law_thing"] (defScope sLW) := ⟨rfl, rfl, rfl, by decide +kernel, rfl, by decide +kernel, by decide +kernel⟩
theorem nd17a : (["_law_piece", "_law_thing", "_law_names", "_law_pairs", "_law_pair"] : List Str).Nodup := by decide +kernel
theorem nd17b : (["_law_one", "_law_thing", "_law_names", "_law_pairs", "_law_pair"] : List Str).Nodup := by decide +kernel
/-- all([f(x) for x in t]) of a tuple of data, by the values of f -/
theorem comp_all {g : TG} {te : TE} {σ : St} {H : Hp} {Q : VK} {a : Addr} {es : List PyData} {xs : List V} (f : PyData → Bool) (ha : H a = some (.tup xs)) (rx : Reps H es xs) (hl : es.length ≤ 100000)
    (hs : ∀ (i : Nat) (d : PyData) (x : V) (H' : Hp) (R : Hp → Prop), es[i]? = some d → d ∈ es → Rep H' d x → Same H H' → (∀ H2, Same H' H2 → R H2) → g x (List.replicate 1 none ++ σ) H' fun σ2 H2 => te σ2 H2 fun y H4 => y = V.bl (f d) ∧ R H4)
    (mono : ∀ x H' (R R' : V → Hp → Prop), (∀ v H, R v H → R' v H) → (g x (List.replicate 1 none ++ σ) H' fun σ2 H2 => te σ2 H2 R) → g x (List.replicate 1 none ++ σ) H' fun σ2 H2 => te σ2 H2 R')
    (hd : ∀ H' p, Same H H' → H' p = none → Q (.ref p) (upd H' p (.lst ((es.map f).map V.bl)))) : compW 1 (Itt K a) g tYes te σ H Q := by
  have lx := rx.length
  refine comp_tup0 (fun i ys H' => Same H H' ∧ ys = (es.take i).map fun e => V.bl (f e)) ⟨Same.refl H, rfl⟩ (fun i ys H' hi ⟨sm, e⟩ => ⟨SqT.of (sm _ _ ha), ?_⟩) (fun i x ys H' hx ⟨sm, e⟩ => ?_) fun ys H' ⟨sm, e⟩ p hp => ?_
  · rw [e, List.length_map, List.length_take]
    exact Nat.le_trans (Nat.min_le_right _ _) (Nat.le_trans hl (by decide))
  · obtain ⟨d', e1, m1, r1⟩ := Reps.mem (rx.same sm) hx
    refine mono _ _ _ _ (fun v H4 ⟨ev, q⟩ => ?_) (hs i d' x H' (fun H4 => Same H H4) e1 m1 r1 sm fun H2 s2 => sm.trans s2)
    subst ev
    refine ⟨q, ?_⟩
    rw [take_snoc _ _ _ e1, List.map_append, e]
    rfl
  · have e' : ys = (es.map f).map V.bl := by rw [e, List.take_of_length_le (by rw [lx]; exact Nat.le_refl _), List.map_map]; rfl
    rw [e']
    exact hd H' p sm hp
theorem strike_eq {ns : List PyData} {es : List PyData} (hn : ns.all isName = true) : isStrike ns (.tuple es) = (decide (es.length = 2) && es.all isName && es.all fun x => ns.any fun e => PyData.eqv e x) := by
  match es with
  | [] => rfl
  | [_] => rfl
  | [x, y] =>
    have key : ∀ {x : PyData}, (ns.any fun e => PyData.eqv e x) = true → isName x = true := fun {x} q => by
      obtain ⟨e, m, q⟩ := List.any_eq_true.mp q
      have he := List.all_eq_true.mp hn e m
      obtain ⟨s, rfl⟩ := isName_inv he
      cases x with
      | str y =>
        have : s = y := by simpa [PyData.eqv] using q
        rw [← this]
        exact he
      | _ => simp [PyData.eqv] at q
    simp only [isStrike, List.length_cons, List.length_nil, decide_true, Bool.true_and, List.all_cons, List.all_nil, Bool.and_true]
    cases q1 : (ns.any fun e => PyData.eqv e x) with
    | false => simp
    | true =>
      cases q2 : (ns.any fun e => PyData.eqv e y) with
      | false => simp
      | true => rw [key q1, key q2]; rfl
  | _ :: _ :: _ :: _ => rfl
theorem web_tt {ns ps : List PyData} (h : areNames (.tuple ns) = true) : isWeb (.tuple [.tuple ns, .tuple ps]) = (ps.all (isStrike ns) && rising ps) := by
  simp only [isWeb, h, items, areStrikes, Bool.true_and]
theorem web_no1 {x y : PyData} (h : areNames x = false) : isWeb (.tuple [x, y]) = false := by simp only [isWeb, h, Bool.false_and]
theorem web_no2 {x y : PyData} (h : (isTup x && isTup y) = false) : isWeb (.tuple [x, y]) = false := by
  cases x with
  | tuple ns =>
    cases y with
    | tuple ps => simp [isTup] at h
    | _ => simp [isWeb, areStrikes]
  | _ => simp [isWeb, areNames]
theorem ok_lweb {f : Addr} {fd : FuncData} (F : Fun K "_law_is_web" "_law_is_web" sLW f fd) (T : Txt mg) (FN : HasFn P w K mg base "_law_is_name" ["_law_thing"] 1 (spData isName)) (FR : HasFn P w K mg base "_law_rises" ["_law_row"] 1 spRise) :
    FnOk P w K mg base CX0 2 f fd ["_law_thing"] (spTop isWeb) := by
  refine F.ok sc17 (fun vs H Q E h => ?_) (fun cdv A outer s H vs Q E hr h => ?_)
  · obtain ⟨d, v, rfl, _⟩ := h
    rfl
  · obtain ⟨d, v, rfl, h, hg, k⟩ := h
    refine ⟨_, pss_cons (ps_if (PW.pt (pw_or (pt_not (pt_val (pe_isiT T.b (pv 0)))) (pw_or (pt_cmpR op_ne (pe_lenD T.b (pv 0)) pe_int (nomark _))
        (pw_or1 (pt_not (pt_val (pe_all T.b rfl (pe_comp ["_law_piece"] rfl rfl (pi_tup (pv 0)) (fun _ _ _ _ _ => pg_c 0 nd17a rfl (Or.inl rfl) rfl) (fun _ _ _ _ _ => pts_nil) (fun _ _ _ _ _ => pe_isiT T.b (pv 0)))))))))) (pss_one (ps_ret pe_bl)) pss_nil)
      (pss_cons (ps_asg (pv 0) (pg_pair K 1 2 sc17.nd rfl rfl rfl rfl (Or.inl rfl) (Or.inl rfl) rfl rfl))
      (pss_cons (ps_if (PW.pt (pw_or (pt_cmpR op_gt (pe_lenD T.b (pv 1)) pe_int (nomark _)) (pw_or
        (pt_not (pt_val (pe_all T.b rfl (pe_comp ["_law_one"] rfl rfl (pi_tup (pv 1)) (fun _ _ _ _ _ => pg_c 0 nd17b rfl (Or.inl rfl) rfl) (fun _ _ _ _ _ => pts_nil) (fun _ _ _ _ _ => pe_fn FN hr (by rfl) (pa_cons (pv 0) pa_nil))))))
        (pw_or1 (pt_not (pt_val (pe_fn FR hr (by rfl) (pa_cons (pv 1) pa_nil)))))))) (pss_one (ps_ret pe_bl)) pss_nil)
      (pss_cons (ps_for PassesOwn.never rfl (pi_tup (pv 2)) (pg_name (i := 3) sc17.nd rfl (Or.inl rfl))
        (pss_cons (ps_if (PW.pt (pw_or (pt_not (pt_val (pe_isiT T.b (pv 3)))) (pw_or (pt_cmpR op_ne (pe_lenD T.b (pv 3)) pe_int (nomark _))
          (pw_or1 (pt_not (pt_val (pe_all T.b rfl (pe_comp ["_law_one"] rfl rfl (pi_tup (pv 3)) (fun _ _ _ _ _ => pg_c 0 nd17b rfl (Or.inl rfl) rfl) (fun _ _ _ _ _ => pts_nil) (fun _ _ _ _ _ => pe_fn FN hr (by rfl) (pa_cons (pv 0) pa_nil)))))))))) (pss_one (ps_ret pe_bl)) pss_nil)
        (pss_one (ps_if (PW.pt (pw_or (pt_cmpR (op_ninT hr) (pe_ix ix_tup (pv 3) pe_int (fun _ _ => rfl)) (pv 1) (by with_unfolding_all rfl)) (pw_or1 (pt_cmpR (op_ninT hr) (pe_ix ix_tup (pv 3) pe_int (fun _ _ => rfl)) (pv 1) (by with_unfolding_all rfl))))) (pss_one (ps_ret pe_bl)) pss_nil))))
      (pss_one (ps_ret (pe_fn FR hr (by rfl) (pa_cons (pv 2) pa_nil))))))), ?_⟩
    refine ⟨v, rfl, _, d, rfl, h, _, rfl, ?_⟩
    rcases hg with g | ⟨kvs, rfl⟩
    rotate_left
    · exact iteT (iteT (k H (Same.refl H)))
    cases d with
    | tuple es =>
      refine iteF ⟨_, rfl, _, _, rfl, h, Nat.le_trans (fine_tup g.f).2 (by decide), rfl, rfl, _, rfl, ?_⟩
      by_cases c : es.length = 2
      · match es, c with
        | [x, y], _ =>
          refine iteF ?_
          obtain ⟨a, xs, rfl, ha, rx⟩ := id h
          refine ⟨_, rfl, a, rfl, ⟨xs, SqT.of ha⟩, comp_all isTup ha rx (by show 2 ≤ 100000; decide) (fun i d' x' H' R e1 m1 r1 sm q => ⟨x', rfl, x', d', rfl, r1, rfl, q H' (Same.refl H')⟩) (fun x' H' R R' hR ⟨v1, e1, x2, d2, e2, r2, q⟩ => ⟨v1, e1, x2, d2, e2, r2, hR _ _ q⟩) fun H1 p1 s1 hp1 => ?_⟩
          refine ⟨p1, _, rfl, SqL.of upd_same, _, rfl, ?_⟩
          have s1' : Same H (upd H1 p1 (.lst (([x, y].map isTup).map V.bl))) := s1.upd hp1
          generalize upd H1 p1 (.lst (([x, y].map isTup).map V.bl)) = H2 at s1' ⊢
          have ea : (([x, y].map isTup).all id) = (isTup x && isTup y) := by simp
          rw [ea]
          cases ct : (isTup x && isTup y) with
          | false =>
            refine iteT ?_
            have := k H2 s1'
            rw [web_no2 ct] at this
            exact this
          | true =>
            refine iteF ?_
            have gx : Good x := g.mem (by simp)
            have gy : Good y := g.mem (by simp)
            cases x with
            | tuple ns =>
              cases y with
              | tuple ps =>
                obtain ⟨x1, r1, rfl, hx, y1, r2, rfl, hy, e3⟩ := id rx
                cases e3
                have hx2 := hx.same s1'
                have hy2 := hy.same s1'
                refine ⟨_, rfl, a, _, rfl, SqT.of (s1' _ _ ha), rfl, x1, _, rfl, y1, [], rfl, rfl, ?_⟩
                have hln := (fine_tup gx.f).2
                have hlp := (fine_tup gy.f).2
                refine ⟨x1, rfl, _, _, rfl, hx2, Nat.le_trans hln (by decide), rfl, _, _, rfl, rfl, _, rfl, ?_⟩
                by_cases c2 : (12 : Int) < ((lenD (.tuple ns) : Nat) : Int)
                · rw [decide_eq_true c2]
                  refine iteT (iteT ?_)
                  have := k H2 s1'
                  have c3 : ¬ ns.length ≤ 12 := by have : (12 : Int) < (ns.length : Int) := c2; omega
                  rw [web_no1 (by simp only [areNames, decide_eq_false c3, Bool.false_and])] at this
                  exact this
                · rw [decide_eq_false c2]
                  have c3 : ns.length ≤ 12 := by have : ¬ (12 : Int) < (ns.length : Int) := c2; omega
                  refine iteF ?_
                  obtain ⟨a1, xs1, rfl, ha1, rx1⟩ := id hx2
                  refine ⟨_, rfl, a1, rfl, ⟨xs1, SqT.of ha1⟩, comp_all isName ha1 rx1 hln (fun i d' x' H' R e1 m1 r1 sm q => ⟨x', rfl, d', x', rfl, r1, (gx.mem m1).f, (gx.mem m1).d, fun H3 s3 => ⟨rfl, q H3 s3⟩⟩)
                    (fun x' H' R R' hR ⟨v1, e1, d2, v2, e2, r2, f2, g2, q⟩ => ⟨v1, e1, d2, v2, e2, r2, f2, g2, fun H3 s3 => hR _ _ (q H3 s3)⟩) fun H3 p3 s3 hp3 => ?_⟩
                  refine ⟨p3, _, rfl, SqL.of upd_same, _, rfl, ?_⟩
                  have s3' : Same H2 (upd H3 p3 (.lst ((ns.map isName).map V.bl))) := s3.upd hp3
                  generalize upd H3 p3 (.lst ((ns.map isName).map V.bl)) = H4 at s3' ⊢
                  have eb : ((ns.map isName).all id) = ns.all isName := by rw [List.all_map]; rfl
                  rw [eb]
                  have s4 := s1'.trans s3'
                  cases cn : ns.all isName with
                  | false =>
                    refine iteT (iteT ?_)
                    have := k H4 s4
                    rw [web_no1 (by simp only [areNames, cn, Bool.and_false, Bool.false_and])] at this
                    exact this
                  | true =>
                    refine iteF ⟨_, rfl, ns, _, rfl, hx2.same s3', names_cmp cn, hln, fun H5 s5 => ⟨_, rfl, ?_⟩⟩
                    have s5' := s4.trans s5
                    cases cr : rising ns with
                    | false =>
                      refine iteT ?_
                      have := k H5 s5'
                      rw [web_no1 (by simp only [areNames, cr, Bool.and_false])] at this
                      exact this
                    | true =>
                      refine iteF ?_
                      have cw : areNames (.tuple ns) = true := by simp only [areNames, decide_eq_true c3, cn, cr, Bool.and_self]
                      have hx5 := hx.same s5'
                      have hy5 := hy.same s5'
                      obtain ⟨a2, xs2, rfl, ha2, rx2⟩ := id hy5
                      have lx2 := rx2.length
                      refine ⟨_, rfl, a2, rfl, ⟨xs2, SqT.of ha2⟩, for_tup (xs := xs2) (fun i σ H' => Same H5 H' ∧ (∃ o, σ = [some (.ref a), some (.ref a1), some (.ref a2), o]) ∧ (ps.take i).all (isStrike ns) = true) ⟨Same.refl H5, ⟨none, rfl⟩, rfl⟩ (fun i σ H' _ ⟨sm, _⟩ => SqT.of (sm _ _ ha2)) (fun i x σ H' hxi ⟨sm, ⟨o, eo⟩, ca⟩ => ?_) fun σ H' ⟨sm, ⟨o, eo⟩, ca⟩ => ?_⟩
                      · subst eo
                        obtain ⟨e, e1, m1, re⟩ := Reps.mem (rx2.same sm) hxi
                        have ge : Good e := gy.mem m1
                        have sT := s5'.trans sm
                        have bad : ∀ H6, Same H' H6 → isStrike ns e = false → Q (.bl false) H6 := fun H6 s6 hb => by
                          have := k H6 (sT.trans s6)
                          have ef : ps.all (isStrike ns) = false := by
                            rw [List.all_eq_false]
                            exact ⟨e, m1, by simp [hb]⟩
                          rw [web_tt cw, ef, Bool.false_and] at this
                          exact this
                        have good : isStrike ns e = true → (ps.take (i + 1)).all (isStrike ns) = true := fun hg => by
                          rw [take_snoc _ _ _ e1, List.all_append, ca]
                          simp [hg]
                        refine ⟨x, rfl, _, e, rfl, re, _, rfl, ?_⟩
                        cases e with
                        | tuple qs =>
                          refine iteF ⟨_, rfl, _, _, rfl, re, Nat.le_trans (fine_tup ge.f).2 (by decide), rfl, rfl, _, rfl, ?_⟩
                          by_cases c6 : qs.length = 2
                          · match qs, c6 with
                            | [p, q], _ =>
                              refine iteF ?_
                              obtain ⟨a3, xs3, rfl, ha3, rx3⟩ := id re
                              refine ⟨_, rfl, a3, rfl, ⟨xs3, SqT.of ha3⟩, comp_all isName ha3 rx3 (by show 2 ≤ 100000; decide) (fun i d' x' H' R e1 m1 r1 sm q => ⟨x', rfl, d', x', rfl, r1, (ge.mem m1).f, (ge.mem m1).d, fun H3 s3 => ⟨rfl, q H3 s3⟩⟩)
                                (fun x' H' R R' hR ⟨v1, e1, d2, v2, e2, r2, f2, g2, q⟩ => ⟨v1, e1, d2, v2, e2, r2, f2, g2, fun H3 s3 => hR _ _ (q H3 s3)⟩) fun H7 p7 s7 hp7 => ?_⟩
                              refine ⟨p7, _, rfl, SqL.of upd_same, _, rfl, ?_⟩
                              have s7' : Same H' (upd H7 p7 (.lst (([p, q].map isName).map V.bl))) := s7.upd hp7
                              generalize upd H7 p7 (.lst (([p, q].map isName).map V.bl)) = H8 at s7' ⊢
                              have ec : (([p, q].map isName).all id) = [p, q].all isName := by rw [List.all_map]; rfl
                              rw [ec]
                              cases cq : [p, q].all isName with
                              | false => exact iteT (bad H8 s7' (by rw [strike_eq cn, cq, Bool.and_false, Bool.false_and]))
                              | true =>
                                refine iteF ?_
                                obtain ⟨p1, r1', rfl, hp1', q1, r2', rfl, hq1, e3⟩ := id (rx3.same s7')
                                cases e3
                                have hn8 := hx5.same (sm.trans s7')
                                have ha38 := s7' _ _ ha3
                                refine ⟨_, rfl, a3, _, 0, p1, rfl, rfl, SqT.of ha38, atI_0 _ _, _, rfl, p, ns, hp1', hn8, (ge.mem (by simp)).ok, gx.ok, _, rfl, ?_⟩
                                rw [Bool.true_xor]
                                have es2 : isStrike ns (.tuple [p, q]) = ((ns.any fun e => PyData.eqv e p) && ns.any fun e => PyData.eqv e q) := rfl
                                cases c8 : (ns.any fun e => PyData.eqv e p) with
                                | false => exact iteT (iteT (bad H8 s7' (by rw [es2, c8, Bool.false_and])))
                                | true =>
                                  refine iteF ⟨_, rfl, a3, _, 1, q1, rfl, rfl, SqT.of ha38, atI_1 _ _ _, _, rfl, q, ns, hq1, hn8, (ge.mem (by simp)).ok, gx.ok, _, rfl, ?_⟩
                                  rw [Bool.true_xor]
                                  cases c9 : (ns.any fun e => PyData.eqv e q) with
                                  | false => exact iteT (bad H8 s7' (by rw [es2, c8, c9, Bool.true_and]))
                                  | true => exact iteF ⟨sm.trans s7', ⟨_, rfl⟩, good (by rw [es2, c8, c9, Bool.true_and])⟩
                          · have e : decide (V.int ((lenD (.tuple qs) : Nat) : Int) = V.int 2) = false := decide_eq_false fun z => c6 (by injection z with z; have z' : (qs.length : Int) = 2 := z; omega)
                            rw [e]
                            exact iteT (iteT (bad H' (Same.refl _) (isStrike_no c6)))
                        | none => exact iteT (iteT (bad H' (Same.refl _) rfl))
                        | bool _ => exact iteT (iteT (bad H' (Same.refl _) rfl))
                        | int _ => exact iteT (iteT (bad H' (Same.refl _) rfl))
                        | str _ => exact iteT (iteT (bad H' (Same.refl _) rfl))
                        | list _ => exact iteT (iteT (bad H' (Same.refl _) rfl))
                        | dict _ => exact absurd ge.f (by simp [fine])
                      · subst eo
                        rw [lx2, List.take_length] at ca
                        refine ⟨_, rfl, ps, _, rfl, hy5.same sm, .inr fun e m => strike_inv cn (List.all_eq_true.mp ca e m), hlp, fun H6 s6 => ?_⟩
                        have := k H6 ((s5'.trans sm).trans s6)
                        rw [web_tt cw, ca, Bool.true_and] at this
                        exact this
              | _ => simp [isTup] at ct
            | _ => simp [isTup] at ct
      · have e : decide (V.int ((lenD (.tuple es) : Nat) : Int) = V.int 2) = false := decide_eq_false fun z => c (by injection z with z; have z' : (es.length : Int) = 2 := z; omega)
        rw [e]
        refine iteT (iteT ?_)
        have := k H (Same.refl H)
        rw [isWeb_no c] at this
        exact this
    | none => exact iteT (iteT (k H (Same.refl H)))
    | bool _ => exact iteT (iteT (k H (Same.refl H)))
    | int _ => exact iteT (iteT (k H (Same.refl H)))
    | str _ => exact iteT (iteT (k H (Same.refl H)))
    | list _ => exact iteT (iteT (k H (Same.refl H)))
    | dict _ => exact absurd g.f (by simp [fine])
end
end E2

set_option Elab.async false
set_option linter.all false
set_option maxRecDepth 100000
namespace E2
open PySem L2
abbrev sCell : Stmt := top 30
abbrev sMix : Stmt := top 31
abbrev sBox : Stmt := top 32
abbrev sTake : Stmt := top 33
def spCell (K : PySem.W.Frag) : Sp := fun vs H Q _ => ∃ (a : Addr) (ns : List Int) (k : Int), vs = [.ref a, .int k] ∧ SqL K H a (ns.map V.int) ∧ 0 ≤ k ∧ ∀ z, Q (.int z) H
def spMix : Sp := fun vs H Q _ => ∃ c k : Int, vs = [.int c, .int k] ∧ 0 ≤ k ∧ k < 100000 ∧ ∀ z H', 0 ≤ z → Same H H' → Q (.int z) H'
def spBox (K : PySem.W.Frag) : Sp := fun vs H Q _ => ∃ (a : Addr) (ns : List Int) (k l : Int), vs = [.ref a, .int k, .int l] ∧ SqL K H a (ns.map V.int) ∧ 0 ≤ k ∧ 0 ≤ l ∧ l ≤ 9 ∧ ∀ b H', Same H H' → H b = none → Box H' b → Q (.ref b) H'
def spTake : Sp := fun vs H Q _ => ∃ (b : Addr) (c : Int), vs = [.ref b, .int c] ∧ Box H b ∧ 0 < c ∧ c ≤ 100000 ∧ ∀ z H', 0 ≤ z → z < c → Same (hid H b) (hid H' b) → Box H' b → Q (.int z) H'
section
variable {P : Program} {w : World} {K : PySem.W.Frag} {mg : Str → Option Value} {base : Heap}
theorem sc10 : FnScope ["_law_script", "_law_k"] ["_law_script", "_law_k"] (defScope sCell) := ⟨rfl, rfl, rfl, by decide +kernel, rfl, by decide +kernel, by decide +kernel⟩
theorem reps_ints {H : Hp} : ∀ {ns : List Int} {vs : List V}, Reps H (ns.map .int) vs → vs = ns.map V.int
  | [], _, h => h
  | n :: ns, _, ⟨w, ws, e, h, r⟩ => by
    subst e
    have h' : w = .int n := h
    rw [h', reps_ints r]; rfl
theorem ok_cell {f : Addr} {fd : FuncData} (F : Fun K "_law_cell" "_law_cell" sCell f fd) (T : Txt mg) : FnOk P w K mg base CX0 1 f fd ["_law_script", "_law_k"] (spCell K) := by
  refine F.ok sc10 (fun vs H Q E h => ?_) (fun cdv A outer s H vs Q E hr h => ?_)
  · obtain ⟨_, _, _, rfl, _⟩ := h
    rfl
  · obtain ⟨a, ns, k, rfl, h, hk, q⟩ := h
    refine ⟨_, pss_cons (ps_if (pt_cmpR op_lt (pv 1) (pe_lenS T.b (pv 0)) (nomark _)) (pss_one (ps_ret (pe_ix ix_list (pv 0) (pv 1) (fun _ _ => rfl)))) pss_nil) (pss_one (ps_ret pe_int)), ?_⟩
    refine ⟨_, rfl, _, rfl, a, _, rfl, .inl h, _, _, rfl, rfl, _, rfl, ?_⟩
    refine ite2 (fun c => ?_) (fun c => q 0)
    have c' : k < (ns.length : Int) := by
      have := of_decide_eq_true c
      rw [List.length_map] at this
      exact this
    have hj : k.toNat < ns.length := by omega
    refine ⟨_, rfl, _, rfl, a, _, k, .int ns[k.toNat], rfl, rfl, h, ?_, q _⟩
    have : (ns.map V.int)[k.toNat]? = some (.int ns[k.toNat]) := by simp [hj]
    have e := atI_nat this
    rw [Int.toNat_of_nonneg hk] at e
    exact e
theorem sc11 : FnScope ["_law_cell_here", "_law_k", "_law_some", "_law_stir"] ["_law_cell_here", "_law_k"] (defScope sMix) := ⟨rfl, rfl, rfl, by decide +kernel, rfl, by decide +kernel, by decide +kernel⟩
def thirteen : List Int := [48271, 69621, 16807, 39373, 30269, 40014, 40692, 50021, 61687, 71993, 83869, 95561, 30307]
theorem thirteen_at (i : Int) (h0 : 0 ≤ i) (h1 : i < 13) : ∃ n : Int, atI (thirteen.map V.int) i = some (.int n) ∧ 0 ≤ n ∧ n < 100000 := by
  have hj : i.toNat < thirteen.length := by show i.toNat < 13; omega
  have all : ∀ n ∈ thirteen, 0 ≤ n ∧ n < 100000 := by decide
  refine ⟨thirteen[i.toNat], ?_, all _ (List.getElem_mem hj)⟩
  have : (thirteen.map V.int)[i.toNat]? = some (.int thirteen[i.toNat]) := by simp [hj]
  have e := atI_nat this
  rw [Int.toNat_of_nonneg h0] at e
  exact e
/-! the table of _law_mix, kept shut: its thirteen numbers are dear to look at -/
@[irreducible] def stM : Stmt := (defBody sMix).getD 0 (.Pass ⟨0, 0, 0, 0⟩)
abbrev restM : List Stmt := (defBody sMix).drop 1
@[irreducible] def eM : Expr := match stM with
  | .Assign _ v _ => v
  | _ => .Constant .none 0 ⟨0, 0, 0, 0⟩
@[irreducible] def pM : Pos := match stM with
  | .Assign _ _ p => p
  | _ => ⟨0, 0, 0, 0⟩
@[irreducible] def qM : Pos := match stM with
  | .Assign [.Name _ q] _ _ => q
  | _ => ⟨0, 0, 0, 0⟩
@[irreducible] def esM : List Expr := match eM with
  | .List es _ => es
  | _ => []
@[irreducible] def lM : Pos := match eM with
  | .List _ p => p
  | _ => ⟨0, 0, 0, 0⟩
theorem bodyM : defBody sMix = stM :: restM := by kernel_rfl
theorem stM_eq : stM = .Assign [.Name "_law_some" qM] eM pM := by kernel_rfl
theorem eM_eq : eM = .List esM lM := by kernel_rfl
theorem litM : Lit 3 eM (.list (thirteen.map .int)) := Lit.of (by kernel_rfl)
theorem psM {X : Cx} (hN : X.N.Nodup) (hi : X.N[2]? = some ("_law_some" : Str)) (hx : Loc X.env.scope "_law_some") (hf : X.fn "_law_some" = true) : PS X stM (tAsg (tLit (.list (thirteen.map .int))) (gName 2)) := by
  rw [stM_eq]
  exact ps_set (i := 2) hN hi hx (@pe_lit X 3 eM (.list (thirteen.map .int)) litM) (by rw [eM_eq]; rfl) (Or.inl hf)
theorem ok_mix {f : Addr} {fd : FuncData} (F : Fun K "_law_mix" "_law_mix" sMix f fd) : FnOk P w K mg base CX0 1 f fd ["_law_cell_here", "_law_k"] spMix := by
  refine F.ok sc11 (fun vs H Q E h => ?_) (fun cdv A outer s H vs Q E hr h => ?_)
  · obtain ⟨_, _, rfl, _⟩ := h
    rfl
  · obtain ⟨c, k, rfl, h0, h1, q⟩ := h
    rw [bodyM]
    refine ⟨_, pss_cons (psM sc11.nd rfl (Or.inl rfl) rfl)
      (pss_cons (ps_set (i := 3) sc11.nd rfl (Or.inl rfl) (pe_op op_mul (pe_op op_add (pe_op op_mod (pv 0) pe_int) pe_int) (pe_ix ix_list (pv 2) (pe_op op_mod (pv 1) pe_int) (fun _ _ => rfl))))
      (pss_cons (ps_set (i := 3) sc11.nd rfl (Or.inl rfl) (pe_op op_add (pe_op op_add (pv 3) (pe_op op_mul pe_int (pv 1))) (pe_op op_mul pe_int (pe_op op_fdiv (pv 1) pe_int))))
      (pss_cons (ps_set (i := 3) sc11.nd rfl (Or.inl rfl) (pe_op op_mod (pv 3) pe_int))
      (pss_one (ps_ret (pe_op op_fdiv (pe_op op_mod (pe_op op_add (pe_op op_mul (pv 3) (pv 3)) (pe_op op_mul pe_int (pv 1))) pe_int) pe_int)))))), ?_⟩
    intro r H1 N1 s1 n1 hr1
    obtain ⟨p, vs, rfl, hp, rs⟩ := hr1.same n1.same
    obtain ⟨n, en, n0, n1⟩ := thirteen_at (k % 13) (by omega) (by omega)
    have ev : vs = thirteen.map V.int := reps_ints rs
    subst ev
    refine ⟨_, rfl, _, _, rfl, rfl, (by show (0 : Int) < 2147483647; decide), _, _, rfl, rfl, _, rfl, _, rfl, _, _, rfl, rfl, (by show (0 : Int) < 13; decide), p, _, _, .int n, rfl, rfl, SqL.of hp, en, _, _, rfl, rfl, .inr ⟨by omega, by omega⟩, ?_⟩
    refine ⟨_, rfl, _, rfl, _, _, rfl, rfl, .inl ⟨by decide, by decide⟩, _, _, rfl, rfl, _, rfl, _, _, rfl, rfl, ⟨by decide, by decide⟩, _, _, rfl, rfl, .inl ⟨by decide, by decide⟩, _, _, rfl, rfl, ?_⟩
    refine ⟨_, rfl, _, _, rfl, rfl, (by show (0 : Int) < 1000000007; decide), ?_⟩
    generalize hst : ((c % 2147483647 + 12345) * n + 977 * k + 7919 * (k / 13)) % 1000000007 = st
    have st0 : 0 ≤ st := by rw [← hst]; exact Int.emod_nonneg _ (by decide)
    have st1 : st < 1000000007 := by rw [← hst]; exact Int.emod_lt_of_pos _ (by decide)
    refine ⟨_, rfl, _, rfl, _, _, rfl, rfl, .inl ⟨by omega, by omega⟩, _, rfl, _, _, rfl, rfl, .inl ⟨by decide, by decide⟩, _, _, rfl, rfl, _, _, rfl, rfl, (by show (0 : Int) < 1000000007; decide), _, _, rfl, rfl, ⟨by decide, by decide⟩, ?_⟩
    exact q _ H1 (Int.ediv_nonneg (Int.emod_nonneg _ (by decide)) (by decide)) s1
/-! ### _law_box -/
theorem sc12 : FnScope ["_law_script", "_law_k", "_law_lap", "_law_cell_here", "_law_number", "_law_j"] ["_law_script", "_law_k", "_law_lap"] (defScope sBox) := ⟨rfl, rfl, rfl, by decide +kernel, rfl, by decide +kernel, by decide +kernel⟩
theorem ok_box {f : Addr} {fd : FuncData} (F : Fun K "_law_box" "_law_box" sBox f fd) (T : Txt mg) (FC : HasFn P w K mg base "_law_cell" ["_law_script", "_law_k"] 1 (spCell K)) (FM : HasFn P w K mg base "_law_mix" ["_law_cell_here", "_law_k"] 1 spMix) :
    FnOk P w K mg base CX0 2 f fd ["_law_script", "_law_k", "_law_lap"] (spBox K) := by
  refine F.ok sc12 (fun vs H Q E h => ?_) (fun cdv A outer s H vs Q E hr h => ?_)
  · obtain ⟨_, _, _, _, rfl, _⟩ := h
    rfl
  · obtain ⟨a, ns, k, l, rfl, h, hk, hl0, hl9, q⟩ := h
    refine ⟨_, pss_cons (ps_set (i := 3) sc12.nd rfl (Or.inl rfl) (pe_fn FC hr (by rfl) (pa_cons (pv 0) (pa_cons (pv 1) pa_nil))))
      (pss_cons (ps_if (PW.pt (pw_and (pt_cmpR op_eq (pe_op op_mod (pv 3) pe_int) pe_int (nomark _)) (pw_and1 (pt_cmpR op_eq (pv 2) pe_int (nomark _))))) (pss_one (ps_ret (pe_lst (pa_cons (pe_op op_fdiv (pe_callB call_abs (by rfl) (T.b _ (by decide)) bt_abs (pa_cons (pv 3) pa_nil)) pe_int) pa_nil)))) pss_nil)
      (pss_cons (ps_set (i := 4) sc12.nd rfl (Or.inl rfl) pe_int)
      (pss_cons (ps_for PassesOwn.never rfl (pi_range1 (by rfl) (T.b _ (by decide)) (pa_cons pe_int pa_nil)) (pg_name (i := 5) sc12.nd rfl (Or.inl rfl))
        (pss_one (ps_set (i := 4) sc12.nd rfl (Or.inl rfl) (pe_op op_add (pe_op op_mul (pv 4) pe_int) (pe_fn FM hr (by rfl) (pa_cons (pv 3) (pa_cons (pe_op op_add (pe_op op_mul pe_int (pv 2)) (pv 5)) pa_nil)))))))
      (pss_one (ps_ret (pe_lst (pa_cons (pv 4) pa_nil))))))), ?_⟩
    refine ⟨_, rfl, _, rfl, a, ns, k, rfl, h, hk, fun z => ?_⟩
    refine ⟨_, rfl, _, _, rfl, rfl, (by show (0 : Int) < 2; decide), rfl, _, rfl, ?_⟩
    have loop : ∀ (D : Ends), (∀ b H', Same H H' → H b = none → Box H' b → D.rt (.ref b) H') → tSeq (tAsg (tC (.int 0)) (gName 4)) (tSeq (tFor (iRng1 (tCons (tC (.int 90)) tNil)) (gName 5) (tAsg (tOp (rI0 fun i j => .int (i + j)) (tOp (rI CMul fun i j => .int (i * j)) (tVar 4) (tC (.int 142857143)))
        (tCall spMix [] E0 (tCons (tVar 3) (tCons (tOp (rI0 fun i j => .int (i + j)) (tOp (rI CMul fun i j => .int (i * j)) (tC (.int 90)) (tVar 2)) (tVar 5)) tNil)))) (gName 4))) (tRet (tLst (tCons (tVar 4) tNil)))) D [some (.ref a), some (.int k), some (.int l), some (.int z), none, none] H := fun D hD => by
      refine ⟨90, rfl, by decide, by decide, for_range (n := 90) (fun i σ H' => Same H H' ∧ ∃ n o, 0 ≤ n ∧ σ = [some (.ref a), some (.int k), some (.int l), some (.int z), some (.int n), o]) ⟨Same.refl H, 0, none, by decide, rfl⟩ (fun i σ H' hi ⟨sm, n, o, hn, e⟩ => ?_) fun σ H' ⟨sm, n, o, hn, e⟩ => ?_⟩
      · subst e
        refine ⟨_, rfl, _, _, rfl, rfl, .inr ⟨by decide, by decide⟩, _, rfl, _, rfl, _, _, rfl, rfl, .inl ⟨by decide, by decide⟩, _, rfl, _, _, rfl, rfl, z, _, rfl, by omega, by omega, fun y H2 hy s2 => ⟨_, _, rfl, rfl, sm.trans s2, _, _, ?_, rfl⟩⟩
        have : 0 ≤ n * 142857143 := Int.mul_nonneg hn (by decide)
        omega
      · subst e
        exact ⟨_, rfl, by show 1 ≤ sizeLine; decide, fun p hp => hD p _ (sm.upd hp) (sm.free hp) ⟨n, hn, upd_same⟩⟩
    by_cases c1 : z % 2 = 0
    · rw [show decide (V.int (z % 2) = V.int 0) = true from decide_eq_true (by rw [c1])]
      refine iteT ⟨_, rfl, rfl, _, rfl, ?_⟩
      by_cases c2 : l = 0
      · rw [show decide (V.int l = V.int 0) = true from decide_eq_true (by rw [c2])]
        refine iteT ⟨_, rfl, _, rfl, _, _, rfl, rfl, ⟨by decide, by decide⟩, by show 1 ≤ sizeLine; decide, fun p hp => q p _ (Same.new hp) hp ⟨_, ?_, upd_same⟩⟩
        refine Int.ediv_nonneg ?_ (by decide)
        split <;> omega
      · rw [show decide (V.int l = V.int 0) = false from decide_eq_false fun e => c2 (by injection e)]
        exact iteF (loop _ q)
    · rw [show decide (V.int (z % 2) = V.int 0) = false from decide_eq_false fun e => c1 (by injection e)]
      exact iteF (iteF (loop _ q))
/-! ### _law_take -/
theorem sc13 : FnScope ["_law_box_here", "_law_count", "_law_left", "_law_digit"] ["_law_box_here", "_law_count"] (defScope sTake) := ⟨rfl, rfl, rfl, by decide +kernel, rfl, by decide +kernel, by decide +kernel⟩
theorem ixN_0 (n : Nat) : ixN (n + 1) 0 = some 0 := by
  simp [ixN]
theorem ok_take {f : Addr} {fd : FuncData} (F : Fun K "_law_take" "_law_take" sTake f fd) (T : Txt mg) : FnOk P w K mg base CX0 1 f fd ["_law_box_here", "_law_count"] spTake := by
  refine F.ok sc13 (fun vs H Q E h => ?_) (fun cdv A outer s H vs Q E hr h => ?_)
  · obtain ⟨_, _, rfl, _⟩ := h
    rfl
  · obtain ⟨b, c, rfl, ⟨n, hn, hb⟩, c0, c1, q⟩ := h
    refine ⟨_, pss_cons (ps_asg (pe_callB call_divmod (by rfl) (T.b _ (by decide)) bt_divmod (pa_cons (pe_ix ix_list (pv 0) pe_int (fun _ _ => rfl)) (pa_cons (pv 1) pa_nil))) (pg_pair K 2 3 sc13.nd rfl rfl rfl rfl (Or.inl rfl) (Or.inl rfl) rfl rfl))
      (pss_cons (ps_asg (pv 2) (pg_sub (pv 0) pe_int set_list)) (pss_one (ps_ret (pv 3)))), ?_⟩
    refine ⟨_, rfl, b, _, 0, _, rfl, rfl, SqL.of hb, atI_0 _ _, _, rfl, n, c, rfl, ⟨c0, by omega⟩, fun p hp => ?_⟩
    have nb : b ≠ p := ne_of_none hb hp
    refine ⟨p, _, rfl, SqT.of upd_same, rfl, _, _, rfl, _, [], rfl, rfl, _, rfl, _, rfl, b, _, 0, 0, rfl, rfl, by rw [upd_ne nb]; exact hb, ixN_0 _, _, rfl, q _ _ (Int.emod_nonneg _ (by omega)) (Int.emod_lt_of_pos _ c0) ?_ ⟨n / c, Int.ediv_nonneg hn (by omega), upd_same⟩⟩
    exact ((Same.new hp).hid b).hidUpd
end
end E2

set_option Elab.async false
set_option linter.all false
set_option maxRecDepth 100000
namespace E2
open PySem L2
/-! ### sizes -/
theorem wAll_append : ∀ (a b : List PyData), PyData.weightAll (a ++ b) = PyData.weightAll a + PyData.weightAll b
  | [], b => by simp [PyData.weightAll]
  | d :: a, b => by rw [List.cons_append, PyData.weightAll, PyData.weightAll, wAll_append a b]; omega
theorem dAll_append : ∀ (a b : List PyData), PyData.depthAll (a ++ b) = max (PyData.depthAll a) (PyData.depthAll b)
  | [], b => by simp [PyData.depthAll]
  | d :: a, b => by rw [List.cons_append, PyData.depthAll, PyData.depthAll, dAll_append a b, Nat.max_assoc]
theorem fines_append : ∀ (a b : List PyData), fines (a ++ b) = (fines a && fines b)
  | [], b => by simp [fines]
  | d :: a, b => by rw [List.cons_append, fines, fines, fines_append a b, Bool.and_assoc]
theorem wAll_len : ∀ (a : List PyData), a.length ≤ PyData.weightAll a
  | [] => by simp [PyData.weightAll]
  | d :: a => by
    have := wAll_len a
    rw [PyData.weightAll, List.length_cons]
    omega
/-- small data -/
structure Ok (n m : Nat) (x : PyData) : Prop where
  f : fine x = true
  d : x.depth ≤ m
  w : x.weight ≤ n
/-- a row of small data -/
structure Oks (n m : Nat) (ds : List PyData) : Prop where
  f : fines ds = true
  d : PyData.depthAll ds ≤ m
  w : PyData.weightAll ds ≤ n
theorem Oks.tup {n m : Nat} {ds : List PyData} (o : Oks n m ds) (hn : n ≤ 100000) : Ok n (m + 1) (.tuple ds) := by
  refine ⟨?_, by simp only [PyData.depth]; have := o.d; omega, by simp only [PyData.weight]; exact o.w⟩
  simp only [fine, Bool.and_eq_true, decide_eq_true_eq]
  exact ⟨o.f, Nat.le_trans (wAll_len ds) (Nat.le_trans o.w hn)⟩
theorem Oks.lst {n m : Nat} {ds : List PyData} (o : Oks n m ds) (hn : n ≤ 100000) : Ok n (m + 1) (.list ds) := by
  refine ⟨?_, by simp only [PyData.depth]; have := o.d; omega, by simp only [PyData.weight]; exact o.w⟩
  simp only [fine, Bool.and_eq_true, decide_eq_true_eq]
  exact ⟨o.f, Nat.le_trans (wAll_len ds) (Nat.le_trans o.w hn)⟩
theorem Ok.items {n m : Nat} {ds : List PyData} (o : Ok n (m + 1) (.tuple ds)) : Oks n m ds :=
  ⟨(fine_tup o.f).1, by have := o.d; simp only [PyData.depth] at this; omega, by have := o.w; simpa only [PyData.weight] using this⟩
theorem Oks.append {n1 n2 m : Nat} {a b : List PyData} (x : Oks n1 m a) (y : Oks n2 m b) : Oks (n1 + n2) m (a ++ b) :=
  ⟨by rw [fines_append, x.f, y.f]; rfl, by rw [dAll_append]; exact Nat.max_le.mpr ⟨x.d, y.d⟩, by rw [wAll_append]; exact Nat.add_le_add x.w y.w⟩
theorem Oks.one {n m : Nat} {d : PyData} (x : Ok n m d) : Oks (n + 1) m [d] :=
  ⟨by simp [fines, x.f], by simp [PyData.depthAll]; exact x.d, by simp [PyData.weightAll]; exact x.w⟩
theorem Oks.mono {n m n' m' : Nat} {a : List PyData} (x : Oks n m a) (h1 : n ≤ n') (h2 : m ≤ m') : Oks n' m' a := ⟨x.f, Nat.le_trans x.d h2, Nat.le_trans x.w h1⟩
theorem Ok.mono {n m n' m' : Nat} {a : PyData} (x : Ok n m a) (h1 : n ≤ n') (h2 : m ≤ m') : Ok n' m' a := ⟨x.f, Nat.le_trans x.d h2, Nat.le_trans x.w h1⟩
/-- a row cut at a place -/
theorem Oks.split {n m : Nat} {ds : List PyData} (o : Oks n m ds) (z : Nat) (hz : z < ds.length) : ∃ x, ds[z]? = some x ∧ Oks (PyData.weightAll (ds.take z)) m (ds.take z) ∧ Ok x.weight m x ∧ Oks (PyData.weightAll (ds.drop (z + 1))) m (ds.drop (z + 1)) ∧ PyData.weightAll (ds.take z) + (x.weight + 1) + PyData.weightAll (ds.drop (z + 1)) ≤ n := by
  have e : ds = ds.take z ++ ([ds[z]] ++ ds.drop (z + 1)) := by
    rw [List.singleton_append, ← List.drop_eq_getElem_cons hz, List.take_append_drop]
  have f := o.f
  have d := o.d
  have w := o.w
  rw [e, fines_append, fines_append, Bool.and_eq_true, Bool.and_eq_true] at f
  rw [e, dAll_append, dAll_append] at d
  rw [e, wAll_append, wAll_append] at w
  have f2 : fine ds[z] = true := by simpa [fines] using f.2.1
  simp only [PyData.depthAll, PyData.weightAll] at d w
  refine ⟨ds[z], by simp [hz], ⟨f.1, by omega, Nat.le_refl _⟩, ⟨f2, by omega, Nat.le_refl _⟩, ⟨f.2.2, by omega, Nat.le_refl _⟩, by omega⟩
theorem Ok.good {n m : Nat} {d : PyData} (o : Ok n m d) (h : m ≤ 20) : Good d := ⟨o.f, Nat.le_trans o.d h⟩
theorem cut_to (ds : List PyData) (z : Nat) (hz : z ≤ ds.length) : cutD ds none (some (z : Int)) = ds.take z := by
  unfold cutD
  rw [HT.sIx_none, HT.sIx_nat, List.drop_zero, Nat.sub_zero, Nat.min_eq_left hz]
theorem cut_from (ds : List PyData) (z : Nat) (hz : z ≤ ds.length) : cutD ds (some (z : Int)) none = ds.drop z := by
  unfold cutD
  rw [HT.sIx_none, HT.sIx_nat, Nat.min_eq_left hz, List.take_of_length_le (by rw [List.length_drop]; exact Nat.le_refl _)]
theorem cut_one (ds : List PyData) (z : Nat) (x : PyData) (h : ds[z]? = some x) : cutD ds (some (z : Int)) (some ((z : Int) + 1)) = [x] := by
  obtain ⟨hz, e⟩ := List.getElem?_eq_some_iff.mp h
  unfold cutD
  have e1 : HT.sIx ds.length 0 (some (z : Int)) = z := by rw [HT.sIx_nat, Nat.min_eq_left (Nat.le_of_lt hz)]
  have e2 : HT.sIx ds.length ds.length (some ((z : Int) + 1)) = z + 1 := by
    have : ((z : Int) + 1) = ((z + 1 : Nat) : Int) := by omega
    rw [this, HT.sIx_nat, Nat.min_eq_left hz]
  rw [e1, e2, List.drop_eq_getElem_cons hz, e]
  have : z + 1 - z = 1 := by omega
  rw [this]
  rfl
end E2

set_option Elab.async false
set_option linter.all false
set_option maxRecDepth 100000
namespace E2
open PySem L2
abbrev sBent : Stmt := top 40
def asgVal : Stmt → Expr
  | .Assign _ v _ => v
  | _ => .Constant .none 0 ⟨0, 0, 0, 0⟩
def asgPos : Stmt → Pos
  | .Assign _ _ p => p
  | _ => ⟨0, 0, 0, 0⟩
def asgTo : Stmt → Pos
  | .Assign [.Name _ q] _ _ => q
  | _ => ⟨0, 0, 0, 0⟩
def ifBody : Stmt → List Stmt
  | .If _ b _ _ => b
  | _ => []
def ifTest : Stmt → Expr
  | .If t _ _ _ => t
  | _ => .Constant .none 0 ⟨0, 0, 0, 0⟩
def ifPos : Stmt → Pos
  | .If _ _ _ p => p
  | _ => ⟨0, 0, 0, 0⟩
def lstOf : Expr → List Expr
  | .List es _ => es
  | _ => []
def lstPos : Expr → Pos
  | .List _ p => p
  | _ => ⟨0, 0, 0, 0⟩
abbrev nth (l : List Stmt) (i : Nat) : Stmt := l.getD i (.Pass ⟨0, 0, 0, 0⟩)
/-- name = [written data] -/
theorem ps_lit {X : Cx} {i : Nat} {x : Str} {e : Expr} {d : PyData} {n : Nat} {q p lp : Pos} {es : List Expr} (he : e = .List es lp) (hl : Lit n e d) (hN : X.N.Nodup) (hi : X.N[i]? = some x) (hx : Loc X.env.scope x) (hf : X.fn x = true) : PS X (.Assign [.Name x q] e p) (tAsg (tLit d) (gName i)) :=
  ps_set (i := i) hN hi hx (@pe_lit X n e d hl) (by rw [he]; rfl) (Or.inl hf)
/-! the odd things of _law_bent, kept shut -/
@[irreducible] def stB : Stmt := nth (ifBody (nth (defBody sBent) 1)) 0
@[irreducible] def eB : Expr := asgVal stB
@[irreducible] def esB : List Expr := lstOf eB
@[irreducible] def pB : Pos := asgPos stB
@[irreducible] def qB : Pos := asgTo stB
@[irreducible] def lB : Pos := lstPos eB
abbrev s0B : Stmt := nth (defBody sBent) 0
abbrev tB : Expr := ifTest (nth (defBody sBent) 1)
abbrev rB : List Stmt := (ifBody (nth (defBody sBent) 1)).drop 1
abbrev pI : Pos := ifPos (nth (defBody sBent) 1)
abbrev restB : List Stmt := (defBody sBent).drop 2
theorem bodyB : defBody sBent = s0B :: .If tB (stB :: rB) [] pI :: restB := by kernel_rfl
theorem stB_eq : stB = .Assign [.Name "_law_odds" qB] eB pB := by kernel_rfl
theorem eB_eq : eB = .List esB lB := by kernel_rfl
def oddsB : List PyData := [.none, .str "", .str "a", .str "zz", .str "A", .str "abcdefg", .int 7, .tuple [], .tuple [.str "a", .str "a"], .list [], .bool true, .tuple [.str "a"], .str "in", .str "open"]
theorem litB : Lit 4 eB (.list oddsB) := Lit.of (by kernel_rfl)
theorem psB {X : Cx} (hN : X.N.Nodup) (hi : X.N[3]? = some ("_law_odds" : Str)) (hx : Loc X.env.scope "_law_odds") (hf : X.fn "_law_odds" = true) : PS X stB (tAsg (tLit (.list oddsB)) (gName 3)) := by
  rw [stB_eq]
  exact ps_lit eB_eq litB hN hi hx hf
theorem odds_ok : ∀ d ∈ oddsB, Ok 20 1 d := by
  have h : ∀ d ∈ oddsB, fine d = true ∧ d.depth ≤ 1 ∧ d.weight ≤ 20 := by decide +kernel
  exact fun d m => ⟨(h d m).1, (h d m).2.1, (h d m).2.2⟩
def spBent (m : Nat) : Sp := fun vs H Q _ => ∃ b v d n, vs = [.ref b, v] ∧ Box H b ∧ Rep (hid H b) d v ∧ Ok n m d ∧ n ≤ 20000 ∧ ∀ r d' H', Same (hid H b) (hid H' b) → Box H' b → Rep (hid H' b) d' r → Ok (2 * n + 20) (m + 1) d' → Q r H'
def spNo : Sp := fun _ _ _ _ => False
section
variable {P : Program} {w : World} {K : PySem.W.Frag} {mg : Str → Option Value} {base : Heap}
theorem sc18 : FnScope ["_law_box_here", "_law_thing", "_law_way", "_law_odds", "_law_at"] ["_law_box_here", "_law_thing"] (defScope sBent) := ⟨rfl, rfl, rfl, by decide +kernel, rfl, by decide +kernel, by decide +kernel⟩
theorem ok_bent_step {f : Addr} {fd : FuncData} (m : Nat) (hm : m ≤ 10) (F : Fun K "_law_bent" "_law_bent" sBent f fd) (T : Txt mg) (FT : HasFn P w K mg base "_law_take" ["_law_box_here", "_law_count"] 1 spTake) {sp : Sp} (hsp : ∀ m', m = m' + 1 → sp = spBent m')
    (FB : HasFn P w K mg base "_law_bent" ["_law_box_here", "_law_thing"] (m + 1) sp) : FnOk P w K mg base CX0 (m + 2) f fd ["_law_box_here", "_law_thing"] (spBent m) := by
  refine F.ok sc18 (fun vs H Q E h => ?_) (fun cdv A outer s H vs Q E hr h => ?_)
  · obtain ⟨_, _, _, _, rfl, _⟩ := h
    rfl
  · obtain ⟨b, v, d, n, rfl, bx, h, o, hn, k⟩ := h
    have hr1 : Room 1 (A.deeper _) := hr.mono (by omega)
    rw [bodyB]
    refine ⟨_, pss_cons (ps_set (i := 2) sc18.nd rfl (Or.inl rfl) (pe_fn FT hr1 (by rfl) (pa_cons (pv 0) (pa_cons pe_int pa_nil))))
      (pss_cons (ps_if (PW.pt (pw_or (pt_not (pt_val (pe_isiT T.b (pv 1)))) (pw_or (pt_cmpR (op_eqD hr) (pv 1) (pe_tup pa_nil) (nomark _)) (pw_or1 (pt_cmpR op_lt (pv 2) pe_int (nomark _))))))
        (pss_cons (psB sc18.nd rfl (Or.inl rfl) rfl) (pss_one (ps_ret (pe_ix ix_list (pv 3) (pe_fn FT hr1 (by rfl) (pa_cons (pv 0) (pa_cons pe_int pa_nil))) (fun _ _ => rfl))))) pss_nil)
      (pss_cons (ps_set (i := 4) sc18.nd rfl (Or.inl rfl) (pe_fn FT hr1 (by rfl) (pa_cons (pv 0) (pa_cons (pe_lenD T.b (pv 1)) pa_nil))))
      (pss_cons (ps_if (pt_cmpR op_lt (pv 2) pe_int (nomark _)) (pss_one (ps_ret (pe_op op_catG (pe_op op_catG (pe_slice sl_tupG (pv 1) po_none (po_some (pv 4))) (pe_tup (pa_cons (pe_fn FB hr (by rfl) (pa_cons (pv 0) (pa_cons (pe_ix ix_tup (pv 1) (pv 4) (fun _ _ => rfl)) pa_nil))) pa_nil)))
        (pe_slice sl_tupG (pv 1) (po_some (pe_op op_add (pv 4) pe_int)) po_none)))) pss_nil)
      (pss_one (ps_ret (pe_ix ix_list (pe_lst (pa_cons (pe_op op_catG (pe_slice sl_tupG (pv 1) po_none (po_some (pv 4))) (pe_slice sl_tupG (pv 1) (po_some (pe_op op_add (pv 4) pe_int)) po_none))
        (pa_cons (pe_callTy call_list_of (by rfl) (T.b _ (by decide)) bt_list (pa_cons (pv 1) pa_nil)) (pa_cons (pe_op op_catG (pv 1) (pe_slice sl_tupG (pv 1) (po_some (pv 4)) (po_some (pe_op op_add (pv 4) pe_int)))) pa_nil)))) (pe_op op_sub (pv 2) pe_int) (fun _ _ => rfl))))))), ?_⟩
    refine ⟨_, rfl, b, 7, rfl, bx, by decide, by decide, fun way H1 w0 w1 s1 b1 => ?_⟩
    have h1 := h.same s1
    have hH := h1.same (hid_same H1 b)
    -- the odd things
    have odd : ∀ (D : Ends) (σ3 : Option V) (H2 : Hp), D.rt = Q → Same H1 H2 → tSeq (tAsg (tLit (.list oddsB)) (gName 3)) (tRet (tOp (rIxL K) (tVar 3) (tCall spTake [] E0 (tCons (tVar 0) (tCons (tC (.int 14)) tNil))))) D [some (.ref b), some v, some (.int way), σ3, none] H2 := fun D σ3 H2 hD s2 => by
      intro r H3 N s3 nn hr3
      have b2 := b1.same s2
      obtain ⟨p, vs, rfl, hp, rs⟩ := id hr3
      have b3 := b2.same s3
      refine ⟨_, rfl, _, rfl, b, 14, rfl, b3, by decide, by decide, fun z H4 z0 z1 s4 b4 => ?_⟩
      have hz : z.toNat < oddsB.length := by show z.toNat < 14; omega
      have hp4 := s4 _ _ ((nn.view (Box.ne b2)) _ _ hp)
      obtain ⟨d', e1⟩ : ∃ d', oddsB[z.toNat]? = some d' := ⟨oddsB[z.toNat], by simp [hz]⟩
      obtain ⟨v', e2, r2⟩ := rs.get' e1
      have ea : atI vs z = some v' := by
        have := atI_nat e2
        rw [Int.toNat_of_nonneg z0] at this
        exact this
      refine ⟨p, vs, z, v', rfl, rfl, SqL.of ((hid_same H4 b) _ _ hp4), ea, ?_⟩
      rw [hD]
      exact k v' d' H4 (s1.trans (((s2.trans s3).hid b).trans s4)) b4 ((r2.same (nn.view (Box.ne b2))).same s4) ((odds_ok d' (List.mem_of_getElem? e1)).mono (by omega) (by omega))
    have g : Good d := o.good (by omega)
    refine ⟨_, rfl, _, d, rfl, hH, _, rfl, ?_⟩
    by_cases ht : isTup d = true
    · obtain ⟨ds, rfl⟩ : ∃ ds, d = .tuple ds := by
        cases d with
        | tuple ds => exact ⟨ds, rfl⟩
        | _ => simp [isTup] at ht
      refine iteF ⟨_, rfl, by show 0 ≤ sizeLine; decide, fun p hp => ?_⟩
      have sp1 : Same H1 (upd H1 p (.tup [])) := Same.new hp
      refine ⟨.tuple ds, .tuple [], hH.same sp1, ⟨p, [], rfl, upd_same, rfl⟩, g.ok, by decide, _, rfl, ?_⟩
      have ee : PyData.eqv (.tuple ds) (.tuple []) = ds.isEmpty := by cases ds <;> simp [PyData.eqv, PyData.eqvAll]
      rw [ee]
      cases de : ds.isEmpty with
      | true => exact iteT (iteT (odd _ none _ rfl sp1))
      | false =>
        refine iteF ⟨_, rfl, _, _, rfl, rfl, _, rfl, ?_⟩
        by_cases cw : way < 2
        · rw [decide_eq_true cw]
          exact iteT (odd _ none _ rfl sp1)
        · rw [decide_eq_false cw]
          refine iteF ?_
          generalize upd H1 p (.tup []) = H2 at sp1 ⊢
          have b2 := b1.same sp1
          have hv2 := h1.same (sp1.hid b)
          have hH2 := hv2.same (hid_same H2 b)
          have hlen : 0 < ds.length := by cases ds with
            | nil => simp at de
            | cons _ _ => simp
          have hmx : ds.length ≤ 100000 := (fine_tup o.f).2
          refine ⟨_, rfl, _, rfl, _, _, rfl, hH2, Nat.le_trans hmx (by decide), rfl, b, _, rfl, b2, by show (0 : Int) < (ds.length : Int); omega, by show (ds.length : Int) ≤ 100000; omega, fun z H3 z0 z1 s3 b3 => ?_⟩
          have z1' : z < (ds.length : Int) := z1
          obtain ⟨zn, rfl⟩ : ∃ zn : Nat, z = (zn : Int) := ⟨z.toNat, by omega⟩
          have hzn : zn < ds.length := by omega
          have hv3 := hv2.same s3
          have hH3 := hv3.same (hid_same H3 b)
          have s13 : Same (hid H b) (hid H3 b) := (s1.trans (sp1.hid b)).trans s3
          cases m with
          | zero =>
            have := o.d
            simp only [PyData.depth] at this
            omega
          | succ m' =>
            have os := o.items
            obtain ⟨x, ex, o1, o2, o3, ow⟩ := os.split zn hzn
            have cT := cut_to ds zn (Nat.le_of_lt hzn)
            have cF : cutD ds (some ((zn : Int) + 1)) none = ds.drop (zn + 1) := by
              have : ((zn : Int) + 1) = ((zn + 1 : Nat) : Int) := by omega
              rw [this]
              exact cut_from ds (zn + 1) hzn
            have lT : (ds.take zn).length ≤ 100000 := by rw [List.length_take]; omega
            have lF : (ds.drop (zn + 1)).length ≤ 100000 := by rw [List.length_drop]; omega
            refine ⟨_, rfl, _, _, rfl, rfl, _, rfl, ?_⟩
            refine ite2 (fun c4 => ?_) (fun c4 => ?_)
            · -- thing[:at] + (bent(..),) + thing[at + 1:]
              refine ⟨_, rfl, _, rfl, _, rfl, hid H3 b, ds, hid_same H3 b, hv3, fun r1 H4 G4 x4 hr1' => ?_⟩
              rw [cT] at hr1'
              have b4 := b3.same x4.sh
              have s34 := x4.sh.hid b
              have hr4 := hr1'.same (x4.view (Box.ne b3))
              have hv4 := hv3.same s34
              obtain ⟨a4, xs4, rfl, ha4, rx4⟩ := id hv4
              obtain ⟨vx, evx, rvx⟩ := rx4.get' ex
              refine ⟨_, rfl, _, rfl, _, rfl, a4, xs4, (zn : Int), vx, rfl, rfl, SqT.of ((hid_same H4 b) _ _ ha4), atI_nat evx, ?_⟩
              rw [hsp m' rfl]
              refine ⟨b, vx, x, x.weight, rfl, b4, rvx, o2, by omega, fun r5 d5 H5 s5 b5 hr5 o5 => ?_⟩
              refine ⟨by show 1 ≤ sizeLine; decide, fun p6 hp6 => ?_⟩
              have s6 : Same H5 (upd H5 p6 (.tup [r5])) := Same.new hp6
              have np6 : p6 ≠ b := fun e => by rw [e] at hp6; exact Box.ne b5 hp6
              have b6 := b5.same s6
              have hr46 := (hr4.same s5).same (s6.hid b)
              have hone : Rep (hid (upd H5 p6 (.tup [r5])) b) (.tuple [d5]) (.ref p6) := ⟨p6, [r5], rfl, by rw [hid_ne np6, upd_same], .one (hr5.same (s6.hid b))⟩
              generalize upd H5 p6 (.tup [r5]) = H6 at s6 b6 hr46 hone ⊢
              refine ⟨hid H6 b, _, _, hid_same H6 b, hr46, hone, ?_, fun r7 H7 G7 x7 hr7 => ?_⟩
              · show (ds.take zn).length + 1 ≤ sizeLine
                exact Nat.le_trans (Nat.add_le_add_right lT 1) (by decide)
              · have b7 := b6.same x7.sh
                have hr7' := hr7.same (x7.view (Box.ne b6))
                have hv7 := ((hv4.same s5).same (s6.hid b)).same (x7.sh.hid b)
                refine ⟨_, rfl, _, rfl, _, _, rfl, rfl, _, rfl, hid H7 b, ds, hid_same H7 b, hv7, fun r8 H8 G8 x8 hr8 => ?_⟩
                rw [cF] at hr8
                have b8 := b7.same x8.sh
                have hr8' := hr8.same (x8.view (Box.ne b7))
                have hr78 := hr7'.same (x8.sh.hid b)
                refine ⟨hid H8 b, _, _, hid_same H8 b, hr78, hr8', ?_, fun r9 H9 G9 x9 hr9 => ?_⟩
                · rw [List.length_append]
                  show (ds.take zn).length + 1 + (ds.drop (zn + 1)).length ≤ sizeLine
                  exact Nat.le_trans (Nat.add_le_add (Nat.add_le_add_right lT 1) lF) (by decide)
                · have oo : Ok (2 * n + 20) (m' + 1 + 1) (.tuple (ds.take zn ++ [d5] ++ ds.drop (zn + 1))) := by
                    have := ((o1.mono (Nat.le_refl _) (Nat.le_succ m')).append (Oks.one o5)).append (o3.mono (Nat.le_refl _) (Nat.le_succ m'))
                    exact (this.mono (n' := 2 * n + 20) (by omega) (Nat.le_refl _)).tup (by omega)
                  exact k r9 _ H9 (s13.trans (s34.trans (s5.trans ((s6.hid b).trans ((x7.sh.hid b).trans ((x8.sh.hid b).trans (x9.sh.hid b))))))) (b8.same x9.sh) (hr9.same (x9.view (Box.ne b8))) oo
            · -- one of three
              have c4' : ¬ way < 4 := by simpa using c4
              have w4 : 4 ≤ way := by omega
              refine ⟨_, rfl, _, rfl, _, rfl, hid H3 b, ds, hid_same H3 b, hv3, fun r1 H4 G4 x4 hr1' => ?_⟩
              rw [cT] at hr1'
              have b4 := b3.same x4.sh
              have hr4 := hr1'.same (x4.view (Box.ne b3))
              have hv4 := hv3.same (x4.sh.hid b)
              refine ⟨_, rfl, _, rfl, _, _, rfl, rfl, _, rfl, hid H4 b, ds, hid_same H4 b, hv4, fun r5 H5 G5 x5 hr5 => ?_⟩
              rw [cF] at hr5
              have b5 := b4.same x5.sh
              have hr5' := hr5.same (x5.view (Box.ne b4))
              have hr45 := hr4.same (x5.sh.hid b)
              have hv5 := hv4.same (x5.sh.hid b)
              refine ⟨hid H5 b, _, _, hid_same H5 b, hr45, hr5', Nat.le_trans (Nat.add_le_add lT lF) (by decide), fun r6 H6 G6 x6 hr6 => ?_⟩
              have b6 := b5.same x6.sh
              have hr6' := hr6.same (x6.view (Box.ne b5))
              have hv6 := hv5.same (x6.sh.hid b)
              obtain ⟨a6, xs6, rfl, ha6, rx6⟩ := id hv6
              refine ⟨_, rfl, a6, xs6, rfl, .inr (SqT.of ((hid_same H6 b) _ _ ha6)), fun l7 hl7 => ?_⟩
              have s7 : Same H6 (upd H6 l7 (.lst xs6)) := Same.new hl7
              have nl7 : l7 ≠ b := fun e => by rw [e] at hl7; exact Box.ne b6 hl7
              have b7 := b6.same s7
              have hlst : Rep (hid (upd H6 l7 (.lst xs6)) b) (.list ds) (.ref l7) := ⟨l7, xs6, rfl, by rw [hid_ne nl7, upd_same], rx6.same (s7.hid b)⟩
              have hr67 := hr6'.same (s7.hid b)
              have hv7 := hv6.same (s7.hid b)
              generalize upd H6 l7 (.lst xs6) = H7 at s7 b7 hlst hr67 hv7 ⊢
              refine ⟨_, rfl, _, rfl, _, rfl, _, rfl, _, rfl, _, _, rfl, rfl, _, rfl, hid H7 b, ds, hid_same H7 b, hv7, fun r8 H8 G8 x8 hr8 => ?_⟩
              rw [cut_one ds zn x ex] at hr8
              have b8 := b7.same x8.sh
              have hr8' := hr8.same (x8.view (Box.ne b7))
              have hv8 := hv7.same (x8.sh.hid b)
              refine ⟨hid H8 b, _, _, hid_same H8 b, hv8, hr8', Nat.le_trans (Nat.add_le_add_right hmx 1) (by decide), fun r9 H9 G9 x9 hr9 => ?_⟩
              have b9 := b8.same x9.sh
              have hr9' := hr9.same (x9.view (Box.ne b8))
              refine ⟨by show 3 ≤ sizeLine; decide, fun pa hpa => ?_⟩
              have sa : Same H9 (upd H9 pa (.lst [r6, .ref l7, r9])) := Same.new hpa
              have ba := b9.same sa
              have sAll : Same (hid H b) (hid (upd H9 pa (.lst [r6, .ref l7, r9])) b) := s13.trans ((x4.sh.hid b).trans ((x5.sh.hid b).trans ((x6.sh.hid b).trans ((s7.hid b).trans ((x8.sh.hid b).trans ((x9.sh.hid b).trans (sa.hid b)))))))
              refine ⟨_, rfl, _, _, rfl, rfl, ?_⟩
              have e3 : way - 4 = 0 ∨ way - 4 = 1 ∨ way - 4 = 2 := by omega
              rcases e3 with e3 | e3 | e3
              · refine ⟨pa, _, 0, r6, rfl, congrArg V.int e3, SqL.of upd_same, atI_0 _ _, k r6 _ _ sAll ba (((hr67.same (x8.sh.hid b)).same (x9.sh.hid b)).same (sa.hid b)) ?_⟩
                exact (((o1.append o3).mono (m' := m' + 1) (n' := 2 * n + 20) (by omega) (by omega)).tup (by omega))
              · refine ⟨pa, _, 1, .ref l7, rfl, congrArg V.int e3, SqL.of upd_same, atI_1 _ _ _, k _ _ _ sAll ba (((hlst.same (x8.sh.hid b)).same (x9.sh.hid b)).same (sa.hid b)) ?_⟩
                exact ((os.mono (m' := m' + 1) (n' := 2 * n + 20) (by omega) (by omega)).lst (by omega))
              · refine ⟨pa, _, 2, r9, rfl, congrArg V.int e3, SqL.of upd_same, atI_nat (j := 2) rfl, k r9 _ _ sAll ba (hr9'.same (sa.hid b)) ?_⟩
                exact (((os.append (Oks.one o2)).mono (m' := m' + 1) (n' := 2 * n + 20) (by omega) (by omega)).tup (by omega))
    · rw [Bool.not_eq_true] at ht
      rw [ht]
      exact iteT (iteT (odd _ none _ rfl (Same.refl H1)))
end
end E2

set_option Elab.async false
set_option linter.all false
set_option maxRecDepth 100000
namespace E2
open PySem L2
section
variable {P : Program} {w : World} {K : PySem.W.Frag} {mg : Str → Option Value} {base : Heap}
theorem ok_bent {f : Addr} {fd : FuncData} (hm0 : mg "_law_bent" = some (.ref f)) (hb : Binds K fd ["_law_box_here", "_law_thing"] []) (F : Fun K "_law_bent" "_law_bent" sBent f fd) (T : Txt mg) (FT : HasFn P w K mg base "_law_take" ["_law_box_here", "_law_count"] 1 spTake) :
    ∀ m, m ≤ 10 → FnOk P w K mg base CX0 (m + 2) f fd ["_law_box_here", "_law_thing"] (spBent m) := by
  intro m
  induction m with
  | zero => exact fun hm => ok_bent_step 0 hm F T FT (sp := spNo) (fun m' e => by cases e) ⟨f, fd, hm0, F.kp, hb, FnOk.no⟩
  | succ m ih => exact fun hm => ok_bent_step (m + 1) hm F T FT (sp := spBent m) (fun m' e => by injection e with e; rw [e]) ⟨f, fd, hm0, F.kp, hb, ih (by omega)⟩
/-! ### _law_odd -/
abbrev sOdd : Stmt := top 34
def binR : Expr → Expr
  | .BinOp _ _ e _ => e
  | _ => .Constant .none 0 ⟨0, 0, 0, 0⟩
def binL : Expr → Expr
  | .BinOp e _ _ _ => e
  | _ => .Constant .none 0 ⟨0, 0, 0, 0⟩
def binPos : Expr → Pos
  | .BinOp _ _ _ p => p
  | _ => ⟨0, 0, 0, 0⟩
def nmPos : Expr → Pos
  | .Name _ p => p
  | _ => ⟨0, 0, 0, 0⟩
def retVal : Stmt → Expr
  | .Return (some e) _ => e
  | _ => .Constant .none 0 ⟨0, 0, 0, 0⟩
def retPos : Stmt → Pos
  | .Return _ p => p
  | _ => ⟨0, 0, 0, 0⟩
@[irreducible] def stO (i : Nat) : Stmt := nth (defBody sOdd) i
@[irreducible] def eO (i : Nat) : Expr := match i with
  | 0 => asgVal (stO 0)
  | i => binR (asgVal (stO i))
@[irreducible] def esO (i : Nat) : List Expr := lstOf (eO i)
@[irreducible] def lO (i : Nat) : Pos := lstPos (eO i)
@[irreducible] def pO (i : Nat) : Pos := asgPos (stO i)
@[irreducible] def qO (i : Nat) : Pos := asgTo (stO i)
@[irreducible] def bO (i : Nat) : Pos := binPos (asgVal (stO i))
@[irreducible] def nO (i : Nat) : Pos := nmPos (binL (asgVal (stO i)))
abbrev rO : Stmt := nth (defBody sOdd) 3
theorem bodyO : defBody sOdd = [stO 0, stO 1, stO 2, rO] := by kernel_rfl
theorem stO0 : stO 0 = .Assign [.Name "_law_some" (qO 0)] (eO 0) (pO 0) := by kernel_rfl
theorem stO1 : stO 1 = .Assign [.Name "_law_some" (qO 1)] (.BinOp (.Name "_law_some" (nO 1)) .Add (eO 1) (bO 1)) (pO 1) := by kernel_rfl
theorem stO2 : stO 2 = .Assign [.Name "_law_some" (qO 2)] (.BinOp (.Name "_law_some" (nO 2)) .Add (eO 2) (bO 2)) (pO 2) := by kernel_rfl
theorem eO0 : eO 0 = .List (esO 0) (lO 0) := by kernel_rfl
theorem eO1 : eO 1 = .List (esO 1) (lO 1) := by kernel_rfl
theorem eO2 : eO 2 = .List (esO 2) (lO 2) := by kernel_rfl
def odds0 : List PyData := [.none, .bool true, .bool false, .int 0, .int 1, .int (-1), .int 7, .int (10 ^ 29), .str "", .str "a", .str "A", .str "a b", .str "abcdefg", .str "in", .tuple [], .list [], .dict []]
def odds1 : List PyData := [.tuple [.str "a"], .list [.str "a"]]
def odds2 : List PyData := [.tuple [.str "b", .str "a"], .tuple [.str "a", .str "a"], .tuple [.tuple [], .tuple []], .tuple [.tuple [], .tuple [], .tuple []], .list [.tuple [], .tuple []], .tuple [.tuple [.str "a"], .tuple [.tuple [.str "a", .str "b"]]], .dict [(.str "a", .int 1)]]
theorem litO0 : Lit 6 (eO 0) (.list odds0) := Lit.of (by kernel_rfl)
theorem litO1 : Lit 6 (eO 1) (.list odds1) := Lit.of (by kernel_rfl)
theorem litO2 : Lit 6 (eO 2) (.list odds2) := Lit.of (by kernel_rfl)
abbrev dct : PyData := .dict [(.str "a", .int 1)]
/-- small data, or one of two dicts -/
def OkD (n m : Nat) (d : PyData) : Prop := Ok n m d ∨ d = .dict [] ∨ d = dct
def isDct : PyData → Bool
  | .dict [] => true
  | .dict [(.str k, .int i)] => decide (k = "a") && decide (i = 1)
  | _ => false
theorem isDct_eq {d : PyData} (h : isDct d = true) : d = .dict [] ∨ d = dct := by
  unfold isDct at h
  split at h
  · exact .inl rfl
  · simp only [Bool.and_eq_true, decide_eq_true_eq] at h
    rw [h.1, h.2]
    exact .inr rfl
  · cases h
theorem odds_okD : ∀ d ∈ odds0 ++ odds1 ++ odds2, OkD 100 4 d := by
  have h : ∀ d ∈ odds0 ++ odds1 ++ odds2, (fine d = true ∧ d.depth ≤ 4 ∧ d.weight ≤ 100) ∨ isDct d = true := by decide +kernel
  exact fun d m => (h d m).imp (fun o => ⟨o.1, o.2.1, o.2.2⟩) isDct_eq
def spOdd : Sp := fun vs H Q _ => ∃ b, vs = [.ref b] ∧ Box H b ∧ ∀ r d H', Same (hid H b) (hid H' b) → Box H' b → Rep (hid H' b) d r → OkD 100 4 d → Q r H'
theorem sc14 : FnScope ["_law_box_here", "_law_some"] ["_law_box_here"] (defScope sOdd) := ⟨rfl, rfl, rfl, by decide +kernel, rfl, by decide +kernel, by decide +kernel⟩
theorem ok_odd {f : Addr} {fd : FuncData} (F : Fun K "_law_odd" "_law_odd" sOdd f fd) (T : Txt mg) (FT : HasFn P w K mg base "_law_take" ["_law_box_here", "_law_count"] 1 spTake) : FnOk P w K mg base CX0 2 f fd ["_law_box_here"] spOdd := by
  refine F.ok sc14 (fun vs H Q E h => ?_) (fun cdv A outer s H vs Q E hr h => ?_)
  · obtain ⟨_, rfl, _⟩ := h
    rfl
  · obtain ⟨b, rfl, bx, k⟩ := h
    rw [bodyO]
    refine ⟨_, pss_cons (st := stO 0) (t := tAsg (tLit (.list odds0)) (gName 1)) (by rw [stO0]; exact ps_lit eO0 litO0 sc14.nd rfl (Or.inl rfl) rfl)
      (pss_cons (st := stO 1) (t := tAsg (tOp rCat (tVar 1) (tLit (.list odds1))) (gName 1)) (by rw [stO1]; exact ps_litCat eO1 litO1 sc14.nd rfl (Or.inl rfl) rfl (by decide) (by decide) (Or.inl rfl) rfl)
      (pss_cons (st := stO 2) (t := tAsg (tOp rCat (tVar 1) (tLit (.list odds2))) (gName 1)) (by rw [stO2]; exact ps_litCat eO2 litO2 sc14.nd rfl (Or.inl rfl) rfl (by decide) (by decide) (Or.inl rfl) rfl)
      (pss_one (ps_ret (pe_ix ix_list (pv 1) (pe_fn FT hr (by rfl) (pa_cons (pv 0) (pa_cons pe_int pa_nil))) (fun _ _ => rfl)))))), ?_⟩
    intro r H1 N1 s1 n1 h1
    obtain ⟨a1, rfl, g1⟩ := Grown.lit s1 n1 h1
    refine g1.catS (by decide) fun a2 H2 g2 => g2.catS (by decide) fun a3 H3 g3 => ?_
    obtain ⟨N, vs, s3, n3, ha, rs⟩ := g3
    have b3 := bx.same s3
    refine ⟨_, rfl, _, rfl, b, 26, rfl, b3, by decide, by decide, fun z H4 z0 z1 s4 b4 => ?_⟩
    have hz : z.toNat < (odds0 ++ odds1 ++ odds2).length := by show z.toNat < 26; omega
    have v4 := (n3.view (Box.ne bx)).trans s4
    obtain ⟨d', e1⟩ : ∃ d', (odds0 ++ odds1 ++ odds2)[z.toNat]? = some d' := ⟨(odds0 ++ odds1 ++ odds2)[z.toNat], by simp [hz]⟩
    obtain ⟨v', e2, r2⟩ := rs.get' e1
    have ea : atI vs z = some v' := by
      have := atI_nat e2
      rw [Int.toNat_of_nonneg z0] at this
      exact this
    exact ⟨a3, vs, z, v', rfl, rfl, SqL.of ((hid_same H4 b) _ _ (v4 _ _ ha)), ea, k v' d' H4 ((s3.hid b).trans s4) b4 (r2.same v4) (odds_okD d' (List.mem_of_getElem? e1))⟩
end
end E2

set_option Elab.async false
set_option linter.all false
set_option maxRecDepth 100000
namespace E2
open PySem L2
abbrev sWide : Stmt := top 41
/-! the words of _law_wide, kept shut -/
@[irreducible] def stW : Stmt := nth (defBody sWide) 0
@[irreducible] def eW : Expr := asgVal stW
@[irreducible] def esW : List Expr := lstOf eW
@[irreducible] def pW : Pos := asgPos stW
@[irreducible] def qW : Pos := asgTo stW
@[irreducible] def lW : Pos := lstPos eW
abbrev restW : List Stmt := (defBody sWide).drop 1
theorem bodyW : defBody sWide = stW :: restW := by kernel_rfl
theorem stW_eq : stW = .Assign [.Name "_law_left" qW] eW pW := by kernel_rfl
theorem eW_eq : eW = .List esW lW := by kernel_rfl
def words : List Str := ["a", "aa", "ab", "abcdef", "b", "c", "d", "e", "m", "x", "zz", "zzzzzz"]
theorem litW : Lit 4 eW (.list (words.map .str)) := Lit.of (by kernel_rfl)
theorem words_ok : ∀ x ∈ words, fine (.str x) = true ∧ (PyData.str x).depth ≤ 0 ∧ (PyData.str x).weight ≤ 6 := by decide +kernel
theorem reps_strs {H : Hp} : ∀ {ns : List Str} {vs : List V}, Reps H (ns.map .str) vs → vs = ns.map V.str
  | [], _, h => h
  | n :: ns, _, ⟨w, ws, e, h, r⟩ => by
    subst e
    have h' : w = .str n := h
    rw [h', reps_strs r]; rfl
theorem strs_reps {H : Hp} : ∀ {ns : List Str}, Reps H (ns.map .str) (ns.map V.str)
  | [] => rfl
  | n :: ns => ⟨.str n, ns.map V.str, rfl, rfl, strs_reps⟩
theorem oks_words : ∀ {ss : List Str}, (∀ x ∈ ss, x ∈ words) → Oks (7 * ss.length) 0 (ss.map .str)
  | [], _ => ⟨rfl, Nat.le_refl _, Nat.le_refl _⟩
  | s :: ss, h => by
    have a := words_ok s (h s (by simp))
    have b := oks_words (ss := ss) fun x m => h x (List.mem_cons_of_mem _ m)
    refine ⟨?_, ?_, ?_⟩
    · simp only [List.map_cons, fines, a.1, b.f, Bool.and_true]
    · simp only [List.map_cons, PyData.depthAll]; have := b.d; omega
    · simp only [List.map_cons, PyData.weightAll, List.length_cons]; have := b.w; omega
/-- a strike of words -/
def WPair (d : PyData) : Prop := ∃ x y, x ∈ words ∧ y ∈ words ∧ d = .tuple [.str x, .str y]
theorem WPair.ok {d : PyData} (h : WPair d) : Ok 14 1 d := by
  obtain ⟨x, y, hx, hy, rfl⟩ := h
  have := oks_words (ss := [x, y]) (by intro z hz; rcases List.mem_cons.mp hz with e | hz; { rw [e]; exact hx }; { rw [List.mem_singleton.mp hz]; exact hy })
  exact this.tup (by show 14 ≤ 100000; decide)
theorem oks_pairs : ∀ {ds : List PyData}, (∀ d ∈ ds, WPair d) → Oks (15 * ds.length) 1 ds
  | [], _ => ⟨rfl, Nat.zero_le _, Nat.le_refl _⟩
  | d :: ds, h => by
    have a := (h d (by simp)).ok
    have b := oks_pairs (ds := ds) fun x m => h x (List.mem_cons_of_mem _ m)
    refine ⟨?_, ?_, ?_⟩
    · simp only [fines, a.f, b.f, Bool.and_true]
    · simp only [PyData.depthAll]; exact Nat.max_le.mpr ⟨a.d, b.d⟩
    · simp only [PyData.weightAll, List.length_cons]; have := b.w; have := a.w; omega
def spWide : Sp := fun vs H Q _ => ∃ b, vs = [.ref b, .int 12] ∧ Box H b ∧ ∀ r d H', Same (hid H b) (hid H' b) → Box H' b → Rep (hid H' b) d r → Ok 3000 3 d → Q r H'
theorem sc19 : FnScope ["_law_box_here", "_law_most_names", "_law_left", "_law_names", "_law_share", "_law_pairs", "_law_one"] ["_law_box_here", "_law_most_names"] (defScope sWide) := ⟨rfl, rfl, rfl, by decide +kernel, rfl, by decide +kernel, by decide +kernel⟩
theorem nd19a : (["_law_nth", "_law_box_here", "_law_most_names", "_law_left", "_law_names", "_law_share", "_law_pairs", "_law_one"] : List Str).Nodup := by decide +kernel
theorem nd19b : (["_law_other", "_law_box_here", "_law_most_names", "_law_left", "_law_names", "_law_share", "_law_pairs", "_law_one"] : List Str).Nodup := by decide +kernel
theorem erase_map {α β : Type} (f : α → β) : ∀ (l : List α) (i : Nat), (l.map f).eraseIdx i = (l.eraseIdx i).map f
  | [], _ => rfl
  | _ :: _, 0 => rfl
  | x :: l, i + 1 => by show f x :: (l.map f).eraseIdx i = f x :: (l.eraseIdx i).map f; rw [erase_map f l i]
section
variable {P : Program} {w : World} {K : PySem.W.Frag} {mg : Str → Option Value} {base : Heap}
set_option maxHeartbeats 2000000 in
theorem ok_wide {f : Addr} {fd : FuncData} (F : Fun K "_law_wide" "_law_wide" sWide f fd) (T : Txt mg) (FT : HasFn P w K mg base "_law_take" ["_law_box_here", "_law_count"] 1 spTake) : FnOk P w K mg base CX0 2 f fd ["_law_box_here", "_law_most_names"] spWide := by
  refine F.ok sc19 (fun vs H Q E h => ?_) (fun cdv A outer s H vs Q E hr h => ?_)
  · obtain ⟨_, rfl, _⟩ := h
    rfl
  · obtain ⟨b, rfl, bx, k⟩ := h
    rw [bodyW]
    refine ⟨_, pss_cons (st := stW) (t := tAsg (tLit (.list (words.map .str))) (gName 2)) (by rw [stW_eq]; exact ps_lit eW_eq litW sc19.nd rfl (Or.inr rfl) rfl)
      (pss_cons (ps_set (i := 3) sc19.nd rfl (Or.inl rfl) (pe_callB call_sortedS (by rfl) (T.b _ (by decide)) bt_sorted (pa_cons (pe_comp ["_law_nth"] rfl rfl (pi_range1 (by rfl) (T.b _ (by decide)) (pa_cons (pe_fn FT hr (by rfl) (pa_cons (pv 0) (pa_cons (pe_op op_add (pv 1) pe_int) pa_nil))) pa_nil))
          (fun _ _ _ _ _ => pg_c 0 nd19a rfl (Or.inl rfl) rfl) (fun _ _ _ _ _ => pts_nil) (fun _ _ _ _ _ => pe_bmK K rfl PySem.F.plainAttrs_list PySem.F.slot_list_pop PySem.F.type_list_pop mt_popAt (pv 3) (pa_cons (pe_fn FT hr (by rfl) (pa_cons (pv 1) (pa_cons (pe_lenK K rfl T.b (pv 3)) pa_nil))) pa_nil))) pa_nil)))
      (pss_cons (ps_asg (pe_tup (pa_cons (pe_ix ix_list (pe_lst (pa_cons pe_int (pa_cons pe_int (pa_cons pe_int (pa_cons pe_int pa_nil))))) (pe_fn FT hr (by rfl) (pa_cons (pv 0) (pa_cons pe_int pa_nil))) (fun _ _ => rfl)) (pa_cons (pe_lst pa_nil) pa_nil))) (pg_pair K 4 5 sc19.nd rfl rfl rfl rfl (Or.inr rfl) (Or.inl rfl) rfl rfl))
      (pss_cons (ps_for PassesOwn.never rfl (pi_list (pv 3)) (pg_name (i := 6) sc19.nd rfl (Or.inr rfl))
        (pss_one (ps_set (i := 5) sc19.nd rfl (Or.inl rfl) (pe_op op_cat (pv 5) (pe_comp ["_law_other"] rfl rfl (pi_list (pv 3)) (fun _ _ _ _ _ => pg_c 0 nd19b rfl (Or.inl rfl) rfl) (fun _ _ _ _ _ => pts_one (pt_cmpR op_lt (pe_fn FT hr (by rfl) (pa_cons (pv 1) (pa_cons pe_int pa_nil))) (pv 5) (nomark _))) (fun _ _ _ _ _ => pe_tup (pa_cons (pv 7) (pa_cons (pv 0) pa_nil))))))))
      (pss_one (ps_ret (pe_tup (pa_cons (pe_callTy call_tuple_of (by rfl) (T.b _ (by decide)) bt_tuple (pa_cons (pv 3) pa_nil)) (pa_cons (pe_callTy call_tuple_of (by rfl) (T.b _ (by decide)) bt_tuple (pa_cons (pv 5) pa_nil)) pa_nil)))))))), ?_⟩
    intro r H1 N1 s1 n1 h1
    obtain ⟨a, vs, rfl, ha, rs⟩ := h1
    have ev := reps_strs rs
    subst ev
    have a0 : H a = none := (n1 a _ ha).1
    have na : a ≠ b := bx.far a0
    have b1 := bx.same s1
    have ha1 := (n1 a _ ha).2
    refine ⟨_, rfl, _, rfl, _, _, rfl, rfl, b, 13, rfl, b1, by decide, by decide, fun z H2 z0 z1 s2 b2 => ⟨z, rfl, by omega, by omega, ?_⟩⟩
    have hz : z.toNat ≤ 12 := by omega
    have ha2 : H2 a = some (.lst (words.map V.str)) := (hid_get (s2 a _ (by rw [hid_ne na]; exact ha1))).2
    refine comp_range0 (fun i ys H' => ∃ ws ss : List Str, Same (hid H b) (hid H' b) ∧ Box H' b ∧ H' a = some (.lst (ws.map V.str)) ∧ ys = ss.map V.str ∧ ss.length = i ∧ ws.length = 12 - i ∧ (∀ x ∈ ws, x ∈ words) ∧ ∀ x ∈ ss, x ∈ words)
      ⟨words, [], (s1.hid b).trans s2, b2, ha2, rfl, rfl, rfl, fun _ m => m, fun _ m => by cases m⟩ (fun i ys H' hi ⟨ws, ss, _, _, _, e, hl, _⟩ => by rw [e, List.length_map, hl]; exact Nat.le_trans (Nat.le_trans hi hz) (by decide)) (fun i ys H' hi ⟨ws, ss, sm, bm, hm, e, hl, hw, mw, ms⟩ => ?_) fun ys H' ⟨ws, ss, sm, bm, hm, e, hl, hw, mw, ms⟩ p hp => ?_
    · -- one more name
      have hwl : 0 < ws.length := by omega
      refine ⟨_, rfl, .inl ⟨rfl, _, SqL.of hm⟩, _, rfl, _, rfl, a, _, rfl, .inl (SqL.of hm), b, _, rfl, bm, by rw [List.length_map]; omega, by rw [List.length_map]; omega, fun y H3 y0 y1 s3 b3 => ?_⟩
      rw [List.length_map] at y1
      obtain ⟨yn, rfl⟩ : ∃ yn : Nat, y = (yn : Int) := ⟨y.toNat, by omega⟩
      have hyn : yn < ws.length := by omega
      have hm3 : H3 a = some (.lst (ws.map V.str)) := (hid_get (s3 a _ (by rw [hid_ne na]; exact hm))).2
      have e1 : ws[yn]? = some ws[yn] := by simp [hyn]
      refine ⟨a, _, (yn : Int), yn, .str ws[yn], rfl, rfl, hm3, by omega, by omega, PySem.StrLaws.seqIndex_nonneg (by omega) (by rw [List.length_map]; omega), by rw [List.getElem?_map, e1]; rfl, ?_⟩
      refine ⟨ws.eraseIdx yn, ss ++ [ws[yn]], (sm.trans s3).hidPut a0, b3.put na.symm, by rw [upd_same, erase_map], by rw [e, List.map_append]; rfl, by rw [List.length_append, hl]; rfl, by rw [List.length_eraseIdx_of_lt hyn, hw]; omega, fun x m => mw x (List.mem_of_mem_eraseIdx m), fun x m => ?_⟩
      rcases List.mem_append.mp m with m | m
      · exact ms x m
      · rw [List.mem_singleton.mp m]
        exact mw _ (List.getElem_mem hyn)
    · -- the names in order
      refine ⟨p, ss, rfl, SqL.of (by rw [upd_same, e]), by omega, fun ss' c pm _ hc => ?_⟩
      have sc := (sm.trans ((Same.new (o := .lst ys) hp).hid b)).trans ((Same.new (o := .lst (ss'.map V.str)) hc).hid b)
      have bc := (bm.same (Same.new (o := .lst ys) hp)).same (Same.new (o := .lst (ss'.map V.str)) hc)
      have nc : c ≠ b := (bm.same (Same.new (o := .lst ys) hp)).far hc
      have hcc : hid (upd (upd H' p (.lst ys)) c (.lst (ss'.map V.str))) b c = some (.lst (ss'.map V.str)) := hid_up nc
      have sl : ss'.length ≤ 12 := by rw [pm.length_eq, hl]; exact hz
      have sw : ∀ x ∈ ss', x ∈ words := fun x m => ms x (pm.mem_iff.mp m)
      show tSeq _ _ _ [some (.ref b), some (.int 12), some (.ref a), some (.ref c), none, none, none] _
      generalize upd (upd H' p (.lst ys)) c (.lst (ss'.map V.str)) = H4 at sc bc hcc ⊢
      refine ⟨by show 4 ≤ sizeLine; decide, fun p5 hp5 => ?_⟩
      have s5 := Same.new (o := .lst [.int 1, .int 2, .int 3, .int 5]) hp5
      have b5 := bc.same s5
      have n5 : p5 ≠ b := bc.far hp5
      have h5 : hid (upd H4 p5 (.lst [.int 1, .int 2, .int 3, .int 5])) b p5 = some (.lst [.int 1, .int 2, .int 3, .int 5]) := hid_up n5
      refine ⟨_, rfl, b, 4, rfl, b5, by decide, by decide, fun y H6 y0 y1 s6 b6 => ?_⟩
      obtain ⟨sh, esh⟩ : ∃ sh : Int, atI [V.int 1, .int 2, .int 3, .int 5] y = some (.int sh) := by
        have : y = 0 ∨ y = 1 ∨ y = 2 ∨ y = 3 := by omega
        rcases this with e | e | e | e <;> subst e
        · exact ⟨1, rfl⟩
        · exact ⟨2, rfl⟩
        · exact ⟨3, rfl⟩
        · exact ⟨5, rfl⟩
      refine ⟨p5, _, y, .int sh, rfl, rfl, SqL.of (hid_get (s6 _ _ h5)).2, esh, by show 0 ≤ sizeLine; decide, fun p7 hp7 => ⟨by show 2 ≤ sizeLine; decide, fun p8 hp8 => ?_⟩⟩
      have s7 := Same.new (o := .lst []) hp7
      have b7 := b6.same s7
      have s8 := Same.new (o := .tup [.int sh, .ref p7]) hp8
      have b8 := b7.same s8
      have s48 : Same (hid H4 b) (hid (upd (upd H6 p7 (.lst [])) p8 (.tup [.int sh, .ref p7])) b) := ((s5.hid b).trans s6).trans ((s7.hid b).trans (s8.hid b))
      have h7 : hid (upd (upd H6 p7 (.lst [])) p8 (.tup [.int sh, .ref p7])) b p7 = some (.lst []) := (s8.hid b) _ _ (hid_up (b6.far hp7))
      refine ⟨p8, _, rfl, SqT.of upd_same, rfl, _, _, rfl, _, [], rfl, rfl, ?_⟩
      show tSeq _ _ _ [some (.ref b), some (.int 12), some (.ref a), some (.ref c), some (.int sh), some (.ref p7), none] _
      have hc8 := s48 _ _ hcc
      have sc8 := sc.trans s48
      generalize upd (upd H6 p7 (.lst [])) p8 (.tup [.int sh, .ref p7]) = H8 at b8 s48 h7 hc8 sc8 ⊢
      refine ⟨_, rfl, c, rfl, ⟨_, SqL.of (hid_get hc8).2⟩, for_list (K := K) (fun i σ H' => ∃ q ds vs o, σ = [some (.ref b), some (.int 12), some (.ref a), some (.ref c), some (.int sh), some (.ref q), o] ∧ Same (hid H b) (hid H' b) ∧ Box H' b ∧ hid H' b c = some (.lst (ss'.map V.str)) ∧ hid H' b q = some (.lst vs) ∧ Reps (hid H' b) ds vs ∧ ds.length ≤ 12 * i ∧ ∀ d ∈ ds, WPair d)
        ⟨p7, [], [], none, rfl, sc8, b8, hc8, h7, rfl, Nat.le_refl _, fun _ m => by cases m⟩ (fun i σ H' hi ⟨_, _, _, _, _, _, _, hcq, _⟩ => SqL.of (hid_get hcq).2) (fun i x σ H' hx ⟨q, ds, vs, o, e, sq, bq, hcq, hq, rq, lq, mq⟩ => ?_) fun σ H' ⟨q, ds, vs, o, e, sq, bq, hcq, hq, rq, lq, mq⟩ => ?_⟩
      · subst e
        obtain ⟨x1, ex1, rfl⟩ : ∃ x1, ss'[i]? = some x1 ∧ x = .str x1 := by
          rw [List.getElem?_map] at hx
          cases e : ss'[i]? with
          | none => rw [e] at hx; cases hx
          | some x1 => rw [e] at hx; cases hx; exact ⟨x1, rfl, rfl⟩
        have hi12 : i < ss'.length := (List.getElem?_eq_some_iff.mp ex1).1
        refine ⟨_, rfl, _, rfl, c, rfl, ⟨_, SqL.of (hid_get hcq).2⟩, comp_list (K := K) (fun j ys H'' => ∃ es, Same (hid H' b) (hid H'' b) ∧ Box H'' b ∧ Reps (hid H'' b) es ys ∧ es.length ≤ j ∧ ∀ d ∈ es, WPair d)
          ⟨[], Same.refl _, bq, rfl, Nat.le_refl _, fun _ m => by cases m⟩ (fun j ys H'' hj ⟨es, se, be, re, le, _⟩ => ⟨SqL.of (hid_get (se _ _ hcq)).2, ?_⟩) (fun j x ys H'' hx ⟨es, se, be, re, le, me⟩ => ?_) fun ys H'' ⟨es, se, be, re, le, me⟩ p hp => ?_⟩
        · rw [re.length]
          rw [List.length_map] at hj
          exact Nat.le_trans le (Nat.le_trans hj (Nat.le_trans sl (by decide)))
        · obtain ⟨x2, ex2, rfl⟩ : ∃ x1, ss'[j]? = some x1 ∧ x = .str x1 := by
            rw [List.getElem?_map] at hx
            cases e : ss'[j]? with
            | none => rw [e] at hx; cases hx
            | some x1 => rw [e] at hx; cases hx; exact ⟨x1, rfl, rfl⟩
          refine ⟨_, rfl, b, 8, rfl, be, by decide, by decide, fun y H5 y0 y1 s5 b5 => ⟨_, rfl, _, _, rfl, rfl, _, rfl, ite2 (fun _ => ⟨_, rfl, _, rfl, by show 2 ≤ sizeLine; decide, fun p hp => ?_⟩) fun _ => ⟨es, se.trans s5, b5, re.same s5, Nat.le_succ_of_le le, me⟩⟩⟩
          have sp := Same.new (o := .tup [.str x1, .str x2]) hp
          have rp := (re.same s5).same (sp.hid b)
          refine ⟨es ++ [.tuple [.str x1, .str x2]], (se.trans s5).trans (sp.hid b), b5.same sp, Reps.append rp (Reps.one (d := .tuple [.str x1, .str x2]) ⟨p, _, rfl, hid_up (b5.far hp), strs_reps (ns := [x1, x2])⟩), by rw [List.length_append]; exact Nat.succ_le_succ le, fun d m => ?_⟩
          rcases List.mem_append.mp m with m | m
          · exact me d m
          · rw [List.mem_singleton.mp m]
            exact ⟨x1, x2, sw _ (List.mem_of_getElem? ex1), sw _ (List.mem_of_getElem? ex2), rfl⟩
        · have sp := Same.new (o := .lst ys) hp
          have bp := be.same sp
          have hq2 := (sp.hid b) _ _ (se _ _ hq)
          rw [List.length_map] at le
          refine ⟨q, p, vs, ys, rfl, rfl, (hid_get hq2).2, upd_same, ?_, fun p2 hp2 => ?_⟩
          · rw [rq.length, re.length]
            exact Nat.le_trans (Nat.add_le_add (Nat.le_trans lq (Nat.mul_le_mul_left 12 (Nat.le_of_lt (Nat.lt_of_lt_of_le hi12 sl)))) (Nat.le_trans le sl)) (by decide)
          · have s2 := Same.new (o := .lst (vs ++ ys)) hp2
            have sall := (se.trans (sp.hid b)).trans (s2.hid b)
            refine ⟨p2, ds ++ es, vs ++ ys, _, rfl, sq.trans sall, bp.same s2, sall _ _ hcq, hid_up (bp.far hp2), Reps.append (rq.same sall) (re.same ((sp.hid b).trans (s2.hid b))), by rw [List.length_append]; omega, fun d m => ?_⟩
            rcases List.mem_append.mp m with m | m
            · exact mq d m
            · exact me d m
      · subst e
        rw [List.length_map] at lq
        refine ⟨_, rfl, c, _, rfl, .inl ⟨SqL.of (hid_get hcq).2, fun l hl => ?_⟩⟩
        have sl1 := Same.new (o := .tup (ss'.map V.str)) hl
        have bl1 := bq.same sl1
        refine ⟨_, rfl, q, vs, rfl, .inl ⟨SqL.of (sl1 _ _ (hid_get hq).2), fun l2 hl2 => ?_⟩⟩
        have sl2 := Same.new (o := .tup vs) hl2
        have bl2 := bl1.same sl2
        refine ⟨by show 2 ≤ sizeLine; decide, fun l3 hl3 => ?_⟩
        have sl3 := Same.new (o := .tup [.ref l, .ref l2]) hl3
        have bl3 := bl2.same sl3
        have s13 := (sl1.hid b).trans ((sl2.hid b).trans (sl3.hid b))
        refine k _ (.tuple [.tuple (ss'.map .str), .tuple ds]) _ (sq.trans s13) bl3 ⟨l3, _, rfl, hid_up (bl2.far hl3), .cons ?_ (.one ?_)⟩ ?_
        · exact ⟨l, _, rfl, ((sl2.hid b).trans (sl3.hid b)) _ _ (hid_up (bq.far hl)), strs_reps⟩
        · exact ⟨l2, _, rfl, (sl3.hid b) _ _ (hid_up (bl1.far hl2)), rq.same s13⟩
        · have o1 := (oks_words sw).mono (n' := 84) (m' := 1) (by omega) (by decide)
          have o2 := (oks_pairs mq).mono (n' := 2160) (m' := 1) (by omega) (by decide)
          have := (Oks.one (o1.tup (by decide))).append (Oks.one (o2.tup (by decide)))
          exact (this.mono (n' := 3000) (m' := 2) (by decide) (by decide)).tup (by decide)
end
end E2

set_option Elab.async false
set_option linter.all false
set_option maxRecDepth 100000
namespace L2
open PySem PySem.Spec PyProof.Rows
/-! ### a def from which an exception may fly -/
theorem Fun.okX {P : Program} {w : World} {K : PySem.W.Frag} {mg : Str → Option Value} {base : Heap} {x qual : Str} {st : Stmt} {f : Addr} {fd : FuncData} {N ps : List Str} {k : Nat} {sp : Sp} (F : Fun K x qual st f fd) (S : FnScope N ps (defScope st)) (len : ∀ vs H Q E, sp vs H Q E → vs.length = ps.length)
    (hbody : ∀ (cdv : Value) (A : Around) (outer : List Env) (s : Shared) (H : Hp) (vs : List V) (Q : VK) (E : XK), Room k (A.deeper (envOfC qual (defScope st) s.heap.objs.size f cdv)) → sp vs H Q E →
      ∃ t, PSs (cxOf (Fly P w) P w K mg base N qual (defScope st) f cdv A outer s H E) (defBody st) t ∧ t { nx := fun _ H' => Q .non H', rt := Q } (start N vs) H) : FnOk P w K mg base (Fly P w) (k + 1) f fd ps sp := by
  obtain ⟨oc, od, kV, doc, pm, an, cdv, ct, osl, rfl, lk, hcd⟩ := F.ex
  exact fn_of lk hcd S len fun A outer s H vs Q E hr hsp => hbody cdv A outer s H vs Q E hr hsp
structure HasFnX (P : Program) (w : World) (K : PySem.W.Frag) (mg : Str → Option Value) (base : Heap) (x : Str) (ps : List Str) (k : Nat) (sp : Sp) : Prop where
  ex : ∃ (f : Addr) (fd : FuncData), mg x = some (.ref f) ∧ PySem.W.keepIn K (.ref f) = true ∧ Binds K fd ps [] ∧ FnOk P w K mg base (Fly P w) k f fd ps sp
section
variable {X : Cx} {x : Str} {ps : List Str} {k : Nat} {sp : Sp} {e : Expr} {es : List Expr} {t : TA} {p pos : Pos}
theorem pe_fnX {E : XK} (F : HasFnX X.prog X.w X.K X.mg X.base x ps k sp) (hx : Passes (Fly X.prog X.w) X E) (hr : Room k X.A) (hg : Gl X x) (ha : PA X (e :: es) t) (hdb : (x == ("__debug__" : Str)) = false := by decide) (he : starEach (e :: es) X.env = (false, eval e X.env) :: starEach es X.env := by rfl)
    (hpl : (backTo pos (starEach es X.env)).any (·.1) = false := by rfl) : PE X (.Call (.Name x p) (e :: es) [] pos) (tCall sp [] E t) := by
  obtain ⟨f, fd, h1, h2, h3, h4⟩ := F.ex
  exact pe_call h4 hr hg h1 h2 h3 .nil hx ha hdb he hpl
/-- where nothing is raised -/
theorem pe_fnN (F : HasFnX X.prog X.w X.K X.mg X.base x ps k sp) (hr : Room k X.A) (hg : Gl X x) (ha : PA X (e :: es) t) (hdb : (x == ("__debug__" : Str)) = false := by decide) (he : starEach (e :: es) X.env = (false, eval e X.env) :: starEach es X.env := by rfl)
    (hpl : (backTo pos (starEach es X.env)).any (·.1) = false := by rfl) : PE X (.Call (.Name x p) (e :: es) [] pos) (tCall sp [] E0 t) :=
  pe_fnX F (fun _ _ _ _ _ _ _ ⟨_, _, _, _, _, _, _, _, _, _, _, _, _, h⟩ => h.elim) hr hg ha hdb he hpl
theorem vals_strz : ∀ {ss : List Str} {its : List Value} {z : Value}, Vals (ss.map V.str) its → z ∈ its → ∃ sx t, z = .str sx t
  | [], _, _, r, m => by cases r; cases m
  | s1 :: ss, _, _, r, m => by
    cases r with
    | cons r1 r2 =>
      rcases List.mem_cons.mp m with e | m
      · subst e; obtain ⟨t, rfl⟩ := r1; exact ⟨_, t, rfl⟩
      · exact vals_strz r2 m
/-- x not in t, t of texts, x data or a dict -/
def rNinD : R2 := fun x y H Q => rInT true x y H Q ∨ ∃ kvs, ∃ ss : List Str, Rep H (.dict kvs) x ∧ Rep H (.tuple (ss.map .str)) y ∧ Q (.bl true) H
theorem op_ninD (hr : Room k X.A) : OpR X (compareOp .NotIn) rNinD := by
  intro pins s σ H x y v u Q I rx ry h
  rcases h with h | ⟨kvs, ss, h1, h2, q⟩
  · exact op_ninT hr pins s σ H x y v u Q I rx ry h
  · obtain ⟨a, ks, rfl, ha, e⟩ := h1
    cases rx
    obtain ⟨_, ne, vs, rk, o, es, ep, ho, hx, hdd, _⟩ := I.hok a _ ha
    obtain ⟨b, us, rfl, hb, rs⟩ := h2
    cases ry
    obtain ⟨its, rv, ht, hz⟩ := I.tuple (SqT.of (K := X.K) hb)
    have hus : us = ss.map V.str := E2.reps_strs rs
    subst hus
    obtain ⟨oc, od, dat, osl⟩ := o
    have hc : oc = .type "dict" := hx.1
    cases hdd
    subst hc
    refine SeqAt.notIn_tupleAt (fun _ => false) ht (fun z hz' => ?_) ?_
    · have hz2 : z ∈ its := by simpa using hz'
      have : ∃ sx t, z = .str sx t := vals_strz rv hz2
      obtain ⟨sx, t, rfl⟩ := this
      exact SeqAt.EqAt.str_dct sx t ho (by have := hr.units; show X.A.units + 1 < cLine; omega)
    · have : its.toArray.any (fun _ => false) = false := by simp
      rw [this]
      exact ⟨.bl true, H, I, rfl, q⟩
end
end L2
namespace E2
open PySem L2
abbrev sChkW : Stmt := top 25
abbrev sChkN : Stmt := top 26
abbrev sStrikers : Stmt := top 27
abbrev sStruck : Stmt := top 28
abbrev bmVE : List Value := [.type "ValueError", .type "Exception", .type "BaseException", .type "object"]
abbrev newVE : String := "ValueError.__new__"
/-- data, or a dict of scalars -/
def Any (d : PyData) : Prop := Good d ∨ ∃ kvs, d = .dict kvs
def spChkW (CW : Addr) : Sp := fun vs H Q E => ∃ d v, vs = [v] ∧ Rep H d v ∧ Any d ∧ ∀ H', Same H H' → if isWeb d = true then Q .non H' else E (.ref CW) none H'
/-- a web of names ns with the strikes ps -/
def pairD (p : Str × Str) : PyData := .tuple [.str p.1, .str p.2]
def webD (ns : List Str) (ps : List (Str × Str)) : PyData := .tuple [.tuple (ns.map .str), .tuple (ps.map pairD)]
def nameIn (ns : List Str) (d : PyData) : Bool := match d with
  | .str x => decide (x ∈ ns)
  | _ => false
def spChkN (CN : Addr) : Sp := fun vs H Q E => ∃ ns ps d v u, vs = [v, u] ∧ Rep H (webD ns ps) v ∧ Good (webD ns ps) ∧ Rep H d u ∧ Any d ∧ ∀ H', Same H H' → if nameIn ns d = true then Q .non H' else E (.ref CN) none H'
section
variable {P : Program} {w : World} {K : PySem.W.Frag} {mg : Str → Option Value} {base : Heap} {CW CN : Addr}
theorem sc25 : FnScope ["thing"] ["thing"] (defScope sChkW) := ⟨rfl, rfl, rfl, by decide +kernel, rfl, by decide +kernel, by decide +kernel⟩
theorem ok_chkW {f : Addr} {fd : FuncData} (F : Fun K "check_web" "check_web" sChkW f fd) (C : XCls K mg "NoWeb" CW bmVE newVE) (FI : HasFn P w K mg base "is_web" ["thing"] 3 (spTop isWeb)) : FnOk P w K mg base (Fly P w) 4 f fd ["thing"] (spChkW CW) := by
  refine F.okX sc25 (fun vs H Q E h => ?_) (fun cdv A outer s H vs Q E hr h => ?_)
  · obtain ⟨_, _, rfl, _⟩ := h
    rfl
  · obtain ⟨d, v, rfl, h, g, k⟩ := h
    refine ⟨_, pss_one (ps_if (pt_not (pt_val (pe_fn FI hr (by rfl) (pa_cons (pv 0) pa_nil)))) (pss_one (ps_raise C PySem.F.excBase_ValueError hr.hd (by rfl) (pa_cons pe_str pa_nil))) pss_nil), ?_⟩
    refine ⟨_, rfl, d, v, rfl, h, g, fun H1 s1 => ⟨_, rfl, ?_⟩⟩
    have k1 := k H1 s1
    cases hw : isWeb d with
    | true =>
      rw [hw, if_pos rfl] at k1
      exact iteF k1
    | false =>
      rw [hw, if_neg (by decide)] at k1
      exact iteT ⟨by decide, k1⟩
theorem any_eqv_name {ns : List Str} {d : PyData} : ((ns.map PyData.str).any fun e => PyData.eqv e d) = nameIn ns d := by
  induction ns with
  | nil => cases d <;> simp [nameIn]
  | cons n ns ih =>
    rw [List.map_cons, List.any_cons, ih]
    cases d with
    | str x =>
      simp only [PyData.eqv, nameIn]
      by_cases e : n = x
      · subst e; simp
      · have e' : ¬ x = n := fun z => e z.symm
        simp [e, e']
    | _ => simp [PyData.eqv, nameIn]
theorem good_names {ns : List Str} {ps : List (Str × Str)} (g : Good (webD ns ps)) : Good (.tuple (ns.map .str)) := g.mem (by simp)
theorem good_pairs {ns : List Str} {ps : List (Str × Str)} (g : Good (webD ns ps)) : Good (.tuple (ps.map pairD)) := g.mem (by simp)
theorem sc26 : FnScope ["web", "thing"] ["web", "thing"] (defScope sChkN) := ⟨rfl, rfl, rfl, by decide +kernel, rfl, by decide +kernel, by decide +kernel⟩
theorem ok_chkN {f : Addr} {fd : FuncData} (F : Fun K "check_name" "check_name" sChkN f fd) (C : XCls K mg "NoName" CN bmVE newVE) : FnOk P w K mg base (Fly P w) 1 f fd ["web", "thing"] (spChkN CN) := by
  refine F.okX sc26 (fun vs H Q E h => ?_) (fun cdv A outer s H vs Q E hr h => ?_)
  · obtain ⟨_, _, _, _, _, rfl, _⟩ := h
    rfl
  · obtain ⟨ns, ps, d, v, u, rfl, h, g, hd, gd, k⟩ := h
    refine ⟨_, pss_one (ps_if (pt_cmpR (op_ninD hr) (pv 1) (pe_ix ix_tup (pv 0) pe_int (fun _ _ => rfl)) (by with_unfolding_all rfl)) (pss_one (ps_raise C PySem.F.excBase_ValueError hr.hd (by rfl) (pa_cons pe_str pa_nil))) pss_nil), ?_⟩
    obtain ⟨a, xs, rfl, ha, x1, r1, rfl, hx, y1, r2, rfl, hy, e3⟩ := id h
    cases e3
    refine ⟨_, rfl, _, rfl, a, _, 0, x1, rfl, rfl, SqT.of ha, atI_0 _ _, ?_⟩
    have k1 := k H (Same.refl H)
    have fin : ∀ b, b = !nameIn ns d → (if b = true then (E (.ref CN) none H) else Q .non H) := fun b e => by
      cases hn : nameIn ns d with
      | true => rw [hn] at e k1; subst e; rw [if_pos rfl] at k1; rw [if_neg (by decide)]; exact k1
      | false => rw [hn] at e k1; subst e; rw [if_neg (by decide)] at k1; rw [if_pos (by rfl)]; exact k1
    rcases gd with gd | ⟨kvs, rfl⟩
    · refine .inl ⟨d, ns.map .str, hd, hx, gd.ok, (good_names g).ok, _, rfl, ?_⟩
      rw [any_eqv_name, Bool.true_xor]
      have := fin _ rfl
      revert this
      cases nameIn ns d <;> intro this <;> first | exact iteT ⟨by decide, this⟩ | exact iteF this
    · refine .inr ⟨kvs, ns, hd, hx, _, rfl, ?_⟩
      have := fin true rfl
      exact iteT ⟨by decide, this⟩
end
end E2

set_option Elab.async false
set_option linter.all false
set_option maxRecDepth 100000
namespace E2
open PySem L2
def strikersOf (ps : List (Str × Str)) (x : Str) : List Str := (ps.filter fun p => decide (p.2 = x)).map (·.1)
def struckOf (ps : List (Str × Str)) (x : Str) : List Str := (ps.filter fun p => decide (p.1 = x)).map (·.2)
def spStk (CW CN : Addr) (sel : List (Str × Str) → Str → List Str) : Sp := fun vs H Q E => ∃ d nd v u, vs = [v, u] ∧ Rep H d v ∧ Any d ∧ Rep H nd u ∧ Any nd ∧ (isWeb d = false → ∀ H', Same H H' → E (.ref CW) none H') ∧
  ∀ ns ps, isWeb d = true → d = webD ns ps → (nameIn ns nd = false → ∀ H', Same H H' → E (.ref CN) none H') ∧ ∀ x, nd = .str x → x ∈ ns → ∀ H' l, Same H H' → H' l = none → Q (.ref l) (upd H' l (.lst ((sel ps x).map V.str)))
theorem names_inv {ds : List PyData} (h : ds.all isName = true) : ∃ ns : List Str, ds = ns.map .str := by
  induction ds with
  | nil => exact ⟨[], rfl⟩
  | cons d ds ih =>
    rw [List.all_cons, Bool.and_eq_true] at h
    obtain ⟨x, rfl⟩ := isName_inv h.1
    obtain ⟨ns, rfl⟩ := ih h.2
    exact ⟨x :: ns, rfl⟩
theorem pairs_inv {ds : List PyData} {es : List PyData} (hn : ds.all isName = true) (h : es.all (isStrike ds) = true) : ∃ ps : List (Str × Str), es = ps.map pairD := by
  induction es with
  | nil => exact ⟨[], rfl⟩
  | cons e es ih =>
    rw [List.all_cons, Bool.and_eq_true] at h
    obtain ⟨ps, rfl⟩ := ih h.2
    obtain ⟨ss, hss⟩ := strike_inv hn h.1
    subst hss
    have h1 := h.1
    match ss with
    | [a, b] => exact ⟨(a, b) :: ps, rfl⟩
    | [] => simp [isStrike] at h1
    | [_] => simp [isStrike] at h1
    | _ :: _ :: _ :: _ => simp [isStrike] at h1
theorem isWeb_inv {d : PyData} (h : isWeb d = true) : ∃ ns ps, d = webD ns ps := by
  cases d with
  | tuple es =>
    match es, h with
    | [], h => exact absurd h (by simp [isWeb])
    | [_], h => exact absurd h (by simp [isWeb])
    | _ :: _ :: _ :: _, h => exact absurd h (by simp [isWeb])
    | [a, b], h =>
      simp only [isWeb, Bool.and_eq_true] at h
      obtain ⟨ds, rfl, hn⟩ := areNames_inv h.1
      obtain ⟨ns, rfl⟩ := names_inv hn
      cases b with
      | tuple es2 =>
        have h2 := h.2
        simp only [areStrikes, Bool.and_eq_true] at h2
        obtain ⟨ps, rfl⟩ := pairs_inv hn h2.1
        exact ⟨ns, ps, rfl⟩
      | _ => simp [areStrikes] at h
  | _ => simp [isWeb] at h
theorem webD_inj {ns ns' : List Str} {ps ps' : List (Str × Str)} (h : webD ns ps = webD ns' ps') : ns = ns' ∧ ps = ps' := by
  unfold webD at h
  injection h with h
  injection h with h1 h2
  injection h2 with h2 _
  injection h1 with h1
  injection h2 with h2
  have i1 : ∀ {a b : List Str}, a.map PyData.str = b.map PyData.str → a = b := fun {a b} e => by
    have := congrArg (List.map fun d => match d with | PyData.str x => x | _ => "") e
    simpa [List.map_map, Function.comp_def] using this
  have i2 : ∀ {a b : List (Str × Str)}, a.map pairD = b.map pairD → a = b := fun {a b} e => by
    have := congrArg (List.map fun d => match d with | PyData.tuple [.str x, .str y] => (x, y) | _ => ("", "")) e
    simpa [List.map_map, Function.comp_def, pairD] using this
  exact ⟨i1 h1, i2 h2⟩
theorem dec_str (a b : Str) : decide (V.str a = V.str b) = decide (a = b) := by
  rw [decide_eq_decide]
  constructor
  · intro h; injection h
  · intro h; rw [h]
section
variable {P : Program} {w : World} {K : PySem.W.Frag} {mg : Str → Option Value} {base : Heap} {CW CN : Addr}
theorem pairs_get {H : Hp} {ps : List (Str × Str)} {xs : List V} {i : Nat} {x : V} (r : Reps H (ps.map pairD) xs) (h : xs[i]? = some x) : ∃ a b p, ps[i]? = some (a, b) ∧ x = .ref p ∧ H p = some (.tup [.str a, .str b]) := by
  have hl : xs.length = ps.length := by have := r.length; rw [List.length_map] at this; exact this
  have hi : i < ps.length := by rw [← hl]; exact (List.getElem?_eq_some_iff.mp h).1
  have e1 : (ps.map pairD)[i]? = some (pairD ps[i]) := by simp [hi]
  obtain ⟨v, ev, rv⟩ := r.get' e1
  rw [h] at ev
  cases ev
  obtain ⟨p, ys, rfl, hp, rs⟩ := rv
  have : ys = [.str ps[i].1, .str ps[i].2] := reps_strs (ns := [ps[i].1, ps[i].2]) rs
  subst this
  exact ⟨ps[i].1, ps[i].2, p, by simp [hi], rfl, hp⟩
theorem sc27 : FnScope ["web", "name"] ["web", "name"] (defScope sStrikers) := ⟨rfl, rfl, rfl, by decide +kernel, rfl, by decide +kernel, by decide +kernel⟩
theorem sc28 : FnScope ["web", "name"] ["web", "name"] (defScope sStruck) := ⟨rfl, rfl, rfl, by decide +kernel, rfl, by decide +kernel, by decide +kernel⟩
theorem nd27 : (["one", "other", "web", "name"] : List Str).Nodup := by decide +kernel
theorem ok_strikers {f : Addr} {fd : FuncData} (F : Fun K "strikers" "strikers" sStrikers f fd) (FW : HasFnX P w K mg base "check_web" ["thing"] 4 (spChkW CW)) (FN : HasFnX P w K mg base "check_name" ["web", "thing"] 1 (spChkN CN)) :
    FnOk P w K mg base (Fly P w) 5 f fd ["web", "name"] (spStk CW CN strikersOf) := by
  refine F.okX sc27 (fun vs H Q E h => ?_) (fun cdv A outer s H vs Q E hr h => ?_)
  · obtain ⟨_, _, _, _, rfl, _⟩ := h
    rfl
  · obtain ⟨d, nd, v, u, rfl, h, g, hn, gn, k1, k2⟩ := h
    have hr1 : Room 1 (A.deeper _) := hr.mono (by decide)
    refine ⟨_, pss_cons (ps_expr (pe_fnX FW fly_pass hr (by rfl) (pa_cons (pv 0) pa_nil))) (pss_cons (ps_expr (pe_fnX FN fly_pass hr1 (by rfl) (pa_cons (pv 0) (pa_cons (pv 1) pa_nil))))
      (pss_one (ps_ret (pe_comp ["one", "other"] rfl rfl (pi_tup (pe_ix ix_tup (pv 0) pe_int (fun _ _ => rfl))) (fun _ _ _ _ _ => pg_pair K 0 1 nd27 rfl rfl rfl rfl (Or.inl rfl) (Or.inl rfl) rfl rfl) (fun _ _ _ _ _ => pts_one (pt_cmpR op_eq (pv 1) (pv 3) (nomark _))) (fun _ _ _ _ _ => pv 0))))), ?_⟩
    refine ⟨_, rfl, d, v, rfl, h, g, fun H1 s1 => ?_⟩
    cases hw : isWeb d with
    | false => rw [if_neg (by decide)]; exact k1 hw H1 s1
    | true =>
      rw [if_pos rfl]
      obtain ⟨ns, ps, rfl⟩ := isWeb_inv hw
      obtain ⟨q1, q2⟩ := k2 ns ps hw rfl
      have gw : Good (webD ns ps) := g.elim id fun ⟨kvs, e⟩ => by cases e
      refine ⟨_, rfl, _, rfl, ns, ps, nd, v, u, rfl, h.same s1, gw, hn.same s1, gn, fun H2 s2 => ?_⟩
      cases hnn : nameIn ns nd with
      | false => rw [if_neg (by decide)]; exact q1 hnn H2 (s1.trans s2)
      | true =>
        rw [if_pos rfl]
        obtain ⟨x, rfl⟩ : ∃ x, nd = .str x := by cases nd <;> first | exact ⟨_, rfl⟩ | simp [nameIn] at hnn
        have hx : x ∈ ns := by simpa [nameIn] using hnn
        have hu : u = .str x := hn
        subst hu
        have h2 := h.same (s1.trans s2)
        obtain ⟨a, xs, rfl, ha, x1, r1, rfl, hx1, y1, r2, rfl, hy1, e3⟩ := id h2
        cases e3
        obtain ⟨b, zs, rfl, hb, rz⟩ := id hy1
        have lz : zs.length = ps.length := by have := rz.length; rw [List.length_map] at this; exact this
        have hmx : ps.length ≤ 100000 := by have := (fine_tup (good_pairs gw).f).2; rw [List.length_map] at this; exact this
        refine ⟨_, rfl, a, _, 1, .ref b, rfl, rfl, SqT.of ha, atI_1 _ _ _, b, rfl, ⟨_, SqT.of hb⟩, comp_tup (xs := zs) (fun i ys H' => H' = H2 ∧ ys = (strikersOf (ps.take i) x).map V.str) ⟨rfl, rfl⟩ (fun i ys H' hi ⟨e1, e2⟩ => ⟨by rw [e1]; exact SqT.of hb, ?_⟩) (fun i z ys H' hz ⟨e1, e2⟩ => ?_) fun ys H' ⟨e1, e2⟩ l hl => ?_⟩
        · rw [e2, List.length_map]
          unfold strikersOf
          rw [List.length_map]
          refine Nat.le_trans (List.length_filter_le _ _) ?_
          rw [List.length_take]
          exact Nat.le_trans (Nat.min_le_right _ _) (Nat.le_trans hmx (by decide))
        · subst e1
          obtain ⟨p1, p2, pa, ep, rfl, hp⟩ := pairs_get rz hz
          refine ⟨pa, _, rfl, SqT.of hp, rfl, _, _, rfl, _, [], rfl, rfl, _, rfl, _, rfl, rfl, _, rfl, ?_⟩
          rw [dec_str]
          have et : ps.take (i + 1) = ps.take i ++ [(p1, p2)] := take_snoc _ _ _ ep
          refine ite2 (fun c => ⟨_, rfl, rfl, ?_⟩) (fun c => ⟨rfl, ?_⟩)
          · rw [e2, et]
            unfold strikersOf
            rw [List.filter_append, List.map_append, List.map_append, List.filter_cons_of_pos (by simpa using c)]
            rfl
          · rw [e2, et]
            unfold strikersOf
            rw [List.filter_append, List.map_append, List.filter_cons_of_neg (by simpa using c)]
            simp
        · subst e1
          rw [e2, List.take_of_length_le (by rw [lz]; exact Nat.le_refl _)]
          exact q2 x rfl hx _ l (s1.trans s2) hl
theorem ok_struck {f : Addr} {fd : FuncData} (F : Fun K "struck" "struck" sStruck f fd) (FW : HasFnX P w K mg base "check_web" ["thing"] 4 (spChkW CW)) (FN : HasFnX P w K mg base "check_name" ["web", "thing"] 1 (spChkN CN)) :
    FnOk P w K mg base (Fly P w) 5 f fd ["web", "name"] (spStk CW CN struckOf) := by
  refine F.okX sc28 (fun vs H Q E h => ?_) (fun cdv A outer s H vs Q E hr h => ?_)
  · obtain ⟨_, _, _, _, rfl, _⟩ := h
    rfl
  · obtain ⟨d, nd, v, u, rfl, h, g, hn, gn, k1, k2⟩ := h
    have hr1 : Room 1 (A.deeper _) := hr.mono (by decide)
    refine ⟨_, pss_cons (ps_expr (pe_fnX FW fly_pass hr (by rfl) (pa_cons (pv 0) pa_nil))) (pss_cons (ps_expr (pe_fnX FN fly_pass hr1 (by rfl) (pa_cons (pv 0) (pa_cons (pv 1) pa_nil))))
      (pss_one (ps_ret (pe_comp ["one", "other"] rfl rfl (pi_tup (pe_ix ix_tup (pv 0) pe_int (fun _ _ => rfl))) (fun _ _ _ _ _ => pg_pair K 0 1 nd27 rfl rfl rfl rfl (Or.inl rfl) (Or.inl rfl) rfl rfl) (fun _ _ _ _ _ => pts_one (pt_cmpR op_eq (pv 0) (pv 3) (nomark _))) (fun _ _ _ _ _ => pv 1))))), ?_⟩
    refine ⟨_, rfl, d, v, rfl, h, g, fun H1 s1 => ?_⟩
    cases hw : isWeb d with
    | false => rw [if_neg (by decide)]; exact k1 hw H1 s1
    | true =>
      rw [if_pos rfl]
      obtain ⟨ns, ps, rfl⟩ := isWeb_inv hw
      obtain ⟨q1, q2⟩ := k2 ns ps hw rfl
      have gw : Good (webD ns ps) := g.elim id fun ⟨kvs, e⟩ => by cases e
      refine ⟨_, rfl, _, rfl, ns, ps, nd, v, u, rfl, h.same s1, gw, hn.same s1, gn, fun H2 s2 => ?_⟩
      cases hnn : nameIn ns nd with
      | false => rw [if_neg (by decide)]; exact q1 hnn H2 (s1.trans s2)
      | true =>
        rw [if_pos rfl]
        obtain ⟨x, rfl⟩ : ∃ x, nd = .str x := by cases nd <;> first | exact ⟨_, rfl⟩ | simp [nameIn] at hnn
        have hx : x ∈ ns := by simpa [nameIn] using hnn
        have hu : u = .str x := hn
        subst hu
        have h2 := h.same (s1.trans s2)
        obtain ⟨a, xs, rfl, ha, x1, r1, rfl, hx1, y1, r2, rfl, hy1, e3⟩ := id h2
        cases e3
        obtain ⟨b, zs, rfl, hb, rz⟩ := id hy1
        have lz : zs.length = ps.length := by have := rz.length; rw [List.length_map] at this; exact this
        have hmx : ps.length ≤ 100000 := by have := (fine_tup (good_pairs gw).f).2; rw [List.length_map] at this; exact this
        refine ⟨_, rfl, a, _, 1, .ref b, rfl, rfl, SqT.of ha, atI_1 _ _ _, b, rfl, ⟨_, SqT.of hb⟩, comp_tup (xs := zs) (fun i ys H' => H' = H2 ∧ ys = (struckOf (ps.take i) x).map V.str) ⟨rfl, rfl⟩ (fun i ys H' hi ⟨e1, e2⟩ => ⟨by rw [e1]; exact SqT.of hb, ?_⟩) (fun i z ys H' hz ⟨e1, e2⟩ => ?_) fun ys H' ⟨e1, e2⟩ l hl => ?_⟩
        · rw [e2, List.length_map]
          unfold struckOf
          rw [List.length_map]
          refine Nat.le_trans (List.length_filter_le _ _) ?_
          rw [List.length_take]
          exact Nat.le_trans (Nat.min_le_right _ _) (Nat.le_trans hmx (by decide))
        · subst e1
          obtain ⟨p1, p2, pa, ep, rfl, hp⟩ := pairs_get rz hz
          refine ⟨pa, _, rfl, SqT.of hp, rfl, _, _, rfl, _, [], rfl, rfl, _, rfl, _, rfl, rfl, _, rfl, ?_⟩
          rw [dec_str]
          have et : ps.take (i + 1) = ps.take i ++ [(p1, p2)] := take_snoc _ _ _ ep
          refine ite2 (fun c => ⟨_, rfl, rfl, ?_⟩) (fun c => ⟨rfl, ?_⟩)
          · rw [e2, et]
            unfold struckOf
            rw [List.filter_append, List.map_append, List.map_append, List.filter_cons_of_pos (by simpa using c)]
            rfl
          · rw [e2, et]
            unfold struckOf
            rw [List.filter_append, List.map_append, List.filter_cons_of_neg (by simpa using c)]
            simp
        · subst e1
          rw [e2, List.take_of_length_le (by rw [lz]; exact Nat.le_refl _)]
          exact q2 x rfl hx _ l (s1.trans s2) hl
end
end E2

set_option Elab.async false
set_option linter.all false
set_option maxRecDepth 100000
namespace E2
open PySem L2
abbrev sWhich : Stmt := top 35
abbrev sSaid : Stmt := top 36
/-- the fourteen classes of refusals, in the order of the law's words -/
structure Clss (mg : Str → Option Value) (cs : Nat → Addr) : Prop where
  ve : mg "ValueError" = none
  m0 : mg "NoWeb" = some (.ref (cs 0))
  m1 : mg "NoLot" = some (.ref (cs 1))
  m2 : mg "NoName" = some (.ref (cs 2))
  m3 : mg "NoKind" = some (.ref (cs 3))
  m4 : mg "NoPair" = some (.ref (cs 4))
  m5 : mg "NoChanges" = some (.ref (cs 5))
  m6 : mg "NoCount" = some (.ref (cs 6))
  m7 : mg "NoShut" = some (.ref (cs 7))
  m8 : mg "NoWay" = some (.ref (cs 8))
  m9 : mg "NoJoint" = some (.ref (cs 9))
  m10 : mg "NoSide" = some (.ref (cs 10))
  m11 : mg "NoDeed" = some (.ref (cs 11))
  m12 : mg "TooMany" = some (.ref (cs 12))
  m13 : mg "NoText" = some (.ref (cs 13))
/-- D is the class at place j alone, and a ValueError -/
structure Kind (K : PySem.W.Frag) (cs : Nat → Addr) (D : Addr) (j : Nat) : Prop where
  ec : ECls K D
  lt : j < 12
  k : ∀ i, i < 14 → PySem.W.kitOne K (.ref D) (.ref (cs i)) = some (decide (i = j))
  v : PySem.W.kitOne K (.ref D) (.type "ValueError") = some true
def marks (j : Nat) : List Bool := [decide (0 = j), decide (1 = j), decide (2 = j), decide (3 = j), decide (4 = j), decide (5 = j), decide (6 = j), decide (7 = j), decide (8 = j), decide (9 = j), decide (10 = j), decide (11 = j), decide (12 = j), decide (13 = j)]
theorem marks_ok : ∀ j, j < 12 → (marks j).countP (fun b => b) = 1 ∧ (marks j)[j]? = some true ∧ (∀ m, m < j → (marks j)[m]? = some false) ∧ (marks j)[12]? = some false ∧ (marks j)[13]? = some false := by decide
def wordsL : List Str := ["web", "lot", "name", "kind", "pair", "changes", "count", "shut", "way", "joint", "side", "deed"]
def wordAt (j : Nat) : Str := wordsL.getD j ""
theorem words_get : ∀ j, j < 12 → (wordsL ++ (["many", "text"] : List Str))[j]? = some (wordAt j) := by decide +kernel
def spWhich (K : PySem.W.Frag) (cs : Nat → Addr) : Sp := fun vs H Q _ => ∃ a D j, vs = [.ref a] ∧ H a = some (.ext (isClsAt a (.ref D))) ∧ Kind K cs D j ∧ ∀ H' t, Same H H' → H' t = none → Q (.ref t) (upd H' t (.tup [.str (wordAt j)]))
@[irreducible] def stX : Stmt := nth (defBody sWhich) 6
@[irreducible] def eX : Expr := asgVal stX
@[irreducible] def esX : List Expr := lstOf eX
@[irreducible] def pX : Pos := asgPos stX
@[irreducible] def qX : Pos := asgTo stX
@[irreducible] def lX : Pos := lstPos eX
abbrev preX : List Stmt := (defBody sWhich).take 6
abbrev sufX : List Stmt := (defBody sWhich).drop 7
theorem stX_eq : stX = .Assign [.Name "_law_words" qX] eX pX := by kernel_rfl
theorem eX_eq : eX = .List esX lX := by kernel_rfl
theorem litX : Lit 4 eX (.list (wordsL.map .str)) := Lit.of (by kernel_rfl)
abbrev x0 : Stmt := nth (defBody sWhich) 0
abbrev x1 : Stmt := nth (defBody sWhich) 1
abbrev x2 : Stmt := nth (defBody sWhich) 2
abbrev x3 : Stmt := nth (defBody sWhich) 3
abbrev x4 : Stmt := nth (defBody sWhich) 4
abbrev x5 : Stmt := nth (defBody sWhich) 5
abbrev x7 : Stmt := nth (defBody sWhich) 7
theorem bodyX : defBody sWhich = [x0, x1, x2, x3, x4, x5, stX, x7] := by kernel_rfl
theorem sc35 : FnScope ["_law_e", "_law_some", "_law_words"] ["_law_e"] (defScope sWhich) := ⟨rfl, rfl, rfl, by decide +kernel, rfl, by decide +kernel, by decide +kernel⟩
theorem bt_VE : bootBuiltins "ValueError" = some (.type "ValueError") := by decide +kernel
section
variable {P : Program} {w : World} {K : PySem.W.Frag} {mg : Str → Option Value} {base : Heap} {cs : Nat → Addr}
theorem pe_isE {X : Cx} {x : Str} {C : Addr} {p p1 p2 pos : Pos} (K : PySem.W.Frag) (hK : X.K = K) (B : Bl X.mg) (hN : X.N[0]? = some ("_law_e" : Str)) (hv : Vis X.env.scope "_law_e") (hm : X.mg x = some (.ref C)) (g1 : Gl X "isinstance") (g2 : Gl X x) (hd : (x == ("__debug__" : Str)) = false)
    (h1 : starEach [.Name "_law_e" p1, .Name x p2] X.env = (false, eval (.Name "_law_e" p1) X.env) :: starEach [.Name x p2] X.env) (h2 : starEach [.Name x p2] X.env = (false, eval (.Name x p2) X.env) :: starEach [] X.env) (h3 : (backTo pos (starEach [.Name x p2] X.env)).any (·.1) = false) :
    PE X (.Call (.Name "isinstance" p) [.Name "_law_e" p1, .Name x p2] [] pos) (tCB (rIsiE K) (tCons (tVar 0) (tCons (tC (.ref C)) tNil))) := by
  subst hK
  exact pe_callB call_isiE g1 (B _ (by decide)) bt_isinstance (pa_cons (pe_var hN hv (by decide) (by decide)) (pa_cons (pe_glob g2 hm rfl hd) pa_nil h2) h1) (by decide) (by decide) h1 h3
set_option maxHeartbeats 2000000 in
theorem ok_which {f : Addr} {fd : FuncData} (F : Fun K "_law_which" "_law_which" sWhich f fd) (T : Txt mg) (C : Clss mg cs) : FnOkH P w K mg base 1 f fd ["_law_e"] (spWhich K cs) := by
  refine F.okH sc35 (fun vs H Q E h => ?_) (fun cdv A outer s H vs Q E hr h => ?_)
  · obtain ⟨_, _, _, rfl, _⟩ := h
    rfl
  · obtain ⟨a, D, j, rfl, ha, kd, k⟩ := h
    rw [bodyX]
    refine ⟨_, (pss_cons (st := x0) (ps_set (i := 1) sc35.nd rfl (Or.inl rfl) (pe_lst (pa_cons (pe_isE K rfl T.b rfl (Or.inl rfl) C.m0 (by rfl) (by rfl) (by decide) (by rfl) (by rfl) (by rfl)) (pa_cons (pe_isE K rfl T.b rfl (Or.inl rfl) C.m1 (by rfl) (by rfl) (by decide) (by rfl) (by rfl) (by rfl)) (pa_cons (pe_isE K rfl T.b rfl (Or.inl rfl) C.m2 (by rfl) (by rfl) (by decide) (by rfl) (by rfl) (by rfl)) (pa_cons (pe_isE K rfl T.b rfl (Or.inl rfl) C.m3 (by rfl) (by rfl) (by decide) (by rfl) (by rfl) (by rfl)) pa_nil))))))
      (pss_cons (st := x1) (ps_set (i := 1) sc35.nd rfl (Or.inl rfl) (pe_op op_cat (pv 1) (pe_lst (pa_cons (pe_isE K rfl T.b rfl (Or.inl rfl) C.m4 (by rfl) (by rfl) (by decide) (by rfl) (by rfl) (by rfl)) (pa_cons (pe_isE K rfl T.b rfl (Or.inl rfl) C.m5 (by rfl) (by rfl) (by decide) (by rfl) (by rfl) (by rfl)) (pa_cons (pe_isE K rfl T.b rfl (Or.inl rfl) C.m6 (by rfl) (by rfl) (by decide) (by rfl) (by rfl) (by rfl)) (pa_cons (pe_isE K rfl T.b rfl (Or.inl rfl) C.m7 (by rfl) (by rfl) (by decide) (by rfl) (by rfl) (by rfl)) pa_nil)))))))
      (pss_cons (st := x2) (ps_set (i := 1) sc35.nd rfl (Or.inl rfl) (pe_op op_cat (pv 1) (pe_lst (pa_cons (pe_isE K rfl T.b rfl (Or.inl rfl) C.m8 (by rfl) (by rfl) (by decide) (by rfl) (by rfl) (by rfl)) (pa_cons (pe_isE K rfl T.b rfl (Or.inl rfl) C.m9 (by rfl) (by rfl) (by decide) (by rfl) (by rfl) (by rfl)) (pa_cons (pe_isE K rfl T.b rfl (Or.inl rfl) C.m10 (by rfl) (by rfl) (by decide) (by rfl) (by rfl) (by rfl)) (pa_cons (pe_isE K rfl T.b rfl (Or.inl rfl) C.m11 (by rfl) (by rfl) (by decide) (by rfl) (by rfl) (by rfl)) pa_nil)))))))
      (pss_cons (st := x3) (ps_set (i := 1) sc35.nd rfl (Or.inl rfl) (pe_op op_cat (pv 1) (pe_lst (pa_cons (pe_isE K rfl T.b rfl (Or.inl rfl) C.m12 (by rfl) (by rfl) (by decide) (by rfl) (by rfl) (by rfl)) (pa_cons (pe_isE K rfl T.b rfl (Or.inl rfl) C.m13 (by rfl) (by rfl) (by decide) (by rfl) (by rfl) (by rfl)) pa_nil)))))
      (pss_cons (st := x4) (ps_if (PW.pt (pw_or (pt_not (pt_val (pe_callB call_isiE (by rfl) (T.b _ (by decide)) bt_isinstance (pa_cons (pv 0) (pa_cons (pe_bltn (v := .ty "ValueError") (by rfl) C.ve bt_VE rfl) pa_nil))))) (pw_or1 (pt_cmpR op_ne (pe_bm PySem.F.plainAttrs_list PySem.F.slot_list_count PySem.F.type_list_count mt_countB (pv 1) (pa_cons pe_bl pa_nil)) pe_int (nomark _))))) (pss_one (ps_ret (pe_tup (pa_cons pe_str pa_nil)))) pss_nil)
      (pss_cons (st := x5) (ps_if (pt_val (pe_ix ix_list (pv 1) pe_int (fun _ _ => rfl))) (pss_one (ps_ret pe_never)) pss_nil)
      (pss_cons (st := stX) (t := tAsg (tLit (.list (wordsL.map .str))) (gName 2)) (by rw [stX_eq]; exact ps_lit eX_eq litX sc35.nd rfl (Or.inl rfl) rfl)
      (pss_one (st := x7) (ps_ret (pe_ifExp (pt_val (pe_ix ix_list (pv 1) pe_int (fun _ _ => rfl))) pe_never (pe_tup (pa_cons (pe_ix ix_list (pe_op op_cat (pv 2) (pe_lst (pa_cons pe_str (pa_cons pe_str pa_nil)))) (pe_bm PySem.F.plainAttrs_list PySem.F.slot_list_index PySem.F.type_list_index mt_indexB (pv 1) (pa_cons pe_bl pa_nil)) (fun _ _ => rfl)) pa_nil)))))))))))), ?_⟩
    obtain ⟨mk1, mk2, mk3, mk4, mk5⟩ := marks_ok j kd.lt
    refine ⟨_, rfl, a, D, _, _, _, rfl, rfl, ha, kd.ec, kd.k 0 (by decide), _, rfl, a, D, _, _, _, rfl, rfl, ha, kd.ec, kd.k 1 (by decide), _, rfl, a, D, _, _, _, rfl, rfl, ha, kd.ec, kd.k 2 (by decide), _, rfl, a, D, _, _, _, rfl, rfl, ha, kd.ec, kd.k 3 (by decide), by show 4 ≤ sizeLine; decide, fun p0 hp0 => ?_⟩
    have s0 := Same.new (o := .lst [.bl (decide (0 = j)), .bl (decide (1 = j)), .bl (decide (2 = j)), .bl (decide (3 = j))]) hp0
    have ha0 := s0 _ _ ha
    have hl0 : upd H p0 (.lst [.bl (decide (0 = j)), .bl (decide (1 = j)), .bl (decide (2 = j)), .bl (decide (3 = j))]) p0 = some (.lst [.bl (decide (0 = j)), .bl (decide (1 = j)), .bl (decide (2 = j)), .bl (decide (3 = j))]) := upd_same
    generalize upd H p0 (.lst [.bl (decide (0 = j)), .bl (decide (1 = j)), .bl (decide (2 = j)), .bl (decide (3 = j))]) = H0 at s0 ha0 hl0 ⊢
    refine ⟨_, rfl, _, rfl, a, D, _, _, _, rfl, rfl, ha0, kd.ec, kd.k 4 (by decide), _, rfl, a, D, _, _, _, rfl, rfl, ha0, kd.ec, kd.k 5 (by decide), _, rfl, a, D, _, _, _, rfl, rfl, ha0, kd.ec, kd.k 6 (by decide), _, rfl, a, D, _, _, _, rfl, rfl, ha0, kd.ec, kd.k 7 (by decide), by show 4 ≤ sizeLine; decide, fun r1 hr1 => ⟨p0, r1, _, _, rfl, rfl, (Same.new hr1) _ _ hl0, upd_same, by show 8 ≤ sizeLine; decide, fun p1 hp1 => ?_⟩⟩
    have t1 : Same H (upd (upd H0 r1 (.lst [.bl (decide (4 = j)), .bl (decide (5 = j)), .bl (decide (6 = j)), .bl (decide (7 = j))])) p1 (.lst ([.bl (decide (0 = j)), .bl (decide (1 = j)), .bl (decide (2 = j)), .bl (decide (3 = j))] ++ [.bl (decide (4 = j)), .bl (decide (5 = j)), .bl (decide (6 = j)), .bl (decide (7 = j))]))) := (s0.trans (Same.new hr1)).trans (Same.new hp1)
    have ha1 := t1 _ _ ha
    have hl1 : upd (upd H0 r1 (.lst [.bl (decide (4 = j)), .bl (decide (5 = j)), .bl (decide (6 = j)), .bl (decide (7 = j))])) p1 (.lst ([.bl (decide (0 = j)), .bl (decide (1 = j)), .bl (decide (2 = j)), .bl (decide (3 = j))] ++ [.bl (decide (4 = j)), .bl (decide (5 = j)), .bl (decide (6 = j)), .bl (decide (7 = j))])) p1 = some (.lst ([.bl (decide (0 = j)), .bl (decide (1 = j)), .bl (decide (2 = j)), .bl (decide (3 = j))] ++ [.bl (decide (4 = j)), .bl (decide (5 = j)), .bl (decide (6 = j)), .bl (decide (7 = j))])) := upd_same
    generalize upd (upd H0 r1 (.lst [.bl (decide (4 = j)), .bl (decide (5 = j)), .bl (decide (6 = j)), .bl (decide (7 = j))])) p1 (.lst ([.bl (decide (0 = j)), .bl (decide (1 = j)), .bl (decide (2 = j)), .bl (decide (3 = j))] ++ [.bl (decide (4 = j)), .bl (decide (5 = j)), .bl (decide (6 = j)), .bl (decide (7 = j))])) = H1 at t1 ha1 hl1 ⊢
    refine ⟨_, rfl, _, rfl, a, D, _, _, _, rfl, rfl, ha1, kd.ec, kd.k 8 (by decide), _, rfl, a, D, _, _, _, rfl, rfl, ha1, kd.ec, kd.k 9 (by decide), _, rfl, a, D, _, _, _, rfl, rfl, ha1, kd.ec, kd.k 10 (by decide), _, rfl, a, D, _, _, _, rfl, rfl, ha1, kd.ec, kd.k 11 (by decide), by show 4 ≤ sizeLine; decide, fun r2 hr2 => ⟨p1, r2, _, _, rfl, rfl, (Same.new hr2) _ _ hl1, upd_same, by show 12 ≤ sizeLine; decide, fun p2 hp2 => ?_⟩⟩
    have t2 : Same H (upd (upd H1 r2 (.lst [.bl (decide (8 = j)), .bl (decide (9 = j)), .bl (decide (10 = j)), .bl (decide (11 = j))])) p2 (.lst (([.bl (decide (0 = j)), .bl (decide (1 = j)), .bl (decide (2 = j)), .bl (decide (3 = j))] ++ [.bl (decide (4 = j)), .bl (decide (5 = j)), .bl (decide (6 = j)), .bl (decide (7 = j))]) ++ [.bl (decide (8 = j)), .bl (decide (9 = j)), .bl (decide (10 = j)), .bl (decide (11 = j))]))) := (t1.trans (Same.new hr2)).trans (Same.new hp2)
    have ha2 := t2 _ _ ha
    have hl2 : upd (upd H1 r2 (.lst [.bl (decide (8 = j)), .bl (decide (9 = j)), .bl (decide (10 = j)), .bl (decide (11 = j))])) p2 (.lst (([.bl (decide (0 = j)), .bl (decide (1 = j)), .bl (decide (2 = j)), .bl (decide (3 = j))] ++ [.bl (decide (4 = j)), .bl (decide (5 = j)), .bl (decide (6 = j)), .bl (decide (7 = j))]) ++ [.bl (decide (8 = j)), .bl (decide (9 = j)), .bl (decide (10 = j)), .bl (decide (11 = j))])) p2 = some (.lst (([.bl (decide (0 = j)), .bl (decide (1 = j)), .bl (decide (2 = j)), .bl (decide (3 = j))] ++ [.bl (decide (4 = j)), .bl (decide (5 = j)), .bl (decide (6 = j)), .bl (decide (7 = j))]) ++ [.bl (decide (8 = j)), .bl (decide (9 = j)), .bl (decide (10 = j)), .bl (decide (11 = j))])) := upd_same
    generalize upd (upd H1 r2 (.lst [.bl (decide (8 = j)), .bl (decide (9 = j)), .bl (decide (10 = j)), .bl (decide (11 = j))])) p2 (.lst (([.bl (decide (0 = j)), .bl (decide (1 = j)), .bl (decide (2 = j)), .bl (decide (3 = j))] ++ [.bl (decide (4 = j)), .bl (decide (5 = j)), .bl (decide (6 = j)), .bl (decide (7 = j))]) ++ [.bl (decide (8 = j)), .bl (decide (9 = j)), .bl (decide (10 = j)), .bl (decide (11 = j))])) = H2 at t2 ha2 hl2 ⊢
    refine ⟨_, rfl, _, rfl, a, D, _, _, _, rfl, rfl, ha2, kd.ec, kd.k 12 (by decide), _, rfl, a, D, _, _, _, rfl, rfl, ha2, kd.ec, kd.k 13 (by decide), by show 2 ≤ sizeLine; decide, fun r3 hr3 => ⟨p2, r3, _, _, rfl, rfl, (Same.new hr3) _ _ hl2, upd_same, by show 14 ≤ sizeLine; decide, fun p3 hp3 => ?_⟩⟩
    have t3 : Same H (upd (upd H2 r3 (.lst [.bl (decide (12 = j)), .bl (decide (13 = j))])) p3 (.lst ((([.bl (decide (0 = j)), .bl (decide (1 = j)), .bl (decide (2 = j)), .bl (decide (3 = j))] ++ [.bl (decide (4 = j)), .bl (decide (5 = j)), .bl (decide (6 = j)), .bl (decide (7 = j))]) ++ [.bl (decide (8 = j)), .bl (decide (9 = j)), .bl (decide (10 = j)), .bl (decide (11 = j))]) ++ [.bl (decide (12 = j)), .bl (decide (13 = j))]))) := (t2.trans (Same.new hr3)).trans (Same.new hp3)
    have ha3 := t3 _ _ ha
    have hl3 : upd (upd H2 r3 (.lst [.bl (decide (12 = j)), .bl (decide (13 = j))])) p3 (.lst ((([.bl (decide (0 = j)), .bl (decide (1 = j)), .bl (decide (2 = j)), .bl (decide (3 = j))] ++ [.bl (decide (4 = j)), .bl (decide (5 = j)), .bl (decide (6 = j)), .bl (decide (7 = j))]) ++ [.bl (decide (8 = j)), .bl (decide (9 = j)), .bl (decide (10 = j)), .bl (decide (11 = j))]) ++ [.bl (decide (12 = j)), .bl (decide (13 = j))])) p3 = some (.lst ((([.bl (decide (0 = j)), .bl (decide (1 = j)), .bl (decide (2 = j)), .bl (decide (3 = j))] ++ [.bl (decide (4 = j)), .bl (decide (5 = j)), .bl (decide (6 = j)), .bl (decide (7 = j))]) ++ [.bl (decide (8 = j)), .bl (decide (9 = j)), .bl (decide (10 = j)), .bl (decide (11 = j))]) ++ [.bl (decide (12 = j)), .bl (decide (13 = j))])) := upd_same
    generalize upd (upd H2 r3 (.lst [.bl (decide (12 = j)), .bl (decide (13 = j))])) p3 (.lst ((([.bl (decide (0 = j)), .bl (decide (1 = j)), .bl (decide (2 = j)), .bl (decide (3 = j))] ++ [.bl (decide (4 = j)), .bl (decide (5 = j)), .bl (decide (6 = j)), .bl (decide (7 = j))]) ++ [.bl (decide (8 = j)), .bl (decide (9 = j)), .bl (decide (10 = j)), .bl (decide (11 = j))]) ++ [.bl (decide (12 = j)), .bl (decide (13 = j))])) = H3 at t3 ha3 hl3 ⊢
    have hl : H3 p3 = some (.lst ((marks j).map V.bl)) := hl3
    refine ⟨_, rfl, a, D, _, _, _, rfl, rfl, ha3, kd.ec, kd.v, _, rfl, ?_⟩
    refine iteF ⟨_, rfl, .inl ⟨rfl, _, SqL.of hl⟩, p3, marks j, rfl, rfl, hl, rfl, _, rfl, ?_⟩
    rw [mk1]
    refine iteF ?_
    have at12 : atI ((marks j).map V.bl) (12 : Nat) = some (V.bl false) := atI_nat (by rw [List.getElem?_map, mk4]; rfl)
    have at13 : atI ((marks j).map V.bl) (13 : Nat) = some (V.bl false) := atI_nat (by rw [List.getElem?_map, mk5]; rfl)
    refine ⟨_, rfl, p3, _, 12, .bl false, rfl, rfl, SqL.of hl, at12, false, rfl, iteF ?_⟩
    intro rr H5 N5 s5 n5 h5
    obtain ⟨wa, wvs, rfl, hwa, rws⟩ := h5
    have ew : wvs = wordsL.map V.str := reps_strs rws
    subst ew
    have hwa5 := n5.same _ _ hwa
    have hl5 := s5 _ _ hl
    refine ⟨_, rfl, p3, _, 13, .bl false, rfl, rfl, SqL.of hl5, at13, false, rfl, iteF ?_⟩
    refine ⟨_, rfl, by show 2 ≤ sizeLine; decide, fun p6 hp6 => ⟨wa, p6, _, _, rfl, rfl, (Same.new hp6) _ _ hwa5, upd_same, by show 14 ≤ sizeLine; decide, fun p7 hp7 => ?_⟩⟩
    have s7 := (Same.new (o := .lst [.str "many", .str "text"]) hp6).trans (Same.new (o := .lst (wordsL.map V.str ++ [.str "many", .str "text"])) hp7)
    have hl7 := s7 _ _ hl5
    have ea : atI (wordsL.map V.str ++ [.str "many", .str "text"]) (j : Nat) = some (V.str (wordAt j)) := atI_nat (by
      have : wordsL.map V.str ++ [.str "many", .str "text"] = (wordsL ++ (["many", "text"] : List Str)).map V.str := by rw [List.map_append]; rfl
      rw [this, List.getElem?_map, words_get j kd.lt]
      rfl)
    refine ⟨_, rfl, .inl ⟨rfl, _, SqL.of hl7⟩, p3, marks j, j, rfl, rfl, hl7, mk2, mk3, Nat.lt_trans kd.lt (by decide), p7, _, (j : Nat), .str (wordAt j), rfl, rfl, SqL.of upd_same, ea, by show 1 ≤ sizeLine; decide, fun t ht => ?_⟩
    exact k _ t ((t3.trans s5).trans s7) ht
end
end E2

set_option Elab.async false
set_option linter.all false
set_option maxRecDepth 100000
namespace E2
open PySem L2
/-! ### _law_said -/
abbrev tryS : Stmt := nth (defBody sSaid) 0
def tryBody : Stmt → List Stmt
  | .Try b _ _ _ _ => b
  | _ => []
def tryPos : Stmt → Pos
  | .Try _ _ _ _ p => p
  | _ => ⟨0, 0, 0, 0⟩
def trySuite : Stmt → List Stmt
  | .Try _ [.ExceptHandler _ _ b _] _ _ _ => b
  | _ => []
def tryHPos : Stmt → Pos
  | .Try _ [.ExceptHandler _ _ _ p] _ _ _ => p
  | _ => ⟨0, 0, 0, 0⟩
def tryNPos : Stmt → Pos
  | .Try _ [.ExceptHandler (some (.Name _ p)) _ _ _] _ _ _ => p
  | _ => ⟨0, 0, 0, 0⟩
theorem bodyS : defBody sSaid = [.Try (tryBody tryS) [.ExceptHandler (some (.Name "WebError" (tryNPos tryS))) (some "_law_e") (nth (trySuite tryS) 0 :: []) (tryHPos tryS)] [] [] (tryPos tryS)] := by kernel_rfl
theorem sc36 : FnScope ["_law_call", "_law_e"] ["_law_call"] (defScope sSaid) := ⟨rfl, rfl, rfl, by decide +kernel, rfl, by decide +kernel, by decide +kernel⟩
def thS (K : PySem.W.Frag) (cs : Nat → Addr) : TS := tRet (tCall (spWhich K cs) [] E0 (tCons (tVar 1) tNil))
def saidQ (Q : VK) : VK := fun x H1 => [x].length ≤ sizeLine ∧ ∀ p, H1 p = none → Q (.ref p) (upd H1 p (.lst [x]))
def saidE (K : PySem.W.Frag) (cs : Nat → Addr) (WE : Addr) (Q : VK) : XK := fun cls _ H' => PySem.W.exmOne K cls (.ref WE) = some true ∧ ∀ (a : Addr) (σ' : St), H' a = none → σ'.length = 2 →
  thS K cs { nx := fun _ H'' => Q .non H'', rt := Q } (σ'.set 1 (some (.ref a))) (upd H' a (.ext (isClsAt a cls)))
def saidM (K : PySem.W.Frag) (cs : Nat → Addr) (WE : Addr) : (VK → XK → Prop) → VK → Prop := fun G Q => G (saidQ Q) (saidE K cs WE Q)
theorem saidE_of {K : PySem.W.Frag} {cs : Nat → Addr} {WE D : Addr} {Q : VK} {H : Hp} {j : Nat} (kd : Kind K cs D j) (hm : PySem.W.exmOne K (.ref D) (.ref WE) = some true) (k : ∀ H' t, Same H H' → H' t = none → Q (.ref t) (upd H' t (.tup [.str (wordAt j)]))) : saidE K cs WE Q (.ref D) none H := by
  refine ⟨hm, fun a σ' ha hl => ?_⟩
  have : (σ'.set 1 (some (.ref a)))[1]? = some (some (.ref a)) := by rw [List.getElem?_set_self (by omega)]
  refine ⟨_, this, a, D, j, rfl, upd_same, kd, fun H' t s ht => k H' t (fun b o e => s b o ?_) ht⟩
  rw [upd_ne (ne_of_none e ha)]
  exact e
section
variable {P : Program} {w : World} {K : PySem.W.Frag} {mg : Str → Option Value} {base : Heap} {cs : Nat → Addr} {WE : Addr}
theorem ok_said {f : Addr} {fd : FuncData} (kl : Nat) (F : Fun K "_law_said" "_law_said" sSaid f fd) (hWE : mg "WebError" = some (.ref WE)) (FW : HasFnH P w K mg base "_law_which" ["_law_e"] 1 (spWhich K cs)) :
    FnOkS P w K mg base CX0 (kl + 2) f fd ["_law_call"] (spLam P w K mg base (kl + 1) (saidM K cs WE)) := by
  obtain ⟨oc, od, kV, doc, pm, an, cdv, ct, osl, rfl, lk, hcd⟩ := F.ex
  rw [bodyS] at lk ⊢
  refine fn_try (k := kl + 1) (N := ["_law_call", "_law_e"]) (i := 1) (DC := WE) lk hcd sc36 hWE rfl rfl rfl (by decide) (fun s vs H Q E h => ?_) (fun A outer s H vs Q E hr h => ?_)
  · obtain ⟨_, _, rfl, _⟩ := h
    rfl
  · obtain ⟨fl, G, rfl, LC, hM⟩ := h
    refine ⟨fun EH => tRet (tLst (tCons (tLam G EH 0 H fl) tNil)), thS K cs, fun EH XE hp => ?_, fun a => ?_, ?_⟩
    · exact pss_one (ps_ret (pe_lst (pa_cons (pe_lamCall (X := (cxOf CX0 P w K mg base ["_law_call", "_law_e"] "_law_said" (defScope sSaid) f cdv A outer s H E).wish XE) (i := 0) rfl rfl (by decide) (by decide) rfl LC hr hp) pa_nil)))
    · exact pss_one (ps_ret (pe_fnH FW ((hr.mono (by omega)).held _) (by rfl) (pa_cons (pv 1) pa_nil)))
    · exact ⟨rfl, rfl, hM⟩
end
end E2

set_option Elab.async false
set_option linter.all false
set_option maxRecDepth 100000
namespace L2
open PySem PySem.Spec PyProof.Rows
/-- each free name of the lambda is a cell of its maker -/
def lamLook (sc lscope : Scope) : Bool := lscope.names.all fun x => decide (x.2 ≠ .free) || (decide (sc.names.lookup x.1 = some .cell) && decide (lscope.names.lookup x.1 = some .free))
theorem lamLook.free {sc lscope : Scope} (h : lamLook sc lscope = true) {n : Str} (m : (n, NameKind.free) ∈ lscope.names) : sc.names.lookup n = some .cell ∧ lscope.names.lookup n = some .free := by
  have := List.all_eq_true.mp h _ m
  simpa using this
end L2
namespace E2
open PySem L2
abbrev sBoth : Stmt := top 42
abbrev qBoth : Str := ("_law_both" : Str) ++ ".<locals>." ++ "<lambda>"
theorem sc42 : FnScope ["_law_web", "_law_name", "_law_words"] ["_law_web", "_law_name"] (defScope sBoth) := ⟨rfl, rfl, rfl, by decide +kernel, rfl, by decide +kernel, by decide +kernel⟩
/-- what is refused, and by which word -/
def Bad (d nd : PyData) (j : Nat) : Prop := (isWeb d = false ∧ j = 0) ∨ ∃ ns ps, isWeb d = true ∧ d = webD ns ps ∧ nameIn ns nd = false ∧ j = 2
structure Refs (K : PySem.W.Frag) (cs : Nat → Addr) (WE : Addr) : Prop where
  kw : Kind K cs (cs 0) 0
  kn : Kind K cs (cs 2) 2
  mw : PySem.W.exmOne K (.ref (cs 0)) (.ref WE) = some true
  mn : PySem.W.exmOne K (.ref (cs 2)) (.ref WE) = some true
theorem said_stk {K : PySem.W.Frag} {cs : Nat → Addr} {WE : Addr} {sel : List (Str × Str) → Str → List Str} {H : Hp} {Q : VK} {d nd : PyData} {v u : V} {j : Nat} (R : Refs K cs WE) (h : Rep H d v) (g : Any d) (hn : Rep H nd u) (gn : Any nd) (b : Bad d nd j)
    (k : ∀ H' t, Same H H' → H' t = none → Q (.ref t) (upd H' t (.tup [.str (wordAt j)]))) : spStk (cs 0) (cs 2) sel [v, u] H (saidQ Q) (saidE K cs WE Q) := by
  refine ⟨d, nd, v, u, rfl, h, g, hn, gn, fun hw H' s => ?_, fun ns ps hw e => ⟨fun hnn H' s => ?_, fun x ex hx => ?_⟩⟩
  · rcases b with ⟨_, rfl⟩ | ⟨_, _, hw', _⟩
    · exact saidE_of R.kw R.mw fun H'' t s' ht => k H'' t (s.trans s') ht
    · rw [hw] at hw'; cases hw'
  · rcases b with ⟨hw', _⟩ | ⟨_, _, _, _, _, rfl⟩
    · rw [hw] at hw'; cases hw'
    · exact saidE_of R.kn R.mn fun H'' t s' ht => k H'' t (s.trans s') ht
  · rcases b with ⟨hw', _⟩ | ⟨ns', ps', _, e', hnn, _⟩
    · rw [hw] at hw'; cases hw'
    · have := webD_inj (e.symm.trans e')
      rw [← this.1, ex] at hnn
      simp [nameIn, hx] at hnn
def spBoth (P : Addr) : Sp := fun vs H Q _ => ∃ d nd v u j, vs = [v, u] ∧ Rep (hid H P) d v ∧ Any d ∧ Rep (hid H P) nd u ∧ Any nd ∧ TabOk H P qBoth ∧ Bad d nd j ∧
  ∀ r H', Same (hid H P) (hid H' P) → TabOk H' P qBoth → Rep (hid H' P) (.list [.tuple [.str (wordAt j)], .tuple [.str (wordAt j)]]) r → Q r H'
theorem TabOk.far {H : Hp} {P : Addr} {q : Str} {a : Addr} (x : TabOk H P q) (h : H a = none) : a ≠ P := fun e => by subst e; exact x.ne h
section
variable {P : Program} {w : World} {K : PySem.W.Frag} {mg : Str → Option Value} {base : Heap} {cs : Nat → Addr} {WE : Addr}
theorem ix2 {A : List (Option V)} {v u : V} (h0 : A[0]? = some (some v)) (h1 : A[1]? = some (some u)) : ∀ (j : Nat) (z : V), [v, u][j]? = some z → ∃ i, ([0, 1] : List Nat)[j]? = some i ∧ A[i]? = some (some z)
  | 0, z, h => ⟨0, rfl, by cases h; exact h0⟩
  | 1, z, h => ⟨1, rfl, by cases h; exact h1⟩
  | j + 2, z, h => by simp at h
theorem n2 {N : List Str} {lscope : Scope} (h0 : N[0]? = some ("_law_web" : Str)) (h1 : N[1]? = some ("_law_name" : Str)) (m0 : (("_law_web" : Str), NameKind.free) ∈ lscope.names) (m1 : (("_law_name" : Str), NameKind.free) ∈ lscope.names) : ∀ (j : Nat) (x : Str), (["_law_web", "_law_name"] : List Str)[j]? = some x → ∃ i, ([0, 1] : List Nat)[j]? = some i ∧ N[i]? = some x ∧ (x, NameKind.free) ∈ lscope.names
  | 0, x, h => ⟨0, rfl, by cases h; exact ⟨h0, m0⟩⟩
  | 1, x, h => ⟨1, rfl, by cases h; exact ⟨h1, m1⟩⟩
  | j + 2, x, h => by simp at h
set_option maxHeartbeats 1000000 in
theorem ok_both {f c Pt bm : Addr} {oc kV dc pm ct : Value} {od an : Option Addr} {osl : Array (Option Value)} (lk : K.lookup f = some ⟨oc, od, .func (PySem.W.fnOf "_law_both" "_law_both" (defArgs sBoth) (defBody sBoth) (defScope sBoth) .none kV dc pm an (.ref c) ct), osl⟩) (hcd : PySem.W.codeIn K (.ref c) "_law_both" = true)
    (ht : PySem.W.codeHdIn K c Pt = true) (B : BMod base mg bm) (R : Refs K cs WE) (FS : HasFnS P w K mg base "_law_said" ["_law_call"] 7 (spLam P w K mg base 6 (saidM K cs WE)))
    (F1 : HasFnX P w K mg base "strikers" ["web", "name"] 5 (spStk (cs 0) (cs 2) strikersOf)) (F2 : HasFnX P w K mg base "struck" ["web", "name"] 5 (spStk (cs 0) (cs 2) struckOf)) :
    FnOk P w K mg base CX0 8 f (PySem.W.fnOf "_law_both" "_law_both" (defArgs sBoth) (defBody sBoth) (defScope sBoth) .none kV dc pm an (.ref c) ct) ["_law_web", "_law_name"] (spBoth Pt) := by
  refine fn_of lk hcd sc42 (fun vs H Q E h => ?_) (fun A outer s H vs Q E hr h => ?_)
  · obtain ⟨_, _, _, _, _, rfl, _⟩ := h
    rfl
  · obtain ⟨d, nd, v, u, j, rfl, h, g, hn, gn, tab, bad, k⟩ := h
    refine ⟨_, pss_cons (ps_set (i := 2) sc42.nd rfl (Or.inl rfl) (pe_lst (pa_cons (pe_lamArg (pn := "_law_call") (kl := 5) (M := saidM K cs WE) (N2 := ["_law_web", "_law_name"]) (idx := [0, 1]) (tb := fun E' => tCall (spStk (cs 0) (cs 2) strikersOf) [] E' (tCons (tVar 0) (tCons (tVar 1) tNil))) FS hr (by rfl) rfl ht B
          ⟨rfl, rfl, rfl, by decide +kernel⟩ rfl (fun n hn => .inl (lamLook.free (sc := defScope sBoth) (by decide +kernel) hn).1) (fun n hn => (lamLook.free (sc := defScope sBoth) (by decide +kernel) hn).2) (fun _ _ _ _ => rfl) rfl (n2 rfl rfl (by decide +kernel) (by decide +kernel))
          (fun _ _ _ _ _ _ _ _ hr' => pe_fnX F1 lam_pass hr' (by rfl) (pa_cons (pv 0) (pa_cons (pv 1) pa_nil)))) pa_nil)))
      (pss_one (ps_ret (pe_op op_cat (pv 2) (pe_lst (pa_cons (pe_lamArg (pn := "_law_call") (kl := 5) (M := saidM K cs WE) (N2 := ["_law_web", "_law_name"]) (idx := [0, 1]) (tb := fun E' => tCall (spStk (cs 0) (cs 2) struckOf) [] E' (tCons (tVar 0) (tCons (tVar 1) tNil))) FS hr (by rfl) rfl ht B
          ⟨rfl, rfl, rfl, by decide +kernel⟩ rfl (fun n hn => .inl (lamLook.free (sc := defScope sBoth) (by decide +kernel) hn).1) (fun n hn => (lamLook.free (sc := defScope sBoth) (by decide +kernel) hn).2) (fun _ _ _ _ => rfl) rfl (n2 rfl rfl (by decide +kernel) (by decide +kernel))
          (fun _ _ _ _ _ _ _ _ hr' => pe_fnX F2 lam_pass hr' (by rfl) (pa_cons (pv 0) (pa_cons (pv 1) pa_nil)))) pa_nil))))), ?_⟩
    refine ⟨[v, u], rfl, ix2 rfl rfl, tab, fun H1 tab1 s1 => ⟨v, rfl, u, rfl, said_stk R ((h.same s1).same (hid_same H1 Pt)) g ((hn.same s1).same (hid_same H1 Pt)) gn bad fun H2 t1 s2 ht1 => ⟨by show 1 ≤ sizeLine; decide, fun p1 hp1 => ?_⟩⟩⟩
    have tab2 := tab1.same s2
    have s3 := Same.new (o := .tup [.str (wordAt j)]) ht1
    have tab3 := tab2.same s3
    have s4 := Same.new (o := .lst [.ref t1]) hp1
    have tab4 := tab3.same s4
    have nt1 : t1 ≠ Pt := TabOk.far tab2 ht1
    have np1 : p1 ≠ Pt := TabOk.far tab3 hp1
    have e1 : hid (upd (upd H2 t1 (.tup [.str (wordAt j)])) p1 (.lst [.ref t1])) Pt t1 = some (.tup [.str (wordAt j)]) := by rw [hid_ne nt1]; exact s4 _ _ upd_same
    have e2 : hid (upd (upd H2 t1 (.tup [.str (wordAt j)])) p1 (.lst [.ref t1])) Pt p1 = some (.lst [.ref t1]) := by rw [hid_ne np1, upd_same]
    have sA : Same (hid H Pt) (hid (upd (upd H2 t1 (.tup [.str (wordAt j)])) p1 (.lst [.ref t1])) Pt) := s1.trans ((s2.hid Pt).trans ((s3.hid Pt).trans (s4.hid Pt)))
    generalize upd (upd H2 t1 (.tup [.str (wordAt j)])) p1 (.lst [.ref t1]) = H3 at tab4 e1 e2 sA ⊢
    refine ⟨_, rfl, [v, u], rfl, ix2 rfl rfl, tab4, fun H4 tab5 s5 => ⟨v, rfl, u, rfl, said_stk R ((h.same (sA.trans s5)).same (hid_same H4 Pt)) g ((hn.same (sA.trans s5)).same (hid_same H4 Pt)) gn bad fun H5 t2 s6 ht2 => ⟨by show 1 ≤ sizeLine; decide, fun p2 hp2 => ?_⟩⟩⟩
    have tab6 := tab5.same s6
    have s7 := Same.new (o := .tup [.str (wordAt j)]) ht2
    have tab7 := tab6.same s7
    have s8 := Same.new (o := .lst [.ref t2]) hp2
    have tab8 := tab7.same s8
    have nt2 : t2 ≠ Pt := TabOk.far tab6 ht2
    have sB : Same (hid H3 Pt) (hid (upd (upd H5 t2 (.tup [.str (wordAt j)])) p2 (.lst [.ref t2])) Pt) := s5.trans ((s6.hid Pt).trans ((s7.hid Pt).trans (s8.hid Pt)))
    refine ⟨p1, p2, [.ref t1], [.ref t2], rfl, rfl, (hid_get (sB _ _ e2)).2, upd_same, by show 2 ≤ sizeLine; decide, fun p3 hp3 => ?_⟩
    have s9 := Same.new (o := .lst ([.ref t1] ++ [.ref t2])) hp3
    have np3 : p3 ≠ Pt := TabOk.far tab8 hp3
    refine k _ _ (sA.trans (sB.trans (s9.hid Pt))) (tab8.same s9) ⟨p3, [.ref t1, .ref t2], rfl, by rw [hid_ne np3, upd_same]; rfl, .cons (d := .tuple [.str (wordAt j)]) ⟨t1, [.str (wordAt j)], rfl, (s9.hid Pt) _ _ (sB _ _ e1), Reps.one rfl⟩ (Reps.one (d := .tuple [.str (wordAt j)]) ⟨t2, [.str (wordAt j)], rfl, ?_, Reps.one rfl⟩)⟩
    rw [hid_ne nt2]
    exact s9 _ _ (s8 _ _ upd_same)
end
end E2

set_option Elab.async false
set_option linter.all false
set_option maxRecDepth 100000
namespace E2
open PySem L2
/-! ### what _law_wide draws is a web -/
abbrev ltS (x y : Str) : Prop := x.cps.toList < y.cps.toList
theorem ltS_trans {x y z : Str} (a : ltS x y) (b : ltS y z) : ltS x z := List.lt_trans a b
theorem ltS_ne {x y : Str} (a : ltS x y) : x ≠ y := fun e => by subst e; exact List.lt_irrefl _ a
theorem words_lt : ∀ x ∈ words, ∀ y ∈ words, x ≠ y → PyProof.Rows.risingS x [y] = true → ltS x y := by decide +kernel
theorem words_nodup : words.Nodup := by decide +kernel
theorem words_name : ∀ x ∈ words, isName (.str x) = true := by decide +kernel
theorem rise_strict : ∀ {p : Str} {r : List Str}, PyProof.Rows.risingS p r = true → (∀ x ∈ p :: r, x ∈ words) → (p :: r).Nodup → (p :: r).Pairwise ltS
  | p, [], _, _, _ => List.pairwise_singleton _ _
  | p, x :: r, h, hw, hn => by
    unfold PyProof.Rows.risingS at h
    rw [Bool.and_eq_true] at h
    have ih := rise_strict h.2 (fun z m => hw z (List.mem_cons_of_mem _ m)) (List.nodup_cons.mp hn).2
    have px : ltS p x := words_lt p (hw p (by simp)) x (hw x (by simp)) (fun e => (List.nodup_cons.mp hn).1 (by rw [e]; simp)) (by unfold PyProof.Rows.risingS; rw [h.1]; rfl)
    refine List.pairwise_cons.mpr ⟨fun z m => ?_, ih⟩
    rcases List.mem_cons.mp m with e | m
    · rw [e]; exact px
    · exact ltS_trans px ((List.pairwise_cons.mp ih).1 z m)
theorem sorted_strict {ss : List Str} (h : PyProof.Rows.sortedS ss = true) (hw : ∀ x ∈ ss, x ∈ words) (hn : ss.Nodup) : ss.Pairwise ltS := by
  cases ss with
  | nil => exact .nil
  | cons p r => exact rise_strict h hw hn
/-- one strike ahead of another -/
def ltP (p q : Str × Str) : Prop := ltS p.1 q.1 ∨ (p.1 = q.1 ∧ ltS p.2 q.2)
theorem rising_of {α : Type} (f : α → PyData) (R : α → α → Prop) (hR : ∀ a b, R a b → cmpD (f a) (f b) = true) : ∀ {l : List α}, l.Pairwise R → rising (l.map f) = true
  | [], _ => rfl
  | [_], _ => rfl
  | a :: b :: l, h => by
    have h1 := (List.pairwise_cons.mp h).1 b (by simp)
    have ih := rising_of f R hR (List.pairwise_cons.mp h).2
    unfold rising at ih ⊢
    simp only [List.map_cons, List.drop_one, List.tail_cons, List.zip_cons_cons, List.all_cons, Bool.and_eq_true] at ih ⊢
    exact ⟨hR a b h1, ih⟩
theorem cmp_names {x y : Str} (h : ltS x y) : cmpD (.str x) (.str y) = true := decide_eq_true h
theorem cmp_pairs {p q : Str × Str} (h : ltP p q) : cmpD (pairD p) (pairD q) = true := by
  show lexS (strsOf [.str p.1, .str p.2]) (strsOf [.str q.1, .str q.2]) = true
  show lexS [p.1, p.2] [q.1, q.2] = true
  unfold lexS
  rcases h with h | ⟨e, h⟩
  · rw [if_neg (ltS_ne h)]; exact decide_eq_true h
  · rw [if_pos e]
    unfold lexS
    rw [if_neg (ltS_ne h)]; exact decide_eq_true h
theorem web_of {ns : List Str} {ps : List (Str × Str)} (hw : ∀ x ∈ ns, x ∈ words) (hl : ns.length ≤ 12) (hs : ns.Pairwise ltS) (hp : ps.Pairwise ltP) (hm : ∀ p ∈ ps, p.1 ∈ ns ∧ p.2 ∈ ns) : isWeb (webD ns ps) = true := by
  have a1 : areNames (.tuple (ns.map .str)) = true := by
    simp only [areNames, Bool.and_eq_true, decide_eq_true_eq, List.length_map, List.all_eq_true]
    refine ⟨⟨hl, fun d m => ?_⟩, rising_of PyData.str ltS (fun _ _ h => cmp_names h) hs⟩
    obtain ⟨x, mx, rfl⟩ := List.mem_map.mp m
    exact words_name x (hw x mx)
  have a2 : areStrikes (ns.map .str) (.tuple (ps.map pairD)) = true := by
    simp only [areStrikes, Bool.and_eq_true, List.all_eq_true]
    refine ⟨fun d m => ?_, rising_of pairD ltP (fun _ _ h => cmp_pairs h) hp⟩
    obtain ⟨p, mp, rfl⟩ := List.mem_map.mp m
    have := hm p mp
    show ((ns.map PyData.str).any (fun e => PyData.eqv e (.str p.1)) && (ns.map PyData.str).any fun e => PyData.eqv e (.str p.2)) = true
    rw [any_eqv_name, any_eqv_name]
    simp [nameIn, this.1, this.2]
  show (areNames (.tuple (ns.map .str)) && areStrikes (items (.tuple (ns.map .str))) (.tuple (ps.map pairD))) = true
  rw [a1]
  exact a2
theorem erase_perm {α : Type} : ∀ (l : List α) (i : Nat) (h : i < l.length), (l.eraseIdx i ++ [l[i]]).Perm l
  | x :: l, 0, _ => by simpa using (List.perm_append_comm (l₁ := l) (l₂ := [x]))
  | x :: l, i + 1, h => by
    have := erase_perm l i (by simpa using h)
    simpa using List.Perm.cons x this
def spWideW : Sp := fun vs H Q _ => ∃ b, vs = [.ref b, .int 12] ∧ Box H b ∧ ∀ r ns ps H', Same (hid H b) (hid H' b) → Box H' b → Rep (hid H' b) (webD ns ps) r → Ok 3000 3 (webD ns ps) → isWeb (webD ns ps) = true → ns.length ≤ 12 → (∀ x ∈ ns, x ∈ words) → ps.length ≤ 144 → (∀ p ∈ ps, p.1 ∈ ns ∧ p.2 ∈ ns) → Q r H'
section
variable {P : Program} {w : World} {K : PySem.W.Frag} {mg : Str → Option Value} {base : Heap}
set_option maxHeartbeats 2000000 in
theorem ok_wideW {f : Addr} {fd : FuncData} (F : Fun K "_law_wide" "_law_wide" sWide f fd) (T : Txt mg) (FT : HasFn P w K mg base "_law_take" ["_law_box_here", "_law_count"] 1 spTake) : FnOk P w K mg base CX0 2 f fd ["_law_box_here", "_law_most_names"] spWideW := by
  refine F.ok sc19 (fun vs H Q E h => ?_) (fun cdv A outer s H vs Q E hr h => ?_)
  · obtain ⟨_, rfl, _⟩ := h
    rfl
  · obtain ⟨b, rfl, bx, k⟩ := h
    rw [bodyW]
    refine ⟨_, pss_cons (st := stW) (t := tAsg (tLit (.list (words.map .str))) (gName 2)) (by rw [stW_eq]; exact ps_lit eW_eq litW sc19.nd rfl (Or.inr rfl) rfl)
      (pss_cons (ps_set (i := 3) sc19.nd rfl (Or.inl rfl) (pe_callB call_sortedS (by rfl) (T.b _ (by decide)) bt_sorted (pa_cons (pe_comp ["_law_nth"] rfl rfl (pi_range1 (by rfl) (T.b _ (by decide)) (pa_cons (pe_fn FT hr (by rfl) (pa_cons (pv 0) (pa_cons (pe_op op_add (pv 1) pe_int) pa_nil))) pa_nil))
          (fun _ _ _ _ _ => pg_c 0 nd19a rfl (Or.inl rfl) rfl) (fun _ _ _ _ _ => pts_nil) (fun _ _ _ _ _ => pe_bmK K rfl PySem.F.plainAttrs_list PySem.F.slot_list_pop PySem.F.type_list_pop mt_popAt (pv 3) (pa_cons (pe_fn FT hr (by rfl) (pa_cons (pv 1) (pa_cons (pe_lenK K rfl T.b (pv 3)) pa_nil))) pa_nil))) pa_nil)))
      (pss_cons (ps_asg (pe_tup (pa_cons (pe_ix ix_list (pe_lst (pa_cons pe_int (pa_cons pe_int (pa_cons pe_int (pa_cons pe_int pa_nil))))) (pe_fn FT hr (by rfl) (pa_cons (pv 0) (pa_cons pe_int pa_nil))) (fun _ _ => rfl)) (pa_cons (pe_lst pa_nil) pa_nil))) (pg_pair K 4 5 sc19.nd rfl rfl rfl rfl (Or.inr rfl) (Or.inl rfl) rfl rfl))
      (pss_cons (ps_for PassesOwn.never rfl (pi_list (pv 3)) (pg_name (i := 6) sc19.nd rfl (Or.inr rfl))
        (pss_one (ps_set (i := 5) sc19.nd rfl (Or.inl rfl) (pe_op op_cat (pv 5) (pe_comp ["_law_other"] rfl rfl (pi_list (pv 3)) (fun _ _ _ _ _ => pg_c 0 nd19b rfl (Or.inl rfl) rfl) (fun _ _ _ _ _ => pts_one (pt_cmpR op_lt (pe_fn FT hr (by rfl) (pa_cons (pv 1) (pa_cons pe_int pa_nil))) (pv 5) (nomark _))) (fun _ _ _ _ _ => pe_tup (pa_cons (pv 7) (pa_cons (pv 0) pa_nil))))))))
      (pss_one (ps_ret (pe_tup (pa_cons (pe_callTy call_tuple_of (by rfl) (T.b _ (by decide)) bt_tuple (pa_cons (pv 3) pa_nil)) (pa_cons (pe_callTy call_tuple_of (by rfl) (T.b _ (by decide)) bt_tuple (pa_cons (pv 5) pa_nil)) pa_nil)))))))), ?_⟩
    intro r H1 N1 s1 n1 h1
    obtain ⟨a, vs, rfl, ha, rs⟩ := h1
    have ev := reps_strs rs
    subst ev
    have a0 : H a = none := (n1 a _ ha).1
    have na : a ≠ b := bx.far a0
    have b1 := bx.same s1
    have ha1 := (n1 a _ ha).2
    refine ⟨_, rfl, _, rfl, _, _, rfl, rfl, b, 13, rfl, b1, by decide, by decide, fun z H2 z0 z1 s2 b2 => ⟨z, rfl, by omega, by omega, ?_⟩⟩
    have hz : z.toNat ≤ 12 := by omega
    have ha2 : H2 a = some (.lst (words.map V.str)) := (hid_get (s2 a _ (by rw [hid_ne na]; exact ha1))).2
    refine comp_range0 (fun i ys H' => ∃ ws ss : List Str, Same (hid H b) (hid H' b) ∧ Box H' b ∧ H' a = some (.lst (ws.map V.str)) ∧ ys = ss.map V.str ∧ ss.length = i ∧ ws.length = 12 - i ∧ (ws ++ ss).Perm words)
      ⟨words, [], (s1.hid b).trans s2, b2, ha2, rfl, rfl, rfl, by rw [List.append_nil]⟩ (fun i ys H' hi ⟨ws, ss, _, _, _, e, hl, _⟩ => by rw [e, List.length_map, hl]; exact Nat.le_trans (Nat.le_trans hi hz) (by decide)) (fun i ys H' hi ⟨ws, ss, sm, bm, hm, e, hl, hw, pw⟩ => ?_) fun ys H' ⟨ws, ss, sm, bm, hm, e, hl, hw, pw⟩ p hp => ?_
    · -- one more name
      have hwl : 0 < ws.length := by omega
      refine ⟨_, rfl, .inl ⟨rfl, _, SqL.of hm⟩, _, rfl, _, rfl, a, _, rfl, .inl (SqL.of hm), b, _, rfl, bm, by rw [List.length_map]; omega, by rw [List.length_map]; omega, fun y H3 y0 y1 s3 b3 => ?_⟩
      rw [List.length_map] at y1
      obtain ⟨yn, rfl⟩ : ∃ yn : Nat, y = (yn : Int) := ⟨y.toNat, by omega⟩
      have hyn : yn < ws.length := by omega
      have hm3 : H3 a = some (.lst (ws.map V.str)) := (hid_get (s3 a _ (by rw [hid_ne na]; exact hm))).2
      have e1 : ws[yn]? = some ws[yn] := by simp [hyn]
      refine ⟨a, _, (yn : Int), yn, .str ws[yn], rfl, rfl, hm3, by omega, by omega, PySem.StrLaws.seqIndex_nonneg (by omega) (by rw [List.length_map]; omega), by rw [List.getElem?_map, e1]; rfl, ?_⟩
      refine ⟨ws.eraseIdx yn, ss ++ [ws[yn]], (sm.trans s3).hidPut a0, b3.put na.symm, by rw [upd_same, erase_map], by rw [e, List.map_append]; rfl, by rw [List.length_append, hl]; rfl, by rw [List.length_eraseIdx_of_lt hyn, hw]; omega, ?_⟩
      refine List.Perm.trans ?_ pw
      have e1 := erase_perm ws yn hyn
      have e2 : (ws.eraseIdx yn ++ (ss ++ [ws[yn]])).Perm (ws.eraseIdx yn ++ ([ws[yn]] ++ ss)) := (List.perm_append_comm).append_left _
      refine e2.trans ?_
      rw [← List.append_assoc]
      exact e1.append_right ss
    · -- the names in order
      refine ⟨p, ss, rfl, SqL.of (by rw [upd_same, e]), by omega, fun ss' c pm srt hc => ?_⟩
      have sc := (sm.trans ((Same.new (o := .lst ys) hp).hid b)).trans ((Same.new (o := .lst (ss'.map V.str)) hc).hid b)
      have bc := (bm.same (Same.new (o := .lst ys) hp)).same (Same.new (o := .lst (ss'.map V.str)) hc)
      have nc : c ≠ b := (bm.same (Same.new (o := .lst ys) hp)).far hc
      have hcc : hid (upd (upd H' p (.lst ys)) c (.lst (ss'.map V.str))) b c = some (.lst (ss'.map V.str)) := hid_up nc
      have sl : ss'.length ≤ 12 := by rw [pm.length_eq, hl]; exact hz
      have sw : ∀ x ∈ ss', x ∈ words := fun x m => pw.mem_iff.mp (List.mem_append_right _ (pm.mem_iff.mp m))
      have snd : ss'.Nodup := pm.nodup_iff.mpr (List.nodup_append.mp (pw.nodup_iff.mpr words_nodup)).2.1
      have sst : ss'.Pairwise ltS := sorted_strict srt sw snd
      show tSeq _ _ _ [some (.ref b), some (.int 12), some (.ref a), some (.ref c), none, none, none] _
      generalize upd (upd H' p (.lst ys)) c (.lst (ss'.map V.str)) = H4 at sc bc hcc ⊢
      refine ⟨by show 4 ≤ sizeLine; decide, fun p5 hp5 => ?_⟩
      have s5 := Same.new (o := .lst [.int 1, .int 2, .int 3, .int 5]) hp5
      have b5 := bc.same s5
      have n5 : p5 ≠ b := bc.far hp5
      have h5 : hid (upd H4 p5 (.lst [.int 1, .int 2, .int 3, .int 5])) b p5 = some (.lst [.int 1, .int 2, .int 3, .int 5]) := hid_up n5
      refine ⟨_, rfl, b, 4, rfl, b5, by decide, by decide, fun y H6 y0 y1 s6 b6 => ?_⟩
      obtain ⟨sh, esh⟩ : ∃ sh : Int, atI [V.int 1, .int 2, .int 3, .int 5] y = some (.int sh) := by
        have : y = 0 ∨ y = 1 ∨ y = 2 ∨ y = 3 := by omega
        rcases this with e | e | e | e <;> subst e
        · exact ⟨1, rfl⟩
        · exact ⟨2, rfl⟩
        · exact ⟨3, rfl⟩
        · exact ⟨5, rfl⟩
      refine ⟨p5, _, y, .int sh, rfl, rfl, SqL.of (hid_get (s6 _ _ h5)).2, esh, by show 0 ≤ sizeLine; decide, fun p7 hp7 => ⟨by show 2 ≤ sizeLine; decide, fun p8 hp8 => ?_⟩⟩
      have s7 := Same.new (o := .lst []) hp7
      have b7 := b6.same s7
      have s8 := Same.new (o := .tup [.int sh, .ref p7]) hp8
      have b8 := b7.same s8
      have s48 : Same (hid H4 b) (hid (upd (upd H6 p7 (.lst [])) p8 (.tup [.int sh, .ref p7])) b) := ((s5.hid b).trans s6).trans ((s7.hid b).trans (s8.hid b))
      have h7 : hid (upd (upd H6 p7 (.lst [])) p8 (.tup [.int sh, .ref p7])) b p7 = some (.lst []) := (s8.hid b) _ _ (hid_up (b6.far hp7))
      refine ⟨p8, _, rfl, SqT.of upd_same, rfl, _, _, rfl, _, [], rfl, rfl, ?_⟩
      show tSeq _ _ _ [some (.ref b), some (.int 12), some (.ref a), some (.ref c), some (.int sh), some (.ref p7), none] _
      have hc8 := s48 _ _ hcc
      have sc8 := sc.trans s48
      generalize upd (upd H6 p7 (.lst [])) p8 (.tup [.int sh, .ref p7]) = H8 at b8 s48 h7 hc8 sc8 ⊢
      refine ⟨_, rfl, c, rfl, ⟨_, SqL.of (hid_get hc8).2⟩, for_list (K := K) (fun i σ H' => ∃ (q : Addr) (qs : List (Str × Str)) (vs : List V) (o : Option V), σ = [some (.ref b), some (.int 12), some (.ref a), some (.ref c), some (.int sh), some (.ref q), o] ∧ Same (hid H b) (hid H' b) ∧ Box H' b ∧ hid H' b c = some (.lst (ss'.map V.str)) ∧ hid H' b q = some (.lst vs) ∧ Reps (hid H' b) (qs.map pairD) vs ∧ qs.length ≤ 12 * i ∧ qs.Pairwise ltP ∧ ∀ p ∈ qs, p.1 ∈ ss'.take i ∧ p.2 ∈ ss')
        ⟨p7, [], [], none, rfl, sc8, b8, hc8, h7, rfl, Nat.le_refl _, .nil, fun _ m => by cases m⟩ (fun i σ H' hi ⟨_, _, _, _, _, _, _, hcq, _⟩ => SqL.of (hid_get hcq).2) (fun i x σ H' hx ⟨q, qs, vs, o, e, sq, bq, hcq, hq, rq, lq, pq, mq⟩ => ?_) fun σ H' ⟨q, qs, vs, o, e, sq, bq, hcq, hq, rq, lq, pq, mq⟩ => ?_⟩
      · subst e
        obtain ⟨x1, ex1, rfl⟩ : ∃ x1, ss'[i]? = some x1 ∧ x = .str x1 := by
          rw [List.getElem?_map] at hx
          cases e : ss'[i]? with
          | none => rw [e] at hx; cases hx
          | some x1 => rw [e] at hx; cases hx; exact ⟨x1, rfl, rfl⟩
        have hi12 : i < ss'.length := (List.getElem?_eq_some_iff.mp ex1).1
        refine ⟨_, rfl, _, rfl, c, rfl, ⟨_, SqL.of (hid_get hcq).2⟩, comp_list (K := K) (fun j ys H'' => ∃ os : List Str, Same (hid H' b) (hid H'' b) ∧ Box H'' b ∧ Reps (hid H'' b) ((os.map fun z => (x1, z)).map pairD) ys ∧ os.Sublist (ss'.take j))
          ⟨[], Same.refl _, bq, rfl, List.nil_sublist _⟩ (fun j ys H'' hj ⟨os, se, be, re, le⟩ => ⟨SqL.of (hid_get (se _ _ hcq)).2, ?_⟩) (fun j x ys H'' hx ⟨os, se, be, re, le⟩ => ?_) fun ys H'' ⟨os, se, be, re, le⟩ p hp => ?_⟩
        · rw [re.length, List.length_map, List.length_map]
          have l1 := le.length_le
          rw [List.length_take] at l1
          exact Nat.le_trans l1 (Nat.le_trans (Nat.min_le_right _ _) (Nat.le_trans sl (by decide)))
        · obtain ⟨x2, ex2, rfl⟩ : ∃ x1, ss'[j]? = some x1 ∧ x = .str x1 := by
            rw [List.getElem?_map] at hx
            cases e : ss'[j]? with
            | none => rw [e] at hx; cases hx
            | some x1 => rw [e] at hx; cases hx; exact ⟨x1, rfl, rfl⟩
          refine ⟨_, rfl, b, 8, rfl, be, by decide, by decide, fun y H5 y0 y1 s5 b5 => ⟨_, rfl, _, _, rfl, rfl, _, rfl, ite2 (fun _ => ⟨_, rfl, _, rfl, by show 2 ≤ sizeLine; decide, fun p hp => ?_⟩) fun _ => ⟨os, se.trans s5, b5, re.same s5, ?_⟩⟩⟩
          · have sp := Same.new (o := .tup [.str x1, .str x2]) hp
            have rp := (re.same s5).same (sp.hid b)
            refine ⟨os ++ [x2], (se.trans s5).trans (sp.hid b), b5.same sp, ?_, ?_⟩
            · rw [List.map_append, List.map_append]
              exact Reps.append rp (Reps.one (d := .tuple [.str x1, .str x2]) ⟨p, _, rfl, hid_up (b5.far hp), strs_reps (ns := [x1, x2])⟩)
            · rw [take_snoc _ _ _ ex2]
              exact le.append (List.Sublist.refl _)
          · rw [take_snoc _ _ _ ex2]
            exact le.trans (List.sublist_append_left _ _)
        · have sp := Same.new (o := .lst ys) hp
          have bp := be.same sp
          have hq2 := (sp.hid b) _ _ (se _ _ hq)
          have lo : os.length ≤ 12 := by
            have l1 := le.length_le
            rw [List.length_take] at l1
            exact Nat.le_trans l1 (Nat.le_trans (Nat.min_le_right _ _) sl)
          have osub : os.Sublist ss' := le.trans (List.take_sublist _ _)
          refine ⟨q, p, vs, ys, rfl, rfl, (hid_get hq2).2, upd_same, ?_, fun p2 hp2 => ?_⟩
          · rw [rq.length, re.length, List.length_map, List.length_map, List.length_map]
            exact Nat.le_trans (Nat.add_le_add (Nat.le_trans lq (Nat.mul_le_mul_left 12 (Nat.le_of_lt (Nat.lt_of_lt_of_le hi12 sl)))) lo) (by decide)
          · have s2 := Same.new (o := .lst (vs ++ ys)) hp2
            have sall := (se.trans (sp.hid b)).trans (s2.hid b)
            refine ⟨p2, qs ++ os.map (fun z => (x1, z)), vs ++ ys, _, rfl, sq.trans sall, bp.same s2, sall _ _ hcq, hid_up (bp.far hp2), ?_, ?_, ?_, fun y m => ?_⟩
            · rw [List.map_append]
              exact Reps.append (rq.same sall) (re.same ((sp.hid b).trans (s2.hid b)))
            · rw [List.length_append, List.length_map]; omega
            · refine List.pairwise_append.mpr ⟨pq, ?_, fun y m z m2 => ?_⟩
              · rw [List.pairwise_map]
                exact (sst.sublist osub).imp fun h => .inr ⟨rfl, h⟩
              · obtain ⟨z2, mz, rfl⟩ := List.mem_map.mp m2
                left
                have hs1 : (ss'.take (i + 1)).Pairwise ltS := sst.sublist (List.take_sublist _ _)
                rw [take_snoc _ _ _ ex1] at hs1
                exact (List.pairwise_append.mp hs1).2.2 y.1 (mq y m).1 x1 (by simp)
            · rw [take_snoc _ _ _ ex1]
              rcases List.mem_append.mp m with m | m
              · exact ⟨List.mem_append_left _ (mq y m).1, (mq y m).2⟩
              · obtain ⟨z2, mz, rfl⟩ := List.mem_map.mp m
                exact ⟨by simp, osub.mem mz⟩
      · subst e
        rw [List.length_map] at lq
        refine ⟨_, rfl, c, _, rfl, .inl ⟨SqL.of (hid_get hcq).2, fun l hl => ?_⟩⟩
        have sl1 := Same.new (o := .tup (ss'.map V.str)) hl
        have bl1 := bq.same sl1
        refine ⟨_, rfl, q, vs, rfl, .inl ⟨SqL.of (sl1 _ _ (hid_get hq).2), fun l2 hl2 => ?_⟩⟩
        have sl2 := Same.new (o := .tup vs) hl2
        have bl2 := bl1.same sl2
        refine ⟨by show 2 ≤ sizeLine; decide, fun l3 hl3 => ?_⟩
        have sl3 := Same.new (o := .tup [.ref l, .ref l2]) hl3
        have bl3 := bl2.same sl3
        have s13 := (sl1.hid b).trans ((sl2.hid b).trans (sl3.hid b))
        have mq' : ∀ p ∈ qs, p.1 ∈ ss' ∧ p.2 ∈ ss' := fun p m => ⟨List.mem_of_mem_take (mq p m).1, (mq p m).2⟩
        refine k _ ss' qs _ (sq.trans s13) bl3 ⟨l3, _, rfl, hid_up (bl2.far hl3), .cons ?_ (.one ?_)⟩ ?_ (web_of sw sl sst pq mq') sl sw (by omega) mq'
        · exact ⟨l, _, rfl, ((sl2.hid b).trans (sl3.hid b)) _ _ (hid_up (bq.far hl)), strs_reps⟩
        · exact ⟨l2, _, rfl, (sl3.hid b) _ _ (hid_up (bl1.far hl2)), rq.same s13⟩
        · have o1 := (oks_words sw).mono (n' := 84) (m' := 1) (by omega) (by decide)
          have o2 := (oks_pairs (ds := qs.map pairD) fun d m => by
            obtain ⟨p, mp, rfl⟩ := List.mem_map.mp m
            exact ⟨p.1, p.2, sw _ (mq' p mp).1, sw _ (mq' p mp).2, rfl⟩).mono (n' := 2160) (m' := 1) (by rw [List.length_map]; omega) (by decide)
          have := (Oks.one (o1.tup (by decide))).append (Oks.one (o2.tup (by decide)))
          exact (this.mono (n' := 3000) (m' := 2) (by decide) (by decide)).tup (by decide)
end
end E2

set_option Elab.async false
set_option linter.all false
set_option maxRecDepth 100000
namespace L2
open PySem PySem.Spec PyProof.Rows
/-! ### a box and a table, both out of sight -/
abbrev V2 (H : Hp) (b P : Addr) : Hp := hid (hid H b) P
theorem hid_comm (H : Hp) (b P : Addr) : hid (hid H b) P = hid (hid H P) b := by
  funext a
  unfold hid
  split <;> split <;> rfl
theorem Same.put {H H' : Hp} {a : Addr} {o : HO} (s : Same H H') (h : H a = none) : Same H (L2.upd H' a o) := fun c u e => by
  rw [upd_ne (ne_of_none e h)]
  exact s c u e
mutual
theorem Rep.hidTbl {G : Hp} {P : Addr} {ps : Array Value} (hP : G P = some (.tbl ps)) : ∀ {d : PyData} {v : V}, Rep G d v → Rep (hid G P) d v
  | .none, _, h => h
  | .bool _, _, h => h
  | .int _, _, h => h
  | .str _, _, h => h
  | .tuple ds, _, h => by
    obtain ⟨a, vs, rfl, ha, r⟩ := h
    exact ⟨a, vs, rfl, by rw [hid_ne (fun e => by subst e; rw [hP] at ha; cases ha)]; exact ha, Reps.hidTbl hP r⟩
  | .list ds, _, h => by
    obtain ⟨a, vs, rfl, ha, r⟩ := h
    exact ⟨a, vs, rfl, by rw [hid_ne (fun e => by subst e; rw [hP] at ha; cases ha)]; exact ha, Reps.hidTbl hP r⟩
  | .dict kvs, _, h => by
    obtain ⟨a, ks, rfl, ha, r⟩ := h
    exact ⟨a, ks, rfl, by rw [hid_ne (fun e => by subst e; rw [hP] at ha; cases ha)]; exact ha, r⟩
theorem Reps.hidTbl {G : Hp} {P : Addr} {ps : Array Value} (hP : G P = some (.tbl ps)) : ∀ {ds : List PyData} {vs : List V}, Reps G ds vs → Reps (hid G P) ds vs
  | [], _, h => h
  | d :: ds, _, h => by
    obtain ⟨v, vs, rfl, h1, h2⟩ := h
    exact ⟨v, vs, rfl, Rep.hidTbl hP h1, Reps.hidTbl hP h2⟩
end
/-- the box and the table stand -/
structure Two (H : Hp) (b P : Addr) (q : Str) : Prop where
  box : Box H b
  tab : TabOk H P q
theorem Two.ne {H : Hp} {b P : Addr} {q : Str} (x : Two H b P q) : b ≠ P := fun e => by
  obtain ⟨n, _, h⟩ := x.box
  obtain ⟨ps, h2, _⟩ := x.tab
  rw [e, h2] at h
  cases h
theorem Two.same {H H' : Hp} {b P : Addr} {q : Str} (s : Same H H') (x : Two H b P q) : Two H' b P q := ⟨x.box.same s, x.tab.same s⟩
/-- the box was drawn from -/
theorem Two.drawn {H H' : Hp} {b P : Addr} {q : Str} (x : Two H b P q) (s : Same (hid H b) (hid H' b)) (bx : Box H' b) : Two H' b P q := by
  refine ⟨bx, ?_⟩
  obtain ⟨n, _, hb⟩ := x.box
  obtain ⟨ps, h1, h2, h3⟩ := x.tab
  refine ⟨ps, (hid_get (s P _ (by rw [hid_ne x.ne.symm]; exact h1))).2, h2, fun pos c e => ?_⟩
  obtain ⟨a, e1, e2, e3⟩ := h3 pos c e
  have ab : a ≠ b := fun z => by subst z; rw [hb] at e3; cases e3
  exact ⟨a, e1, e2, (hid_get (s a _ (by rw [hid_ne ab]; exact e3))).2⟩
/-- the table grew -/
theorem Two.grown {H H' : Hp} {b P : Addr} {q : Str} (x : Two H b P q) (s : Same (hid H P) (hid H' P)) (t : TabOk H' P q) : Two H' b P q := by
  refine ⟨?_, t⟩
  obtain ⟨n, h, hb⟩ := x.box
  exact ⟨n, h, (hid_get (s b _ (by rw [hid_ne x.ne]; exact hb))).2⟩
theorem Two.view {H : Hp} {b P : Addr} {q : Str} (x : Two H b P q) {d : PyData} {v : V} (h : Rep (hid H b) d v) : Rep (V2 H b P) d v := by
  obtain ⟨ps, h1, _⟩ := x.tab
  exact Rep.hidTbl (ps := ps) (by rw [hid_ne x.ne.symm]; exact h1) h
theorem Same.v2 {H H' : Hp} (b P : Addr) (s : Same H H') : Same (V2 H b P) (V2 H' b P) := (s.hid b).hid P
theorem Same.v2b {H H' : Hp} {b P : Addr} (s : Same (L2.hid H b) (L2.hid H' b)) : Same (V2 H b P) (V2 H' b P) := s.hid P
theorem Same.v2t {H H' : Hp} {b P : Addr} (s : Same (L2.hid H P) (L2.hid H' P)) : Same (V2 H b P) (V2 H' b P) := by
  show Same (L2.hid (L2.hid H b) P) (L2.hid (L2.hid H' b) P)
  rw [hid_comm H b P, hid_comm H' b P]
  exact s.hid b
theorem v2_same (H : Hp) (b P : Addr) : Same (V2 H b P) H := (hid_same _ P).trans (hid_same H b)
theorem v2_b (H : Hp) (b P : Addr) : Same (V2 H b P) (hid H b) := hid_same _ P
theorem v2_t (H : Hp) (b P : Addr) : Same (V2 H b P) (hid H P) := by
  show Same (L2.hid (L2.hid H b) P) (L2.hid H P)
  rw [hid_comm H b P]
  exact hid_same _ b
theorem v2_up {H : Hp} {b P a : Addr} {o : HO} (h : a ≠ b) (h2 : a ≠ P) : V2 (upd H a o) b P a = some o := by
  show hid (hid (upd H a o) b) P a = _
  rw [hid_ne h2, hid_ne h, upd_same]
theorem Two.far {H : Hp} {b P a : Addr} {q : Str} (x : Two H b P q) (h : H a = none) : a ≠ b ∧ a ≠ P := ⟨x.box.far h, E2.TabOk.far x.tab h⟩
theorem Two.new {H : Hp} {b P a : Addr} {q : Str} {o : HO} (x : Two H b P q) (h : H a = none) : V2 (upd H a o) b P a = some o := v2_up (x.far h).1 (x.far h).2
theorem Two.lit {H H' N : Hp} {b P : Addr} {q : Str} (x : Two H b P q) (n : NewIn H H' N) : Same N (V2 H' b P) := fun c o e => by
  obtain ⟨h1, h2⟩ := n c o e
  have := x.far h1
  show hid (hid H' b) P c = _
  rw [hid_ne this.2, hid_ne this.1]
  exact h2
end L2
namespace E2
open PySem L2
theorem int_small {i : Int} (h : fine (.int i) = true) : PyData.showable (.int i) = true ∧ PyData.intsShort 31 (.int i) = true := by
  simp only [fine, decide_eq_true_eq] at h
  have all : ∀ i ∈ ([0, 1, -1, 7, 10 ^ 29] : List Int), PyData.showable (.int i) = true ∧ PyData.intsShort 31 (.int i) = true := by decide +kernel
  exact all i h
mutual
theorem show_fine : ∀ {d : PyData}, fine d = true → d.showable = true ∧ d.intsShort 31 = true
  | .none, _ => by simp [PyData.showable, PyData.intsShort]
  | .bool _, _ => by simp [PyData.showable, PyData.intsShort]
  | .int _, h => int_small h
  | .str x, h => by simp [PyData.showable, PyData.intsShort]
  | .tuple ds, h => by simp only [PyData.showable, PyData.intsShort]; exact show_fines (fine_tup h).1
  | .list ds, h => by simp only [fine, Bool.and_eq_true] at h; simp only [PyData.showable, PyData.intsShort]; exact show_fines h.1
  | .dict _, h => by simp [fine] at h
theorem show_fines : ∀ {ds : List PyData}, fines ds = true → PyData.showableAll ds = true ∧ PyData.intsShortAll 31 ds = true
  | [], _ => by simp [PyData.showableAll, PyData.intsShortAll]
  | d :: ds, h => by
    simp only [fines, Bool.and_eq_true] at h
    simp only [PyData.showableAll, PyData.intsShortAll, Bool.and_eq_true]
    exact ⟨⟨(show_fine h.1).1, (show_fines h.2).1⟩, (show_fine h.1).2, (show_fines h.2).2⟩
end
theorem Ok.shown {n m : Nat} {d : PyData} (o : Ok n m d) (h : n ≤ 10000) : d.shown.length ≤ sizeLine := by
  have h1 := PyData.shown_le 31 (by decide) d (PyData.leavesShort_of_canLay0 31 d (lay_fine o.f) (show_fine o.f).2)
  have h2 := o.w
  exact Nat.le_trans (by omega : _ ≤ 400000) (by decide)
theorem dct_shown : dct.showable = true ∧ dct.depth ≤ 20 ∧ dct.shown.length ≤ sizeLine := by decide +kernel
theorem nil_shown : (PyData.dict []).showable = true ∧ (PyData.dict []).depth ≤ 20 ∧ (PyData.dict []).shown.length ≤ sizeLine := by decide +kernel
theorem two_shown : ∀ x y : Bool, (PyData.list [.bool x, .bool y]).showable = true ∧ dOk (.list [.bool x, .bool y]) = true ∧ (PyData.list [.bool x, .bool y]).shown.length ≤ sizeLine := by decide +kernel
def rShow : List V → Hp → VK → Prop := fun xs H Q => rRepr xs H Q ∨ rReprK xs H Q
theorem rep_of {H : Hp} {d : PyData} {v : V} {Q : VK} (h : Rep H d v) (o : OkD 10000 10 d) (q : Q (.str d.shown) H) : rShow [v] H Q := by
  rcases o with o | e | e
  · exact .inl ⟨d, v, rfl, h, (show_fine o.f).1, (o.good (by decide)).ok, o.shown (Nat.le_refl _), q⟩
  · subst e
    exact .inr ⟨_, v, rfl, h, nil_shown.1, nil_shown.2.1, nil_shown.2.2, q⟩
  · subst e
    exact .inr ⟨_, v, rfl, h, dct_shown.1, dct_shown.2.1, dct_shown.2.2, q⟩
section
theorem call_rep {X : Cx} {k : Nat} (hr : Room k X.A) : CallR X (.builtin "repr") rShow := CallR.or (call_repr hr) (call_reprK hr)
theorem pe_rep {X : Cx} {k : Nat} {e : Expr} {te : TE} {p pos : Pos} (hr : Room k X.A) (B : Bl X.mg) (h : PE X e te) (g1 : Gl X "repr" := by rfl) (hs : starEach [e] X.env = (false, eval e X.env) :: starEach [] X.env := by rfl) : PE X (.Call (.Name "repr" p) [e] [] pos) (tCB rShow (tCons te tNil)) :=
  pe_callB (call_rep hr) g1 (B _ (by decide)) bt_repr (pa_cons h pa_nil hs) (by decide) (by decide) hs rfl
end
end E2

set_option Elab.async false
set_option linter.all false
set_option maxRecDepth 100000
namespace E2
open PySem L2
abbrev sRight : Stmt := top 43
abbrev NR : List Str := ["_law_box_here", "_law_web", "_law_ahead", "_law_name", "_law_dues", "_law_nth", "_law_told", "_law_bad"]
theorem sc43 : FnScope NR ["_law_box_here"] (defScope sRight) := ⟨rfl, rfl, rfl, by decide +kernel, rfl, by decide +kernel, by decide +kernel⟩
theorem nd43 : (["_law_one", "_law_other", "_law_box_here", "_law_web", "_law_ahead", "_law_name", "_law_dues", "_law_nth", "_law_told", "_law_bad"] : List Str).Nodup := by decide +kernel
def forIter : Stmt → Expr
  | .For _ e _ _ _ => e
  | _ => .Constant .none 0 ⟨0, 0, 0, 0⟩
def forBody : Stmt → List Stmt
  | .For _ _ b _ _ => b
  | _ => []
def forPos : Stmt → Pos
  | .For _ _ _ _ p => p
  | _ => ⟨0, 0, 0, 0⟩
def forTg : Stmt → Pos
  | .For (.Name _ p) _ _ _ _ => p
  | _ => ⟨0, 0, 0, 0⟩
abbrev stR (i : Nat) : Stmt := nth (defBody sRight) i
@[irreducible] def stF : Stmt := stR 3
@[irreducible] def eF : Expr := forIter (stR 3)
@[irreducible] def pF : Pos := forPos (stR 3)
@[irreducible] def qF : Pos := forTg (stR 3)
abbrev bF : List Stmt := forBody (stR 3)
theorem bodyR : defBody sRight = [stR 0, stR 1, stR 2, stF, stR 4, stR 5] := by kernel_rfl
theorem stF_eq : stF = .For (.Name "_law_bad" qF) eF bF [] pF := by kernel_rfl
def bads : List PyData := [.str "", .str "abcdefg", .str "q", .str "A", .none, .int 0, .tuple [.str "a"], .list [.str "a"], .dict [], .bool true]
theorem litF : Lit 6 eF (.list bads) := Lit.of (by kernel_rfl)
def lstEs : Expr → List Expr
  | .List es _ => es
  | _ => []
def lstP : Expr → Pos
  | .List _ p => p
  | _ => ⟨0, 0, 0, 0⟩
@[irreducible] def esF : List Expr := lstEs (forIter (stR 3))
@[irreducible] def lF : Pos := lstP (forIter (stR 3))
theorem eF_eq : eF = .List esF lF := by kernel_rfl
theorem bads_ok : ∀ d ∈ bads, OkD 100 4 d := by
  have h : ∀ d ∈ bads, (fine d = true ∧ d.depth ≤ 4 ∧ d.weight ≤ 100) ∨ isDct d = true := by decide +kernel
  exact fun d m => (h d m).imp (fun o => ⟨o.1, o.2.1, o.2.2⟩) isDct_eq
theorem bads_no : ∀ d ∈ bads, nameIn words d = false := by decide +kernel
theorem nameIn_sub {ns : List Str} {d : PyData} (hw : ∀ x ∈ ns, x ∈ words) (h : nameIn words d = false) : nameIn ns d = false := by
  cases d with
  | str x =>
    simp only [nameIn, decide_eq_false_iff_not] at h ⊢
    exact fun m => h (hw x m)
  | _ => rfl
theorem OkD.any {n m : Nat} {d : PyData} (o : OkD n m d) (h : m ≤ 20) : Any d := by
  rcases o with o | e | e
  · exact .inl (o.good h)
  · exact .inr ⟨_, e⟩
  · exact .inr ⟨_, e⟩
theorem twice_ok : dOk (.list [.tuple [.str "name"], .tuple [.str "name"]]) = true ∧ dOk (.list [.tuple [.str "web"], .tuple [.str "web"]]) = true := by decide +kernel
theorem twice_eq : PyData.eqv (.list [.tuple [.str "name"], .tuple [.str "name"]]) (.list [.tuple [.str "name"], .tuple [.str "name"]]) = true ∧ PyData.eqv (.list [.tuple [.str "web"], .tuple [.str "web"]]) (.list [.tuple [.str "web"], .tuple [.str "web"]]) = true := by decide +kernel
theorem words0 : wordAt 0 = "web" ∧ wordAt 2 = "name" := by decide +kernel
theorem Same.gone {H H' : Hp} {a : Addr} (s : Same H H') (h : H' a = none) : H a = none := by
  cases e : H a with
  | none => rfl
  | some o => rw [s a o e] at h; cases h
theorem stk_ok {CW CN : Addr} {sel : List (Str × Str) → Str → List Str} {H : Hp} {Q : VK} {E : XK} {ns : List Str} {ps : List (Str × Str)} {v : V} {x : Str} (h : Rep H (webD ns ps) v) (g : Good (webD ns ps)) (hw : isWeb (webD ns ps) = true) (hx : x ∈ ns)
    (k : ∀ H' l, Same H H' → H' l = none → Q (.ref l) (upd H' l (.lst ((sel ps x).map V.str)))) : spStk CW CN sel [v, .str x] H Q E := by
  refine ⟨webD ns ps, .str x, v, .str x, rfl, h, .inl g, rfl, .inl ((good_names g).mem (List.mem_map.mpr ⟨x, hx, rfl⟩)), fun z => ?_, fun ns' ps' _ e => ?_⟩
  · rw [hw] at z; cases z
  · obtain ⟨rfl, rfl⟩ := webD_inj e
    refine ⟨fun z => ?_, fun x' ex hx' H' l s hl => ?_⟩
    · simp [nameIn, hx] at z
    · cases ex
      exact k H' l s hl
theorem sel_ok {ns : List Str} {ps : List (Str × Str)} {x : Str} (hw : ∀ x ∈ ns, x ∈ words) (hl : ps.length ≤ 144) (hm : ∀ p ∈ ps, p.1 ∈ ns ∧ p.2 ∈ ns) :
    (strikersOf ps x).length ≤ 144 ∧ (struckOf ps x).length ≤ 144 ∧ (∀ y ∈ strikersOf ps x, y ∈ words) ∧ ∀ y ∈ struckOf ps x, y ∈ words := by
  unfold strikersOf struckOf
  refine ⟨?_, ?_, fun y m => ?_, fun y m => ?_⟩
  · rw [List.length_map]; exact Nat.le_trans (List.length_filter_le _ _) hl
  · rw [List.length_map]; exact Nat.le_trans (List.length_filter_le _ _) hl
  · obtain ⟨p, mp, rfl⟩ := List.mem_map.mp m
    exact hw _ (hm p (List.mem_filter.mp mp).1).1
  · obtain ⟨p, mp, rfl⟩ := List.mem_map.mp m
    exact hw _ (hm p (List.mem_filter.mp mp).1).2
theorem two_lists {A B : List Str} (ha : A.length ≤ 144) (hb : B.length ≤ 144) (wa : ∀ y ∈ A, y ∈ words) (wb : ∀ y ∈ B, y ∈ words) : OkD 10000 10 (.list [.list (A.map .str), .list (B.map .str)]) := by
  have o1 := ((oks_words wa).mono (n' := 1008) (m' := 1) (by omega) (by decide)).lst (by decide)
  have o2 := ((oks_words wb).mono (n' := 1008) (m' := 1) (by omega) (by decide)).lst (by decide)
  have := ((Oks.one o1).append (Oks.one o2)).lst (by decide)
  exact .inl (this.mono (by decide) (by decide))
def spRight (Pt : Addr) : Sp := fun vs H Q _ => ∃ b, vs = [.ref b] ∧ Two H b Pt qBoth ∧ ∀ H', Same (V2 H b Pt) (V2 H' b Pt) → TabOk H' Pt qBoth → Q (.bl true) H'
end E2

set_option Elab.async false
set_option linter.all false
set_option maxRecDepth 100000
namespace E2
open PySem L2
section
variable {P : Program} {w : World} {K : PySem.W.Frag} {mg : Str → Option Value} {base : Heap} {cs : Nat → Addr}
set_option maxHeartbeats 4000000 in
theorem ok_right {f : Addr} {fd : FuncData} {Pt : Addr} (F : Fun K "_law_right" "_law_right" sRight f fd) (T : Txt mg) (FW : HasFn P w K mg base "_law_wide" ["_law_box_here", "_law_most_names"] 2 spWideW) (FO : HasFn P w K mg base "_law_odd" ["_law_box_here"] 2 spOdd)
    (FB : HasFn P w K mg base "_law_bent" ["_law_box_here", "_law_thing"] 5 (spBent 3)) (FL : HasFn P w K mg base "_law_is_web" ["_law_thing"] 2 (spTop isWeb))
    (F1 : HasFnX P w K mg base "strikers" ["web", "name"] 5 (spStk (cs 0) (cs 2) strikersOf)) (F2 : HasFnX P w K mg base "struck" ["web", "name"] 5 (spStk (cs 0) (cs 2) struckOf))
    (FD : HasFn P w K mg base "_law_both" ["_law_web", "_law_name"] 8 (spBoth Pt)) :
    FnOk P w K mg base CX0 9 f fd ["_law_box_here"] (spRight Pt) := by
  refine F.ok sc43 (fun vs H Q E h => ?_) (fun cdv A outer s H vs Q E hr h => ?_)
  · obtain ⟨_, rfl, _⟩ := h
    rfl
  · obtain ⟨b, rfl, tw, k⟩ := h
    have hr2 : Room 2 (A.deeper _) := hr.mono (by decide)
    have hr5 : Room 5 (A.deeper _) := hr.mono (by decide)
    rw [bodyR]
    refine ⟨_, pss_cons (ps_set (i := 1) sc43.nd rfl (Or.inl rfl) (pe_fn FW hr2 (by rfl) (pa_cons (pv 0) (pa_cons pe_int pa_nil))))
      (pss_cons (ps_set (i := 2) sc43.nd rfl (Or.inl rfl) (pe_rep hr T.b (pv 1)))
      (pss_cons (ps_for PassesOwn.never rfl (pi_tup (pe_ix ix_tup (pv 1) pe_int (fun _ _ => rfl))) (pg_name (i := 3) sc43.nd rfl (Or.inr rfl))
        (pss_cons (ps_set (i := 4) sc43.nd rfl (Or.inl rfl) (pe_lst (pa_cons (pe_comp ["_law_one", "_law_other"] rfl rfl (pi_tup (pe_ix ix_tup (pv 1) pe_int (fun _ _ => rfl))) (fun _ _ _ _ _ => pg_pair K 0 1 nd43 rfl rfl rfl rfl (Or.inl rfl) (Or.inl rfl) rfl rfl) (fun _ _ _ _ _ => pts_one (pt_cmpR op_eq (pv 1) (pv 5) (nomark _))) (fun _ _ _ _ _ => pv 0))
            (pa_cons (pe_comp ["_law_one", "_law_other"] rfl rfl (pi_tup (pe_ix ix_tup (pv 1) pe_int (fun _ _ => rfl))) (fun _ _ _ _ _ => pg_pair K 0 1 nd43 rfl rfl rfl rfl (Or.inl rfl) (Or.inl rfl) rfl rfl) (fun _ _ _ _ _ => pts_one (pt_cmpR op_eq (pv 0) (pv 5) (nomark _))) (fun _ _ _ _ _ => pv 1)) pa_nil))))
        (pss_one (ps_for PassesOwn.never rfl (pi_range1 (by rfl) (T.b _ (by decide)) (pa_cons pe_int pa_nil)) (pg_name (i := 5) sc43.nd rfl (Or.inl rfl))
          (pss_cons (ps_set (i := 6) sc43.nd rfl (Or.inl rfl) (pe_lst (pa_cons (pe_fnN F1 hr5 (by rfl) (pa_cons (pv 1) (pa_cons (pv 3) pa_nil))) (pa_cons (pe_fnN F2 hr5 (by rfl) (pa_cons (pv 1) (pa_cons (pv 3) pa_nil))) pa_nil))))
          (pss_cons (ps_if (pt_cmpR op_ne (pe_rep hr T.b (pv 6)) (pe_rep hr T.b (pv 4)) (nomark _)) (pss_one (ps_ret pe_bl)) pss_nil)
          (pss_cons (ps_expr (pe_bm PySem.F.plainAttrs_list PySem.F.slot_list_append PySem.F.type_list_append mt_append (pe_ix ix_list (pv 6) pe_int (fun _ _ => rfl)) (pa_cons pe_str pa_nil)))
          (pss_one (ps_expr (pe_bm0 PySem.F.plainAttrs_list PySem.F.slot_list_clear PySem.F.type_list_clear mt_clear (pe_ix ix_list (pv 6) pe_int (fun _ _ => rfl))))))))))))
      (pss_cons (st := stF) (t := tFor (iList K (tLit (.list bads))) (gName 7) _) (by
        rw [stF_eq]
        exact ps_for PassesOwn.never rfl (pi_list (pe_lit 6 litF)) (pg_name (i := 7) sc43.nd rfl (Or.inl rfl))
          (pss_one (ps_if (pt_cmpR (op_neD hr) (pe_fn FD hr (by rfl) (pa_cons (pv 1) (pa_cons (pv 7) pa_nil))) (pe_op op_rep (pe_lst (pa_cons (pe_tup (pa_cons pe_str pa_nil)) pa_nil)) pe_int) (nomark _)) (pss_one (ps_ret pe_bl)) pss_nil)) (by intro _; rw [eF_eq]; rfl))
      (pss_cons (ps_for PassesOwn.never rfl (pi_list (pe_lst (pa_cons pe_non (pa_cons (pe_tup pa_nil) (pa_cons (pe_lst (pa_cons (pv 1) pa_nil)) (pa_cons (pe_ix ix_tup (pv 1) pe_int (fun _ _ => rfl)) (pa_cons (pe_tup (pa_cons (pe_ix ix_tup (pv 1) pe_int (fun _ _ => rfl)) pa_nil))
            (pa_cons (pe_fn FB hr5 (by rfl) (pa_cons (pv 0) (pa_cons (pv 1) pa_nil))) (pa_cons (pe_fn FO hr2 (by rfl) (pa_cons (pv 0) pa_nil)) pa_nil))))))))) (pg_name (i := 7) sc43.nd rfl (Or.inl rfl))
          (pss_one (ps_if (PW.pt (pw_and (pt_not (pt_val (pe_fn FL hr2 (by rfl) (pa_cons (pv 7) pa_nil)))) (pw_and1 (pt_cmpR (op_neD hr) (pe_fn FD hr (by rfl) (pa_cons (pv 7) (pa_cons pe_non pa_nil))) (pe_op op_rep (pe_lst (pa_cons (pe_tup (pa_cons pe_str pa_nil)) pa_nil)) pe_int) (nomark _))))) (pss_one (ps_ret pe_bl)) pss_nil)))
      (pss_one (ps_ret (pe_cmpR op_eq (pe_rep hr T.b (pv 1)) (pv 2) (nomark _)))))))), ?_⟩
    refine ⟨_, rfl, b, rfl, tw.box, fun wv ns ps H1 s1 b1 r1 o1 hw l1 n1 lp mp => ?_⟩
    have tw1 := tw.drawn s1 b1
    have rw1 : Rep (V2 H1 b Pt) (webD ns ps) wv := tw1.view r1
    have sA : Same (V2 H b Pt) (V2 H1 b Pt) := s1.v2b
    have rH1 : Rep H1 (webD ns ps) wv := rw1.same (v2_same H1 b Pt)
    have gw : Good (webD ns ps) := o1.good (by decide)
    have okw : OkD 10000 10 (webD ns ps) := .inl (o1.mono (by decide) (by decide))
    refine ⟨wv, rfl, rep_of rH1 okw ?_⟩
    obtain ⟨a, xs, rfl, ha', x1, r2, rfl, hx1, y1, r3, rfl, hy1, e3⟩ := id rw1
    cases e3
    have ha := v2_same H1 b Pt _ _ ha'
    obtain ⟨tn, tns, rfl, htn', rtn⟩ := id hx1
    have etn : tns = ns.map V.str := reps_strs rtn
    subst etn
    have htn := v2_same H1 b Pt _ _ htn'
    obtain ⟨tp, zs, rfl, hb', rz'⟩ := id hy1
    have hb := v2_same H1 b Pt _ _ hb'
    have rz := rz'.same (v2_same H1 b Pt)
    have lz : zs.length = ps.length := by have := rz.length; rw [List.length_map] at this; exact this
    refine ⟨_, rfl, a, _, 0, .ref tn, rfl, rfl, SqT.of ha, atI_0 _ _, tn, rfl, ⟨_, SqT.of htn⟩, for_tup (K := K) (xs := ns.map V.str) (fun i σ H' => Same H1 H' ∧ ∃ x3 x4 x5 x6, σ = [some (.ref b), some (.ref a), some (.str (webD ns ps).shown), x3, x4, x5, x6, none]) ⟨Same.refl _, none, none, none, none, rfl⟩ (fun i σ H' hi ⟨sm, _⟩ => SqT.of (sm _ _ htn)) (fun i x σ H' hx ⟨sm, x3, x4, x5, x6, e⟩ => ?_) fun σ H' ⟨sm, x3, x4, x5, x6, e⟩ => ?_⟩
    · subst e
      obtain ⟨nm, enm, rfl⟩ : ∃ nm, ns[i]? = some nm ∧ x = .str nm := by
        rw [List.getElem?_map] at hx
        cases e : ns[i]? with
        | none => rw [e] at hx; cases hx
        | some nm => rw [e] at hx; cases hx; exact ⟨nm, rfl, rfl⟩
      have hnm : nm ∈ ns := List.mem_of_getElem? enm
      have gnm : Good (.str nm) := (good_names gw).mem (List.mem_map.mpr ⟨nm, hnm, rfl⟩)
      obtain ⟨lA, lB, wA, wB⟩ := sel_ok (x := nm) n1 lp mp
      refine ⟨_, rfl, a, _, 1, .ref tp, rfl, rfl, SqT.of (sm _ _ ha), atI_1 _ _ _, tp, rfl, ⟨_, SqT.of (sm _ _ hb)⟩, comp_tup (xs := zs) (fun i ys H2 => H2 = H' ∧ ys = (strikersOf (ps.take i) nm).map V.str) ⟨rfl, rfl⟩ (fun i ys H2 hi ⟨e1, e2⟩ => ⟨by rw [e1]; exact SqT.of (sm _ _ hb), ?_⟩) (fun i z ys H2 hz ⟨e1, e2⟩ => ?_) fun ys H2 ⟨e1, e2⟩ l3 hl3 => ?_⟩
      · rw [e2, List.length_map]
        unfold strikersOf
        rw [List.length_map]
        refine Nat.le_trans (List.length_filter_le _ _) ?_
        rw [List.length_take]
        exact Nat.le_trans (Nat.min_le_right _ _) (Nat.le_trans lp (by decide))
      · subst e1
        obtain ⟨p1, p2, pa, ep, rfl, hp⟩ := pairs_get (rz.same sm) hz
        refine ⟨pa, _, rfl, SqT.of hp, rfl, _, _, rfl, _, [], rfl, rfl, _, rfl, _, rfl, rfl, _, rfl, ?_⟩
        rw [dec_str]
        have et : ps.take (i + 1) = ps.take i ++ [(p1, p2)] := take_snoc _ _ _ ep
        refine ite2 (fun c => ⟨_, rfl, rfl, ?_⟩) (fun c => ⟨rfl, ?_⟩)
        · rw [e2, et]
          unfold strikersOf
          rw [List.filter_append, List.map_append, List.map_append, List.filter_cons_of_pos (by simpa using c)]
          rfl
        · rw [e2, et]
          unfold strikersOf
          rw [List.filter_append, List.map_append, List.filter_cons_of_neg (by simpa using c)]
          simp
      · subst e1
        rw [List.take_of_length_le (by rw [lz]; exact Nat.le_refl _)] at e2
        subst e2
        have s3 := Same.new (o := .lst ((strikersOf ps nm).map V.str)) hl3
        have h3 : (upd H2 l3 (.lst ((strikersOf ps nm).map V.str))) l3 = some (.lst ((strikersOf ps nm).map V.str)) := upd_same
        generalize upd H2 l3 (.lst ((strikersOf ps nm).map V.str)) = H3 at s3 h3 ⊢
        have sm3 := sm.trans s3
        refine ⟨_, rfl, a, _, 1, .ref tp, rfl, rfl, SqT.of (sm3 _ _ ha), atI_1 _ _ _, tp, rfl, ⟨_, SqT.of (sm3 _ _ hb)⟩, comp_tup (xs := zs) (fun i ys H2 => H2 = H3 ∧ ys = (struckOf (ps.take i) nm).map V.str) ⟨rfl, rfl⟩ (fun i ys H2 hi ⟨e1, e2⟩ => ⟨by rw [e1]; exact SqT.of (sm3 _ _ hb), ?_⟩) (fun i z ys H2 hz ⟨e1, e2⟩ => ?_) fun ys H4 ⟨e1, e2⟩ l4 hl4 => ?_⟩
        · rw [e2, List.length_map]
          unfold struckOf
          rw [List.length_map]
          refine Nat.le_trans (List.length_filter_le _ _) ?_
          rw [List.length_take]
          exact Nat.le_trans (Nat.min_le_right _ _) (Nat.le_trans lp (by decide))
        · subst e1
          obtain ⟨p1, p2, pa, ep, rfl, hp⟩ := pairs_get (rz.same sm3) hz
          refine ⟨pa, _, rfl, SqT.of hp, rfl, _, _, rfl, _, [], rfl, rfl, _, rfl, _, rfl, rfl, _, rfl, ?_⟩
          rw [dec_str]
          have et : ps.take (i + 1) = ps.take i ++ [(p1, p2)] := take_snoc _ _ _ ep
          refine ite2 (fun c => ⟨_, rfl, rfl, ?_⟩) (fun c => ⟨rfl, ?_⟩)
          · rw [e2, et]
            unfold struckOf
            rw [List.filter_append, List.map_append, List.map_append, List.filter_cons_of_pos (by simpa using c)]
            rfl
          · rw [e2, et]
            unfold struckOf
            rw [List.filter_append, List.map_append, List.filter_cons_of_neg (by simpa using c)]
            simp
        · subst e1
          rw [List.take_of_length_le (by rw [lz]; exact Nat.le_refl _)] at e2
          subst e2
          have s4 := Same.new (o := .lst ((struckOf ps nm).map V.str)) hl4
          have h4 : (upd H4 l4 (.lst ((struckOf ps nm).map V.str))) l4 = some (.lst ((struckOf ps nm).map V.str)) := upd_same
          have h34 := s4 _ _ h3
          generalize upd H4 l4 (.lst ((struckOf ps nm).map V.str)) = H5 at s4 h4 h34 ⊢
          refine ⟨by show 2 ≤ sizeLine; decide, fun l5 hl5 => ?_⟩
          have s5 := Same.new (o := .lst [.ref l3, .ref l4]) hl5
          have h5 : (upd H5 l5 (.lst [.ref l3, .ref l4])) l5 = some (.lst [.ref l3, .ref l4]) := upd_same
          have rd5 : Rep (upd H5 l5 (.lst [.ref l3, .ref l4])) (.list [.list ((strikersOf ps nm).map .str), .list ((struckOf ps nm).map .str)]) (.ref l5) :=
            ⟨l5, _, rfl, h5, .cons ⟨l3, _, rfl, s5 _ _ h34, strs_reps⟩ (.one ⟨l4, _, rfl, s5 _ _ h4, strs_reps⟩)⟩
          have sm5 := (sm3.trans s4).trans s5
          show tSeq _ _ _ [some (.ref b), some (.ref a), some (.str (webD ns ps).shown), some (.str nm), some (.ref l5), x5, x6, none] _
          generalize upd H5 l5 (.lst [.ref l3, .ref l4]) = H6 at rd5 sm5 ⊢
          have okD := two_lists lA lB wA wB
          refine ⟨2, rfl, by decide, by decide, for_range (n := 2) (fun j σ H' => Same H6 H' ∧ ∃ x5 x6, σ = [some (.ref b), some (.ref a), some (.str (webD ns ps).shown), some (.str nm), some (.ref l5), x5, x6, none]) ⟨Same.refl _, x5, x6, rfl⟩ (fun j σ H' hj ⟨sm, x5, x6, e⟩ => ?_) fun σ H' ⟨sm, x5, x6, e⟩ => ⟨sm5.trans sm, _, _, _, _, e⟩⟩
          subst e
          have rwj := (rH1.same sm5).same sm
          refine ⟨_, rfl, _, rfl, webD ns ps, .str nm, _, _, rfl, rwj, .inl gw, rfl, .inl gnm, fun z => absurd z (by rw [hw]; decide), fun ns' ps' _ e => ?_⟩
          have e' := webD_inj e
          rw [← e'.1, ← e'.2]
          refine ⟨fun z => absurd z (by simp [nameIn, hnm]), fun x' ex hx' H7 l7 s7 hl7 => ?_⟩
          cases ex
          have s7' := Same.new (o := .lst ((strikersOf ps nm).map V.str)) hl7
          have h7 : (upd H7 l7 (.lst ((strikersOf ps nm).map V.str))) l7 = some (.lst ((strikersOf ps nm).map V.str)) := upd_same
          have n7 : H6 l7 = none := Same.gone (sm.trans s7) hl7
          have s67 := (sm.trans s7).trans s7'
          have rw7 := (rwj.same s7).same s7'
          generalize upd H7 l7 (.lst ((strikersOf ps nm).map V.str)) = H8 at s7' h7 s67 rw7 ⊢
          refine ⟨_, rfl, _, rfl, webD ns ps, .str nm, _, _, rfl, rw7, .inl gw, rfl, .inl gnm, fun z => absurd z (by rw [hw]; decide), fun ns' ps' _ e => ?_⟩
          have e' := webD_inj e
          rw [← e'.1, ← e'.2]
          refine ⟨fun z => absurd z (by simp [nameIn, hnm]), fun x' ex hx' H9 l9 s9 hl9 => ⟨by show 2 ≤ sizeLine; decide, fun l10 hl10 => ?_⟩⟩
          cases ex
          have l710 : l7 ≠ l10 := fun z => by subst z; rw [(Same.new hl9) _ _ (s9 _ _ h7)] at hl10; cases hl10
          have s9' := Same.new (o := .lst ((struckOf ps nm).map V.str)) hl9
          have h9 : (upd H9 l9 (.lst ((struckOf ps nm).map V.str))) l9 = some (.lst ((struckOf ps nm).map V.str)) := upd_same
          have n9 : H6 l9 = none := Same.gone (s67.trans s9) hl9
          have n79 : l7 ≠ l9 := fun z => by subst z; rw [s9 _ _ h7] at hl9; cases hl9
          have s10 := Same.new (o := .lst [.ref l7, .ref l9]) hl10
          have hh7 := s10 _ _ (s9' _ _ (s9 _ _ h7))
          have hh9 := s10 _ _ h9
          have hh10 : (upd (upd H9 l9 (.lst ((struckOf ps nm).map V.str))) l10 (.lst [.ref l7, .ref l9])) l10 = some (.lst [.ref l7, .ref l9]) := upd_same
          have s610 := ((s67.trans s9).trans s9').trans s10
          show tSeq _ _ _ [some (.ref b), some (.ref a), some (.str (webD ns ps).shown), some (.str nm), some (.ref l5), some (.int (0 + j)), some (.ref l10), none] _
          generalize upd (upd H9 l9 (.lst ((struckOf ps nm).map V.str))) l10 (.lst [.ref l7, .ref l9]) = H10 at hh7 hh9 hh10 s610 ⊢
          have rt : Rep H10 (.list [.list ((strikersOf ps nm).map .str), .list ((struckOf ps nm).map .str)]) (.ref l10) :=
            ⟨l10, _, rfl, hh10, .cons ⟨l7, _, rfl, hh7, strs_reps⟩ (.one ⟨l9, _, rfl, hh9, strs_reps⟩)⟩
          refine ⟨_, rfl, rep_of rt okD ⟨_, rfl, rep_of (rd5.same s610) okD ⟨rfl, _, rfl, ?_⟩⟩⟩
          rw [decide_eq_true rfl]
          refine iteF ?_
          refine ⟨_, rfl, l10, _, 0, .ref l7, rfl, rfl, SqL.of hh10, atI_0 _ _, .inl ⟨rfl, _, SqL.of hh7⟩, l7, _, _, rfl, rfl, hh7, by rw [List.length_map]; exact Nat.lt_of_le_of_lt lA (by decide), ?_⟩
          have hh9' : (upd H10 l7 (.lst ((strikersOf ps nm).map V.str ++ [.str "a"]))) l9 = some (.lst ((struckOf ps nm).map V.str)) := by rw [upd_ne n79.symm]; exact hh9
          refine ⟨_, rfl, l10, _, 1, .ref l9, rfl, rfl, SqL.of (xs := [.ref l7, .ref l9]) (by rw [upd_ne l710.symm]; exact hh10), atI_1 _ _ _, .inl ⟨rfl, _, SqL.of hh9'⟩, l9, _, rfl, rfl, hh9', (s610.put n7).put n9, _, _, rfl⟩
    · subst e
      have tw2 := tw1.same sm
      have sB := sA.trans (sm.v2 b Pt)
      have rw2 := rw1.same (sm.v2 b Pt)
      have hx2 := hx1.same (sm.v2 b Pt)
      have ha2 := (sm.v2 b Pt) _ _ ha'
      intro rl H3 N3 s3 n3 h3
      obtain ⟨la, lv, rfl, hla, rl⟩ := h3
      have v3 := tw2.lit n3
      have hla3 := v3 _ _ hla
      have rl3 := rl.same v3
      have tw3 := tw2.same s3
      have sC := sB.trans (s3.v2 b Pt)
      have rw3 := rw2.same (s3.v2 b Pt)
      have hx3 := hx2.same (s3.v2 b Pt)
      have ha3 := (s3.v2 b Pt) _ _ ha2
      refine ⟨la, rfl, ⟨_, SqL.of (v2_same _ _ _ _ _ hla3)⟩, for_list (K := K) (xs := lv) (fun i σ H' => Two H' b Pt qBoth ∧ Same (V2 H3 b Pt) (V2 H' b Pt) ∧ ∃ x3 x4 x5 x6 x7, σ = [some (.ref b), some (.ref a), some (.str (webD ns ps).shown), x3, x4, x5, x6, x7])
        ⟨tw3, Same.refl _, _, _, _, _, _, rfl⟩ (fun i σ H' hi ⟨_, sm, _⟩ => SqL.of (v2_same _ _ _ _ _ (sm _ _ hla3))) (fun i x σ H' hx ⟨tw4, sm, x3, x4, x5, x6, x7, e⟩ => ?_) fun σ H' ⟨tw4, sm, x3, x4, x5, x6, x7, e⟩ => ?_⟩
      · subst e
        obtain ⟨d, e1, m1, rx⟩ := Reps.mem (rl3.same sm) hx
        refine ⟨_, rfl, x, rfl, webD ns ps, d, _, _, 2, rfl, (rw3.same sm).same (v2_t H' b Pt), .inl gw, rx.same (v2_t H' b Pt), (bads_ok d m1).any (by decide), tw4.tab, .inr ⟨ns, ps, hw, rfl, nameIn_sub n1 (bads_no d m1), rfl⟩, fun r H4 s4 t4 r4 => ?_⟩
        rw [words0.2] at r4
        have tw5 := tw4.grown s4 t4
        refine ⟨by show 1 ≤ sizeLine; decide, fun p5 hp5 => ⟨by show 1 ≤ sizeLine; decide, fun p6 hp6 => ⟨p6, 2, _, rfl, rfl, upd_same, by decide, by decide, by show 1 * 2 ≤ sizeLine; decide, fun p7 hp7 => ?_⟩⟩⟩
        have s5 := Same.new (o := .tup [.str "name"]) hp5
        have s6 := Same.new (o := .lst [.ref p5]) hp6
        have s7 := Same.new (o := .lst [.ref p5, .ref p5]) hp7
        have s57 := (s5.trans s6).trans s7
        have e5 := (s6.trans s7) _ _ upd_same
        refine ⟨_, .list [.tuple [.str "name"], .tuple [.str "name"]], (r4.same (hid_same H4 Pt)).same s57, ⟨p7, [.ref p5, .ref p5], rfl, upd_same, .cons (d := .tuple [.str "name"]) ⟨p5, [.str "name"], rfl, e5, .one rfl⟩ (.one (d := .tuple [.str "name"]) ⟨p5, [.str "name"], rfl, e5, .one rfl⟩)⟩, twice_ok.1, twice_ok.1, _, rfl, ?_⟩
        rw [twice_eq.1]
        exact iteF ⟨tw5.same s57, sm.trans (s4.v2t.trans (s57.v2 b Pt)), _, _, _, _, _, rfl⟩
      · subst e
        have rw4 := rw3.same sm
        have hx4 := hx3.same sm
        have ha4 := sm _ _ ha3
        have sD := sC.trans sm
        refine ⟨by show 0 ≤ sizeLine; decide, fun p1 hp1 => ?_⟩
        have s1 := Same.new (o := .tup []) hp1
        have h1 := tw4.new (o := .tup []) hp1
        have tw5 := tw4.same s1
        have sE := s1.v2 b Pt
        generalize upd H' p1 (.tup []) = G1 at s1 h1 tw5 sE ⊢
        refine ⟨_, rfl, by show 1 ≤ sizeLine; decide, fun p2 hp2 => ?_⟩
        have s2 := Same.new (o := .lst [.ref a]) hp2
        have h2 := tw5.new (o := .lst [.ref a]) hp2
        have tw6 := tw5.same s2
        have sF := s2.v2 b Pt
        generalize upd G1 p2 (.lst [.ref a]) = G2 at s2 h2 tw6 sF ⊢
        have ha6 := sF _ _ (sE _ _ ha4)
        refine ⟨_, rfl, a, _, 0, .ref tn, rfl, rfl, SqT.of (v2_same _ _ _ _ _ ha6), atI_0 _ _, _, rfl, a, _, 0, .ref tn, rfl, rfl, SqT.of (v2_same _ _ _ _ _ ha6), atI_0 _ _, by show 1 ≤ sizeLine; decide, fun p3 hp3 => ?_⟩
        have s3 := Same.new (o := .tup [.ref tn]) hp3
        have h3 := tw6.new (o := .tup [.ref tn]) hp3
        have tw7 := tw6.same s3
        have sG := s3.v2 b Pt
        have sEG := (sE.trans sF).trans sG
        generalize upd G2 p3 (.tup [.ref tn]) = G3 at s3 h3 tw7 sG sEG ⊢
        have rw7 := rw4.same sEG
        have hx7 := hx4.same sEG
        refine ⟨_, rfl, _, rfl, b, .ref a, webD ns ps, 3000, rfl, tw7.box, rw7.same (v2_b G3 b Pt), o1, by decide, fun bv bd G4 s4 b4 r4 o4 => ?_⟩
        have tw8 := tw7.drawn s4 b4
        have r8 := tw8.view r4
        refine ⟨_, rfl, b, rfl, tw8.box, fun ov od G5 s5 b5 r5 o5 => ?_⟩
        have tw9 := tw8.drawn s5 b5
        have r9 := tw9.view r5
        refine ⟨by show 7 ≤ sizeLine; decide, fun p7 hp7 => ?_⟩
        have s7 := Same.new (o := .lst [.non, .ref p1, .ref p2, .ref tn, .ref p3, bv, ov]) hp7
        have h7 := tw9.new (o := .lst [.non, .ref p1, .ref p2, .ref tn, .ref p3, bv, ov]) hp7
        have tw10 := tw9.same s7
        have sH := s7.v2 b Pt
        have s48 := (s4.v2b (P := Pt)).trans (s5.v2b.trans sH)
        have r10 : Reps (V2 (upd G5 p7 (.lst [.non, .ref p1, .ref p2, .ref tn, .ref p3, bv, ov])) b Pt) [.none, .tuple [], .list [webD ns ps], .tuple (ns.map .str), .tuple [.tuple (ns.map .str)], bd, od] [.non, .ref p1, .ref p2, .ref tn, .ref p3, bv, ov] :=
          .cons rfl (.cons ⟨p1, [], rfl, s48 _ _ (sG _ _ (sF _ _ h1)), rfl⟩ (.cons ⟨p2, [.ref a], rfl, s48 _ _ (sG _ _ h2), .one (rw7.same s48)⟩ (.cons (hx7.same s48) (.cons ⟨p3, [.ref tn], rfl, s48 _ _ h3, .one (hx7.same s48)⟩ (.cons ((r8.same (s5.v2b.trans sH))) (.one (r9.same sH)))))))
        have sI := sD.trans (sEG.trans s48)
        have rwF := rw7.same s48
        generalize upd G5 p7 (.lst [.non, .ref p1, .ref p2, .ref tn, .ref p3, bv, ov]) = G6 at h7 tw10 sH s48 r10 sI rwF ⊢
        have oks : ∀ d ∈ ([.none, .tuple [], .list [webD ns ps], .tuple (ns.map .str), .tuple [.tuple (ns.map .str)], bd, od] : List PyData), Any d := fun d m => by
          have on : Ok 3000 2 (.tuple (ns.map .str)) := ⟨(good_names gw).f, by have := o1.items.d; simp only [PyData.depthAll] at this; omega, by have := o1.items.w; simp only [PyData.weightAll] at this; omega⟩
          simp only [List.mem_cons, List.not_mem_nil, or_false] at m
          rcases m with rfl | rfl | rfl | rfl | rfl | rfl | rfl
          · exact .inl ⟨by decide +kernel, by decide +kernel⟩
          · exact .inl ⟨by decide +kernel, by decide +kernel⟩
          · exact .inl (((Oks.one o1).lst (by decide)).good (by decide))
          · exact .inl (on.good (by decide))
          · exact .inl (((Oks.one on).tup (by decide)).good (by decide))
          · exact .inl (o4.good (by decide))
          · exact o5.any (by decide)
        refine ⟨p7, rfl, ⟨_, SqL.of (v2_same _ _ _ _ _ h7)⟩, for_list (K := K) (xs := [.non, .ref p1, .ref p2, .ref tn, .ref p3, bv, ov]) (fun i σ H' => Two H' b Pt qBoth ∧ Same (V2 G6 b Pt) (V2 H' b Pt) ∧ ∃ x3 x4 x5 x6 x7, σ = [some (.ref b), some (.ref a), some (.str (webD ns ps).shown), x3, x4, x5, x6, x7])
          ⟨tw10, Same.refl _, _, _, _, _, _, rfl⟩ (fun i σ H' hi ⟨_, sm, _⟩ => SqL.of (v2_same _ _ _ _ _ (sm _ _ h7))) (fun i x σ H' hx ⟨twA, sm, x3, x4, x5, x6, x7, e⟩ => ?_) fun σ H' ⟨twA, sm, x3, x4, x5, x6, x7, e⟩ => ?_⟩
        · subst e
          obtain ⟨d, e1, m1, rx⟩ := Reps.mem (r10.same sm) hx
          have ad := oks d m1
          refine ⟨x, rfl, d, x, rfl, rx.same (v2_same H' b Pt), ad, fun HB sb => ⟨_, rfl, ?_⟩⟩
          have twB := twA.same sb
          have rxB := rx.same (sb.v2 b Pt)
          cases hwd : isWeb d with
          | true => exact iteF (iteF ⟨twB, sm.trans (sb.v2 b Pt), _, _, _, _, _, rfl⟩)
          | false =>
            refine iteT ⟨x, rfl, d, .none, _, _, 0, rfl, rxB.same (v2_t HB b Pt), ad, rfl, .inl ⟨by decide +kernel, by decide +kernel⟩, twB.tab, .inl ⟨hwd, rfl⟩, fun r H4 s4 t4 r4 => ?_⟩
            rw [words0.1] at r4
            have twC := twB.grown s4 t4
            refine ⟨by show 1 ≤ sizeLine; decide, fun p5 hp5 => ⟨by show 1 ≤ sizeLine; decide, fun p6 hp6 => ⟨p6, 2, _, rfl, rfl, upd_same, by decide, by decide, by show 1 * 2 ≤ sizeLine; decide, fun p7 hp7 => ?_⟩⟩⟩
            have s5 := Same.new (o := .tup [.str "web"]) hp5
            have s6 := Same.new (o := .lst [.ref p5]) hp6
            have s7 := Same.new (o := .lst [.ref p5, .ref p5]) hp7
            have s57 := (s5.trans s6).trans s7
            have e5 := (s6.trans s7) _ _ upd_same
            refine ⟨_, .list [.tuple [.str "web"], .tuple [.str "web"]], (r4.same (hid_same H4 Pt)).same s57, ⟨p7, [.ref p5, .ref p5], rfl, upd_same, .cons (d := .tuple [.str "web"]) ⟨p5, [.str "web"], rfl, e5, .one rfl⟩ (.one (d := .tuple [.str "web"]) ⟨p5, [.str "web"], rfl, e5, .one rfl⟩)⟩, twice_ok.2, twice_ok.2, _, rfl, ?_⟩
            rw [twice_eq.2]
            exact iteF ⟨twC.same s57, sm.trans ((sb.v2 b Pt).trans (s4.v2t.trans (s57.v2 b Pt))), _, _, _, _, _, rfl⟩
        · subst e
          refine ⟨_, rfl, rep_of ((rwF.same sm).same (v2_same H' b Pt)) okw ⟨_, rfl, rfl, ?_⟩⟩
          rw [decide_eq_true rfl]
          exact k H' (sI.trans sm) twA.tab
end
end E2

set_option Elab.async false
set_option linter.all false
set_option maxRecDepth 100000
namespace E2
open PySem L2
abbrev sLaw : Stmt := top 44
def spLaw (K : PySem.W.Frag) (Pt : Addr) : Sp := fun vs H Q _ => ∃ (a : Addr) (ns : List Int), vs = [.ref a] ∧ SqL K (hid H Pt) a (ns.map V.int) ∧ ns.length ≤ 63 ∧ TabOk H Pt qBoth ∧ ∀ H', Q (.bl true) H'
theorem sc44 : FnScope ["_law_script", "_law_k", "_law_lap"] ["_law_script"] (defScope sLaw) := ⟨rfl, rfl, rfl, by decide +kernel, rfl, by decide +kernel, by decide +kernel⟩
section
variable {P : Program} {w : World} {K : PySem.W.Frag} {mg : Str → Option Value} {base : Heap} {Pt : Addr}
theorem ok_law {f : Addr} {fd : FuncData} (F : Fun K "law" "law" sLaw f fd) (T : Txt mg) (FB : HasFn P w K mg base "_law_box" ["_law_script", "_law_k", "_law_lap"] 2 (spBox K)) (FR : HasFn P w K mg base "_law_right" ["_law_box_here"] 9 (spRight Pt)) :
    FnOk P w K mg base CX0 10 f fd ["_law_script"] (spLaw K Pt) := by
  refine F.ok sc44 (fun vs H Q E h => ?_) (fun cdv A outer s H vs Q E hr h => ?_)
  · obtain ⟨_, _, rfl, _⟩ := h
    rfl
  · obtain ⟨a, ns, rfl, hs, hl, tab, k⟩ := h
    have hr2 : Room 2 (A.deeper _) := hr.mono (by decide)
    refine ⟨_, pss_cons (ps_for PassesOwn.never rfl (pi_range1 (by rfl) (T.b _ (by decide)) (pa_cons (pe_callB (call_max2 rfl) (by rfl) (T.b _ (by decide)) bt_max (pa_cons pe_int (pa_cons (pe_callB (call_min2 rfl) (by rfl) (T.b _ (by decide)) bt_min (pa_cons (pe_lenS T.b (pv 0)) (pa_cons pe_int pa_nil))) pa_nil))) pa_nil)) (pg_name (i := 1) sc44.nd rfl (Or.inl rfl))
        (pss_one (ps_for PassesOwn.never rfl (pi_range1 (by rfl) (T.b _ (by decide)) (pa_cons pe_int pa_nil)) (pg_name (i := 2) sc44.nd rfl (Or.inl rfl))
          (pss_one (ps_if (pt_not (pt_val (pe_fn FR hr (by rfl) (pa_cons (pe_fn FB hr2 (by rfl) (pa_cons (pv 0) (pa_cons (pv 1) (pa_cons (pv 2) pa_nil)))) pa_nil)))) (pss_one (ps_ret pe_bl)) pss_nil)))))
      (pss_one (ps_ret pe_bl)), ?_⟩
    refine ⟨_, rfl, a, _, rfl, .inl ((hid_same H Pt).seq hs), _, _, rfl, _, _, rfl, ?_⟩
    rw [List.length_map]
    have hc : ∃ n : Nat, (if (if (4 : Int) < (ns.length : Int) then (4 : Int) else (ns.length : Int)) > 1 then (if (4 : Int) < (ns.length : Int) then (4 : Int) else (ns.length : Int)) else 1) = (n : Int) ∧ n ≤ 4 := by
      refine ⟨(if (if (4 : Int) < (ns.length : Int) then (4 : Int) else (ns.length : Int)) > 1 then (if (4 : Int) < (ns.length : Int) then (4 : Int) else (ns.length : Int)) else 1).toNat, ?_⟩
      split <;> split <;> omega
    obtain ⟨n, en, hn⟩ := hc
    refine ⟨(n : Int), congrArg (fun z => [V.int z]) en, by omega, by omega, ?_⟩
    rw [Int.toNat_natCast]
    refine for_range (n := n) (fun i σ H' => Same (hid H Pt) (hid H' Pt) ∧ TabOk H' Pt qBoth ∧ ∃ x1 x2, σ = [some (.ref a), x1, x2]) ⟨Same.refl _, tab, none, none, rfl⟩ (fun i σ H' hi ⟨sm, tb, x1, x2, e⟩ => ?_) fun σ H' ⟨sm, tb, x1, x2, e⟩ => k H'
    subst e
    refine ⟨2, rfl, by decide, by decide, for_range (n := 2) (fun j σ H' => Same (hid H Pt) (hid H' Pt) ∧ TabOk H' Pt qBoth ∧ ∃ x2, σ = [some (.ref a), some (.int (0 + i)), x2]) ⟨sm, tb, x2, rfl⟩ (fun j σ H' hj ⟨sm, tb, x2, e⟩ => ?_) fun σ H' ⟨sm, tb, x2, e⟩ => ⟨sm, tb, _, _, e⟩⟩
    subst e
    refine ⟨_, rfl, _, rfl, _, rfl, a, ns, _, _, rfl, (hid_same H' Pt).seq (sm.seq hs), by omega, by omega, by omega, fun b H1 s1 nb b1 => ⟨b, rfl, ⟨b1, tb.same s1⟩, fun H2 s2 t2 => ⟨_, rfl, ?_⟩⟩⟩
    refine iteF ⟨fun c o e => ?_, t2, _, rfl⟩
    have e1 := sm c o e
    obtain ⟨cP, e2⟩ := hid_get e1
    have cb : c ≠ b := fun z => by subst z; rw [e2] at nb; cases nb
    have e3 := s2 c o (by show hid (hid H1 b) Pt c = _; rw [hid_ne cP, hid_ne cb]; exact s1 c o e2)
    rw [hid_ne cP]
    exact v2_same _ _ _ _ _ e3
end
end E2

set_option Elab.async false
set_option linter.all false
set_option maxRecDepth 100000
namespace L2
open PySem PySem.Spec PyProof.Rows
/-- nothing is tracked but the script and the table -/
def OnlyT (H : Hp) (P : Addr) : Prop := ∀ b, H b = none ∨ (b ≠ P ∧ ∃ o xs, H b = some (.frz o (.lst xs))) ∨ (b = P ∧ H b = some (.tbl #[]))
theorem law_callT {P : Program} {w : World} {K : PySem.W.Frag} {mg mb : Str → Option Value} {CX : CXT} {k : Nat} {fa a c Pt : Addr} {fd : FuncData} {x : Str} {sp : Sp} {s₁ : Shared} {vs : List Value} {ns : List Int}
    (KX : K.In s₁.heap) (hns : s₁.heap.Ns mainGlobals mg) (hb : s₁.heap.Ns builtinsNs mb) (hbb : ∀ x : Str, x ≠ "__name__" → mb x = bootBuiltins x) (hlim : s₁.heap.NoLimit) (hg : s₁.gens = #[])
    (ha : s₁.heap.get? a = some { cls := .type "list", data := .seq vs.toArray }) (hi : IntsAre vs ns) (hl : ns.length ≤ sizeLine) (hr : Room k callerA)
    (ht : PySem.W.codeHdIn K c Pt = true) (hPK : K.lookup Pt = none) (hP : s₁.heap.get? Pt = some (PySem.W.tabObj #[]))
    (hbm : ∃ bm ob, mg "__builtins__" = some (.ref bm) ∧ bm ≠ builtinsNs ∧ s₁.heap.get? bm = some ob ∧ ob.cls = .type "module" ∧ ob.dict = some builtinsNs ∧ ob.data = .plain)
    (F : ∀ base : Heap, K.In base → base.Ns mainGlobals mg → (∃ bm, BMod base mg bm) → FnOk P w K mg base CX k fa fd [x] sp) (hbind : ∀ (s : Shared) (u : Value), BindsTo s fd ⟨[u], []⟩ [(x, u)])
    (hsp : ∀ H : Hp, H Pt = some (.tbl #[]) → SqL K (hid H Pt) a (ns.map V.int) → sp [.ref a] H (fun v _ => v = .bl true) fun _ _ _ => False)
    (hCX : ∀ H e s', CX [] H s₁ (fun _ _ _ => False) e s' → False) :
    codeAny (model P w) callerA (.call (.ref fa) ⟨[.ref a], []⟩) (fun r s' => r = .ok (.ret (.bool true)) ∧ OldK s₁.heap s'.heap ∧ s'.os = s₁.os ∧ AllBare s'.gens) s₁ := by
  have rv := vals_ints hi
  have lenV := hi.length
  have hPo : s₁.heap.get? Pt = some { cls := .none, data := .fields #[] } := hP
  have apart : a ≠ Pt := fun e => by
    rw [e, hPo] at ha
    cases ha
  have ict : isCodeTable s₁.heap Pt := ((PySem.W.codeHd_of_K KX ht).tab hP).isCodeTable
  have core : ∀ H : Hp, OnlyT H Pt → H Pt = some (.tbl #[]) → SqL K (hid H Pt) a (ns.map V.int) → HOk P w H s₁.heap → (∀ b, H b ≠ none → b = a ∨ b = Pt) → (H a ≠ none → K.lookup a = none) →
      codeAny (model P w) callerA (.call (.ref fa) ⟨[.ref a], []⟩) (fun r s' => r = .ok (.ret (.bool true)) ∧ OldK s₁.heap s'.heap ∧ s'.os = s₁.os ∧ AllBare s'.gens) s₁ := by
    intro H hO hT hS hok hA hK
    have base_of : ∀ {b : Addr} {o : Obj}, s₁.heap.get? b = some o → H b = none → (hidT s₁.heap H).get? b = some o := fun e n => hidT_get e n
    have noA : ∀ {b : Addr} {o : Obj} {es : Array DictEntry} {ep : Nat}, s₁.heap.get? b = some o → o.data = .dict es ep → H b = none := fun {b o es ep} e d => by
      cases q : H b with
      | none => rfl
      | some u =>
        rcases hA b (by rw [q]; simp) with e' | e'
        · subst e'
          rw [ha] at e; cases e
          have d' : Data.seq vs.toArray _ = Data.dict es ep := d
          cases d'
        · subst e'
          rw [hPo] at e; cases e
          have d' : Data.fields #[] = Data.dict es ep := d
          cases d'
    have nsK : ∀ {b : Addr} {m : Str → Option Value}, s₁.heap.Ns b m → (hidT s₁.heap H).Ns b m := fun {b m} ⟨o, es, ep, e, d, r⟩ => ⟨o, es, ep, base_of e (noA e d), d, r⟩
    have hKb : K.In (hidT s₁.heap H) := fun b o e => base_of (KX b o e) (by
      cases q : H b with
      | none => rfl
      | some u =>
        rcases hA b (by rw [q]; simp) with e' | e'
        · subst e'
          rw [hK (by rw [q]; simp)] at e; cases e
        · subst e'
          rw [hPK] at e; cases e)
    have hBM : ∃ bm, BMod (hidT s₁.heap H) mg bm := by
      obtain ⟨bm, ob, b1, b2, b3, b4, b5, b6⟩ := hbm
      refine ⟨bm, b1, b2, ob, base_of b3 ?_, b4, b5, b6⟩
      cases q : H bm with
      | none => rfl
      | some u =>
        rcases hA bm (by rw [q]; simp) with e' | e'
        · subst e'
          rw [ha] at b3; cases b3
          exact absurd (show Value.type "list" = Value.type "module" from b4) (by decide +kernel)
        · subst e'
          rw [hPo] at b3; cases b3; cases b4
    have hM : Mod K mg (hidT s₁.heap H) := ⟨hKb, nsK hns, ⟨mb, nsK hb, hbb⟩, let ⟨mc, h1, h2⟩ := hlim; ⟨mc, nsK h1, h2⟩⟩
    have e0 : Env0 P w K mg (hidT s₁.heap H) callerA [] s₁ H := ⟨rfl, hM, fun b o e => of_hidT e, Nat.le_of_eq (hidT_size _ _), trivial, fun b hb => absurd (show b ∈ ([] : List Addr) from hb) (by simp), hok, .of_eq hg⟩
    refine codeAny_mono ((F _ hKb (nsK hns) hBM).run callerA [] s₁ H ⟨[.ref a], []⟩ [.ref a] [.ref a] _ _ hr e0 (hbind s₁ (.ref a)) (.cons rfl .nil) (hsp H hT hS)) fun r s' h => ?_
    cases r with
    | error e => exact (hCX H e s' h).elim
    | ok fl =>
      cases fl with
      | next => exact False.elim h
      | brk => exact False.elim h
      | cont => exact False.elim h
      | ret u =>
        obtain ⟨v, H', os, bare, un, hok', r', q⟩ := h
        have q' : v = .bl true := q
        subst q'
        obtain rfl : u = Value.bool true := r'
        have fate : ∀ b o, s₁.heap.get? b = some o → asItWas s₁.heap s'.heap b o := fun b o e => by
          rcases hO b with z | ⟨_, ob, xs, z⟩ | ⟨e1, z⟩
          · exact .inl (un.keep b o e z (by intro z; exact absurd (show b ∈ ([] : List Addr) from z) (by simp)) (by simp))
          · have z2 := un.frzs b ob _ z
            obtain ⟨e1, _⟩ := hok b _ z
            obtain ⟨e2, _⟩ := hok' b _ z2
            rw [e] at e1; cases e1
            exact .inl e2
          · subst e1
            obtain ⟨more, z2⟩ := un.tbls b #[] z
            have e2 : s'.heap.get? b = some { cls := .none, data := .fields (#[] ++ more) } := hok' b _ z2
            rw [e] at hPo
            cases hPo
            exact .inr (.inl ⟨ict, rfl, #[], more, rfl, e2⟩)
        refine ⟨rfl, ⟨fate, fun b o e => ?_⟩, os, bare⟩
        rcases hO b with z | ⟨_, ob, xs, z⟩ | ⟨e1, z⟩
        · exact ⟨o, un.keep b o e z (by intro z; exact absurd (show b ∈ ([] : List Addr) from z) (by simp)) (by simp)⟩
        · have z2 := un.frzs b ob _ z
          obtain ⟨e2, _⟩ := hok' b _ z2
          exact ⟨_, e2⟩
        · obtain ⟨more, z2⟩ := un.tbls b #[] z
          exact ⟨_, hok' b _ z2⟩
  cases hk : K.lookup a with
  | some o =>
    have e := KX a o hk
    rw [ha] at e
    cases e
    refine core (fun b => if b = Pt then some (.tbl #[]) else none) (fun b => ?_) (if_pos rfl) (.inr ⟨_, vs.toArray, _, hk, rfl, rfl, rfl, by rw [List.size_toArray, lenV]; exact hl, by simpa using rv⟩) (fun b u z => ?_) (fun b z => ?_) fun z => absurd (if_neg apart) z
    · by_cases e1 : b = Pt
      · exact .inr (.inr ⟨e1, if_pos e1⟩)
      · exact .inl (if_neg e1)
    · by_cases e1 : b = Pt
      · have z' := (if_pos e1).symm.trans z
        cases z'
        subst e1
        exact hPo
      · have z' := (if_neg e1).symm.trans z
        cases z'
    · by_cases e1 : b = Pt
      · exact .inr e1
      · exact absurd (if_neg e1) z
  | none =>
    refine core (fun b => if b = Pt then some (.tbl #[]) else if b = a then some (.frz { cls := .type "list", data := .seq vs.toArray } (.lst (ns.map V.int))) else none) (fun b => ?_) (if_pos rfl) (.inl (.inr ⟨{ cls := .type "list", data := .seq vs.toArray }, by rw [hid_ne apart, if_neg apart, if_pos rfl]⟩)) (fun b u z => ?_) (fun b z => ?_) fun _ => hk
    · by_cases e1 : b = Pt
      · exact .inr (.inr ⟨e1, if_pos e1⟩)
      · by_cases e2 : b = a
        · exact .inr (.inl ⟨e1, _, _, (if_neg e1).trans (if_pos e2)⟩)
        · exact .inl ((if_neg e1).trans (if_neg e2))
    · by_cases e1 : b = Pt
      · have z' := (if_pos e1).symm.trans z
        cases z'
        subst e1
        exact hPo
      · by_cases e2 : b = a
        · have z' := ((if_neg e1).trans (if_pos e2)).symm.trans z
          cases z'
          subst e2
          exact ⟨ha, by rw [List.length_map]; exact hl, vs, _, rv, ha⟩
        · have z' := ((if_neg e1).trans (if_neg e2)).symm.trans z
          cases z'
    · by_cases e1 : b = Pt
      · exact .inr e1
      · by_cases e2 : b = a
        · exact .inl e2
        · exact absurd ((if_neg e1).trans (if_neg e2)) z
theorem walk_ofT {l : PySem.W.OpenLaw} {n k : Nat} {q : Program} {loose : List Str} {XP : (Str → Option Value) → Heap → Prop} {YP : World → Heap → Prop} {d : DefRec} {K : Params → PySem.W.Frag} {CX : World → CXT} {sp : World → Sp} {x : Str} {Pt : Addr}
    (hn : l.most = some n) (hn2 : n ≤ sizeLine) (hdf : d.params.defaults = []) (hr : Room k callerA)
    (hY : ∀ (w : World) (h : Heap), YP w h → (K w.params).In h) (hYt : ∀ (w : World) (h : Heap), YP w h → h.get? Pt = some (PySem.W.tabObj #[])) (hPK : ∀ w : World, (K w.params).lookup Pt = none)
    (F : ∀ (w : World) (mg : Str → Option Value) (fa : Addr) (h : Heap), (K w.params).In h → h.Ns mainGlobals mg → mg d.name = some (.ref fa) →
      ∃ (fd : FuncData) (c : Addr), PySem.W.codeHdIn (K w.params) c Pt = true ∧ (∀ (s : Shared) (u : Value), BindsTo s fd ⟨[u], []⟩ [(x, u)]) ∧
        ∀ base : Heap, (K w.params).In base → base.Ns mainGlobals mg → (∃ bm, BMod base mg bm) → FnOk l.prog w (K w.params) mg base (CX w) k fa fd [x] (sp w))
    (hsp : ∀ (w : World) (H : Hp) (a : Addr) (ns : List Int), ns.length ≤ n → H Pt = some (.tbl #[]) → SqL (K w.params) (hid H Pt) a (ns.map V.int) → sp w [.ref a] H (fun v _ => v = .bl true) fun _ _ _ => False)
    (hCX : ∀ (w : World) (H : Hp) (s : Shared) (e : Value) (s' : Shared), CX w [] H s (fun _ _ _ => False) e s' → False) :
    PySem.W.WalkO q loose XP YP l.row.toRowW d [] (fun f vs => PySem.call f vs) := by
  refine Att.attach_call hn hdf fun w s₀ s₁ mg mb fa o pm cd doc a vs ns G Y ho hd hcd hmg hobj hints hlen hg => ?_
  have KX := hY w _ Y
  obtain ⟨fd, c, hc, hb, hF⟩ := F w mg fa _ KX G.T.g hmg
  exact law_callT KX G.T.g G.T.b G.T.builtins G.T.nolimit hg hobj hints (Nat.le_trans hlen hn2) hr hc (hPK w) (hYt w _ Y) G.T.bmain hF hb (fun H hT hS => hsp w H a ns hlen hT hS) fun H e s' => hCX w H s₁ e s'
end L2

set_option Elab.async false
set_option linter.all false
set_option maxRecDepth 100000
namespace E2
open PySem L2
/-- a def that the top has made, and how it binds -/
def Df (K : PySem.W.Frag) (mg : Str → Option Value) (x : Str) (ps : List Str) (st : Stmt) : Prop := ∃ f fd, mg x = some (.ref f) ∧ Fun K x x st f fd ∧ Binds K fd ps []
theorem df_mk {K : PySem.W.Frag} {h : Heap} {mg : Str → Option Value} {x : Str} {ps : List Str} {st : Stmt} {f : Addr} {od an : Option Addr} {sl : Array (Option Value)} {oc kV dc pm cd ct : Value} (X : K.In h) (G : h.Ns mainGlobals mg)
    (a : PySem.W.nsIn K mainGlobals x = some (some (.ref f))) (l : K.lookup f = some ⟨oc, od, .func (PySem.W.fnOf x x (defArgs st) (defBody st) (defScope st) .none kV dc pm an cd ct), sl⟩) (c : PySem.W.codeIn K cd x = true) (k : PySem.W.keepIn K (.ref f) = true)
    (hb : ∀ (kV doc pm : Value) (an : Option Addr) (cdv ct : Value) (us : List Value), us.length = ps.length → bindArgs (PySem.W.fnOf x x (defArgs st) (defBody st) (defScope st) .none kV doc pm an cdv ct) ⟨us, []⟩ = pure (ps.zip us)) : Df K mg x ps st :=
  ⟨f, _, PySem.W.mg_of X G a, fun_mk l c k, (fun_mk l c k).binds hb⟩
/-- the same of the def that makes lambdas: its code's table too -/
def DfT (K : PySem.W.Frag) (mg : Str → Option Value) (Pt : Addr) : Prop := ∃ (f c : Addr) (oc kV dc pm ct : Value) (od an : Option Addr) (osl : Array (Option Value)), mg "_law_both" = some (.ref f) ∧ K.lookup f = some ⟨oc, od, .func (PySem.W.fnOf "_law_both" "_law_both" (defArgs sBoth) (defBody sBoth) (defScope sBoth) .none kV dc pm an (.ref c) ct), osl⟩ ∧
  PySem.W.codeIn K (.ref c) "_law_both" = true ∧ PySem.W.codeHdIn K c Pt = true ∧ PySem.W.keepIn K (.ref f) = true ∧ Binds K (PySem.W.fnOf "_law_both" "_law_both" (defArgs sBoth) (defBody sBoth) (defScope sBoth) .none kV dc pm an (.ref c) ct) ["_law_web", "_law_name"] []
theorem dft_mk {K : PySem.W.Frag} {h : Heap} {mg : Str → Option Value} {f c Pt : Addr} {od an : Option Addr} {sl : Array (Option Value)} {oc kV dc pm ct : Value} (X : K.In h) (G : h.Ns mainGlobals mg)
    (a : PySem.W.nsIn K mainGlobals "_law_both" = some (some (.ref f))) (l : K.lookup f = some ⟨oc, od, .func (PySem.W.fnOf "_law_both" "_law_both" (defArgs sBoth) (defBody sBoth) (defScope sBoth) .none kV dc pm an (.ref c) ct), sl⟩) (cd : PySem.W.codeIn K (.ref c) "_law_both" = true) (ht : PySem.W.codeHdIn K c Pt = true) (k : PySem.W.keepIn K (.ref f) = true)
    (hb : ∀ (kV doc pm : Value) (an : Option Addr) (cdv ct : Value) (us : List Value), us.length = 2 → bindArgs (PySem.W.fnOf "_law_both" "_law_both" (defArgs sBoth) (defBody sBoth) (defScope sBoth) .none kV doc pm an cdv ct) ⟨us, []⟩ = pure ((["_law_web", "_law_name"] : List Str).zip us)) : DfT K mg Pt :=
  ⟨f, c, _, _, _, _, _, _, _, _, PySem.W.mg_of X G a, l, cd, ht, k, (fun_mk (st := sBoth) l cd k).binds hb⟩
theorem txt_mk {K : PySem.W.Frag} {h : Heap} {mg : Str → Option Value} {t6 t12 : Tok} (X : K.In h) (G : h.Ns mainGlobals mg) (a6 : PySem.W.nsIn K mainGlobals "LONGEST_NAME" = some (some (.int 6 t6))) (a12 : PySem.W.nsIn K mainGlobals "MOST_NAMES" = some (some (.int 12 t12)))
    (z0 : PySem.W.nsIn K mainGlobals "isinstance" = some none)
    (z1 : PySem.W.nsIn K mainGlobals "len" = some none)
    (z2 : PySem.W.nsIn K mainGlobals "all" = some none)
    (z3 : PySem.W.nsIn K mainGlobals "repr" = some none)
    (z4 : PySem.W.nsIn K mainGlobals "sorted" = some none)
    (z5 : PySem.W.nsIn K mainGlobals "divmod" = some none)
    (z6 : PySem.W.nsIn K mainGlobals "abs" = some none)
    (z7 : PySem.W.nsIn K mainGlobals "min" = some none)
    (z8 : PySem.W.nsIn K mainGlobals "max" = some none)
    (z9 : PySem.W.nsIn K mainGlobals "str" = some none)
    (z10 : PySem.W.nsIn K mainGlobals "tuple" = some none)
    (z11 : PySem.W.nsIn K mainGlobals "list" = some none)
    (z12 : PySem.W.nsIn K mainGlobals "zip" = some none)
    (z13 : PySem.W.nsIn K mainGlobals "range" = some none)
    : Txt mg := by
  refine ⟨fun x m => ?_, ⟨_, PySem.W.mg_of X G a6⟩, ⟨_, PySem.W.mg_of X G a12⟩⟩
  unfold blNames at m
  rcases List.mem_cons.mp m with e | m
  · rw [e]; exact PySem.W.mg_none_of X G z0
  rcases List.mem_cons.mp m with e | m
  · rw [e]; exact PySem.W.mg_none_of X G z1
  rcases List.mem_cons.mp m with e | m
  · rw [e]; exact PySem.W.mg_none_of X G z2
  rcases List.mem_cons.mp m with e | m
  · rw [e]; exact PySem.W.mg_none_of X G z3
  rcases List.mem_cons.mp m with e | m
  · rw [e]; exact PySem.W.mg_none_of X G z4
  rcases List.mem_cons.mp m with e | m
  · rw [e]; exact PySem.W.mg_none_of X G z5
  rcases List.mem_cons.mp m with e | m
  · rw [e]; exact PySem.W.mg_none_of X G z6
  rcases List.mem_cons.mp m with e | m
  · rw [e]; exact PySem.W.mg_none_of X G z7
  rcases List.mem_cons.mp m with e | m
  · rw [e]; exact PySem.W.mg_none_of X G z8
  rcases List.mem_cons.mp m with e | m
  · rw [e]; exact PySem.W.mg_none_of X G z9
  rcases List.mem_cons.mp m with e | m
  · rw [e]; exact PySem.W.mg_none_of X G z10
  rcases List.mem_cons.mp m with e | m
  · rw [e]; exact PySem.W.mg_none_of X G z11
  rcases List.mem_cons.mp m with e | m
  · rw [e]; exact PySem.W.mg_none_of X G z12
  rcases List.mem_cons.mp m with e | m
  · rw [e]; exact PySem.W.mg_none_of X G z13
  cases m
/-! ### the classes -/
def csL (l : List Addr) (i : Nat) : Addr := l.getD i 0
def kindB (K : PySem.W.Frag) (l : List Addr) (D WE : Addr) (j : Nat) : Bool := decide (j < 12) && ((List.range 14).all fun i => PySem.W.kitOne K (.ref D) (.ref (csL l i)) == some (decide (i = j))) && (PySem.W.kitOne K (.ref D) (.type "ValueError") == some true) && (PySem.W.exmOne K (.ref D) (.ref WE) == some true)
theorem kindB_ok {K : PySem.W.Frag} {l : List Addr} {D WE : Addr} {j : Nat} (h : kindB K l D WE j = true) (e : ECls K D) : Kind K (csL l) D j ∧ PySem.W.exmOne K (.ref D) (.ref WE) = some true := by
  simp only [kindB, Bool.and_eq_true, decide_eq_true_eq, beq_iff_eq] at h
  refine ⟨⟨e, h.1.1.1, fun i hi => ?_, h.1.2⟩, h.2⟩
  have := List.all_eq_true.mp h.1.1.2 i (List.mem_range.mpr hi)
  simpa using this
/-- what the classes of the refusals are to the law -/
structure ClsAll (K : PySem.W.Frag) (mg : Str → Option Value) (cs : Nat → Addr) (WE : Addr) : Prop where
  c : Clss mg cs
  r : Refs K cs WE
  we : mg "WebError" = some (.ref WE)
  xw : XCls K mg "NoWeb" (cs 0) bmVE newVE
  xn : XCls K mg "NoName" (cs 2) bmVE newVE
theorem cls_mk {K : PySem.W.Frag} {h : Heap} {mg : Str → Option Value} {c0 c1 c2 c3 c4 c5 c6 c7 c8 c9 c10 c11 c12 c13 WE : Addr} (X : K.In h) (G : h.Ns mainGlobals mg)
    (n0 : PySem.W.nsIn K mainGlobals "NoWeb" = some (some (.ref c0)))
    (n1 : PySem.W.nsIn K mainGlobals "NoLot" = some (some (.ref c1)))
    (n2 : PySem.W.nsIn K mainGlobals "NoName" = some (some (.ref c2)))
    (n3 : PySem.W.nsIn K mainGlobals "NoKind" = some (some (.ref c3)))
    (n4 : PySem.W.nsIn K mainGlobals "NoPair" = some (some (.ref c4)))
    (n5 : PySem.W.nsIn K mainGlobals "NoChanges" = some (some (.ref c5)))
    (n6 : PySem.W.nsIn K mainGlobals "NoCount" = some (some (.ref c6)))
    (n7 : PySem.W.nsIn K mainGlobals "NoShut" = some (some (.ref c7)))
    (n8 : PySem.W.nsIn K mainGlobals "NoWay" = some (some (.ref c8)))
    (n9 : PySem.W.nsIn K mainGlobals "NoJoint" = some (some (.ref c9)))
    (n10 : PySem.W.nsIn K mainGlobals "NoSide" = some (some (.ref c10)))
    (n11 : PySem.W.nsIn K mainGlobals "NoDeed" = some (some (.ref c11)))
    (n12 : PySem.W.nsIn K mainGlobals "TooMany" = some (some (.ref c12)))
    (n13 : PySem.W.nsIn K mainGlobals "NoText" = some (some (.ref c13)))
    (we : PySem.W.nsIn K mainGlobals "WebError" = some (some (.ref WE))) (ve : PySem.W.nsIn K mainGlobals "ValueError" = some none)
    (x0 : PySem.W.excIn K c0 bmVE newVE = true) (x2 : PySem.W.excIn K c2 bmVE newVE = true)
    (i0 : (PySem.W.clsIn K c0).isSome = true) (g0 : PySem.W.findIn K (.ref c0) "__getattribute__" = some (some (.builtin "BaseException.__getattribute__"))) (ga0 : PySem.W.findIn K (.ref c0) "__getattr__" = some none) (be0 : PySem.W.mroIn K c0 (.type "BaseException") = some true) (a0 : PySem.W.findIn K (.ref c0) "__class__" = some (some (.builtin "object.__class__"))) (m0 : PySem.W.mroIn K c0 (.type "object") = some true)
    (i2 : (PySem.W.clsIn K c2).isSome = true) (g2 : PySem.W.findIn K (.ref c2) "__getattribute__" = some (some (.builtin "BaseException.__getattribute__"))) (ga2 : PySem.W.findIn K (.ref c2) "__getattr__" = some none) (be2 : PySem.W.mroIn K c2 (.type "BaseException") = some true) (a2 : PySem.W.findIn K (.ref c2) "__class__" = some (some (.builtin "object.__class__"))) (m2 : PySem.W.mroIn K c2 (.type "object") = some true)
    (sp : PySem.W.specialIn K (.builtin "object.__class__") "__get__" = some (some (.builtin "getset_descriptor.__get__"))) (tk : PySem.W.takesIn K (.builtin "object.__class__") = some true)
    (k0 : kindB K [c0, c1, c2, c3, c4, c5, c6, c7, c8, c9, c10, c11, c12, c13] c0 WE 0 = true) (k2 : kindB K [c0, c1, c2, c3, c4, c5, c6, c7, c8, c9, c10, c11, c12, c13] c2 WE 2 = true) : ∃ cs WE, ClsAll K mg cs WE := by
  obtain ⟨q0, e0⟩ := kindB_ok k0 ⟨i0, g0, ga0, be0, a0, sp, tk, m0⟩
  obtain ⟨q2, e2⟩ := kindB_ok k2 ⟨i2, g2, ga2, be2, a2, sp, tk, m2⟩
  exact ⟨csL [c0, c1, c2, c3, c4, c5, c6, c7, c8, c9, c10, c11, c12, c13], WE, ⟨PySem.W.mg_none_of X G ve, PySem.W.mg_of X G n0, PySem.W.mg_of X G n1, PySem.W.mg_of X G n2, PySem.W.mg_of X G n3, PySem.W.mg_of X G n4, PySem.W.mg_of X G n5, PySem.W.mg_of X G n6, PySem.W.mg_of X G n7, PySem.W.mg_of X G n8, PySem.W.mg_of X G n9, PySem.W.mg_of X G n10, PySem.W.mg_of X G n11, PySem.W.mg_of X G n12, PySem.W.mg_of X G n13⟩, ⟨q0, q2, e0, e2⟩, PySem.W.mg_of X G we, ⟨n0, x0⟩, ⟨n2, x2⟩⟩
theorem all_mk {l : PySem.W.OpenLaw} {w : World} {K : PySem.W.Frag} {h : Heap} {mg : Str → Option Value} {fa f Pt : Addr} {od an : Option Addr} {sl : Array (Option Value)} {oc kV dc pm cd ct : Value} (X : K.In h) (G : h.Ns mainGlobals mg) (hfa : mg "law" = some (.ref fa)) (T : Txt mg) (CA : ∃ cs WE, ClsAll K mg cs WE) (DT : DfT K mg Pt)
    (d0 : Df K mg "is_name" ["thing"] sIsName)
    (d1 : Df K mg "is_rising" ["things"] sRise)
    (d2 : Df K mg "are_names" ["thing"] sAreN)
    (d3 : Df K mg "is_strike" ["thing", "names"] sIsSt)
    (d4 : Df K mg "are_strikes" ["thing", "names"] sAreS)
    (d5 : Df K mg "is_web" ["thing"] sIsWeb)
    (d6 : Df K mg "check_web" ["thing"] sChkW)
    (d7 : Df K mg "check_name" ["web", "thing"] sChkN)
    (d8 : Df K mg "strikers" ["web", "name"] sStrikers)
    (d9 : Df K mg "struck" ["web", "name"] sStruck)
    (d10 : Df K mg "_law_cell" ["_law_script", "_law_k"] sCell)
    (d11 : Df K mg "_law_mix" ["_law_cell_here", "_law_k"] sMix)
    (d12 : Df K mg "_law_box" ["_law_script", "_law_k", "_law_lap"] sBox)
    (d13 : Df K mg "_law_take" ["_law_box_here", "_law_count"] sTake)
    (d14 : Df K mg "_law_odd" ["_law_box_here"] sOdd)
    (d15 : Df K mg "_law_which" ["_law_e"] sWhich)
    (d16 : Df K mg "_law_said" ["_law_call"] sSaid)
    (d17 : Df K mg "_law_is_name" ["_law_thing"] sLN)
    (d18 : Df K mg "_law_rises" ["_law_row"] sLR)
    (d19 : Df K mg "_law_is_web" ["_law_thing"] sLW)
    (d20 : Df K mg "_law_bent" ["_law_box_here", "_law_thing"] sBent)
    (d21 : Df K mg "_law_wide" ["_law_box_here", "_law_most_names"] sWide)
    (d22 : Df K mg "_law_right" ["_law_box_here"] sRight)
    (a : PySem.W.nsIn K mainGlobals "law" = some (some (.ref f))) (l0 : K.lookup f = some ⟨oc, od, .func (PySem.W.fnOf "law" "law" (defArgs sLaw) (defBody sLaw) (defScope sLaw) .none kV dc pm an cd ct), sl⟩) (c : PySem.W.codeIn K cd "law" = true) (k : PySem.W.keepIn K (.ref f) = true) :
    ∃ (fd : FuncData) (c : Addr), PySem.W.codeHdIn K c Pt = true ∧ (∀ (s : Shared) (v : Value), BindsTo s fd ⟨[v], []⟩ [("_law_script", v)]) ∧ ∀ base : Heap, K.In base → base.Ns mainGlobals mg → (∃ bm, BMod base mg bm) → FnOk l.prog w K mg base CX0 10 fa fd ["_law_script"] (spLaw K Pt) := by
  have e := hfa.symm.trans (PySem.W.mg_of X G a)
  cases e
  have FL := fun_mk (st := sLaw) l0 c k
  obtain ⟨cs, WE, CA⟩ := CA
  obtain ⟨fB, cB, _, _, _, _, _, _, _, _, mB, lB, cdB, htB, kpB, bB⟩ := DT
  refine ⟨PySem.W.fnOf "law" "law" (defArgs sLaw) (defBody sLaw) (defScope sLaw) .none kV dc pm an cd ct, cB, htB, fun s v => .of_eq rfl, fun base _ _ BM => ?_⟩
  obtain ⟨bm, B⟩ := BM
  obtain ⟨f0, fd0, m0, F0, b0⟩ := d0
  obtain ⟨f1, fd1, m1, F1, b1⟩ := d1
  obtain ⟨f2, fd2, m2, F2, b2⟩ := d2
  obtain ⟨f3, fd3, m3, F3, b3⟩ := d3
  obtain ⟨f4, fd4, m4, F4, b4⟩ := d4
  obtain ⟨f5, fd5, m5, F5, b5⟩ := d5
  obtain ⟨f6, fd6, m6, F6, b6⟩ := d6
  obtain ⟨f7, fd7, m7, F7, b7⟩ := d7
  obtain ⟨f8, fd8, m8, F8, b8⟩ := d8
  obtain ⟨f9, fd9, m9, F9, b9⟩ := d9
  obtain ⟨f10, fd10, m10, F10, b10⟩ := d10
  obtain ⟨f11, fd11, m11, F11, b11⟩ := d11
  obtain ⟨f12, fd12, m12, F12, b12⟩ := d12
  obtain ⟨f13, fd13, m13, F13, b13⟩ := d13
  obtain ⟨f14, fd14, m14, F14, b14⟩ := d14
  obtain ⟨f15, fd15, m15, F15, b15⟩ := d15
  obtain ⟨f16, fd16, m16, F16, b16⟩ := d16
  obtain ⟨f17, fd17, m17, F17, b17⟩ := d17
  obtain ⟨f18, fd18, m18, F18, b18⟩ := d18
  obtain ⟨f19, fd19, m19, F19, b19⟩ := d19
  obtain ⟨f20, fd20, m20, F20, b20⟩ := d20
  obtain ⟨f21, fd21, m21, F21, b21⟩ := d21
  obtain ⟨f22, fd22, m22, F22, b22⟩ := d22
  have h0 : HasFn l.prog w K mg base "is_name" ["thing"] 1 (spData isName) := ⟨f0, fd0, m0, F0.kp, b0, ok_is_name F0 T⟩
  have h1 : HasFn l.prog w K mg base "is_rising" ["things"] 1 spRise := ⟨f1, fd1, m1, F1.kp, b1, ok_rise F1 T⟩
  have h2 : HasFn l.prog w K mg base "are_names" ["thing"] 2 (spData areNames) := ⟨f2, fd2, m2, F2.kp, b2, ok_are_names F2 T h0 h1⟩
  have h3 : HasFn l.prog w K mg base "is_strike" ["thing", "names"] 1 spStrike := ⟨f3, fd3, m3, F3.kp, b3, ok_is_strike F3 T⟩
  have h4 : HasFn l.prog w K mg base "are_strikes" ["thing", "names"] 2 spStrikes := ⟨f4, fd4, m4, F4.kp, b4, ok_are_strikes F4 T h3 h1⟩
  have h5 : HasFn l.prog w K mg base "is_web" ["thing"] 3 (spTop isWeb) := ⟨f5, fd5, m5, F5.kp, b5, ok_is_web F5 T h2 h4⟩
  have h6 : HasFnX l.prog w K mg base "check_web" ["thing"] 4 (spChkW (cs 0)) := ⟨f6, fd6, m6, F6.kp, b6, ok_chkW F6 CA.xw h5⟩
  have h7 : HasFnX l.prog w K mg base "check_name" ["web", "thing"] 1 (spChkN (cs 2)) := ⟨f7, fd7, m7, F7.kp, b7, ok_chkN F7 CA.xn⟩
  have h8 : HasFnX l.prog w K mg base "strikers" ["web", "name"] 5 (spStk (cs 0) (cs 2) strikersOf) := ⟨f8, fd8, m8, F8.kp, b8, ok_strikers F8 h6 h7⟩
  have h9 : HasFnX l.prog w K mg base "struck" ["web", "name"] 5 (spStk (cs 0) (cs 2) struckOf) := ⟨f9, fd9, m9, F9.kp, b9, ok_struck F9 h6 h7⟩
  have h10 : HasFn l.prog w K mg base "_law_cell" ["_law_script", "_law_k"] 1 (spCell K) := ⟨f10, fd10, m10, F10.kp, b10, ok_cell F10 T⟩
  have h11 : HasFn l.prog w K mg base "_law_mix" ["_law_cell_here", "_law_k"] 1 spMix := ⟨f11, fd11, m11, F11.kp, b11, ok_mix F11⟩
  have h12 : HasFn l.prog w K mg base "_law_box" ["_law_script", "_law_k", "_law_lap"] 2 (spBox K) := ⟨f12, fd12, m12, F12.kp, b12, ok_box F12 T h10 h11⟩
  have h13 : HasFn l.prog w K mg base "_law_take" ["_law_box_here", "_law_count"] 1 spTake := ⟨f13, fd13, m13, F13.kp, b13, ok_take F13 T⟩
  have h14 : HasFn l.prog w K mg base "_law_odd" ["_law_box_here"] 2 spOdd := ⟨f14, fd14, m14, F14.kp, b14, ok_odd F14 T h13⟩
  have h15 : HasFnH l.prog w K mg base "_law_which" ["_law_e"] 1 (spWhich K cs) := ⟨f15, fd15, m15, F15.kp, b15, ok_which F15 T CA.c⟩
  have h16 : HasFnS l.prog w K mg base "_law_said" ["_law_call"] 7 (spLam l.prog w K mg base 6 (saidM K cs WE)) := ⟨f16, fd16, m16, F16.kp, b16, ok_said 5 F16 CA.we h15⟩
  have h17 : HasFn l.prog w K mg base "_law_is_name" ["_law_thing"] 1 (spData isName) := ⟨f17, fd17, m17, F17.kp, b17, ok_lname F17 T⟩
  have h18 : HasFn l.prog w K mg base "_law_rises" ["_law_row"] 1 spRise := ⟨f18, fd18, m18, F18.kp, b18, ok_rises F18 T⟩
  have h19 : HasFn l.prog w K mg base "_law_is_web" ["_law_thing"] 2 (spTop isWeb) := ⟨f19, fd19, m19, F19.kp, b19, ok_lweb F19 T h17 h18⟩
  have h20 : HasFn l.prog w K mg base "_law_bent" ["_law_box_here", "_law_thing"] 5 (spBent 3) := ⟨f20, fd20, m20, F20.kp, b20, ok_bent m20 b20 F20 T h13 3 (by decide)⟩
  have h21 : HasFn l.prog w K mg base "_law_wide" ["_law_box_here", "_law_most_names"] 2 spWideW := ⟨f21, fd21, m21, F21.kp, b21, ok_wideW F21 T h13⟩
  have hB : HasFn l.prog w K mg base "_law_both" ["_law_web", "_law_name"] 8 (spBoth Pt) := ⟨fB, _, mB, kpB, bB, ok_both lB cdB htB B CA.r h16 h8 h9⟩
  have h22 : HasFn l.prog w K mg base "_law_right" ["_law_box_here"] 9 (spRight Pt) := ⟨f22, fd22, m22, F22.kp, b22, ok_right (cs := cs) F22 T h21 h14 h20 h19 h8 h9 hB⟩
  exact ok_law FL T h12 h22
theorem tab0 {H : Hp} {Pt : Addr} (h : H Pt = some (.tbl #[])) : TabOk H Pt qBoth := ⟨#[], h, by simp [TriplesOk], fun pos c e => by simp [codeAmong] at e⟩
theorem walk {l : PySem.W.OpenLaw} {q : Program} {loose : List Str} {XP : (Str → Option Value) → Heap → Prop} {YP : World → Heap → Prop} {d : DefRec} {K : Params → PySem.W.Frag} (Pt : Addr) (hn : l.most = some 63) (hdf : d.params.defaults = [])
    (hY : ∀ (w : World) (h : Heap), YP w h → (K w.params).In h) (hYt : ∀ (w : World) (h : Heap), YP w h → h.get? Pt = some (PySem.W.tabObj #[])) (hPK : ∀ w : World, (K w.params).lookup Pt = none)
    (F : ∀ (w : World) (mg : Str → Option Value) (fa : Addr) (h : Heap), (K w.params).In h → h.Ns mainGlobals mg → mg d.name = some (.ref fa) →
      ∃ (fd : FuncData) (c : Addr), PySem.W.codeHdIn (K w.params) c Pt = true ∧ (∀ (s : Shared) (u : Value), BindsTo s fd ⟨[u], []⟩ [("_law_script", u)]) ∧ ∀ base : Heap, (K w.params).In base → base.Ns mainGlobals mg → (∃ bm, BMod base mg bm) → FnOk l.prog w (K w.params) mg base CX0 10 fa fd ["_law_script"] (spLaw (K w.params) Pt)) :
    PySem.W.WalkO q loose XP YP l.row.toRowW d [] (fun f vs => PySem.call f vs) :=
  L2.walk_ofT (n := 63) (k := 10) (x := "_law_script") (CX := fun _ => CX0) (sp := fun w => spLaw (K w.params) Pt) hn (by decide) hdf ⟨rfl, by decide, by decide, rfl⟩ hY hYt hPK F (fun _ _ a ns hl hT hS => ⟨a, ns, rfl, hS, hl, tab0 hT, fun _ => rfl⟩) fun _ _ _ _ _ z => z
end E2

set_option Elab.async false
set_option linter.all false
open PySem PySem.W PyProof.Rows
/-! the head's quick doubles of these would be larger than all else here: the names are taken -/
def PySem.W.Fast.tw5913484010317212139 : Unit := ()
def PySem.W.Fast.tw10217802344215161043 : Unit := ()
def PySem.W.Fast.tw8098455141524293208 : Unit := ()
def PySem.W.Fast.tw12106648650809616238 : Unit := ()
def PySem.W.Fast.tw8541275576051230509 : Unit := ()
def PySem.W.Fast.tw17812143686024317592 : Unit := ()
def PySem.W.Fast.tw1448497064092477388 : Unit := ()
def PySem.W.Fast.tw5133683640405761625 : Unit := ()
def PySem.W.Fast.tw4242869594229562075 : Unit := ()
def PySem.W.Fast.tw13082862275267755633 : Unit := ()
set_option maxRecDepth 100000 in
set_option maxHeartbeats 0 in
theorem PySem.Challenge.cw_everalike_k02_strikers_and_struck_holds : PySem.Challenge.rw_everalike_k02_strikers_and_struck.Holds := by
  w_on; o_law; k_head; (case hw => w_witness2)
  k_fill
  refine E2.walk (l := PySem.Challenge.rw_everalike_k02_strikers_and_struck) 349 rfl rfl (fun w h Y => PySem.W.km_in_of Y) (fun w h Y => PySem.W.km_tabs_of Y 349 (by simp)) (fun w => by kernel_rfl) ?F
  case F =>
    intro w mg fa h KX G hmg
    refine' E2.all_mk KX G hmg ?T ?CA ?DT ?d0 ?d1 ?d2 ?d3 ?d4 ?d5 ?d6 ?d7 ?d8 ?d9 ?d10 ?d11 ?d12 ?d13 ?d14 ?d15 ?d16 ?d17 ?d18 ?d19 ?d20 ?d21 ?d22 ?a ?l ?c ?k
    case T =>
      refine' E2.txt_mk KX G ?aa6 ?aa12 ?z0 ?z1 ?z2 ?z3 ?z4 ?z5 ?z6 ?z7 ?z8 ?z9 ?z10 ?z11 ?z12 ?z13
      (case aa6 => k_is)
      (case aa12 => k_is)
      (case z0 => k_is)
      (case z1 => k_is)
      (case z2 => k_is)
      (case z3 => k_is)
      (case z4 => k_is)
      (case z5 => k_is)
      (case z6 => k_is)
      (case z7 => k_is)
      (case z8 => k_is)
      (case z9 => k_is)
      (case z10 => k_is)
      (case z11 => k_is)
      (case z12 => k_is)
      (case z13 => k_is)
    case CA =>
      refine' E2.cls_mk KX G ?nc0 ?nc1 ?nc2 ?nc3 ?nc4 ?nc5 ?nc6 ?nc7 ?nc8 ?nc9 ?nc10 ?nc11 ?nc12 ?nc13 ?nwe ?nve ?xx0 ?xx2 ?ei0 ?eg0 ?ega0 ?ebe0 ?ea0 ?em0 ?ei2 ?eg2 ?ega2 ?ebe2 ?ea2 ?em2 ?esp ?etk ?kk0 ?kk2
      (case nc0 => k_is)
      (case nc1 => k_is)
      (case nc2 => k_is)
      (case nc3 => k_is)
      (case nc4 => k_is)
      (case nc5 => k_is)
      (case nc6 => k_is)
      (case nc7 => k_is)
      (case nc8 => k_is)
      (case nc9 => k_is)
      (case nc10 => k_is)
      (case nc11 => k_is)
      (case nc12 => k_is)
      (case nc13 => k_is)
      (case nwe => k_is)
      (case nve => k_is)
      (case xx0 => kernel_rfl)
      (case xx2 => kernel_rfl)
      (case ei0 => kernel_rfl)
      (case eg0 => k_is)
      (case ega0 => k_is)
      (case ebe0 => k_is)
      (case ea0 => k_is)
      (case em0 => k_is)
      (case ei2 => kernel_rfl)
      (case eg2 => k_is)
      (case ega2 => k_is)
      (case ebe2 => k_is)
      (case ea2 => k_is)
      (case em2 => k_is)
      (case esp => k_is)
      (case etk => k_is)
      (case kk0 => kernel_rfl)
      (case kk2 => kernel_rfl)
    case DT =>
      refine' E2.dft_mk KX G ?dta ?dtl ?dtc ?dth ?dtk (fun _ _ _ _ _ _ us hl => match us, hl with | [_, _], _ => rfl)
      (case dta => k_is)
      (case dtl => k_is)
      (case dtc => k_is)
      (case dth => kernel_rfl)
      (case dtk => k_is)
    case d0 =>
      refine' E2.df_mk KX G ?a0 ?l0 ?c0 ?k0 (fun _ _ _ _ _ _ us hl => match us, hl with | [_], _ => rfl)
      (case a0 => k_is); (case l0 => k_is); (case c0 => k_is); (case k0 => k_is)
    case d1 =>
      refine' E2.df_mk KX G ?a1 ?l1 ?c1 ?k1 (fun _ _ _ _ _ _ us hl => match us, hl with | [_], _ => rfl)
      (case a1 => k_is); (case l1 => k_is); (case c1 => k_is); (case k1 => k_is)
    case d2 =>
      refine' E2.df_mk KX G ?a2 ?l2 ?c2 ?k2 (fun _ _ _ _ _ _ us hl => match us, hl with | [_], _ => rfl)
      (case a2 => k_is); (case l2 => k_is); (case c2 => k_is); (case k2 => k_is)
    case d3 =>
      refine' E2.df_mk KX G ?a3 ?l3 ?c3 ?k3 (fun _ _ _ _ _ _ us hl => match us, hl with | [_, _], _ => rfl)
      (case a3 => k_is); (case l3 => k_is); (case c3 => k_is); (case k3 => k_is)
    case d4 =>
      refine' E2.df_mk KX G ?a4 ?l4 ?c4 ?k4 (fun _ _ _ _ _ _ us hl => match us, hl with | [_, _], _ => rfl)
      (case a4 => k_is); (case l4 => k_is); (case c4 => k_is); (case k4 => k_is)
    case d5 =>
      refine' E2.df_mk KX G ?a5 ?l5 ?c5 ?k5 (fun _ _ _ _ _ _ us hl => match us, hl with | [_], _ => rfl)
      (case a5 => k_is); (case l5 => k_is); (case c5 => k_is); (case k5 => k_is)
    case d6 =>
      refine' E2.df_mk KX G ?a6 ?l6 ?c6 ?k6 (fun _ _ _ _ _ _ us hl => match us, hl with | [_], _ => rfl)
      (case a6 => k_is); (case l6 => k_is); (case c6 => k_is); (case k6 => k_is)
    case d7 =>
      refine' E2.df_mk KX G ?a7 ?l7 ?c7 ?k7 (fun _ _ _ _ _ _ us hl => match us, hl with | [_, _], _ => rfl)
      (case a7 => k_is); (case l7 => k_is); (case c7 => k_is); (case k7 => k_is)
    case d8 =>
      refine' E2.df_mk KX G ?a8 ?l8 ?c8 ?k8 (fun _ _ _ _ _ _ us hl => match us, hl with | [_, _], _ => rfl)
      (case a8 => k_is); (case l8 => k_is); (case c8 => k_is); (case k8 => k_is)
    case d9 =>
      refine' E2.df_mk KX G ?a9 ?l9 ?c9 ?k9 (fun _ _ _ _ _ _ us hl => match us, hl with | [_, _], _ => rfl)
      (case a9 => k_is); (case l9 => k_is); (case c9 => k_is); (case k9 => k_is)
    case d10 =>
      refine' E2.df_mk KX G ?a10 ?l10 ?c10 ?k10 (fun _ _ _ _ _ _ us hl => match us, hl with | [_, _], _ => rfl)
      (case a10 => k_is); (case l10 => k_is); (case c10 => k_is); (case k10 => k_is)
    case d11 =>
      refine' E2.df_mk KX G ?a11 ?l11 ?c11 ?k11 (fun _ _ _ _ _ _ us hl => match us, hl with | [_, _], _ => rfl)
      (case a11 => k_is); (case l11 => k_is); (case c11 => k_is); (case k11 => k_is)
    case d12 =>
      refine' E2.df_mk KX G ?a12 ?l12 ?c12 ?k12 (fun _ _ _ _ _ _ us hl => match us, hl with | [_, _, _], _ => rfl)
      (case a12 => k_is); (case l12 => k_is); (case c12 => k_is); (case k12 => k_is)
    case d13 =>
      refine' E2.df_mk KX G ?a13 ?l13 ?c13 ?k13 (fun _ _ _ _ _ _ us hl => match us, hl with | [_, _], _ => rfl)
      (case a13 => k_is); (case l13 => k_is); (case c13 => k_is); (case k13 => k_is)
    case d14 =>
      refine' E2.df_mk KX G ?a14 ?l14 ?c14 ?k14 (fun _ _ _ _ _ _ us hl => match us, hl with | [_], _ => rfl)
      (case a14 => k_is); (case l14 => k_is); (case c14 => k_is); (case k14 => k_is)
    case d15 =>
      refine' E2.df_mk KX G ?a15 ?l15 ?c15 ?k15 (fun _ _ _ _ _ _ us hl => match us, hl with | [_], _ => rfl)
      (case a15 => k_is); (case l15 => k_is); (case c15 => k_is); (case k15 => k_is)
    case d16 =>
      refine' E2.df_mk KX G ?a16 ?l16 ?c16 ?k16 (fun _ _ _ _ _ _ us hl => match us, hl with | [_], _ => rfl)
      (case a16 => k_is); (case l16 => k_is); (case c16 => k_is); (case k16 => k_is)
    case d17 =>
      refine' E2.df_mk KX G ?a17 ?l17 ?c17 ?k17 (fun _ _ _ _ _ _ us hl => match us, hl with | [_], _ => rfl)
      (case a17 => k_is); (case l17 => k_is); (case c17 => k_is); (case k17 => k_is)
    case d18 =>
      refine' E2.df_mk KX G ?a18 ?l18 ?c18 ?k18 (fun _ _ _ _ _ _ us hl => match us, hl with | [_], _ => rfl)
      (case a18 => k_is); (case l18 => k_is); (case c18 => k_is); (case k18 => k_is)
    case d19 =>
      refine' E2.df_mk KX G ?a19 ?l19 ?c19 ?k19 (fun _ _ _ _ _ _ us hl => match us, hl with | [_], _ => rfl)
      (case a19 => k_is); (case l19 => k_is); (case c19 => k_is); (case k19 => k_is)
    case d20 =>
      refine' E2.df_mk KX G ?a20 ?l20 ?c20 ?k20 (fun _ _ _ _ _ _ us hl => match us, hl with | [_, _], _ => rfl)
      (case a20 => k_is); (case l20 => k_is); (case c20 => k_is); (case k20 => k_is)
    case d21 =>
      refine' E2.df_mk KX G ?a21 ?l21 ?c21 ?k21 (fun _ _ _ _ _ _ us hl => match us, hl with | [_, _], _ => rfl)
      (case a21 => k_is); (case l21 => k_is); (case c21 => k_is); (case k21 => k_is)
    case d22 =>
      refine' E2.df_mk KX G ?a22 ?l22 ?c22 ?k22 (fun _ _ _ _ _ _ us hl => match us, hl with | [_], _ => rfl)
      (case a22 => k_is); (case l22 => k_is); (case c22 => k_is); (case k22 => k_is)
    (case a => k_is); (case l => k_is); (case c => k_is); (case k => k_is)

