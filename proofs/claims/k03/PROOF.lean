import PyProof.Rows.All
import Wide.All
import OpenK.AllK
import Wide.FinOn
import Lean
import PyProof.EqAt
import PyProof.EqKinds
import PyProof.TupleCall
import PyProof.Rows.SortRuns
import PySem.Challenge.RW_waymusts_k03_least_ways
set_option Elab.async false
set_option linter.all false
set_option maxRecDepth 100000
/-! THE HAND LAYER, for ints, bools, texts, own classes, LISTS and tuples (index, slices, in, append, pop ..), calls, loops. Paste it whole ahead of your own text; what your proof does not reach may be deleted. -/
namespace L2
open PySem PySem.Spec PyProof.Rows

/-- a key: an int or a str -/
abbrev Key := Sum Int Str
def keyIs : Key → Value → Bool
  | .inl k, v => Value.isInt k v
  | .inr x, v => Value.isStrOf x v
def keyH (w : World) : Key → Int
  | .inl k => hashInt k
  | .inr x => hashStr w x
theorem keyIs_shape : ∀ {k : Key} {v : Value}, keyIs k v = true → (∃ i t, k = Sum.inl i ∧ v = Value.int i t) ∨ (∃ x t, k = Sum.inr x ∧ v = Value.str x t)
  | .inl i, v, h => by
    obtain ⟨t, e⟩ := Value.isInt_shape (k := i) (v := v) h
    exact .inl ⟨i, t, rfl, e⟩
  | .inr x, v, h => by
    obtain ⟨t, e⟩ := Value.isStrOf_shape (x := x) (v := v) h
    exact .inr ⟨x, t, rfl, e⟩
theorem keyIs_int (i : Int) (t : Tok) : keyIs (.inl i) (.int i t) = true := by simp [keyIs, Value.isInt]
theorem keyIs_str (x : Str) (t : Tok) : keyIs (.inr x) (.str x t) = true := by simp [keyIs, Value.isStrOf]
theorem key_ll (a b : Int) : decide ((Sum.inl a : Key) = Sum.inl b) = (a == b) := by
  by_cases e : a = b
  · subst e; simp
  · have h : ¬ (Sum.inl a : Key) = Sum.inl b := fun q => e (Sum.inl.inj q)
    rw [decide_eq_false h]
    exact (beq_eq_false_iff_ne.mpr e).symm
theorem key_rr (a b : Str) : decide ((Sum.inr a : Key) = Sum.inr b) = decide (a = b) := by
  by_cases e : a = b
  · subst e; simp
  · have h : ¬ (Sum.inr a : Key) = Sum.inr b := fun q => e (Sum.inr.inj q)
    rw [decide_eq_false h, decide_eq_false e]
theorem key_lr (a : Int) (b : Str) : decide ((Sum.inl a : Key) = Sum.inr b) = false := decide_eq_false (fun q => nomatch q)
theorem key_rl (a : Str) (b : Int) : decide ((Sum.inr a : Key) = Sum.inl b) = false := decide_eq_false (fun q => nomatch q)

def mixKind (prog : Program) (w : World) : PySem.KeyKind prog w Key where
  is := keyIs
  hash := keyH w
  inj := fun v a b ha hb => by
    rcases keyIs_shape ha with ⟨i, t, rfl, rfl⟩ | ⟨x, t, rfl, rfl⟩
    · rcases keyIs_shape hb with ⟨j, u, rfl, e⟩ | ⟨y, u, rfl, e⟩
      · injection e with e1 _; rw [e1]
      · exact nomatch e
    · rcases keyIs_shape hb with ⟨j, u, rfl, e⟩ | ⟨y, u, rfl, e⟩
      · exact nomatch e
      · injection e with e1 _; rw [e1]
  byValue := fun k v h => by
    rcases keyIs_shape h with ⟨i, t, rfl, rfl⟩ | ⟨x, t, rfl, rfl⟩ <;> rfl
  pyHash := fun hv h => by
    rcases keyIs_shape hv with ⟨i, t, rfl, rfl⟩ | ⟨x, t, rfl, rfl⟩
    · exact wpAny_pyHash_int h
    · exact wpAny_pyHash_str h
  eqBool := fun hu hv h => by
    rcases keyIs_shape hu with ⟨i, t, rfl, rfl⟩ | ⟨x, t, rfl, rfl⟩
    · rcases keyIs_shape hv with ⟨j, u, rfl, rfl⟩ | ⟨y, u, rfl, rfl⟩
      · rw [key_ll] at h; exact wpAny_eqBool_int h
      · rw [key_lr] at h; exact SeqAt.EqAt.int_str i t y u _ _ _ _ h
    · rcases keyIs_shape hv with ⟨j, u, rfl, rfl⟩ | ⟨y, u, rfl, rfl⟩
      · rw [key_rl] at h; exact SeqAt.EqAt.str_int x t j u _ _ _ _ h
      · rw [key_rr] at h; exact wpAny_eqBool_str h
  «strs» := fun k x t v h => by
    rcases keyIs_shape h with ⟨i, u, rfl, e⟩ | ⟨y, u, rfl, e⟩
    · exact nomatch e
    · injection e with e1 _
      subst e1
      cases v <;> rfl

theorem mixKind_is (prog : Program) (w : World) (k : Key) (v : Value) : (mixKind prog w).is k v = keyIs k v := rfl
theorem mixKind_int (prog : Program) (w : World) (i : Int) (t : Tok) : (mixKind prog w).is (.inl i) (.int i t) = true := keyIs_int i t
theorem mixKind_str (prog : Program) (w : World) (x : Str) (t : Tok) : (mixKind prog w).is (.inr x) (.str x t) = true := keyIs_str x t
end L2

namespace L2
open PySem PySem.Spec PyProof.Rows

/-- a value, without the heap -/
inductive V where
  | non | bl (b : Bool) | int (i : Int) | str (x : Str) | byt (b : Array UInt8) | flt (b : UInt64) | ref (a : Addr) | ty (n : String)
  deriving DecidableEq

def RelV : V → Value → Prop
  | .non, u => u = Value.none
  | .bl b, u => u = Value.bool b
  | .int i, u => ∃ t, u = Value.int i t
  | .str x, u => ∃ t, u = Value.str x t
  | .byt b, u => ∃ t, u = Value.bytes b t
  | .flt b, u => ∃ t, u = Value.float b t
  | .ref a, u => u = Value.ref a
  | .ty n, u => u = Value.type n

abbrev Vals : List V → List Value → Prop := Paired RelV
theorem Vals.length {xs : List V} {us : List Value} (r : Vals xs us) : xs.length = us.length := Paired.length r
theorem Vals.get : ∀ {xs : List V} {us : List Value} {i : Nat} {x : V}, Vals xs us → xs[i]? = some x → ∃ u, us[i]? = some u ∧ RelV x u
  | _, _, _, _, .nil, e => by simp at e
  | _, _, 0, _, .cons r _, e => by simp at e; subst e; exact ⟨_, rfl, r⟩
  | _, _, i + 1, x, .cons _ t, e => by
    obtain ⟨u, h1, h2⟩ := Vals.get (i := i) (x := x) t (by simpa using e)
    exact ⟨u, by simpa using h1, h2⟩
theorem Vals.set {x : V} {u : Value} (r : RelV x u) : ∀ {xs : List V} {us : List Value} (i : Nat), Vals xs us → Vals (xs.set i x) (us.set i u)
  | _, _, _, .nil => .nil
  | _, _, 0, .cons _ t => .cons r t
  | _, _, i + 1, .cons q t => .cons q (Vals.set r i t)
theorem Vals.append : ∀ {xs ys : List V} {us ws : List Value}, Vals xs us → Vals ys ws → Vals (xs ++ ys) (us ++ ws)
  | _, _, _, _, .nil, s => s
  | _, _, _, _, .cons r t, s => .cons r (Vals.append t s)
theorem Vals.take : ∀ {xs : List V} {us : List Value} (n : Nat), Vals xs us → Vals (xs.take n) (us.take n)
  | _, _, 0, _ => .nil
  | _, _, _ + 1, .nil => .nil
  | _, _, n + 1, .cons r t => .cons r (Vals.take n t)
theorem Vals.drop : ∀ {xs : List V} {us : List Value} (n : Nat), Vals xs us → Vals (xs.drop n) (us.drop n)
  | _, _, 0, r => r
  | _, _, _ + 1, .nil => .nil
  | _, _, n + 1, .cons _ t => Vals.drop n t
theorem Vals.none_of : ∀ {xs : List V} {us : List Value} {i : Nat}, Vals xs us → xs[i]? = none → us[i]? = none := fun {xs us i} r e => by
  have h1 := r.length
  have h2 : xs.length ≤ i := List.getElem?_eq_none_iff.mp e
  exact List.getElem?_eq_none_iff.mpr (by omega)

def RelO : Option V → Option Value → Prop
  | some v, some u => RelV v u
  | none, none => True
  | _, _ => False
def KV {κ : Type} : List (κ × V) → List (κ × Value) → Prop := Paired fun (p : κ × V) (q : κ × Value) => p.1 = q.1 ∧ RelV p.2 q.2

/-- a key of a dict (00_mix): an int or a text -/
def kV : Key → V
  | .inl i => .int i
  | .inr x => .str x

/-- what stands at a tracked address -/
inductive HO where
  /-- a list -/
  | lst (xs : List V)
  /-- a tuple (never changes) -/
  | tup (xs : List V)
  /-- a dict whose keys are ints and texts; one whose keys are tuples of ints and texts (the empty one is both) -/
  | dK (kvs : List (Key × V)) | dT (kvs : List (List Key × V))
  /-- a set of ints: its members, its size -/
  | set (S : Int → Bool) (n : Nat)
  /-- an instance of the class at C, its dict at dx, its attributes -/
  | ins (C dx : Addr) (fs : List (Str × V))
  /-- the dict of the instance at x -/
  | own (x : Addr)
  /-- the dict of an exception -/
  | xd (fs : List (Str × V))
  /-- a bound method, f of x -/
  | met (f x : Addr)
  /-- a range object lo, lo + 1, .. below hi -/
  | rng (lo hi : Int)
  /-- a thing that is known to the object (the script; a dict while a loop walks it): read, never written while it is so -/
  | frz (o : Obj) (u : HO)
  /-- a code object's table -/
  | tbl (ps : Array Value)
  /-- any other thing, by what is true of its one object (a def of one's own: SetO a S n := HO.ext fun h => ..) -/
  | ext (φ : Heap → Prop)

abbrev Hp := Addr → Option HO
def upd (H : Hp) (a : Addr) (o : HO) : Hp := fun b => if b = a then some o else H b
theorem upd_same {H : Hp} {a : Addr} {o : HO} : upd H a o a = some o := by unfold upd; rw [if_pos rfl]
theorem upd_ne {H : Hp} {a b : Addr} {o : HO} (h : b ≠ a) : upd H a o b = H b := by unfold upd; rw [if_neg h]
theorem upd_upd {H : Hp} {a : Addr} {o u : HO} : upd (upd H a o) a u = upd H a u := by
  funext b; unfold upd; split <;> rfl
/-- two objects of different content stand apart -/
theorem ne_of {H : Hp} {a b : Addr} {o u : HO} (h : H a = some o) (h' : H b = some u) (d : o ≠ u) : a ≠ b := by
  intro e; subst e; rw [h] at h'; exact d (Option.some.inj h')
theorem ne_of_none {H : Hp} {a b : Addr} {o : HO} (h : H a = some o) (h' : H b = none) : a ≠ b := by
  intro e; subst e; rw [h] at h'; cases h'

section
variable (P : Program) (w : World)
def ObjOk (H : Hp) (h : Heap) (a : Addr) : HO → Prop
  | .lst xs => xs.length ≤ sizeLine ∧ ∃ (its : List Value) (n : Nat), Vals xs its ∧ h.get? a = some { cls := .type "list", data := .seq its.toArray n }
  | .tup xs => xs.length ≤ sizeLine ∧ ∃ its : List Value, Vals xs its ∧ IsTup h a its.toArray
  | .dK kvs => kvs.length ≤ sizeLine ∧ (a == sysModules) = false ∧ ∃ vs, KV kvs vs ∧ h.DictOf (mixKind P w) a vs
  | .dT kvs => kvs.length ≤ sizeLine ∧ (a == sysModules) = false ∧ ∃ xs : List (List Key × Addr × Value),
      Paired (fun (p : List Key × V) (q : List Key × Addr × Value) => p.1 = q.1 ∧ H q.2.1 = some (.tup (p.1.map kV)) ∧ RelV p.2 q.2.2) kvs xs ∧
      ∃ o es ep, h.get? a = some o ∧ o.ExactDict ∧ o.data = .dict es ep ∧ es.toList = xs.map (entryOfKey (tupleKind (mixKind P w))) ∧ (xs.map (·.1)).Nodup
  | .set S n => h.SetOf (intKind P w) a S n
  | .ins C dx fs => H dx = some (.own a) ∧ fs.length ≤ 1000 ∧ dx ≠ a ∧ h.get? a = some (PySem.W.instObj C dx) ∧
      ∃ mA, h.Ns1 dx mA ∧ (∀ f, RelO (fs.lookup f) (mA f)) ∧ PySem.Within mA (fs.map (·.1))
  | .own _ => ∃ o, h.get? a = some o
  | .xd fs => ∃ mA, h.Ns1 a mA ∧ ∀ f, RelO (fs.lookup f) (mA f)
  | .rng lo hi => ∃ t u v, h.get? a = some { cls := .type "range", data := .fields #[.int lo t, .int hi u, .int 1 v] }
  | .frz o u => h.get? a = some o ∧ ObjOk H h a u
  | .tbl ps => h.get? a = some { cls := .none, data := .fields ps }
  | .met f x => h.get? a = some (PySem.W.methodObj (.ref f) (.ref x))
  | .ext φ => φ h ∧ (∃ o, h.get? a = some o) ∧ ∀ h1 h2 : Heap, φ h1 → (∀ o, h1.get? a = some o → h2.get? a = some o) → φ h2
/-- the abstract heap is held -/
def HOk (H : Hp) (h : Heap) : Prop := ∀ a o, H a = some o → ObjOk P w H h a o
end

section
variable {P : Program} {w : World} {H H' : Hp} {h h' : Heap} {a : Addr} {o : HO}
theorem ObjOk.lt (x : ObjOk P w H h a o) : a < h.objs.size := by
  cases o with
  | lst xs => obtain ⟨_, _, _, _, e⟩ := x; exact Heap.lt_size e
  | tup xs => obtain ⟨_, _, _, p⟩ := x; exact p.lt
  | dK kvs => obtain ⟨_, _, _, _, o, _, _, e, _⟩ := x; exact Heap.lt_size e
  | dT kvs => obtain ⟨_, _, _, _, o, _, _, e, _⟩ := x; exact Heap.lt_size e
  | set S n => obtain ⟨o, _, _, _, e, _⟩ := x; exact Heap.lt_size e
  | ins C dx fs => obtain ⟨_, _, _, e, _⟩ := x; exact Heap.lt_size e
  | own y => obtain ⟨_, e⟩ := x; exact Heap.lt_size e
  | xd fs => obtain ⟨_, ⟨_, _, _, e, _⟩, _⟩ := x; exact Heap.lt_size e
  | rng lo hi => obtain ⟨_, _, _, e⟩ := x; exact Heap.lt_size e
  | frz ob u => obtain ⟨e, _⟩ := x; exact Heap.lt_size e
  | tbl ps => exact Heap.lt_size (show h.get? a = some _ from x)
  | met f y => exact Heap.lt_size (show h.get? a = some _ from x)
  | ext φ => obtain ⟨_, ⟨_, e⟩, _⟩ := x; exact Heap.lt_size e
theorem Paired.mapP {α β : Type} {F G : α → β → Prop} : ∀ {l₁ : List α} {l₂ : List β}, Paired F l₁ l₂ → (∀ a b, F a b → G a b) → Paired G l₁ l₂
  | _, _, .nil, _ => .nil
  | _, _, .cons r t, f => .cons (f _ _ r) (Paired.mapP t f)
theorem Paired.imp' {α β : Type} {F G : α → β → Prop} (f : ∀ a b, F a b → G a b) {l₁ : List α} {l₂ : List β} (r : Paired F l₁ l₂) : Paired G l₁ l₂ := Paired.mapP r f
/-- what an object's description leans on: its own object, its own dict, the tuples -/
theorem ObjOk.stay (x : ObjOk P w H h a o) (k : ∀ b u, (b = a ∨ H b = some (.own a)) → h.get? b = some u → h'.get? b = some u)
    (ho : ∀ b, H b = some (.own a) → H' b = some (.own a)) (ht : ∀ b xs, H b = some (.tup xs) → H' b = some (.tup xs)) : ObjOk P w H' h' a o := by
  induction o with
  | lst xs => obtain ⟨z, its, n, r, e⟩ := x; exact ⟨z, its, n, r, k _ _ (.inl rfl) e⟩
  | tup xs => obtain ⟨z, its, r, ob, e, c⟩ := x; exact ⟨z, its, r, ob, k _ _ (.inl rfl) e, c⟩
  | dK kvs => obtain ⟨z, y, vs, r, ob, es, ep, e, c⟩ := x; exact ⟨z, y, vs, r, ob, es, ep, k _ _ (.inl rfl) e, c⟩
  | dT kvs =>
    obtain ⟨z, y, xs, r, ob, es, ep, e, c⟩ := x
    exact ⟨z, y, xs, Paired.mapP r fun p q z => ⟨z.1, ht _ _ z.2.1, z.2.2⟩, ob, es, ep, k _ _ (.inl rfl) e, c⟩
  | set S n => obtain ⟨ob, es, ep, t, e, c⟩ := x; exact ⟨ob, es, ep, t, k _ _ (.inl rfl) e, c⟩
  | ins C dx fs =>
    obtain ⟨d, z, ne, e, mA, ⟨od, es, ep, e2, c⟩, r⟩ := x
    exact ⟨ho _ d, z, ne, k _ _ (.inl rfl) e, mA, ⟨od, es, ep, k _ _ (.inr d) e2, c⟩, r⟩
  | own y => obtain ⟨ob, e⟩ := x; exact ⟨ob, k _ _ (.inl rfl) e⟩
  | xd fs => obtain ⟨mA, ⟨od, es, ep, e, c⟩, r⟩ := x; exact ⟨mA, ⟨od, es, ep, k _ _ (.inl rfl) e, c⟩, r⟩
  | rng lo hi => obtain ⟨t, u, v, e⟩ := x; exact ⟨t, u, v, k _ _ (.inl rfl) e⟩
  | frz ob u ih => obtain ⟨e, q⟩ := x; exact ⟨k _ _ (.inl rfl) e, ih q⟩
  | tbl ps =>
    have e : h.get? a = some { cls := .none, data := .fields ps } := x
    show h'.get? a = some { cls := .none, data := .fields ps }
    exact k a _ (.inl rfl) e
  | met f y =>
    have e : h.get? a = some (PySem.W.methodObj (.ref f) (.ref y)) := x
    show h'.get? a = some (PySem.W.methodObj (.ref f) (.ref y))
    exact k a _ (.inl rfl) e
  | ext φ => obtain ⟨p, ⟨o, e⟩, st⟩ := x; exact ⟨st _ _ p fun o q => k _ _ (.inl rfl) q, ⟨o, k _ _ (.inl rfl) e⟩, st⟩
theorem HOk.lt (x : HOk P w H h) (e : H a = some o) : a < h.objs.size := (x a o e).lt
theorem HOk.fresh (x : HOk P w H h) (e : h.objs.size ≤ a) : H a = none := by
  cases q : H a with
  | none => rfl
  | some u => exact absurd (Nat.lt_of_lt_of_le (x.lt q) e) (Nat.lt_irrefl _)
/-- every object of the heap is kept -/
theorem HOk.kept (x : HOk P w H h) (k : ∀ b u, h.get? b = some u → h'.get? b = some u) : HOk P w H h' := fun a o e =>
  (x a o e).stay (fun b u _ q => k b u q) (fun _ q => q) fun _ _ q => q
/-- a new object is laid and tracked -/
theorem HOk.laid (x : HOk P w H h) (k : ∀ b u, h.get? b = some u → h'.get? b = some u) (hp : h.objs.size ≤ a) (new : ObjOk P w (upd H a o) h' a o) : HOk P w (upd H a o) h' := fun b u e => by
  have hn := x.fresh hp
  by_cases hb : b = a
  · subst hb; rw [upd_same] at e; cases e; exact new
  · rw [upd_ne hb] at e
    exact (x b u e).stay (fun c v _ q => k c v q) (fun c q => by rw [upd_ne (ne_of_none q hn)]; exact q) fun c xs q => by rw [upd_ne (ne_of_none q hn)]; exact q
end

/-- what may be read as u: it is u, or a known u -/
def Rd (H : Hp) (a : Addr) (u : HO) : Prop := H a = some u ∨ ∃ o, H a = some (.frz o u)
theorem Rd.of {H : Hp} {a : Addr} {u : HO} (h : H a = some u) : Rd H a u := .inl h
theorem Rd.ok {P : Program} {w : World} {H : Hp} {h : Heap} {a : Addr} {u : HO} (r : Rd H a u) (x : HOk P w H h) : ObjOk P w H h a u := by
  rcases r with r | ⟨o, r⟩
  · exact x a u r
  · obtain ⟨_, q⟩ := x a _ r
    exact q
/-- what may be written -/
def Mut : Option HO → Prop
  | some (.lst _) => True
  | some (.dK _) => True
  | some (.dT _) => True
  | some (.set _ _) => True
  | some (.ins _ _ _) => True
  | some (.ext _) => True
  | _ => False
section
variable {P : Program} {w : World} {H : Hp} {h h' : Heap} {x e : Addr} {o' : HO}
/-- the object at e is changed: x itself, or the dict of the instance x -/
theorem HOk.write (ok : HOk P w H h) (mu : Mut (H x)) (he : e = x ∨ H e = some (.own x)) (k : ∀ b u, b ≠ e → h.get? b = some u → h'.get? b = some u) (heo : ∃ u, h'.get? e = some u)
    (new : ObjOk P w (upd H x o') h' x o') : HOk P w (upd H x o') h' := fun b u q => by
  have nown : ∀ c y, H c = some (.own y) → c ≠ x := fun c y r z => by subst z; rw [r] at mu; exact mu
  have ntup : ∀ c xs, H c = some (.tup xs) → c ≠ x := fun c xs r z => by subst z; rw [r] at mu; exact mu
  by_cases hb : b = x
  · subst hb; rw [upd_same] at q; cases q; exact new
  · rw [upd_ne hb] at q
    by_cases hbe : b = e
    · have q' : H b = some (.own x) := by
        rcases he with z | z
        · exact absurd (hbe.trans z) hb
        · rw [hbe]; exact z
      rw [q] at q'; cases q'
      obtain ⟨v, hv⟩ := heo
      exact ⟨v, by rw [hbe]; exact hv⟩
    · refine (ok b u q).stay (fun c v hc r => k c v ?_ r) (fun c r => by rw [upd_ne (nown c b r)]; exact r) fun c xs r => by rw [upd_ne (ntup c xs r)]; exact r
      rcases hc with rfl | hc
      · exact hbe
      · rintro rfl
        rcases he with z | z
        · exact nown c b hc z
        · rw [hc] at z; cases z; exact hb rfl
end

/-! ### kept unless tracked; of the frames at fs (the callers') the slots may change (an exception that passes writes there); of the records at ex (iterators) nothing is said -/
structure Un (fs ex : List Addr) (H H' : Hp) (h h' : Heap) : Prop where
  keep : ∀ b o, h.get? b = some o → H b = none → b ∉ fs → b ∉ ex → h'.get? b = some o
  slot : ∀ b o, h.get? b = some o → H b = none → b ∈ fs → b ∉ ex → ∃ sl, h'.get? b = some { o with slots := sl }
  free : ∀ b o, h.get? b = some o → H b = none → b ∉ ex → H' b = none
  there : ∀ b o, h.get? b = some o → b ∉ ex → ∃ o', h'.get? b = some o'
  tups : ∀ b xs, H b = some (.tup xs) → H' b = some (.tup xs)
  frzs : ∀ b o u, H b = some (.frz o u) → H' b = some (.frz o u)
  tbls : ∀ b ps, H b = some (.tbl ps) → ∃ more, H' b = some (.tbl (ps ++ more))
section
variable {fs fs' ex ex' : List Addr} {H H1 H2 : Hp} {h h1 h2 h' : Heap} {a x e : Addr} {o : HO}
theorem Un.any (u : Un fs ex H H1 h h1) {b : Addr} {ob : Obj} (q : h.get? b = some ob) (n : H b = none) (hx : b ∉ ex) : ∃ sl, h1.get? b = some { ob with slots := sl } := by
  by_cases hb : b ∈ fs
  · exact u.slot b ob q n hb hx
  · exact ⟨ob.slots, u.keep b ob q n hb hx⟩
theorem Un.trans (a : Un fs ex H H1 h h1) (b : Un fs ex H1 H2 h1 h2) : Un fs ex H H2 h h2 where
  keep := fun c ob q n hc hx => b.keep c ob (a.keep c ob q n hc hx) (a.free c ob q n hx) hc hx
  slot := fun c ob q n hc hx => by
    obtain ⟨sl, e1⟩ := a.slot c ob q n hc hx
    obtain ⟨sl', e2⟩ := b.slot c _ e1 (a.free c ob q n hx) hc hx
    exact ⟨sl', e2⟩
  free := fun c ob q n hx => by
    obtain ⟨o', e1⟩ := a.there c ob q hx
    exact b.free c o' e1 (a.free c ob q n hx) hx
  there := fun c ob q hx => by
    obtain ⟨o', e1⟩ := a.there c ob q hx
    exact b.there c o' e1 hx
  tups := fun c xs q => b.tups c xs (a.tups c xs q)
  frzs := fun c ob xs q => b.frzs c ob xs (a.frzs c ob xs q)
  tbls := fun c ps q => by
    obtain ⟨m1, e1⟩ := a.tbls c ps q
    obtain ⟨m2, e2⟩ := b.tbls c _ e1
    exact ⟨m1 ++ m2, by rw [e2, Array.append_assoc]⟩
theorem Un.kept (k : ∀ b u, h.get? b = some u → h'.get? b = some u) : Un fs ex H H h h' :=
  ⟨fun b ob q _ _ _ => k b ob q, fun b ob q _ _ _ => ⟨ob.slots, k b ob q⟩, fun _ _ _ n _ => n, fun b ob q _ => ⟨ob, k b ob q⟩, fun _ _ q => q, fun _ _ _ q => q, fun _ ps q => ⟨#[], by rw [q]; simp⟩⟩
theorem Un.refl : Un fs ex H H h h := Un.kept fun _ _ q => q
theorem Un.laid (k : ∀ b u, h.get? b = some u → h'.get? b = some u) (hp : h.objs.size ≤ a) (hn : H a = none) : Un fs ex H (upd H a o) h h' where
  keep := fun b u q _ _ _ => k b u q
  slot := fun b u q _ _ _ => ⟨u.slots, k b u q⟩
  free := fun b u q n _ => by rw [upd_ne (Nat.ne_of_lt (Nat.lt_of_lt_of_le (Heap.lt_size q) hp))]; exact n
  there := fun b u q _ => ⟨u, k b u q⟩
  tups := fun b xs q => by rw [upd_ne (ne_of_none q hn)]; exact q
  frzs := fun b u xs q => by rw [upd_ne (ne_of_none q hn)]; exact q
  tbls := fun b ps q => ⟨#[], by rw [upd_ne (ne_of_none q hn), q]; simp⟩
theorem Un.write (mu : Mut (H x)) (he : e = x ∨ H e = some (.own x)) (k : ∀ b u, b ≠ e → h.get? b = some u → h'.get? b = some u) (heo : ∃ u, h'.get? e = some u) : Un fs ex H (upd H x o) h h' := by
  have hx : ∀ b, H b = none → b ≠ x := fun b n z => by subst z; rw [n] at mu; exact mu
  have hb : ∀ b, H b = none → b ≠ e := fun b n z => by
    subst z
    rcases he with r | r
    · exact hx b n r
    · rw [n] at r; cases r
  have hm : ∀ b u, H b = some u → ¬ Mut (some u) → b ≠ x := fun b u q nm z => by subst z; rw [q] at mu; exact nm mu
  refine ⟨fun b u q n _ _ => k b u (hb b n) q, fun b u q n _ _ => ⟨u.slots, k b u (hb b n) q⟩, fun b u q n _ => by rw [upd_ne (hx b n)]; exact n, fun b u q _ => ?_,
    fun b xs q => by rw [upd_ne (hm b _ q fun z => z)]; exact q, fun b u xs q => by rw [upd_ne (hm b _ q fun z => z)]; exact q, fun b ps q => ⟨#[], by rw [upd_ne (hm b _ q fun z => z), q]; simp⟩⟩
  by_cases hbe : b = e
  · subst hbe; exact heo
  · exact ⟨u, k b u hbe q⟩
theorem Un.mono (u : Un fs ex H H1 h h1) (hs : ∀ b ∈ fs, b ∈ fs') (hx : ∀ b ∈ ex, b ∈ ex') : Un fs' ex' H H1 h h1 :=
  ⟨fun b ob q n hb he => u.keep b ob q n (fun z => hb (hs b z)) fun z => he (hx b z), fun _ _ q n _ he => u.any q n fun z => he (hx _ z), fun b ob q n he => u.free b ob q n fun z => he (hx b z), fun b ob q he => u.there b ob q fun z => he (hx b z), u.tups, u.frzs, u.tbls⟩
end

/-! ### the heap without what is tracked -/
def trk (h : Heap) (H : Hp) : List Addr := (List.range h.objs.size).filter fun a => (H a).isSome
def hidT (h : Heap) (H : Hp) : Heap := PySem.W.hideAll h (trk h H)
theorem hidT_size (h : Heap) (H : Hp) : (hidT h H).objs.size = h.objs.size := PySem.W.hideAll_size _ _
theorem hidT_get {h : Heap} {H : Hp} {b : Addr} {o : Obj} (e : h.get? b = some o) (n : H b = none) : (hidT h H).get? b = some o :=
  PySem.W.hideAll_get _ e fun hm => by
    have q : (H b).isSome = true := (List.mem_filter.mp hm).2
    rw [n] at q; simp at q
theorem of_hidT {h : Heap} {H : Hp} {b : Addr} {o : Obj} (e : (hidT h H).get? b = some o) : h.get? b = some o ∧ H b = none := by
  have e' : h.get? b = some o := PySem.W.of_hideAll (trk h H) e
  refine ⟨e', ?_⟩
  cases q : H b with
  | none => rfl
  | some x =>
    have hm : b ∈ trk h H := List.mem_filter.mpr ⟨List.mem_range.mpr (Heap.lt_size e'), by simp [q]⟩
    have z : (hidT h H).get? b = none := PySem.W.hideAll_none (trk h H) hm
    rw [z] at e; cases e

/-! ### OpenK's ledger, filled with every new object but one -/
def allNews (g h : Heap) (L : Addr) : List (Addr × Obj) := (List.range h.objs.size).filterMap fun a => if a = L ∨ (g.get? a).isSome = true then none else (h.get? a).map fun o => (a, o)
theorem mem_allNews {g h : Heap} {L a : Addr} {o : Obj} (h1 : a ≠ L) (h2 : g.get? a = none) (h3 : h.get? a = some o) : (a, o) ∈ allNews g h L :=
  List.mem_filterMap.mpr ⟨a, List.mem_range.mpr (Heap.lt_size h3), by simp [h1, h2, h3]⟩
theorem of_mem_allNews {g h : Heap} {L : Addr} {p : Addr × Obj} (hp : p ∈ allNews g h L) : p.1 ≠ L ∧ g.get? p.1 = none ∧ h.get? p.1 = some p.2 := by
  obtain ⟨b, _, e⟩ := List.mem_filterMap.mp hp
  split at e
  · cases e
  · rename_i hn
    cases q : h.get? b with
    | none => rw [q] at e; simp at e
    | some u =>
      rw [q] at e
      simp only [Option.map_some, Option.some.injEq] at e
      subst e
      refine ⟨fun z => hn (.inl z), ?_, q⟩
      show g.get? b = none
      cases r : g.get? b with
      | none => rfl
      | some v => exact (hn (.inr (by simp [r]))).elim
def rest (g h : Heap) (L d : Addr) : List (Addr × Obj) := (allNews g h L).filter fun p => decide (p.1 ≠ d)
theorem rest_ne {g h : Heap} {L d : Addr} : ∀ p ∈ rest g h L d, p.1 ≠ d := fun p hp => of_decide_eq_true (List.mem_filter.mp hp).2
theorem mem_rest {g h : Heap} {L d a : Addr} {o : Obj} (h1 : a ≠ L) (h2 : g.get? a = none) (h3 : h.get? a = some o) (h4 : a ≠ d) : (a, o) ∈ rest g h L d :=
  List.mem_filter.mpr ⟨mem_allNews h1 h2 h3, decide_eq_true h4⟩
theorem news_all {g h : Heap} {L : Addr} : News g L h (allNews g h L) := fun p hp => let ⟨a, b, c⟩ := of_mem_allNews hp; ⟨c, a, b⟩
theorem news_at {g h : Heap} {L d : Addr} {o : Obj} (h1 : d ≠ L) (h2 : g.get? d = none) (h3 : h.get? d = some o) : News g L h ((d, o) :: rest g h L d) := fun p hp => by
  rcases List.mem_cons.mp hp with rfl | hp
  · exact ⟨h3, h1, h2⟩
  · exact news_all p (List.mem_filter.mp hp).1
/-- behind a rule that changed d alone: all else but the frame is kept -/
theorem kept_of_news {g h h' : Heap} {L d : Addr} {m : Str → Option Value} (k : ∀ b o, g.get? b = some o → h.get? b = some o) (F : Fr g L h' m) (N : News g L h' (rest g h L d)) :
    ∀ b o, b ≠ L → b ≠ d → h.get? b = some o → h'.get? b = some o := fun b o h1 h2 e => by
  cases q : g.get? b with
  | some u =>
    have := k b u q
    rw [e] at this; cases this
    exact F.keep b _ q
  | none => exact (N (b, o) (mem_rest h1 q e h2)).1
end L2

namespace L2
open PySem PySem.Spec PyProof.Rows

/-- the module's facts, over the base: the heap at the law's entry without what is tracked there -/
structure Mod (K : PySem.W.Frag) (mg : Str → Option Value) (base : Heap) : Prop where
  kin : K.In base
  glob : base.Ns mainGlobals mg
  blt : ∃ mb, base.Ns builtinsNs mb ∧ ∀ x : Str, x ≠ "__name__" → mb x = bootBuiltins x
  nolimit : base.NoLimit

/-- the context: a def's body (or a comprehension's block) running. base: fixed through the whole law; s₀, H₀: the entry; outer: the frames whose slots others may change (a def's callers); stack: all frames that run;
   ex: iterators that were made ahead of the entry and are walked here (a comprehension's); fn: the names whose cells were made at the entry (a def: all; a comprehension's block: its own); calm: not within an except suite; pn: pins that every state bears; xe: what is wanted of an exception that leaves the code -/
structure Cx where
  prog : Program
  w : World
  K : PySem.W.Frag
  mg : Str → Option Value
  base : Heap
  A : Around
  N : List Str
  s₀ : Shared
  H₀ : Hp
  env : Env
  outer : List Env
  stack : List Env
  ex : List Addr
  fn : Str → Bool
  calm : Bool
  pn : List (Addr × Obj)
  xe : Value → Shared → Prop
/-- the callers' frames -/
def frs (l : List Env) : List Addr := l.filterMap (·.frame)
abbrev Cx.fs (X : Cx) : List Addr := frs X.outer

def Vis (sc : Scope) (x : Str) : Prop := sc.names.lookup x = some .local ∨ sc.names.lookup x = some .cell ∨ sc.names.lookup x = some .free
def Loc (sc : Scope) (x : Str) : Prop := sc.names.lookup x = some .local ∨ sc.names.lookup x = some .cell
def Look (env : Env) (h : Heap) (m : Str → Option Value) (x : Str) (u : Value) : Prop :=
  (env.kindOf x = some .local ∧ m x = some u) ∨ ((env.kindOf x = some .cell ∨ env.kindOf x = some .free) ∧ ∃ c, env.cells.lookup x = some c ∧ h.IsCell c (some u))

structure Cx.Ok (X : Cx) : Prop where
  mod : Mod X.K X.mg X.base
  kind : X.env.scope.kind = .function
  glob : X.env.globals = mainGlobals
  blt : X.env.builtins = builtinsNs
  above : X.s₀.heap.objs.size ≤ X.env.locals
  inj : ∀ x y c, X.env.cells.lookup x = some c → X.env.cells.lookup y = some c → x = y
  has : ∀ x, (X.env.kindOf x = some .cell ∨ X.env.kindOf x = some .free) → ∃ c, X.env.cells.lookup x = some c
  cab : ∀ x c, X.fn x = true → X.env.cells.lookup x = some c → X.s₀.heap.objs.size ≤ c
  hd : X.calm = true → X.A.handled = none
  frames : X.A.frames = some X.stack
  stk : X.stack = X.outer ∨ (X.stack = X.env :: X.outer ∧ X.env.frame = some X.env.locals)
  exf : ∀ b ∈ X.ex, b ≠ X.env.locals ∧ ∀ x c, X.env.cells.lookup x = some c → c ≠ b
  bs : ∀ b o, X.base.get? b = some o → X.s₀.heap.get? b = some o ∧ X.H₀ b = none
  bsz : X.base.objs.size ≤ X.s₀.heap.objs.size
  noex : ∀ b o, X.base.get? b = some o → b ∉ X.ex
  exfs : ∀ b ∈ X.ex, b ∉ X.fs
  funs : X.s₀.heap.FunFrames X.base X.outer
  frf : ∀ b ∈ X.fs, X.H₀ b = none

structure Inv (X : Cx) (pins : List (Addr × Obj)) (σ : List (Option V)) (H : Hp) (s : Shared) : Prop where
  ok : X.Ok
  os : s.os = X.s₀.os
  bare : AllBare s.gens
  base : Un X.fs X.ex X.H₀ H X.s₀.heap s.heap
  loc : ∃ m, s.heap.Ns X.env.locals m ∧ ∀ (i : Nat) (x : Str) (v : V), X.N[i]? = some x → σ[i]? = some (some v) → Vis X.env.scope x → ∃ u, RelV v u ∧ Look X.env s.heap m x u
  cell : ∀ x c, X.env.cells.lookup x = some c → ∃ v, s.heap.IsCell c v
  free : H X.env.locals = none
  freeC : ∀ x c, X.env.cells.lookup x = some c → H c = none
  pin : ∀ p ∈ X.pn ++ pins, s.heap.get? p.1 = some p.2 ∧ H p.1 = none ∧ p.1 ≠ X.env.locals ∧ p.1 ∉ X.fs ∧ ∀ v, p.2.data ≠ .cell v
  hok : HOk X.prog X.w H s.heap
  len : σ.length = X.N.length

section
variable {X : Cx} {pins : List (Addr × Obj)} {σ : List (Option V)} {H H' : Hp} {s : Shared} {h' : Heap}

theorem Cx.Ok.nofr (ok : X.Ok) {b : Addr} {o : Obj} (e : X.base.get? b = some o) : b ∉ X.fs := fun hb => by
  have := (ok.funs.mem hb).1
  rw [e] at this; cases this
theorem Inv.bs (I : Inv X pins σ H s) : ∀ b o, X.base.get? b = some o → s.heap.get? b = some o ∧ H b = none := fun b o e =>
  ⟨I.base.keep b o (I.ok.bs b o e).1 (I.ok.bs b o e).2 (I.ok.nofr e) (I.ok.noex b o e), I.base.free b o (I.ok.bs b o e).1 (I.ok.bs b o e).2 (I.ok.noex b o e)⟩
theorem Inv.bk (I : Inv X pins σ H s) : ∀ b o, X.base.get? b = some o → s.heap.get? b = some o := fun b o e => (I.bs b o e).1
theorem Inv.mod (I : Inv X pins σ H s) : Mod X.K X.mg X.base := I.ok.mod
theorem Inv.kIn (I : Inv X pins σ H s) : X.K.In s.heap := I.ok.mod.kin.keeps I.bk
theorem Inv.nolimit (I : Inv X pins σ H s) : s.heap.NoLimit := I.ok.mod.nolimit.keeps I.bk
/-- the frame over the base: for OpenK's rules (K.In X.base is I.mod.kin) -/
theorem Inv.fr (I : Inv X pins σ H s) : ∃ m, Fr X.base X.env.locals s.heap m :=
  let ⟨m, hn, _⟩ := I.loc
  ⟨m, hn, I.bk, Nat.le_trans I.ok.bsz I.ok.above⟩
theorem Inv.lt (I : Inv X pins σ H s) : X.env.locals < s.heap.objs.size := let ⟨_, hn, _⟩ := I.loc; hn.lt
theorem Inv.sz (I : Inv X pins σ H s) : X.s₀.heap.objs.size ≤ s.heap.objs.size := Nat.le_trans I.ok.above (Nat.le_of_lt I.lt)
theorem Inv.nofs (I : Inv X pins σ H s) {a : Addr} (h : s.heap.objs.size ≤ a) : a ∉ X.fs := fun hb => by
  obtain ⟨_, o, ho, _⟩ := I.ok.funs.mem hb
  exact absurd (Nat.lt_of_lt_of_le (Heap.lt_size ho) (Nat.le_trans I.sz h)) (Nat.lt_irrefl _)
theorem Inv.cne (I : Inv X pins σ H s) : ∀ x c, X.env.cells.lookup x = some c → c ≠ X.env.locals := fun x c e z => by
  obtain ⟨v, o, ho, hd⟩ := I.cell x c e
  obtain ⟨m, ⟨o', es, ep, ho', hd', _⟩, _⟩ := I.loc
  rw [z, ho'] at ho; cases ho; rw [hd'] at hd; cases hd
theorem Inv.funs (I : Inv X pins σ H s) : s.heap.FunFrames X.base X.outer := by
  have all : ∀ (l : List Env), (∀ b ∈ frs l, b ∈ X.fs) → X.s₀.heap.FunFrames X.base l → s.heap.FunFrames X.base l := by
    intro l
    induction l with
    | nil => intro _ _; trivial
    | cons env r ih =>
      intro hs hl
      obtain ⟨hk, ⟨L, o, hf, hn, ho, hd⟩, hr⟩ := hl
      have hL : L ∈ X.fs := hs L (by unfold frs; rw [List.filterMap_cons, hf]; exact List.mem_cons_self)
      obtain ⟨sl, e⟩ := I.base.slot L o ho (I.ok.frf L hL) hL fun z => I.ok.exfs L z hL
      exact ⟨hk, ⟨L, _, hf, hn, e, hd⟩, ih (fun b hb => hs b (by unfold frs; rw [List.filterMap_cons, hf]; exact List.mem_cons_of_mem _ hb)) hr⟩
  exact all X.outer (fun _ hb => hb) I.ok.funs

/-- the frames that run, for a call -/
theorem Inv.stack (I : Inv X pins σ H s) : s.heap.FunFrames X.base X.stack := by
  rcases I.ok.stk with e | ⟨e, hf⟩
  · rw [e]; exact I.funs
  · rw [e]
    obtain ⟨m, hn, _⟩ := I.loc
    refine .cons (by rw [I.ok.kind]; decide) hf hn ?_ I.funs
    exact Heap.get?_none_of_le (Nat.le_trans I.ok.bsz I.ok.above)
theorem Inv.stkSub (I : Inv X pins σ H s) : ∀ b ∈ frs X.stack, b ∈ X.env.locals :: X.fs := fun b hb => by
  rcases I.ok.stk with e | ⟨e, hf⟩
  · rw [e] at hb; exact List.mem_cons_of_mem _ hb
  · rw [e] at hb
    unfold frs at hb
    rw [List.filterMap_cons, hf] at hb
    exact hb
theorem Inv.stkFree (I : Inv X pins σ H s) : ∀ b ∈ frs X.stack, H b = none := fun b hb => by
  rcases List.mem_cons.mp (I.stkSub b hb) with e | hb
  · rw [e]; exact I.free
  · obtain ⟨_, o, ho, _⟩ := I.ok.funs.mem hb
    exact I.base.free b o ho (I.ok.frf b hb) fun z => I.ok.exfs b z hb

/-- THE STEP: the untracked objects but the frame and the records at ch are kept (the callers' frames up to slots), the frame's map is kept, the new abstract heap is held -/
theorem Inv.step {g' : Array GenState} {t' : Nat} {d' : Drawn} {ch : List Addr} (I : Inv X pins σ H s)
    (hch : ∀ b ∈ ch, (b ∈ X.ex ∨ X.s₀.heap.objs.size ≤ b) ∧ b ≠ X.env.locals ∧ (∀ x c, X.env.cells.lookup x = some c → c ≠ b) ∧ ∀ p ∈ X.pn ++ pins, p.1 ≠ b)
    (keep : ∀ b o, b ≠ X.env.locals → b ∉ X.fs → b ∉ ch → s.heap.get? b = some o → H b = none → h'.get? b = some o)
    (slot : ∀ b o, b ≠ X.env.locals → b ∈ X.fs → b ∉ ch → s.heap.get? b = some o → H b = none → ∃ sl, h'.get? b = some { o with slots := sl }) (free : ∀ b o, b ∉ ch → s.heap.get? b = some o → H b = none → H' b = none)
    (there : ∀ b o, b ∉ ch → s.heap.get? b = some o → ∃ o', h'.get? b = some o')
    (tups : ∀ b xs, H b = some (.tup xs) → H' b = some (.tup xs)) (frzs : ∀ b o u, H b = some (.frz o u) → H' b = some (.frz o u)) (tbls : ∀ b ps, H b = some (.tbl ps) → ∃ more, H' b = some (.tbl (ps ++ more)))
    (ns : ∀ m, s.heap.Ns X.env.locals m → h'.Ns X.env.locals m) (hok : HOk X.prog X.w H' h') (hg : AllBare g') :
    Inv X pins σ H' { s with heap := h', gens := g', drawn := d', toks := t' } := by
  have neL : ∀ b o, X.s₀.heap.get? b = some o → b ≠ X.env.locals := fun b o e => Nat.ne_of_lt (Nat.lt_of_lt_of_le (Heap.lt_size e) I.ok.above)
  have neC : ∀ b o, X.s₀.heap.get? b = some o → b ∉ X.ex → b ∉ ch := fun b o e hx hb => by
    rcases (hch b hb).1 with z | z
    · exact hx z
    · exact absurd (Nat.lt_of_lt_of_le (Heap.lt_size e) z) (Nat.lt_irrefl _)
  have cellK : ∀ x c, X.env.cells.lookup x = some c → ∀ v, s.heap.IsCell c v → h'.IsCell c v := fun x c e v ⟨o, ho, hd⟩ => by
    have nch : c ∉ ch := fun z => (hch c z).2.2.1 x c e rfl
    by_cases hc : c ∈ X.fs
    · obtain ⟨sl, q⟩ := slot c o (I.cne x c e) hc nch ho (I.freeC x c e)
      exact ⟨_, q, hd⟩
    · exact ⟨o, keep c o (I.cne x c e) hc nch ho (I.freeC x c e), hd⟩
  refine ⟨I.ok, I.os, hg, ⟨fun b o e n hb hx => ?_, fun b o e n hb hx => ?_, fun b o e n hx => ?_, fun b o e hx => ?_, fun b xs e => tups b xs (I.base.tups b xs e), fun b o xs e => frzs b o xs (I.base.frzs b o xs e), fun b ps e => ?_⟩, ?_, fun x c e => ?_, ?_, fun x c e => ?_, fun p hp => ?_, hok, I.len⟩
  · exact keep b o (neL b o e) hb (neC b o e hx) (I.base.keep b o e n hb hx) (I.base.free b o e n hx)
  · obtain ⟨sl, e1⟩ := I.base.slot b o e n hb hx
    obtain ⟨sl', e2⟩ := slot b _ (neL b o e) hb (neC b o e hx) e1 (I.base.free b o e n hx)
    exact ⟨sl', e2⟩
  · obtain ⟨o', e1⟩ := I.base.there b o e hx
    exact free b o' (neC b o e hx) e1 (I.base.free b o e n hx)
  · obtain ⟨o', e1⟩ := I.base.there b o e hx
    exact there b o' (neC b o e hx) e1
  · obtain ⟨m1, e1⟩ := I.base.tbls b ps e
    obtain ⟨m2, e2⟩ := tbls b _ e1
    exact ⟨m1 ++ m2, by rw [e2, Array.append_assoc]⟩
  · obtain ⟨m, hn, hl⟩ := I.loc
    refine ⟨m, ns m hn, fun i x v e1 e2 e3 => ?_⟩
    obtain ⟨u, r, l⟩ := hl i x v e1 e2 e3
    refine ⟨u, r, ?_⟩
    rcases l with l | ⟨k, c, e, z⟩
    · exact .inl l
    · exact .inr ⟨k, c, e, cellK x c e _ z⟩
  · obtain ⟨v, z⟩ := I.cell x c e
    exact ⟨v, cellK x c e v z⟩
  · obtain ⟨m, ⟨o, _, _, ho, _⟩, _⟩ := I.loc
    exact free _ o (fun z => (hch _ z).2.1 rfl) ho I.free
  · obtain ⟨v, o, ho, hd⟩ := I.cell x c e
    exact free c o (fun z => (hch c z).2.2.1 x c e rfl) ho (I.freeC x c e)
  · obtain ⟨e, n, ne, nf, d⟩ := I.pin p hp
    have nch : p.1 ∉ ch := fun z => (hch p.1 z).2.2.2 p hp rfl
    exact ⟨keep p.1 p.2 ne nf nch e n, free p.1 p.2 nch e n, ne, nf, d⟩
/-- .. where the frame's own object is kept too -/
theorem Inv.un {t' : Nat} (I : Inv X pins σ H s) (u : Un X.fs [] H H' s.heap h') (hok : HOk X.prog X.w H' h') : Inv X pins σ H' { s with heap := h', toks := t' } := by
  obtain ⟨m, ⟨o, es, ep, ho, r⟩, _⟩ := id I.loc
  obtain ⟨sl, hL⟩ := u.any ho I.free (by simp)
  exact I.step (g' := s.gens) (d' := s.drawn) (ch := []) (fun _ z => nomatch z) (fun b o _ hb _ e n => u.keep b o e n hb (by simp)) (fun b o _ hb _ e n => u.slot b o e n hb (by simp)) (fun b o _ e n => u.free b o e n (by simp)) (fun b o _ e => u.there b o e (by simp)) u.tups u.frzs u.tbls (fun m' hm => by
    obtain ⟨o', es', ep', ho', r'⟩ := hm
    rw [ho] at ho'; cases ho'
    exact ⟨_, es', ep', hL, r'⟩) hok I.bare
/-- behind a call (or a comprehension's block): the slots of this frame may have changed too, the records at ch may have turned -/
theorem Inv.call {g' : Array GenState} {t' : Nat} {d' : Drawn} {ch : List Addr} (I : Inv X pins σ H s) (u : Un (frs X.stack) ch H H' s.heap h') (hok : HOk X.prog X.w H' h') (hg : AllBare g')
    (hch : ∀ b ∈ ch, (b ∈ X.ex ∨ X.s₀.heap.objs.size ≤ b) ∧ b ≠ X.env.locals ∧ (∀ x c, X.env.cells.lookup x = some c → c ≠ b) ∧ ∀ p ∈ X.pn ++ pins, p.1 ≠ b) :
    Inv X pins σ H' { s with heap := h', gens := g', drawn := d', toks := t' } := by
  obtain ⟨m, ⟨o, es, ep, ho, r⟩, _⟩ := id I.loc
  obtain ⟨sl, hL⟩ := u.any ho I.free fun z => (hch _ z).2.1 rfl
  exact I.step (ch := ch) hch (fun b o hL hb hc e n => u.keep b o e n (fun z => (List.mem_cons.mp (I.stkSub b z)).elim hL hb) hc) (fun b o _ _ hc e n => u.any e n hc) (fun b o hc e n => u.free b o e n hc) (fun b o hc e => u.there b o e hc) u.tups u.frzs u.tbls (fun m' hm => by
    obtain ⟨o', es', ep', ho', r'⟩ := hm
    rw [ho] at ho'; cases ho'
    exact ⟨_, es', ep', hL, r'⟩) hok hg
/-- an untracked record of ours (an iterator) has turned -/
theorem Inv.turned {t' : Nat} {it : Addr} (I : Inv X pins σ H s) (k : ∀ b o, b ≠ it → s.heap.get? b = some o → h'.get? b = some o) (hn : H it = none) (hL : it ≠ X.env.locals)
    (h1 : it ∈ X.ex ∨ X.s₀.heap.objs.size ≤ it) (h2 : ∀ x c, X.env.cells.lookup x = some c → c ≠ it) (h3 : ∀ p ∈ X.pn ++ pins, p.1 ≠ it) : Inv X pins σ H { s with heap := h', toks := t' } := by
  have nit : ∀ b u, H b = some u → b ≠ it := fun b u e z => by rw [z, hn] at e; cases e
  refine I.step (g' := s.gens) (d' := s.drawn) (ch := [it]) (fun b hb => ?_) (fun b o _ _ hc e _ => k b o (fun z => hc (by simp [z])) e) (fun b o _ _ hc e _ => ⟨o.slots, k b o (fun z => hc (by simp [z])) e⟩) (fun _ _ _ _ n => n)
    (fun b o hc e => ⟨o, k b o (fun z => hc (by simp [z])) e⟩) (fun _ _ e => e) (fun _ _ _ e => e) (fun b ps e => ⟨#[], by rw [e]; simp⟩) (fun m hm => ?_) (fun b u e => ?_) I.bare
  · have e : b = it := by simpa using hb
    subst e
    exact ⟨h1, hL, h2, h3⟩
  · obtain ⟨o, es, ep, ho, r⟩ := hm
    exact ⟨o, es, ep, k _ o (Ne.symm hL) ho, r⟩
  · refine (I.hok b u e).stay (fun c v hc q => k c v ?_ q) (fun _ q => q) fun _ _ q => q
    rcases hc with z | z
    · rw [z]; exact nit b u e
    · exact nit c _ z
theorem Inv.tok (I : Inv X pins σ H s) (t : Nat) : Inv X pins σ H { s with toks := t } := I.un (h' := s.heap) (t' := t) Un.refl I.hok
/-- all objects kept -/
theorem Inv.kept {t' : Nat} (I : Inv X pins σ H s) (k : ∀ b u, s.heap.get? b = some u → h'.get? b = some u) : Inv X pins σ H { s with heap := h', toks := t' } := I.un (Un.kept k) (I.hok.kept k)
/-- a new object laid and tracked -/
theorem Inv.laid {a : Addr} {o : HO} {t' : Nat} (I : Inv X pins σ H s) (k : ∀ b u, s.heap.get? b = some u → h'.get? b = some u) (hp : s.heap.objs.size ≤ a) (new : ObjOk X.prog X.w (upd H a o) h' a o) :
    Inv X pins σ (upd H a o) { s with heap := h', toks := t' } := I.un (Un.laid k hp (I.hok.fresh hp)) (I.hok.laid k hp new)
/-- an object written -/
theorem Inv.write {x e : Addr} {o : HO} {t' : Nat} (I : Inv X pins σ H s) (mu : Mut (H x)) (he : e = x ∨ H e = some (.own x)) (k : ∀ b u, b ≠ e → s.heap.get? b = some u → h'.get? b = some u) (heo : ∃ u, h'.get? e = some u)
    (new : ObjOk X.prog X.w (upd H x o) h' x o) : Inv X pins σ (upd H x o) { s with heap := h', toks := t' } := I.un (Un.write mu he k heo) (I.hok.write mu he k heo new)
/-- forgetting slots, pins -/
theorem Inv.weak {σ' : List (Option V)} (I : Inv X pins σ H s) (hl : σ'.length = σ.length) (w : ∀ (i : Nat) v, σ'[i]? = some (some v) → σ[i]? = some (some v)) : Inv X pins σ' H s :=
  ⟨I.ok, I.os, I.bare, I.base, let ⟨m, hn, hl'⟩ := I.loc; ⟨m, hn, fun i x v e1 e2 e3 => hl' i x v e1 (w i v e2) e3⟩, I.cell, I.free, I.freeC, I.pin, I.hok, hl.trans I.len⟩
theorem Inv.pins_of {pins' : List (Addr × Obj)} (I : Inv X pins σ H s) (h : ∀ p ∈ pins', s.heap.get? p.1 = some p.2 ∧ H p.1 = none ∧ p.1 ≠ X.env.locals ∧ p.1 ∉ X.fs ∧ ∀ v, p.2.data ≠ .cell v) : Inv X pins' σ H s :=
  ⟨I.ok, I.os, I.bare, I.base, I.loc, I.cell, I.free, I.freeC, fun p hp => (List.mem_append.mp hp).elim (fun z => I.pin p (List.mem_append_left _ z)) (h p), I.hok, I.len⟩

theorem nodup_ix {N : List Str} (hN : N.Nodup) {i j : Nat} {x : Str} (a : N[i]? = some x) (b : N[j]? = some x) : i = j := by
  obtain ⟨h1, e1⟩ := List.getElem?_eq_some_iff.mp a
  obtain ⟨h2, e2⟩ := List.getElem?_eq_some_iff.mp b
  exact (List.getElem_inj hN).mp (e1.trans e2.symm)

/-- a name is stored; what changed -/
theorem store_ok2 {M : Model} {A : Around} {E : Value → Shared → Prop} {i : Nat} {x : Str} {v : V} {u : Value} {Q : Unit → Shared → Prop} (I : Inv X pins σ H s) (hN : X.N.Nodup) (hi : X.N[i]? = some x) (hx : Loc X.env.scope x) (r : RelV v u)
    (h : ∀ s', Inv X pins (σ.set i (some v)) H s' → (∃ a, Heap.SameBut a s.heap s'.heap ∧ (a = X.env.locals ∨ X.env.cells.lookup x = some a)) → Q () s') (hf : X.fn x = true ∨ X.env.scope.names.lookup x = some .local := by first | exact .inl rfl | exact .inr rfl | assumption) : wpAny M A (storeName X.env x u) Q E s := by
  obtain ⟨m, hn, hl⟩ := id I.loc
  have hcls : (X.env.scope.kind == .class || (X.env.scope.kind == .module && X.env.locals != X.env.globals)) = false := by rw [I.ok.kind]; rfl
  have hiσ : i < σ.length := by rw [I.len]; exact (List.getElem?_eq_some_iff.mp hi).1
  have cne := I.cne
  have tracked : ∀ {a : Addr} {h' : Heap}, (∃ o, s.heap.get? a = some o ∧ H a = none) → Heap.SameBut a s.heap h' → HOk X.prog X.w H h' := fun {a h'} ha hs b ob e => by
    obtain ⟨_, _, hfree⟩ := ha
    refine (I.hok b ob e).stay (fun c w' hc q => (hs.2 c ?_).trans q) (fun _ q => q) fun _ _ q => q
    rintro rfl
    rcases hc with rfl | hc
    · rw [hfree] at e; cases e
    · rw [hfree] at hc; cases hc
  rcases hx with hk | hk
  · refine wpAny_storeName_local hk hn (fun h' hn' hs => ?_) hcls
    obtain ⟨oL, _, _, hoL, _⟩ := id hn
    refine h _ ⟨I.ok, I.os, I.bare, ⟨fun b o e n hb hx => ?_, fun b o e n hb hx => ?_, I.base.free, fun b o e hx => ?_, I.base.tups, I.base.frzs, I.base.tbls⟩, ⟨_, hn', fun j y v' e1 e2 e3 => ?_⟩, fun y c e => ?_, I.free, I.freeC, fun p hp => ?_, tracked ⟨oL, hoL, I.free⟩ hs, by simpa using I.len⟩ ⟨_, hs, .inl rfl⟩
    · exact (hs.2 b (Nat.ne_of_lt (Nat.lt_of_lt_of_le (Heap.lt_size e) I.ok.above))).trans (I.base.keep b o e n hb hx)
    · obtain ⟨sl, e1⟩ := I.base.slot b o e n hb hx
      exact ⟨sl, (hs.2 b (Nat.ne_of_lt (Nat.lt_of_lt_of_le (Heap.lt_size e) I.ok.above))).trans e1⟩
    · obtain ⟨o', e1⟩ := I.base.there b o e hx
      exact ⟨o', (hs.2 b (Nat.ne_of_lt (Nat.lt_of_lt_of_le (Heap.lt_size e) I.ok.above))).trans e1⟩
    · by_cases hj : j = i
      · subst hj
        rw [hi] at e1; cases e1
        rw [List.getElem?_set_self hiσ] at e2
        cases e2
        exact ⟨u, r, .inl ⟨hk, by simp⟩⟩
      · rw [List.getElem?_set_ne (Ne.symm hj)] at e2
        obtain ⟨u', r', q⟩ := hl j y v' e1 e2 e3
        refine ⟨u', r', ?_⟩
        rcases q with ⟨k, e⟩ | ⟨k, c, e, z⟩
        · refine .inl ⟨k, ?_⟩
          have : y ≠ x := fun e => hj (nodup_ix hN e1 (e ▸ hi))
          simp [this, e]
        · exact .inr ⟨k, c, e, z.sameBut hs (cne y c e)⟩
    · obtain ⟨w', z⟩ := I.cell y c e
      exact ⟨w', z.sameBut hs (cne y c e)⟩
    · obtain ⟨e, n, ne, nf, d⟩ := I.pin p hp
      exact ⟨(hs.2 p.1 ne).trans e, n, ne, nf, d⟩
  · have hfn : X.fn x = true := by
      rcases hf with z | z
      · exact z
      · rw [z] at hk; cases hk
    obtain ⟨c, hc⟩ := I.ok.has x (.inl hk)
    obtain ⟨w', z⟩ := I.cell x c hc
    refine wpAny_storeName_cell I.ok.kind hk hc z (fun h' hc' hs => ?_)
    obtain ⟨oc, hoc, hocd⟩ := id z
    refine h { s with heap := h' } ⟨I.ok, I.os, I.bare, ⟨fun b o e n hb hx => ?_, fun b o e n hb hx => ?_, I.base.free, fun b o e hx => ?_, I.base.tups, I.base.frzs, I.base.tbls⟩, ⟨m, hn.sameBut hs (Ne.symm (cne x c hc)), fun j y v' e1 e2 e3 => ?_⟩, fun y c' e => ?_, I.free, I.freeC, fun p hp => ?_, tracked ⟨oc, hoc, I.freeC x c hc⟩ hs, by simpa using I.len⟩ ⟨c, hs, .inr hc⟩
    · exact (hs.2 b (Nat.ne_of_lt (Nat.lt_of_lt_of_le (Heap.lt_size e) (I.ok.cab x c hfn hc)))).trans (I.base.keep b o e n hb hx)
    · obtain ⟨sl, e1⟩ := I.base.slot b o e n hb hx
      exact ⟨sl, (hs.2 b (Nat.ne_of_lt (Nat.lt_of_lt_of_le (Heap.lt_size e) (I.ok.cab x c hfn hc)))).trans e1⟩
    · obtain ⟨o', e1⟩ := I.base.there b o e hx
      exact ⟨o', (hs.2 b (Nat.ne_of_lt (Nat.lt_of_lt_of_le (Heap.lt_size e) (I.ok.cab x c hfn hc)))).trans e1⟩
    · by_cases hj : j = i
      · subst hj
        rw [hi] at e1; cases e1
        rw [List.getElem?_set_self hiσ] at e2
        cases e2
        exact ⟨u, r, .inr ⟨.inl hk, c, hc, hc'⟩⟩
      · rw [List.getElem?_set_ne (Ne.symm hj)] at e2
        obtain ⟨u', r', q⟩ := hl j y v' e1 e2 e3
        refine ⟨u', r', ?_⟩
        rcases q with q | ⟨k, c', e, z'⟩
        · exact .inl q
        · refine .inr ⟨k, c', e, z'.sameBut hs ?_⟩
          rintro rfl
          exact hj (nodup_ix hN e1 (I.ok.inj _ _ _ e hc ▸ hi))
    · by_cases hcc : c' = c
      · subst hcc; exact ⟨_, hc'⟩
      · obtain ⟨w2, z2⟩ := I.cell y c' e
        exact ⟨w2, z2.sameBut hs hcc⟩
    · obtain ⟨e, n, ne, nf, d⟩ := I.pin p hp
      refine ⟨(hs.2 p.1 ?_).trans e, n, ne, nf, d⟩
      intro q
      rw [q, hoc] at e
      have q' : oc = p.2 := Option.some.inj e
      exact d w' (by rw [← q']; exact hocd)
theorem store_ok {M : Model} {A : Around} {E : Value → Shared → Prop} {i : Nat} {x : Str} {v : V} {u : Value} {Q : Unit → Shared → Prop} (I : Inv X pins σ H s) (hN : X.N.Nodup) (hi : X.N[i]? = some x) (hx : Loc X.env.scope x) (r : RelV v u)
    (h : ∀ s', Inv X pins (σ.set i (some v)) H s' → Q () s') (hf : X.fn x = true ∨ X.env.scope.names.lookup x = some .local := by first | exact .inl rfl | exact .inr rfl | assumption) : wpAny M A (storeName X.env x u) Q E s :=
  store_ok2 I hN hi hx r (fun s' I' _ => h s' I') hf
/-- behind a call or a block, the state as it is -/
theorem Inv.call' {s' : Shared} {ch : List Addr} (I : Inv X pins σ H s) (ho : s'.os = s.os) (u : Un (frs X.stack) ch H H' s.heap s'.heap) (hok : HOk X.prog X.w H' s'.heap) (hg : AllBare s'.gens)
    (hch : ∀ b ∈ ch, (b ∈ X.ex ∨ X.s₀.heap.objs.size ≤ b) ∧ b ≠ X.env.locals ∧ (∀ x c, X.env.cells.lookup x = some c → c ≠ b) ∧ ∀ p ∈ X.pn ++ pins, p.1 ≠ b) : Inv X pins σ H' s' := by
  obtain ⟨h', g', d', t', o'⟩ := s'
  have e : o' = s.os := ho
  subst e
  exact I.call (g' := g') (t' := t') (d' := d') u hok hg hch
end

/-! ### the judgements -/
/-- an exception: its class, its own dict's address (where it has one), the abstract heap behind it -/
abbrev XK := Value → Option Addr → Hp → Prop
abbrev St := List (Option V)
abbrev VK := V → Hp → Prop
/-- an expression's reading; a test's; an argument list's -/
abbrev TE := St → Hp → VK → Prop
abbrev TT := St → Hp → (Bool → Hp → Prop) → Prop
abbrev TA := St → Hp → (List V → Hp → Prop) → Prop
/-- what is wanted behind a statement -/
structure Ends where
  nx : St → Hp → Prop
  rt : VK
  bk : St → Hp → Prop := fun _ _ => False
  ct : St → Hp → Prop := fun _ _ => False
abbrev TS := Ends → St → Hp → Prop

def EP (X : Cx) (pins : List (Addr × Obj)) (σ : St) (Q : VK) (u : Value) (s' : Shared) : Prop := ∃ v H', Inv X pins σ H' s' ∧ RelV v u ∧ Q v H'
def TP (X : Cx) (pins : List (Addr × Obj)) (σ : St) (Q : Bool → Hp → Prop) (b : Bool) (s' : Shared) : Prop := ∃ H', Inv X pins σ H' s' ∧ Q b H'
def AP (X : Cx) (pins : List (Addr × Obj)) (σ : St) (Q : List V → Hp → Prop) (us : List Value) (s' : Shared) : Prop := ∃ vs H', Inv X pins σ H' s' ∧ Vals vs us ∧ Q vs H'
def SP (X : Cx) (pins : List (Addr × Obj)) (D : Ends) (f : Flow) (s' : Shared) : Prop :=
  match f with
  | .next => ∃ σ' H', Inv X pins σ' H' s' ∧ D.nx σ' H'
  | .brk => ∃ σ' H', Inv X pins σ' H' s' ∧ D.bk σ' H'
  | .cont => ∃ σ' H', Inv X pins σ' H' s' ∧ D.ct σ' H'
  | .ret u => ∃ v σ' H', Inv X pins σ' H' s' ∧ RelV v u ∧ D.rt v H'

def PE (X : Cx) (e : Expr) (t : TE) : Prop :=
  ∀ (pins : List (Addr × Obj)) (s : Shared) (σ : St) (H : Hp) (Q : VK), Inv X pins σ H s → t σ H Q → wpAny (model X.prog X.w) X.A (eval e X.env) (EP X pins σ Q) X.xe s
def PT (X : Cx) (e : Expr) (t : TT) : Prop :=
  ∀ (pins : List (Addr × Obj)) (s : Shared) (σ : St) (H : Hp) (Q : Bool → Hp → Prop), Inv X pins σ H s → t σ H Q → wpAny (model X.prog X.w) X.A (isTrue e X.env (eval e X.env)) (TP X pins σ Q) X.xe s
/-- a test whatever its 'whole' is (and, or) -/
def PW (X : Cx) (e : Expr) (t : TT) : Prop :=
  ∀ (whole : Sem Value) (pins : List (Addr × Obj)) (s : Shared) (σ : St) (H : Hp) (Q : Bool → Hp → Prop), Inv X pins σ H s → t σ H Q → wpAny (model X.prog X.w) X.A (isTrue e X.env whole) (TP X pins σ Q) X.xe s
theorem PW.pt {X : Cx} {e : Expr} {t : TT} (h : PW X e t) : PT X e t := h _
/-- an argument list (no star), from the left -/
def PA (X : Cx) (es : List Expr) (t : TA) : Prop :=
  ∀ (pos : Pos) (pins : List (Addr × Obj)) (s : Shared) (σ : St) (H : Hp) (Q : List V → Hp → Prop), Inv X pins σ H s → t σ H Q → wpAny (model X.prog X.w) X.A (spliced (backTo pos (starEach es X.env))) (AP X pins σ Q) X.xe s
def PS (X : Cx) (st : Stmt) (t : TS) : Prop :=
  ∀ (pins : List (Addr × Obj)) (s : Shared) (σ : St) (H : Hp) (D : Ends), Inv X pins σ H s → t D σ H → wpAny (model X.prog X.w) X.A (exec st X.env) (SP X pins D) X.xe s
def PSs (X : Cx) (st : List Stmt) (t : TS) : Prop :=
  ∀ (pins : List (Addr × Obj)) (s : Shared) (σ : St) (H : Hp) (D : Ends), Inv X pins σ H s → t D σ H → wpAny (model X.prog X.w) X.A (execs st X.env) (SP X pins D) X.xe s
/-- weaken the end -/
theorem thn {α : Type} {t : Sem α} {Q Q' : α → Shared → Prop} {M : Model} {A : Around} {E : Value → Shared → Prop} {s : Shared} (h : wpAny M A t Q E s) (hQ : ∀ a s, Q a s → Q' a s) : wpAny M A t Q' E s := wpAny_mono h hQ fun _ _ x => x
end L2

namespace L2
open PySem PySem.Spec PyProof.Rows
section
variable {X : Cx}

/-- two expressions in a row -/
theorem bin {a b : Expr} {ta tb : TE} (ha : PE X a ta) (hb : PE X b tb) {pins : List (Addr × Obj)} {s : Shared} {σ : St} {H : Hp} {R : V → V → Hp → Prop} (I : Inv X pins σ H s) (h : ta σ H fun x H1 => tb σ H1 fun y H2 => R x y H2)
    {α : Type} {Q : α → Shared → Prop} {f : Value → Value → Sem α}
    (hf : ∀ v u s2 x y H2, Inv X pins σ H2 s2 → RelV x v → RelV y u → R x y H2 → wpAny (model X.prog X.w) X.A (f v u) Q X.xe s2) :
    wpAny (model X.prog X.w) X.A (eval a X.env) (fun v s₁ => wpAny (model X.prog X.w) X.A (eval b X.env) (fun u s₂ => wpAny (model X.prog X.w) X.A (f v u) Q X.xe s₂) X.xe s₁) X.xe s := by
  refine thn (ha pins s σ H _ I h) fun v s1 ⟨x, H1, I1, r1, q1⟩ => ?_
  refine thn (hb pins s1 σ H1 _ I1 q1) fun u s2 ⟨y, H2, I2, r2, q2⟩ => ?_
  exact hf v u s2 x y H2 I2 r1 r2 q2

/-! ### names and constants -/
def tVar (i : Nat) : TE := fun σ H Q => ∃ v, σ[i]? = some (some v) ∧ Q v H
def tC (v : V) : TE := fun _ H Q => Q v H
theorem pe_var {i : Nat} {x : Str} {pos : Pos} (hN : X.N[i]? = some x) (hv : Vis X.env.scope x) (hd : (x == ("__debug__" : Str)) = false := by decide) (hcd : (x == ("__classdict__" : Str)) = false := by decide) : PE X (.Name x pos) (tVar i) := by
  intro pins s σ H Q I h
  obtain ⟨v, e, h⟩ := h
  obtain ⟨m, hn, hl⟩ := I.loc
  obtain ⟨u, r, l⟩ := hl i x v hN e hv
  have fin : EP X pins σ Q u s := ⟨v, H, I, r, h⟩
  rcases l with ⟨hk, hm⟩ | ⟨hk, c, hc, hcell⟩
  · exact wpAny_Name (wpAny_loadName_local I.ok.kind hk hn hm fin) hd
  · rcases hk with hk | hk
    · exact wpAny_Name (wpAny_loadName_cell I.ok.kind hk hc hcell fin) hd
    · exact wpAny_Name (wpAny_loadName_free I.ok.kind hk hc hcell fin hcd) hd
theorem pe_int {i j pos} : PE X (.Constant (.int i) j pos) (tC (.int i)) := fun _ _ _ H _ I h => wpAny_Constant_int ⟨.int i, H, I.tok _, ⟨_, rfl⟩, h⟩
theorem pe_bl {b j pos} : PE X (.Constant (.bool b) j pos) (tC (.bl b)) := fun _ _ _ H _ I h => Constant_bool ⟨.bl b, H, I, rfl, h⟩
theorem pe_non {j pos} : PE X (.Constant .none j pos) (tC .non) := fun _ _ _ H _ I h => Constant_none ⟨.non, H, I, rfl, h⟩
theorem pe_str {x j pos} : PE X (.Constant (.str x) j pos) (tC (.str x)) := fun _ _ _ H _ I h => Calls.Constant_str ⟨.str x, H, I.tok _, ⟨_, rfl⟩, h⟩

/-- a global name of the def -/
def Gl (X : Cx) (x : Str) : Prop := X.env.kindOf x = some .globalImplicit
theorem ld_glob {E : Value → Shared → Prop} {pins : List (Addr × Obj)} {s : Shared} {σ : St} {H : Hp} {x : Str} {u : Value} {pos : Pos} {Q : Value → Shared → Prop} (I : Inv X pins σ H s) (hg : Gl X x) (hm : X.mg x = some u) (h : Q u s)
    (hd : (x == ("__debug__" : Str)) = false := by decide) : wpAny (model X.prog X.w) X.A (eval (.Name x pos) X.env) Q E s :=
  Calls.Name_function_global I.ok.kind hg (Calls.loadGlobal_global (by rw [I.ok.glob]; exact I.mod.glob.keeps I.bk) hm h) hd
theorem ld_blt {E : Value → Shared → Prop} {pins : List (Addr × Obj)} {s : Shared} {σ : St} {H : Hp} {x : Str} {u : Value} {pos : Pos} {Q : Value → Shared → Prop} (I : Inv X pins σ H s) (hg : Gl X x) (hm : X.mg x = none) (hv : bootBuiltins x = some u) (h : Q u s)
    (hn : x ≠ "__name__" := by decide) (hd : (x == ("__debug__" : Str)) = false := by decide) : wpAny (model X.prog X.w) X.A (eval (.Name x pos) X.env) Q E s := by
  obtain ⟨mb, h1, h2⟩ := I.mod.blt
  exact Calls.Name_function_global I.ok.kind hg (Calls.loadGlobal_builtin (by rw [I.ok.glob]; exact I.mod.glob.keeps I.bk) hm (by rw [I.ok.blt]; exact h1.keeps I.bk) ((h2 x hn).trans hv) h) hd
/-- a module's constant, a class, a function, as a value -/
theorem pe_glob {x : Str} {v : V} {u : Value} {pos : Pos} (hg : Gl X x) (hm : X.mg x = some u) (r : RelV v u) (hd : (x == ("__debug__" : Str)) = false := by decide) : PE X (.Name x pos) (tC v) :=
  fun _ _ _ H _ I h => ld_glob I hg hm ⟨v, H, I, r, h⟩ hd
theorem pe_bltn {x : Str} {v : V} {u : Value} {pos : Pos} (hg : Gl X x) (hm : X.mg x = none) (hv : bootBuiltins x = some u) (r : RelV v u) (hn : x ≠ "__name__" := by decide) (hd : (x == ("__debug__" : Str)) = false := by decide) : PE X (.Name x pos) (tC v) :=
  fun _ _ _ H _ I h => ld_blt I hg hm hv ⟨v, H, I, r, h⟩ hn hd

/-! ### arithmetic -/
/-- two ints -/
def t2I (ta tb : TE) (k : Int → Int → Hp → Prop) : St → Hp → Prop := fun σ H => ta σ H fun x H1 => tb σ H1 fun y H2 => ∃ i j, x = .int i ∧ y = .int j ∧ k i j H2
def tAdd (ta tb : TE) : TE := fun σ H Q => t2I ta tb (fun i j H2 => Q (.int (i + j)) H2) σ H
def tSub (ta tb : TE) : TE := fun σ H Q => t2I ta tb (fun i j H2 => Q (.int (i - j)) H2) σ H
/-- the left factor below 2^64 -/
def tMul (ta tb : TE) : TE := fun σ H Q => t2I ta tb (fun i j H2 => (-(2 ^ 64) < i ∧ i < 2 ^ 64) ∧ Q (.int (i * j)) H2) σ H
variable {a b : Expr} {ta tb : TE} {pos : Pos}
theorem pe_add (ha : PE X a ta) (hb : PE X b tb) : PE X (.BinOp a .Add b pos) (tAdd ta tb) := by
  intro pins s σ H Q I h
  refine wpAny_BinOp (bin ha hb I h fun v u s2 x y H2 I2 rx ry q => ?_)
  obtain ⟨i, j, rfl, rfl, q⟩ := q
  obtain ⟨t, rfl⟩ := rx
  obtain ⟨t', rfl⟩ := ry
  exact add_int ⟨.int _, H2, I2.tok _, ⟨_, rfl⟩, q⟩
theorem pe_sub (ha : PE X a ta) (hb : PE X b tb) : PE X (.BinOp a .Sub b pos) (tSub ta tb) := by
  intro pins s σ H Q I h
  refine wpAny_BinOp (bin ha hb I h fun v u s2 x y H2 I2 rx ry q => ?_)
  obtain ⟨i, j, rfl, rfl, q⟩ := q
  obtain ⟨t, rfl⟩ := rx
  obtain ⟨t', rfl⟩ := ry
  exact sub_int ⟨.int _, H2, I2.tok _, ⟨_, rfl⟩, q⟩
theorem pe_mul (ha : PE X a ta) (hb : PE X b tb) : PE X (.BinOp a .Mult b pos) (tMul ta tb) := by
  intro pins s σ H Q I h
  refine wpAny_BinOp (bin ha hb I h fun v u s2 x y H2 I2 rx ry q => ?_)
  obtain ⟨i, j, rfl, rfl, ⟨q1, q2⟩, q⟩ := q
  obtain ⟨t, rfl⟩ := rx
  obtain ⟨t', rfl⟩ := ry
  exact mul_int ⟨.int _, H2, I2.tok _, ⟨_, rfl⟩, q⟩ (.of_left (intBits_le_64 q1 q2))

/-! ### comparisons -/
def PC (X : Cx) (op : CmpOp) (a b : Expr) (t : TE) : Prop :=
  ∀ (pins : List (Addr × Obj)) (s : Shared) (σ : St) (H : Hp) (Q : VK), Inv X pins σ H s → t σ H Q →
    wpAny (model X.prog X.w) X.A (eval a X.env) (fun v s₁ => wpAny (model X.prog X.w) X.A (eval b X.env) (fun u s₂ => wpAny (model X.prog X.w) X.A (compareOp op v u) (EP X pins σ Q) X.xe s₂) X.xe s₁) X.xe s
theorem nobehind (b : Expr) {op : CmpOp} (h : op ≠ .In) (h2 : op ≠ .NotIn) : behindInMarks op b = false := by
  have e1 : (op == CmpOp.In) = false := by cases op <;> first | rfl | exact absurd rfl h
  have e2 : (op == CmpOp.NotIn) = false := by cases op <;> first | rfl | exact absurd rfl h2
  cases b <;> simp [behindInMarks, e1, e2]
def tCmp (p : Int → Int → Bool) (ta tb : TE) : TE := fun σ H Q => t2I ta tb (fun i j H2 => Q (.bl (p i j)) H2) σ H
abbrev tLt : TE → TE → TE := tCmp fun i j => decide (i < j)
abbrev tLe : TE → TE → TE := tCmp fun i j => decide (i ≤ j)
abbrev tGt : TE → TE → TE := tCmp fun i j => decide (j < i)
abbrev tGe : TE → TE → TE := tCmp fun i j => decide (j ≤ i)
abbrev tEqI : TE → TE → TE := tCmp fun i j => decide (i = j)
abbrev tNeI : TE → TE → TE := tCmp fun i j => !decide (i = j)
/-- a comparison of two ints, by its rule -/
theorem pc_int {op : CmpOp} {p : Int → Int → Bool} (ha : PE X a ta) (hb : PE X b tb)
    (rule : ∀ (i j : Int) (t u : Tok) (Q : Value → Shared → Prop) (s : Shared), Q (.bool (p i j)) s → wpAny (model X.prog X.w) X.A (compareOp op (.int i t) (.int j u)) Q X.xe s) : PC X op a b (tCmp p ta tb) := by
  intro pins s σ H Q I h
  refine bin ha hb I h fun v u s2 x y H2 I2 rx ry q => ?_
  obtain ⟨i, j, rfl, rfl, q⟩ := q
  obtain ⟨t, rfl⟩ := rx
  obtain ⟨t', rfl⟩ := ry
  exact rule i j t t' _ s2 ⟨.bl _, H2, I2, rfl, q⟩
theorem pc_lt (ha : PE X a ta) (hb : PE X b tb) : PC X .Lt a b (tLt ta tb) := pc_int ha hb fun _ _ _ _ _ _ h => lt_int h
theorem pc_le (ha : PE X a ta) (hb : PE X b tb) : PC X .LtE a b (tLe ta tb) := pc_int ha hb fun _ _ _ _ _ _ h => le_int h
theorem pc_gt (ha : PE X a ta) (hb : PE X b tb) : PC X .Gt a b (tGt ta tb) := pc_int ha hb fun _ _ _ _ _ _ h => gt_int h
theorem pc_ge (ha : PE X a ta) (hb : PE X b tb) : PC X .GtE a b (tGe ta tb) := pc_int ha hb fun _ _ _ _ _ _ h => ge_int h
theorem pc_eqI (ha : PE X a ta) (hb : PE X b tb) : PC X .Eq a b (tEqI ta tb) := pc_int ha hb fun _ _ _ _ _ _ h => eq_int (by rw [Bool.beq_eq_decide_eq]; exact h)
theorem pc_neI (ha : PE X a ta) (hb : PE X b tb) : PC X .NotEq a b (tNeI ta tb) := pc_int ha hb fun _ _ _ _ _ _ h => ne_int (by rw [bne, Bool.beq_eq_decide_eq]; exact h)
/-- is None -/
def tIsN (ta : TE) : TE := fun σ H Q => ta σ H fun x H1 => Q (.bl (decide (x = .non))) H1
def tNotN (ta : TE) : TE := fun σ H Q => ta σ H fun x H1 => Q (.bl (!decide (x = .non))) H1
theorem RelV.none_iff {x : V} {v : Value} (r : RelV x v) : (v == Value.none) = decide (x = .non) := by
  cases x with
  | non => cases r; rfl
  | bl _ => cases r; rfl
  | int _ => obtain ⟨t, rfl⟩ := r; rfl
  | str _ => obtain ⟨t, rfl⟩ := r; rfl
  | byt _ => obtain ⟨t, rfl⟩ := r; rfl
  | flt _ => obtain ⟨t, rfl⟩ := r; rfl
  | ref _ => cases r; rfl
  | ty _ => cases r; rfl
theorem pc_isN {j pos'} (ha : PE X a ta) : PC X .Is a (.Constant .none j pos') (tIsN ta) := by
  intro pins s σ H Q I h
  refine thn (ha pins s σ H _ I h) fun v s1 ⟨x, H1, I1, r1, q1⟩ => ?_
  exact Constant_none (is_none_gen ⟨.bl _, H1, I1, by rw [r1.none_iff]; rfl, q1⟩)
theorem pc_notN {j pos'} (ha : PE X a ta) : PC X .IsNot a (.Constant .none j pos') (tNotN ta) := by
  intro pins s σ H Q I h
  refine thn (ha pins s σ H _ I h) fun v s1 ⟨x, H1, I1, r1, q1⟩ => ?_
  exact Constant_none (isnot_none_gen ⟨.bl _, H1, I1, by rw [r1.none_iff]; rfl, q1⟩)
/-- a comparison as a value, as a test -/
def tB (t : TE) : TT := fun σ H Q => t σ H fun x H1 => ∃ c, x = .bl c ∧ Q c H1
theorem pe_cmp {op : CmpOp} {t : TE} (h : PC X op a b t) (h1 : behindInMarks op b = false := by first | exact nobehind _ (by decide) (by decide) | rfl) : PE X (.Compare a [op] [b] pos) t := fun pins s σ H Q I hw => wpAny_Compare1 (h pins s σ H Q I hw) h1
theorem pt_cmp {op : CmpOp} {t : TE} (h : PC X op a b t) (h1 : behindInMarks op b = false := by first | exact nobehind _ (by decide) (by decide) | rfl) : PT X (.Compare a [op] [b] pos) (tB t) := by
  intro pins s σ H Q I hw
  refine wpAny_isTrue_Compare1 (thn (h pins s σ H _ I hw) fun v s1 h1 => thn h1 fun u s2 h2 => thn h2 fun c s3 ⟨x, H1, I1, r1, q1⟩ => ?_) h1
  obtain ⟨d, rfl, q⟩ := q1
  cases r1
  exact wpAny_truthy_bool ⟨H1, I1, q⟩
/-- an expression whose value is a bool, as a test -/
theorem pt_val {e : Expr} {t : TE} (h : PE X e t) (he : ∀ whole, isTrue e X.env whole = (do let v ← whole; standAt e.pos; holding [v] (truthy v)) := by intro _; rfl) : PT X e (tB t) := by
  intro pins s σ H Q I hw
  refine isTrue_plain (thn (h pins s σ H _ I hw) fun v s1 ⟨x, H1, I1, r1, q1⟩ => ?_) (he _)
  obtain ⟨d, rfl, q⟩ := q1
  cases r1
  exact wpAny_truthy_bool ⟨H1, I1, q⟩

/-! ### and, or, not -/
variable {tA tB' : TT} {rest : List Expr}
def tAnd (t u : TT) : TT := fun σ H Q => t σ H fun c H1 => if c = true then u σ H1 Q else Q false H1
def tOr (t u : TT) : TT := fun σ H Q => t σ H fun c H1 => if c = true then Q true H1 else u σ H1 Q
def tNot (t : TT) : TT := fun σ H Q => t σ H fun c H1 => Q (!c) H1
theorem pw_and1 (ha : PT X a tA) : PW X (.BoolOp .And [a] pos) tA := by
  intro wh pins s σ H Q I h
  refine isTrue_and (thn (ha pins s σ H Q I h) fun c s1 e => ?_)
  cases c with
  | true => exact isTrue_and_nil e
  | false => exact e
theorem pw_or1 (ha : PT X a tA) : PW X (.BoolOp .Or [a] pos) tA := by
  intro wh pins s σ H Q I h
  refine isTrue_or (thn (ha pins s σ H Q I h) fun c s1 e => ?_)
  cases c with
  | false => exact isTrue_or_nil e
  | true => exact e
theorem pw_and (ha : PT X a tA) (hb : PW X (.BoolOp .And (b :: rest) pos) tB') : PW X (.BoolOp .And (a :: b :: rest) pos) (tAnd tA tB') := by
  intro wh pins s σ H Q I h
  refine isTrue_and (thn (ha pins s σ H _ I h) fun c s1 ⟨H1, I1, q1⟩ => ?_)
  cases c with
  | true => exact hb wh pins s1 σ H1 Q I1 q1
  | false => exact ⟨H1, I1, q1⟩
theorem pw_or (ha : PT X a tA) (hb : PW X (.BoolOp .Or (b :: rest) pos) tB') : PW X (.BoolOp .Or (a :: b :: rest) pos) (tOr tA tB') := by
  intro wh pins s σ H Q I h
  refine isTrue_or (thn (ha pins s σ H _ I h) fun c s1 ⟨H1, I1, q1⟩ => ?_)
  cases c with
  | true => exact ⟨H1, I1, q1⟩
  | false => exact hb wh pins s1 σ H1 Q I1 q1
theorem pt_not (ha : PT X a tA) : PT X (.UnaryOp .Not a pos) (tNot tA) := by
  intro pins s σ H Q I h
  exact isTrue_not (ha pins s σ H (fun c H1 => Q (!c) H1) I h)
/-- .. as values (bools) -/
def tAndV (ta tb : TE) : TE := fun σ H Q => ta σ H fun x H1 => ∃ c, x = .bl c ∧ if c = true then tb σ H1 Q else Q (.bl false) H1
def tOrV (ta tb : TE) : TE := fun σ H Q => ta σ H fun x H1 => ∃ c, x = .bl c ∧ if c = true then Q (.bl true) H1 else tb σ H1 Q
def tNotV (ta : TE) : TE := fun σ H Q => ta σ H fun x H1 => ∃ c, x = .bl c ∧ Q (.bl (!c)) H1
theorem pe_one {op} {t : TE} (h : PE X a t) : PE X (.BoolOp op [a] pos) t := fun pins s σ H Q I hw => BoolOp_one (h pins s σ H Q I hw)
theorem pe_and (ha : PE X a ta) (hb : PE X (.BoolOp .And (b :: rest) pos) tb) : PE X (.BoolOp .And (a :: b :: rest) pos) (tAndV ta tb) := by
  intro pins s σ H Q I h
  refine BoolOp_and (thn (ha pins s σ H _ I h) fun v s1 ⟨x, H1, I1, r1, q1⟩ => ?_)
  obtain ⟨c, rfl, q1⟩ := q1
  cases r1
  refine wpAny_truthy_bool ?_
  cases c with
  | true => exact hb pins s1 σ H1 Q I1 q1
  | false => exact ⟨.bl false, H1, I1, rfl, q1⟩
theorem pe_or (ha : PE X a ta) (hb : PE X (.BoolOp .Or (b :: rest) pos) tb) : PE X (.BoolOp .Or (a :: b :: rest) pos) (tOrV ta tb) := by
  intro pins s σ H Q I h
  refine BoolOp_or (thn (ha pins s σ H _ I h) fun v s1 ⟨x, H1, I1, r1, q1⟩ => ?_)
  obtain ⟨c, rfl, q1⟩ := q1
  cases r1
  refine wpAny_truthy_bool ?_
  cases c with
  | false => exact hb pins s1 σ H1 Q I1 q1
  | true => exact ⟨.bl true, H1, I1, rfl, q1⟩
theorem pe_not (ha : PE X a ta) : PE X (.UnaryOp .Not a pos) (tNotV ta) := by
  intro pins s σ H Q I h
  refine UnaryOp_ (thn (ha pins s σ H _ I h) fun v s1 ⟨x, H1, I1, r1, q1⟩ => ?_)
  obtain ⟨c, rfl, q1⟩ := q1
  cases r1
  exact not_of (wpAny_truthy_bool ⟨.bl (!c), H1, I1, rfl, q1⟩)
/-- a if t else b -/
def tIf (t : TT) (ta tb : TE) : TE := fun σ H Q => t σ H fun c H1 => if c = true then ta σ H1 Q else tb σ H1 Q
theorem pe_ifExp {c : Expr} (hc : PT X c tA) (ha : PE X a ta) (hb : PE X b tb) : PE X (.IfExp c a b pos) (tIf tA ta tb) := by
  intro pins s σ H Q I h
  refine wpAny_IfExp (thn (hc pins s σ H _ I h) fun d s1 ⟨H1, I1, q1⟩ => ?_)
  cases d with
  | true => exact ha pins s1 σ H1 Q I1 q1
  | false => exact hb pins s1 σ H1 Q I1 q1
end
end L2

namespace L2
open PySem PySem.Spec PyProof.Rows

/-! ### a list, a tuple that is read: tracked, frozen, or an object of the module -/
def SqL (K : PySem.W.Frag) (H : Hp) (a : Addr) (xs : List V) : Prop :=
  Rd H a (.lst xs) ∨
    ∃ (o : Obj) (its : Array Value) (n : Nat), K.lookup a = some o ∧ o.cls = .type "list" ∧ o.dict = none ∧ o.data = .seq its n ∧ its.size ≤ sizeLine ∧ Vals xs its.toList
def SqT (K : PySem.W.Frag) (H : Hp) (a : Addr) (xs : List V) : Prop :=
  Rd H a (.tup xs) ∨
    ∃ (o : Obj) (its : Array Value) (n : Nat), K.lookup a = some o ∧ o.cls = .type "tuple" ∧ o.data = .seq its n ∧ its.size ≤ sizeLine ∧ Vals xs its.toList
def absV : Value → Option V
  | .none => some .non
  | .bool b => some (.bl b)
  | .int i _ => some (.int i)
  | .str x _ => some (.str x)
  | .bytes b _ => some (.byt b)
  | .float b _ => some (.flt b)
  | .ref a => some (.ref a)
  | .type n => some (.ty n)
  | _ => none
theorem RelV.abs {x : V} {u : Value} (r : RelV x u) : absV u = some x := by
  cases x with
  | non => cases r; rfl
  | bl _ => cases r; rfl
  | int _ => obtain ⟨t, rfl⟩ := r; rfl
  | str _ => obtain ⟨t, rfl⟩ := r; rfl
  | byt _ => obtain ⟨t, rfl⟩ := r; rfl
  | flt _ => obtain ⟨t, rfl⟩ := r; rfl
  | ref _ => cases r; rfl
  | ty _ => cases r; rfl
theorem RelV.inj {x y : V} {u : Value} (r : RelV x u) (q : RelV y u) : x = y := Option.some.inj (r.abs.symm.trans q.abs)
theorem Vals.inj : ∀ {xs ys : List V} {us : List Value}, Vals xs us → Vals ys us → xs = ys
  | _, _, _, .nil, .nil => rfl
  | _, _, _, .cons r t, .cons r' t' => by rw [r.inj r', Vals.inj t t']
section
variable {X : Cx} {pins : List (Addr × Obj)} {σ : St} {H : Hp} {s : Shared} {a : Addr} {xs ys : List V}
theorem SqL.of {K : PySem.W.Frag} (h : H a = some (.lst xs)) : SqL K H a xs := .inl (.inl h)
theorem SqT.of {K : PySem.W.Frag} (h : H a = some (.tup xs)) : SqT K H a xs := .inl (.inl h)
theorem Inv.list (I : Inv X pins σ H s) (h : SqL X.K H a xs) : ∃ its : List Value, Vals xs its ∧ PlainL s.heap a its.toArray ∧ xs.length ≤ sizeLine := by
  rcases h with h | ⟨o, its, n, hk, hc, hd, hs, hz, r⟩
  · obtain ⟨z, its, n, r, e⟩ := h.ok I.hok
    exact ⟨its, r, ⟨_, n, e, rfl, rfl, rfl⟩, z⟩
  · refine ⟨its.toList, r, ⟨o, n, I.kIn a o hk, hc, hd, by simpa using hs⟩, ?_⟩
    have e := r.length
    simp only [Array.length_toList] at e
    omega
theorem Inv.tuple (I : Inv X pins σ H s) (h : SqT X.K H a xs) : ∃ its : List Value, Vals xs its ∧ IsTup s.heap a its.toArray ∧ xs.length ≤ sizeLine := by
  rcases h with h | ⟨o, its, n, hk, hc, hs, hz, r⟩
  · obtain ⟨z, its, r, p⟩ := h.ok I.hok
    exact ⟨its, r, p, z⟩
  · refine ⟨its.toList, r, ⟨o, I.kIn a o hk, hc, n, by simpa using hs⟩, ?_⟩
    have e := r.length
    simp only [Array.length_toList] at e
    omega
theorem Inv.list_inj (I : Inv X pins σ H s) (h : SqL X.K H a xs) (h' : SqL X.K H a ys) : xs = ys := by
  obtain ⟨its, r, ⟨o, n, e, _, _, d⟩, _⟩ := I.list h
  obtain ⟨its', r', ⟨o', n', e', _, _, d'⟩, _⟩ := I.list h'
  rw [e] at e'; cases e'
  rw [d] at d'
  injection d' with d1 _
  have : its = its' := by simpa using congrArg Array.toList d1
  subst this
  exact r.inj r'
theorem Inv.tuple_inj (I : Inv X pins σ H s) (h : SqT X.K H a xs) (h' : SqT X.K H a ys) : xs = ys := by
  obtain ⟨its, r, ⟨o, e, _, n, d⟩, _⟩ := I.tuple h
  obtain ⟨its', r', ⟨o', e', _, n', d'⟩, _⟩ := I.tuple h'
  rw [e] at e'; cases e'
  rw [d] at d'
  injection d' with d1 _
  have : its = its' := by simpa using congrArg Array.toList d1
  subst this
  exact r.inj r'
end

/-! ### another wish about exceptions -/
abbrev Cx.wish (X : Cx) (E : Value → Shared → Prop) : Cx := { X with xe := E }
/-- no exception leaves -/
abbrev Cx.nox (X : Cx) : Cx := X.wish fun _ _ => False
theorem Cx.Ok.wish {X : Cx} (ok : X.Ok) (E : Value → Shared → Prop) : (X.wish E).Ok :=
  ⟨ok.mod, ok.kind, ok.glob, ok.blt, ok.above, ok.inj, ok.has, ok.cab, ok.hd, ok.frames, ok.stk, ok.exf, ok.bs, ok.bsz, ok.noex, ok.exfs, ok.funs, ok.frf⟩
theorem Cx.Ok.unwish {X : Cx} {E : Value → Shared → Prop} (ok : (X.wish E).Ok) : X.Ok :=
  ⟨ok.mod, ok.kind, ok.glob, ok.blt, ok.above, ok.inj, ok.has, ok.cab, ok.hd, ok.frames, ok.stk, ok.exf, ok.bs, ok.bsz, ok.noex, ok.exfs, ok.funs, ok.frf⟩
section
variable {X : Cx} {pins : List (Addr × Obj)} {σ : St} {H : Hp} {s : Shared} {E : Value → Shared → Prop}
theorem Inv.wish (I : Inv X pins σ H s) (E : Value → Shared → Prop) : Inv (X.wish E) pins σ H s := ⟨I.ok.wish E, I.os, I.bare, I.base, I.loc, I.cell, I.free, I.freeC, I.pin, I.hok, I.len⟩
theorem Inv.unwish (I : Inv (X.wish E) pins σ H s) : Inv X pins σ H s := ⟨I.ok.unwish, I.os, I.bare, I.base, I.loc, I.cell, I.free, I.freeC, I.pin, I.hok, I.len⟩
theorem SP.unwish {D : Ends} {f : Flow} {s' : Shared} (h : SP (X.wish E) pins D f s') : SP X pins D f s' := by
  cases f with
  | next => obtain ⟨σ', H', I, q⟩ := h; exact ⟨σ', H', I.unwish, q⟩
  | brk => obtain ⟨σ', H', I, q⟩ := h; exact ⟨σ', H', I.unwish, q⟩
  | cont => obtain ⟨σ', H', I, q⟩ := h; exact ⟨σ', H', I.unwish, q⟩
  | ret u => obtain ⟨v, σ', H', I, r, q⟩ := h; exact ⟨v, σ', H', I.unwish, r, q⟩
theorem PE.nox {e : Expr} {t : TE} (h : PE X.nox e t) : PE X e t := fun pins s σ H Q I hw =>
  wpAny_mono (h pins s σ H Q (I.wish _) hw) (fun _ _ ⟨v, H', I', r, q⟩ => ⟨v, H', I'.unwish, r, q⟩) fun _ _ z => False.elim z
theorem PT.nox {e : Expr} {t : TT} (h : PT X.nox e t) : PT X e t := fun pins s σ H Q I hw =>
  wpAny_mono (h pins s σ H Q (I.wish _) hw) (fun _ _ ⟨H', I', q⟩ => ⟨H', I'.unwish, q⟩) fun _ _ z => False.elim z
theorem PSs.nox {st : List Stmt} {t : TS} (h : PSs X.nox st t) : PSs X st t := fun pins s σ H D I hw =>
  wpAny_mono (h pins s σ H D (I.wish _) hw) (fun _ _ q => q.unwish) fun _ _ z => False.elim z
end

/-! ### blocks and small statements -/
section
variable {X : Cx} {st : Stmt} {rest : List Stmt} {t u : TS} {e : Expr} {te : TE} {pos : Pos}
def tNext : TS := fun D σ H => D.nx σ H
def tSeq (t u : TS) : TS := fun D σ H => t { D with nx := u D } σ H
theorem pss_nil : PSs X [] tNext := fun _ _ σ H _ I h => wpAny_execs_nil ⟨σ, H, I, h⟩
theorem pss_cons (h1 : PS X st t) (h2 : PSs X rest u) : PSs X (st :: rest) (tSeq t u) := by
  intro pins s σ H D I h
  refine wpAny_execs_cons (thn (h1 pins s σ H { D with nx := u D } I h) fun f s1 q => ?_)
  cases f with
  | next =>
    obtain ⟨σ', H', I', q⟩ := q
    exact h2 pins s1 σ' H' D I' q
  | ret v => exact q
  | brk => exact q
  | cont => exact q
theorem pss_one (h1 : PS X st t) : PSs X [st] t := by
  intro pins s σ H D I h
  refine wpAny_execs_cons (thn (h1 pins s σ H D I h) fun f s1 q => ?_)
  cases f with
  | next => exact wpAny_execs_nil q
  | ret v => exact q
  | brk => exact q
  | cont => exact q
def tBreak : TS := fun D σ H => D.bk σ H
def tCont : TS := fun D σ H => D.ct σ H
theorem ps_pass : PS X (.Pass pos) tNext := fun _ _ σ H _ I h => wpAny_Pass ⟨σ, H, I, h⟩
theorem ps_break : PS X (.Break pos) tBreak := fun _ _ σ H _ I h => wpAny_Break ⟨σ, H, I, h⟩
theorem ps_continue : PS X (.Continue pos) tCont := fun _ _ σ H _ I h => wpAny_Continue ⟨σ, H, I, h⟩
/-- in a def's body nothing is shown -/
theorem Inv.quiet {pins : List (Addr × Obj)} {σ : St} {H : Hp} {s : Shared} (I : Inv X pins σ H s) : interactive X.env = false := by simp [interactive, I.ok.kind]
/-- a docstring -/
theorem ps_doc {x j pos pos'} : PS X (.Expr (.Constant (.str x) j pos) pos') tNext := fun _ s σ H _ I h => wpAny_Expr (Calls.Constant_str (show SP X _ _ .next { s with toks := s.toks + 1 } from ⟨σ, H, I.tok _, h⟩)) I.quiet
/-- an expression whose value is dropped -/
def tDrop (te : TE) : TS := fun D σ H => te σ H fun _ H1 => D.nx σ H1
theorem ps_expr (he : PE X e te) (hs : swapsWith e none pos.line X.env = pure false := by rfl) : PS X (.Expr e pos) (tDrop te) := by
  intro pins s σ H D I h
  exact wpAny_Expr_any (thn (he pins s σ H _ I h) fun v s1 ⟨x, H1, I1, r1, q1⟩ => ⟨σ, H1, I1, q1⟩) I.quiet hs
def tRet (te : TE) : TS := fun D σ H => te σ H D.rt
theorem ps_ret (he : PE X e te) : PS X (.Return (some e) pos) (tRet te) := by
  intro pins s σ H D I h
  exact wpAny_Return_some (thn (he pins s σ H _ I h) fun v s1 ⟨x, H1, I1, r1, q1⟩ => ⟨x, σ, H1, I1, r1, q1⟩)
def tRetN : TS := fun D _ H => D.rt .non H
theorem ps_retN : PS X (.Return none pos) tRetN := fun _ _ σ H _ I h => wpAny_Return_none ⟨.non, σ, H, I, rfl, h⟩
def tIfS (c : TT) (t u : TS) : TS := fun D σ H => c σ H fun b H1 => if b = true then t D σ H1 else u D σ H1
theorem ps_if {c : Expr} {a b : List Stmt} {tc : TT} (hc : PT X c tc) (ha : PSs X a t) (hb : PSs X b u) : PS X (.If c a b pos) (tIfS tc t u) := by
  intro pins s σ H D I h
  refine wpAny_If (thn (hc pins s σ H _ I h) fun d s1 ⟨H1, I1, q1⟩ => ?_)
  cases d with
  | true => exact ha pins s1 σ H1 D I1 q1
  | false => exact hb pins s1 σ H1 D I1 q1
/-- code that the proof never comes to -/
def tNever : TS := fun _ _ _ => False
theorem ps_never : PS X st tNever := fun _ _ _ _ _ _ h => h.elim
theorem pss_never {sts : List Stmt} : PSs X sts tNever := fun _ _ _ _ _ _ h => h.elim
end

/-! ### targets -/
abbrev TG := V → St → Hp → (St → Hp → Prop) → Prop
abbrev TGs := List V → St → Hp → (St → Hp → Prop) → Prop
def PG (X : Cx) (target : Expr) (t : TG) : Prop :=
  ∀ (pins : List (Addr × Obj)) (s : Shared) (σ : St) (H : Hp) (v : V) (u : Value) (Q : St → Hp → Prop), Inv X pins σ H s → RelV v u → t v σ H Q →
    wpAny (model X.prog X.w) X.A (assign target X.env u) (fun _ s' => ∃ σ' H', Inv X pins σ' H' s' ∧ Q σ' H') X.xe s
/-- several targets, one after another -/
def PGs (X : Cx) (ts : List Expr) (t : TGs) : Prop :=
  ∀ (pins : List (Addr × Obj)) (s : Shared) (σ : St) (H : Hp) (vs : List V) (us : List Value) (Q : St → Hp → Prop), Inv X pins σ H s → Vals vs us → t vs σ H Q →
    wpAny (model X.prog X.w) X.A (assignInOrder ((assignEach ts X.env).map (·.2)) us) (fun _ s' => ∃ σ' H', Inv X pins σ' H' s' ∧ Q σ' H') X.xe s
/-- o[i] = v, by values -/
abbrev TSet := V → V → V → Hp → (Hp → Prop) → Prop
def PSet (X : Cx) (t : TSet) : Prop :=
  ∀ (pins : List (Addr × Obj)) (s : Shared) (σ : St) (H : Hp) (o i v : V) (ov iv u : Value) (Q : Hp → Prop), Inv X pins σ H s → RelV o ov → RelV i iv → RelV v u → t o i v H Q →
    wpAny (model X.prog X.w) X.A (setItem ov iv u) (fun _ s' => ∃ H', Inv X pins σ H' s' ∧ Q H') X.xe s
/-- a op= b, by values -/
abbrev TIp := V → V → Hp → VK → Prop
def PIp (X : Cx) (op : Operator) (t : TIp) : Prop :=
  ∀ (pins : List (Addr × Obj)) (s : Shared) (σ : St) (H : Hp) (x y : V) (v u : Value) (Q : VK), Inv X pins σ H s → RelV x v → RelV y u → t x y H Q →
    wpAny (model X.prog X.w) X.A (inplaceOp op v u) (EP X pins σ Q) X.xe s
section
variable {X : Cx} {pos : Pos}
def gName (i : Nat) : TG := fun v σ H Q => Q (σ.set i (some v)) H
theorem pg_name {i : Nat} {x : Str} (hN : X.N.Nodup) (hi : X.N[i]? = some x) (hx : Loc X.env.scope x) (hf : X.fn x = true ∨ X.env.scope.names.lookup x = some .local := by first | exact .inl rfl | exact .inr rfl | assumption) : PG X (.Name x pos) (gName i) := by
  intro pins s σ H v u Q I r h
  exact wpAny_assign_Name (store_ok I hN hi hx r (fun s' I' => ⟨_, H, I', h⟩) hf)
def gNil : TGs := fun vs σ H Q => vs = [] ∧ Q σ H
def gCons (t : TG) (u : TGs) : TGs := fun vs σ H Q => ∃ v r, vs = v :: r ∧ t v σ H fun σ' H' => u r σ' H' Q
theorem pgs_nil : PGs X [] gNil := by
  intro pins s σ H vs us Q I r h
  obtain ⟨e, h⟩ := h
  subst e
  cases r
  exact assignInOrder_nil ⟨σ, H, I, h⟩
theorem pgs_cons {e : Expr} {es : List Expr} {t : TG} {u : TGs} (h1 : PG X e t) (h2 : PGs X es u)
    (hs : (assignEach (e :: es) X.env).map (·.2) = assign e X.env :: (assignEach es X.env).map (·.2) := by rfl) : PGs X (e :: es) (gCons t u) := by
  intro pins s σ H vs us Q I r h
  obtain ⟨v, vr, e1, h⟩ := h
  subst e1
  cases r with
  | cons r rr =>
    rw [hs]
    refine assignInOrder_cons (thn (h1 pins s σ H _ _ _ I r h) fun _ s1 ⟨σ1, H1, I1, q1⟩ => ?_)
    exact h2 pins s1 σ1 H1 _ _ Q I1 rr q1
/-- (a, b, ..) = a tuple of that length -/
def gTup (K : PySem.W.Frag) (n : Nat) (t : TGs) : TG := fun v σ H Q => ∃ a xs, v = .ref a ∧ SqT K H a xs ∧ xs.length = n ∧ t xs σ H Q
theorem pg_tup {es : List Expr} {k : Nat} {t : TGs} {n : Nat} (hc : X.calm = true) (h : PGs X es t)
    (hn : (assignEach es X.env).length = n := by rfl) (hst : (assignEach es X.env).findIdx? (·.1) = none := by rfl) : PG X (.Tuple es k pos) (gTup X.K n t) := by
  intro pins s σ H v u Q I r hw
  obtain ⟨a, xs, e1, hq, hl, hw⟩ := hw
  subst e1
  cases r
  obtain ⟨its, rv, ht, hz⟩ := I.tuple hq
  refine assign_Tuple_tuple (I.ok.hd hc) ht (by simp [hn, ← hl, rv.length]) hst fun h' hx => ?_
  have I1 : Inv X pins σ H { s with heap := h' } := I.kept (t' := s.toks) fun b o e => hx b o (Nat.ne_of_lt (Heap.lt_size e)) e
  exact h pins _ σ H xs _ Q I1 (by simpa using rv) hw
/-- o[i] = .. -/
def gSub (to ti : TE) (t : TSet) : TG := fun v σ H Q => to σ H fun o H1 => ti σ H1 fun i H2 => t o i v H2 fun H3 => Q σ H3
theorem pg_sub {o i : Expr} {to ti : TE} {t : TSet} (ho : PE X o to) (hi : PE X i ti) (hs : PSet X t)
    (ha : ∀ v, assign (.Subscript o i pos) X.env v = (do
      let ov ← holding [v] (eval o X.env)
      let iv ← holding [v, ov] (eval i X.env)
      standAt pos
      holding [v, ov, iv] (setItem ov iv v)
      release [v, ov, iv] []) := by intro _; rfl) : PG X (.Subscript o i pos) (gSub to ti t) := by
  intro pins s σ H v u Q I r h
  rw [ha]
  refine wpAny_bind (wpAny_holding (thn (ho pins s σ H _ I h) fun ov s1 ⟨x, H1, I1, r1, q1⟩ => ?_))
  refine wpAny_bind (wpAny_holding (thn (hi pins s1 σ H1 _ I1 q1) fun iv s2 ⟨y, H2, I2, r2, q2⟩ => ?_))
  refine wpAny_bind (wpAny_standAt (wpAny_bind (wpAny_holding (thn (hs pins s2 σ H2 x y v ov iv u _ I2 r1 r2 r q2) fun _ s3 ⟨H3, I3, q3⟩ => ?_))))
  exact wpAny_release ⟨σ, H3, I3, q3⟩
/-- target = value -/
def tAsg (te : TE) (g : TG) : TS := fun D σ H => te σ H fun x H1 => g x σ H1 D.nx
theorem ps_asg {tg e : Expr} {te : TE} {g : TG} (he : PE X e te) (hg : PG X tg g) (hs : swapsWithSole [tg] e pos.line X.env = pure false := by rfl) (hw : swappedStores [tg] e X.env = pure none := by rfl)
    (h1 : (assignEach [tg] X.env).map (·.2) = [assign tg X.env] := by rfl) : PS X (.Assign [tg] e pos) (tAsg te g) := by
  intro pins s σ H D I h
  refine wpAny_Assign_stores (thn (he pins s σ H _ I h) fun v s1 ⟨x, H1, I1, r1, q1⟩ => ?_) hs hw
  rw [h1]
  exact thn (hg pins s1 σ H1 x v _ I1 r1 q1) fun _ s2 q => q
/-- name = value -/
theorem ps_set {i : Nat} {x : Str} {e : Expr} {te : TE} {pos' : Pos} (hN : X.N.Nodup) (hi : X.N[i]? = some x) (hx : Loc X.env.scope x) (he : PE X e te) (hs : swapsWith e (some (.Name x pos')) pos.line X.env = pure false := by rfl) (hf : X.fn x = true ∨ X.env.scope.names.lookup x = some .local := by first | exact .inl rfl | exact .inr rfl | assumption) :
    PS X (.Assign [.Name x pos'] e pos) (tAsg te (gName i)) := by
  intro pins s σ H D I h
  refine wpAny_Assign_Name (thn (he pins s σ H _ I h) fun v s1 ⟨y, H1, I1, r1, q1⟩ => ?_) hs
  exact store_ok I1 hN hi hx r1 (fun s2 I2 => ⟨_, H1, I2, q1⟩) hf
/-- a, b = x, y with plain local names: stored from the right; the pair itself is not tracked (the opening rows as in PyProof/Rows/TupAssign.lean:23) -/
def tPar (i j : Nat) (ta : TA) : TS := fun D σ H => ta σ H fun vs H1 => ∃ v w, vs = [v, w] ∧ D.nx ((σ.set i (some v)).set j (some w)) H1
theorem ps_par {i j : Nat} {x y : Str} {a b : Expr} {ta : TA} {px py pt : Pos} {kt k2 pt2} (hc : X.calm = true) (hN : X.N.Nodup) (hi : X.N[i]? = some x) (hj : X.N[j]? = some y) (hij : i ≠ j)
    (hx : X.env.scope.names.lookup x = some .local) (hy : X.env.scope.names.lookup y = some .local) (ha : PA X [a, b] ta)
    (hw : swappedStores [.Tuple [.Name x px, .Name y py] kt pt] (.Tuple [a, b] k2 pt2) X.env = pure (some [x, y]))
    (hs : swapsWithSole [.Tuple [.Name x px, .Name y py] kt pt] (.Tuple [a, b] k2 pt2) pos.line X.env = pure false := by rfl) :
    PS X (.Assign [.Tuple [.Name x px, .Name y py] kt pt] (.Tuple [a, b] k2 pt2) pos) (tPar i j ta) := by
  intro pins s σ H D I h
  rw [exec_Assign_arm]
  refine wpAny_bind (wpAny_standAt ?_)
  rw [hs]
  refine wpAny_bind (wpAny_pure ?_)
  rw [if_neg (by decide)]
  refine wpAny_bind (Tuple_ (thn (ha _ pins s σ H _ I h) fun us s1 ⟨vs, H1, I1, r1, q1⟩ => ?_))
  obtain ⟨v, w, e1, q1⟩ := q1
  subst e1
  obtain ⟨u1, u2, rfl, rv, rw'⟩ : ∃ u1 u2, us = [u1, u2] ∧ RelV v u1 ∧ RelV w u2 := by
    cases r1 with
    | cons p q =>
      cases q with
      | cons p' q' =>
        cases q'
        exact ⟨_, _, rfl, p, p'⟩
  refine wpAny_newObj_type ?_ (by show 2 ≤ sizeLine; decide)
  have I2 : Inv X pins σ H1 { s1 with heap := s1.heap.push { cls := .type "tuple", data := .seq [u1, u2].toArray } } := I1.kept (t' := s1.toks) fun b o e => Heap.get?_push_of_some _ e
  rw [hw]
  refine wpAny_bind (wpAny_pure ?_)
  show wpAny (model X.prog X.w) X.A (do rule "assign.swapped-stores"; let items ← unpackItems (.ref s1.heap.objs.size) 2 none; assignInOrder [fun v => bindName X.env y v, fun v => bindName X.env x v] items.reverse; pure Flow.next) _ _ _
  refine wpAny_bind (wpAny_rule (wpAny_bind (unpackItems_tuple (items := #[u1, u2]) (I.ok.hd hc) (IsTup.new s1.heap _) fun h' hx' => ?_)))
  have I3 := I2.kept (h' := h') (t' := s1.toks) fun b o e => hx' b o (Nat.ne_of_lt (Heap.lt_size e)) e
  show wpAny _ _ (assignInOrder [fun v => bindName X.env y v, fun v => bindName X.env x v] [u2, u1] >>= fun _ => pure Flow.next) _ _ _
  refine wpAny_bind (assignInOrder_cons (wpAny_bindName (store_ok I3 hN hj (.inl hy) rw' (fun s2 I4 => ?_) (.inr hy))))
  refine assignInOrder_cons (wpAny_bindName (store_ok I4 hN hi (.inl hx) rv (fun s3 I5 => assignInOrder_nil (wpAny_pure ?_)) (.inr hx)))
  rw [List.set_comm _ _ (Ne.symm hij)] at I5
  exact ⟨_, H1, I5, q1⟩
/-- name op= e -/
def tAug (i : Nat) (te : TE) (ti : TIp) : TS := fun D σ H => ∃ x, σ[i]? = some (some x) ∧ te σ H fun y H1 => ti x y H1 fun z H2 => D.nx (σ.set i (some z)) H2
theorem ps_aug {i : Nat} {x : Str} {e : Expr} {te : TE} {op : Operator} {ti : TIp} {pos' : Pos} (hN : X.N.Nodup) (hi : X.N[i]? = some x) (hx : Loc X.env.scope x) (he : PE X e te) (ho : PIp X op ti) (hf : X.fn x = true ∨ X.env.scope.names.lookup x = some .local := by first | exact .inl rfl | exact .inr rfl | assumption) :
    PS X (.AugAssign (.Name x pos') op e pos) (tAug i te ti) := by
  intro pins s σ H D I h
  obtain ⟨v, e1, h⟩ := h
  obtain ⟨m, hn, hl⟩ := I.loc
  have vis : Vis X.env.scope x := by rcases hx with k | k; exact .inl k; exact .inr (.inl k)
  obtain ⟨u, r, l⟩ := hl i x v hi e1 vis
  refine wpAny_AugAssign_Name ?_
  have go : wpAny (model X.prog X.w) X.A (eval e X.env) (fun w s₂ => wpAny (model X.prog X.w) X.A (inplaceOp op u w) (fun r s₃ => wpAny (model X.prog X.w) X.A (storeName X.env x r) (fun _ => SP X pins D .next) X.xe s₃) X.xe s₂) X.xe s := by
    refine thn (he pins s σ H _ I h) fun w s1 ⟨y, H1, I1, r1, q1⟩ => ?_
    refine thn (ho pins s1 σ H1 v y u w _ I1 r r1 q1) fun z s2 ⟨zv, H2, I2, r2, q2⟩ => ?_
    exact store_ok I2 hN hi hx r2 (fun s3 I3 => ⟨_, H2, I3, q2⟩) hf
  rcases l with ⟨hk, hm⟩ | ⟨hk, c, hc, hcell⟩
  · exact wpAny_loadName_local I.ok.kind hk hn hm go
  · rcases hk with hk | hk
    · exact wpAny_loadName_cell I.ok.kind hk hc hcell go
    · rcases hx with k | k
      · have : X.env.scope.names.lookup x = some .free := hk
        rw [k] at this; cases this
      · have : X.env.scope.names.lookup x = some .free := hk
        rw [k] at this; cases this
/-- o[i] op= e -/
def tAugS (to ti te : TE) (tget : V → V → Hp → VK → Prop) (tip : TIp) (tset : TSet) : TS := fun D σ H => to σ H fun o H1 => ti σ H1 fun i H2 => tget o i H2 fun x H3 => te σ H3 fun y H4 => tip x y H4 fun z H5 => tset o i z H5 fun H6 => D.nx σ H6
/-- o[i], by values -/
def PGet (X : Cx) (t : V → V → Hp → VK → Prop) : Prop :=
  ∀ (pins : List (Addr × Obj)) (s : Shared) (σ : St) (H : Hp) (o i : V) (ov iv : Value) (Q : VK), Inv X pins σ H s → RelV o ov → RelV i iv → t o i H Q →
    wpAny (model X.prog X.w) X.A (getItem ov iv) (EP X pins σ Q) X.xe s
theorem ps_augS {o i e : Expr} {to ti te : TE} {tget : V → V → Hp → VK → Prop} {tip : TIp} {tset : TSet} {op : Operator} {tpos : Pos} (ho : PE X o to) (hi : PE X i ti) (hg : PGet X tget) (he : PE X e te) (hp : PIp X op tip) (hs : PSet X tset)
    (ha : ∀ ov iv new, augStore i ov iv new = (do holding [new, ov, iv] (setItem ov iv new); release [new, ov, iv] []; pure .next) := by intros; rfl) : PS X (.AugAssign (.Subscript o i tpos) op e pos) (tAugS to ti te tget tip tset) := by
  intro pins s σ H D I h
  refine wpAny_AugAssign_SubscriptAny (thn (ho pins s σ H _ I h) fun ov s1 ⟨x1, H1, I1, r1, q1⟩ => ?_) ha
  refine thn (hi pins s1 σ H1 _ I1 q1) fun iv s2 ⟨x2, H2, I2, r2, q2⟩ => ?_
  refine thn (hg pins s2 σ H2 x1 x2 ov iv _ I2 r1 r2 q2) fun old s3 ⟨x3, H3, I3, r3, q3⟩ => ?_
  refine thn (he pins s3 σ H3 _ I3 q3) fun v s4 ⟨x4, H4, I4, r4, q4⟩ => ?_
  refine thn (hp pins s4 σ H4 x3 x4 old v _ I4 r3 r4 q4) fun new s5 ⟨x5, H5, I5, r5, q5⟩ => ?_
  exact thn (hs pins s5 σ H5 x1 x2 x5 ov iv new _ I5 r1 r2 r5 q5) fun _ s6 ⟨H6, I6, q6⟩ => ⟨σ, H6, I6, q6⟩
/-- ints -/
def ipI (f : Int → Int → Int) : TIp := fun x y H Q => ∃ i j, x = .int i ∧ y = .int j ∧ Q (.int (f i j)) H
theorem ip_add : PIp X .Add (ipI fun i j => i + j) := by
  intro pins s σ H x y v u Q I r1 r2 h
  obtain ⟨i, j, e1, e2, q⟩ := h
  subst e1; subst e2
  obtain ⟨t, rfl⟩ := r1
  obtain ⟨t', rfl⟩ := r2
  exact iadd_int ⟨.int _, H, I.tok _, ⟨_, rfl⟩, q⟩
theorem ip_sub : PIp X .Sub (ipI fun i j => i - j) := by
  intro pins s σ H x y v u Q I r1 r2 h
  obtain ⟨i, j, e1, e2, q⟩ := h
  subst e1; subst e2
  obtain ⟨t, rfl⟩ := r1
  obtain ⟨t', rfl⟩ := r2
  exact isub_int ⟨.int _, H, I.tok _, ⟨_, rfl⟩, q⟩
end

/-! ### while -/
section
variable {X : Cx} {pos : Pos}
/-- the invariant W with its measure -/
def tWhile (c : TT) (tb : TS) : TS := fun D σ H => ∃ W : Nat → St → Hp → Prop, (∃ m, W m σ H) ∧ ∀ m σ H, W m σ H →
  c σ H fun b H1 => if b = true then ∃ N : St → Hp → Prop, (∀ σ' H', N σ' H' → ∃ m', m' < m ∧ W m' σ' H') ∧ tb { D with nx := N, ct := N, bk := D.nx } σ H1 else D.nx σ H1
theorem ps_while {c : Expr} {body : List Stmt} {tc : TT} {tb : TS} (hp : PassesOwn (model X.prog X.w) X.A X.env X.xe) (hc : PT X c tc) (hb : PSs X body tb) : PS X (.While c body [] pos) (tWhile tc tb) := by
  intro pins s σ H D I h
  obtain ⟨W, ⟨m0, w0⟩, turn⟩ := h
  refine wpAny_While (codeAny_whileLoop (fun n s' => ∃ σ' H', Inv X pins σ' H' s' ∧ W n σ' H') ?_ m0 ⟨σ, H, I, w0⟩)
  rintro n s1 ⟨σ1, H1, I1, w1⟩
  refine wpAny_passesOwn hp (thn (hc pins s1 σ1 H1 _ I1 (turn n σ1 H1 w1)) fun b s2 ⟨H2, I2, q2⟩ => ?_)
  cases b with
  | true =>
    obtain ⟨N, hN, q2⟩ := q2
    rw [if_pos rfl]
    refine wpAny_passesOwn hp (thn (hb pins s2 σ1 H2 _ I2 q2) fun f s3 q3 => ?_)
    cases f with
    | next =>
      obtain ⟨σ3, H3, I3, n3⟩ := q3
      obtain ⟨m', hm, w3⟩ := hN σ3 H3 n3
      exact ⟨m', hm, σ3, H3, I3, w3⟩
    | cont =>
      obtain ⟨σ3, H3, I3, n3⟩ := q3
      obtain ⟨m', hm, w3⟩ := hN σ3 H3 n3
      exact ⟨m', hm, σ3, H3, I3, w3⟩
    | brk => exact q3
    | ret v => exact q3
  | false =>
    rw [if_neg Bool.false_ne_true]
    exact wpAny_execs_nil ⟨σ1, H2, I2, q2⟩
end

/-! ### what a loop or a comprehension walks -/
/-- at turn i: it yields x (the heap may grow), or it stops -/
structure It where
  go : Nat → Hp → Prop
  yld : Nat → Hp → V → Hp → Prop
  stop : Nat → Hp → Prop
/-- the iterator's own objects may turn: they are not the frame's, not pinned, younger than the entry (or a comprehension's own) -/
def FpOk (X : Cx) (pins : List (Addr × Obj)) (H : Hp) (b : Addr) : Prop :=
  H b = none ∧ b ≠ X.env.locals ∧ b ∉ X.fs ∧ (b ∈ X.ex ∨ X.s₀.heap.objs.size ≤ b) ∧ (∀ x c, X.env.cells.lookup x = some c → c ≠ b) ∧ ∀ p ∈ X.pn ++ pins, p.1 ≠ b
theorem Inv.fpOk {X : Cx} {pins : List (Addr × Obj)} {σ : St} {H H' : Hp} {s : Shared} {b : Addr} (I : Inv X pins σ H s) (hb : s.heap.objs.size ≤ b) (hn : H' b = none) : FpOk X pins H' b := by
  refine ⟨hn, Nat.ne_of_gt (Nat.lt_of_lt_of_le I.lt hb), I.nofs hb, .inr (Nat.le_trans I.sz hb), fun x c e z => ?_, fun p hp z => ?_⟩
  · obtain ⟨v, q⟩ := I.cell x c e
    exact absurd (Nat.lt_of_lt_of_le q.lt (by rw [z]; exact hb)) (Nat.lt_irrefl _)
  · exact absurd (Nat.lt_of_lt_of_le (Heap.lt_size (I.pin p hp).1) (by rw [z]; exact hb)) (Nat.lt_irrefl _)
structure Turn (P : Program) (w : World) (K : PySem.W.Frag) (tg : Expr) (J : It) (fp : List Addr) (it : Addr) (tn : Nat → Heap → Prop) : Prop where
  mem : it ∈ fp
  obj : ∀ i h, tn i h → ∀ b ∈ fp, ∃ o, h.get? b = some o ∧ ∀ v, o.data ≠ .cell v
  keep : ∀ i h h', tn i h → (∀ b ∈ fp, ∀ o, h.get? b = some o → h'.get? b = some o) → tn i h'
  item : ∀ (X : Cx), X.prog = P → X.w = w → X.K = K → X.calm = true → ∀ (i : Nat) (pins : List (Addr × Obj)) (s : Shared) (σ : St) (H : Hp) (E : Value → Shared → Prop), Inv X pins σ H s → (∀ b ∈ fp, FpOk X pins H b) → tn i s.heap → J.go i H →
    wpAny (model P w) X.A (pyNext (.ref it)) (fun r s1 => ∃ u, r = some u ∧
      wpAny (model P w) X.A (letOwnedTupleGo tg (.ref it) u) (fun _ s2 => ∃ x H', Inv X pins σ H' s2 ∧ RelV x u ∧ J.yld i H x H' ∧ tn (i + 1) s2.heap ∧ ∀ b ∈ fp, H' b = none) E s1) E s
  done : ∀ (X : Cx), X.prog = P → X.w = w → X.K = K → X.calm = true → ∀ (i : Nat) (pins : List (Addr × Obj)) (s : Shared) (σ : St) (H : Hp) (E : Value → Shared → Prop), Inv X pins σ H s → (∀ b ∈ fp, FpOk X pins H b) → tn i s.heap → J.stop i H →
    wpAny (model P w) X.A (pyNext (.ref it)) (fun r s1 => r = none ∧ Inv X pins σ H s1) E s
  self : ∀ (A : Around) (i : Nat) (s : Shared) (Q : Value → Shared → Prop) (E : Value → Shared → Prop), tn i s.heap → Q (.ref it) s → wpAny (model P w) A (pyIter (.ref it)) Q E s
abbrev TI := St → Hp → (It → Hp → Prop) → Prop
/-- an iterator has come -/
def PIE (X : Cx) (pins : List (Addr × Obj)) (σ : St) (tg : Expr) (R : It → Hp → Prop) (itv : Value) (s2 : Shared) : Prop :=
  ∃ (it : Addr) (fp : List Addr) (tn : Nat → Heap → Prop) (J : It) (H' : Hp), itv = .ref it ∧ Inv X pins σ H' s2 ∧ Turn X.prog X.w X.K tg J fp it tn ∧ tn 0 s2.heap ∧ (∀ b ∈ fp, FpOk X pins H' b) ∧ R J H'
def PI (X : Cx) (tg iter : Expr) (wi : TI) : Prop :=
  ∀ (pins : List (Addr × Obj)) (s : Shared) (σ : St) (H : Hp) (R : It → Hp → Prop), Inv X pins σ H s → wi σ H R →
    wpAny (model X.prog X.w) X.A (eval iter X.env) (fun v s1 => wpAny (model X.prog X.w) X.A (pyIter v) (PIE X pins σ tg R) X.xe s1) X.xe s

/-- the step ahead of the store is nothing for an iterator that keeps no tuple -/
theorem go_of {M : Model} {A : Around} {E : Value → Shared → Prop} {s : Shared} {tg : Expr} {it : Addr} {u : Value} {o : Obj} {n : String} {vs : Array Value} {Q : Unit → Shared → Prop} (ho : s.heap.get? it = some o) (hc : o.cls = .type n) (hd : o.data = .fields vs)
    (hn : ["enumerate", "zip", "dict_itemiterator", "dict_reverseitemiterator", "odict_iterator", "itertools.zip_longest", "itertools.pairwise"].contains n = false) (hQ : Q () s) : wpAny M A (letOwnedTupleGo tg (.ref it) u) Q E s := by
  unfold letOwnedTupleGo
  cases tg <;> first
    | exact wpAny_pure hQ
    | (cases u <;> first
        | exact wpAny_pure hQ
        | (refine wpAny_bind (wpAny_load ho ?_)
           rw [hc, hd]
           show wpAny M A (if (["enumerate", "zip", "dict_itemiterator", "dict_reverseitemiterator", "odict_iterator", "itertools.zip_longest", "itertools.pairwise"].contains n && vs[0]? == some (rawInt _)) = true then _ else _) Q E s
           rw [if_neg (by intro h; rw [hn, Bool.false_and] at h; cases h)]
           exact wpAny_pure hQ))

/-- the list at a, as it stands at each turn (a loop may append to it) -/
def Itl (K : PySem.W.Frag) (a : Addr) : It :=
  ⟨fun i H => ∃ xs x, SqL K H a xs ∧ xs[i]? = some x, fun i H x H' => H' = H ∧ ∀ xs, SqL K H a xs → xs[i]? = some x, fun i H => ∃ xs, SqL K H a xs ∧ xs.length ≤ i⟩
def Itt (K : PySem.W.Frag) (a : Addr) : It :=
  ⟨fun i H => ∃ xs x, SqT K H a xs ∧ xs[i]? = some x, fun i H x H' => H' = H ∧ ∀ xs, SqT K H a xs → xs[i]? = some x, fun i H => ∃ xs, SqT K H a xs ∧ xs.length ≤ i⟩
/-- lo, lo + 1, .. (n of them) -/
def Itr (lo : Int) (n : Nat) : It := ⟨fun i _ => i < n, fun i H x H' => H' = H ∧ x = .int (lo + i), fun i _ => n ≤ i⟩
theorem turn_list {P : Program} {w : World} {K : PySem.W.Frag} {tg : Expr} (a it : Addr) : Turn P w K tg (Itl K a) [it] it (fun i h => h.IsListIter it a i) where
  mem := by simp
  obj := fun i h st b hb => by
    have e : b = it := by simpa using hb
    subst e
    obtain ⟨o, e, c, d⟩ := st
    exact ⟨o, e, fun v z => by rw [d] at z; cases z⟩
  keep := fun i h h' st k => st.at fun o e => k it (by simp) o e
  item := by
    intro X hP hw hK hc i pins s σ H E I hf st hg
    subst hP hw hK
    obtain ⟨xs, x, hq, hx⟩ := hg
    obtain ⟨its, rv, p, hz⟩ := I.list hq
    obtain ⟨u, hu, ru⟩ := rv.get hx
    obtain ⟨f0, f1, f2, f3, f4, f5⟩ := hf it (by simp)
    refine wpAny_pyNext_list_item st p.isList (x := u) (by simpa using hu) fun h' st' sb => ?_
    have I1 : Inv X pins σ H { s with heap := h' } := I.turned (t' := s.toks) (fun b o hb e => (sb.2 b hb).trans e) f0 f1 f3 f4 f5
    obtain ⟨o, e, c, d⟩ := id st'
    exact ⟨u, rfl, go_of (s := { s with heap := h' }) e c d (by decide) ⟨x, H, I1, ru, ⟨rfl, fun ys hy => by rw [I.list_inj hy hq]; exact hx⟩, st', fun b hb => (hf b hb).1⟩⟩
  done := by
    intro X hP hw hK hc i pins s σ H E I hf st hg
    subst hP hw hK
    obtain ⟨xs, hq, hx⟩ := hg
    obtain ⟨its, rv, p, hz⟩ := I.list hq
    obtain ⟨f0, f1, f2, f3, f4, f5⟩ := hf it (by simp)
    have hl := rv.length
    exact wpAny_pyNext_list_end (I.ok.hd hc) st p.isList (by simp; omega) fun h' eb => ⟨rfl, I.turned (t' := s.toks) (fun b o hb e => eb b o hb e) f0 f1 f3 f4 f5⟩
  self := fun _ _ _ _ _ st h => wpAny_pyIter_listiter st h
theorem turn_tuple {P : Program} {w : World} {K : PySem.W.Frag} {tg : Expr} (a it : Addr) : Turn P w K tg (Itt K a) [it] it (fun i h => h.IsTupleIter it a i) where
  mem := by simp
  obj := fun i h st b hb => by
    have e : b = it := by simpa using hb
    subst e
    obtain ⟨o, e, c, d⟩ := st
    exact ⟨o, e, fun v z => by rw [d] at z; cases z⟩
  keep := fun i h h' st k => st.at fun o e => k it (by simp) o e
  item := by
    intro X hP hw hK hc i pins s σ H E I hf st hg
    subst hP hw hK
    obtain ⟨xs, x, hq, hx⟩ := hg
    obtain ⟨its, rv, p, hz⟩ := I.tuple hq
    obtain ⟨u, hu, ru⟩ := rv.get hx
    obtain ⟨f0, f1, f2, f3, f4, f5⟩ := hf it (by simp)
    refine wpAny_pyNext_tuple_item st (show s.heap.IsTuple a its.toArray from p) (x := u) (by simpa using hu) fun h' st' sb => ?_
    have I1 : Inv X pins σ H { s with heap := h' } := I.turned (t' := s.toks) (fun b o hb e => (sb.2 b hb).trans e) f0 f1 f3 f4 f5
    obtain ⟨o, e, c, d⟩ := id st'
    exact ⟨u, rfl, go_of (s := { s with heap := h' }) e c d (by decide) ⟨x, H, I1, ru, ⟨rfl, fun ys hy => by rw [I.tuple_inj hy hq]; exact hx⟩, st', fun b hb => (hf b hb).1⟩⟩
  done := by
    intro X hP hw hK hc i pins s σ H E I hf st hg
    subst hP hw hK
    obtain ⟨xs, hq, hx⟩ := hg
    obtain ⟨its, rv, p, hz⟩ := I.tuple hq
    obtain ⟨f0, f1, f2, f3, f4, f5⟩ := hf it (by simp)
    have hl := rv.length
    exact wpAny_pyNext_tuple_end (I.ok.hd hc) st (show s.heap.IsTuple a its.toArray from p) (by simp; omega) fun h' eb => ⟨rfl, I.turned (t' := s.toks) (fun b o hb e => eb b o hb e) f0 f1 f3 f4 f5⟩
  self := fun _ _ _ _ _ st h => wpAny_pyIter_tupleiter st h
theorem turn_range {P : Program} {w : World} {K : PySem.W.Frag} {tg : Expr} (it : Addr) (lo : Int) (n : Nat) : Turn P w K tg (Itr lo n) [it] it (fun i h => IsRangeIter h it (lo + (i : Nat) * 1) ((n : Int) - (i : Nat)) 1) where
  mem := by simp
  obj := fun i h st b hb => by
    have e : b = it := by simpa using hb
    subst e
    exact ⟨_, st, fun v z => by
      have z' : Data.fields _ = Data.cell v := z
      cases z'⟩
  keep := fun i h h' st k => k it (by simp) _ st
  item := by
    intro X hP hw hK hc i pins s σ H E I hf st hg
    subst hP hw hK
    obtain ⟨f0, f1, f2, f3, f4, f5⟩ := hf it (by simp)
    have W := Walks.range (prog := X.prog) (w := X.w) (I.ok.hd hc) it lo 1 n
    refine W.item i s _ _ hg st fun v h' tk hv st' kk => ?_
    obtain ⟨t, rfl⟩ := hv
    have I1 : Inv X pins σ H { s with heap := h', toks := tk } := I.turned (fun b o hb e => kk b o (by simpa using hb) e) f0 f1 f3 f4 f5
    refine ⟨_, rfl, go_of (s := { s with heap := h', toks := tk }) (n := "range_iterator") st' rfl rfl (by decide) ⟨.int (lo + i), H, I1, ⟨t, ?_⟩, ⟨rfl, rfl⟩, st', fun b hb => (hf b hb).1⟩⟩
    rw [Int.mul_one]
  done := by
    intro X hP hw hK hc i pins s σ H E I hf st hg
    subst hP hw hK
    obtain ⟨f0, f1, f2, f3, f4, f5⟩ := hf it (by simp)
    exact wpAny_pyNext_range_end (I.ok.hd hc) st (by have : n ≤ i := hg; omega) fun h' eb => ⟨rfl, I.turned (t' := s.toks) (fun b o hb e => eb b o hb e) f0 f1 f3 f4 f5⟩
  self := fun _ _ _ _ _ st h => wpAny_pyIter_rangeiter st h
end L2

namespace L2
open PySem PySem.Spec PyProof.Rows
section
variable {X : Cx} {tg : Expr}
def iList (K : PySem.W.Frag) (tl : TE) : TI := fun σ H R => tl σ H fun x H1 => ∃ a, x = .ref a ∧ (∃ xs, SqL K H1 a xs) ∧ R (Itl K a) H1
def iTup (K : PySem.W.Frag) (tl : TE) : TI := fun σ H R => tl σ H fun x H1 => ∃ a, x = .ref a ∧ (∃ xs, SqT K H1 a xs) ∧ R (Itt K a) H1
theorem pi_list {l : Expr} {tl : TE} (hl : PE X l tl) : PI X tg l (iList X.K tl) := by
  intro pins s σ H R I h
  refine thn (hl pins s σ H _ I h) fun v s1 ⟨x, H1, I1, r1, q1⟩ => ?_
  obtain ⟨a, e, ⟨xs, hq⟩, q⟩ := q1
  subst e
  cases r1
  obtain ⟨its, rv, p, hz⟩ := I1.list hq
  refine wpAny_pyIter_list p.isList ?_
  refine ⟨s1.heap.objs.size, [s1.heap.objs.size], _, _, H1, rfl, I1.kept (t' := s1.toks) fun b o e => Heap.get?_push_of_some _ e, turn_list a _, ⟨_, Heap.get?_push_size _ rfl, rfl, rfl⟩, fun b hb => ?_, q⟩
  have e : b = s1.heap.objs.size := by simpa using hb
  subst e
  exact I1.fpOk (Nat.le_refl _) (I1.hok.fresh (Nat.le_refl _))
theorem pi_tup {l : Expr} {tl : TE} (hl : PE X l tl) : PI X tg l (iTup X.K tl) := by
  intro pins s σ H R I h
  refine thn (hl pins s σ H _ I h) fun v s1 ⟨x, H1, I1, r1, q1⟩ => ?_
  obtain ⟨a, e, ⟨xs, hq⟩, q⟩ := q1
  subst e
  cases r1
  obtain ⟨its, rv, p, hz⟩ := I1.tuple hq
  refine wpAny_pyIter_tuple (show s1.heap.IsTuple a its.toArray from p) ?_
  refine ⟨s1.heap.objs.size, [s1.heap.objs.size], _, _, H1, rfl, I1.kept (t' := s1.toks) fun b o e => Heap.get?_push_of_some _ e, turn_tuple a _, ⟨_, Heap.get?_push_size _ rfl, rfl, rfl⟩, fun b hb => ?_, q⟩
  have e : b = s1.heap.objs.size := by simpa using hb
  subst e
  exact I1.fpOk (Nat.le_refl _) (I1.hok.fresh (Nat.le_refl _))
/-- a range object just made, walked -/
theorem range_it {pins : List (Addr × Obj)} {σ : St} {H : Hp} {s : Shared} {R : It → Hp → Prop} {E : Value → Shared → Prop} {lo hi : Int} {t u v : Tok} {tk : Nat} (I : Inv X pins σ H s) (h1 : -(2 ^ 62) ≤ lo) (h2 : lo < 2 ^ 62) (h3 : -(2 ^ 62) ≤ hi) (h4 : hi < 2 ^ 62)
    (q : R (Itr lo (hi - lo).toNat) H) : wpAny (model X.prog X.w) X.A (pyIter (.ref s.heap.objs.size)) (PIE X pins σ tg R) E { s with heap := s.heap.push { cls := .type "range", data := .fields #[.int lo t, .int hi u, .int 1 v] }, toks := tk } := by
  refine wpAny_pyIter_range (IsRange.new ..) (small_one h1 h2 h3 h4) ?_
  have I1 : Inv X pins σ H { s with heap := s.heap.push { cls := .type "range", data := .fields #[.int lo t, .int hi u, .int 1 v] }, toks := tk } := I.kept fun b o e => Heap.get?_push_of_some _ e
  refine ⟨(s.heap.push { cls := .type "range", data := .fields #[.int lo t, .int hi u, .int 1 v] }).objs.size, [(s.heap.push { cls := .type "range", data := .fields #[.int lo t, .int hi u, .int 1 v] }).objs.size], _, _, H, rfl,
    I1.kept (t' := tk) fun b o e => Heap.get?_push_of_some _ e, turn_range _ lo (hi - lo).toNat, ?_, fun b hb => ?_, q⟩
  · have e1 : lo + ((0 : Nat) : Int) * 1 = lo := by simp
    have e2 : (((hi - lo).toNat : Nat) : Int) - ((0 : Nat) : Int) = Builtin.Range.rangeSize lo hi 1 := by rw [rangeSize_one]; split <;> omega
    show IsRangeIter _ _ (lo + ((0 : Nat) : Int) * 1) ((((hi - lo).toNat : Nat) : Int) - ((0 : Nat) : Int)) 1
    rw [e1, e2]
    exact Heap.get?_push_size _ rfl
  · have e : b = (s.heap.push { cls := .type "range", data := .fields #[.int lo t, .int hi u, .int 1 v] }).objs.size := by simpa using hb
    subst e
    exact I1.fpOk (Nat.le_refl _) (I1.hok.fresh (Nat.le_refl _))
def iRng1 (ta : TA) : TI := fun σ H R => ta σ H fun vs H1 => ∃ j : Int, vs = [.int j] ∧ -(2 ^ 62) ≤ j ∧ j < 2 ^ 62 ∧ R (Itr 0 j.toNat) H1
def iRng2 (ta : TA) : TI := fun σ H R => ta σ H fun vs H1 => ∃ i j : Int, vs = [.int i, .int j] ∧ (-(2 ^ 62) ≤ i ∧ i < 2 ^ 62 ∧ -(2 ^ 62) ≤ j ∧ j < 2 ^ 62) ∧ R (Itr i (j - i).toNat) H1
theorem pi_range1 {a : Expr} {ta : TA} {p pos : Pos} (hg : Gl X "range") (hm : X.mg "range" = none) (ha : PA X [a] ta) (hs : starEach [a] X.env = [(false, eval a X.env)] := by rfl) : PI X tg (.Call (.Name "range" p) [a] [] pos) (iRng1 ta) := by
  intro pins s σ H R I h
  refine Call_ (ld_blt I hg hm boot_range (PyProof.Rows.callWith_type1 (thn (ha pos pins s σ H _ I h) fun us s1 ⟨vs, H1, I1, r1, q1⟩ => ?_) hs rfl))
  obtain ⟨j, e, q1, q2, q⟩ := q1
  subst e
  cases r1 with
  | cons r rr =>
    cases rr
    obtain ⟨t, rfl⟩ := r
    exact call_range_1 (range_it I1 (by omega) (by omega) q1 q2 (by simpa using q))
theorem pi_range2 {a b : Expr} {ta : TA} {p pos : Pos} (hg : Gl X "range") (hm : X.mg "range" = none) (ha : PA X [a, b] ta) (hs : starEach [a, b] X.env = [(false, eval a X.env), (false, eval b X.env)] := by rfl) (hs2 : starEach [b] X.env = [(false, eval b X.env)] := by rfl) :
    PI X tg (.Call (.Name "range" p) [a, b] [] pos) (iRng2 ta) := by
  intro pins s σ H R I h
  refine Call_ (ld_blt I hg hm boot_range (PyProof.Rows.callWith_type1 (thn (ha pos pins s σ H _ I h) fun us s1 ⟨vs, H1, I1, r1, q1⟩ => ?_) (by rw [hs, hs2]) (by rw [hs2]; rfl)))
  obtain ⟨i, j, e, ⟨q1, q2, q3, q4⟩, q⟩ := q1
  subst e
  cases r1 with
  | cons r rr =>
    cases rr with
    | cons r' rr =>
      cases rr
      obtain ⟨t, rfl⟩ := r
      obtain ⟨t', rfl⟩ := r'
      exact call_range_2 (range_it I1 q1 q2 q3 q4 q)

/-! ### for -/
/-- W: the invariant by the turn and a measure; N: what the body is to reach -/
def tFor (wi : TI) (g : TG) (tb : TS) : TS := fun D σ H => wi σ H fun J H1 => ∃ W : Nat → Nat → St → Hp → Prop, (∃ m, W 0 m σ H1) ∧ ∀ i m σ H, W i m σ H →
  (J.stop i H ∧ D.nx σ H) ∨ (J.go i H ∧ ∃ N : St → Hp → Prop, (∀ σ' H', N σ' H' → ∃ m', m' < m ∧ W (i + 1) m' σ' H') ∧ ∀ x H', J.yld i H x H' → g x σ H' fun σ2 H2 => tb { D with nx := N, ct := N, bk := D.nx } σ2 H2)
/-- the records at fp as they stand -/
def pinsAt (fp : List Addr) (h : Heap) : List (Addr × Obj) := fp.filterMap fun b => (h.get? b).map fun o => (b, o)
theorem mem_pinsAt {fp : List Addr} {h : Heap} {b : Addr} {o : Obj} (hb : b ∈ fp) (e : h.get? b = some o) : (b, o) ∈ pinsAt fp h := List.mem_filterMap.mpr ⟨b, hb, by rw [e]; rfl⟩
theorem of_pinsAt {fp : List Addr} {h : Heap} {p : Addr × Obj} (hp : p ∈ pinsAt fp h) : p.1 ∈ fp ∧ h.get? p.1 = some p.2 := by
  obtain ⟨b, hb, e⟩ := List.mem_filterMap.mp hp
  cases q : h.get? b with
  | none => rw [q] at e; cases e
  | some o =>
    rw [q] at e
    have e' : (b, o) = p := Option.some.inj e
    subst e'
    exact ⟨hb, q⟩
theorem Inv.pinned {pins : List (Addr × Obj)} {σ : St} {H : Hp} {s : Shared} {fp : List Addr} (I : Inv X pins σ H s) (hf : ∀ b ∈ fp, FpOk X pins H b) (ho : ∀ b ∈ fp, ∃ o, s.heap.get? b = some o ∧ ∀ v, o.data ≠ .cell v) : Inv X (pins ++ pinsAt fp s.heap) σ H s :=
  I.pins_of fun p hp => (List.mem_append.mp hp).elim (fun z => I.pin p (List.mem_append_right _ z)) fun z => by
    obtain ⟨hb, e⟩ := of_pinsAt z
    obtain ⟨f0, f1, f2, _⟩ := hf p.1 hb
    obtain ⟨o, e', d⟩ := ho p.1 hb
    rw [e] at e'; cases e'
    exact ⟨e, f0, f1, f2, d⟩
theorem Inv.unpinned {pins pl : List (Addr × Obj)} {σ : St} {H : Hp} {s : Shared} (I : Inv X (pins ++ pl) σ H s) : Inv X pins σ H s := I.pins_of fun p hp => I.pin p (List.mem_append_right _ (List.mem_append_left _ hp))
theorem ps_for {iter : Expr} {body : List Stmt} {wi : TI} {g : TG} {tb : TS} {pos : Pos} (hp : PassesOwn (model X.prog X.w) X.A X.env X.xe) (hc : X.calm = true) (hi : PI X tg iter wi) (hg : PG X tg g) (hb : PSs X body tb)
    (hs : ∀ x, foldedSetIterable iter X.env x = pure x := by intro _; rfl) : PS X (.For tg iter body [] pos) (tFor wi g tb) := by
  intro pins s σ H D I h
  refine wpAny_For (thn (hi pins s σ H _ I h) fun v s1 h1 => thn h1 fun itv s2 h2 => ?_) hs
  obtain ⟨it, fp, tn, J, H2, e, I2, T, st2, f2, W, ⟨m0, w0⟩, turn⟩ := h2
  subst e
  -- what stays true of the iterator's objects through the loop
  have stat : ∀ {H' : Hp}, (∀ b ∈ fp, H' b = none) → ∀ b ∈ fp, FpOk X pins H' b := fun hn b hb => ⟨hn b hb, (f2 b hb).2⟩
  refine codeAny_forLoop_any (fun n s' => ∃ i σ' H', Inv X pins σ' H' s' ∧ tn i s'.heap ∧ (∀ b ∈ fp, H' b = none) ∧ W i n σ' H') ?_ m0 ⟨0, σ, H2, I2, st2, fun b hb => (f2 b hb).1, w0⟩
  rintro n s3 ⟨i, σ3, H3, I3, st3, fr3, w3⟩
  rcases turn i n σ3 H3 w3 with ⟨stop, qn⟩ | ⟨go, N, hN, step⟩
  · refine wpAny_passesOwn hp (thn (T.done X rfl rfl rfl hc i pins s3 σ3 H3 X.xe I3 (stat fr3) st3 stop) fun r s4 ⟨hr, I4⟩ => ?_)
    subst hr
    exact wpAny_execs_nil ⟨σ3, H3, I4, qn⟩
  · refine wpAny_passesOwn hp (thn (T.item X rfl rfl rfl hc i pins s3 σ3 H3 X.xe I3 (stat fr3) st3 go) fun r s4 ⟨u, hr, h4⟩ => ?_)
    subst hr
    refine wpAny_passesOwn hp (thn h4 fun _ s5 ⟨x, H5, I5, r5, y5, st5, fr5⟩ => ?_)
    have I5' := I5.pinned (stat fr5) (T.obj _ _ st5)
    refine wpAny_passesOwn hp (thn (hg _ s5 σ3 H5 x u _ I5' r5 (step x H5 y5)) fun _ s6 ⟨σ6, H6, I6, q6⟩ => ?_)
    refine wpAny_passesOwn hp (thn (hb _ s6 σ6 H6 _ I6 q6) fun f s7 q7 => ?_)
    have again : ∀ {σ7 : St} {H7 : Hp}, Inv X (pins ++ pinsAt fp s5.heap) σ7 H7 s7 → N σ7 H7 → ∃ m, m < n ∧ ∃ i σ' H', Inv X pins σ' H' s7 ∧ tn i s7.heap ∧ (∀ b ∈ fp, H' b = none) ∧ W i m σ' H' := fun {σ7 H7} I7 n7 => by
      obtain ⟨m', hm, w7⟩ := hN σ7 H7 n7
      refine ⟨m', hm, i + 1, σ7, H7, I7.unpinned, T.keep _ _ _ st5 fun b hb o e => (I7.pin (b, o) (List.mem_append_right _ (List.mem_append_right _ (mem_pinsAt hb e)))).1, fun b hb => ?_, w7⟩
      obtain ⟨o, e, d⟩ := T.obj _ _ st5 b hb
      exact (I7.pin (b, o) (List.mem_append_right _ (List.mem_append_right _ (mem_pinsAt hb e)))).2.1
    cases f with
    | next => obtain ⟨σ7, H7, I7, n7⟩ := q7; exact again I7 n7
    | cont => obtain ⟨σ7, H7, I7, n7⟩ := q7; exact again I7 n7
    | brk => obtain ⟨σ7, H7, I7, q7⟩ := q7; exact ⟨σ7, H7, I7.unpinned, q7⟩
    | ret v => obtain ⟨x7, σ7, H7, I7, r7, q7⟩ := q7; exact ⟨x7, σ7, H7, I7.unpinned, r7, q7⟩
end

/-! ### the forms one uses -/
/-- over a list that the body leaves as it is -/
theorem for_list {K : PySem.W.Frag} {a : Addr} {xs : List V} {g : TG} {tb : TS} {D : Ends} {σ : St} {H : Hp} (Pv : Nat → St → Hp → Prop) (h0 : Pv 0 σ H) (hl : ∀ i σ H, i ≤ xs.length → Pv i σ H → SqL K H a xs)
    (hs : ∀ i x σ H, xs[i]? = some x → Pv i σ H → g x σ H fun σ2 H2 => tb { D with nx := Pv (i + 1), ct := Pv (i + 1), bk := D.nx } σ2 H2) (hd : ∀ σ H, Pv xs.length σ H → D.nx σ H) :
    ∃ W : Nat → Nat → St → Hp → Prop, (∃ m, W 0 m σ H) ∧ ∀ i m σ H, W i m σ H →
      ((Itl K a).stop i H ∧ D.nx σ H) ∨ ((Itl K a).go i H ∧ ∃ N : St → Hp → Prop, (∀ σ' H', N σ' H' → ∃ m', m' < m ∧ W (i + 1) m' σ' H') ∧ ∀ x H', (Itl K a).yld i H x H' → g x σ H' fun σ2 H2 => tb { D with nx := N, ct := N, bk := D.nx } σ2 H2) := by
  refine ⟨fun i m σ H => m = xs.length - i ∧ i ≤ xs.length ∧ Pv i σ H, ⟨xs.length, by simp, Nat.zero_le _, h0⟩, ?_⟩
  rintro i m σ H ⟨rfl, hi, p⟩
  have q := hl i σ H hi p
  by_cases hlt : i < xs.length
  · refine .inr ⟨⟨xs, xs[i], q, by simp [hlt]⟩, Pv (i + 1), fun σ' H' p' => ⟨xs.length - (i + 1), by omega, rfl, hlt, p'⟩, fun x H' y => ?_⟩
    obtain ⟨e, y⟩ := y
    subst e
    exact hs i x σ _ (y xs q) p
  · have e : i = xs.length := by omega
    subst e
    exact .inl ⟨⟨xs, q, Nat.le_refl _⟩, hd σ H p⟩
theorem for_tup {K : PySem.W.Frag} {a : Addr} {xs : List V} {g : TG} {tb : TS} {D : Ends} {σ : St} {H : Hp} (Pv : Nat → St → Hp → Prop) (h0 : Pv 0 σ H) (hl : ∀ i σ H, i ≤ xs.length → Pv i σ H → SqT K H a xs)
    (hs : ∀ i x σ H, xs[i]? = some x → Pv i σ H → g x σ H fun σ2 H2 => tb { D with nx := Pv (i + 1), ct := Pv (i + 1), bk := D.nx } σ2 H2) (hd : ∀ σ H, Pv xs.length σ H → D.nx σ H) :
    ∃ W : Nat → Nat → St → Hp → Prop, (∃ m, W 0 m σ H) ∧ ∀ i m σ H, W i m σ H →
      ((Itt K a).stop i H ∧ D.nx σ H) ∨ ((Itt K a).go i H ∧ ∃ N : St → Hp → Prop, (∀ σ' H', N σ' H' → ∃ m', m' < m ∧ W (i + 1) m' σ' H') ∧ ∀ x H', (Itt K a).yld i H x H' → g x σ H' fun σ2 H2 => tb { D with nx := N, ct := N, bk := D.nx } σ2 H2) := by
  refine ⟨fun i m σ H => m = xs.length - i ∧ i ≤ xs.length ∧ Pv i σ H, ⟨xs.length, by simp, Nat.zero_le _, h0⟩, ?_⟩
  rintro i m σ H ⟨rfl, hi, p⟩
  have q := hl i σ H hi p
  by_cases hlt : i < xs.length
  · refine .inr ⟨⟨xs, xs[i], q, by simp [hlt]⟩, Pv (i + 1), fun σ' H' p' => ⟨xs.length - (i + 1), by omega, rfl, hlt, p'⟩, fun x H' y => ?_⟩
    obtain ⟨e, y⟩ := y
    subst e
    exact hs i x σ _ (y xs q) p
  · have e : i = xs.length := by omega
    subst e
    exact .inl ⟨⟨xs, q, Nat.le_refl _⟩, hd σ H p⟩
theorem for_range {lo : Int} {n : Nat} {g : TG} {tb : TS} {D : Ends} {σ : St} {H : Hp} (Pv : Nat → St → Hp → Prop) (h0 : Pv 0 σ H)
    (hs : ∀ i σ H, i < n → Pv i σ H → g (.int (lo + i)) σ H fun σ2 H2 => tb { D with nx := Pv (i + 1), ct := Pv (i + 1), bk := D.nx } σ2 H2) (hd : ∀ σ H, Pv n σ H → D.nx σ H) :
    ∃ W : Nat → Nat → St → Hp → Prop, (∃ m, W 0 m σ H) ∧ ∀ i m σ H, W i m σ H →
      ((Itr lo n).stop i H ∧ D.nx σ H) ∨ ((Itr lo n).go i H ∧ ∃ N : St → Hp → Prop, (∀ σ' H', N σ' H' → ∃ m', m' < m ∧ W (i + 1) m' σ' H') ∧ ∀ x H', (Itr lo n).yld i H x H' → g x σ H' fun σ2 H2 => tb { D with nx := N, ct := N, bk := D.nx } σ2 H2) := by
  refine ⟨fun i m σ H => m = n - i ∧ i ≤ n ∧ Pv i σ H, ⟨n, by simp, Nat.zero_le _, h0⟩, ?_⟩
  rintro i m σ H ⟨rfl, hi, p⟩
  by_cases hlt : i < n
  · refine .inr ⟨hlt, Pv (i + 1), fun σ' H' p' => ⟨n - (i + 1), by omega, rfl, hlt, p'⟩, fun x H' y => ?_⟩
    obtain ⟨e, y⟩ := y
    subst e y
    exact hs i σ _ hlt p
  · have e : i = n := by omega
    subst e
    exact .inl ⟨Nat.le_refl _, hd σ H p⟩
/-- while, by a word and a measure of the state -/
theorem while_by {c : TT} {tb : TS} {D : Ends} {σ : St} {H : Hp} (Pv : St → Hp → Prop) (μ : St → Hp → Nat) (h0 : Pv σ H)
    (hs : ∀ σ H, Pv σ H → c σ H fun b H1 => if b = true then tb { D with nx := fun σ' H' => Pv σ' H' ∧ μ σ' H' < μ σ H, ct := fun σ' H' => Pv σ' H' ∧ μ σ' H' < μ σ H, bk := D.nx } σ H1 else D.nx σ H1)
    (mono : ∀ σ H Q Q', (∀ b H1, Q b H1 → Q' b H1) → c σ H Q → c σ H Q') : tWhile c tb D σ H := by
  refine ⟨fun m σ H => m = μ σ H ∧ Pv σ H, ⟨_, rfl, h0⟩, ?_⟩
  rintro m σ H ⟨rfl, p⟩
  refine mono σ H _ _ (fun b H1 q => ?_) (hs σ H p)
  cases b with
  | true => exact ⟨_, fun σ' H' ⟨p', l⟩ => ⟨_, l, rfl, p'⟩, q⟩
  | false => exact q
end L2

namespace L2
open PySem PySem.Spec PyProof.Rows

abbrev R2 := V → V → Hp → VK → Prop
/-- a two-place operation on values: f is binaryOp op, inplaceOp op or compareOp op -/
def OpR (X : Cx) (f : Value → Value → Sem Value) (r : R2) : Prop :=
  ∀ (pins : List (Addr × Obj)) (s : Shared) (σ : St) (H : Hp) (x y : V) (v u : Value) (Q : VK), Inv X pins σ H s → RelV x v → RelV y u → r x y H Q →
    wpAny (model X.prog X.w) X.A (f v u) (EP X pins σ Q) X.xe s
/-- a one-place operation -/
def UnR (X : Cx) (f : Value → Sem Value) (r : V → Hp → VK → Prop) : Prop :=
  ∀ (pins : List (Addr × Obj)) (s : Shared) (σ : St) (H : Hp) (x : V) (v : Value) (Q : VK), Inv X pins σ H s → RelV x v → r x H Q →
    wpAny (model X.prog X.w) X.A (f v) (EP X pins σ Q) X.xe s
/-- a call of a value that is known (a builtin, a type) with values -/
def CallR (X : Cx) (f : Value) (r : List V → Hp → VK → Prop) : Prop :=
  ∀ (pins : List (Addr × Obj)) (s : Shared) (σ : St) (H : Hp) (xs : List V) (us : List Value) (Q : VK), Inv X pins σ H s → Vals xs us → r xs H Q →
    wpAny (model X.prog X.w) X.A (call f us) (EP X pins σ Q) X.xe s
/-- a value's truth -/
def TruR (X : Cx) (r : V → Hp → (Bool → Hp → Prop) → Prop) : Prop :=
  ∀ (pins : List (Addr × Obj)) (s : Shared) (σ : St) (H : Hp) (x : V) (v : Value) (Q : Bool → Hp → Prop), Inv X pins σ H s → RelV x v → r x H Q →
    wpAny (model X.prog X.w) X.A (truthy v) (TP X pins σ Q) X.xe s

def tOp (r : R2) (ta tb : TE) : TE := fun σ H Q => ta σ H fun x H1 => tb σ H1 fun y H2 => r x y H2 Q
def tUn (r : V → Hp → VK → Prop) (ta : TE) : TE := fun σ H Q => ta σ H fun x H1 => r x H1 Q
/-- ints in, under C, and a value out -/
def rI (C : Int → Int → Prop) (g : Int → Int → V) : R2 := fun x y H Q => ∃ i j, x = .int i ∧ y = .int j ∧ C i j ∧ Q (g i j) H
def rI0 (g : Int → Int → V) : R2 := fun x y H Q => ∃ i j, x = .int i ∧ y = .int j ∧ Q (g i j) H
def rU (g : Int → V) : V → Hp → VK → Prop := fun x H Q => ∃ i, x = .int i ∧ Q (g i) H

section
variable {X : Cx} {a b c : Expr} {ta tb tc : TE} {pos : Pos}

theorem binT (ha : PE X a ta) (hb : PE X b tb) {pins : List (Addr × Obj)} {s : Shared} {σ : St} {H : Hp} {R : V → V → Hp → Prop} (I : Inv X pins σ H s)
    (h : ta σ H fun x H1 => tb σ H1 fun y H2 => R x y H2) {Q : Value → Shared → Prop} {f : Value → Value → Sem Value}
    (hf : ∀ v u s2 x y H2, Inv X pins σ H2 s2 → RelV x v → RelV y u → R x y H2 → wpAny (model X.prog X.w) X.A (f v u) Q X.xe s2) :
    wpAny (model X.prog X.w) X.A (eval a X.env) (fun v s₁ => wpAny (model X.prog X.w) X.A (eval b X.env) (fun u s₂ => wpAny (model X.prog X.w) X.A (f v u) Q X.xe s₂) X.xe s₁) X.xe s := by
  refine thn (ha pins s σ H _ I h) fun v s1 ⟨x, H1, I1, r1, q1⟩ => ?_
  refine thn (hb pins s1 σ H1 _ I1 q1) fun u s2 ⟨y, H2, I2, r2, q2⟩ => ?_
  exact hf v u s2 x y H2 I2 r1 r2 q2

theorem pe_op {op : Operator} {r : R2} (ho : OpR X (binaryOp op) r) (ha : PE X a ta) (hb : PE X b tb) : PE X (.BinOp a op b pos) (tOp r ta tb) := by
  intro pins s σ H Q I h
  exact wpAny_BinOp (binT ha hb I h fun v u s2 x y H2 I2 rx ry q => ho pins s2 σ H2 x y v u Q I2 rx ry q)
theorem pe_un {op : UnaryOp} {r : V → Hp → VK → Prop} (ho : UnR X (unaryOp op) r) (ha : PE X a ta) : PE X (.UnaryOp op a pos) (tUn r ta) := by
  intro pins s σ H Q I h
  exact UnaryOp_ (thn (ha pins s σ H _ I h) fun v s1 ⟨x, H1, I1, r1, q1⟩ => ho pins s1 σ H1 x v Q I1 r1 q1)
/-- a op= e at a name: the name's slot i -/
theorem augR {op : Operator} {r : R2} (ho : OpR X (inplaceOp op) r) {pins : List (Addr × Obj)} {s : Shared} {σ : St} {H : Hp} {x y : V} {v u : Value} {Q : VK} (I : Inv X pins σ H s)
    (rx : RelV x v) (ry : RelV y u) (q : r x y H Q) : wpAny (model X.prog X.w) X.A (inplaceOp op v u) (EP X pins σ Q) X.xe s := ho pins s σ H x y v u Q I rx ry q

/-! ### ints -/
theorem opI {f : Value → Value → Sem Value} {C : Int → Int → Prop} {g : Int → Int → Int}
    (rule : ∀ (i j : Int) (t u : Tok) (s : Shared) (Q : Value → Shared → Prop) (E : Value → Shared → Prop), C i j → Q (.int (g i j) s.toks) { s with toks := s.toks + 1 } → wpAny (model X.prog X.w) X.A (f (.int i t) (.int j u)) Q E s) :
    OpR X f (rI C fun i j => .int (g i j)) := by
  intro pins s σ H x y v u Q I rx ry h
  obtain ⟨i, j, rfl, rfl, hc, q⟩ := h
  obtain ⟨t, rfl⟩ := rx
  obtain ⟨t', rfl⟩ := ry
  exact rule i j t t' s _ _ hc ⟨.int (g i j), H, I.tok _, ⟨_, rfl⟩, q⟩
theorem opI0 {f : Value → Value → Sem Value} {g : Int → Int → Int}
    (rule : ∀ (i j : Int) (t u : Tok) (s : Shared) (Q : Value → Shared → Prop) (E : Value → Shared → Prop), Q (.int (g i j) s.toks) { s with toks := s.toks + 1 } → wpAny (model X.prog X.w) X.A (f (.int i t) (.int j u)) Q E s) :
    OpR X f (rI0 fun i j => .int (g i j)) := by
  intro pins s σ H x y v u Q I rx ry h
  obtain ⟨i, j, rfl, rfl, q⟩ := h
  obtain ⟨t, rfl⟩ := rx
  obtain ⟨t', rfl⟩ := ry
  exact rule i j t t' s _ _ ⟨.int (g i j), H, I.tok _, ⟨_, rfl⟩, q⟩
theorem opB0 {f : Value → Value → Sem Value} {g : Int → Int → Bool}
    (rule : ∀ (i j : Int) (t u : Tok) (s : Shared) (Q : Value → Shared → Prop) (E : Value → Shared → Prop), Q (.bool (g i j)) s → wpAny (model X.prog X.w) X.A (f (.int i t) (.int j u)) Q E s) :
    OpR X f (rI0 fun i j => .bl (g i j)) := by
  intro pins s σ H x y v u Q I rx ry h
  obtain ⟨i, j, rfl, rfl, q⟩ := h
  obtain ⟨t, rfl⟩ := rx
  obtain ⟨t', rfl⟩ := ry
  exact rule i j t t' s _ _ ⟨.bl (g i j), H, I, rfl, q⟩

def CDiv (i j : Int) : Prop := 0 < j ∧ j < 1073741824
def CDivN (i j : Int) : Prop := j ≠ 0 ∧ j.natAbs < 1073741824
def CPow (i j : Int) : Prop := 0 ≤ j ∧ j ≤ 1000000 ∧ i.natAbs < 2 ^ 64
def CMul (i j : Int) : Prop := (-(2 ^ 64) < i ∧ i < 2 ^ 64) ∨ (-(2 ^ 64) < j ∧ j < 2 ^ 64)
theorem CMul.ok {i j : Int} (h : CMul i j) : IntMulOk i j := by
  rcases h with ⟨h1, h2⟩ | ⟨h1, h2⟩
  · exact .of_left (intBits_le_64 h1 h2)
  · exact .of_right (intBits_le_64 h1 h2)
theorem two_pow_nn (k : Nat) : (0 : Int) ≤ 2 ^ k := by
  rw [two_pow_cast]
  exact Int.natCast_nonneg _

theorem op_add : OpR X (binaryOp .Add) (rI0 fun i j => .int (i + j)) := opI0 fun _ _ _ _ _ _ _ q => add_int q
theorem op_sub : OpR X (binaryOp .Sub) (rI0 fun i j => .int (i - j)) := opI0 fun _ _ _ _ _ _ _ q => sub_int q
theorem op_mul : OpR X (binaryOp .Mult) (rI CMul fun i j => .int (i * j)) := opI fun _ _ _ _ _ _ _ hc q => mul_int q hc.ok
/-- // by a positive divisor -/
theorem op_fdiv : OpR X (binaryOp .FloorDiv) (rI CDiv fun i j => .int (i / j)) := opI fun i j _ _ _ _ _ hc q => by
  have h1 : (0 : Int) < j := hc.1
  have h2 : j < 1073741824 := hc.2
  exact floordiv_int (by omega) (by rw [Int.fdiv_eq_ediv_of_nonneg i (by omega)]; exact q) (.inl (PyProof.noPylong_small (by omega)))
theorem op_fdivN : OpR X (binaryOp .FloorDiv) (rI CDivN fun i j => .int (i.fdiv j)) := opI fun _ _ _ _ _ _ _ hc q => floordiv_int hc.1 q (.inl (PyProof.noPylong_small hc.2))
/-- % by a positive divisor of any size -/
theorem op_mod : OpR X (binaryOp .Mod) (rI (fun _ j => 0 < j) fun i j => .int (i % j)) := opI fun i j _ _ _ _ _ hc q => by
  have h1 : (0 : Int) < j := hc
  exact mod_int' (by omega) (by rw [Int.fmod_eq_emod_of_nonneg i (by omega)]; exact q)
theorem op_modN : OpR X (binaryOp .Mod) (rI (fun _ j => j ≠ 0) fun i j => .int (i.fmod j)) := opI fun _ _ _ _ _ _ _ hc q => mod_int' hc q
theorem op_pow : OpR X (binaryOp .Pow) (rI CPow fun i j => .int (i ^ j.toNat)) := opI fun _ _ _ _ _ _ _ hc q => pow_int_small hc.1 hc.2.1 hc.2.2 q
theorem op_shl : OpR X (binaryOp .LShift) (rI CPow fun i j => .int (i * 2 ^ j.toNat)) := opI fun _ _ _ _ _ _ _ hc q => lshift_int_small hc.1 hc.2.1 hc.2.2 q
theorem op_shr : OpR X (binaryOp .RShift) (rI (fun _ j => 0 ≤ j) fun i j => .int (i / 2 ^ j.toNat)) := opI fun i j _ _ _ _ _ hc q =>
  rshift_int hc (by rw [Int.fdiv_eq_ediv_of_nonneg i (two_pow_nn _)]; exact q)
theorem op_and : OpR X (binaryOp .BitAnd) (rI0 fun i j => .int (Builtin.bitAnd i j)) := opI0 fun _ _ _ _ _ _ _ q => and_int q
theorem op_or : OpR X (binaryOp .BitOr) (rI0 fun i j => .int (Builtin.bitOr i j)) := opI0 fun _ _ _ _ _ _ _ q => or_int q
theorem op_xor : OpR X (binaryOp .BitXor) (rI0 fun i j => .int (Builtin.bitXor i j)) := opI0 fun _ _ _ _ _ _ _ q => xor_int q

theorem iop_add : OpR X (inplaceOp .Add) (rI0 fun i j => .int (i + j)) := opI0 fun _ _ _ _ _ _ _ q => iadd_int q
theorem iop_sub : OpR X (inplaceOp .Sub) (rI0 fun i j => .int (i - j)) := opI0 fun _ _ _ _ _ _ _ q => isub_int q
theorem iop_mul : OpR X (inplaceOp .Mult) (rI CMul fun i j => .int (i * j)) := opI fun _ _ _ _ _ _ _ hc q => imul_int q hc.ok
theorem iop_fdiv : OpR X (inplaceOp .FloorDiv) (rI CDiv fun i j => .int (i / j)) := opI fun i j _ _ _ _ _ hc q => by
  have h1 : (0 : Int) < j := hc.1
  have h2 : j < 1073741824 := hc.2
  exact ifloordiv_int (by omega) (by rw [Int.fdiv_eq_ediv_of_nonneg i (by omega)]; exact q) (.inl (PyProof.noPylong_small (by omega)))
theorem iop_mod : OpR X (inplaceOp .Mod) (rI (fun _ j => 0 < j) fun i j => .int (i % j)) := opI fun i j _ _ _ _ _ hc q => by
  have h1 : (0 : Int) < j := hc
  exact imod_int (by omega) (by rw [Int.fmod_eq_emod_of_nonneg i (by omega)]; exact q)
theorem iop_shl : OpR X (inplaceOp .LShift) (rI CPow fun i j => .int (i * 2 ^ j.toNat)) := opI fun _ _ _ _ _ _ _ hc q => ilshift_int_small hc.1 hc.2.1 hc.2.2 q
theorem iop_shr : OpR X (inplaceOp .RShift) (rI (fun _ j => 0 ≤ j) fun i j => .int (i / 2 ^ j.toNat)) := opI fun i j _ _ _ _ _ hc q =>
  irshift_int hc (by rw [Int.fdiv_eq_ediv_of_nonneg i (two_pow_nn _)]; exact q)
theorem iop_and : OpR X (inplaceOp .BitAnd) (rI0 fun i j => .int (Builtin.bitAnd i j)) := opI0 fun _ _ _ _ _ _ _ q => iand_int q
theorem iop_or : OpR X (inplaceOp .BitOr) (rI0 fun i j => .int (Builtin.bitOr i j)) := opI0 fun _ _ _ _ _ _ _ q => ior_int q
theorem iop_xor : OpR X (inplaceOp .BitXor) (rI0 fun i j => .int (Builtin.bitXor i j)) := opI0 fun _ _ _ _ _ _ _ q => ixor_int q

theorem unI {f : Value → Sem Value} {g : Int → Int}
    (rule : ∀ (i : Int) (t : Tok) (s : Shared) (Q : Value → Shared → Prop) (E : Value → Shared → Prop), Q (.int (g i) s.toks) { s with toks := s.toks + 1 } → wpAny (model X.prog X.w) X.A (f (.int i t)) Q E s) :
    UnR X f (rU fun i => .int (g i)) := by
  intro pins s σ H x v Q I rx h
  obtain ⟨i, rfl, q⟩ := h
  obtain ⟨t, rfl⟩ := rx
  exact rule i t s _ _ ⟨.int (g i), H, I.tok _, ⟨_, rfl⟩, q⟩
theorem un_neg : UnR X (unaryOp .USub) (rU fun i => .int (-i)) := unI fun _ _ _ _ _ q => neg_int q
theorem un_inv : UnR X (unaryOp .Invert) (rU fun i => .int (Builtin.bitNot i)) := unI fun _ _ _ _ _ q => invert_int q

/-! ### bools among ints: n += (a < b) -/
theorem op_add_ib : OpR X (binaryOp .Add) (fun x y H Q => ∃ i k, x = .int i ∧ y = .bl k ∧ Q (.int (i + b2i k)) H) := by
  intro pins s σ H x y v u Q I rx ry h
  obtain ⟨i, k, rfl, rfl, q⟩ := h
  obtain ⟨t, rfl⟩ := rx
  cases ry
  exact add_int_bool ⟨.int (i + b2i k), H, I.tok _, ⟨_, rfl⟩, q⟩
end

/-! ### comparisons -/
/-- the scalars that == tells apart as data does -/
def scal : V → V → Bool
  | .non, .non => true | .non, .int _ => true | .int _, .non => true | .non, .bl _ => true | .bl _, .non => true | .non, .str _ => true | .str _, .non => true
  | .int _, .int _ => true | .bl _, .bl _ => true | .str _, .str _ => true | .byt _, .byt _ => true
  | .int _, .str _ => true | .str _, .int _ => true | .bl _, .str _ => true | .str _, .bl _ => true
  | _, _ => false
def rEq : R2 := fun x y H Q => scal x y = true ∧ Q (.bl (decide (x = y))) H
def rNe : R2 := fun x y H Q => scal x y = true ∧ Q (.bl (!decide (x = y))) H

theorem dec_int {i j : Int} : decide (V.int i = V.int j) = (i == j) := by
  rw [Bool.eq_iff_iff]
  simp
theorem dec_bl {i j : Bool} : decide (V.bl i = V.bl j) = (i == j) := by
  rw [Bool.eq_iff_iff]
  simp
theorem dec_str {i j : Str} : decide (V.str i = V.str j) = (i == j) := by
  rw [Bool.eq_iff_iff]
  simp
theorem dec_byt {i j : Array UInt8} : decide (V.byt i = V.byt j) = (i.toList == j.toList) := by
  rw [Bool.eq_iff_iff]
  cases i
  cases j
  simp

section
variable {X : Cx} {a b c : Expr} {ta tb tc : TE} {pos : Pos}
theorem fin_bl {pins : List (Addr × Obj)} {σ : St} {H : Hp} {s : Shared} {Q : VK} {k k' : Bool} (I : Inv X pins σ H s) (q : Q (.bl k) H) (e : k = k') : EP X pins σ Q (.bool k') s := by
  subst e
  exact ⟨.bl k, H, I, rfl, q⟩
theorem op_eq : OpR X (compareOp .Eq) rEq := by
  intro pins s σ H x y v u Q I rx ry h
  obtain ⟨hs, q⟩ := h
  cases x with
  | non =>
    cases rx
    cases y with
    | non => cases ry; exact PySem.EqNone.eq_none_none (fin_bl I q (by simp))
    | bl j => cases ry; exact PySem.EqNone.eq_none_bool (fin_bl I q (by simp))
    | int j => obtain ⟨t', rfl⟩ := ry; exact PySem.EqNone.eq_none_int (fin_bl I q (by simp))
    | str j => obtain ⟨t', rfl⟩ := ry; exact PySem.EqNone.eq_none_str (fin_bl I q (by simp))
    | _ => exact absurd (show false = true from hs) Bool.false_ne_true
  | bl i =>
    cases rx
    cases y with
    | non => cases ry; exact PySem.EqNone.eq_bool_none (fin_bl I q (by simp))
    | bl j => cases ry; exact eq_bool (fin_bl I q dec_bl)
    | str j => obtain ⟨t', rfl⟩ := ry; exact PySem.EqMixed.eq_bool_str (fin_bl I q (by simp))
    | _ => exact absurd (show false = true from hs) Bool.false_ne_true
  | int i =>
    obtain ⟨t, rfl⟩ := rx
    cases y with
    | non => cases ry; exact PySem.EqNone.eq_int_none (fin_bl I q (by simp))
    | int j => obtain ⟨t', rfl⟩ := ry; exact eq_int (fin_bl I q dec_int)
    | str j => obtain ⟨t', rfl⟩ := ry; exact PySem.EqMixed.eq_int_str (fin_bl I q (by simp))
    | _ => exact absurd (show false = true from hs) Bool.false_ne_true
  | str i =>
    obtain ⟨t, rfl⟩ := rx
    cases y with
    | non => cases ry; exact PySem.EqNone.eq_str_none (fin_bl I q (by simp))
    | bl j => cases ry; exact PySem.EqMixed.eq_str_bool (fin_bl I q (by simp))
    | int j => obtain ⟨t', rfl⟩ := ry; exact PySem.EqMixed.eq_str_int (fin_bl I q (by simp))
    | str j => obtain ⟨t', rfl⟩ := ry; exact eq_str (fin_bl I q dec_str)
    | _ => exact absurd (show false = true from hs) Bool.false_ne_true
  | byt i =>
    obtain ⟨t, rfl⟩ := rx
    cases y with
    | byt j => obtain ⟨t', rfl⟩ := ry; exact PySem.W.eq_bytes (fin_bl I q dec_byt)
    | _ => exact absurd (show false = true from hs) Bool.false_ne_true
  | _ => cases y <;> exact absurd (show false = true from hs) Bool.false_ne_true
theorem op_ne : OpR X (compareOp .NotEq) rNe := by
  intro pins s σ H x y v u Q I rx ry h
  obtain ⟨hs, q⟩ := h
  cases x with
  | non =>
    cases rx
    cases y with
    | non => cases ry; exact PySem.EqNone.ne_none_none (fin_bl I q (by simp))
    | bl j => cases ry; exact PySem.EqNone.ne_none_bool (fin_bl I q (by simp))
    | int j => obtain ⟨t', rfl⟩ := ry; exact PySem.EqNone.ne_none_int (fin_bl I q (by simp))
    | str j => obtain ⟨t', rfl⟩ := ry; exact PySem.EqNone.ne_none_str (fin_bl I q (by simp))
    | _ => exact absurd (show false = true from hs) Bool.false_ne_true
  | bl i =>
    cases rx
    cases y with
    | non => cases ry; exact PySem.EqNone.ne_bool_none (fin_bl I q (by simp))
    | bl j => cases ry; exact ne_bool (fin_bl I q (congrArg not dec_bl))
    | str j => obtain ⟨t', rfl⟩ := ry; exact PySem.EqMixed.ne_bool_str (fin_bl I q (by simp))
    | _ => exact absurd (show false = true from hs) Bool.false_ne_true
  | int i =>
    obtain ⟨t, rfl⟩ := rx
    cases y with
    | non => cases ry; exact PySem.EqNone.ne_int_none (fin_bl I q (by simp))
    | int j => obtain ⟨t', rfl⟩ := ry; exact ne_int (fin_bl I q (congrArg not dec_int))
    | str j => obtain ⟨t', rfl⟩ := ry; exact PySem.EqMixed.ne_int_str (fin_bl I q (by simp))
    | _ => exact absurd (show false = true from hs) Bool.false_ne_true
  | str i =>
    obtain ⟨t, rfl⟩ := rx
    cases y with
    | non => cases ry; exact PySem.EqNone.ne_str_none (fin_bl I q (by simp))
    | bl j => cases ry; exact PySem.EqMixed.ne_str_bool (fin_bl I q (by simp))
    | int j => obtain ⟨t', rfl⟩ := ry; exact PySem.EqMixed.ne_str_int (fin_bl I q (by simp))
    | str j => obtain ⟨t', rfl⟩ := ry; exact ne_str (fin_bl I q (congrArg not dec_str))
    | _ => exact absurd (show false = true from hs) Bool.false_ne_true
  | byt i =>
    obtain ⟨t, rfl⟩ := rx
    cases y with
    | byt j => obtain ⟨t', rfl⟩ := ry; exact PySem.W.ne_bytes (fin_bl I q (congrArg not dec_byt))
    | _ => exact absurd (show false = true from hs) Bool.false_ne_true
  | _ => cases y <;> exact absurd (show false = true from hs) Bool.false_ne_true

theorem op_lt : OpR X (compareOp .Lt) (rI0 fun i j => .bl (decide (i < j))) := opB0 fun _ _ _ _ _ _ _ q => lt_int q
theorem op_le : OpR X (compareOp .LtE) (rI0 fun i j => .bl (decide (i ≤ j))) := opB0 fun _ _ _ _ _ _ _ q => le_int q
theorem op_gt : OpR X (compareOp .Gt) (rI0 fun i j => .bl (decide (j < i))) := opB0 fun _ _ _ _ _ _ _ q => gt_int q
theorem op_ge : OpR X (compareOp .GtE) (rI0 fun i j => .bl (decide (j ≤ i))) := opB0 fun _ _ _ _ _ _ _ q => ge_int q
theorem op_lt_str : OpR X (compareOp .Lt) (fun x y H Q => ∃ i j, x = .str i ∧ y = .str j ∧ Q (.bl (decide (i.cps.toList < j.cps.toList))) H) := by
  intro pins s σ H x y v u Q I rx ry h
  obtain ⟨i, j, rfl, rfl, q⟩ := h
  obtain ⟨t, rfl⟩ := rx
  obtain ⟨t', rfl⟩ := ry
  exact lt_str (fin_bl I q rfl)
/-- the one string within the other -/
theorem op_in_str : OpR X (compareOp .In) (fun x y H Q => ∃ i j, x = .str i ∧ y = .str j ∧ Q (.bl (!(Builtin.Str.occurrences j i 0 j.length 1).isEmpty)) H) := by
  intro pins s σ H x y v u Q I rx ry h
  obtain ⟨i, j, rfl, rfl, q⟩ := h
  obtain ⟨t, rfl⟩ := rx
  obtain ⟨t', rfl⟩ := ry
  exact in_str (fin_bl I q rfl)

/-- is None, is not None: the right side a value none -/
theorem op_isN : OpR X (compareOp .Is) (fun x y H Q => y = .non ∧ Q (.bl (decide (x = .non))) H) := by
  intro pins s σ H x y v u Q I rx ry h
  obtain ⟨rfl, q⟩ := h
  cases ry
  refine is_none_gen (fin_bl I q ?_)
  cases x <;> first
    | (cases rx; rfl)
    | (obtain ⟨t, rfl⟩ := rx; rfl)
theorem op_notN : OpR X (compareOp .IsNot) (fun x y H Q => y = .non ∧ Q (.bl (!decide (x = .non))) H) := by
  intro pins s σ H x y v u Q I rx ry h
  obtain ⟨rfl, q⟩ := h
  cases ry
  refine isnot_none_gen (fin_bl I q ?_)
  cases x <;> first
    | (cases rx; rfl)
    | (obtain ⟨t, rfl⟩ := rx; rfl)

theorem op_notin_str : OpR X (compareOp .NotIn) (fun x y H Q => ∃ i j, x = .str i ∧ y = .str j ∧ Q (.bl (!(!(Builtin.Str.occurrences j i 0 j.length 1).isEmpty))) H) := by
  intro pins s σ H x y v u Q I rx ry h
  obtain ⟨i, j, rfl, rfl, q⟩ := h
  obtain ⟨t, rfl⟩ := rx
  obtain ⟨t', rfl⟩ := ry
  exact notIn_str (fin_bl I q rfl)
/-- is, is not of two objects that are tracked lists or instances -/
def isObj : HO → Bool
  | .lst _ => true
  | .ins _ _ _ => true
  | _ => false
theorem obj_there {pins : List (Addr × Obj)} {s : Shared} {σ : St} {H : Hp} {a : Addr} {o : HO} (I : Inv X pins σ H s) (h : H a = some o) (p : isObj o = true) : ∃ ob, s.heap.get? a = some ob ∧ ob.cls ≠ .type "tuple" := by
  cases o with
  | lst xs =>
    obtain ⟨_, its, n, _, e⟩ : xs.length ≤ sizeLine ∧ ∃ (its : List Value) (n : Nat), Vals xs its ∧ s.heap.get? a = some { cls := .type "list", data := .seq its.toArray n } := I.hok a _ h
    exact ⟨_, e, (by show Value.type "list" ≠ .type "tuple"; decide +kernel)⟩
  | ins C dx fs =>
    have x := I.hok a _ h
    obtain ⟨_, _, _, e, _⟩ := x
    exact ⟨_, e, (by show Value.ref C ≠ .type "tuple"; exact fun z => by cases z)⟩
  | _ => exact absurd (show false = true from p) Bool.false_ne_true
theorem op_is_ref : OpR X (compareOp .Is) (fun x y H Q => ∃ a b oa ob, x = .ref a ∧ y = .ref b ∧ H a = some oa ∧ isObj oa = true ∧ H b = some ob ∧ isObj ob = true ∧ Q (.bl (decide (a = b))) H) := by
  intro pins s σ H x y v u Q I rx ry h
  obtain ⟨a, b, oa, ob, rfl, rfl, ha, pa, hb, pb, q⟩ := h
  cases rx
  cases ry
  obtain ⟨o1, e1, n1⟩ := obj_there I ha pa
  obtain ⟨o2, e2, _⟩ := obj_there I hb pb
  by_cases z : a = b
  · subst z
    exact wpAny_is_ref_self (fin_bl I q (by simp))
  · exact wpAny_is_ref_other z e1 e2 n1 (fin_bl I q (by simp [z]))
theorem op_isnot_ref : OpR X (compareOp .IsNot) (fun x y H Q => ∃ a b oa ob, x = .ref a ∧ y = .ref b ∧ H a = some oa ∧ isObj oa = true ∧ H b = some ob ∧ isObj ob = true ∧ Q (.bl (!decide (a = b))) H) := by
  intro pins s σ H x y v u Q I rx ry h
  obtain ⟨a, b, oa, ob, rfl, rfl, ha, pa, hb, pb, q⟩ := h
  cases rx
  cases ry
  obtain ⟨o1, e1, n1⟩ := obj_there I ha pa
  obtain ⟨o2, e2, _⟩ := obj_there I hb pb
  by_cases z : a = b
  · subst z
    exact wpAny_isNot_ref_self (fin_bl I q (by simp))
  · exact wpAny_isNot_ref_other z e1 e2 n1 (fin_bl I q (by simp [z]))

/-- two rules for one operation: by cases -/
theorem OpR.or {f : Value → Value → Sem Value} {r r' : R2} (h : OpR X f r) (h' : OpR X f r') : OpR X f (fun x y H Q => r x y H Q ∨ r' x y H Q) := by
  intro pins s σ H x y v u Q I rx ry q
  rcases q with q | q
  · exact h pins s σ H x y v u Q I rx ry q
  · exact h' pins s σ H x y v u Q I rx ry q

theorem nomark (b : Expr) {op : CmpOp} (h : op ≠ .In := by decide) (h2 : op ≠ .NotIn := by decide) : behindInMarks op b = false := by
  have e1 : (op == CmpOp.In) = false := by cases op <;> first | rfl | exact absurd rfl h
  have e2 : (op == CmpOp.NotIn) = false := by cases op <;> first | rfl | exact absurd rfl h2
  cases b <;> simp [behindInMarks, e1, e2]
/-- a comparison as a value; hm: nomark b, or (for in, not in) by with_unfolding_all rfl -/
theorem pe_cmpR {op : CmpOp} {r : R2} (ho : OpR X (compareOp op) r) (ha : PE X a ta) (hb : PE X b tb) (hm : behindInMarks op b = false) : PE X (.Compare a [op] [b] pos) (tOp r ta tb) := by
  intro pins s σ H Q I h
  exact wpAny_Compare1 (binT ha hb I h fun v u s2 x y H2 I2 rx ry q => ho pins s2 σ H2 x y v u Q I2 rx ry q) hm
/-- a reading of a value as a test -/
def tTest (t : TE) : TT := fun σ H Q => t σ H fun x H' => ∃ k, x = .bl k ∧ Q k H'
theorem pt_cmpR {op : CmpOp} {r : R2} (ho : OpR X (compareOp op) r) (ha : PE X a ta) (hb : PE X b tb) (hm : behindInMarks op b = false) : PT X (.Compare a [op] [b] pos) (tTest (tOp r ta tb)) := by
  intro pins s σ H Q I h
  refine wpAny_isTrue_Compare1 (thn (ha pins s σ H _ I h) fun v s1 ⟨x, H1, I1, r1, q1⟩ => thn (hb pins s1 σ H1 _ I1 q1) fun u s2 ⟨y, H2, I2, r2, q2⟩ =>
    thn (ho pins s2 σ H2 x y v u _ I2 r1 r2 q2) fun c s3 ⟨z, H3, I3, r3, k, e, q3⟩ => ?_) hm
  subst e
  cases r3
  exact wpAny_truthy_bool ⟨H3, I3, q3⟩
/-- a op1 b op2 c -/
def tChain (r r' : R2) (ta tb tc : TE) : TE := fun σ H Q => ta σ H fun x H1 => tb σ H1 fun y H2 => r x y H2 fun z H3 => ∃ k, z = .bl k ∧
  (if k = true then tc σ H3 fun w' H4 => r' y w' H4 Q else Q (.bl false) H3)
theorem pe_chain {op op' : CmpOp} {r r' : R2} (ho : OpR X (compareOp op) r) (ho' : OpR X (compareOp op') r') (ha : PE X a ta) (hb : PE X b tb) (hc : PE X c tc)
    (hm : lastMarks [op, op'] [b, c] = false := by with_unfolding_all rfl) : PE X (.Compare a [op, op'] [b, c] pos) (tChain r r' ta tb tc) := by
  intro pins s σ H Q I h
  refine Compare_chain (thn (ha pins s σ H _ I h) fun v s1 ⟨x, H1, I1, r1, q1⟩ => chain_link (thn (hb pins s1 σ H1 _ I1 q1) fun u s2 ⟨y, H2, I2, r2, q2⟩ =>
    thn (ho pins s2 σ H2 x y v u _ I2 r1 r2 q2) fun d s3 ⟨z, H3, I3, r3, k, e, q3⟩ => ?_)) hm
  subst e
  cases r3
  refine wpAny_truthy_bool ?_
  cases k with
  | false => exact ite_ff ⟨.bl false, H3, I3, rfl, q3⟩
  | true => exact ite_tt (chain_last (thn (hc pins s3 σ H3 _ I3 q3) fun w' s4 ⟨z', H4, I4, r4, q4⟩ => ho' pins s4 σ H4 y z' u w' Q I4 r2 r4 q4))
theorem pt_chain {op op' : CmpOp} {r r' : R2} (ho : OpR X (compareOp op) r) (ho' : OpR X (compareOp op') r') (ha : PE X a ta) (hb : PE X b tb) (hc : PE X c tc)
    (hm : lastMarks [op, op'] [b, c] = false := by with_unfolding_all rfl) : PT X (.Compare a [op, op'] [b, c] pos) (tTest (tChain r r' ta tb tc)) := by
  intro pins s σ H Q I h
  refine isTrue_chain (thn (ha pins s σ H _ I h) fun v s1 ⟨x, H1, I1, r1, q1⟩ => test_link (thn (hb pins s1 σ H1 _ I1 q1) fun u s2 ⟨y, H2, I2, r2, q2⟩ =>
    thn (ho pins s2 σ H2 x y v u _ I2 r1 r2 q2) fun d s3 ⟨z, H3, I3, r3, k, e, q3⟩ => ?_)) hm
  subst e
  cases r3
  refine wpAny_truthy_bool ?_
  cases k with
  | false =>
    obtain ⟨k', e', q'⟩ := q3
    cases e'
    exact ite_ff ⟨H3, I3, q'⟩
  | true =>
    refine ite_tt (test_last (thn (hc pins s3 σ H3 _ I3 q3) fun w' s4 ⟨z', H4, I4, r4, q4⟩ => thn (ho' pins s4 σ H4 y z' u w' _ I4 r2 r4 q4) fun d' s5 ⟨z2, H5, I5, r5, k2, e2, q5⟩ => ?_))
    subst e2
    cases r5
    exact wpAny_truthy_bool ⟨H5, I5, q5⟩

/-! ### truth -/
/-- a value's truth by the abstract heap -/
def TruV (K : PySem.W.Frag) (x : V) (H : Hp) (k : Bool) : Prop :=
  match x with
  | .non => k = false
  | .bl b => k = b
  | .int i => k = (i != 0)
  | .str y => y.length ≤ sizeLine ∧ k = ((y.length : Int) != 0)
  | .byt y => y.size ≤ sizeLine ∧ k = ((y.size : Int) != 0)
  | .ref p => (∃ xs, SqL K H p xs ∧ k = !xs.isEmpty) ∨ (∃ xs, SqT K H p xs ∧ k = !xs.isEmpty) ∨ ∃ kvs, H p = some (.dK kvs) ∧ k = !kvs.isEmpty
  | _ => False
theorem isEmpty_kv {κ : Type} {kvs : List (κ × V)} {vs : List (κ × Value)} (r : KV kvs vs) : (!vs.isEmpty) = !kvs.isEmpty := by
  cases r <;> rfl
theorem isEmpty_of {xs : List V} {its : List Value} (r : Vals xs its) : (!its.toArray.isEmpty) = !xs.isEmpty := by
  cases r <;> simp
theorem line63 : (sizeLine : Nat) < 2 ^ 63 := by rw [sizeLine_eq]; decide
theorem tru_ok : TruR X (fun x H Q => ∃ k, TruV X.K x H k ∧ Q k H) := by
  intro pins s σ H x v Q I rx h
  obtain ⟨k, e, q⟩ := h
  have hl := line63
  have hs : sizeLine = 16777216 := sizeLine_eq
  cases x with
  | non =>
    cases rx
    have e' : k = false := e
    subst e'
    exact truthy_none ⟨H, I, q⟩
  | bl b =>
    cases rx
    have e' : k = b := e
    subst e'
    exact wpAny_truthy_bool ⟨H, I, q⟩
  | int i =>
    obtain ⟨t, rfl⟩ := rx
    have e' : k = (i != 0) := e
    subst e'
    exact PySem.P.truthy_int ⟨H, I, q⟩
  | str y =>
    obtain ⟨t, rfl⟩ := rx
    obtain ⟨hy, e'⟩ : y.length ≤ sizeLine ∧ k = ((y.length : Int) != 0) := e
    subst e'
    exact PySem.P.truthy_str (by omega) ⟨H, I.tok _, q⟩
  | byt y =>
    obtain ⟨t, rfl⟩ := rx
    obtain ⟨hy, e'⟩ : y.size ≤ sizeLine ∧ k = ((y.size : Int) != 0) := e
    subst e'
    exact PySem.W.truthy_bytes (by omega) ⟨H, I.tok _, q⟩
  | ref p =>
    cases rx
    have e' : (∃ xs, SqL X.K H p xs ∧ k = !xs.isEmpty) ∨ (∃ xs, SqT X.K H p xs ∧ k = !xs.isEmpty) ∨ ∃ kvs, H p = some (.dK kvs) ∧ k = !kvs.isEmpty := e
    rcases e' with ⟨xs, hx, e'⟩ | ⟨xs, hx, e'⟩ | ⟨kvs, hx, e'⟩
    · subst e'
      obtain ⟨its, r, pl, hz⟩ := I.list hx
      have hlen := r.length
      exact wpAny_truthy_list pl.isList (by simp only [List.size_toArray]; omega) ⟨H, I.tok _, by rw [isEmpty_of r]; exact q⟩
    · subst e'
      obtain ⟨its, r, pl, hz⟩ := I.tuple hx
      have hlen := r.length
      exact truthy_tuple pl (by simp only [List.size_toArray]; omega) ⟨H, I.tok _, by rw [isEmpty_of r]; exact q⟩
    · subst e'
      obtain ⟨hz, hS, vs, r, m⟩ : kvs.length ≤ sizeLine ∧ (p == sysModules) = false ∧ ∃ vs, KV kvs vs ∧ s.heap.DictOf (mixKind X.prog X.w) p vs := I.hok p _ hx
      have hlen : kvs.length = vs.length := Paired.length r
      exact wpAny_truthy_dict hS m (by omega) ⟨H, I.tok _, by rw [isEmpty_kv r]; exact q⟩
  | _ => exact (show False from e).elim
/-- any expression whose test is its value's truth (a name, a call, a subscript, a field ..: he by fun _ => rfl) -/
theorem pt_truth (ha : PE X a ta) (he : ∀ whole, isTrue a X.env whole = (do let v ← whole; standAt a.pos; holding [v] (truthy v))) :
    PT X a (fun σ H Q => ta σ H fun x H' => ∃ k, TruV X.K x H' k ∧ Q k H') := by
  intro pins s σ H Q I h
  exact isTrue_plain (thn (ha pins s σ H _ I h) fun v s1 ⟨x, H1, I1, r1, q1⟩ => tru_ok pins s1 σ H1 x v Q I1 r1 q1) (he _)

/-! ### strs and bytes -/
theorem pe_byt {x : List UInt8} {k : Nat} : PE X (.Constant (.bytes x) k pos) (fun _ H Q => Q (.byt x.toArray) H) := fun _ _ _ H _ I h => PySem.W.Constant_bytes ⟨.byt x.toArray, H, I.tok _, ⟨_, rfl⟩, h⟩
theorem op_add_str : OpR X (binaryOp .Add) (fun x y H Q => ∃ i j, x = .str i ∧ y = .str j ∧ i.length + j.length ≤ sizeLine ∧ Q (.str (i ++ j)) H) := by
  intro pins s σ H x y v u Q I rx ry h
  obtain ⟨i, j, rfl, rfl, hz, q⟩ := h
  obtain ⟨t, rfl⟩ := rx
  obtain ⟨t', rfl⟩ := ry
  exact add_str (fun t' tk => ⟨.str (i ++ j), H, I.tok _, ⟨_, rfl⟩, q⟩) hz
theorem iop_add_str : OpR X (inplaceOp .Add) (fun x y H Q => ∃ i j, x = .str i ∧ y = .str j ∧ i.length + j.length ≤ sizeLine ∧ Q (.str (i ++ j)) H) := by
  intro pins s σ H x y v u Q I rx ry h
  obtain ⟨i, j, rfl, rfl, hz, q⟩ := h
  obtain ⟨t, rfl⟩ := rx
  obtain ⟨t', rfl⟩ := ry
  exact iadd_str (fun t' tk => ⟨.str (i ++ j), H, I.tok _, ⟨_, rfl⟩, q⟩) hz
theorem op_add_byt : OpR X (binaryOp .Add) (fun x y H Q => ∃ i j, x = .byt i ∧ y = .byt j ∧ i.size + j.size ≤ 16777216 ∧ Q (.byt (i ++ j)) H) := by
  intro pins s σ H x y v u Q I rx ry h
  obtain ⟨i, j, rfl, rfl, hz, q⟩ := h
  obtain ⟨t, rfl⟩ := rx
  obtain ⟨t', rfl⟩ := ry
  exact PySem.W.KBy.add_bytes hz (fun t' tk => ⟨.byt (i ++ j), H, I.tok _, ⟨_, rfl⟩, q⟩)

def PlainIxT (b : Expr) : Prop := ∀ o i, subscripted b false o i = operate [o, i] (getItem o i)
/-- s[i], 0 ≤ i < len -/
theorem pe_item_str (ha : PE X a ta) (hb : PE X b tb) (hs : PlainIxT b) :
    PE X (.Subscript a b pos) (tOp (fun x y H Q => ∃ z i c, x = .str z ∧ y = .int i ∧ 0 ≤ i ∧ i < 2 ^ 63 ∧ i < z.length ∧ z.cps[i.toNat]? = some c ∧ Q (.str ⟨#[c]⟩) H) ta tb) := by
  intro pins s σ H Q I h
  refine Subscript_ (binT ha hb I h fun v u s2 x y H2 I2 rx ry q => ?_)
  obtain ⟨z, i, c, rfl, rfl, h0, h63, h1, hc, q⟩ := q
  obtain ⟨t, rfl⟩ := rx
  obtain ⟨t', rfl⟩ := ry
  have e : seqIndex? i z.length = some i.toNat := PySem.StrLaws.seqIndex_nonneg h0 h1
  exact tail_any (typeIs_str s2 z t) slot_str_getitem.lookup (getItem_str (c := c) (by
    have e1 : decide (i < -(2 ^ 63 : Int)) = false := decide_eq_false (by omega)
    have e2 : decide (i ≥ 2 ^ 63) = false := decide_eq_false (by omega)
    rw [e1, e2] <;> rfl) (by rw [e]; exact hc) ⟨.str ⟨#[c]⟩, H2, I2.tok _, ⟨_, rfl⟩, q⟩) (hs _ _)
/-- b[i], 0 ≤ i < len -/
theorem pe_item_byt (ha : PE X a ta) (hb : PE X b tb) (hs : PlainIxT b) :
    PE X (.Subscript a b pos) (tOp (fun x y H Q => ∃ (z : List UInt8) (i : Int), x = .byt z.toArray ∧ y = .int i ∧ z.length ≤ sizeLine ∧ 0 ≤ i ∧ i < z.length ∧ Q (.int ((z.getD i.toNat 0).toNat : Nat)) H) ta tb) := by
  intro pins s σ H Q I h
  refine Subscript_ (binT ha hb I h fun v u s2 x y H2 I2 rx ry q => ?_)
  obtain ⟨z, i, rfl, rfl, hz, h0, h1, q⟩ := q
  obtain ⟨t, rfl⟩ := rx
  obtain ⟨t', rfl⟩ := ry
  have hl : sizeLine = 16777216 := sizeLine_eq
  exact tail_any (PySem.W.typeIs_bytes s2 z.toArray t) PySem.W.FB.slot_bytes_getitem.lookup (PySem.W.getItem_bytes (by omega) h0 h1 ⟨.int ((z.getD i.toNat 0).toNat : Nat), H2, I2.tok _, ⟨_, rfl⟩, q⟩) (hs _ _)

/-! ### scalar builtins, by CallR -/
theorem vals1 {x : V} {us : List Value} (r : Vals [x] us) : ∃ u, us = [u] ∧ RelV x u := by
  cases r with
  | cons r1 r2 => cases r2; exact ⟨_, rfl, r1⟩
theorem vals2 {x y : V} {us : List Value} (r : Vals [x, y] us) : ∃ u w', us = [u, w'] ∧ RelV x u ∧ RelV y w' := by
  cases r with
  | cons r1 r2 =>
    cases r2 with
    | cons r3 r4 => cases r4; exact ⟨_, _, rfl, r1, r3⟩
theorem call_abs : CallR X (.builtin "abs") (fun xs H Q => ∃ i, xs = [.int i] ∧ Q (.int (if i < 0 then -i else i)) H) := by
  intro pins s σ H xs us Q I r h
  obtain ⟨i, rfl, q⟩ := h
  obtain ⟨u, rfl, t, rfl⟩ := vals1 r
  exact call_abs_int fun u tk => ⟨.int (if i < 0 then -i else i), H, I.tok _, ⟨_, rfl⟩, q⟩
theorem call_max2 (hc : X.calm = true) : CallR X (.builtin "max") (fun xs H Q => ∃ i j, xs = [.int i, .int j] ∧ Q (.int (if j > i then j else i)) H) := by
  intro pins s σ H xs us Q I r h
  obtain ⟨i, j, rfl, q⟩ := h
  obtain ⟨u, w', rfl, ⟨t, rfl⟩, ⟨t', rfl⟩⟩ := vals2 r
  refine max_two_ints (I.ok.hd hc) fun h' tk k => ⟨_, H, I.kept k, ?_, q⟩
  by_cases hj : j > i
  · rw [if_pos hj, if_pos hj]; exact ⟨_, rfl⟩
  · rw [if_neg hj, if_neg hj]; exact ⟨_, rfl⟩
theorem call_min2 (hc : X.calm = true) : CallR X (.builtin "min") (fun xs H Q => ∃ i j, xs = [.int i, .int j] ∧ Q (.int (if j < i then j else i)) H) := by
  intro pins s σ H xs us Q I r h
  obtain ⟨i, j, rfl, q⟩ := h
  obtain ⟨u, w', rfl, ⟨t, rfl⟩, ⟨t', rfl⟩⟩ := vals2 r
  refine min_two_ints (I.ok.hd hc) fun h' tk k => ⟨_, H, I.kept k, ?_, q⟩
  by_cases hj : j < i
  · rw [if_pos hj, if_pos hj]; exact ⟨_, rfl⟩
  · rw [if_neg hj, if_neg hj]; exact ⟨_, rfl⟩
theorem call_int1 : CallR X (.type "int") (fun xs H Q => (∃ i, xs = [.int i] ∧ Q (.int i) H) ∨ ∃ k, xs = [.bl k] ∧ Q (.int (if k then 1 else 0)) H) := by
  intro pins s σ H xs us Q I r h
  rcases h with ⟨i, rfl, q⟩ | ⟨k, rfl, q⟩
  · obtain ⟨u, rfl, t, rfl⟩ := vals1 r
    exact call_int_int ⟨.int i, H, I, ⟨_, rfl⟩, q⟩
  · obtain ⟨u, rfl, r1⟩ := vals1 r
    cases r1
    exact call_int_bool ⟨.int (if k then 1 else 0), H, I.tok _, ⟨_, rfl⟩, q⟩
theorem call_bool1 : CallR X (.type "bool") (fun xs H Q => (∃ i, xs = [.int i] ∧ Q (.bl (i != 0)) H) ∨ ∃ k, xs = [.bl k] ∧ Q (.bl k) H) := by
  intro pins s σ H xs us Q I r h
  rcases h with ⟨i, rfl, q⟩ | ⟨k, rfl, q⟩
  · obtain ⟨u, rfl, t, rfl⟩ := vals1 r
    exact call_bool_int ⟨.bl (i != 0), H, I, rfl, q⟩
  · obtain ⟨u, rfl, r1⟩ := vals1 r
    cases r1
    exact call_bool_bool ⟨.bl k, H, I, rfl, q⟩
theorem call_str_int : CallR X (.type "str") (fun xs H Q => ∃ i, xs = [.int i] ∧ i.natAbs.log2 < 1920 ∧ Q (.str (toString i)) H) := by
  intro pins s σ H xs us Q I r h
  obtain ⟨i, rfl, hz, q⟩ := h
  obtain ⟨u, rfl, t, rfl⟩ := vals1 r
  exact PySem.P.str_of_int hz ⟨.str _, H, I.tok _, ⟨_, rfl⟩, q⟩
theorem call_ord : CallR X (.builtin "ord") (fun xs H Q => ∃ x, xs = [.str x] ∧ x.length = 1 ∧ Q (.int (x.cps.getD 0 0 : Nat)) H) := by
  intro pins s σ H xs us Q I r h
  obtain ⟨x, rfl, hz, q⟩ := h
  obtain ⟨u, rfl, t, rfl⟩ := vals1 r
  exact ord_of_one hz ⟨.int _, H, I.tok _, ⟨_, rfl⟩, q⟩
theorem call_chr : CallR X (.builtin "chr") (fun xs H Q => ∃ i, xs = [.int i] ∧ 0 ≤ i ∧ i ≤ 1114111 ∧ Q (.str ⟨#[i.toNat]⟩) H) := by
  intro pins s σ H xs us Q I r h
  obtain ⟨i, rfl, h0, h1, q⟩ := h
  obtain ⟨u, rfl, t, rfl⟩ := vals1 r
  exact chr_of_range h0 h1 ⟨.str _, H, I.tok _, ⟨_, rfl⟩, q⟩
/-- len of a str, a bytes, a list, a tuple -/
def LenV (K : PySem.W.Frag) (x : V) (H : Hp) (n : Nat) : Prop :=
  match x with
  | .str y => y.length ≤ sizeLine ∧ n = y.length
  | .byt y => y.size ≤ sizeLine ∧ n = y.size
  | .ref p => (∃ xs, SqL K H p xs ∧ n = xs.length) ∨ ∃ xs, SqT K H p xs ∧ n = xs.length
  | _ => False
theorem call_len : CallR X (.builtin "len") (fun xs H Q => ∃ x n, xs = [x] ∧ LenV X.K x H n ∧ Q (.int n) H) := by
  intro pins s σ H xs us Q I r h
  obtain ⟨x, n, rfl, e, q⟩ := h
  obtain ⟨u, rfl, rx⟩ := vals1 r
  have hl := line63
  have hs : sizeLine = 16777216 := sizeLine_eq
  cases x with
  | str y =>
    obtain ⟨t, rfl⟩ := rx
    obtain ⟨hy, e'⟩ : y.length ≤ sizeLine ∧ n = y.length := e
    subst e'
    exact len_str (by omega) ⟨.int _, H, I.tok _, ⟨_, rfl⟩, q⟩
  | byt y =>
    obtain ⟨t, rfl⟩ := rx
    obtain ⟨hy, e'⟩ : y.size ≤ sizeLine ∧ n = y.size := e
    subst e'
    exact PySem.W.len_bytes (by omega) ⟨.int _, H, I.tok _, ⟨_, rfl⟩, q⟩
  | ref p =>
    cases rx
    have e' : (∃ xs, SqL X.K H p xs ∧ n = xs.length) ∨ ∃ xs, SqT X.K H p xs ∧ n = xs.length := e
    rcases e' with ⟨xs, hx, e'⟩ | ⟨xs, hx, e'⟩
    · subst e'
      obtain ⟨its, r', pl, hz⟩ := I.list hx
      have hlen := r'.length
      exact Calls.call_len_list pl.isList (by simp only [List.size_toArray]; omega) ⟨.int xs.length, H, I.tok _, ⟨_, by simp only [List.size_toArray]; rw [hlen]⟩, q⟩
    · subst e'
      obtain ⟨its, r', pl, hz⟩ := I.tuple hx
      have hlen := r'.length
      exact len_tuple pl (by simp only [List.size_toArray]; omega) ⟨.int xs.length, H, I.tok _, ⟨_, by simp only [List.size_toArray]; rw [hlen]⟩, q⟩
  | _ => exact (show False from e).elim
/-- divmod: a new tuple -/
theorem call_divmod : CallR X (.builtin "divmod") (fun xs H Q => ∃ i j, xs = [.int i, .int j] ∧ CDiv i j ∧ ∀ p, H p = none → Q (.ref p) (upd H p (.tup [.int (i / j), .int (i % j)]))) := by
  intro pins s σ H xs us Q I r h
  obtain ⟨i, j, rfl, ⟨h1, h2⟩, q⟩ := h
  obtain ⟨u, w', rfl, ⟨t, rfl⟩, ⟨t', rfl⟩⟩ := vals2 r
  refine divmod_int (by omega) ?_ (.inl (PyProof.noPylong_small (by omega)))
  rw [Int.fdiv_eq_ediv_of_nonneg i (by omega), Int.fmod_eq_emod_of_nonneg i (by omega)]
  have hn : H s.heap.objs.size = none := I.hok.fresh (Nat.le_refl _)
  refine ⟨.ref s.heap.objs.size, _, ?_, rfl, q _ hn⟩
  refine I.laid (fun b o e => Heap.get?_push_of_some _ e) (Nat.le_refl _) ⟨by simp only [List.length_cons, List.length_nil]; rw [sizeLine_eq]; decide, [.int (i / j) s.toks, .int (i % j) (s.toks + 1)], .cons ⟨_, rfl⟩ (.cons ⟨_, rfl⟩ .nil), ?_⟩
  exact ⟨_, Heap.get?_push_size s.heap rfl, rfl, 0, rfl⟩
end
end L2

namespace L2
open PySem PySem.Spec PyProof.Rows

/-! ### an instance, its attributes a map -/
structure ObjM (h : Heap) (x dx C : Addr) (mA : Str → Option Value) : Prop where
  obj : h.get? x = some (PySem.W.instObj C dx)
  ns : h.Ns1 dx mA
  ne : dx ≠ x

theorem lookIn_ns {h : Heap} {dx : Addr} {mA : Str → Option Value} (n : h.Ns1 dx mA) : ∃ od, h.get? dx = some od ∧ ∀ name, PySem.W.lookIn name od = some (mA name) := by
  obtain ⟨o, es, ep, ho, hd, hk, _, hm⟩ := n
  refine ⟨o, ho, fun name => ?_⟩
  have e := hm name
  unfold nsFind findBy at e
  rw [← Array.find?_toList] at e
  unfold PySem.W.lookIn
  rw [hd]
  dsimp only
  split
  · rename_i y q
    rw [q] at e
    exact congrArg some e
  · rename_i q
    rw [q] at e
    have a : es.toList.any (·.refKey) = false := by
      rw [List.any_eq_false]
      intro y hy
      obtain ⟨z, t, hkey⟩ := hk y (Array.mem_toList_iff.mp hy)
      simp [DictEntry.refKey, hkey]
    have a' : ¬ es.toList.any (·.refKey) = true := by rw [a]; exact Bool.false_ne_true
    rw [if_neg a']
    exact congrArg some e

theorem ObjM.look {h : Heap} {x dx C : Addr} {mA : Str → Option Value} (I : ObjM h x dx C mA) : ∃ od, PySem.W.InstAt h x (PySem.W.instObj C dx) C (some od) ∧ ∀ name, PySem.W.lookIn name od = some (mA name) :=
  let ⟨od, ho, hl⟩ := lookIn_ns I.ns
  ⟨od, ⟨I.obj, rfl, rfl, ho⟩, hl⟩

section
variable {prog : Program} {w : World} {A : Around} {E : Value → Shared → Prop} {s : Shared} {K : PySem.W.Frag} {x dx C f : Addr} {mA : Str → Option Value} {name : Str} {v : Value}

theorem get_map {expr : Bool} {Q : Value → Shared → Prop} (X : K.In s.heap) (I : ObjM s.heap x dx C mA) (hg : PySem.W.plainGet K C name = true) (hh : PySem.W.hasDictIn K C = true)
    (ha : PySem.W.findIn K (.ref C) name = some none) (hv : mA name = some v) (hv' : PySem.W.handedIn v = true) (h : Q v { s with toks := s.toks + 1 }) :
    wpAny (model prog w) A (getAttr (.ref x) name expr) Q E s := by
  obtain ⟨od, J, hl⟩ := I.look
  exact PySem.W.get_value X J (PySem.W.plainGet_of hg).1 (PySem.W.findObj_own hh ha rfl (by rw [hl, hv])) hv' h

theorem get_const {expr : Bool} {a : Value} {Q : Value → Shared → Prop} (X : K.In s.heap) (I : ObjM s.heap x dx C mA) (hg : PySem.W.plainGet K C name = true) (hh : PySem.W.hasDictIn K C = true)
    (ha : PySem.W.findIn K (.ref C) name = some (some a)) (hn : PySem.W.specialIn K a "__get__" = some none) (hc : PySem.W.copiedNames.contains name = false) (hv : mA name = none) (hv' : PySem.W.handedIn a = true)
    (h : Q a { s with toks := s.toks + 1 }) : wpAny (model prog w) A (getAttr (.ref x) name expr) Q E s := by
  obtain ⟨od, J, hl⟩ := I.look
  exact PySem.W.get_value X J (PySem.W.plainGet_of hg).1 (PySem.W.findObj_cls hh ha hn hv' hc (by rw [hl, hv])) hv' h

theorem get_meth {pl : Sem Bool} {Q : Value × List Value → Shared → Prop} (X : K.In s.heap) (I : ObjM s.heap x dx C mA) (hg : PySem.W.plainGet K C name = true)
    (hf : PySem.W.findIn K (.ref C) name = some (some (.ref f))) (ht : PySem.W.isFn K (.ref f) = true) (hv : mA name = none) (h : Q (.ref f, [.ref x]) s) :
    wpAny (model prog w) A (getMethod (.ref x) name pl) Q E s := by
  obtain ⟨od, J, hl⟩ := I.look
  exact PySem.W.method_fn X J (PySem.W.plainGet_of hg).1 (PySem.W.plainGet_of hg).2 hf (beq_iff_eq.mp ht) (by show (PySem.W.lookIn name od).map (·.isSome) = some false; rw [hl, hv]; rfl) h

theorem set_map {ns : List Str} {Q : Unit → Shared → Prop} (X : K.In s.heap) (I : ObjM s.heap x dx C mA)
    (hs : PySem.W.findIn K (.ref C) "__setattr__" = some (some (.builtin "object.__setattr__"))) (hp : PySem.W.plainOver K C = true) (ht : PySem.W.takerIn K C name = some none) (hh : PySem.W.hasDictIn K C = true)
    (hw : PySem.Within mA ns) (hsz : ns.length ≤ sizeLine)
    (h : ∀ h', ObjM h' x dx C (fun y => if y = name then some v else mA y) → Heap.SameBut dx s.heap h' → Q () { s with heap := h', toks := s.toks + 2 }) :
    wpAny (model prog w) A (setAttr (.ref x) name v) Q E s := by
  obtain ⟨od, J, hl⟩ := I.look
  refine PySem.W.set_plain X J hs (PySem.W.osa_open (s := { s with toks := s.toks + 1 }) (r := none) X J hp ht fun b => ?_)
  obtain ⟨cd, hc, hd'⟩ := PySem.W.any_some hh
  have hx : s.heap.get? x = some ⟨.ref C, some dx, .plain, #[]⟩ := I.obj
  refine wpAny_bind (wpAny_pure (wpAny_bind (wpAny_bind (wpAny_loadPart hx (wpAny_bind (PySem.W.Looks.here (s := { s with toks := s.toks + 1 }) (PySem.W.looks_clsIn X hc) ?_))))))
  rw [hd']
  refine wpAny_pure (a := some dx) (wpAny_bind (wpAny_pure (wpAny_bind ?_)))
  refine wpAny_nsSet1 (s := { s with toks := s.toks + 1 }) I.ns fun h' hn2 hs2 => ?_
  obtain ⟨oD, esD, epD, hoD, hdD, hcD⟩ := hn2.count (PySem.Within.cons name v hw)
  refine wpAny_bind (wpAny_lookBehind hoD (by rw [hdD]; exact pastItsLine_dict (Nat.le_trans hcD (by rw [List.length_cons]; omega))) ?_)
  exact wpAny_pure (h _ ⟨(hs2.2 _ (Ne.symm I.ne)).trans I.obj, hn2, I.ne⟩ hs2)

/-- C(..): the dict at the heap's end, the instance behind it; then its __init__ -/
theorem make_map {R : Result → Shared → Prop} {vs : List Value} {kw : List (Str × Value)} (X : K.In s.heap) (hm : PySem.W.makesIn K C = true)
    (hi : PySem.W.findIn K (.ref C) "__init__" = some (some (.ref f))) (hf : PySem.W.typeIn K (.ref f) = some (.type "function"))
    (h : codeAny (model prog w) (A.under (.builtin "type.__call__" ⟨.ref C :: vs, kw⟩)) (.call (.ref f) ⟨.ref (s.heap.objs.size + 1) :: vs, kw⟩) (PySem.W.InitBack (s.heap.objs.size + 1) R)
      { s with heap := (s.heap.push PySem.W.emptyDict).push (PySem.W.instObj C s.heap.objs.size) }) :
    codeAny (model prog w) A (.call (.ref C) ⟨vs, kw⟩) R s := by
  obtain ⟨hh, g, d, t, os⟩ := s
  exact PySem.W.make_core (PySem.W.makes_of X hm) (PySem.W.looks_findIn X hi) (fun self => PySem.W.bind_fn X self hf) (.inl rfl) h
/-- C() where there is no __init__ but object's -/
theorem make_map0 {R : Result → Shared → Prop} (X : K.In s.heap) (hm : PySem.W.makesIn K C = true)
    (hi : PySem.W.findIn K (.ref C) "__init__" = some (some (.builtin "object.__init__")))
    (hb : ∀ self, PySem.W.Looks (model prog w) s.heap (bindSpecial (.builtin "object.__init__") self) (.builtin "object.__init__", [self]))
    (h : codeAny (model prog w) (A.under (.builtin "type.__call__" ⟨[.ref C], []⟩)) (.call (.builtin "object.__init__") ⟨[.ref (s.heap.objs.size + 1)], []⟩) (PySem.W.InitBack (s.heap.objs.size + 1) R)
      { s with heap := (s.heap.push PySem.W.emptyDict).push (PySem.W.instObj C s.heap.objs.size) }) :
    codeAny (model prog w) A (.call (.ref C) ⟨[], []⟩) R s := by
  obtain ⟨hh, g, d, t, os⟩ := s
  exact PySem.W.make_core (PySem.W.makes_of X hm) (PySem.W.looks_findIn X hi) hb (.inr ⟨rfl, rfl⟩) h
end

/-! ### the attributes as a list of pairs -/
def putF (f : Str) (v : V) : List (Str × V) → List (Str × V)
  | [] => [(f, v)]
  | (g, x) :: r => if g = f then (g, v) :: r else (g, x) :: putF f v r
theorem lookup_putF (f g : Str) (v : V) : ∀ fs : List (Str × V), (putF f v fs).lookup g = if g = f then some v else fs.lookup g
  | [] => by
    show List.lookup g [(f, v)] = _
    by_cases h : g = f
    · have hb : (g == f) = true := beq_iff_eq.mpr h
      simp only [List.lookup, hb, if_pos h]
    · have hb : (g == f) = false := beq_eq_false_iff_ne.mpr h
      simp only [List.lookup, hb, if_neg h]
  | (k, x) :: r => by
    have ih := lookup_putF f g v r
    rw [show putF f v ((k, x) :: r) = (if k = f then (k, v) :: r else (k, x) :: putF f v r) from rfl]
    by_cases hk : k = f
    · rw [if_pos hk]
      by_cases h : g = k
      · have hb : (g == k) = true := beq_iff_eq.mpr h
        simp only [List.lookup, hb, if_pos (h.trans hk)]
      · have hb : (g == k) = false := beq_eq_false_iff_ne.mpr h
        simp only [List.lookup, hb, if_neg (fun e : g = f => h (e.trans hk.symm))]
    · rw [if_neg hk]
      by_cases h : g = k
      · have hb : (g == k) = true := beq_iff_eq.mpr h
        simp only [List.lookup, hb, if_neg (fun e : g = f => hk (h.symm.trans e))]
      · have hb : (g == k) = false := beq_eq_false_iff_ne.mpr h
        simp only [List.lookup, hb]
        exact ih
theorem keys_putF (f : Str) (v : V) : ∀ fs : List (Str × V), f ∈ (putF f v fs).map (·.1) ∧ ∀ g, g ∈ fs.map (·.1) → g ∈ (putF f v fs).map (·.1)
  | [] => ⟨by simp [putF], fun g h => by simp at h⟩
  | (k, x) :: r => by
    obtain ⟨i1, i2⟩ := keys_putF f v r
    rw [show putF f v ((k, x) :: r) = (if k = f then (k, v) :: r else (k, x) :: putF f v r) from rfl]
    by_cases hk : k = f
    · rw [if_pos hk]
      subst hk
      exact ⟨by simp, fun g h => by simpa using h⟩
    · rw [if_neg hk]
      refine ⟨?_, fun g h => ?_⟩
      · rw [List.map_cons]
        exact List.mem_cons_of_mem _ i1
      · rw [List.map_cons] at h ⊢
        rcases List.mem_cons.mp h with e | e
        · exact List.mem_cons.mpr (.inl e)
        · exact List.mem_cons_of_mem _ (i2 g e)
theorem length_putF (f : Str) (v : V) : ∀ fs : List (Str × V), (putF f v fs).length ≤ fs.length + 1
  | [] => by simp [putF]
  | (k, x) :: r => by
    have ih := length_putF f v r
    rw [show putF f v ((k, x) :: r) = (if k = f then (k, v) :: r else (k, x) :: putF f v r) from rfl]
    by_cases hk : k = f
    · rw [if_pos hk, List.length_cons, List.length_cons]; omega
    · rw [if_neg hk, List.length_cons, List.length_cons]; omega

theorem RelO.some_of {v : V} {o : Option Value} (r : RelO (some v) o) : ∃ u, o = some u ∧ RelV v u := by
  cases o with
  | none => exact (show False from r).elim
  | some u => exact ⟨u, rfl, r⟩
theorem RelO.none_of {o : Option Value} (r : RelO none o) : o = none := by
  cases o with
  | none => rfl
  | some u => exact (show False from r).elim
theorem handed_of {v : V} {u : Value} (r : RelV v u) : PySem.W.handedIn u = true := by
  cases v with
  | non => cases (show u = Value.none from r); rfl
  | bl b => cases (show u = Value.bool b from r); rfl
  | int i => obtain ⟨t, e⟩ := (show ∃ t, u = Value.int i t from r); cases e; rfl
  | str x => obtain ⟨t, e⟩ := (show ∃ t, u = Value.str x t from r); cases e; rfl
  | byt b => obtain ⟨t, e⟩ := (show ∃ t, u = Value.bytes b t from r); cases e; rfl
  | flt b => obtain ⟨t, e⟩ := (show ∃ t, u = Value.float b t from r); cases e; rfl
  | ref a => cases (show u = Value.ref a from r); rfl
  | ty n => cases (show u = Value.type n from r); rfl

section
variable {P : Program} {w : World} {H H' : Hp} {h h' : Heap} {a C dx : Addr} {fs fs' : List (Str × V)}
theorem ins_get (hok : HOk P w H h) (e : H a = some (.ins C dx fs)) : ∃ mA, ObjM h a dx C mA ∧ (∀ f, RelO (fs.lookup f) (mA f)) ∧ PySem.Within mA (fs.map (·.1)) ∧ fs.length ≤ 1000 ∧ H dx = some (.own a) := by
  obtain ⟨d, z, ne, ob, mA, n, r, q⟩ := (show ObjOk P w H h a (.ins C dx fs) from hok a _ e)
  exact ⟨mA, ⟨ob, n, ne⟩, r, q, z, d⟩
end

/-! ### what of the text a class must have -/
structure Cls (K : PySem.W.Frag) (C : Addr) : Prop where
  pg : PySem.W.plainGet K C Str.empty = true
  hd : PySem.W.hasDictIn K C = true
  po : PySem.W.plainOver K C = true
  sa : PySem.W.findIn K (.ref C) "__setattr__" = some (some (.builtin "object.__setattr__"))
theorem Cls.get {K : PySem.W.Frag} {C : Addr} (c : Cls K C) (f : Str) : PySem.W.plainGet K C f = true := c.pg
/-- no class of it has the name -/
def NoAttr (K : PySem.W.Frag) (C : Addr) (f : Str) : Prop := PySem.W.findIn K (.ref C) f = some none
theorem NoAttr.taker {K : PySem.W.Frag} {C : Addr} {f : Str} (n : NoAttr K C f) : PySem.W.takerIn K C f = some none := by
  unfold PySem.W.takerIn
  rw [show PySem.W.findIn K (.ref C) f = some none from n]
  rfl
/-- a constant of the class -/
structure Con (K : PySem.W.Frag) (C : Addr) (f : Str) (v : V) (u : Value) : Prop where
  at_ : PySem.W.findIn K (.ref C) f = some (some u)
  rel : RelV v u
  get : PySem.W.specialIn K u "__get__" = some none
  cp : PySem.W.copiedNames.contains f = false
/-- a method: a plain def of the class or of one above it -/
structure Meth (K : PySem.W.Frag) (C : Addr) (m : Str) (f : Addr) : Prop where
  at_ : PySem.W.findIn K (.ref C) m = some (some (.ref f))
  fn : PySem.W.isFn K (.ref f) = true
  kp : PySem.W.keepIn K (.ref f) = true

section
variable {X : Cx} {pins : List (Addr × Obj)} {σ : St} {H : Hp} {s : Shared} {a C dx : Addr} {fs : List (Str × V)} {f : Str} {v : V} {A : Around} {E : Value → Shared → Prop}

theorem getattr_ok {b : Bool} {Q : Value → Shared → Prop} (I : Inv X pins σ H s) (e : H a = some (.ins C dx fs)) (c : Cls X.K C) (n : NoAttr X.K C f) (l : fs.lookup f = some v)
    (h : ∀ u s', Inv X pins σ H s' → RelV v u → Q u s') : wpAny (model X.prog X.w) A (getAttr (.ref a) f b) Q E s := by
  obtain ⟨mA, O, r, _, _, _⟩ := ins_get I.hok e
  obtain ⟨u, hu, ru⟩ := RelO.some_of (v := v) (o := mA f) (by rw [← l]; exact r f)
  exact get_map I.kIn O (c.get f) c.hd n hu (handed_of ru) (h u _ (I.tok _) ru)

theorem getcon_ok {b : Bool} {u : Value} {Q : Value → Shared → Prop} (I : Inv X pins σ H s) (e : H a = some (.ins C dx fs)) (c : Cls X.K C) (k : Con X.K C f v u) (l : fs.lookup f = none)
    (h : ∀ s', Inv X pins σ H s' → Q u s') : wpAny (model X.prog X.w) A (getAttr (.ref a) f b) Q E s := by
  obtain ⟨mA, O, r, _, _, _⟩ := ins_get I.hok e
  have hn : mA f = none := RelO.none_of (by rw [← l]; exact r f)
  exact get_const I.kIn O (c.get f) c.hd k.at_ k.get k.cp hn (handed_of k.rel) (h _ (I.tok _))

theorem getmeth_ok {m : Str} {g : Addr} {pl : Sem Bool} {Q : Value × List Value → Shared → Prop} (I : Inv X pins σ H s) (e : H a = some (.ins C dx fs)) (c : Cls X.K C) (k : Meth X.K C m g) (l : fs.lookup m = none)
    (h : Q (.ref g, [.ref a]) s) : wpAny (model X.prog X.w) A (getMethod (.ref a) m pl) Q E s := by
  obtain ⟨mA, O, r, _, _, _⟩ := ins_get I.hok e
  have hn : mA m = none := RelO.none_of (by rw [← l]; exact r m)
  exact get_meth I.kIn O (c.get m) k.at_ k.fn hn h

theorem setattr_ok {y : V} {u : Value} {Q : Unit → Shared → Prop} (I : Inv X pins σ H s) (e : H a = some (.ins C dx fs)) (c : Cls X.K C) (n : NoAttr X.K C f) (hl : fs.length < 1000) (ry : RelV y u)
    (h : ∀ s', Inv X pins σ (upd H a (.ins C dx (putF f y fs))) s' → Q () s') : wpAny (model X.prog X.w) A (setAttr (.ref a) f u) Q E s := by
  obtain ⟨mA, O, r, wi, _, ho⟩ := ins_get I.hok e
  have hz : (fs.map (·.1)).length ≤ sizeLine := by rw [List.length_map, sizeLine_eq]; omega
  refine set_map I.kIn O c.sa c.po n.taker c.hd wi hz fun h' O' sb => h _ ?_
  have hd : ∃ o, h'.get? dx = some o := let ⟨o, _, _, e', _⟩ := O'.ns; ⟨o, e'⟩
  refine I.write (x := a) (e := dx) (by rw [e]; exact True.intro) (.inr ho) (fun b q hb z => (sb.2 b hb).trans z) hd ?_
  refine ⟨by rw [upd_ne O.ne]; exact ho, ?_, O.ne, O'.obj, _, O'.ns, fun g => ?_, fun g hg => ?_⟩
  · have := length_putF f y fs; omega
  · show RelO ((putF f y fs).lookup g) (if g = f then some u else mA g)
    rw [lookup_putF]
    by_cases q : g = f
    · rw [if_pos q, if_pos q]; exact ry
    · rw [if_neg q, if_neg q]; exact r g
  · by_cases q : g = f
    · rw [q]; exact (keys_putF f y fs).1
    · refine (keys_putF f y fs).2 g (wi g fun z => hg ?_)
      show (if g = f then some u else mA g) = none
      rw [if_neg q]; exact z

/-- a new instance, tracked, without attributes -/
theorem Inv.made (I : Inv X pins σ H s) : Inv X pins σ (upd (upd H s.heap.objs.size (.own (s.heap.objs.size + 1))) (s.heap.objs.size + 1) (.ins C s.heap.objs.size []))
    { s with heap := (s.heap.push PySem.W.emptyDict).push (PySem.W.instObj C s.heap.objs.size) } := by
  have e1 : (s.heap.push PySem.W.emptyDict).get? s.heap.objs.size = some PySem.W.emptyDict := Heap.get?_push_size s.heap rfl
  have e2 : ((s.heap.push PySem.W.emptyDict).push (PySem.W.instObj C s.heap.objs.size)).get? (s.heap.objs.size + 1) = some (PySem.W.instObj C s.heap.objs.size) := by
    have := Heap.get?_push_size (s.heap.push PySem.W.emptyDict) (o := PySem.W.instObj C s.heap.objs.size) rfl
    rwa [Heap.size_push] at this
  have e3 : (s.heap.push PySem.W.emptyDict).Ns s.heap.objs.size (fun _ => none) := ⟨PySem.W.emptyDict, #[], _, e1, rfl, (fun e he => absurd he (by simp)), fun _ => rfl⟩
  have I1 := I.laid (a := s.heap.objs.size) (o := .own (s.heap.objs.size + 1)) (h' := s.heap.push PySem.W.emptyDict) (t' := s.toks) (fun b u q => Heap.get?_push_of_some _ q) (Nat.le_refl _) ⟨_, e1⟩
  refine I1.laid (a := s.heap.objs.size + 1) (o := .ins C s.heap.objs.size []) (t' := s.toks) (fun b u q => Heap.get?_push_of_some _ q) (Nat.le_of_eq (Heap.size_push _ _)) ?_
  have ne : s.heap.objs.size ≠ s.heap.objs.size + 1 := Nat.ne_of_lt (Nat.lt_succ_self _)
  refine ⟨by rw [upd_ne ne, upd_same], Nat.zero_le _, ne, e2, fun _ => none, (Heap.Ns1.of_empty e3).at fun o q => Heap.get?_push_of_some _ q, fun _ => True.intro, fun y hy => absurd rfl hy⟩

/-- e.f where nothing but the object is asked: through attributeBase (super) and the last hold -/
theorem attr_of {prog : Program} {w : World} {env : Env} {e : Expr} {f : Str} {pos : Pos} {s : Shared} {Q : Value → Shared → Prop} (hb : attributeBase e f env (eval e env) = eval e env)
    (h : wpAny (model prog w) A (eval e env) (fun o s₁ => wpAny (model prog w) A (getAttr o f true) Q E s₁) E s) : wpAny (model prog w) A (eval (.Attribute e f pos) env) Q E s :=
  Attribute_any_ h (by rw [arm_eval_Attribute, hb])
end

/-! ### readings and rules -/
/-- e.f, an attribute of the instance -/
def tFld (K : PySem.W.Frag) (ta : TE) (f : Str) : TE := fun σ H Q => ta σ H fun x H1 => ∃ a C dx fs v, x = .ref a ∧ H1 a = some (.ins C dx fs) ∧ Cls K C ∧ NoAttr K C f ∧ fs.lookup f = some v ∧ Q v H1
/-- e.f, a constant of the class -/
def tCon (K : PySem.W.Frag) (ta : TE) (f : Str) : TE := fun σ H Q => ta σ H fun x H1 => ∃ a C dx fs v u, x = .ref a ∧ H1 a = some (.ins C dx fs) ∧ Cls K C ∧ Con K C f v u ∧ fs.lookup f = none ∧ Q v H1
/-- e.f = value -/
def sFld (K : PySem.W.Frag) (ta tv : TE) (f : Str) : TS := fun D σ H => tv σ H fun y H1 => ta σ H1 fun x H2 => ∃ a C dx fs, x = .ref a ∧ H2 a = some (.ins C dx fs) ∧ Cls K C ∧ NoAttr K C f ∧ fs.length < 1000 ∧
  D.nx σ (upd H2 a (.ins C dx (putF f y fs)))
/-- an augmented operator on two values -/
def InOp (X : Cx) (op : Operator) (rd : V → V → Hp → VK → Prop) : Prop :=
  ∀ (pins : List (Addr × Obj)) (s : Shared) (σ : St) (H : Hp) (x y : V) (u v : Value) (Q : VK), Inv X pins σ H s → RelV x u → RelV y v → rd x y H Q → wpAny (model X.prog X.w) X.A (inplaceOp op u v) (EP X pins σ Q) X.xe s
/-- e.f op= value -/
def sFldAug (K : PySem.W.Frag) (ta tv : TE) (rd : V → V → Hp → VK → Prop) (f : Str) : TS := fun D σ H => ta σ H fun x H1 => ∃ a C dx fs v, x = .ref a ∧ H1 a = some (.ins C dx fs) ∧ Cls K C ∧ NoAttr K C f ∧ fs.lookup f = some v ∧
  tv σ H1 fun y H2 => rd v y H2 fun z H3 => ∃ dx' fs', H3 a = some (.ins C dx' fs') ∧ fs'.length < 1000 ∧ D.nx σ (upd H3 a (.ins C dx' (putF f z fs')))

section
variable {X : Cx} {o e value : Expr} {f : Str} {pos pos' tpos : Pos} {ta tv : TE}
theorem pe_fld (he : PE X e ta) (hb : attributeBase e f X.env (eval e X.env) = eval e X.env) : PE X (.Attribute e f pos) (tFld X.K ta f) := by
  intro pins s σ H Q I h
  refine attr_of hb (thn (he pins s σ H _ I h) fun u s1 ⟨x, H1, I1, rx, a, C, dx, fs, v, ex, ea, c, n, l, q⟩ => ?_)
  subst ex
  obtain rfl : u = Value.ref a := rx
  exact getattr_ok I1 ea c n l fun u' s2 I2 ru => ⟨v, H1, I2, ru, q⟩
theorem pe_con (he : PE X e ta) (hb : attributeBase e f X.env (eval e X.env) = eval e X.env) : PE X (.Attribute e f pos) (tCon X.K ta f) := by
  intro pins s σ H Q I h
  refine attr_of hb (thn (he pins s σ H _ I h) fun u s1 ⟨x, H1, I1, rx, a, C, dx, fs, v, u0, ex, ea, c, k, l, q⟩ => ?_)
  subst ex
  obtain rfl : u = Value.ref a := rx
  exact getcon_ok I1 ea c k l fun s2 I2 => ⟨v, H1, I2, k.rel, q⟩
theorem ps_fld (ha : PE X o ta) (hv : PE X value tv) (hs : swapsWith value (some (.Attribute o f pos')) pos.line X.env = pure false) : PS X (.Assign [.Attribute o f pos'] value pos) (sFld X.K ta tv f) := by
  intro pins s σ H D I h
  refine plainObj_wpAny_Assign_Attribute (thn (hv pins s σ H _ I h) fun u s1 ⟨y, H1, I1, ry, q⟩ => thn (ha pins s1 σ H1 _ I1 q) fun ov s2 ⟨x, H2, I2, rx, a, C, dx, fs, ex, ea, c, n, l, q2⟩ => ?_) hs
  subst ex
  obtain rfl : ov = Value.ref a := rx
  exact setattr_ok I2 ea c n l ry fun s3 I3 => ⟨σ, _, I3, q2⟩
theorem ps_fldaug {op : Operator} {rd : V → V → Hp → VK → Prop} (ha : PE X o ta) (hv : PE X value tv) (hop : InOp X op rd) : PS X (.AugAssign (.Attribute o f tpos) op value pos) (sFldAug X.K ta tv rd f) := by
  intro pins s σ H D I h
  refine wpAny_AugAssign_AttributeAny (thn (ha pins s σ H _ I h) fun ov s1 ⟨x, H1, I1, rx, a, C, dx, fs, v, ex, ea, c, n, l, q⟩ => ?_)
  subst ex
  obtain rfl : ov = Value.ref a := rx
  refine getattr_ok I1 ea c n l fun u s2 I2 ru => thn (hv pins s2 σ H1 _ I2 q) fun w3 s3 ⟨y, H2, I3, ry, q3⟩ => thn (hop pins s3 σ H2 v y u w3 _ I3 ru ry q3) fun w4 s4 ⟨z, H3, I4, rz, dx', fs', ea', l', q4⟩ => ?_
  exact setattr_ok I4 ea' c n l' rz fun s5 I5 => ⟨σ, _, I5, q4⟩
def rAdd : V → V → Hp → VK → Prop := fun x y H Q => ∃ i j, x = .int i ∧ y = .int j ∧ Q (.int (i + j)) H
def rSub : V → V → Hp → VK → Prop := fun x y H Q => ∃ i j, x = .int i ∧ y = .int j ∧ Q (.int (i - j)) H
theorem in_add : InOp X .Add rAdd := by
  rintro pins s σ H x y u v Q I rx ry ⟨i, j, rfl, rfl, q⟩
  obtain ⟨t, rfl⟩ := (show ∃ t, u = Value.int i t from rx)
  obtain ⟨t', rfl⟩ := (show ∃ t', v = Value.int j t' from ry)
  exact PyProof.Rows.iadd_int ⟨.int (i + j), H, I.tok _, ⟨_, rfl⟩, q⟩
theorem in_sub : InOp X .Sub rSub := by
  rintro pins s σ H x y u v Q I rx ry ⟨i, j, rfl, rfl, q⟩
  obtain ⟨t, rfl⟩ := (show ∃ t, u = Value.int i t from rx)
  obtain ⟨t', rfl⟩ := (show ∃ t', v = Value.int j t' from ry)
  exact PyProof.Rows.isub_int ⟨.int (i - j), H, I.tok _, ⟨_, rfl⟩, q⟩

/-- what is between an instance and its method: the tree of a method call -/
theorem methcall_of {pl : Sem Bool} {m : Str} {apos : Pos} {args : List Expr} {pins : List (Addr × Obj)} {s : Shared} {σ : St} {H : Hp} {Q : Value → Shared → Prop} {te : TE} (he : PE X e te) (I : Inv X pins σ H s)
    (h : te σ H fun x H1 => ∃ a C dx fs g, x = .ref a ∧ H1 a = some (.ins C dx fs) ∧ Cls X.K C ∧ Meth X.K C m g ∧ fs.lookup m = none ∧
      ∀ s1, Inv X pins σ H1 s1 → wpAny (model X.prog X.w) X.A (callWith pos (.ref g) [.ref a] (backTo pos (starEach args X.env)) (backToKw pos (keywordEach [] X.env))) Q X.xe s1)
    (ht : eval (.Call (.Attribute e m apos) args [] pos) X.env = (do
      let ov ← eval e X.env
      standAt apos.atName
      let (f, first) ← holding [ov] (getMethod ov m pl)
      callWith pos f first (backTo pos (starEach args X.env)) (backToKw pos (keywordEach [] X.env)))) :
    wpAny (model X.prog X.w) X.A (eval (.Call (.Attribute e m apos) args [] pos) X.env) Q X.xe s := by
  refine PySem.W.methodCall_KW (pl := pl) (thn (he pins s σ H _ I h) fun u s1 ⟨x, H1, I1, rx, a, C, dx, fs, g, ex, ea, c, k, l, q⟩ => ?_) ht
  subst ex
  obtain rfl : u = Value.ref a := rx
  exact getmeth_ok I1 ea c k l (q s1 I1)
end

/-! ### isinstance -/
section
variable {X : Cx} {pins : List (Addr × Obj)} {σ : St} {H : Hp} {s : Shared} {A : Around} {E : Value → Shared → Prop} {Q : Value → Shared → Prop} {c : Value} {b : Bool}
/-- the type of a value, as the fragment's deciders take it; for an instance its class -/
inductive TyOf (K : PySem.W.Frag) (H : Hp) : V → Value → Prop where
  | non : TyOf K H .non (.type "NoneType")
  | bl (x : Bool) : TyOf K H (.bl x) (.type "bool")
  | int (i : Int) : TyOf K H (.int i) (.type "int")
  | str (x : Str) : TyOf K H (.str x) (.type "str")
  | flt (x : UInt64) : TyOf K H (.flt x) (.type "float")
  | lst {a : Addr} {xs : List V} (e : H a = some (.lst xs)) : TyOf K H (.ref a) (.type "list")
  | frz {a : Addr} {o : Obj} {xs : List V} (e : H a = some (.frz o (.lst xs))) : TyOf K H (.ref a) (.type "list")
  | tup {a : Addr} {xs : List V} (e : H a = some (.tup xs)) : TyOf K H (.ref a) (.type "tuple")
  | dK {a : Addr} {kvs : List (Key × V)} (e : H a = some (.dK kvs)) : TyOf K H (.ref a) (.type "dict")
  | dT {a : Addr} {kvs : List (List Key × V)} (e : H a = some (.dT kvs)) : TyOf K H (.ref a) (.type "dict")
  | ins {a C dx : Addr} {fs : List (Str × V)} (e : H a = some (.ins C dx fs)) (cl : Cls K C) (ha : PySem.W.findIn K (.ref C) "__class__" = some (some (.builtin "object.__class__")))
      (hn : PySem.W.specialIn K (.builtin "object.__class__") "__get__" = some (some (.builtin "getset_descriptor.__get__"))) (htk : PySem.W.takesIn K (.builtin "object.__class__") = some true)
      (hm : PySem.W.mroIn K C (.type "object") = some true) : TyOf K H (.ref a) (.ref C)
/-- isinstance(x, c) for one class c, a built-in or an own one: kitOne's answer -/
theorem isinst_ok {x : V} {u t : Value} (I : Inv X pins σ H s) (rx : RelV x u) (ty : TyOf X.K H x t) (e : PySem.W.kitOne X.K t c = some b) (h : ∀ tk, Q (.bool b) { s with toks := tk }) :
    wpAny (model X.prog X.w) A (call (.builtin "isinstance") [u, c]) Q E s := by
  cases ty with
  | non => cases (show u = Value.none from rx); exact PySem.W.kia_one PySem.W.kitx_none I.kIn True.intro e (fun z => nomatch z) h
  | bl y => cases (show u = Value.bool y from rx); exact PySem.W.kia_one PySem.W.kitx_bool I.kIn True.intro e (fun z => nomatch z) h
  | int i => obtain ⟨t, q⟩ := (show ∃ t, u = Value.int i t from rx); cases q; exact PySem.W.kia_one PySem.W.kitx_int I.kIn True.intro e (fun z => nomatch z) h
  | str y => obtain ⟨t, q⟩ := (show ∃ t, u = Value.str y t from rx); cases q; exact PySem.W.kia_one PySem.W.kitx_str I.kIn True.intro e (fun z => nomatch z) h
  | flt y => obtain ⟨t, q⟩ := (show ∃ t, u = Value.float y t from rx); cases q; exact PySem.W.kia_one PySem.W.kitx_float I.kIn True.intro e (fun z => nomatch z) h
  | @lst a xs ea =>
    cases (show u = Value.ref a from rx)
    obtain ⟨_, _, n, _, h1⟩ := (show ObjOk X.prog X.w H s.heap a (.lst xs) from I.hok a _ ea)
    exact PySem.W.kia_one PySem.W.kitx_list I.kIn ⟨_, h1, rfl⟩ e (fun z => nomatch z) h
  | @frz a ob xs ea =>
    cases (show u = Value.ref a from rx)
    obtain ⟨_, _, _, n, _, h1⟩ := (show ObjOk X.prog X.w H s.heap a (.frz ob (.lst xs)) from I.hok a _ ea)
    exact PySem.W.kia_one PySem.W.kitx_list I.kIn ⟨_, h1, rfl⟩ e (fun z => nomatch z) h
  | @tup a xs ea =>
    cases (show u = Value.ref a from rx)
    obtain ⟨_, _, _, p⟩ := (show ObjOk X.prog X.w H s.heap a (.tup xs) from I.hok a _ ea)
    obtain ⟨o, h1, h2, _⟩ := p
    exact PySem.W.kia_one PySem.W.kitx_tuple I.kIn ⟨o, h1, h2⟩ e (fun z => nomatch z) h
  | @dK a kvs ea =>
    cases (show u = Value.ref a from rx)
    obtain ⟨_, _, vs, _, p⟩ := (show ObjOk X.prog X.w H s.heap a (.dK kvs) from I.hok a _ ea)
    obtain ⟨o, es, ep, h1, h2, _⟩ := p
    exact PySem.W.kia_one PySem.W.kitx_dict I.kIn ⟨o, h1, h2.1⟩ e (fun z => nomatch z) h
  | @dT a kvs ea =>
    cases (show u = Value.ref a from rx)
    obtain ⟨_, _, xs, _, o, es, ep, h1, h2, _⟩ := (show ObjOk X.prog X.w H s.heap a (.dT kvs) from I.hok a _ ea)
    exact PySem.W.kia_one PySem.W.kitx_dict I.kIn ⟨o, h1, h2.1⟩ e (fun z => nomatch z) h
  | @ins a C dx fs ea cl ha hn htk hm =>
    cases (show u = Value.ref a from rx)
    obtain ⟨mA, O, _⟩ := ins_get I.hok ea
    obtain ⟨od, J, _⟩ := O.look
    exact PySem.W.kia_one (PySem.W.kitx_own (cl.get _) cl.hd ha hn htk hm) I.kIn J e (fun z => nomatch z) h
end
end L2

namespace L2
open PySem PySem.Spec PyProof.Rows

/-! ### room -/
structure Room (k : Nat) (A : Around) : Prop where
  hd : A.handled = none
  dp : A.depth + 3 * k + 5 < recursionLimit
  un : A.units + 16 * k + 200 < cLine
theorem Room.mono {j k : Nat} {A : Around} (r : Room k A) (h : j ≤ k) : Room j A := ⟨r.hd, by have := r.dp; omega, by have := r.un; omega⟩
theorem Room.deeper {k : Nat} {A : Around} (r : Room (k + 1) A) (env : Env) : Room k (A.deeper env) :=
  ⟨r.hd, by have := r.dp; show A.depth + 1 + 3 * k + 5 < _; omega, by have := r.un; show A.units + 3 + 16 * k + 200 < _; omega⟩
theorem Room.in1 {k : Nat} {A : Around} (r : Room (k + 1) A) : Room k A.in1 :=
  ⟨r.hd, by have := r.dp; show A.depth + 3 * k + 5 < _; omega, by have := r.un; show A.units + 1 + 16 * k + 200 < _; omega⟩
theorem make_depth {A : Around} {C : Addr} {us : List Value} {kw : List (Str × Value)} : (A.under (.builtin "type.__call__" ⟨.ref C :: us, kw⟩)).depth = A.depth + 1 := by
  first | rfl | simp [Around.under, Code.weight, Code.isCreation, Code.isGuard, Code.isCaller, Code.frames, Code.isFrame, guardIds]
theorem make_units {A : Around} {C : Addr} {us : List Value} {kw : List (Str × Value)} : (A.under (.builtin "type.__call__" ⟨.ref C :: us, kw⟩)).units = A.units + 1 := by
  first | rfl | simp [Around.under, Code.cUnits, Code.frames, Code.isFrame]
theorem Room.make {k : Nat} {A : Around} (r : Room (k + 1) A) (C : Addr) (us : List Value) (kw : List (Str × Value)) : Room k (A.under (.builtin "type.__call__" ⟨.ref C :: us, kw⟩)) :=
  ⟨r.hd, by have := r.dp; rw [make_depth]; omega, by have := r.un; rw [make_units]; omega⟩
theorem Room.depth {k : Nat} {A : Around} (r : Room k A) : A.depth < recursionLimit := by have := r.dp; omega
theorem Room.units {k : Nat} {A : Around} (r : Room k A) : A.units + 64 < cLine := by have := r.un; omega
theorem Room.units0 {k : Nat} {A : Around} (r : Room k A) : A.units < cLine := by have := r.un; omega

/-! ### argument lists and displays -/
def tNil : TA := fun _ H Q => Q [] H
def tCons (ta : TE) (tr : TA) : TA := fun σ H Q => ta σ H fun x H1 => tr σ H1 fun xs H2 => Q (x :: xs) H2
section
variable {X : Cx} {e : Expr} {es : List Expr} {te : TE} {t : TA} {pos : Pos}
theorem pa_nil : PA X [] tNil := fun _ _ _ _ H Q I h => Calls.spliced_nil ⟨[], H, I, .nil, h⟩
theorem pa_cons (ha : PE X e te) (hr : PA X es t) (hs : starEach (e :: es) X.env = (false, eval e X.env) :: starEach es X.env := by rfl) : PA X (e :: es) (tCons te t) := by
  intro pos pins s σ H Q I h
  rw [hs]
  show wpAny _ _ (spliced ((false, eval e X.env) :: backTo pos (starEach es X.env))) _ _ s
  refine Calls.spliced_cons (thn (ha pins s σ H _ I h) fun u s1 ⟨x, H1, I1, r1, q1⟩ => ?_)
  exact thn (hr pos pins s1 σ H1 _ I1 q1) fun us s2 ⟨xs, H2, I2, r2, q2⟩ => ⟨x :: xs, H2, I2, .cons r1 r2, q2⟩

/-- a tuple, a list of written items -/
def tTup (t : TA) : TE := fun σ H Q => t σ H fun xs H1 => xs.length ≤ sizeLine ∧ ∀ p, H1 p = none → Q (.ref p) (upd H1 p (.tup xs))
def tLst (t : TA) : TE := fun σ H Q => t σ H fun xs H1 => xs.length ≤ sizeLine ∧ ∀ p, H1 p = none → Q (.ref p) (upd H1 p (.lst xs))
theorem pe_tup {x1} (h : PA X es t) : PE X (.Tuple es x1 pos) (tTup t) := by
  intro pins s σ H Q I hq
  refine wpAny_Tuple_spliced (thn (h pos pins s σ H _ I hq) fun us s1 ⟨xs, H1, I1, r, z, q⟩ => ⟨by rw [← r.length]; exact z, ?_⟩)
  have hf : H1 s1.heap.objs.size = none := I1.hok.fresh (Nat.le_refl _)
  refine ⟨.ref s1.heap.objs.size, upd H1 s1.heap.objs.size (.tup xs), I1.laid (t' := s1.toks) (fun b u e => Heap.get?_push_of_some _ e) (Nat.le_refl _) ?_, rfl, q _ hf⟩
  exact ⟨z, us, r, ⟨_, Heap.get?_push_size _ rfl, rfl, _, rfl⟩⟩
theorem pe_lst (h : PA X es t) : PE X (.List es pos) (tLst t) := by
  intro pins s σ H Q I hq
  refine wpAny_List_spliced (thn (h pos pins s σ H _ I hq) fun us s1 ⟨xs, H1, I1, r, z, q⟩ => ⟨by rw [← r.length]; exact z, ?_⟩)
  have hf : H1 s1.heap.objs.size = none := I1.hok.fresh (Nat.le_refl _)
  refine ⟨.ref s1.heap.objs.size, upd H1 s1.heap.objs.size (.lst xs), I1.laid (t' := s1.toks) (fun b u e => Heap.get?_push_of_some _ e) (Nat.le_refl _) ?_, rfl, q _ hf⟩
  exact ⟨z, us, 0, r, Heap.get?_push_size _ rfl⟩
end

/-! ### what a def promises -/
/-- a def's promise: the bound arguments in the parameters' order, the heap, the wanted end, the wanted exception -/
abbrev Sp := List V → Hp → VK → XK → Prop
/-- how an exception lies behind a call (file 08 gives it): the callers' frames, abstract heap and state ahead of the call, the wish, the exception, the state -/
abbrev CXT := List Env → Hp → Shared → XK → Value → Shared → Prop

/-- the state at a call -/
structure Env0 (P : Program) (w : World) (K : PySem.W.Frag) (mg : Str → Option Value) (base : Heap) (A : Around) (outer : List Env) (s : Shared) (H : Hp) : Prop where
  frames : A.frames = some outer
  mod : Mod K mg base
  bs : ∀ b o, base.get? b = some o → s.heap.get? b = some o ∧ H b = none
  bsz : base.objs.size ≤ s.heap.objs.size
  funs : s.heap.FunFrames base outer
  frf : ∀ b ∈ frs outer, H b = none
  hok : HOk P w H s.heap
  bare : AllBare s.gens
/-- a call's end -/
def CE (outer : List Env) (P : Program) (w : World) (H : Hp) (s : Shared) (Q : VK) (u : Value) (s' : Shared) : Prop :=
  ∃ v H', s'.os = s.os ∧ AllBare s'.gens ∧ Un (frs outer) [] H H' s.heap s'.heap ∧ HOk P w H' s'.heap ∧ RelV v u ∧ Q v H'
def CR (CX : CXT) (outer : List Env) (P : Program) (w : World) (H : Hp) (s : Shared) (Q : VK) (E : XK) (r : Result) (s' : Shared) : Prop :=
  match r with
  | .ok (.ret u) => CE outer P w H s Q u s'
  | .ok _ => False
  | .error e => CX outer H s E e s'
structure FnOk (P : Program) (w : World) (K : PySem.W.Frag) (mg : Str → Option Value) (base : Heap) (CX : CXT) (k : Nat) (f : Addr) (fd : FuncData) (ps : List Str) (sp : Sp) : Prop where
  len : ∀ vs H Q E, sp vs H Q E → vs.length = ps.length
  run : ∀ (A : Around) (outer : List Env) (s : Shared) (H : Hp) (args : Args) (us : List Value) (vs : List V) (Q : VK) (E : XK), Room k A → Env0 P w K mg base A outer s H → BindsTo s fd args (ps.zip us) → Vals vs us → sp vs H Q E →
    codeAny (model P w) A (.call (.ref f) args) (CR CX outer P w H s Q E) s
theorem FnOk.mono {P : Program} {w : World} {K : PySem.W.Frag} {mg : Str → Option Value} {base : Heap} {CX : CXT} {j k : Nat} {f : Addr} {fd : FuncData} {ps : List Str} {sp : Sp} (F : FnOk P w K mg base CX j f fd ps sp) (h : j ≤ k) :
    FnOk P w K mg base CX k f fd ps sp := ⟨F.len, fun A outer s H args us vs Q E hr => F.run A outer s H args us vs Q E (hr.mono h)⟩
/-- a weaker promise -/
theorem FnOk.imp {P : Program} {w : World} {K : PySem.W.Frag} {mg : Str → Option Value} {base : Heap} {CX : CXT} {k : Nat} {f : Addr} {fd : FuncData} {ps : List Str} {sp sp' : Sp} (F : FnOk P w K mg base CX k f fd ps sp)
    (h : ∀ vs H Q E, sp' vs H Q E → sp vs H Q E) : FnOk P w K mg base CX k f fd ps sp' :=
  ⟨fun vs H Q E q => F.len vs H Q E (h _ _ _ _ q), fun A outer s H args us vs Q E hr he hb hv hs => F.run A outer s H args us vs Q E hr he hb hv (h _ _ _ _ hs)⟩

theorem Env0.make {P : Program} {w : World} {K : PySem.W.Frag} {mg : Str → Option Value} {base : Heap} {A : Around} {outer : List Env} {s : Shared} {H : Hp} (e : Env0 P w K mg base A outer s H) (C : Addr) (us : List Value) (kw : List (Str × Value)) :
    Env0 P w K mg base (A.under (.builtin "type.__call__" ⟨.ref C :: us, kw⟩)) outer s H := ⟨by first | exact e.frames | (simpa [Around.under, Code.envs, Code.isFrame, pushEnvs] using e.frames), e.mod, e.bs, e.bsz, e.funs, e.frf, e.hok, e.bare⟩
theorem Env0.in1 {P : Program} {w : World} {K : PySem.W.Frag} {mg : Str → Option Value} {base : Heap} {A : Around} {outer : List Env} {s : Shared} {H : Hp} (e : Env0 P w K mg base A outer s H) :
    Env0 P w K mg base A.in1 outer s H := ⟨e.frames, e.mod, e.bs, e.bsz, e.funs, e.frf, e.hok, e.bare⟩

section
variable {X : Cx} {pins : List (Addr × Obj)} {σ : St} {H : Hp} {s s' : Shared}
/-- from a body: what a callee wants -/
theorem Inv.env0 (I : Inv X pins σ H s) : Env0 X.prog X.w X.K X.mg X.base X.A X.stack s H :=
  ⟨I.ok.frames, I.ok.mod, I.bs, Nat.le_trans I.ok.bsz I.sz, I.stack, I.stkFree, I.hok, I.bare⟩
/-- behind a call -/
theorem Inv.after {Q : VK} {u : Value} (I : Inv X pins σ H s) (h : CE X.stack X.prog X.w H s Q u s') : EP X pins σ Q u s' := by
  obtain ⟨v, H', os, bare, un, hok, r, q⟩ := h
  obtain ⟨hh, g, d, t, os'⟩ := s'
  obtain rfl : os' = s.os := os
  exact ⟨v, H', I.call (h' := hh) (g' := g) (d' := d) (t' := t) (ch := []) un hok bare (fun b z => absurd z (by simp)), r, q⟩
end

/-! ### calls -/
/-- f(..): the written arguments, then the defaults dvs; E: what is wanted of an exception -/
def tCall (sp : Sp) (dvs : List V) (E : XK) (t : TA) : TE := fun σ H Q => t σ H fun vs H1 => sp (vs ++ dvs) H1 Q E
/-- o.m(..) of an instance of the class at C -/
def tMeth (C : Addr) (m : Str) (sp : Sp) (dvs : List V) (E : XK) (ta : TE) (t : TA) : TE := fun σ H Q => ta σ H fun x H1 => ∃ a dx fs, x = .ref a ∧ H1 a = some (.ins C dx fs) ∧ fs.lookup m = none ∧
  t σ H1 fun vs H2 => sp (x :: (vs ++ dvs)) H2 Q E
/-- C(..): a new instance and its dict, then __init__ -/
def tMake (C : Addr) (sp : Sp) (dvs : List V) (E : XK) (t : TA) : TE := fun σ H Q => t σ H fun vs H1 => ∀ x dx, H1 x = none → H1 dx = none → dx ≠ x →
  sp (.ref x :: (vs ++ dvs)) (upd (upd H1 dx (.own x)) x (.ins C dx [])) (fun v H2 => v = .non ∧ Q (.ref x) H2) E

/-- how the parameters are bound: us the positional arguments, kw the keywords' values by name, ds the defaults that fill up -/
def Binds (K : PySem.W.Frag) (fd : FuncData) (ps : List Str) (ds : List Value) : Prop :=
  ∀ (s : Shared) (us : List Value), K.In s.heap → (us ++ ds).length = ps.length → BindsTo s fd ⟨us, []⟩ (ps.zip (us ++ ds))
/-- every parameter is given -/
theorem Binds.all {K : PySem.W.Frag} {fd : FuncData} {ps : List Str} (h : ∀ us : List Value, us.length = ps.length → bindArgs fd ⟨us, []⟩ = pure (ps.zip us)) : Binds K fd ps [] := fun s us _ hl => by
  rw [List.append_nil] at hl ⊢
  exact .of_eq (h us hl)

/-- an exception of a callee reaches what this body wants of exceptions -/
def Passes (CX : CXT) (X : Cx) (E : XK) : Prop := ∀ (pins : List (Addr × Obj)) (σ : St) (H : Hp) (s : Shared) (e : Value) (s' : Shared), Inv X pins σ H s → CX X.stack H s E e s' → X.xe e s'

section
variable {X : Cx} {CX : CXT} {k : Nat} {f C : Addr} {fd : FuncData} {ps : List Str} {sp : Sp} {dvs : List V} {ds : List Value} {E : XK} {x m : Str} {p pos apos : Pos} {e o : Expr} {es : List Expr} {ta : TE} {t : TA}

/-- the callee runs -/
theorem run_fn {pins : List (Addr × Obj)} {σ : St} {H : Hp} {s : Shared} {Q : VK} {us : List Value} {vs : List V} (F : FnOk X.prog X.w X.K X.mg X.base CX k f fd ps sp) (hr : Room k X.A) (hb : Binds X.K fd ps ds) (hd : Vals dvs ds) (hx : Passes CX X E)
    (I : Inv X pins σ H s) (r : Vals vs us) (h : sp (vs ++ dvs) H Q E) : wpAny (model X.prog X.w) X.A (call (.ref f) us) (EP X pins σ Q) X.xe s := by
  have r2 : Vals (vs ++ dvs) (us ++ ds) := r.append hd
  have hl : (us ++ ds).length = ps.length := by rw [← r2.length]; exact F.len _ _ _ _ h
  refine wpAny_call (codeAny_mono (F.run X.A X.stack s H ⟨us, []⟩ (us ++ ds) (vs ++ dvs) Q E hr I.env0 (hb s us I.kIn hl) r2 h) fun r s' hq => ?_)
  cases r with
  | error e => exact hx pins σ H s e s' I hq
  | ok fl =>
    cases fl with
    | ret u => exact I.after hq
    | next => exact False.elim hq
    | brk => exact False.elim hq
    | cont => exact False.elim hq

theorem pe_call (F : FnOk X.prog X.w X.K X.mg X.base CX k f fd ps sp) (hr : Room k X.A) (hg : Gl X x) (hm : X.mg x = some (.ref f)) (hk : PySem.W.keepIn X.K (.ref f) = true) (hb : Binds X.K fd ps ds) (hd : Vals dvs ds) (hx : Passes CX X E)
    (ha : PA X (e :: es) t) (hdb : (x == ("__debug__" : Str)) = false := by decide) (he : starEach (e :: es) X.env = (false, eval e X.env) :: starEach es X.env := by rfl) (hpl : (backTo pos (starEach es X.env)).any (·.1) = false := by rfl) :
    PE X (.Call (.Name x p) (e :: es) [] pos) (tCall sp dvs E t) := by
  intro pins s σ H Q I h
  refine wpAny_Call_Name_kw (ld_glob I hg hm ?_ hdb)
  refine PySem.W.callWith_K (h₀ := X.base) I.ok.mod.kin hk (thn (ha pos pins s σ H _ I h) fun us s1 ⟨vs, H1, I1, r, q⟩ => ⟨I1.kIn, ?_⟩) he hpl
  exact run_fn F hr hb hd hx I1 r q
theorem pe_call0 (F : FnOk X.prog X.w X.K X.mg X.base CX k f fd ps sp) (hr : Room k X.A) (hg : Gl X x) (hm : X.mg x = some (.ref f)) (hk : PySem.W.keepIn X.K (.ref f) = true) (hb : Binds X.K fd ps ds) (hd : Vals dvs ds) (hx : Passes CX X E)
    (hdb : (x == ("__debug__" : Str)) = false := by decide) : PE X (.Call (.Name x p) [] [] pos) (tCall sp dvs E tNil) := by
  intro pins s σ H Q I h
  refine wpAny_Call_Name_kw (ld_glob I hg hm ?_ hdb)
  exact PySem.W.callWith_K0 I.kIn hk (run_fn (us := []) F hr hb hd hx I .nil h)

/-- o.m(e, ..) -/
theorem pe_meth {pl : Sem Bool} (he : PE X o ta) (c : Cls X.K C) (hm : Meth X.K C m f) (F : FnOk X.prog X.w X.K X.mg X.base CX k f fd ps sp) (hr : Room k X.A) (hb : Binds X.K fd ps ds) (hd : Vals dvs ds) (hx : Passes CX X E) (ha : PA X (e :: es) t)
    (hst : starEach (e :: es) X.env = (false, eval e X.env) :: starEach es X.env := by rfl) (hpl : (backTo pos (starEach es X.env)).any (·.1) = false := by rfl)
    (ht : eval (.Call (.Attribute o m apos) (e :: es) [] pos) X.env = (do
      let ov ← eval o X.env
      standAt apos.atName
      let (f, first) ← holding [ov] (getMethod ov m pl)
      callWith pos f first (backTo pos (starEach (e :: es) X.env)) (backToKw pos (keywordEach [] X.env))) := by rfl) :
    PE X (.Call (.Attribute o m apos) (e :: es) [] pos) (tMeth C m sp dvs E ta t) := by
  intro pins s σ H Q I h
  refine PySem.W.methodCall_KW (pl := pl) (thn (he pins s σ H _ I h) fun u s1 ⟨x, H1, I1, rx, a, dx, fs, ex, ea, l, q⟩ => ?_) ht
  subst ex
  obtain rfl : u = Value.ref a := rx
  refine getmeth_ok I1 ea c hm l ?_
  refine PySem.W.callWith_K (first := [.ref a]) (h₀ := X.base) I.ok.mod.kin hm.kp (thn (ha pos pins s1 σ H1 _ I1 q) fun us s2 ⟨vs, H2, I2, r, q2⟩ => ⟨I2.kIn, ?_⟩) hst hpl
  exact run_fn (us := .ref a :: us) (vs := .ref a :: vs) F hr hb hd hx I2 (.cons rfl r) q2
/-- o.m() -/
theorem pe_meth0 {pl : Sem Bool} (he : PE X o ta) (c : Cls X.K C) (hm : Meth X.K C m f) (F : FnOk X.prog X.w X.K X.mg X.base CX k f fd ps sp) (hr : Room k X.A) (hb : Binds X.K fd ps ds) (hd : Vals dvs ds) (hx : Passes CX X E)
    (ht : eval (.Call (.Attribute o m apos) [] [] pos) X.env = (do
      let ov ← eval o X.env
      standAt apos.atName
      let (f, first) ← holding [ov] (getMethod ov m pl)
      callWith pos f first (backTo pos (starEach [] X.env)) (backToKw pos (keywordEach [] X.env))) := by rfl) :
    PE X (.Call (.Attribute o m apos) [] [] pos) (tMeth C m sp dvs E ta tNil) := by
  intro pins s σ H Q I h
  refine PySem.W.methodCall_KW (pl := pl) (thn (he pins s σ H _ I h) fun u s1 ⟨x, H1, I1, rx, a, dx, fs, ex, ea, l, q⟩ => ?_) ht
  subst ex
  obtain rfl : u = Value.ref a := rx
  refine getmeth_ok I1 ea c hm l ?_
  exact PySem.W.callWith_K0 (first := [.ref a]) I1.kIn hm.kp (run_fn (us := [.ref a]) (vs := [.ref a]) F hr hb hd hx I1 (.cons rfl .nil) q)

/-- what a class must have to be made -/
structure Mk (K : PySem.W.Frag) (C f : Addr) : Prop where
  makes : PySem.W.makesIn K C = true
  init : PySem.W.findIn K (.ref C) "__init__" = some (some (.ref f))
  fn : PySem.W.isFn K (.ref f) = true
  kp : PySem.W.keepIn K (.ref C) = true

theorem run_make {pins : List (Addr × Obj)} {σ : St} {H : Hp} {s : Shared} {Q : VK} {us : List Value} {vs : List V} (M : Mk X.K C f) (F : FnOk X.prog X.w X.K X.mg X.base CX k f fd ps sp) (hr : Room (k + 1) X.A) (hb : Binds X.K fd ps ds) (hd : Vals dvs ds)
    (hx : Passes CX X E) (I : Inv X pins σ H s) (r : Vals vs us)
    (h : ∀ x dx, H x = none → H dx = none → dx ≠ x → sp (.ref x :: (vs ++ dvs)) (upd (upd H dx (.own x)) x (.ins C dx [])) (fun v H2 => v = .non ∧ Q (.ref x) H2) E) :
    wpAny (model X.prog X.w) X.A (call (.ref C) us) (EP X pins σ Q) X.xe s := by
  have hq := h (s.heap.objs.size + 1) s.heap.objs.size (I.hok.fresh (Nat.le_succ _)) (I.hok.fresh (Nat.le_refl _)) (Nat.ne_of_lt (Nat.lt_succ_self _))
  have I2 := Inv.made (C := C) I
  have r2 : Vals (V.ref (s.heap.objs.size + 1) :: (vs ++ dvs)) (Value.ref (s.heap.objs.size + 1) :: (us ++ ds)) := .cons rfl (r.append hd)
  have hl : (Value.ref (s.heap.objs.size + 1) :: us ++ ds).length = ps.length := by
    have e := r2.length
    rw [F.len _ _ _ _ hq] at e
    exact e.symm
  refine wpAny_call (make_map (f := f) I.kIn M.makes M.init (beq_iff_eq.mp M.fn) (codeAny_mono (F.run _ X.stack _ _ ⟨Value.ref (s.heap.objs.size + 1) :: us, []⟩ (Value.ref (s.heap.objs.size + 1) :: (us ++ ds)) _ _ E (hr.make C us [])
    (I2.env0.make C us []) (hb _ (Value.ref (s.heap.objs.size + 1) :: us) I2.kIn hl) r2 hq) fun r s' hq' => ?_))
  cases r with
  | error e => exact hx pins σ _ _ e s' I2 hq'
  | ok fl =>
    cases fl with
    | ret u =>
      obtain ⟨v, H', I3, rv, ev, q3⟩ := I2.after hq'
      subst ev
      exact ⟨rv, ⟨V.ref (s.heap.objs.size + 1), H', I3, rfl, q3⟩⟩
    | next => exact False.elim hq'
    | brk => exact False.elim hq'
    | cont => exact False.elim hq'
theorem pe_make (M : Mk X.K C f) (F : FnOk X.prog X.w X.K X.mg X.base CX k f fd ps sp) (hr : Room (k + 1) X.A) (hg : Gl X x) (hm : X.mg x = some (.ref C)) (hb : Binds X.K fd ps ds) (hd : Vals dvs ds) (hx : Passes CX X E)
    (ha : PA X (e :: es) t) (hdb : (x == ("__debug__" : Str)) = false := by decide) (he : starEach (e :: es) X.env = (false, eval e X.env) :: starEach es X.env := by rfl) (hpl : (backTo pos (starEach es X.env)).any (·.1) = false := by rfl) :
    PE X (.Call (.Name x p) (e :: es) [] pos) (tMake C sp dvs E t) := by
  intro pins s σ H Q I h
  refine wpAny_Call_Name_kw (ld_glob I hg hm ?_ hdb)
  refine PySem.W.callWith_K (h₀ := X.base) I.ok.mod.kin M.kp (thn (ha pos pins s σ H _ I h) fun us s1 ⟨vs, H1, I1, r, q⟩ => ⟨I1.kIn, ?_⟩) he hpl
  exact run_make M F hr hb hd hx I1 r q
theorem pe_make0 (M : Mk X.K C f) (F : FnOk X.prog X.w X.K X.mg X.base CX k f fd ps sp) (hr : Room (k + 1) X.A) (hg : Gl X x) (hm : X.mg x = some (.ref C)) (hb : Binds X.K fd ps ds) (hd : Vals dvs ds) (hx : Passes CX X E)
    (hdb : (x == ("__debug__" : Str)) = false := by decide) : PE X (.Call (.Name x p) [] [] pos) (tMake C sp dvs E tNil) := by
  intro pins s σ H Q I h
  refine wpAny_Call_Name_kw (ld_glob I hg hm ?_ hdb)
  exact PySem.W.callWith_K0 I.kIn M.kp (run_make (us := []) M F hr hb hd hx I .nil h)
end

/-! ### keywords -/
/-- the values of the keywords, from the left -/
def PK (X : Cx) (kws : List Keyword) (t : TA) : Prop :=
  ∀ (pos : Pos) (pins : List (Addr × Obj)) (s : Shared) (σ : St) (H : Hp) (Q : List V → Hp → Prop), Inv X pins σ H s → t σ H Q → wpAny (model X.prog X.w) X.A (evalAll ((backToKw pos (keywordEach kws X.env)).map (·.2))) (AP X pins σ Q) X.xe s
section
variable {X : Cx} {CX : CXT} {k : Nat} {f C : Addr} {fd : FuncData} {ps ks : List Str} {sp : Sp} {E : XK} {x m : Str} {p pos apos kpos : Pos} {e o : Expr} {es : List Expr} {kws : List Keyword} {te ta : TE} {t tk : TA} {nm : Option Str}
theorem pk_nil : PK X [] tNil := fun _ _ _ _ H Q I h => wpAny_evalAll_nil ⟨[], H, I, .nil, h⟩
theorem pk_cons (ha : PE X e te) (hr : PK X kws t) : PK X (⟨nm, e, kpos⟩ :: kws) (tCons te t) := by
  intro pos pins s σ H Q I h
  show wpAny _ _ (evalAll ((do let v ← eval e X.env; standAt pos; pure v) :: (backToKw pos (keywordEach kws X.env)).map (·.2))) _ _ s
  refine wpAny_evalAll_cons (wpAny_bind (thn (ha pins s σ H _ I h) fun u s1 ⟨x, H1, I1, r1, q1⟩ => wpAny_bind (wpAny_standAt (wpAny_pure ?_))))
  exact thn (hr pos pins s1 σ H1 _ I1 q1) fun us s2 ⟨xs, H2, I2, r2, q2⟩ => ⟨x :: xs, H2, I2, .cons r1 r2, q2⟩

/-- how a call with keywords binds: g puts the positional values us and the keywords' values ws (names ks) in the parameters' order, defaults among them -/
structure KBinds (K : PySem.W.Frag) (fd : FuncData) (ps ks : List Str) (g : List Value → List Value → List Value) (gV : List V → List V → List V) : Prop where
  to : ∀ (s : Shared) (us ws : List Value), K.In s.heap → (g us ws).length = ps.length → BindsTo s fd ⟨us, ks.zip ws⟩ (ps.zip (g us ws))
  rel : ∀ {vs : List V} {us : List Value} {zs : List V} {ws : List Value}, Vals vs us → Vals zs ws → Vals (gV vs zs) (g us ws)
def tCallK (sp : Sp) (gV : List V → List V → List V) (E : XK) (t tk : TA) : TE := fun σ H Q => t σ H fun vs H1 => tk σ H1 fun zs H2 => sp (gV vs zs) H2 Q E
variable {g : List Value → List Value → List Value} {gV : List V → List V → List V}
theorem run_fnk {pins : List (Addr × Obj)} {σ : St} {H : Hp} {s : Shared} {Q : VK} {us ws : List Value} {vs zs : List V} (F : FnOk X.prog X.w X.K X.mg X.base CX k f fd ps sp) (hr : Room k X.A) (hb : KBinds X.K fd ps ks g gV) (hx : Passes CX X E)
    (I : Inv X pins σ H s) (r : Vals vs us) (rz : Vals zs ws) (h : sp (gV vs zs) H Q E) : wpAny (model X.prog X.w) X.A (call (.ref f) us (ks.zip ws)) (EP X pins σ Q) X.xe s := by
  have r2 := hb.rel r rz
  have hl : (g us ws).length = ps.length := by rw [← r2.length]; exact F.len _ _ _ _ h
  refine wpAny_call (codeAny_mono (F.run X.A X.stack s H ⟨us, ks.zip ws⟩ (g us ws) (gV vs zs) Q E hr I.env0 (hb.to s us ws I.kIn hl) r2 h) fun r s' hq => ?_)
  cases r with
  | error e => exact hx pins σ H s e s' I hq
  | ok fl =>
    cases fl with
    | ret u => exact I.after hq
    | next => exact False.elim hq
    | brk => exact False.elim hq
    | cont => exact False.elim hq
/-- f(e, .., k = v, ..) -/
theorem pe_callK (F : FnOk X.prog X.w X.K X.mg X.base CX k f fd ps sp) (hr : Room k X.A) (hg : Gl X x) (hm : X.mg x = some (.ref f)) (hk : PySem.W.keepIn X.K (.ref f) = true) (hb : KBinds X.K fd ps ks g gV) (hx : Passes CX X E)
    (ha : PA X (e :: es) t) (hkw : PK X kws tk) (hall : (backToKw pos (keywordEach kws X.env)).all (·.1.isSome) = true := by rfl) (hks : (backToKw pos (keywordEach kws X.env)).filterMap (·.1) = ks := by rfl)
    (hdb : (x == ("__debug__" : Str)) = false := by decide) (he : starEach (e :: es) X.env = (false, eval e X.env) :: starEach es X.env := by rfl)
    (hpl : ((backTo pos (starEach (e :: es) X.env)).any (·.1) || (backToKw pos (keywordEach kws X.env)).any (·.1.isNone)) = false := by rfl) :
    PE X (.Call (.Name x p) (e :: es) kws pos) (tCallK sp gV E t tk) := by
  intro pins s σ H Q I h
  refine wpAny_Call_Name_kw (ld_glob I hg hm ?_ hdb)
  refine PySem.W.callWith_KW (h₀ := X.base) I.ok.mod.kin hk hall (thn (ha pos pins s σ H _ I h) fun us s1 ⟨vs, H1, I1, r, q⟩ => ?_) hpl he
  refine thn (hkw pos pins s1 σ H1 _ I1 q) fun ws s2 ⟨zs, H2, I2, rz, q2⟩ => ⟨I2.kIn, ?_⟩
  rw [hks]
  exact run_fnk F hr hb hx I2 r rz q2
end

/-! ### a def's body keeps its promise -/
/-- names: the parameters first -/
structure FnScope (N P : List Str) (sc : Scope) : Prop where
  kind : sc.kind = .function
  co : sc.isCoroutine = false
  gen : sc.isGenerator = false
  nd : N.Nodup
  pre : N.take P.length = P
  par : ∀ x ∈ P, sc.names.lookup x = some .local ∨ sc.names.lookup x = some .cell
  nofree : ∀ y ∈ sc.names, y.2 ≠ .free

theorem bindL_out {kindOf : Str → Option NameKind} {x : Str} : ∀ {binds : List (Str × Value)} {m : Str → Option Value}, (∀ v, (x, v) ∉ binds) → bindL kindOf binds m x = m x
  | [], _, _ => rfl
  | (n, v) :: r, m, h => by
    unfold bindL
    rw [bindL_out fun w hw => h w (List.mem_cons_of_mem _ hw)]
    split
    · have : x ≠ n := by rintro rfl; exact h v List.mem_cons_self
      simp [this]
    · rfl
theorem bindC_out {kindOf : Str → Option NameKind} {x : Str} : ∀ {binds : List (Str × Value)} {m : Str → Option Value}, (∀ v, (x, v) ∉ binds) → bindC kindOf binds m x = m x
  | [], _, _ => rfl
  | (n, v) :: r, m, h => by
    unfold bindC
    rw [bindC_out fun w hw => h w (List.mem_cons_of_mem _ hw)]
    split
    · rfl
    · have : x ≠ n := by rintro rfl; exact h v List.mem_cons_self
      simp [this]
theorem bindL_get {kindOf : Str → Option NameKind} {x : Str} {v : Value} : ∀ {P : List Str} {vs : List Value} {i : Nat} {m : Str → Option Value}, P.Nodup → P[i]? = some x → vs[i]? = some v → kindOf x = some .local →
    bindL kindOf (P.zip vs) m x = some v
  | [], _, _, _, _, h, _, _ => by simp at h
  | _ :: _, [], _, _, _, _, h, _ => by simp at h
  | p :: P, w :: vs, 0, m, nd, h1, h2, hk => by
    simp at h1 h2; subst h1; subst h2
    show bindL kindOf ((p, w) :: P.zip vs) m p = _
    unfold bindL
    rw [bindL_out fun v hv => (List.nodup_cons.mp nd).1 (List.of_mem_zip hv).1, if_pos hk]
    simp
  | p :: P, w :: vs, i + 1, m, nd, h1, h2, hk => by
    show bindL kindOf ((p, w) :: P.zip vs) m x = _
    unfold bindL
    exact bindL_get (i := i) (List.nodup_cons.mp nd).2 (by simpa using h1) (by simpa using h2) hk
theorem bindC_get {kindOf : Str → Option NameKind} {x : Str} {v : Value} : ∀ {P : List Str} {vs : List Value} {i : Nat} {m : Str → Option Value}, P.Nodup → P[i]? = some x → vs[i]? = some v → kindOf x ≠ some .local →
    bindC kindOf (P.zip vs) m x = some v
  | [], _, _, _, _, h, _, _ => by simp at h
  | _ :: _, [], _, _, _, _, h, _ => by simp at h
  | p :: P, w :: vs, 0, m, nd, h1, h2, hk => by
    simp at h1 h2; subst h1; subst h2
    show bindC kindOf ((p, w) :: P.zip vs) m p = _
    unfold bindC
    rw [bindC_out fun v hv => (List.nodup_cons.mp nd).1 (List.of_mem_zip hv).1, if_neg hk]
    simp
  | p :: P, w :: vs, i + 1, m, nd, h1, h2, hk => by
    show bindC kindOf ((p, w) :: P.zip vs) m x = _
    unfold bindC
    exact bindC_get (i := i) (List.nodup_cons.mp nd).2 (by simpa using h1) (by simpa using h2) hk

/-- the names' values at the entry -/
def start (N : List Str) (vs : List V) : St := vs.map some ++ List.replicate (N.length - vs.length) none

/-- the context of a def's body, at its entry; an exception leaves the frame, then lies as CX says -/
def cxOf (CX : CXT) (P : Program) (w : World) (K : PySem.W.Frag) (mg : Str → Option Value) (base : Heap) (N : List Str) (qual : Str) (scope : Scope) (f : Addr) (cd : Value) (A : Around) (outer : List Env) (s : Shared) (H : Hp) (E : XK) : Cx where
  prog := P
  w := w
  K := K
  mg := mg
  base := base
  A := A.deeper (envOfC qual scope s.heap.objs.size f cd)
  N := N
  s₀ := s
  H₀ := H
  env := envOfC qual scope s.heap.objs.size f cd
  outer := outer
  stack := envOfC qual scope s.heap.objs.size f cd :: outer
  ex := []
  calm := true
  fn := fun _ => true
  pn := []
  xe := fun e s' => wpAny (model P w) (A.deeper (envOfC qual scope s.heap.objs.size f cd)) (leaving (envOfC qual scope s.heap.objs.size f cd) e) (fun _ s'' => CX outer H s E e s'') (fun e' s'' => CX outer H s E e' s'') s'

theorem cell_has {sc : Scope} {n : Nat} {x : Str} (h : sc.names.lookup x = some .cell) : ∃ c, (cellsFrom n sc.names []).lookup x = some c := by
  have q := PySem.W.cellsFrom_some sc.names n [] (.inl h)
  exact Option.isSome_iff_exists.mp q

theorem inv_start {CX : CXT} {P : Program} {w : World} {K : PySem.W.Frag} {mg : Str → Option Value} {base : Heap} {N ps : List Str} {qual : Str} {scope : Scope} {f : Addr} {cd : Value} {A : Around} {outer : List Env} {s s1 : Shared} {H : Hp} {E : XK} {us : List Value} {vs : List V}
    (S : FnScope N ps scope) (hd : A.handled = none) (e0 : Env0 P w K mg base A outer s H) (hl : vs.length = ps.length) (r : Vals vs us)
    (x : InCallC s s.heap.objs.size (bindL (envOfC qual scope s.heap.objs.size f cd).kindOf (ps.zip us) fun _ => none) (cellsFrom (s.heap.objs.size + 1) scope.names []) (bindC (envOfC qual scope s.heap.objs.size f cd).kindOf (ps.zip us) fun _ => none) s1) :
    Inv (cxOf CX P w K mg base N qual scope f cd A outer s H E) [] (start N vs) H s1 := by
  have hpl : ps.length ≤ N.length := by have := congrArg List.length S.pre; rw [List.length_take] at this; omega
  obtain ⟨h1, tk, rfl, hk⟩ := x.done
  have noA : ∀ b : Addr, b ∉ (cxOf CX P w K mg base N qual scope f cd A outer s H E).ex := fun b z => absurd (show b ∈ ([] : List Addr) from z) (by simp)
  refine ⟨⟨e0.mod, S.kind, rfl, rfl, Nat.le_refl _, fun y z c h1 h2 => ?_, fun y hy => ?_, fun y c _ h => ?_, fun _ => hd, Around.frames_deeper e0.frames, .inr ⟨rfl, rfl⟩, fun b z => absurd z (noA b), e0.bs, e0.bsz, fun b _ _ => noA b, fun b z => absurd z (noA b), e0.funs, e0.frf⟩,
    rfl, e0.bare, Un.kept hk, ⟨_, x.toInCall.ns, fun i y v h1 h2 h3 => ?_⟩, fun y c h => ⟨_, x.cell y c h⟩, e0.hok.fresh (Nat.le_refl _), fun y c h => ?_, fun p hp => absurd (show p ∈ ([] : List (Addr × Obj)) from hp) (by simp), e0.hok.kept hk, ?_⟩
  · exact name_of_addr x.apart (PySem.mem_of_lookup h1) (PySem.mem_of_lookup h2)
  · have hy : scope.names.lookup y = some .cell ∨ scope.names.lookup y = some .free := hy
    rcases hy with hy | hy
    · exact cell_has hy
    · exact absurd rfl (S.nofree _ (PySem.mem_of_lookup hy))
  · exact Nat.le_of_lt (x.above y c (PySem.mem_of_lookup h))
  · have hi : i < vs.length := by
      unfold start at h2
      by_cases hi : i < vs.length
      · exact hi
      · rw [List.getElem?_append_right (by simpa using hi)] at h2
        rw [List.getElem?_replicate] at h2
        split at h2 <;> cases h2
    have ha : vs[i]? = some v := by
      unfold start at h2
      rw [List.getElem?_append_left (by simpa using hi), List.getElem?_map] at h2
      cases e : vs[i]? with
      | none => rw [e] at h2; cases h2
      | some a => rw [e] at h2; cases h2; rfl
    obtain ⟨u, hu, rv⟩ := r.get ha
    have hp : ps[i]? = some y := by
      rw [← S.pre, List.getElem?_take_of_lt (by omega)]; exact h1
    have ndP : ps.Nodup := by rw [← S.pre]; exact S.nd.sublist (List.take_sublist _ _)
    refine ⟨u, rv, ?_⟩
    rcases S.par y (List.mem_of_getElem? hp) with k | k
    · exact .inl ⟨k, bindL_get ndP hp hu k⟩
    · obtain ⟨c, e⟩ := cell_has (n := s.heap.objs.size + 1) k
      refine .inr ⟨.inl k, c, e, ?_⟩
      have q := x.cell y c e
      rw [bindC_get ndP hp hu (by show scope.names.lookup y ≠ _; rw [k]; decide)] at q
      exact q
  · exact e0.hok.fresh (Nat.le_of_lt (x.above y c (PySem.mem_of_lookup h)))
  · unfold start
    show _ = N.length
    rw [List.length_append, List.length_map, List.length_replicate]
    omega

/-- THE RULE: a def (or a method) of the text, by its body. The body's reading t is chosen for each entry; it is run at the parameters' values -/
theorem fn_of {CX : CXT} {P : Program} {w : World} {K : PySem.W.Frag} {mg : Str → Option Value} {base : Heap} {k : Nat} {f : Addr} {name qual : Str} {params : Arguments} {body : List Stmt} {scope : Scope} {dV kV doc pm cdv ct oc : Value} {an od : Option Addr}
    {osl : Array (Option Value)} {N ps : List Str} {sp : Sp} (lk : K.lookup f = some ⟨oc, od, .func (PySem.W.fnOf name qual params body scope dV kV doc pm an cdv ct), osl⟩) (hcd : PySem.W.codeIn K cdv qual = true) (S : FnScope N ps scope)
    (len : ∀ vs H Q E, sp vs H Q E → vs.length = ps.length)
    (hbody : ∀ (A : Around) (outer : List Env) (s : Shared) (H : Hp) (vs : List V) (Q : VK) (E : XK), Room k (A.deeper (envOfC qual scope s.heap.objs.size f cdv)) → sp vs H Q E →
      ∃ t, PSs (cxOf CX P w K mg base N qual scope f cdv A outer s H E) body t ∧ t { nx := fun _ H' => Q .non H', rt := Q } (start N vs) H) :
    FnOk P w K mg base CX (k + 1) f (PySem.W.fnOf name qual params body scope dV kV doc pm an cdv ct) ps sp := by
  refine ⟨len, fun A outer s H args us vs Q E hr e0 hb r hsp => ?_⟩
  have hl := len _ _ _ _ hsp
  have KX : K.In s.heap := e0.mod.kin.keeps fun b o e => (e0.bs b o e).1
  have lim : s.heap.NoLimit := e0.mod.nolimit.keeps fun b o e => (e0.bs b o e).1
  have hkind : ∀ y ∈ ps.zip us, scope.names.lookup y.1 = some .local ∨ (scope.names.lookup y.1 = some .cell ∧ ((cellsFrom (s.heap.objs.size + 1) scope.names []).lookup y.1).isSome = true) := fun ⟨n, v⟩ hy => by
    rcases S.par n (List.of_mem_zip hy).1 with q | q
    · exact .inl q
    · exact .inr ⟨q, PySem.W.cellsFrom_some _ _ _ (.inl q)⟩
  refine codeAny_call_function hr.depth (KX _ _ lk) rfl S.co S.gen rfl (PySem.W.codeRec_of KX hcd) (hb _ _ _ _ ?_)
  refine wpAny_newFunctionEnv_cells S.kind hkind fun env he s1 x => ?_
  subst he
  refine ⟨lim.keeps x.toInCall.keep, codeAny_func ?_⟩
  obtain ⟨t, ht, hq⟩ := hbody A outer s H vs Q E (hr.deeper _) hsp
  have I : Inv (cxOf CX P w K mg base N qual scope f cdv A outer s H E) [] (start N vs) H s1 := inv_start S hr.hd e0 hl r x
  refine wpAny_mono (ht [] s1 (start N vs) H _ I hq) (fun fl s' hs => ?_) fun e s' hs => hs
  have fin : ∀ {σ' : St} {H' : Hp} {v : V} {u : Value}, Inv (cxOf CX P w K mg base N qual scope f cdv A outer s H E) [] σ' H' s' → RelV v u → Q v H' → CE outer P w H s Q u s' :=
    fun {σ' H' v u} J rv q => ⟨v, H', J.os, J.bare, J.base, J.hok, rv, q⟩
  cases fl with
  | ret u =>
    obtain ⟨v, σ', H', J, rv, q⟩ := hs
    exact fin J rv q
  | next =>
    obtain ⟨σ', H', J, q⟩ := hs
    exact fin (v := V.non) (u := Value.none) J rfl q
  | brk =>
    obtain ⟨_, _, _, q⟩ := hs
    exact False.elim q
  | cont =>
    obtain ⟨_, _, _, q⟩ := hs
    exact False.elim q
end L2

namespace L2
open PySem PySem.Spec PyProof.Rows
section
variable {X : Cx} {x : Str} {p pos : Pos} {e : Expr} {es : List Expr} {t : TA} {id T : String} {r : List V → Hp → VK → Prop}

def tCB (r : List V → Hp → VK → Prop) (t : TA) : TE := fun σ H Q => t σ H fun vs H1 => r vs H1 Q
/-- f(e, ..), f a built-in function -/
theorem pe_callB (hc : CallR X (.builtin id) r) (hg : Gl X x) (hm : X.mg x = none) (hv : bootBuiltins x = some (.builtin id)) (ha : PA X (e :: es) t) (hn : x ≠ "__name__" := by decide) (hdb : (x == ("__debug__" : Str)) = false := by decide)
    (he : starEach (e :: es) X.env = (false, eval e X.env) :: starEach es X.env := by rfl) (hpl : (backTo pos (starEach es X.env)).any (·.1) = false := by rfl) : PE X (.Call (.Name x p) (e :: es) [] pos) (tCB r t) := by
  intro pins s σ H Q I h
  refine wpAny_Call_Name_kw (ld_blt I hg hm hv ?_ hn hdb)
  exact PyProof.Rows.callWith_builtin1 (thn (ha pos pins s σ H _ I h) fun us s1 ⟨vs, H1, I1, r1, q1⟩ => hc pins s1 σ H1 vs us Q I1 r1 q1) he hpl
/-- T(e, ..), T a built-in type -/
theorem pe_callTy (hc : CallR X (.type T) r) (hg : Gl X x) (hm : X.mg x = none) (hv : bootBuiltins x = some (.type T)) (ha : PA X (e :: es) t) (hn : x ≠ "__name__" := by decide) (hdb : (x == ("__debug__" : Str)) = false := by decide)
    (he : starEach (e :: es) X.env = (false, eval e X.env) :: starEach es X.env := by rfl) (hpl : (backTo pos (starEach es X.env)).any (·.1) = false := by rfl) : PE X (.Call (.Name x p) (e :: es) [] pos) (tCB r t) := by
  intro pins s σ H Q I h
  refine wpAny_Call_Name_kw (ld_blt I hg hm hv ?_ hn hdb)
  exact PyProof.Rows.callWith_type1 (thn (ha pos pins s σ H _ I h) fun us s1 ⟨vs, H1, I1, r1, q1⟩ => hc pins s1 σ H1 vs us Q I1 r1 q1) he hpl
/-- T() -/
theorem pe_callTy0 (hc : CallR X (.type T) r) (hg : Gl X x) (hm : X.mg x = none) (hv : bootBuiltins x = some (.type T)) (hn : x ≠ "__name__" := by decide) (hdb : (x == ("__debug__" : Str)) = false := by decide) :
    PE X (.Call (.Name x p) [] [] pos) (tCB r tNil) := by
  intro pins s σ H Q I h
  refine wpAny_Call_Name_kw (ld_blt I hg hm hv ?_ hn hdb)
  exact PyProof.Rows.callWith_type0 (hc pins s σ H [] [] Q I .nil h)
end
end L2

namespace HT
open PySem PyProof.Rows

/-- t < u of tuples of ints -/
def lexLt : List Int → List Int → Bool
  | [], [] => false
  | [], _ :: _ => true
  | _ :: _, [] => false
  | x :: xs, y :: ys => if x = y then lexLt xs ys else decide (x < y)
theorem lexLt_cons (x y : Int) (xs ys : List Int) : lexLt (x :: xs) (y :: ys) = if x = y then lexLt xs ys else decide (x < y) := rfl
theorem lexLt_nil_nil : lexLt [] [] = false := rfl
theorem lexLt_nil_cons (y : Int) (ys : List Int) : lexLt [] (y :: ys) = true := rfl
theorem lexLt_cons_nil (x : Int) (xs : List Int) : lexLt (x :: xs) [] = false := rfl

theorem eqAt_int (A : Around) (s : Shared) (a : Int) (t : Tok) (c : Int) (u : Tok) : ∃ e, SeqAt.EqAt A s (.int a t) (.int c u) e ∧ (e = true ↔ a = c) :=
  ⟨(a == c), SeqAt.EqAt.int_int a t c u, by simp⟩
theorem rcLt_int (A : Around) (s : Shared) (a : Int) (t : Tok) (c : Int) (u : Tok) (prog : Program) (w : World) (E : Value → Shared → Prop) (Q : Value → Shared → Prop) (h : Q (.bool (decide (a < c))) s) :
    wpAny (model prog w) A (richCompare .Lt (.int a t) (.int c u)) Q E s :=
  (PyProof.Rows.lt_int h : wpAny (model prog w) A (compareOp .Lt (.int a t) (.int c u)) Q E s)

section
open PySem.SeqAt
open PySem.AutoSeq1 (wpAny_loadPart')
open PySem.MeetsSeq PySem.MeetsSeq2 PySem.MeetsSeq3

theorem tuple_lt_ints (l b : Addr) (items items2 : Array Value) (n n2 : Nat) (dd dd2 : Option Addr) (sl sl2 : Array (Option Value)) (ns ms : List Int) (hi : IntsAre items.toList ns) (hj : IntsAre items2.toList ms) :
    Meets (Builtin.«tuple.__lt__» ⟨[.ref l, .ref b], []⟩)
      (fun _ R s => s.heap.get? l = some { cls := .type "tuple", dict := dd, data := .seq items n, slots := sl } ∧ s.heap.get? b = some { cls := .type "tuple", dict := dd2, data := .seq items2 n2, slots := sl2 } ∧
        R (.ok (.ret (.bool (lexLt ns ms)))) s) :=
  .of_wp fun prog w A R s h => by
    obtain ⟨hp, g, d, tk, os⟩ := s; obtain ⟨hl, hb, h⟩ := h
    have f2 := AutoSeq1.sub_tuple_tuple
    have z1 : items.size = ns.length := by rw [← hi.length]; simp
    have z2 : items2.size = ms.length := by rw [← hj.length]; simp
    wp_walk using wpAny_loadPart' hl, wpAny_loadPart' hb, wpAny_forIn_list _ (fun rest b s' => b.1 = none ∧ s' = ⟨hp, g, d, tk, os⟩ ∧ ∃ (vs ws : List Value) (ns' ms' : List Int), rest = vs.zip ws ∧
      IntsAre vs ns' ∧ IntsAre ws ms' ∧ ns'.length + items2.size = ms'.length + items.size ∧ R (.ok (.ret (.bool (lexLt ns' ms')))) ⟨hp, g, d, tk, os⟩) _
    case turn =>
      rintro ⟨y, x⟩ rest b s' ⟨hb', rfl, vs, ws, ns', ms', hz, hvi, hwi, hlen, hR⟩
      cases hvi with
      | nil => rw [List.zip_nil_left] at hz; cases hz
      | cons a t hvi' =>
        cases hwi with
        | nil => rw [List.zip_nil_right] at hz; cases hz
        | cons c u hwi' =>
          rw [List.zip_cons_cons] at hz
          injection hz with hyx hrest
          injection hyx with hy hx
          subst hy hx
          rw [lexLt_cons] at hR
          simp only [List.length_cons] at hlen
          obtain ⟨e, he, hiff⟩ := eqAt_int A.in1 ⟨hp, g, d, tk, os⟩ a t c u
          refine wpAny_bind (he prog w _ _ ?_)
          cases e with
          | true =>
            rw [if_pos (hiff.mp rfl)] at hR
            wp_walk
            exact ⟨rfl, rfl, _, _, _, _, hrest, hvi', hwi', by omega, hR⟩
          | false =>
            rw [if_neg (fun q => absurd (hiff.mpr q) Bool.false_ne_true)] at hR
            have hri := rcLt_int A.in1 ⟨hp, g, d, tk, os⟩ a t c u prog w
            wp_walk using hri
            exact ⟨_, rfl, by simpa using hR⟩
    case fin =>
      rintro ⟨b1, b2⟩ s' ⟨hb', rfl, vs, ws, ns', ms', hz, hvi, hwi, hlen, hR⟩
      simp only at hb'
      subst hb'
      have hv : lexLt ns' ms' = decide (items.size < items2.size) := by
        cases hvi with
        | nil =>
          cases hwi with
          | nil =>
            simp only [List.length_nil] at hlen
            rw [lexLt_nil_nil]
            exact (decide_eq_false (by omega)).symm
          | cons c u hw =>
            simp only [List.length_nil, List.length_cons] at hlen
            rw [lexLt_nil_cons]
            exact (decide_eq_true (by omega)).symm
        | cons a t hv =>
          cases hwi with
          | nil =>
            simp only [List.length_nil, List.length_cons] at hlen
            rw [lexLt_cons_nil]
            exact (decide_eq_false (by omega)).symm
          | cons c u hw =>
            rw [List.zip_cons_cons] at hz
            cases hz
      rw [hv] at hR
      wp_walk
      exact ⟨_, rfl, by simpa [Builtin.Tuple.tupleCompareSizes] using hR⟩
    case h =>
      exact ⟨rfl, rfl, items.toList, items2.toList, ns, ms, rfl, hi, hj, by omega, h⟩
end

section
variable {prog : Program} {w : World} {A : Around} {E : Value → Shared → Prop} {s : Shared}

theorem lt_tupInts {l b : Addr} {items items2 : Array Value} {ns ms : List Int} {Q : Value → Shared → Prop} (hl : IsTup s.heap l items) (hb : IsTup s.heap b items2) (hi : IntsAre items.toList ns) (hj : IntsAre items2.toList ms)
    (hu : A.units < cLine) (h : Q (.bool (lexLt ns ms)) s) : wpAny (model prog w) A (compareOp .Lt (.ref l) (.ref b)) Q E s := by
  obtain ⟨⟨cls, dd, data, sl⟩, ho, hc, n, hd⟩ := id hl
  obtain ⟨⟨cls2, dd2, data2, sl2⟩, ho2, hc2, n2, hd2⟩ := id hb
  simp only at hc hd hc2 hd2
  subst hc hd hc2 hd2
  exact richCompare_meets_room (op := .Lt) ⟨_, ho, rfl⟩ ⟨_, ho2, rfl⟩ PySem.F.slot_tuple_lt PySem.F.entry_tuple_lt (PySem.F.args_tuple_lt_2 _ _) (tuple_lt_ints l b items items2 n n2 dd dd2 sl sl2 ns ms hi hj)
    ⟨ho, ho2, show Value.bool (lexLt ns ms) ≠ Value.notImplemented ∧ Q (.bool (lexLt ns ms)) s from ⟨(fun x => nomatch x), h⟩⟩ hu

/-- t + u, t not empty -/
theorem cat_tup {t b : Addr} {vs ws : List Value} {Q : Value → Shared → Prop} (ht : IsTup s.heap t vs.toArray) (hb : IsTup s.heap b ws.toArray) (hv : vs ≠ [])
    (h1 : ws = [] → Q (.ref t) s) (h2 : ws ≠ [] → Q (.ref s.heap.objs.size) { s with heap := s.heap.push { cls := .type "tuple", data := .seq (vs ++ ws).toArray } })
    (hsz : vs.length + ws.length ≤ sizeLine) : wpAny (model prog w) A (binaryOp .Add (.ref t) (.ref b)) Q E s := by
  obtain ⟨⟨cls, dd, data, sl⟩, ho, hc, n, hd⟩ := id ht
  obtain ⟨⟨cls2, dd2, data2, sl2⟩, ho2, hc2, n2, hd2⟩ := id hb
  simp only at hc hd hc2 hd2
  subst hc hd hc2 hd2
  have e : vs.toArray ++ ws.toArray = (vs ++ ws).toArray := by simp
  by_cases hw : ws = []
  · exact concat_meets ⟨_, ho, rfl⟩ ⟨_, ho2, rfl⟩ noFill_tuple_add seq_tuple_add PySem.F.slot_tuple_add PySem.F.entry_tuple_add (PySem.F.args_tuple_add_2 _ _)
      (tuple_addW1 t b vs.toArray ws.toArray n n2 dd dd2 sl sl2 (by simpa using hv) (by simp [hw])) ⟨ho, ho2, h1 hw⟩
  · refine concat_meets ⟨_, ho, rfl⟩ ⟨_, ho2, rfl⟩ noFill_tuple_add seq_tuple_add PySem.F.slot_tuple_add PySem.F.entry_tuple_add (PySem.F.args_tuple_add_2 _ _)
      (tuple_addW2 t b vs.toArray ws.toArray n n2 dd dd2 sl sl2 (by simpa using hv) (by simpa using hw) (by rw [List.size_toArray, List.size_toArray]; exact hsz)) ⟨ho, ho2, ?_⟩
    rw [e]
    exact h2 hw

/-! ### t[a:b], not the whole -/
/-- a slice's bound as a place among n (d where it is left out) -/
def sIx (n d : Nat) : Option Int → Nat
  | none => d
  | some v => if v < 0 then (v + (n : Int)).toNat else min v.toNat n
theorem sIx_none (n d : Nat) : sIx n d none = d := rfl
theorem sIx_nat (n d k : Nat) : sIx n d (some (k : Int)) = min k n := by
  show (if (k : Int) < 0 then ((k : Int) + (n : Int)).toNat else min (k : Int).toNat n) = min k n
  rw [if_neg (by omega), Int.toNat_natCast]
theorem sIx_le (n d : Nat) (hd : d ≤ n) (o : Option Int) : sIx n d o ≤ n := by
  cases o with
  | none => exact hd
  | some v =>
    show (if v < 0 then (v + (n : Int)).toNat else min v.toNat n) ≤ n
    by_cases hv : v < 0
    · rw [if_pos hv]; omega
    · rw [if_neg hv]; exact Nat.min_le_right _ _
theorem clip_eq (v : Int) (n d : Nat) : (if v < 0 then max (v + (n : Int)) 0 else min v (n : Int)) = ((sIx n d (some v) : Nat) : Int) := by
  show (if v < 0 then max (v + (n : Int)) 0 else min v (n : Int)) = (((if v < 0 then (v + (n : Int)).toNat else min v.toNat n) : Nat) : Int)
  by_cases hv : v < 0
  · simp only [if_pos hv]; omega
  · simp only [if_neg hv]; omega
theorem adjust_gen (lo hi : Option Int) (n : Nat) : Builtin.Slice.sliceAdjust lo hi 1 (n : Int) = (((sIx n 0 lo : Nat) : Int), ((sIx n n hi : Nat) : Int)) := by
  have h1 : ¬ ((1 : Int) < 0) := by omega
  unfold Builtin.Slice.sliceAdjust
  simp only [h1, if_false]
  refine Prod.ext ?_ ?_
  · cases lo with
    | none => rfl
    | some v => exact clip_eq v n 0
  · cases hi with
    | none => rfl
    | some v => exact clip_eq v n n
theorem places_gen (i j : Nat) : Builtin.Slice.slicePlaces (i : Int) (j : Int) 1 = j - i := by
  unfold Builtin.Slice.slicePlaces
  have h1 : (1 : Int) > 0 := by omega
  simp only [h1, if_true, Int.ediv_one]
  split <;> omega
theorem slicePart_ {v : Value} {o : Option Int} {Q : Option Int → Shared → Prop} (p : IsPart v o) (h : Q o s) : wpAny (model prog w) A (Builtin.Slice.slicePartIndex v) Q E s := by
  cases p with
  | none => exact slicePart_none h
  | int i t => exact slicePart_int h
theorem sliceApplied_gen {sl : Addr} {vl vu : Value} {lo hi : Option Int} {n : Nat} {Q : Int × Int × Nat → Shared → Prop} (hs : s.heap.IsSliceOf sl vl vu .none) (pl : IsPart vl lo) (pu : IsPart vu hi)
    (h : Q (((sIx n 0 lo : Nat) : Int), 1, sIx n n hi - sIx n 0 lo) s) : wpAny (model prog w) A (Builtin.Slice.sliceApplied (.ref sl) (pure (n : Int))) Q E s := by
  obtain ⟨os, hos, hcs, hds⟩ := id hs
  unfold Builtin.Slice.sliceApplied Builtin.Slice.sliceFields
  refine wpAny_bind (wpAny_bind (wpAny_field hos hds (x := vl) rfl (wpAny_bind (wpAny_field hos hds (x := vu) rfl (wpAny_bind (wpAny_field hos hds (x := .none) rfl (wpAny_pure ?_)))))))
  refine wpAny_bind (slicePart_none ?_)
  show wpAny _ _ (if ((1 : Int) == 0) = true then _ else _) _ _ s
  rw [if_neg (by decide)]
  refine wpAny_bind (slicePart_ pl (wpAny_bind (slicePart_ pu (wpAny_bind (wpAny_pure ?_)))))
  show wpAny _ _ (match Builtin.Slice.sliceAdjust lo hi 1 (n : Int) with | (lo, hi) => pure (lo, (1 : Int), Builtin.Slice.slicePlaces lo hi 1)) _ _ s
  rw [adjust_gen lo hi n]
  show wpAny _ _ (pure (((sIx n 0 lo : Nat) : Int), (1 : Int), Builtin.Slice.slicePlaces ((sIx n 0 lo : Nat) : Int) ((sIx n n hi : Nat) : Int) 1)) _ _ s
  rw [places_gen]
  exact wpAny_pure h
theorem pick_gen (xs : Array Value) (i k : Nat) : ((List.range k).filterMap fun (m : Nat) => xs[((i : Int) + (m : Int) * 1).toNat]?).toArray = ((xs.toList.drop i).take k).toArray := by
  have e : (fun (m : Nat) => xs[((i : Int) + (m : Int) * 1).toNat]?) = fun m => xs[i + m]? := by
    funext m
    have : ((i : Int) + (m : Int) * 1).toNat = i + m := by omega
    rw [this]
  rw [e]
  have := pick_run xs i k
  rw [List.filterMap_map] at this
  have e2 : ((fun x => xs[x]?) ∘ fun x => i + x) = fun m => xs[i + m]? := rfl
  rw [e2] at this
  rw [this]

theorem getItem_tuple_cut {t sl : Addr} {items : Array Value} {vl vu : Value} {lo hi : Option Int} {Q : Value → Shared → Prop} (ht : IsTup s.heap t items) (hs : s.heap.IsSliceOf sl vl vu .none) (pl : IsPart vl lo) (pu : IsPart vu hi)
    (hw : ¬ (sIx items.size 0 lo = 0 ∧ sIx items.size items.size hi = items.size))
    (h : Q (.ref s.heap.objs.size) { s with heap := s.heap.push { cls := .type "tuple", data := .seq ((items.toList.drop (sIx items.size 0 lo)).take (sIx items.size items.size hi - sIx items.size 0 lo)).toArray } })
    (hsz : items.size ≤ sizeLine) : wpAny (model prog w) A (getItem (.ref t) (.ref sl)) Q E s := by
  have htake : sizeOk (.seq ((items.toList.drop (sIx items.size 0 lo)).take (sIx items.size items.size hi - sIx items.size 0 lo)).toArray) := by
    show ((items.toList.drop (sIx items.size 0 lo)).take (sIx items.size items.size hi - sIx items.size 0 lo)).toArray.size ≤ sizeLine
    rw [List.size_toArray, List.length_take, List.length_drop, Array.length_toList]
    omega
  have hj : sIx items.size items.size hi ≤ items.size := sIx_le _ _ (Nat.le_refl _) hi
  obtain ⟨os, hos, hcs, hds⟩ := id hs
  have hTs : s.TypeIs (.ref sl) "slice" := ⟨os, hos, hcs⟩
  unfold getItem
  try with_reducible refine wpAny_holding ?_
  first | refine wpAny_bind (wpAny_pure ?_) | skip
  refine wpAny_bind (wpAny_sequenceKey ht.typeIs (by decide) ?_)
  refine wpAny_bind (wpAny_callSpecial?_slot (name := Str.ofString "__getitem__") ht.typeIs PyProof.Rows.slot_tuple_getitem
    (wpAny_call_entry PyProof.Rows.slot_tuple_getitem ht.typeIs entry_tuple_getitem ?_ (args_tuple_getitem _ _)))
  show wpAny _ _ (Builtin.Tuple.tupleItemsOf (.ref t) >>= _) _ _ s
  refine wpAny_bind (tupleItemsOf_ ht ?_)
  refine wpAny_bind (wpAny_typeOf hTs ?_)
  rw [if_pos (by decide)]
  refine wpAny_bind (sliceApplied_gen hs pl pu ?_)
  have hno : ¬ ((((sIx items.size 0 lo : Nat) : Int) == 0 && (1 : Int) == 1 && (sIx items.size items.size hi - sIx items.size 0 lo) == items.size) = true) := by
    intro q
    rw [Bool.and_eq_true, Bool.and_eq_true] at q
    have q1 : ((sIx items.size 0 lo : Nat) : Int) = 0 := eq_of_beq q.1.1
    have q2 : sIx items.size items.size hi - sIx items.size 0 lo = items.size := eq_of_beq q.2
    exact hw ⟨by omega, by omega⟩
  show wpAny _ _ (if (((sIx items.size 0 lo : Nat) : Int) == 0 && (1 : Int) == 1 && (sIx items.size items.size hi - sIx items.size 0 lo) == items.size) = true then _ else _) _ _ s
  rw [if_neg hno, pick_gen]
  first
    | exact wpAny_bind (m := Builtin.Tuple.tupleExact _) (wpAny_newObj_type (wpAny_pure ⟨_, rfl, wpAny_pure h⟩) htake)
    | exact wpAny_bind (m := Builtin.Tuple.tupleExact _) (wpAny_newObj_type (wpAny_bind (wpAny_pure (wpAny_pure ⟨_, rfl, wpAny_pure h⟩))) htake)
    | exact wpAny_bind (wpAny_bind (m := Builtin.Tuple.tupleExact _) (wpAny_newObj_type (wpAny_pure (wpAny_pure ⟨_, rfl, wpAny_pure h⟩)) htake))
    | exact wpAny_bind (wpAny_bind (m := Builtin.Tuple.tupleExact _) (wpAny_newObj_type (wpAny_pure ⟨_, rfl, wpAny_pure h⟩) htake))
end
end HT

namespace L2
open PySem PySem.Spec PyProof.Rows

/-! ### the parts of a slice -/
abbrev TO := St → Hp → (Option Int → Hp → Prop) → Prop
/-- a slice's part (left out, or an int) -/
def PO (X : Cx) (e : Option Expr) (t : TO) : Prop :=
  ∀ (pins : List (Addr × Obj)) (s : Shared) (σ : St) (H : Hp) (Q : Option Int → Hp → Prop), Inv X pins σ H s → t σ H Q →
    wpAny (model X.prog X.w) X.A (evalPart e X.env) (fun u s' => ∃ o H', Inv X pins σ H' s' ∧ IsPart u o ∧ Q o H') X.xe s
def tNoPart : TO := fun _ H Q => Q none H
def tPart (t : TE) : TO := fun σ H Q => t σ H fun x H1 => ∃ i, x = .int i ∧ Q (some i) H1

theorem intsAre_of {ns : List Int} : ∀ {us : List Value}, Vals (ns.map V.int) us → IntsAre us ns := by
  induction ns with
  | nil => intro us r; rw [List.map_nil] at r; cases r; exact .nil
  | cons n ns ih =>
    intro us r
    rw [List.map_cons] at r
    cases r with
    | cons r1 r2 =>
      obtain ⟨t, e⟩ := r1
      subst e
      exact .cons n t (ih r2)

section
variable {X : Cx} {e : Expr} {te : TE} {lo hi : Option Expr} {tl th : TO} {pos p2 : Pos}

theorem po_none : PO X none tNoPart := by
  intro pins s σ H Q I h
  rw [evalPart_none]
  exact wpAny_pure ⟨none, H, I, .none, h⟩
theorem po_some (h : PE X e te) : PO X (some e) (tPart te) := by
  intro pins s σ H Q I hw
  rw [evalPart_some]
  refine thn (h pins s σ H _ I hw) fun u s1 ⟨x, H1, I1, r1, q1⟩ => ?_
  obtain ⟨i, rfl, q⟩ := q1
  obtain ⟨t, rfl⟩ := r1
  exact ⟨some i, H1, I1, .int i t, q⟩

/-- what a slice of a value is, by values: the slice object stands at sl -/
def SlR (X : Cx) (r : V → Option Int → Option Int → Hp → VK → Prop) : Prop :=
  ∀ (pins : List (Addr × Obj)) (s : Shared) (σ : St) (H : Hp) (x : V) (v vl vu : Value) (lo hi : Option Int) (sl : Addr) (Q : VK), Inv X pins σ H s → RelV x v → s.heap.IsSliceOf sl vl vu .none → IsPart vl lo → IsPart vu hi → r x lo hi H Q →
    ∃ T id, typeLookup (.type T) "__getitem__" = pure (some (.builtin id)) ∧ s.TypeIs v T ∧ wpAny (model X.prog X.w) X.A (getItem v (.ref sl)) (EP X pins σ Q) X.xe s
theorem SlR.or {r r' : V → Option Int → Option Int → Hp → VK → Prop} (h : SlR X r) (h' : SlR X r') : SlR X (fun x lo hi H Q => r x lo hi H Q ∨ r' x lo hi H Q) := by
  intro pins s σ H x v vl vu lo hi sl Q I rx hs pl pu q
  rcases q with q | q
  · exact h pins s σ H x v vl vu lo hi sl Q I rx hs pl pu q
  · exact h' pins s σ H x v vl vu lo hi sl Q I rx hs pl pu q
def tSl (r : V → Option Int → Option Int → Hp → VK → Prop) (te : TE) (tl th : TO) : TE := fun σ H Q => te σ H fun x H1 => tl σ H1 fun l H2 => th σ H2 fun u H3 => r x l u H3 Q
/-- a[lo:hi], any a -/
theorem pe_slice {r : V → Option Int → Option Int → Hp → VK → Prop} (hr : SlR X r) (he : PE X e te) (hl : PO X lo tl) (hu : PO X hi th) : PE X (.Subscript e (.Slice lo hi none p2) pos) (tSl r te tl th) := by
  intro pins s σ H Q I h
  refine Subscript_ (thn (he pins s σ H _ I h) fun v s1 ⟨x, H1, I1, r1, q1⟩ => ?_)
  refine wpAny_Slice (thn (hl pins s1 σ H1 _ I1 q1) fun vl s2 ⟨l, H2, I2, pl, q2⟩ => thn (hu pins s2 σ H2 _ I2 q2) fun vu s3 ⟨u, H3, I3, pu, q3⟩ => ?_)
  rw [evalPart_none]
  refine wpAny_pure ?_
  have I4 : Inv X pins σ H3 { s3 with heap := s3.heap.push { cls := .type "slice", data := .fields #[vl, vu, .none] } } := I3.kept (t' := s3.toks) fun b ob q => Heap.get?_push_of_some _ q
  obtain ⟨T, id, hT, ht, hg⟩ := hr pins { s3 with heap := s3.heap.push { cls := .type "slice", data := .fields #[vl, vu, .none] } } σ H3 x v vl vu l u s3.heap.objs.size Q I4 r1 (Heap.IsSliceOf.new ..) pl pu q3
  show wpAny (model X.prog X.w) X.A (subscriptTail e (.Slice lo hi none p2) v (.ref s3.heap.objs.size)) (EP X pins σ Q) X.xe { s3 with heap := s3.heap.push { cls := .type "slice", data := .fields #[vl, vu, .none] } }
  exact tail_any (ops := [.ref s3.heap.objs.size, v]) ht hT hg (by with_unfolding_all rfl)

/-- the items of xs[lo:hi] -/
def cutV (xs : List V) (lo hi : Option Int) : List V := (xs.drop (HT.sIx xs.length 0 lo)).take (HT.sIx xs.length xs.length hi - HT.sIx xs.length 0 lo)
theorem cutV_length (xs : List V) (lo hi : Option Int) : (cutV xs lo hi).length ≤ xs.length := by
  unfold cutV
  rw [List.length_take, List.length_drop]
  omega
/-- t[lo:hi], not the whole of it (the whole would be t itself) -/
def rSlT (K : PySem.W.Frag) : V → Option Int → Option Int → Hp → VK → Prop := fun x lo hi H Q => ∃ a xs, x = .ref a ∧ SqT K H a xs ∧
  ¬ (HT.sIx xs.length 0 lo = 0 ∧ HT.sIx xs.length xs.length hi = xs.length) ∧ ∀ p, H p = none → Q (.ref p) (upd H p (.tup (cutV xs lo hi)))
theorem sl_tup : SlR X (rSlT X.K) := by
  intro pins s σ H x v vl vu lo hi sl Q I rx hs pl pu h
  obtain ⟨a, xs, rfl, hx, hw, q⟩ := h
  cases rx
  obtain ⟨its, r, ht, hz⟩ := I.tuple hx
  have hlen : its.toArray.size = xs.length := by rw [List.size_toArray]; exact r.length.symm
  refine ⟨"tuple", _, PyProof.Rows.slot_tuple_getitem.lookup, ht.typeIs, ?_⟩
  refine HT.getItem_tuple_cut ht hs pl pu (by rw [hlen]; exact hw) ?_ (by rw [hlen]; exact hz)
  rw [hlen]
  refine ⟨.ref s.heap.objs.size, _, I.laid (t' := s.toks) (o := .tup (cutV xs lo hi)) (fun b ob q => Heap.get?_push_of_some _ q) (Nat.le_refl _) ?_, rfl, q _ (I.hok.fresh (Nat.le_refl _))⟩
  exact ⟨Nat.le_trans (cutV_length xs lo hi) hz, _, (r.drop (HT.sIx xs.length 0 lo)).take (HT.sIx xs.length xs.length hi - HT.sIx xs.length 0 lo), IsTup.new _ _⟩

/-! ### t < u, t + u -/
def rLtT (K : PySem.W.Frag) : R2 := fun x y H Q => ∃ a b ns ms, x = .ref a ∧ y = .ref b ∧ SqT K H a (ns.map V.int) ∧ SqT K H b (ms.map V.int) ∧ Q (.bl (HT.lexLt ns ms)) H
theorem op_ltT (hu : X.A.units < cLine) : OpR X (compareOp .Lt) (rLtT X.K) := by
  intro pins s σ H x y v u Q I rx ry h
  obtain ⟨a, b, ns, ms, rfl, rfl, ha, hb, q⟩ := h
  cases rx
  cases ry
  obtain ⟨its, r1, p1, _⟩ := I.tuple ha
  obtain ⟨its2, r2, p2, _⟩ := I.tuple hb
  have i1 : IntsAre its.toArray.toList ns := intsAre_of r1
  have i2 : IntsAre its2.toArray.toList ms := intsAre_of r2
  exact HT.lt_tupInts p1 p2 i1 i2 hu ⟨.bl (HT.lexLt ns ms), H, I, rfl, q⟩
/-- t + u, t not empty: u empty gives t itself -/
def rCatT (K : PySem.W.Frag) : R2 := fun x y H Q => ∃ a b xs ys, x = .ref a ∧ y = .ref b ∧ SqT K H a xs ∧ SqT K H b ys ∧ xs ≠ [] ∧ xs.length + ys.length ≤ sizeLine ∧
  (ys = [] → Q (.ref a) H) ∧ (ys ≠ [] → ∀ p, H p = none → Q (.ref p) (upd H p (.tup (xs ++ ys))))
theorem Vals.nil_iff {xs : List V} {us : List Value} (r : Vals xs us) : us = [] ↔ xs = [] := by
  cases r with
  | nil => simp
  | cons _ _ => simp
theorem op_catT : OpR X (binaryOp .Add) (rCatT X.K) := by
  intro pins s σ H x y v u Q I rx ry h
  obtain ⟨a, b, xs, ys, rfl, rfl, ha, hb, hx, hz, q1, q2⟩ := h
  cases rx
  cases ry
  obtain ⟨its, r1, p1, _⟩ := I.tuple ha
  obtain ⟨its2, r2, p2, _⟩ := I.tuple hb
  refine HT.cat_tup p1 p2 (fun z => hx (r1.nil_iff.mp z)) (fun z => ⟨.ref a, H, I, rfl, q1 (r2.nil_iff.mp z)⟩) (fun z => ?_) (by rw [← r1.length, ← r2.length]; exact hz)
  refine ⟨.ref s.heap.objs.size, _, I.laid (t' := s.toks) (o := .tup (xs ++ ys)) (fun b ob q => Heap.get?_push_of_some _ q) (Nat.le_refl _) ?_, rfl, q2 (fun w => z (r2.nil_iff.mpr w)) _ (I.hok.fresh (Nat.le_refl _))⟩
  exact ⟨by rw [List.length_append]; exact hz, _, r1.append r2, IsTup.new _ _⟩
/-- tuple(t) -/
theorem call_tupleT : CallR X (.type "tuple") (fun xs H Q => ∃ a ys, xs = [.ref a] ∧ SqT X.K H a ys ∧ Q (.ref a) H) := by
  intro pins s σ H xs us Q I r h
  obtain ⟨a, ys, rfl, ha, q⟩ := h
  obtain ⟨u, rfl, ru⟩ := vals1 r
  cases ru
  obtain ⟨its, _, p1, _⟩ := I.tuple ha
  exact call_tuple_same (items := its.toArray) p1 ⟨.ref a, H, I, rfl, q⟩
end
end L2

namespace L2
open PySem PySem.Spec PyProof.Rows

/-! ### places -/
/-- the place that an index of any sign means -/
def ixN (n : Nat) (i : Int) : Option Nat := if 0 ≤ i then (if i < n then some i.toNat else none) else if -(n : Int) ≤ i then some (i + n).toNat else none
def atI {α : Type} (xs : List α) (i : Int) : Option α := (ixN xs.length i).bind fun j => xs[j]?
theorem ixN_seq {n : Nat} {i : Int} {j : Nat} (h : ixN n i = some j) : seqIndex? i n = some j ∧ j < n ∧ -(n : Int) ≤ i ∧ i < n := by
  unfold ixN at h
  by_cases h0 : 0 ≤ i
  · rw [if_pos h0] at h
    by_cases h1 : i < n
    · rw [if_pos h1] at h
      have e : i.toNat = j := Option.some.inj h
      exact ⟨by rw [seqIndex_of h0 h1, e], by omega, by omega, h1⟩
    · rw [if_neg h1] at h; cases h
  · rw [if_neg h0] at h
    by_cases h1 : -(n : Int) ≤ i
    · rw [if_pos h1] at h
      have e : (i + n).toNat = j := Option.some.inj h
      exact ⟨by rw [seqIndex_neg (by omega) h1, e], by omega, h1, by omega⟩
    · rw [if_neg h1] at h; cases h
theorem atI_get {α : Type} {xs : List α} {i : Int} {v : α} (h : atI xs i = some v) : ∃ j, seqIndex? i xs.length = some j ∧ xs[j]? = some v ∧ j < xs.length ∧ -(xs.length : Int) ≤ i ∧ i < xs.length := by
  unfold atI at h
  cases e : ixN xs.length i with
  | none => rw [e] at h; cases h
  | some j =>
    rw [e] at h
    obtain ⟨h1, h2, h3, h4⟩ := ixN_seq e
    exact ⟨j, h1, h, h2, h3, h4⟩
theorem atI_nat {α : Type} {xs : List α} {j : Nat} {v : α} (h : xs[j]? = some v) : atI xs (j : Int) = some v := by
  have hj : j < xs.length := (List.getElem?_eq_some_iff.mp h).1
  have e : ixN xs.length (j : Int) = some j := by
    unfold ixN
    rw [if_pos (by omega), if_pos (by omega)]; simp
  unfold atI; rw [e]; exact h
theorem atI_last {α : Type} (xs : List α) (v : α) : atI (xs ++ [v]) (-1) = some v := by
  have hl : (xs ++ [v]).length = xs.length + 1 := by simp
  have e : ixN (xs ++ [v]).length (-1) = some xs.length := by
    unfold ixN
    rw [hl, if_neg (by decide), if_pos (by omega)]
    congr 1
    omega
  unfold atI
  rw [e]
  show (xs ++ [v])[xs.length]? = some v
  simp

/-! ### what may be subscripted -/
/-- what stands as an index of a plain subscript -/
def PlainIx (b : Expr) : Prop := ∀ o i, subscripted b false o i = operate [o, i] (getItem o i)
/-- a subscript by values -/
def IxR (X : Cx) (r : R2) : Prop :=
  ∀ (value slice : Expr) (pins : List (Addr × Obj)) (s : Shared) (σ : St) (H : Hp) (x y : V) (v u : Value) (Q : VK), Inv X pins σ H s → RelV x v → RelV y u → r x y H Q →
    subscripted slice false v u = operate [v, u] (getItem v u) → wpAny (model X.prog X.w) X.A (subscriptTail value slice v u) (EP X pins σ Q) X.xe s
/-- a call of a builtin's method by values: the receiver, the arguments -/
def MtR (X : Cx) (id : String) (r : V → List V → Hp → VK → Prop) : Prop :=
  ∀ (pins : List (Addr × Obj)) (s : Shared) (σ : St) (H : Hp) (x : V) (xs : List V) (v : Value) (us : List Value) (Q : VK), Inv X pins σ H s → RelV x v → Vals xs us → r x xs H Q →
    wpAny (model X.prog X.w) X.A (call (.builtin id) (v :: us)) (EP X pins σ Q) X.xe s
section
variable {X : Cx} {a b : Expr} {ta tb : TE} {pos : Pos}
theorem IxR.or {r r' : R2} (h : IxR X r) (h' : IxR X r') : IxR X (fun x y H Q => r x y H Q ∨ r' x y H Q) := by
  intro value slice pins s σ H x y v u Q I rx ry q hs
  rcases q with q | q
  · exact h value slice pins s σ H x y v u Q I rx ry q hs
  · exact h' value slice pins s σ H x y v u Q I rx ry q hs
theorem MtR.or {id : String} {r r' : V → List V → Hp → VK → Prop} (h : MtR X id r) (h' : MtR X id r') : MtR X id (fun x xs H Q => r x xs H Q ∨ r' x xs H Q) := by
  intro pins s σ H x xs v us Q I rx rs q
  rcases q with q | q
  · exact h pins s σ H x xs v us Q I rx rs q
  · exact h' pins s σ H x xs v us Q I rx rs q
/-- a[b] -/
theorem pe_ix {r : R2} (hr : IxR X r) (ha : PE X a ta) (hb : PE X b tb) (hs : PlainIx b) : PE X (.Subscript a b pos) (tOp r ta tb) := by
  intro pins s σ H Q I h
  exact Subscript_ (binT ha hb I h fun v u s2 x y H2 I2 rx ry q => hr a b pins s2 σ H2 x y v u Q I2 rx ry q (hs _ _))

def rIxL (K : PySem.W.Frag) : R2 := fun x y H Q => ∃ p xs i v, x = .ref p ∧ y = .int i ∧ SqL K H p xs ∧ atI xs i = some v ∧ Q v H
def rIxT (K : PySem.W.Frag) : R2 := fun x y H Q => ∃ p xs i v, x = .ref p ∧ y = .int i ∧ SqT K H p xs ∧ atI xs i = some v ∧ Q v H
def rIxS : R2 := fun x y H Q => ∃ z i c, x = .str z ∧ y = .int i ∧ z.length ≤ sizeLine ∧ atI z.cps.toList i = some c ∧ Q (.str ⟨#[c]⟩) H
theorem ix_list : IxR X (rIxL X.K) := by
  intro value slice pins s σ H x y v u Q I rx ry h hs
  obtain ⟨p, xs, i, z, rfl, rfl, hq, he, q⟩ := h
  cases rx
  obtain ⟨t, rfl⟩ := ry
  obtain ⟨its, r, pl, hz⟩ := I.list hq
  obtain ⟨j, h1, h2, h3, h4, h5⟩ := atI_get he
  obtain ⟨w, ew, rw'⟩ := r.get h2
  have hl := r.length
  have hn := line63
  have fin : EP X pins σ Q w s := ⟨z, H, I, rw', q⟩
  by_cases h0 : 0 ≤ i
  · have hj : i.toNat = j := by
      rw [seqIndex_of h0 h5] at h1
      exact Option.some.inj h1
    exact item_listR pl.isList h0 (by omega) (by rw [hj]; simpa using ew) fin hs
  · have hj : (i + (its.toArray.size : Int)).toNat = j := by
      rw [seqIndex_neg (by omega) h4] at h1
      rw [List.size_toArray, ← hl]
      exact Option.some.inj h1
    exact subscriptTail_builtinR (x := w) pl.isList.typeIs slot_list_getitem.lookup
      (wpAny_getItem_list_neg (Q := fun r s' => r = w ∧ EP X pins σ Q r s') pl.isList (by omega) (by rw [List.size_toArray] <;> omega) (by omega) (by rw [hj]; simpa using ew) ⟨rfl, fin⟩) hs
theorem ix_tup : IxR X (rIxT X.K) := by
  intro value slice pins s σ H x y v u Q I rx ry h hs
  obtain ⟨p, xs, i, z, rfl, rfl, hq, he, q⟩ := h
  cases rx
  obtain ⟨t, rfl⟩ := ry
  obtain ⟨its, r, pl, hz⟩ := I.tuple hq
  obtain ⟨j, h1, h2, h3, h4, h5⟩ := atI_get he
  obtain ⟨w, ew, rw'⟩ := r.get h2
  have hl := r.length
  have hn := line63
  have fin : EP X pins σ Q w s := ⟨z, H, I, rw', q⟩
  exact subscriptTail_builtinR (x := w) pl.typeIs slot_tuple_getitem.lookup
    (getItem_tuple (j := j) (Q := fun r s' => r = w ∧ EP X pins σ Q r s') pl (by omega) (by omega) (by rw [List.size_toArray, ← hl]; exact h1) (by simpa using ew) ⟨rfl, fin⟩) hs
theorem ix_str : IxR X rIxS := by
  intro value slice pins s σ H x y v u Q I rx ry h hs
  obtain ⟨z, i, c, rfl, rfl, hz, he, q⟩ := h
  obtain ⟨t, rfl⟩ := rx
  obtain ⟨t', rfl⟩ := ry
  obtain ⟨j, h1, h2, h3, h4, h5⟩ := atI_get he
  have hl : z.cps.toList.length = z.length := by simp [Str.length]
  rw [hl] at h1 h4 h5
  have hn := line63
  exact tail_any (typeIs_str s z t) slot_str_getitem.lookup (getItem_str (c := c) (by
    have e1 : decide (i < -(2 ^ 63 : Int)) = false := decide_eq_false (by omega)
    have e2 : decide (i ≥ 2 ^ 63) = false := decide_eq_false (by omega)
    rw [e1, e2, Bool.or_false]) (by rw [h1]; simpa using h2) ⟨.str ⟨#[c]⟩, H, I.tok _, ⟨_, rfl⟩, q⟩) hs
/-- list, tuple or str -/
def rIx (K : PySem.W.Frag) : R2 := fun x y H Q => rIxL K x y H Q ∨ rIxT K x y H Q ∨ rIxS x y H Q
theorem ix_seq : IxR X (rIx X.K) := ix_list.or (ix_tup.or ix_str)

/-! ### xs[i] = v, any sign -/
/-- the list's object behind a store -/
theorem mapSeq_set (its : List Value) (n j : Nat) (u : Value) : Obj.mapSeq (·.setIfInBounds j u) { cls := .type "list", data := .seq its.toArray n } = { cls := .type "list", data := .seq (its.set j u).toArray n } := by
  simp [Obj.mapSeq]
theorem Inv.lst {pins : List (Addr × Obj)} {σ : St} {H : Hp} {s : Shared} {p : Addr} {xs : List V} (I : Inv X pins σ H s) (h : H p = some (.lst xs)) :
    ∃ (its : List Value) (n : Nat), Vals xs its ∧ s.heap.get? p = some { cls := .type "list", data := .seq its.toArray n } ∧ xs.length ≤ sizeLine := by
  obtain ⟨z, its, n, r, e⟩ := I.hok p _ h
  exact ⟨its, n, r, e, z⟩
/-- the list at p is written by an update of its object -/
theorem Inv.lstUpd {pins : List (Addr × Obj)} {σ : St} {H : Hp} {s : Shared} {p : Addr} {xs ys : List V} {its its' : List Value} {n n' : Nat} {f : Obj → Obj} (I : Inv X pins σ H s) (h : H p = some (.lst xs))
    (ho : s.heap.get? p = some { cls := .type "list", data := .seq its.toArray n }) (hf : f { cls := .type "list", data := .seq its.toArray n } = { cls := .type "list", data := .seq its'.toArray n' }) (r : Vals ys its') (hz : ys.length ≤ sizeLine) (t : Nat) :
    Inv X pins σ (upd H p (.lst ys)) { s with heap := s.heap.update p f, toks := t } := by
  have e : (s.heap.update p f).get? p = some { cls := .type "list", data := .seq its'.toArray n' } := by
    rw [Heap.get?_update_self f ho (by rw [hf] <;> rfl), hf]
  refine I.write (x := p) (e := p) (by rw [h]; trivial) (.inl rfl) (fun b u hb q => (Heap.get?_update_other _ _ (Ne.symm hb)).trans q) ⟨_, e⟩ ?_
  exact ⟨hz, its', n', r, e⟩
def rSetL : V → V → V → Hp → (Hp → Prop) → Prop := fun o i v H Q => ∃ p xs k j, o = .ref p ∧ i = .int k ∧ H p = some (.lst xs) ∧ ixN xs.length k = some j ∧ Q (upd H p (.lst (xs.set j v)))
theorem set_list : PSet X rSetL := by
  intro pins s σ H o i v ov iv u Q I ro ri rv h
  obtain ⟨p, xs, k, j, rfl, rfl, hp, hj, q⟩ := h
  cases ro
  obtain ⟨t, rfl⟩ := ri
  obtain ⟨its, n, r, ho, hz⟩ := I.lst hp
  obtain ⟨h1, h2, h3, h4⟩ := ixN_seq hj
  have hl := r.length
  have hn := line63
  have I' : Inv X pins σ (upd H p (.lst (xs.set j v))) { s with heap := s.heap.update p (Obj.mapSeq (·.setIfInBounds j u)) } :=
    I.lstUpd hp ho (mapSeq_set its n j u) (r.set rv j) (by rw [List.length_set]; exact hz) s.toks
  by_cases h0 : 0 ≤ k
  · have hk : k.toNat = j := by
      rw [seqIndex_of h0 h4] at h1
      exact Option.some.inj h1
    exact PySem.W.ki_setAt ho h0 (by omega) (by rw [List.size_toArray, ← hl]; exact h4) (by rw [hk]; exact ⟨_, I', q⟩)
  · have hk : (k + (its.toArray.size : Int)).toNat = j := by
      rw [seqIndex_neg (by omega) h3] at h1
      rw [List.size_toArray, ← hl]
      exact Option.some.inj h1
    exact PySem.W.ki_setBack ho (by omega) (by rw [List.size_toArray, ← hl]; exact h3) (by omega) (by rw [hk]; exact ⟨_, I', q⟩)

/-! ### slices -/
theorem slice_bounds (lo hi : Option Int) (n : Nat) : (sliceBounds lo hi none n).1 = ((HT.sIx n 0 lo : Nat) : Int) ∧ (sliceBounds lo hi none n).2.1 = ((HT.sIx n n hi : Nat) : Int) ∧ (sliceBounds lo hi none n).2.2 = 1 := by
  refine ⟨?_, ?_, rfl⟩
  · cases lo with
    | none => simp [sliceBounds, HT.sIx]
    | some i =>
      simp only [sliceBounds, HT.sIx, Option.getD_none, show (1 : Int) > 0 by decide, if_true]
      by_cases h : i < 0
      · simp only [h, if_true] <;> omega
      · simp only [h, if_false] <;> omega
  · cases hi with
    | none => simp [sliceBounds, HT.sIx]
    | some i =>
      simp only [sliceBounds, HT.sIx, Option.getD_none, show (1 : Int) > 0 by decide, if_true]
      by_cases h : i < 0
      · simp only [h, if_true] <;> omega
      · simp only [h, if_false] <;> omega
theorem slicePick_cut (its : List Value) (lo hi : Option Int) : slicePick its.toArray lo hi none = ((its.drop (HT.sIx its.length 0 lo)).take (HT.sIx its.length its.length hi - HT.sIx its.length 0 lo)).toArray := by
  obtain ⟨h1, h2, h3⟩ := slice_bounds lo hi its.toArray.size
  unfold slicePick
  rw [h1, h2, h3]
  simp only [sliceRange_one, pick_run, List.size_toArray] <;> rfl
/-- xs[lo:hi] of a list: a new list -/
def rSlL (K : PySem.W.Frag) : V → Option Int → Option Int → Hp → VK → Prop := fun x lo hi H Q => ∃ a xs, x = .ref a ∧ SqL K H a xs ∧ ∀ p, H p = none → Q (.ref p) (upd H p (.lst (cutV xs lo hi)))
theorem sl_list : SlR X (rSlL X.K) := by
  intro pins s σ H x v vl vu lo hi sl Q I rx hs pl pu h
  obtain ⟨a, xs, rfl, hx, q⟩ := h
  cases rx
  obtain ⟨its, r, ht, hz⟩ := I.list hx
  have hlen := r.length
  refine ⟨"list", _, slot_list_getitem.lookup, ht.isList.typeIs, ?_⟩
  refine wpAny_getItem_list_slice ht.isList hs pl pu .none (by simp) ?_ (by rw [List.size_toArray] <;> omega)
  rw [slicePick_cut, ← hlen]
  refine ⟨.ref s.heap.objs.size, _, I.laid (t' := s.toks) (o := .lst (cutV xs lo hi)) (fun b ob q => Heap.get?_push_of_some _ q) (Nat.le_refl _) ?_, rfl, q _ (I.hok.fresh (Nat.le_refl _))⟩
  exact ⟨Nat.le_trans (cutV_length xs lo hi) hz, _, 0, (r.drop (HT.sIx xs.length 0 lo)).take (HT.sIx xs.length xs.length hi - HT.sIx xs.length 0 lo), Heap.get?_push_size _ rfl⟩

/-! ### in, not in: flat items -/
def flatV : V → Bool
  | .non => true
  | .bl _ => true
  | .int _ => true
  | .str _ => true
  | _ => false
/-- == of flat values -/
def eqV : V → V → Bool
  | .non, .non => true
  | .bl a, .bl b => a == b
  | .bl a, .int b => (if a then 1 else 0) == b
  | .int a, .bl b => a == (if b then 1 else 0)
  | .int a, .int b => a == b
  | .str a, .str b => a == b
  | _, _ => false
theorem eqAt_V {A : Around} {s : Shared} {y x : V} {u v : Value} (ry : RelV y u) (rx : RelV x v) (fy : flatV y = true) (fx : flatV x = true) : SeqAt.EqAt A s u v (eqV y x) := by
  cases y with
  | non =>
    cases ry
    cases x with
    | non => cases rx; exact SeqAt.EqAt.same _
    | bl b => cases rx; exact SeqAt.EqAt.none_bool b
    | int b => obtain ⟨t, rfl⟩ := rx; exact SeqAt.EqAt.none_int b t
    | str b => obtain ⟨t, rfl⟩ := rx; exact SeqAt.EqAt.none_str b t
    | _ => exact absurd (show false = true from fx) Bool.false_ne_true
  | bl a =>
    cases ry
    cases x with
    | non => cases rx; exact SeqAt.EqAt.bool_none a
    | bl b => cases rx; exact SeqAt.EqAt.bool_bool a b
    | int b => obtain ⟨t, rfl⟩ := rx; exact SeqAt.EqAt.bool_int a b t
    | str b => obtain ⟨t, rfl⟩ := rx; exact SeqAt.EqAt.bool_str a b t
    | _ => exact absurd (show false = true from fx) Bool.false_ne_true
  | int a =>
    obtain ⟨t', rfl⟩ := ry
    cases x with
    | non => cases rx; exact SeqAt.EqAt.int_none a t'
    | bl b => cases rx; exact SeqAt.EqAt.int_bool a t' b
    | int b => obtain ⟨t, rfl⟩ := rx; exact SeqAt.EqAt.int_int a t' b t
    | str b => obtain ⟨t, rfl⟩ := rx; exact SeqAt.EqAt.int_str a t' b t
    | _ => exact absurd (show false = true from fx) Bool.false_ne_true
  | str a =>
    obtain ⟨t', rfl⟩ := ry
    cases x with
    | non => cases rx; exact SeqAt.EqAt.str_none a t'
    | bl b => cases rx; exact SeqAt.EqAt.str_bool a t' b
    | int b => obtain ⟨t, rfl⟩ := rx; exact SeqAt.EqAt.str_int a t' b t
    | str b => obtain ⟨t, rfl⟩ := rx; exact SeqAt.EqAt.str_str a t' b t
    | _ => exact absurd (show false = true from fx) Bool.false_ne_true
  | _ => exact absurd (show false = true from fy) Bool.false_ne_true
/-- the items' answers, read off the values (a value's own answer does not lean on its token) -/
def eqU (x : V) (u : Value) : Bool := match u with
  | .none => eqV .non x
  | .bool b => eqV (.bl b) x
  | .int i _ => eqV (.int i) x
  | .str z _ => eqV (.str z) x
  | _ => false
theorem eqU_of {x y : V} {u : Value} (r : RelV y u) (f : flatV y = true) : eqU x u = eqV y x := by
  cases y with
  | non => cases r; rfl
  | bl b => cases r; rfl
  | int i => obtain ⟨t, rfl⟩ := r; rfl
  | str z => obtain ⟨t, rfl⟩ := r; rfl
  | _ => exact absurd (show false = true from f) Bool.false_ne_true
theorem any_eqU {x : V} : ∀ {xs : List V} {us : List Value}, Vals xs us → xs.all flatV = true → us.any (eqU x) = xs.any fun y => eqV y x
  | _, _, .nil, _ => rfl
  | y :: xs, u :: us, .cons r t, f => by
    rw [List.all_cons, Bool.and_eq_true] at f
    rw [List.any_cons, List.any_cons, eqU_of r f.1, any_eqU t f.2]
theorem mem_eqAt {A : Around} {s : Shared} {x : V} {v : Value} (rx : RelV x v) (fx : flatV x = true) : ∀ {xs : List V} {us : List Value}, Vals xs us → xs.all flatV = true → ∀ u ∈ us, SeqAt.EqAt A s u v (eqU x u)
  | _, _, .nil, _ => fun u hu => by cases hu
  | y :: xs, u :: us, .cons r t, f => fun u' hu => by
    rw [List.all_cons, Bool.and_eq_true] at f
    rcases List.mem_cons.mp hu with rfl | hu
    · rw [eqU_of r f.1]; exact eqAt_V r rx f.1 fx
    · exact mem_eqAt rx fx t f.2 u' hu
def inV (x : V) (xs : List V) : Bool := xs.any fun y => eqV y x
/-- x in a list or tuple of flat items -/
def rIn (K : PySem.W.Frag) (neg : Bool) : R2 := fun x y H Q => ∃ p xs, y = .ref p ∧ (SqL K H p xs ∨ SqT K H p xs) ∧ flatV x = true ∧ xs.all flatV = true ∧ Q (.bl (if neg then !inV x xs else inV x xs)) H
theorem op_in_seq : OpR X (compareOp .In) (rIn X.K false) := by
  intro pins s σ H x y v u Q I rx ry h
  obtain ⟨p, xs, rfl, hq, fx, fs, q⟩ := h
  cases ry
  rcases hq with hq | hq
  · obtain ⟨its, r, pl, hz⟩ := I.list hq
    refine SeqAt.in_listAt (eqU x) pl.isList (fun w hw => mem_eqAt rx fx r fs w (by simpa using hw)) ⟨.bl _, H, I, rfl, ?_⟩
    rw [show its.toArray.any (eqU x) = its.any (eqU x) by simp, any_eqU r fs]
    exact q
  · obtain ⟨its, r, pl, hz⟩ := I.tuple hq
    refine SeqAt.in_tupleAt (eqU x) pl (fun w hw => mem_eqAt rx fx r fs w (by simpa using hw)) ⟨.bl _, H, I, rfl, ?_⟩
    rw [show its.toArray.any (eqU x) = its.any (eqU x) by simp, any_eqU r fs]
    exact q
theorem op_notIn_seq : OpR X (compareOp .NotIn) (rIn X.K true) := by
  intro pins s σ H x y v u Q I rx ry h
  obtain ⟨p, xs, rfl, hq, fx, fs, q⟩ := h
  cases ry
  rcases hq with hq | hq
  · obtain ⟨its, r, pl, hz⟩ := I.list hq
    refine SeqAt.notIn_listAt (eqU x) pl.isList (fun w hw => mem_eqAt rx fx r fs w (by simpa using hw)) ⟨.bl _, H, I, rfl, ?_⟩
    rw [show its.toArray.any (eqU x) = its.any (eqU x) by simp, any_eqU r fs]
    exact q
  · obtain ⟨its, r, pl, hz⟩ := I.tuple hq
    refine SeqAt.notIn_tupleAt (eqU x) pl (fun w hw => mem_eqAt rx fx r fs w (by simpa using hw)) ⟨.bl _, H, I, rfl, ?_⟩
    rw [show its.toArray.any (eqU x) = its.any (eqU x) by simp, any_eqU r fs]
    exact q
theorem op_notIn_str : OpR X (compareOp .NotIn) (fun x y H Q => ∃ i j, x = .str i ∧ y = .str j ∧ Q (.bl (!(!(Builtin.Str.occurrences j i 0 j.length 1).isEmpty))) H) := by
  intro pins s σ H x y v u Q I rx ry h
  obtain ⟨i, j, rfl, rfl, q⟩ := h
  obtain ⟨t, rfl⟩ := rx
  obtain ⟨t', rfl⟩ := ry
  exact notIn_str ⟨.bl _, H, I, rfl, q⟩

/-! ### len, list(x), tuple(x) of any list or tuple that is read -/
theorem call_len_seq : CallR X (.builtin "len") (fun xs H Q => ∃ p ys, xs = [.ref p] ∧ (SqL X.K H p ys ∨ SqT X.K H p ys) ∧ Q (.int ys.length) H) := by
  intro pins s σ H xs us Q I r h
  obtain ⟨p, ys, rfl, hq, q⟩ := h
  obtain ⟨u, rfl, rx⟩ := vals1 r
  cases rx
  have hn := line63
  rcases hq with hq | hq
  · obtain ⟨its, r', pl, hz⟩ := I.list hq
    have hlen := r'.length
    exact Calls.call_len_list pl.isList (by simp only [List.size_toArray] <;> omega) ⟨.int ys.length, H, I.tok _, ⟨s.toks + 1, by rw [List.size_toArray, hlen]⟩, q⟩
  · obtain ⟨its, r', pl, hz⟩ := I.tuple hq
    have hlen := r'.length
    exact len_tuple pl (by simp only [List.size_toArray] <;> omega) ⟨.int ys.length, H, I.tok _, ⟨s.toks + 1, by rw [List.size_toArray, hlen]⟩, q⟩
theorem call_len_str : CallR X (.builtin "len") (fun xs H Q => ∃ z, xs = [.str z] ∧ z.length ≤ sizeLine ∧ Q (.int z.length) H) := by
  intro pins s σ H xs us Q I r h
  obtain ⟨z, rfl, hz, q⟩ := h
  obtain ⟨u, rfl, t, rfl⟩ := vals1 r
  have hn := line63
  exact len_str (by omega) ⟨.int z.length, H, I.tok _, ⟨_, rfl⟩, q⟩
theorem CallR.or {f : Value} {r r' : List V → Hp → VK → Prop} (h : CallR X f r) (h' : CallR X f r') : CallR X f (fun xs H Q => r xs H Q ∨ r' xs H Q) := by
  intro pins s σ H xs us Q I rs q
  rcases q with q | q
  · exact h pins s σ H xs us Q I rs q
  · exact h' pins s σ H xs us Q I rs q
theorem call_list_of : CallR X (.type "list") (fun xs H Q => ∃ p ys, xs = [.ref p] ∧ (SqL X.K H p ys ∨ SqT X.K H p ys) ∧ ∀ l, H l = none → Q (.ref l) (upd H l (.lst ys))) := by
  intro pins s σ H xs us Q I r h
  obtain ⟨p, ys, rfl, hq, q⟩ := h
  obtain ⟨u, rfl, rx⟩ := vals1 r
  cases rx
  have fin : ∀ (its : List Value), Vals ys its → ys.length ≤ sizeLine → ∀ (h' : Heap) (c' : Nat), (∀ b o', s.heap.get? b = some o' → h'.get? b = some o') →
      h'.get? s.heap.objs.size = some { cls := .type "list", dict := none, data := .seq its.toArray c', slots := #[] } → EP X pins σ Q (.ref s.heap.objs.size) { s with heap := h' } := fun its r' hz h' c' kp e =>
    ⟨.ref s.heap.objs.size, _, I.laid (t' := s.toks) kp (Nat.le_refl _) (show ObjOk X.prog X.w _ h' _ (.lst ys) from ⟨hz, its, c', r', e⟩), rfl, q _ (I.hok.fresh (Nat.le_refl _))⟩
  rcases hq with hq | hq
  · obtain ⟨its, r', pl, hz⟩ := I.list hq
    have hlen := r'.length
    obtain ⟨o, ho, hc, n, hd⟩ := pl.isList
    exact call_list_seq p (.inl rfl) ho hc hd (fun h' c' kp e => fin its r' hz h' c' kp e) (by simp only [List.size_toArray] <;> omega)
  · obtain ⟨its, r', pl, hz⟩ := I.tuple hq
    have hlen := r'.length
    obtain ⟨o, ho, hc, n, hd⟩ := pl
    exact call_list_seq p (.inr rfl) ho hc hd (fun h' c' kp e => fin its r' hz h' c' kp e) (by simp only [List.size_toArray] <;> omega)
theorem call_tuple_of : CallR X (.type "tuple") (fun xs H Q => ∃ p ys, xs = [.ref p] ∧ ((SqL X.K H p ys ∧ ∀ l, H l = none → Q (.ref l) (upd H l (.tup ys))) ∨ (SqT X.K H p ys ∧ Q (.ref p) H))) := by
  intro pins s σ H xs us Q I r h
  obtain ⟨p, ys, rfl, h⟩ := h
  obtain ⟨u, rfl, rx⟩ := vals1 r
  cases rx
  rcases h with ⟨hq, q⟩ | ⟨hq, q⟩
  · obtain ⟨its, r', pl, hz⟩ := I.list hq
    have hlen := r'.length
    refine call_tuple_list pl.isList (fun h' kp => ?_) (by simp only [List.size_toArray] <;> omega)
    have I1 : Inv X pins σ H { s with heap := h' } := I.kept (t' := s.toks) kp
    have I2 : Inv X pins σ (upd H h'.objs.size (.tup ys)) { s with heap := h'.push { cls := .type "tuple", data := .seq its.toArray } } :=
      I1.laid (t' := s.toks) (fun b o e => Heap.get?_push_of_some _ e) (Nat.le_refl _) (show ObjOk X.prog X.w _ _ _ (.tup ys) from ⟨hz, its, r', IsTup.new _ _⟩)
    exact ⟨.ref h'.objs.size, _, I2, rfl, q _ (I1.hok.fresh (Nat.le_refl _))⟩
  · obtain ⟨its, r', pl, hz⟩ := I.tuple hq
    exact call_tuple_same pl ⟨.ref p, H, I, rfl, q⟩

/-! ### the call of a builtin's method: o.m(..) -/
/-- the value is of that builtin type -/
def tyV (K : PySem.W.Frag) (T : String) (x : V) (H : Hp) : Prop := match x with
  | .str _ => T = "str"
  | .int _ => T = "int"
  | .ref p => (T = "list" ∧ ∃ xs, SqL K H p xs) ∨ (T = "tuple" ∧ ∃ o, K.lookup p = some o ∧ o.cls = .type "tuple" ∧ o.dict = none) ∨
      (T = "dict" ∧ ((∃ kvs, H p = some (.dK kvs)) ∨ ∃ kvs, H p = some (.dT kvs))) ∨ (T = "set" ∧ ∃ S n, H p = some (.set S n))
  | _ => False
theorem tyV_is {pins : List (Addr × Obj)} {σ : St} {H : Hp} {s : Shared} {T : String} {x : V} {v : Value} (I : Inv X pins σ H s) (r : RelV x v) (ty : tyV X.K T x H) :
    s.TypeIs v T ∧ ∀ a, v = .ref a → ∃ ob, s.heap.get? a = some ob ∧ ob.dict = none := by
  cases x with
  | str z =>
    obtain ⟨t, rfl⟩ := r
    cases (show T = "str" from ty)
    exact ⟨typeIs_str s z t, fun _ e => nomatch e⟩
  | int i =>
    obtain ⟨t, rfl⟩ := r
    cases (show T = "int" from ty)
    exact ⟨typeIs_int s i t, fun _ e => nomatch e⟩
  | ref p =>
    cases r
    rcases ty with ⟨rfl, xs, hq⟩ | ⟨rfl, o, hk, hc, hd⟩ | ⟨rfl, hk⟩ | ⟨rfl, S, n, hk⟩
    · obtain ⟨its, _, pl, _⟩ := I.list hq
      refine ⟨pl.isList.typeIs, fun a e => ?_⟩
      cases e
      obtain ⟨o, n, e, c, hd, _⟩ := pl
      exact ⟨o, e, hd⟩
    · refine ⟨⟨o, I.kIn p o hk, hc⟩, fun a e => ?_⟩
      cases e
      exact ⟨o, I.kIn _ o hk, hd⟩
    · have z : ∃ o, s.heap.get? p = some o ∧ o.ExactDict := by
        rcases hk with ⟨kvs, hk⟩ | ⟨kvs, hk⟩
        · obtain ⟨_, _, _, _, o, _, _, e, ex, _⟩ := I.hok p _ hk
          exact ⟨o, e, ex⟩
        · obtain ⟨_, _, _, _, o, _, _, e, ex, _⟩ := I.hok p _ hk
          exact ⟨o, e, ex⟩
      obtain ⟨o, e, ex⟩ := z
      refine ⟨⟨o, e, ex.1⟩, fun a e2 => ?_⟩
      cases e2
      exact ⟨o, e, ex.2.1⟩
    · obtain ⟨o, _, _, _, e, ex, _⟩ := I.hok p _ hk
      refine ⟨⟨o, e, ex.1⟩, fun a e2 => ?_⟩
      cases e2
      exact ⟨o, e, ex.2.1⟩
  | _ => exact False.elim ty
def tBM0 (K : PySem.W.Frag) (T : String) (r : V → List V → Hp → VK → Prop) (to : TE) : TE := fun σ H Q => to σ H fun x H1 => tyV K T x H1 ∧ r x [] H1 Q
def tBM (K : PySem.W.Frag) (T : String) (r : V → List V → Hp → VK → Prop) (to : TE) (t : TA) : TE := fun σ H Q => to σ H fun x H1 => tyV K T x H1 ∧ t σ H1 fun xs H2 => r x xs H2 Q
variable {o e : Expr} {es : List Expr} {to : TE} {t : TA} {name : Str} {apos cpos : Pos} {T id : String} {r : V → List V → Hp → VK → Prop}
theorem pe_bm0 (pa : PlainAttrs T) (slot : Slot T name id) (hty : typeOf (.builtin id) = pure (.type "method_descriptor")) (hm : MtR X id r) (ho : PE X o to)
    (hbase : attributeBase o name X.env (eval o X.env) = eval o X.env := by rfl) (hline : (apos.endLine == cpos.line) = true := by rfl) : PE X (.Call (.Attribute o name apos) [] [] cpos) (tBM0 X.K T r to) := by
  intro pins s σ H Q I h
  refine wpAny_Call_method0_late hbase hline (thn (ho pins s σ H _ I h) fun v s1 ⟨x, H1, I1, r1, ty, q1⟩ => ?_)
  obtain ⟨h1, h2⟩ := tyV_is I1 r1 ty
  exact ⟨T, id, pa, slot, hty, h1, h2, Calls.callWith_builtin rfl (PySem.evalArgs_none (hm pins s1 σ H1 x [] v [] Q I1 r1 .nil q1))⟩
theorem pe_bm (pa : PlainAttrs T) (slot : Slot T name id) (hty : typeOf (.builtin id) = pure (.type "method_descriptor")) (hm : MtR X id r) (ho : PE X o to) (ha : PA X (e :: es) t)
    (hbase : attributeBase o name X.env (eval o X.env) = eval o X.env := by rfl)
    (hfew : ((backTo cpos (starEach (e :: es) X.env)).all (fun x => !x.1) && (backToKw cpos (keywordEach [] X.env)).all (fun x => x.1.isSome)
      && decide ((e :: es).length + ([] : List Keyword).length + (if ([] : List Keyword).isEmpty then 0 else 1) < 30)) = true := by rfl)
    (hline : (apos.endLine == cpos.line) = true := by rfl) (hs : starEach (e :: es) X.env = (false, eval e X.env) :: starEach es X.env := by rfl) (hplain : (backTo cpos (starEach es X.env)).any (·.1) = false := by rfl) :
    PE X (.Call (.Attribute o name apos) (e :: es) [] cpos) (tBM X.K T r to t) := by
  intro pins s σ H Q I h
  refine wpAny_Call_method_late hbase hfew hline rfl (thn (ho pins s σ H _ I h) fun v s1 ⟨x, H1, I1, r1, ty, q1⟩ => ?_)
  obtain ⟨h1, h2⟩ := tyV_is I1 r1 ty
  refine ⟨T, id, pa, slot, hty, h1, h2, ?_⟩
  have hA := ha cpos pins s1 σ H1 _ I1 q1
  rw [hs] at hA ⊢
  refine Calls.callWith_builtin (by show (false || (backTo cpos (starEach es X.env)).any (·.1)) = false; rw [hplain] <;> rfl) (Calls.evalArgs_plain ?_)
  exact thn hA fun us s2 ⟨vs, H2, I2, r2, q2⟩ => hm pins s2 σ H2 x vs v us Q I2 r1 r2 q2
/- xs.append(e), list.index on a module's tuple .. are MtR facts of 06m -/
end
end L2

namespace L2
open PySem PySem.Spec PyProof.Rows

def MtM (X : Cx) (id : String) (r : V → List V → Hp → VK → Prop) : Prop :=
  ∀ (pins : List (Addr × Obj)) (s : Shared) (σ : St) (H : Hp) (x : V) (xs : List V) (v : Value) (us : List Value) (Q : VK), Inv X pins σ H s → RelV x v → Vals xs us → r x xs H Q →
    wpAny (model X.prog X.w) X.A (call (.builtin id) (v :: us)) (EP X pins σ Q) X.xe s

/-! ### lists of values -/
theorem Vals.one : ∀ {x : V} {us : List Value}, Vals [x] us → ∃ u, us = [u] ∧ RelV x u
  | _, _, .cons r .nil => ⟨_, rfl, r⟩
theorem Vals.two : ∀ {x y : V} {us : List Value}, Vals [x, y] us → ∃ u v, us = [u, v] ∧ RelV x u ∧ RelV y v
  | _, _, _, .cons r (.cons q .nil) => ⟨_, _, rfl, r, q⟩
theorem Vals.zero : ∀ {us : List Value}, Vals [] us → us = []
  | _, .nil => rfl
theorem Vals.dropLast {xs : List V} {us : List Value} (h : Vals xs us) : Vals xs.dropLast us.dropLast := by
  induction h with
  | nil => exact .nil
  | cons r t ih =>
    cases t with
    | nil => exact .nil
    | cons q t' => exact .cons r ih
theorem Vals.eraseIdx : ∀ {xs : List V} {us : List Value} (i : Nat), Vals xs us → Vals (xs.eraseIdx i) (us.eraseIdx i)
  | _, _, _, .nil => .nil
  | _, _, 0, .cons _ t => t
  | _, _, i + 1, .cons r t => .cons r (Vals.eraseIdx i t)
theorem Vals.reverse {xs : List V} {us : List Value} (h : Vals xs us) : Vals xs.reverse us.reverse := by
  induction h with
  | nil => exact .nil
  | cons r t ih => rw [List.reverse_cons, List.reverse_cons]; exact Vals.append ih (.cons r .nil)
theorem Vals.rep {xs : List V} {us : List Value} (h : Vals xs us) : ∀ k : Nat, Vals (List.replicate k xs).flatten (List.replicate k us).flatten
  | 0 => .nil
  | k + 1 => by
    rw [List.replicate_succ, List.replicate_succ, List.flatten_cons, List.flatten_cons]
    exact Vals.append h (Vals.rep h k)
theorem erase_last {α : Type} (l : List α) : l.eraseIdx (l.length - 1) = l.dropLast := by
  induction l with
  | nil => rfl
  | cons a r ih =>
    cases r with
    | nil => rfl
    | cons b r =>
      have e : (a :: b :: r).length - 1 = ((b :: r).length - 1) + 1 := by
        have h1 : (a :: b :: r).length = r.length + 2 := rfl
        have h2 : (b :: r).length = r.length + 1 := rfl
        omega
      rw [e, List.eraseIdx_cons_succ, ih]
      all_goals rfl
theorem len_erase {α : Type} : ∀ (l : List α) (i : Nat), (l.eraseIdx i).length ≤ l.length
  | [], _ => Nat.le_refl _
  | _ :: _, 0 => Nat.le_succ _
  | _ :: r, i + 1 => Nat.succ_le_succ (len_erase r i)
theorem foldl_rep (its : List Value) : ∀ (k : Nat) (acc : List Value),
    List.foldl (fun x1 x2 => x1 ++ x2) acc.toArray (List.replicate k its.toArray) = (acc ++ (List.replicate k its).flatten).toArray
  | 0, acc => by simp
  | k + 1, acc => by
    have e : acc.toArray ++ its.toArray = (acc ++ its).toArray := by simp
    have e2 : (acc ++ its) ++ (List.replicate k its).flatten = acc ++ (List.replicate (k + 1) its).flatten := by
      rw [List.replicate_succ, List.flatten_cons, List.append_assoc]
    rw [← e2, ← foldl_rep its k (acc ++ its), ← e, List.replicate_succ, List.foldl_cons]

section
variable {X : Cx} {pins : List (Addr × Obj)} {σ : St} {H : Hp} {s : Shared} {l b : Addr} {xs ys zs : List V}

/-! ### the two steps: a tracked list is rewritten, a new list is laid -/
theorem Inv.lset {its its' : List Value} {n : Nat} {f : Array Value → Array Value} {t' : Nat} (I : Inv X pins σ H s) (hH : H l = some (.lst xs))
    (e : s.heap.get? l = some { cls := .type "list", data := .seq its.toArray n }) (hf : f its.toArray = its'.toArray) (hv : Vals ys its') (hz : ys.length ≤ sizeLine) :
    Inv X pins σ (upd H l (.lst ys)) { s with heap := s.heap.update l (Obj.mapSeq f), toks := t' } := by
  have q := PySem.IsL.update e f
  rw [hf] at q
  refine I.write (x := l) (e := l) (by rw [hH]; exact trivial) (.inl rfl) (fun b' u hb hu => (Heap.get?_update_other s.heap (Obj.mapSeq f) (Ne.symm hb)).trans hu) ⟨_, q⟩ ?_
  exact ⟨hz, its', _, hv, q⟩
theorem Inv.lnew {its : List Value} {t' : Nat} (I : Inv X pins σ H s) (hv : Vals ys its) (hz : ys.length ≤ sizeLine) :
    Inv X pins σ (upd H s.heap.objs.size (.lst ys)) { s with heap := s.heap.push { cls := .type "list", data := .seq its.toArray }, toks := t' } :=
  I.laid (fun _ _ q => Heap.get?_push_of_some _ q) (Nat.le_refl _) ⟨hz, its, 0, hv, Heap.get?_push_size _ rfl⟩
theorem Inv.fresh (I : Inv X pins σ H s) : H s.heap.objs.size = none := I.hok.fresh (Nat.le_refl _)
theorem Inv.lstM (I : Inv X pins σ H s) (hH : H l = some (.lst xs)) : xs.length ≤ sizeLine ∧ ∃ (its : List Value) (n : Nat), Vals xs its ∧ xs.length = its.length ∧ s.heap.get? l = some { cls := .type "list", data := .seq its.toArray n } := by
  obtain ⟨z, its, n, r, e⟩ := I.hok l _ hH
  exact ⟨z, its, n, r, r.length, e⟩

theorem notLongL {n : Nat} (h : n ≤ sizeLine) : Builtin.List.listTooLong n = false := by
  unfold Builtin.List.listTooLong
  exact decide_eq_false (by omega)
end

section
variable {X : Cx}

/-! ### methods -/
def rAppend : V → List V → Hp → VK → Prop := fun x vs H Q => ∃ l xs y, x = .ref l ∧ vs = [y] ∧ H l = some (.lst xs) ∧ xs.length < sizeLine ∧ Q .non (upd H l (.lst (xs ++ [y])))
theorem mt_append : MtM X "list.append" rAppend := by
  intro pins s σ H x vs v us Q I rx rv h
  obtain ⟨l, xs, y, rfl, rfl, hH, hz, q⟩ := h
  cases rx
  obtain ⟨u, rfl, ru⟩ := rv.one
  obtain ⟨z, its, n, r, hl, e⟩ := I.lstM hH
  refine call_meets F.slot_list_append ⟨_, e, rfl⟩ F.entry_list_append (F.args_list_append_2 _ _) (PySem.list_append l its.toArray n u (by rw [List.size_toArray]; omega)) ⟨e, ?_⟩
  refine ⟨.non, _, I.lset (its' := its ++ [u]) hH e (by simp) (r.append (.cons ru .nil)) ?_, rfl, q⟩
  rw [List.length_append, List.length_singleton]
  omega

def rExtend : V → List V → Hp → VK → Prop := fun x vs H Q => ∃ l b xs zs, x = .ref l ∧ vs = [.ref b] ∧ H l = some (.lst xs) ∧ H b = some (.lst zs) ∧ xs.length + zs.length ≤ sizeLine ∧ Q .non (upd H l (.lst (xs ++ zs)))
theorem mt_extend : MtM X "list.extend" rExtend := by
  intro pins s σ H x vs v us Q I rx rv h
  obtain ⟨l, b, xs, zs, rfl, rfl, hH, hB, hz, q⟩ := h
  cases rx
  obtain ⟨u, rfl, ru⟩ := rv.one
  cases ru
  obtain ⟨z, its, n, r, hl, e⟩ := I.lstM hH
  obtain ⟨z2, its2, n2, r2, hl2, e2⟩ := I.lstM hB
  have hsz : its.toArray.size + its2.toArray.size ≤ sizeLine := by rw [List.size_toArray, List.size_toArray]; omega
  have hlong : ¬ (!its.toArray.isEmpty && Builtin.List.listTooLong (its.toArray.size + its2.toArray.size)) = true := by
    rw [notLongL hsz, Bool.and_false]
    exact Bool.false_ne_true
  refine call_meets F.slot_list_extend ⟨_, e, rfl⟩ F.entry_list_extend (F.args_list_extend_2 _ _)
    (AutoSeq1.list_extend_list_list_0 l its.toArray n b its2.toArray n2 hlong (by rw [List.size_toArray]; omega) (by omega)) ⟨e, e2, ?_⟩
  refine ⟨.non, _, I.lset (its' := its ++ its2) hH e (by simp) (r.append r2) ?_, rfl, q⟩
  rw [List.length_append]
  omega

def rPop : V → List V → Hp → VK → Prop := fun x vs H Q => ∃ l xs y, x = .ref l ∧ vs = [] ∧ H l = some (.lst xs) ∧ xs[xs.length - 1]? = some y ∧ Q y (upd H l (.lst xs.dropLast))
theorem mt_pop : MtM X "list.pop" rPop := by
  intro pins s σ H x vs v us Q I rx rv h
  obtain ⟨l, xs, y, rfl, rfl, hH, hy, q⟩ := h
  cases rx
  have hus := rv.zero
  subst hus
  obtain ⟨z, its, n, r, hl, e⟩ := I.lstM hH
  obtain ⟨u, hu, ru⟩ := r.get hy
  have hy' : its.toArray[its.toArray.size - 1]? = some u := by
    show its.toArray[its.length - 1]? = some u
    rw [← Array.getElem?_toList, ← hl]
    exact hu
  refine call_meets F.slot_list_pop ⟨_, e, rfl⟩ F.entry_list_pop (F.args_list_pop_1 _) (MeetsSeq.list_pop_last l its.toArray n u hy' (by rw [List.size_toArray]; omega)) ⟨e, ?_⟩
  refine ⟨y, _, I.lset (its' := its.dropLast) hH e ?_ r.dropLast ?_, ru, q⟩
  · show its.toArray.eraseIdxIfInBounds (its.toArray.size - 1) = its.dropLast.toArray
    rw [List.size_toArray, List.eraseIdxIfInBounds_toArray, erase_last]
  · rw [List.length_dropLast]
    omega

def rPopAt : V → List V → Hp → VK → Prop := fun x vs H Q => ∃ l xs i k y, x = .ref l ∧ vs = [.int i] ∧ H l = some (.lst xs) ∧ -(2 ^ 63) ≤ i ∧ i < 2 ^ 63 ∧ seqIndex? i xs.length = some k ∧ xs[k]? = some y ∧ Q y (upd H l (.lst (xs.eraseIdx k)))
theorem mt_popAt : MtM X "list.pop" rPopAt := by
  intro pins s σ H x vs v us Q I rx rv h
  obtain ⟨l, xs, i, k, y, rfl, rfl, hH, h1, h2, hk, hy, q⟩ := h
  cases rx
  obtain ⟨u, rfl, ru⟩ := rv.one
  obtain ⟨t, rfl⟩ := ru
  obtain ⟨z, its, n, r, hl, e⟩ := I.lstM hH
  obtain ⟨w, hw, rw'⟩ := r.get hy
  refine call_meets F.slot_list_pop ⟨_, e, rfl⟩ F.entry_list_pop (F.args_list_pop_2 _ _)
    (MeetsSeq.list_pop_at l its.toArray n i t k w (fitsIndex_both h1 h2) (by rw [List.size_toArray, ← hl]; exact hk) (by rw [← Array.getElem?_toList]; exact hw) (by rw [List.size_toArray]; omega)) ⟨e, ?_⟩
  refine ⟨y, _, I.lset (its' := its.eraseIdx k) hH e ?_ (r.eraseIdx k) ?_, rw', q⟩
  · show its.toArray.eraseIdxIfInBounds k = (its.eraseIdx k).toArray
    rw [List.eraseIdxIfInBounds_toArray]
  · have := len_erase xs k
    omega

def rReverse : V → List V → Hp → VK → Prop := fun x vs H Q => ∃ l xs, x = .ref l ∧ vs = [] ∧ H l = some (.lst xs) ∧ Q .non (upd H l (.lst xs.reverse))
theorem mt_reverse : MtM X "list.reverse" rReverse := by
  intro pins s σ H x vs v us Q I rx rv h
  obtain ⟨l, xs, rfl, rfl, hH, q⟩ := h
  cases rx
  have hus := rv.zero
  subst hus
  obtain ⟨z, its, n, r, hl, e⟩ := I.lstM hH
  refine call_meets F.slot_list_reverse ⟨_, e, rfl⟩ F.entry_list_reverse (F.args_list_reverse_1 _) (AutoSeq1.list_reverse_list_0 l its.toArray n (by rw [List.size_toArray]; omega)) ⟨e, ?_⟩
  refine ⟨.non, _, I.lset (its' := its.reverse) hH e (by simp) r.reverse ?_, rfl, q⟩
  rw [List.length_reverse]
  omega

def rClear : V → List V → Hp → VK → Prop := fun x vs H Q => ∃ l xs, x = .ref l ∧ vs = [] ∧ H l = some (.lst xs) ∧ Q .non (upd H l (.lst []))
theorem mt_clear : MtM X "list.clear" rClear := by
  intro pins s σ H x vs v us Q I rx rv h
  obtain ⟨l, xs, rfl, rfl, hH, q⟩ := h
  cases rx
  have hus := rv.zero
  subst hus
  obtain ⟨z, its, n, r, hl, e⟩ := I.lstM hH
  refine call_meets F.slot_list_clear ⟨_, e, rfl⟩ F.entry_list_clear (F.args_list_clear_1 _) (AutoSeq1.list_clear_list_0 l its.toArray n (by rw [List.size_toArray]; omega)) ⟨e, ?_⟩
  exact ⟨.non, _, I.lset (its' := []) (ys := []) hH e rfl .nil (Nat.zero_le _), rfl, q⟩

/-! ### list + list, list += list, list * int -/
def rCat : R2 := fun x y H Q => ∃ l b xs zs, x = .ref l ∧ y = .ref b ∧ H l = some (.lst xs) ∧ H b = some (.lst zs) ∧ xs.length + zs.length ≤ sizeLine ∧ ∀ p, H p = none → Q (.ref p) (upd H p (.lst (xs ++ zs)))
theorem op_cat : OpR X (binaryOp .Add) rCat := by
  intro pins s σ H x y v u Q I rx ry h
  obtain ⟨l, b, xs, zs, rfl, rfl, hH, hB, hz, q⟩ := h
  cases rx
  cases ry
  obtain ⟨z, its, n, r, hl, e⟩ := I.lstM hH
  obtain ⟨z2, its2, n2, r2, hl2, e2⟩ := I.lstM hB
  refine PySem.P.add_list e e2 ?_ (by rw [List.size_toArray, List.size_toArray]; omega)
  have ea : its.toArray ++ its2.toArray = (its ++ its2).toArray := by simp
  rw [ea]
  exact ⟨.ref _, _, I.lnew (t' := s.toks) (r.append r2) (by rw [List.length_append]; omega), rfl, q _ I.fresh⟩
/-- a list times an int (a negative one is nothing) -/
def rRep : R2 := fun x y H Q => ∃ l k xs, x = .ref l ∧ y = .int k ∧ H l = some (.lst xs) ∧ -(2 ^ 63) ≤ k ∧ k < 2 ^ 63 ∧ xs.length * k.toNat ≤ sizeLine ∧
  ∀ p, H p = none → Q (.ref p) (upd H p (.lst (List.replicate k.toNat xs).flatten))
theorem len_rep {α : Type} (xs : List α) (k : Nat) : (List.replicate k xs).flatten.length = k * xs.length := by
  induction k with
  | zero => simp
  | succ k ih => rw [List.replicate_succ, List.flatten_cons, List.length_append, ih, Nat.succ_mul, Nat.add_comm]
theorem op_rep : OpR X (binaryOp .Mult) rRep := by
  intro pins s σ H x y v u Q I rx ry h
  obtain ⟨l, k, xs, rfl, rfl, hH, h1, h2, hz, q⟩ := h
  cases rx
  obtain ⟨t, rfl⟩ := ry
  obtain ⟨z, its, n, r, hl, e⟩ := I.lstM hH
  have hlen : its.toArray.size * k.toNat ≤ sizeLine := by rw [List.size_toArray, ← hl]; exact hz
  have hcap : ¬ its.toArray.size * k.toNat > (2 ^ 63 - 1) / 8 := by
    have : (sizeLine : Nat) ≤ (2 ^ 63 - 1) / 8 := by decide
    omega
  have hfit : ¬ (!Builtin.List.listFitsIndex k) = true := by
    rw [fitsIndex_both h1 h2]
    exact Bool.false_ne_true
  have hlong : ¬ Builtin.List.listTooLong (its.toArray.size * k.toNat) = true := by
    rw [notLongL hlen]
    exact Bool.false_ne_true
  have hnew : List.foldl (fun x1 x2 => x1 ++ x2) #[] (List.replicate (if its.toArray.isEmpty = true then 0 else k.toNat) its.toArray) = (List.replicate k.toNat its).flatten.toArray := by
    have f0 : ∀ m : Nat, List.foldl (fun x1 x2 => x1 ++ x2) #[] (List.replicate m its.toArray) = (List.replicate m its).flatten.toArray := fun m => by
      have := foldl_rep its m []
      rw [List.nil_append] at this
      exact this
    rw [f0]
    cases its with
    | nil => simp
    | cons a r' => rw [if_neg (by simp)]
  refine wpAny_binaryOp_repeat_ref (T := "list") (U := "int") (by decide) ⟨_, e, rfl⟩ (fun s' => typeIs_int s' k t) noFill_list_mul F.fills_int_mul F.slot_int_rmul repeat_list F.slot_int_index.lookup
    (call_meets F.slot_int_rmul (typeIs_int s k t) F.entry_int_rmul (F.args_int_rmul_2 _ _) (int___rmul___int_list k t l its.toArray n)
      ⟨e, rfl, ⟨_, e, rfl⟩, call_meets F.slot_list_mul ⟨_, e, rfl⟩ F.entry_list_mul (F.args_list_mul_2 _ _) (AutoListH.list___mul___list_int_3 l its.toArray n k t hfit hcap hlong) ⟨e, ?_⟩⟩)
  rw [hnew]
  exact ⟨.ref _, _, I.lnew (t' := s.toks) (r.rep k.toNat) (by rw [len_rep, Nat.mul_comm]; exact hz), rfl, q _ I.fresh⟩

/-! ### del xs[i] -/
theorem del_list {pins : List (Addr × Obj)} {s : Shared} {σ : St} {H : Hp} {l : Addr} {xs : List V} {i : Int} {t : Tok} {k : Nat} {Q : Unit → Shared → Prop} (I : Inv X pins σ H s) (hH : H l = some (.lst xs))
    (h1 : -(2 ^ 63) ≤ i) (h2 : i < 2 ^ 63) (hk : seqIndex? i xs.length = some k) (h : ∀ s', Inv X pins σ (upd H l (.lst (xs.eraseIdx k))) s' → Q () s') :
    wpAny (model X.prog X.w) X.A (delItem (.ref l) (.int i t)) Q X.xe s := by
  obtain ⟨z, its, n, r, hl, e⟩ := I.lstM hH
  refine PySem.P.delItem_list (k := k) e (fitsIndex_both h1 h2) (by rw [List.size_toArray, ← hl]; exact hk) (h _ ?_) (by rw [List.size_toArray]; omega)
  refine I.lset (its' := its.eraseIdx k) (t' := s.toks) hH e ?_ (r.eraseIdx k) ?_
  · show its.toArray.eraseIdxIfInBounds k = (its.eraseIdx k).toArray
    rw [List.eraseIdxIfInBounds_toArray]
  · have := len_erase xs k
    omega
end

/-! ### xs[a:b] = ys -/
section
variable {prog : Program} {w : World} {A : Around} {E : Value → Shared → Prop} {s : Shared}
theorem splice_eq (its its2 : List Value) (a c : Nat) : its.toArray.extract 0 a ++ its2.toArray ++ its.toArray.extract c its.toArray.size = (its.take a ++ its2 ++ its.drop c).toArray := by
  apply Array.toList_inj.mp
  first
    | (simp
       exact List.take_of_length_le (by simp))
    | simp [List.take_of_length_le]
    | simp
theorem bounds_run {a c n : Nat} (hac : a ≤ c) (hc : c ≤ n) : sliceBounds (some (a : Int)) (some (c : Int)) none n = ((a : Int), (c : Int), 1) := by
  simp only [sliceBounds, Option.getD_none]
  have h1 : ¬ ((a : Int) < 0) := by omega
  have h2 : ¬ ((c : Int) < 0) := by omega
  simp only [h1, h2, if_false, show (1 : Int) > 0 by decide, if_true]
  congr 1
  · omega
  · congr 1; omega
set_option maxRecDepth 100000 in
/-- list.__setitem__ with a slice of step one and another list -/
theorem setItem_slice {l b sl : Addr} {items new : Array Value} {n n2 : Nat} {vl vu : Value} {a c : Nat} {Q : Unit → Shared → Prop}
    (e : s.heap.get? l = some { cls := .type "list", data := .seq items n }) (e2 : s.heap.get? b = some { cls := .type "list", data := .seq new n2 }) (hne : l ≠ b)
    (hs : s.heap.IsSliceOf sl vl vu .none) (pl : IsPart vl (some (a : Int))) (pu : IsPart vu (some (c : Int))) (hac : a ≤ c) (hc : c ≤ items.size)
    (hsz : items.size + new.size ≤ sizeLine) (h : Q () { s with heap := s.heap.update l (Obj.mapSeq fun xs => xs.extract 0 a ++ new ++ xs.extract c xs.size) }) :
    wpAny (model prog w) A (setItem (.ref l) (.ref sl) (.ref b)) Q E s := by
  have hl : s.heap.IsList l items := PySem.IsL.isList e
  have hb : s.heap.IsList b new := PySem.IsL.isList e2
  obtain ⟨os, hos, hcs, hds⟩ := id hs
  have hTs : s.TypeIs (.ref sl) "slice" := ⟨os, hos, hcs⟩
  have hstep : ¬ ((rawPart none == rawInt 0) = true) := Bool.false_ne_true
  have hsame : Builtin.List.listSameRef (.ref l) (.ref b) = false := by
    unfold Builtin.List.listSameRef
    exact beq_eq_false_iff_ne.mpr hne
  have hmax : (max (a : Int) (c : Int)).toNat = c := by omega
  have hz' : ((fun xs : Array Value => xs.extract 0 a ++ new ++ xs.extract c xs.size) items).size ≤ sizeLine + 1 := by
    simp only [Array.size_append, Array.size_extract]
    omega
  unfold setItem
  try with_reducible refine wpAny_holding ?_
  first | refine wpAny_bind (wpAny_pure ?_) | skip
  refine wpAny_bind (wpAny_sequenceKey hl.typeIs (by decide) ?_)
  refine wpAny_bind (wpAny_callSpecial?_slot (name := Str.ofString "__setitem__") hl.typeIs slot_list_setitem
    (wpAny_call_entry slot_list_setitem hl.typeIs entry_list_setitem ?_ (args_list_setitem _ _ _)))
  show wpAny _ _ (Builtin.List.listSubscript? (.ref sl) >>= _) _ _ s
  refine wpAny_bind ?_
  unfold Builtin.List.listSubscript?
  refine wpAny_bind (wpAny_specialOf hTs slice_no_index ?_)
  simp only [Option.isNone_none, if_true]
  refine wpAny_pure ?_
  show wpAny _ _ (typeOf (.ref sl) >>= _) _ _ s
  refine wpAny_bind (wpAny_typeOf hTs ?_)
  first
    | rw [if_neg (by decide)]
    | refine PySem.W.KFB.if_not (by decide) ?_
  rw [listSliceParts_eq]
  refine wpAny_bind (wpAny_bind (wpAny_field hos hds (x := .none) rfl (wpAny_bind (wpAny_listPart .none ?_))))
  rw [if_neg hstep]
  refine wpAny_bind (wpAny_field hos hds (x := vl) rfl (wpAny_bind (wpAny_listPart pl ?_)))
  refine wpAny_bind (wpAny_field hos hds (x := vu) rfl (wpAny_bind (wpAny_listPart pu (wpAny_pure ?_))))
  first
    | simp only [hsame, Bool.false_eq_true, if_false]
    | refine PySem.W.KFB.if_not hsame ?_
    | (dsimp only
       rw [if_neg (by rw [hsame]; exact Bool.false_ne_true)])
  refine wpAny_bind (m := Builtin.List.listAllItems (.ref b) "must assign iterable to extended slice") ?_
  unfold Builtin.List.listAllItems
  refine wpAny_bind (wpAny_typeOf hb.typeIs ?_)
  first
    | refine PySem.W.KFB.if_so (by decide) ?_
    | rw [if_pos (by decide)]
    | simp only [beq_self_eq_true, Bool.true_or, if_true]
  unfold Builtin.List.listItems
  refine wpAny_bind (wpAny_seqItems e2 rfl (wpAny_pure ?_))
  refine wpAny_bind (wpAny_bind (wpAny_seqItems e rfl (wpAny_pure ?_)))
  refine wpAny_bind (wpAny_of_eq ((sliceIndices_raw (some (a : Int)) (some (c : Int)) none items.size (by simp)).trans (congrArg (pure : Int × Int × Int → Sem (Int × Int × Int)) (bounds_run hac hc))) ?_)
  show wpAny _ _ (if ((1 : Int) == 1) = true then _ else _) _ _ s
  rw [if_pos (by decide)]
  refine wpAny_bind (wpAny_rule ?_)
  first
    | simp only [notLongL hsz, Bool.false_eq_true, if_false]
    | refine PySem.W.KFB.if_not (notLongL hsz) ?_
  first | refine wpAny_bind (wpAny_pure ?_) | skip
  show wpAny _ _ (updateSeq l (fun xs => xs.extract 0 ((a : Int)).toNat ++ new ++ xs.extract (max (a : Int) (c : Int)).toNat xs.size) >>= _) _ _ s
  rw [hmax, Int.toNat_natCast]
  refine wpAny_bind (wpAny_updateSeq (hz := Nat.le_trans (Nat.le_add_right _ _) hsz) (_hz' := hz') e rfl ?_)
  refine wpAny_bind (wpAny_letGo ?_)
  first
    | exact wpAny_bind (wpAny_pure (wpAny_pure ⟨.none, rfl, wpAny_pure h⟩))
    | exact wpAny_pure ⟨.none, rfl, wpAny_pure h⟩
end

section
variable {X : Cx}
/-- xs[a:c] = ys of another list, at the value level: sl is the slice object that was just made -/
theorem set_slice {pins : List (Addr × Obj)} {s : Shared} {σ : St} {H : Hp} {l b sl : Addr} {xs ys : List V} {a c : Int} {vl vu : Value} {Q : Unit → Shared → Prop} (I : Inv X pins σ H s)
    (hH : H l = some (.lst xs)) (hB : H b = some (.lst ys)) (hne : l ≠ b) (hs : s.heap.IsSliceOf sl vl vu .none) (ra : RelV (.int a) vl) (rc : RelV (.int c) vu) (h0 : 0 ≤ a) (hac : a ≤ c) (hc : c ≤ xs.length)
    (hz : xs.length + ys.length ≤ sizeLine) (h : ∀ s', Inv X pins σ (upd H l (.lst (xs.take a.toNat ++ ys ++ xs.drop c.toNat))) s' → Q () s') :
    wpAny (model X.prog X.w) X.A (setItem (.ref l) (.ref sl) (.ref b)) Q X.xe s := by
  obtain ⟨ta, rfl⟩ := ra
  obtain ⟨tc, rfl⟩ := rc
  obtain ⟨z, its, n, r, hl, e⟩ := I.lstM hH
  obtain ⟨z2, its2, n2, r2, hl2, e2⟩ := I.lstM hB
  obtain ⟨a', rfl⟩ := Int.eq_ofNat_of_zero_le h0
  obtain ⟨c', rfl⟩ := Int.eq_ofNat_of_zero_le (Int.le_trans h0 hac)
  simp only [Int.toNat_natCast] at h
  refine setItem_slice (a := a') (c := c') e e2 hne hs (.int _ _) (.int _ _) (by omega) (by rw [List.size_toArray]; omega) (by rw [List.size_toArray, List.size_toArray]; omega) (h _ ?_)
  refine I.lset (its' := its.take a' ++ its2 ++ its.drop c') (t' := s.toks) hH e ?_ (Vals.append (Vals.append (r.take _) r2) (r.drop _)) ?_
  · exact splice_eq its its2 a' c'
  · rw [List.length_append, List.length_append, List.length_take, List.length_drop]
    omega
end
end L2

namespace L2
open PySem PySem.Spec PyProof.Rows

/-! ### lists of pairs as tables -/
section
variable {κ : Type} [DecidableEq κ]
def valV (kvs : List (κ × V)) (k : κ) : Option V := (kvs.find? fun kv => decide (kv.1 = k)).map (·.2)
/-- in its place, or at the end -/
def putK (kvs : List (κ × V)) (k : κ) (v : V) : List (κ × V) :=
  if (kvs.any fun kv => decide (kv.1 = k)) = true then kvs.map (fun kv => if kv.1 = k then (kv.1, v) else kv) else kvs ++ [(k, v)]
def dropK (kvs : List (κ × V)) (k : κ) : List (κ × V) := kvs.filter fun kv => decide (kv.1 ≠ k)

theorem valV_nil {k : κ} : valV ([] : List (κ × V)) k = none := rfl
theorem valV_pos {p : κ × V} {r : List (κ × V)} {k : κ} (e : p.1 = k) : valV (p :: r) k = some p.2 := by simp [valV, List.find?_cons, e]
theorem valV_neg {p : κ × V} {r : List (κ × V)} {k : κ} (e : ¬ p.1 = k) : valV (p :: r) k = valV r k := by simp [valV, List.find?_cons, e]
theorem valV_any (k : κ) : ∀ kvs : List (κ × V), (kvs.any fun kv => decide (kv.1 = k)) = (valV kvs k).isSome
  | [] => rfl
  | p :: r => by
    rw [List.any_cons]
    by_cases e : p.1 = k
    · simp only [valV_pos e, decide_eq_true e, Bool.true_or, Option.isSome_some]
    · rw [valV_neg e, decide_eq_false e, Bool.false_or]; exact valV_any k r
theorem valV_map (k j : κ) (y : V) : ∀ kvs : List (κ × V), valV (kvs.map fun kv => if kv.1 = k then (kv.1, y) else kv) j = (valV kvs j).map fun x => if j = k then y else x
  | [] => rfl
  | p :: r => by
    have ih := valV_map k j y r
    rw [List.map_cons]
    by_cases h : p.1 = k
    · rw [if_pos h]
      by_cases e : p.1 = j
      · rw [valV_pos (p := (p.1, y)) e, valV_pos e, Option.map_some, if_pos (e.symm.trans h)]
      · rw [valV_neg (p := (p.1, y)) e, valV_neg e, ih]
    · rw [if_neg h]
      by_cases e : p.1 = j
      · rw [valV_pos (p := p) e, valV_pos e, Option.map_some, if_neg (fun z => h (e.trans z))]
      · rw [valV_neg (p := p) e, valV_neg e, ih]
theorem valV_snoc (k j : κ) (y : V) : ∀ kvs : List (κ × V), valV kvs k = none → valV (kvs ++ [(k, y)]) j = if j = k then some y else valV kvs j
  | [], _ => by
    by_cases e : k = j
    · rw [if_pos e.symm]; exact valV_pos (p := (k, y)) e
    · rw [if_neg (fun z => e z.symm)]; exact valV_neg (p := (k, y)) e
  | p :: r, hn => by
    rw [List.cons_append]
    have hk : ¬ p.1 = k := fun z => by rw [valV_pos z] at hn; cases hn
    rw [valV_neg hk] at hn
    have ih := valV_snoc k j y r hn
    by_cases e : p.1 = j
    · rw [valV_pos e, valV_pos e, if_neg (fun z => hk (e.trans z))]
    · rw [valV_neg e, valV_neg e, ih]
theorem valV_put (kvs : List (κ × V)) (k j : κ) (y : V) : valV (putK kvs k y) j = if j = k then some y else valV kvs j := by
  unfold putK
  by_cases a : (kvs.any fun kv => decide (kv.1 = k)) = true
  · rw [if_pos a, valV_map]
    rw [valV_any] at a
    by_cases e : j = k
    · obtain ⟨x, hx⟩ := Option.isSome_iff_exists.mp a
      rw [if_pos e, e, hx, Option.map_some, if_pos rfl]
    · rw [if_neg e]
      cases valV kvs j with
      | none => rfl
      | some x => rw [Option.map_some, if_neg e]
  · rw [if_neg a]
    refine valV_snoc k j y kvs ?_
    rw [valV_any] at a
    cases q : valV kvs k with
    | none => rfl
    | some x => rw [q] at a; exact (a rfl).elim
theorem length_putK (kvs : List (κ × V)) (k : κ) (v : V) : (putK kvs k v).length ≤ kvs.length + 1 := by
  unfold putK
  split
  · rw [List.length_map]; omega
  · rw [List.length_append, List.length_cons, List.length_nil]; omega
theorem putK_new {kvs : List (κ × V)} {k : κ} (v : V) (h : valV kvs k = none) : putK kvs k v = kvs ++ [(k, v)] := by
  unfold putK
  rw [valV_any, h]
  exact if_neg (by decide)

theorem RelO.isSome_eq {o : Option V} {u : Option Value} (r : RelO o u) : o.isSome = u.isSome := by
  cases o with
  | none => cases u with
    | none => rfl
    | some _ => exact (show False from r).elim
  | some _ => cases u with
    | none => exact (show False from r).elim
    | some _ => rfl
theorem RelO.getD {o : Option V} {u : Option Value} {d : V} {d' : Value} (r : RelO o u) (rd : RelV d d') : RelV (o.getD d) (u.getD d') := by
  cases o with
  | none => cases u with
    | none => exact rd
    | some _ => exact (show False from r).elim
  | some _ => cases u with
    | none => exact (show False from r).elim
    | some _ => exact r

/-- raw tables of the same keys -/
theorem KV.val {kvs : List (κ × V)} {vs : List (κ × Value)} (r : KV kvs vs) (k : κ) : RelO (valV kvs k) (valueAt vs k) := by
  unfold KV at r
  induction r with
  | nil => exact True.intro
  | @cons p q ps qs h t ih =>
    obtain ⟨h1, h2⟩ := h
    by_cases e : p.1 = k
    · have e' : q.1 = k := h1.symm.trans e
      have b : valueAt (q :: qs) k = some q.2 := by simp [valueAt, List.find?_cons, e']
      rw [valV_pos e, b]; exact h2
    · have e' : ¬ q.1 = k := fun z => e (h1.trans z)
      have b : valueAt (q :: qs) k = valueAt qs k := by simp [valueAt, List.find?_cons, e']
      rw [valV_neg e, b]; exact ih
theorem KV.any {kvs : List (κ × V)} {vs : List (κ × Value)} (r : KV kvs vs) (k : κ) : (kvs.any fun kv => decide (kv.1 = k)) = vs.any fun kv => decide (kv.1 = k) := by
  unfold KV at r
  induction r with
  | nil => rfl
  | cons h t ih => rw [List.any_cons, List.any_cons, ih, h.1]
theorem KV.repl {kvs : List (κ × V)} {vs : List (κ × Value)} (r : KV kvs vs) (k : κ) {y : V} {u : Value} (ry : RelV y u) :
    KV (kvs.map fun kv => if kv.1 = k then (kv.1, y) else kv) (vs.map fun kv => if kv.1 = k then (kv.1, u) else kv) := by
  unfold KV at r ⊢
  induction r with
  | nil => exact .nil
  | @cons p q ps qs h t ih =>
    rw [List.map_cons, List.map_cons]
    refine .cons ?_ ih
    obtain ⟨h1, h2⟩ := h
    by_cases e : p.1 = k
    · rw [if_pos e, if_pos (h1.symm.trans e)]; exact ⟨h1, ry⟩
    · rw [if_neg e, if_neg (fun z => e (h1.trans z))]; exact ⟨h1, h2⟩
theorem KV.put {kvs : List (κ × V)} {vs : List (κ × Value)} (r : KV kvs vs) (k : κ) {y : V} {u : Value} (ry : RelV y u) : KV (putK kvs k y) (stored vs k u) := by
  unfold putK stored
  rw [r.any k]
  by_cases e : (vs.any fun kv => decide (kv.1 = k)) = true
  · rw [if_pos e, if_pos e]; exact r.repl k ry
  · rw [if_neg e, if_neg e]; exact Paired.snoc r ⟨rfl, ry⟩
theorem KV.drop {kvs : List (κ × V)} {vs : List (κ × Value)} (r : KV kvs vs) (k : κ) : KV (dropK kvs k) (without vs k) := by
  unfold KV at r ⊢
  unfold dropK without
  induction r with
  | nil => exact .nil
  | @cons p q ps qs h t ih =>
    obtain ⟨h1, h2⟩ := h
    rw [List.filter_cons, List.filter_cons]
    by_cases e : p.1 = k
    · have a : ¬ decide (p.1 ≠ k) = true := by simp [e]
      have b : ¬ decide (q.1 ≠ k) = true := by simp [h1.symm.trans e]
      rw [if_neg a, if_neg b]; exact ih
    · have e' : ¬ q.1 = k := fun z => e (h1.trans z)
      have a : decide (p.1 ≠ k) = true := by simp [e]
      have b : decide (q.1 ≠ k) = true := by simp [e']
      rw [if_pos a, if_pos b]; exact .cons ⟨h1, h2⟩ ih
theorem KV.keys {kvs : List (κ × V)} {vs : List (κ × Value)} (r : KV kvs vs) : kvs.map (·.1) = vs.map (·.1) := by
  unfold KV at r
  induction r with
  | nil => rfl
  | cons h t ih => rw [List.map_cons, List.map_cons, ih, h.1]
theorem KV.length {kvs : List (κ × V)} {vs : List (κ × Value)} (r : KV kvs vs) : kvs.length = vs.length := Paired.length r
theorem dropK_le (kvs : List (κ × V)) (k : κ) : (dropK kvs k).length ≤ kvs.length := List.length_filter_le _ _
end


/-! ### a tracked dict, its keys ints and texts or tuples of these -/
theorem kV_is {P : Program} {w : World} {k : Key} {u : Value} (r : RelV (kV k) u) : (mixKind P w).is k u = true := by
  cases k with
  | inl i => obtain ⟨t, e⟩ := (show ∃ t, u = Value.int i t from r); subst e; exact mixKind_int P w i t
  | inr x => obtain ⟨t, e⟩ := (show ∃ t, u = Value.str x t from r); subst e; exact mixKind_str P w x t
theorem kV_inj {a b : Key} (e : kV a = kV b) : a = b := by
  cases a with
  | inl i => cases b with
    | inl j => have e' : V.int i = V.int j := e; injection e' with e'; rw [e']
    | inr y => exact nomatch (show V.int i = V.str y from e)
  | inr x => cases b with
    | inl j => exact nomatch (show V.str x = V.int j from e)
    | inr y => have e' : V.str x = V.str y := e; injection e' with e'; rw [e']
theorem kVs_inj : ∀ {a b : List Key}, a.map kV = b.map kV → a = b
  | [], [], _ => rfl
  | [], _ :: _, e => by simp at e
  | _ :: _, [], e => by simp at e
  | x :: xs, y :: ys, e => by
    rw [List.map_cons, List.map_cons] at e
    injection e with e1 e2
    rw [kV_inj e1, kVs_inj e2]
theorem items_are {P : Program} {w : World} : ∀ {ks : List Key} {us : List Value}, Vals (ks.map kV) us → ItemsAre (mixKind P w) ks us
  | [], _, r => by rw [List.map_nil] at r; cases r; exact .nil
  | k :: ks, _, r => by
    rw [List.map_cons] at r
    cases r with
    | cons h t => exact .cons (kV_is h) (items_are t)

/-- raw entries of a dict with tuple keys -/
abbrev KT (H : Hp) : List (List Key × V) → List (List Key × Addr × Value) → Prop := Paired fun p q => p.1 = q.1 ∧ H q.2.1 = some (.tup (p.1.map kV)) ∧ RelV p.2 q.2.2
theorem KT.val {H : Hp} {kvs : List (List Key × V)} {xs : List (List Key × Addr × Value)} (r : KT H kvs xs) (k : List Key) : RelO (valV kvs k) ((atKey xs k).map (·.2)) := by
  induction r with
  | nil => exact True.intro
  | @cons p q ps qs h t ih =>
    obtain ⟨h1, _, h2⟩ := h
    by_cases e : p.1 = k
    · have e' : q.1 = k := h1.symm.trans e
      have b : atKey (q :: qs) k = some q.2 := by simp [atKey, List.find?_cons, e']
      rw [valV_pos e, b]; exact h2
    · have e' : ¬ q.1 = k := fun z => e (h1.trans z)
      have b : atKey (q :: qs) k = atKey qs k := by simp [atKey, List.find?_cons, e']
      rw [valV_neg e, b]; exact ih
theorem KT.repl {H : Hp} {kvs : List (List Key × V)} {xs : List (List Key × Addr × Value)} (r : KT H kvs xs) (k : List Key) {y : V} {u : Value} (ry : RelV y u) :
    KT H (kvs.map fun kv => if kv.1 = k then (kv.1, y) else kv) (xs.map (putAt k u)) := by
  induction r with
  | nil => exact .nil
  | @cons p q ps qs h t ih =>
    rw [List.map_cons, List.map_cons]
    refine .cons ?_ ih
    obtain ⟨h1, h2, h3⟩ := h
    unfold putAt
    by_cases e : p.1 = k
    · rw [if_pos e, if_pos (h1.symm.trans e)]; exact ⟨h1, h2, ry⟩
    · rw [if_neg e, if_neg (fun z => e (h1.trans z))]; exact ⟨h1, h2, h3⟩
theorem KT.put {H : Hp} {kvs : List (List Key × V)} {xs : List (List Key × Addr × Value)} (r : KT H kvs xs) (k : List Key) {b : Addr} {y : V} {u : Value} (hb : H b = some (.tup (k.map kV))) (ry : RelV y u) :
    KT H (putK kvs k y) (storedH xs k b u) := by
  have e : (kvs.any fun kv => decide (kv.1 = k)) = (atKey xs k).isSome := by
    rw [valV_any, (r.val k).isSome_eq, Option.isSome_map]
  unfold putK storedH
  rw [e]
  by_cases q : (atKey xs k).isSome = true
  · rw [if_pos q, if_pos q]; exact r.repl k ry
  · rw [if_neg q, if_neg q]; exact Paired.snoc r ⟨rfl, hb, ry⟩
theorem KT.keeps {H H' : Hp} {kvs : List (List Key × V)} {xs : List (List Key × Addr × Value)} (r : KT H kvs xs) (ht : ∀ b ys, H b = some (.tup ys) → H' b = some (.tup ys)) : KT H' kvs xs :=
  Paired.mapP r fun _ _ z => ⟨z.1, ht _ _ z.2.1, z.2.2⟩

section
variable {P : Program} {w : World} {H : Hp} {h : Heap} {a : Addr}
theorem rd_of {u : HO} (ok : HOk P w H h) (e : Rd H a u) : ObjOk P w H h a u := e.ok ok
theorem dk_rd {kvs : List (Key × V)} (ok : HOk P w H h) (e : Rd H a (.dK kvs)) : kvs.length ≤ sizeLine ∧ (a == sysModules) = false ∧ ∃ vs, KV kvs vs ∧ h.DictOf (mixKind P w) a vs :=
  show ObjOk P w H h a (.dK kvs) from rd_of ok e
theorem dk_of {kvs : List (Key × V)} (ok : HOk P w H h) (e : H a = some (.dK kvs)) : kvs.length ≤ sizeLine ∧ (a == sysModules) = false ∧ ∃ vs, KV kvs vs ∧ h.DictOf (mixKind P w) a vs := dk_rd ok (.inl e)
/-- a tracked tuple of ints and texts is a key -/
theorem key_of {ks : List Key} (ok : HOk P w H h) (e : H a = some (.tup (ks.map kV))) : (tupleKind (mixKind P w)).is h ks a := by
  obtain ⟨_, its, r, o, h1, h2, n, h3⟩ := (show ObjOk P w H h a (.tup (ks.map kV)) from ok a _ e)
  exact ⟨o, its.toArray, n, h1, h2, h3, by simpa using items_are r⟩
theorem dt_rd {kvs : List (List Key × V)} (ok : HOk P w H h) (e : Rd H a (.dT kvs)) : kvs.length ≤ sizeLine ∧ (a == sysModules) = false ∧
    ∃ xs, KT H kvs xs ∧ h.DictOfH (tupleKind (mixKind P w)) a xs := by
  obtain ⟨z, y, xs, r, o, es, ep, h1, h2, h3, h4, h5⟩ := (show ObjOk P w H h a (.dT kvs) from rd_of ok e)
  refine ⟨z, y, xs, r, o, es, ep, h1, h2, h3, h4, fun x hx => ?_, h5⟩
  have all : ∀ {l : List (List Key × V)} {m : List (List Key × Addr × Value)}, KT H l m → ∀ x ∈ m, (tupleKind (mixKind P w)).is h x.1 x.2.1 := by
    intro l m q
    induction q with
    | nil => intro x hx; exact nomatch hx
    | @cons p q ps qs hq t ih =>
      intro x hx
      rcases List.mem_cons.mp hx with e | hx
      · subst e
        exact key_of ok (by rw [← hq.1]; exact hq.2.1)
      · exact ih x hx
  exact all r x hx
theorem dt_of {kvs : List (List Key × V)} (ok : HOk P w H h) (e : H a = some (.dT kvs)) : kvs.length ≤ sizeLine ∧ (a == sysModules) = false ∧
    ∃ xs, KT H kvs xs ∧ h.DictOfH (tupleKind (mixKind P w)) a xs := dt_rd ok (.inl e)
end

/-- what the dict at a holds at the key y -/
def DGet (H : Hp) (a : Addr) (y : V) (r : Option V) : Prop :=
  (∃ kvs k, Rd H a (.dK kvs) ∧ y = kV k ∧ r = valV kvs k) ∨ ∃ kvs k b, Rd H a (.dT kvs) ∧ y = .ref b ∧ H b = some (.tup (k.map kV)) ∧ r = valV kvs k
/-- the heap behind a[y] = v -/
def DPut (H : Hp) (a : Addr) (y v : V) (H' : Hp) : Prop :=
  (∃ kvs k, H a = some (.dK kvs) ∧ y = kV k ∧ kvs.length < sizeLine ∧ H' = upd H a (.dK (putK kvs k v))) ∨
  ∃ kvs k b, H a = some (.dT kvs) ∧ y = .ref b ∧ H b = some (.tup (k.map kV)) ∧ kvs.length < sizeLine ∧ H' = upd H a (.dT (putK kvs k v))
theorem DGet.k {H : Hp} {a : Addr} {kvs : List (Key × V)} {k : Key} (e : H a = some (.dK kvs)) : DGet H a (kV k) (valV kvs k) := .inl ⟨kvs, k, .inl e, rfl, rfl⟩
theorem DGet.t {H : Hp} {a b : Addr} {kvs : List (List Key × V)} {k : List Key} (e : H a = some (.dT kvs)) (eb : H b = some (.tup (k.map kV))) : DGet H a (.ref b) (valV kvs k) := .inr ⟨kvs, k, b, .inl e, rfl, eb, rfl⟩
theorem DPut.k {H : Hp} {a : Addr} {kvs : List (Key × V)} {k : Key} {v : V} (e : H a = some (.dK kvs)) (hl : kvs.length < sizeLine) : DPut H a (kV k) v (upd H a (.dK (putK kvs k v))) := .inl ⟨kvs, k, e, rfl, hl, rfl⟩
theorem DPut.t {H : Hp} {a b : Addr} {kvs : List (List Key × V)} {k : List Key} {v : V} (e : H a = some (.dT kvs)) (eb : H b = some (.tup (k.map kV))) (hl : kvs.length < sizeLine) :
    DPut H a (.ref b) v (upd H a (.dT (putK kvs k v))) := .inr ⟨kvs, k, b, e, rfl, eb, hl, rfl⟩


section
variable {X : Cx} {pins : List (Addr × Obj)} {σ : St} {H : Hp} {s : Shared} {a : Addr} {y v : V} {u r : Value} {o : Option V} {A : Around} {E : Value → Shared → Prop}

theorem Inv.big (I : Inv X pins σ H s) : sysModules < s.heap.objs.size := by
  have h : mainGlobals < s.heap.objs.size := (I.mod.glob.keeps I.bk).lt
  exact Nat.lt_trans (by decide) h

/-- d[y], there -/
theorem d_getItem {Q : Value → Shared → Prop} (hu : A.units + 1 < cLine) (I : Inv X pins σ H s) (g : DGet H a y (some v)) (ry : RelV y u) (h : ∀ w' s', Inv X pins σ H s' → RelV v w' → Q w' s') :
    wpAny (model X.prog X.w) A (getItem (.ref a) u) Q E s := by
  rcases g with ⟨kvs, k, e, ey, l⟩ | ⟨kvs, k, b, e, ey, eb, l⟩
  · subst ey
    obtain ⟨z, hd, vs, rel, dd⟩ := dk_rd I.hok e
    obtain ⟨w', hw, rw'⟩ := RelO.some_of (v := v) (o := valueAt vs k) (by rw [l]; exact rel.val k)
    exact wpAny_getItem_of (kV_is ry) dd.mapOf hw (h w' _ (I.tok _) rw')
  · subst ey
    cases (show u = Value.ref b from ry)
    obtain ⟨z, hd, xs, rel, dd⟩ := dt_rd I.hok e
    obtain ⟨w', hw, rw'⟩ := RelO.some_of (v := v) (o := (atKey xs k).map (·.2)) (by rw [l]; exact rel.val k)
    obtain ⟨p, hp, hp2⟩ := Option.map_eq_some_iff.mp hw
    refine wpAny_getItem_heap (tupleKind_room_in1 hu) (key_of I.hok eb) dd hp ?_
    rw [hp2]
    exact h w' _ (I.tok _) rw'
/-- y in d -/
theorem d_in {Q : Value → Shared → Prop} (hu : A.units + 1 < cLine) (I : Inv X pins σ H s) (g : DGet H a y o) (ry : RelV y u) (h : ∀ s', Inv X pins σ H s' → Q (.bool o.isSome) s') :
    wpAny (model X.prog X.w) A (compareOp .In u (.ref a)) Q E s := by
  rcases g with ⟨kvs, k, e, ey, l⟩ | ⟨kvs, k, b, e, ey, eb, l⟩
  · subst ey
    obtain ⟨z, hd, vs, rel, dd⟩ := dk_rd I.hok e
    refine wpAny_in_of (kV_is ry) hd dd.mapOf ?_
    rw [← (rel.val k).isSome_eq, ← l]
    exact h _ (I.tok _)
  · subst ey
    cases (show u = Value.ref b from ry)
    obtain ⟨z, hd, xs, rel, dd⟩ := dt_rd I.hok e
    refine wpAny_in_heap (tupleKind_room_in1 hu) (key_of I.hok eb) hd dd ?_
    have q := (rel.val k).isSome_eq
    rw [Option.isSome_map] at q
    rw [← q, ← l]
    exact h _ (I.tok _)
theorem d_notIn {Q : Value → Shared → Prop} (hu : A.units + 1 < cLine) (I : Inv X pins σ H s) (g : DGet H a y o) (ry : RelV y u) (h : ∀ s', Inv X pins σ H s' → Q (.bool (!o.isSome)) s') :
    wpAny (model X.prog X.w) A (compareOp .NotIn u (.ref a)) Q E s := by
  rcases g with ⟨kvs, k, e, ey, l⟩ | ⟨kvs, k, b, e, ey, eb, l⟩
  · subst ey
    obtain ⟨z, hd, vs, rel, dd⟩ := dk_rd I.hok e
    refine wpAny_notIn_of (kV_is ry) hd dd.mapOf ?_
    rw [← (rel.val k).isSome_eq, ← l]
    exact h _ (I.tok _)
  · subst ey
    cases (show u = Value.ref b from ry)
    obtain ⟨z, hd, xs, rel, dd⟩ := dt_rd I.hok e
    refine wpAny_notIn_heap (tupleKind_room_in1 hu) (key_of I.hok eb) hd dd ?_
    have q := (rel.val k).isSome_eq
    rw [Option.isSome_map] at q
    rw [← q, ← l]
    exact h _ (I.tok _)
/-- a dict's object is replaced -/
theorem d_write {h' : Heap} {t' : Nat} {ob : HO} (I : Inv X pins σ H s) (mu : Mut (H a)) (hs : Heap.SameBut a s.heap h') (he : ∃ q, h'.get? a = some q) (new : ObjOk X.prog X.w (upd H a ob) h' a ob) :
    Inv X pins σ (upd H a ob) { s with heap := h', toks := t' } :=
  I.write (x := a) (e := a) mu (.inl rfl) (fun b q hb z => (hs.2 b hb).trans z) he new
theorem dk_new {P : Program} {w : World} {H' : Hp} {h' : Heap} {kvs : List (Key × V)} {vs : List (Key × Value)} (z : kvs.length ≤ sizeLine) (hd : (a == sysModules) = false) (rel : KV kvs vs) (dd : h'.DictOf (mixKind P w) a vs) :
    ObjOk P w H' h' a (.dK kvs) := ⟨z, hd, vs, rel, dd⟩
/-- d[y] = v -/
theorem d_setItem {H' : Hp} {Q : Unit → Shared → Prop} (hu : A.units + 1 < cLine) (I : Inv X pins σ H s) (g : DPut H a y v H') (ry : RelV y u) (rv : RelV v r) (h : ∀ s', Inv X pins σ H' s' → Q () s') :
    wpAny (model X.prog X.w) A (setItem (.ref a) u r) Q E s := by
  rcases g with ⟨kvs, k, e, ey, l, eH⟩ | ⟨kvs, k, b, e, ey, eb, l, eH⟩
  · subst ey eH
    obtain ⟨z, hd, vs, rel, dd⟩ := dk_of I.hok e
    have hz : vs.length ≤ sizeLine := by rw [← rel.length]; exact z
    have hl : (putK kvs k v).length ≤ sizeLine := by have := length_putK kvs k v; omega
    refine wpAny_setItem_pairs (hsz := hz) (kV_is ry) dd fun h' dd' hs => h _ ?_
    have he : ∃ q, h'.get? a = some q := let ⟨q, _, _, hq, _⟩ := dd'; ⟨q, hq⟩
    exact d_write I (by rw [e]; exact True.intro) hs he (dk_new hl hd (rel.put k rv) dd')
  · subst ey eH
    cases (show u = Value.ref b from ry)
    obtain ⟨z, hd, xs, rel, dd⟩ := dt_of I.hok e
    have hz : xs.length ≤ sizeLine := by rw [← Paired.length rel]; exact z
    have hl : (putK kvs k v).length ≤ sizeLine := by have := length_putK kvs k v; omega
    refine wpAny_setItem_heap (hsz := hz) (tupleKind_room_in1 hu) (key_of I.hok eb) dd fun h' dd' hs => h _ ?_
    obtain ⟨q, es, ep, hq, h2, h3, h4, _, h5⟩ := dd'
    refine d_write I (by rw [e]; exact True.intro) hs ⟨q, hq⟩ ⟨hl, hd, _, (rel.put k eb rv).keeps fun c ys ec => ?_, q, es, ep, hq, h2, h3, h4, h5⟩
    rw [upd_ne (ne_of ec e (fun z => nomatch z))]
    exact ec
end

section
variable {X : Cx} {pins : List (Addr × Obj)} {σ : St} {H : Hp} {s : Shared} {a : Addr} {kvs : List (Key × V)} {k : Key} {u : Value} {A : Around} {E : Value → Shared → Prop}
/-- del d[k] -/
theorem d_delItem {Q : Unit → Shared → Prop} (I : Inv X pins σ H s) (e : H a = some (.dK kvs)) (ry : RelV (kV k) u) (l : (valV kvs k).isSome = true) (h : ∀ s', Inv X pins σ (upd H a (.dK (dropK kvs k))) s' → Q () s') :
    wpAny (model X.prog X.w) A (delItem (.ref a) u) Q E s := by
  obtain ⟨z, hd, vs, rel, dd⟩ := dk_of I.hok e
  refine wpAny_delItem_slot dd.typeIs (by decide) PySem.F.slot_dict_delitem
    (call_meetsIn PySem.F.slot_dict_delitem dd.typeIs PySem.F.entry_dict_delitem (PySem.F.args_dict_delitem_2 _ _) (meets_dict_delitem_pairs (mixKind X.prog X.w) a (kV_is ry)) ⟨vs, dd, by rw [← rel.length]; exact z, by rw [← (rel.val k).isSome_eq]; exact l, fun h' dd' hs => h _ ?_⟩)
  have he : ∃ q, h'.get? a = some q := let ⟨q, _, _, hq, _⟩ := dd'; ⟨q, hq⟩
  exact d_write I (by rw [e]; exact True.intro) hs he (dk_new (Nat.le_trans (dropK_le kvs k) z) hd (rel.drop k) dd')
/-- d.pop(k[, x]), there -/
theorem d_pop {v : V} {more : List Value} {Q : Value → Shared → Prop} (I : Inv X pins σ H s) (e : H a = some (.dK kvs)) (ry : RelV (kV k) u) (l : valV kvs k = some v) (hm : more = [] ∨ ∃ x, more = [x])
    (h : ∀ w' s', Inv X pins σ (upd H a (.dK (dropK kvs k))) s' → RelV v w' → Q w' s') : wpAny (model X.prog X.w) A (call (.builtin "dict.pop") (.ref a :: u :: more)) Q E s := by
  obtain ⟨z, hd, vs, rel, dd⟩ := dk_of I.hok e
  obtain ⟨w', hw, rw'⟩ := RelO.some_of (v := v) (o := valueAt vs k) (by rw [← l]; exact rel.val k)
  have hp : (keyPart u).isSome = true := by
    cases k with
    | inl i => obtain ⟨t, q⟩ := (show ∃ t, u = Value.int i t from ry); subst q; rfl
    | inr x => obtain ⟨t, q⟩ := (show ∃ t, u = Value.str x t from ry); subst q; rfl
  have ha : argsOk "dict.pop" ⟨.ref a :: u :: more, []⟩ := by
    rcases hm with q | ⟨x, q⟩
    · subst q; exact PySem.F.args_dict_pop_2 _ _
    · subst q; exact PySem.F.args_dict_pop_3 _ _ _
  refine call_meetsIn PySem.F.slot_dict_pop dd.typeIs PySem.F.entry_dict_pop ha (meets_dict_pop_there (mixKind X.prog X.w) a (kV_is ry) more hm hp)
    ⟨vs, w', dd, by rw [← rel.length]; exact z, hw, fun h' dd' hs => h w' _ ?_ rw'⟩
  have he : ∃ q, h'.get? a = some q := let ⟨q, _, _, hq, _⟩ := dd'; ⟨q, hq⟩
  exact d_write I (by rw [e]; exact True.intro) hs he (dk_new (Nat.le_trans (dropK_le kvs k) z) hd (rel.drop k) dd')
/-- d.pop(k, x), not there -/
theorem d_popD {r : Value} {Q : Value → Shared → Prop} (I : Inv X pins σ H s) (e : H a = some (.dK kvs)) (ry : RelV (kV k) u) (l : valV kvs k = none) (h : ∀ s', Inv X pins σ H s' → Q r s') :
    wpAny (model X.prog X.w) A (call (.builtin "dict.pop") [.ref a, u, r]) Q E s := by
  obtain ⟨z, hd, vs, rel, dd⟩ := dk_of I.hok e
  have hn : valueAt vs k = none := RelO.none_of (by rw [← l]; exact rel.val k)
  have hp : (keyPart u).isSome = true := by
    cases k with
    | inl i => obtain ⟨t, q⟩ := (show ∃ t, u = Value.int i t from ry); subst q; rfl
    | inr x => obtain ⟨t, q⟩ := (show ∃ t, u = Value.str x t from ry); subst q; rfl
  exact call_meetsIn PySem.F.slot_dict_pop dd.typeIs PySem.F.entry_dict_pop (PySem.F.args_dict_pop_3 _ _ _) (meets_dict_pop_default (mixKind X.prog X.w) a (kV_is ry) hd hp r) ⟨vs, dd, hn, h _ (I.tok _)⟩
/-- d.clear() -/
theorem d_clear {Q : Value → Shared → Prop} (I : Inv X pins σ H s) (e : H a = some (.dK kvs)) (h : ∀ s', Inv X pins σ (upd H a (.dK [])) s' → Q .none s') : wpAny (model X.prog X.w) A (call (.builtin "dict.clear") [.ref a]) Q E s := by
  obtain ⟨z, hd, vs, rel, dd⟩ := dk_of I.hok e
  refine call_meetsIn PySem.F.slot_dict_clear dd.typeIs PySem.F.entry_dict_clear (PySem.F.args_dict_clear_1 _) (meets_dict_clear (mixKind X.prog X.w) a) ⟨vs, dd, by rw [← rel.length]; exact z, fun h' dd' hs => h _ ?_⟩
  have he : ∃ q, h'.get? a = some q := let ⟨q, _, _, hq, _⟩ := dd'; ⟨q, hq⟩
  exact d_write (t' := s.toks) I (by rw [e]; exact True.intro) hs he (dk_new (Nat.zero_le _) hd .nil dd')
/-- len(d) -/
theorem d_len {Q : Value → Shared → Prop} (I : Inv X pins σ H s) (e : Rd H a (.dK kvs)) (h : ∀ t s', Inv X pins σ H s' → Q (.int kvs.length t) s') : wpAny (model X.prog X.w) A (call (.builtin "len") [.ref a]) Q E s := by
  obtain ⟨z, hd, vs, rel, dd⟩ := dk_rd I.hok e
  refine call_len_dict hd dd (by rw [← rel.length]; rw [sizeLine_eq] at z; omega) ?_
  rw [← rel.length]
  exact h _ _ (I.tok _)
/-- if d -/
theorem d_truth {Q : Bool → Shared → Prop} (I : Inv X pins σ H s) (e : Rd H a (.dK kvs)) (h : ∀ s', Inv X pins σ H s' → Q (!kvs.isEmpty) s') : wpAny (model X.prog X.w) A (truthy (.ref a)) Q E s := by
  obtain ⟨z, hd, vs, rel, dd⟩ := dk_rd I.hok e
  refine wpAny_truthy_dict hd dd (by rw [← rel.length]; rw [sizeLine_eq] at z; omega) ?_
  have q : kvs.isEmpty = vs.isEmpty := by cases rel <;> rfl
  rw [← q]
  exact h _ (I.tok _)
end


/-! ### readings and rules -/
/-- the element of a subscription, not a slice -/
def NoSl (i : Expr) : Prop := ∀ ov iv, subscripted i false ov iv = operate [ov, iv] (getItem ov iv)
theorem subD_of {prog : Program} {w : World} {A : Around} {E : Value → Shared → Prop} {s : Shared} {env : Env} {value slice : Expr} {pos : Pos} {T id : String} {Q : Value → Shared → Prop}
    (hl : typeLookup (.type T) "__getitem__" = pure (some (.builtin id))) (hs : NoSl slice)
    (h : wpAny (model prog w) A (eval value env) (fun o s₁ => wpAny (model prog w) A (eval slice env) (fun i s₂ => s₂.TypeIs o T ∧ wpAny (model prog w) A (getItem o i) Q E s₂) E s₁) E s) :
    wpAny (model prog w) A (eval (.Subscript value slice pos) env) Q E s := by
  refine Subscript_ (wpAny_mono h (fun o s₁ h₁ => wpAny_mono h₁ (fun i s₂ h₂ => ?_) fun _ _ x => x) fun _ _ x => x)
  obtain ⟨hT, h₂⟩ := h₂
  unfold subscriptTail
  refine wpAny_bind ?_
  rw [getitemInPython_of_ne hT.not_modules]
  refine wpAny_bind (wpAny_specialOf hT hl ?_)
  have fin : wpAny (model prog w) A (subscripted slice false o i) (fun r s₃ => wpAny (model prog w) A (letTemporaryGo value o r >>= fun _ => pure r) Q E s₃) E s₂ := by
    rw [hs o i]
    exact wpAny_operating (wpAny_mono h₂ (fun r s₃ h₃ => wpAny_bind (wpAny_letTemporaryGo (wpAny_pure h₃))) fun _ _ x => x)
  first
    | exact wpAny_pure (wpAny_bind fin)
    | exact wpAny_bind (wpAny_pure (wpAny_bind fin))
    | exact wpAny_bind fin

theorem dict_typeIs {X : Cx} {pins : List (Addr × Obj)} {σ : St} {H : Hp} {s : Shared} {a : Addr} {y : V} {o : Option V} (I : Inv X pins σ H s) (g : DGet H a y o) : s.TypeIs (.ref a) "dict" := by
  rcases g with ⟨kvs, k, e, _, _⟩ | ⟨kvs, k, b, e, _, _, _⟩
  · obtain ⟨_, _, vs, _, dd⟩ := dk_rd I.hok e
    exact dd.typeIs
  · obtain ⟨_, _, xs, _, dd⟩ := dt_rd I.hok e
    exact dd.typeIs
theorem dict_noDict {X : Cx} {pins : List (Addr × Obj)} {σ : St} {H : Hp} {s : Shared} {a : Addr} {y : V} {o : Option V} (I : Inv X pins σ H s) (g : DGet H a y o) :
    ∀ b, Value.ref a = .ref b → ∃ ob, s.heap.get? b = some ob ∧ ob.dict = none := fun b q => by
  cases q
  rcases g with ⟨kvs, k, e, _, _⟩ | ⟨kvs, k, b, e, _, _, _⟩
  · obtain ⟨_, _, vs, _, ob, _, _, h1, h2, _⟩ := dk_rd I.hok e
    exact ⟨ob, h1, h2.2.1⟩
  · obtain ⟨_, _, xs, _, ob, _, _, h1, h2, _⟩ := dt_rd I.hok e
    exact ⟨ob, h1, h2.2.1⟩

/-- d[y] -/
def tDGet (td ty : TE) : TE := fun σ H Q => td σ H fun x H1 => ty σ H1 fun y H2 => ∃ a v, x = .ref a ∧ DGet H2 a y (some v) ∧ Q v H2
/-- y in d, y not in d -/
def tDIn (ty td : TE) : TE := fun σ H Q => ty σ H fun y H1 => td σ H1 fun x H2 => ∃ a o, x = .ref a ∧ DGet H2 a y o ∧ Q (.bl o.isSome) H2
def tDNotIn (ty td : TE) : TE := fun σ H Q => ty σ H fun y H1 => td σ H1 fun x H2 => ∃ a o, x = .ref a ∧ DGet H2 a y o ∧ Q (.bl (!o.isSome)) H2
/-- d[y] = v -/
def sDPut (td ty tv : TE) : TS := fun D σ H => tv σ H fun v H1 => td σ H1 fun x H2 => ty σ H2 fun y H3 => ∃ a H4, x = .ref a ∧ DPut H3 a y v H4 ∧ D.nx σ H4
/-- d[y] op= v -/
def sDAug (td ty tv : TE) (rd : V → V → Hp → VK → Prop) : TS := fun D σ H => td σ H fun x H1 => ty σ H1 fun y H2 => ∃ a v, x = .ref a ∧ DGet H2 a y (some v) ∧
  tv σ H2 fun y2 H3 => rd v y2 H3 fun z H4 => ∃ H5, DPut H4 a y z H5 ∧ D.nx σ H5
/-- del d[y] -/
def sDDel (td ty : TE) : TS := fun D σ H => td σ H fun x H1 => ty σ H1 fun y H2 => ∃ a kvs k, x = .ref a ∧ H2 a = some (.dK kvs) ∧ y = kV k ∧ (valV kvs k).isSome = true ∧ D.nx σ (upd H2 a (.dK (dropK kvs k)))

section
variable {X : Cx} {o i e value : Expr} {pos pos' tpos : Pos} {td ty tv : TE}
theorem pe_dget (hu : X.A.units + 1 < cLine) (ho : PE X o td) (hi : PE X i ty) (hs : NoSl i) : PE X (.Subscript o i pos) (tDGet td ty) := by
  intro pins s σ H Q I h
  refine subD_of PySem.F.slot_dict_getitem.lookup hs (thn (ho pins s σ H _ I h) fun u s1 ⟨x, H1, I1, rx, q1⟩ => thn (hi pins s1 σ H1 _ I1 q1) fun iv s2 ⟨y, H2, I2, ry, a, v, ex, g, q2⟩ => ?_)
  subst ex
  obtain rfl : u = Value.ref a := rx
  exact ⟨dict_typeIs I2 g, d_getItem hu I2 g ry fun w' s3 I3 rw' => ⟨v, H2, I3, rw', q2⟩⟩
theorem pc_din (hu : X.A.units + 1 < cLine) (hi : PE X i ty) (ho : PE X o td) : PC X .In i o (tDIn ty td) := by
  intro pins s σ H Q I h
  refine thn (hi pins s σ H _ I h) fun iv s1 ⟨y, H1, I1, ry, q1⟩ => thn (ho pins s1 σ H1 _ I1 q1) fun u s2 ⟨x, H2, I2, rx, a, ov, ex, g, q2⟩ => ?_
  subst ex
  obtain rfl : u = Value.ref a := rx
  exact d_in hu I2 g ry fun s3 I3 => ⟨.bl ov.isSome, H2, I3, rfl, q2⟩
theorem pc_dnotin (hu : X.A.units + 1 < cLine) (hi : PE X i ty) (ho : PE X o td) : PC X .NotIn i o (tDNotIn ty td) := by
  intro pins s σ H Q I h
  refine thn (hi pins s σ H _ I h) fun iv s1 ⟨y, H1, I1, ry, q1⟩ => thn (ho pins s1 σ H1 _ I1 q1) fun u s2 ⟨x, H2, I2, rx, a, ov, ex, g, q2⟩ => ?_
  subst ex
  obtain rfl : u = Value.ref a := rx
  exact d_notIn hu I2 g ry fun s3 I3 => ⟨.bl (!ov.isSome), H2, I3, rfl, q2⟩
theorem ps_dput (hu : X.A.units + 1 < cLine) (ho : PE X o td) (hi : PE X i ty) (hv : PE X value tv) (hs : swapsWith value (some (.Subscript o i pos')) pos.line X.env = pure false) :
    PS X (.Assign [.Subscript o i pos'] value pos) (sDPut td ty tv) := by
  intro pins s σ H D I h
  refine wpAny_Assign_Subscript (thn (hv pins s σ H _ I h) fun r s1 ⟨v, H1, I1, rv, q1⟩ => thn (ho pins s1 σ H1 _ I1 q1) fun u s2 ⟨x, H2, I2, rx, q2⟩ => thn (hi pins s2 σ H2 _ I2 q2) fun iv s3 ⟨y, H3, I3, ry, a, H4, ex, g, q3⟩ => ?_) hs
  subst ex
  obtain rfl : u = Value.ref a := rx
  exact d_setItem hu I3 g ry rv fun s4 I4 => ⟨σ, H4, I4, q3⟩
theorem ps_daug {op : Operator} {rd : V → V → Hp → VK → Prop} (hu : X.A.units + 1 < cLine) (ho : PE X o td) (hi : PE X i ty) (hv : PE X value tv) (hop : InOp X op rd)
    (ha : ∀ ov iv new, augStore i ov iv new = (do holding [new, ov, iv] (setItem ov iv new); release [new, ov, iv] []; pure .next)) : PS X (.AugAssign (.Subscript o i tpos) op value pos) (sDAug td ty tv rd) := by
  intro pins s σ H D I h
  refine wpAny_AugAssign_SubscriptAny (thn (ho pins s σ H _ I h) fun u s1 ⟨x, H1, I1, rx, q1⟩ => thn (hi pins s1 σ H1 _ I1 q1) fun iv s2 ⟨y, H2, I2, ry, a, v, ex, g, q2⟩ => ?_) ha
  subst ex
  obtain rfl : u = Value.ref a := rx
  refine d_getItem hu I2 g ry fun w' s3 I3 rw' => thn (hv pins s3 σ H2 _ I3 q2) fun w2 s4 ⟨y2, H3, I4, ry2, q3⟩ => thn (hop pins s4 σ H3 v y2 w' w2 _ I4 rw' ry2 q3) fun w3 s5 ⟨z, H4, I5, rz, H5, g5, q4⟩ => ?_
  exact d_setItem hu I5 g5 ry rz fun s6 I6 => ⟨σ, H5, I6, q4⟩
theorem ps_ddel (ho : PE X o td) (hi : PE X i ty) : PS X (.Delete [.Subscript o i tpos] pos) (sDDel td ty) := by
  intro pins s σ H D I h
  refine wpAny_Delete (wpAny_deleteEach_cons (wpAny_delete_Subscript (thn (ho pins s σ H _ I h) fun u s1 ⟨x, H1, I1, rx, q1⟩ => thn (hi pins s1 σ H1 _ I1 q1) fun iv s2 ⟨y, H2, I2, ry, a, kvs, k, ex, e, ey, l, q2⟩ => ?_)))
  subst ex ey
  obtain rfl : u = Value.ref a := rx
  exact d_delItem I2 e ry l fun s3 I3 => wpAny_deleteEach_nil ⟨σ, _, I3, q2⟩
end


/-! ### displays -/
theorem dk_empty {P : Program} {w : World} {H : Hp} (h : Heap) (hb : sysModules < h.objs.size) : ObjOk P w H (h.push { cls := .type "dict", data := .dict #[] }) h.objs.size (.dK []) :=
  ⟨Nat.zero_le _, beq_eq_false_iff_ne.mpr (Ne.symm (Nat.ne_of_lt hb)), [], .nil, Heap.DictOf.new h⟩
theorem dt_empty {P : Program} {w : World} {H : Hp} (h : Heap) (hb : sysModules < h.objs.size) : ObjOk P w H (h.push { cls := .type "dict", data := .dict #[] }) h.objs.size (.dT []) :=
  ⟨Nat.zero_le _, beq_eq_false_iff_ne.mpr (Ne.symm (Nat.ne_of_lt hb)), [], .nil, _, #[], 0, Heap.get?_push_size _ rfl, ⟨rfl, rfl, rfl⟩, rfl, rfl, List.nodup_nil⟩
/-- {}, to be a dict of the kind that is wanted -/
def tDNewK : TE := fun _ H Q => ∀ p, H p = none → Q (.ref p) (upd H p (.dK []))
def tDNewT : TE := fun _ H Q => ∀ p, H p = none → Q (.ref p) (upd H p (.dT []))
section
variable {X : Cx} {pos : Pos}
theorem pe_dnewK : PE X (.Dict [] [] pos) tDNewK := fun pins s σ H Q I h =>
  wpAny_Dict_empty ⟨.ref s.heap.objs.size, _, I.laid (a := s.heap.objs.size) (o := .dK []) (t' := s.toks) (fun _ _ q => Heap.get?_push_of_some _ q) (Nat.le_refl _) (dk_empty s.heap I.big), rfl, h _ (I.hok.fresh (Nat.le_refl _))⟩
theorem pe_dnewT : PE X (.Dict [] [] pos) tDNewT := fun pins s σ H Q I h =>
  wpAny_Dict_empty ⟨.ref s.heap.objs.size, _, I.laid (a := s.heap.objs.size) (o := .dT []) (t' := s.toks) (fun _ _ q => Heap.get?_push_of_some _ q) (Nat.le_refl _) (dt_empty s.heap I.big), rfl, h _ (I.hok.fresh (Nat.le_refl _))⟩
end

/-- the pairs of a display, from the left -/
def tPairs : List (TE × TE) → St → Hp → (List (V × V) → Hp → Prop) → Prop
  | [], _, H, Q => Q [] H
  | (tk, tv) :: r, σ, H, Q => tk σ H fun x H1 => tv σ H1 fun y H2 => tPairs r σ H2 fun ps H3 => Q ((x, y) :: ps) H3
abbrev VV : List (V × V) → List (Value × Value) → Prop := Paired fun p q => RelV p.1 q.1 ∧ RelV p.2 q.2
def PPs (X : Cx) (pos : Pos) (keys : List (Option Expr)) (values : List Expr) (trs : List (TE × TE)) : Prop :=
  ∀ (pins : List (Addr × Obj)) (s : Shared) (σ : St) (H : Hp) (Q : List (V × V) → Hp → Prop), Inv X pins σ H s → tPairs trs σ H Q →
    wpAny (model X.prog X.w) X.A (evalPairs (pairTrees keys values X.env pos)) (fun vs s' => ∃ ps H', Inv X pins σ H' s' ∧ VV ps vs ∧ Q ps H') X.xe s
theorem pps_nil {X : Cx} {pos : Pos} : PPs X pos [] [] [] := fun pins s σ H Q I h => pairTrees_nil_walk ⟨[], H, I, .nil, h⟩
theorem pps_cons {X : Cx} {pos : Pos} {k v : Expr} {ks : List (Option Expr)} {vs : List Expr} {tk tv : TE} {trs : List (TE × TE)} (hk : PE X k tk) (hv : PE X v tv) (hr : PPs X pos ks vs trs) :
    PPs X pos (some k :: ks) (v :: vs) ((tk, tv) :: trs) := fun pins s σ H Q I h =>
  pairTrees_cons_walk (thn (hk pins s σ H _ I h) fun u s1 ⟨x, H1, I1, rx, q1⟩ => thn (hv pins s1 σ H1 _ I1 q1) fun w2 s2 ⟨y, H2, I2, ry, q2⟩ =>
    thn (hr pins s2 σ H2 _ I2 q2) fun ws s3 ⟨ps, H3, I3, rel, q3⟩ => ⟨(x, y) :: ps, H3, I3, .cons ⟨rx, ry⟩ rel, q3⟩)

def mergeK (kvs more : List (Key × V)) : List (Key × V) := more.foldl (fun acc kv => putK acc kv.1 kv.2) kvs
theorem KV.merge : ∀ {more : List (Key × V)} {rs : List (Key × Value)} {kvs : List (Key × V)} {vs : List (Key × Value)}, KV more rs → KV kvs vs → KV (mergeK kvs more) (merged vs rs) := by
  intro more rs kvs vs r
  unfold KV at r
  induction r generalizing kvs vs with
  | nil => intro q; exact q
  | @cons p q ps qs h t ih =>
    intro r0
    have e : KV (putK kvs p.1 p.2) (stored vs q.1 q.2) := by
      have := r0.put p.1 h.2
      rw [← h.1]; exact this
    exact ih e
theorem length_mergeK : ∀ (more kvs : List (Key × V)), (mergeK kvs more).length ≤ kvs.length + more.length
  | [], kvs => by show kvs.length ≤ kvs.length + 0; omega
  | p :: r, kvs => by
    have h1 := length_mergeK r (putK kvs p.1 p.2)
    have h2 := length_putK kvs p.1 p.2
    show (mergeK (putK kvs p.1 p.2) r).length ≤ _
    rw [List.length_cons]; omega
theorem carries_of {P : Program} {w : World} : ∀ {kvs : List (Key × V)} {ws : List (Value × Value)}, VV (kvs.map fun kv => (kV kv.1, kv.2)) ws → ∃ rs, Carries (mixKind P w) ws rs ∧ KV kvs rs
  | [], _, r => by rw [List.map_nil] at r; cases r; exact ⟨[], True.intro, .nil⟩
  | p :: kvs, _, r => by
    rw [List.map_cons] at r
    cases r with
    | @cons a b as bs h t =>
      obtain ⟨rs, c, q⟩ := carries_of (P := P) (w := w) t
      obtain ⟨b1, b2⟩ := b
      exact ⟨(p.1, b2) :: rs, ⟨kV_is h.1, rfl, c⟩, .cons ⟨rfl, h.2⟩ q⟩
/-- {k: v, ..} with keys ints and texts; the new dict stands empty while the pairs are made -/
def tDisp (trs : List (TE × TE)) : TE := fun σ H Q => ∀ p, H p = none → tPairs trs σ (upd H p (.dK [])) fun ps H2 => H2 p = some (.dK []) ∧ ∃ kvs : List (Key × V), ps = kvs.map (fun kv => (kV kv.1, kv.2)) ∧ kvs.length ≤ 15 ∧ Q (.ref p) (upd H2 p (.dK (mergeK [] kvs)))
theorem pe_disp {X : Cx} {pos : Pos} {keys : List (Option Expr)} {values : List Expr} {trs : List (TE × TE)} (h : PPs X pos keys values trs) (hall : keys.all (·.isSome) = true) (hl : keys.length = values.length) (h0 : keys ≠ [])
    (h15 : keys.length ≤ 15) : PE X (.Dict keys values pos) (tDisp trs) := by
  intro pins s σ H Q I q
  have hn := I.hok.fresh (Nat.le_refl s.heap.objs.size)
  have I1 := I.laid (a := s.heap.objs.size) (o := .dK []) (h' := s.heap.push { cls := .type "dict", data := .dict #[] }) (t' := s.toks) (fun _ _ q => Heap.get?_push_of_some _ q) (Nat.le_refl _) (dk_empty s.heap I.big)
  refine wpAny_Dict_walk (knd := mixKind X.prog X.w) hall hl h0 h15 (thn (h pins _ σ _ _ I1 (q _ hn)) fun ws s2 ⟨ps, H2, I2, rel, e, kvs, ep, lk, q2⟩ => ?_)
  subst ep
  obtain ⟨rs, c, rk⟩ := carries_of (P := X.prog) (w := X.w) rel
  obtain ⟨z, hd, vs0, r0, dd⟩ := dk_of I2.hok e
  cases r0
  refine ⟨rs, c, dd, fun h' dd' hs => ⟨.ref s.heap.objs.size, _, ?_, rfl, q2⟩⟩
  have hz : (mergeK [] kvs).length ≤ sizeLine := by
    have h1 := length_mergeK kvs []
    rw [List.length_nil] at h1
    rw [sizeLine_eq]; omega
  have he : ∃ q, h'.get? s.heap.objs.size = some q := let ⟨q, _, _, hq, _⟩ := dd'; ⟨q, hq⟩
  exact d_write I2 (by rw [e]; exact True.intro) hs he (dk_new hz hd (rk.merge .nil) dd')


/-! ### methods -/
/-- a method call o.m(e) of a built-in, with one argument: what must be seen of the text -/
structure M1 (X : Cx) (o : Expr) (m : Str) (apos : Pos) (e : Expr) (cpos : Pos) : Prop where
  base : attributeBase o m X.env (eval o X.env) = eval o X.env
  few : ((backTo cpos (starEach [e] X.env)).all (fun x => !x.1) && (backToKw cpos (keywordEach [] X.env)).all (fun x => x.1.isSome)
    && decide (([e] : List Expr).length + ([] : List Keyword).length + (if ([] : List Keyword).isEmpty then 0 else 1) < 30)) = true
  line : (apos.endLine == cpos.line) = true
  trees : backTo cpos (starEach [e] X.env) = [(false, eval e X.env)]
structure M2 (X : Cx) (o : Expr) (m : Str) (apos : Pos) (e f : Expr) (cpos : Pos) : Prop where
  base : attributeBase o m X.env (eval o X.env) = eval o X.env
  few : ((backTo cpos (starEach [e, f] X.env)).all (fun x => !x.1) && (backToKw cpos (keywordEach [] X.env)).all (fun x => x.1.isSome)
    && decide (([e, f] : List Expr).length + ([] : List Keyword).length + (if ([] : List Keyword).isEmpty then 0 else 1) < 30)) = true
  line : (apos.endLine == cpos.line) = true
  trees : backTo cpos (starEach [e, f] X.env) = [(false, eval e X.env), (false, eval f X.env)]

/-- a is a dict, whatever its keys -/
def IsD (H : Hp) (a : Addr) : Prop := (∃ kvs, Rd H a (.dK kvs)) ∨ ∃ kvs, Rd H a (.dT kvs)
theorem isD_at {X : Cx} {pins : List (Addr × Obj)} {σ : St} {H : Hp} {s : Shared} {a : Addr} (I : Inv X pins σ H s) (d : IsD H a) :
    s.TypeIs (.ref a) "dict" ∧ (∀ b, Value.ref a = .ref b → ∃ ob, s.heap.get? b = some ob ∧ ob.dict = none) ∧ (a == sysModules) = false := by
  rcases d with ⟨kvs, e⟩ | ⟨kvs, e⟩
  · obtain ⟨_, hd, vs, _, dd⟩ := dk_rd I.hok e
    refine ⟨dd.typeIs, fun b q => ?_, hd⟩
    cases q
    obtain ⟨ob, _, _, h1, h2, _⟩ := dd
    exact ⟨ob, h1, h2.2.1⟩
  · obtain ⟨_, hd, xs, _, dd⟩ := dt_rd I.hok e
    refine ⟨dd.typeIs, fun b q => ?_, hd⟩
    cases q
    obtain ⟨ob, _, _, h1, h2, _⟩ := dd
    exact ⟨ob, h1, h2.2.1⟩

section
variable {X : Cx} {pins : List (Addr × Obj)} {σ : St} {H : Hp} {s : Shared} {a : Addr} {y d : V} {u r : Value} {o : Option V} {A : Around} {E : Value → Shared → Prop}
/-- d.get(y) -/
theorem d_get1 {Q : Value → Shared → Prop} (hu : A.units + 1 < cLine) (I : Inv X pins σ H s) (g : DGet H a y o) (ry : RelV y u) (h : ∀ w' s', Inv X pins σ H s' → RelV (o.getD .non) w' → Q w' s') :
    wpAny (model X.prog X.w) A (call (.builtin "dict.get") [.ref a, u]) Q E s := by
  rcases g with ⟨kvs, k, e, ey, l⟩ | ⟨kvs, k, b, e, ey, eb, l⟩
  · subst ey
    obtain ⟨z, hd, vs, rel, dd⟩ := dk_rd I.hok e
    refine call_meetsIn PySem.F.slot_dict_get dd.typeIs PySem.F.entry_dict_get (PySem.F.args_dict_get_2 _ _) (meets_dict_get (mixKind X.prog X.w) a (kV_is ry) hd) ⟨_, dd.mapOf, h _ _ (I.tok _) ?_⟩
    rw [l]
    exact (rel.val k).getD rfl
  · subst ey
    cases (show u = Value.ref b from ry)
    obtain ⟨z, hd, xs, rel, dd⟩ := dt_rd I.hok e
    refine call_meetsIn PySem.F.slot_dict_get dd.typeIs PySem.F.entry_dict_get (PySem.F.args_dict_get_2 _ _) (meetsH_dict_get (tupleKind (mixKind X.prog X.w)) a b hd) ⟨tupleKind_room_in1 hu, k, xs, key_of I.hok eb, dd, h _ _ (I.tok _) ?_⟩
    rw [l]
    exact (rel.val k).getD rfl
/-- d.get(y, x) -/
theorem d_get2 {Q : Value → Shared → Prop} (hu : A.units + 1 < cLine) (I : Inv X pins σ H s) (g : DGet H a y o) (ry : RelV y u) (rd : RelV d r) (h : ∀ w' s', Inv X pins σ H s' → RelV (o.getD d) w' → Q w' s') :
    wpAny (model X.prog X.w) A (call (.builtin "dict.get") [.ref a, u, r]) Q E s := by
  rcases g with ⟨kvs, k, e, ey, l⟩ | ⟨kvs, k, b, e, ey, eb, l⟩
  · subst ey
    obtain ⟨z, hd, vs, rel, dd⟩ := dk_rd I.hok e
    refine call_meetsIn PySem.F.slot_dict_get dd.typeIs PySem.F.entry_dict_get (PySem.F.args_dict_get_3 _ _ _) (meets_dict_get_default (mixKind X.prog X.w) a (kV_is ry) hd r) ⟨_, dd.mapOf, h _ _ (I.tok _) ?_⟩
    rw [l]
    exact (rel.val k).getD rd
  · subst ey
    cases (show u = Value.ref b from ry)
    obtain ⟨z, hd, xs, rel, dd⟩ := dt_rd I.hok e
    refine call_meetsIn PySem.F.slot_dict_get dd.typeIs PySem.F.entry_dict_get (PySem.F.args_dict_get_3 _ _ _) (meetsH_dict_get_default (tupleKind (mixKind X.prog X.w)) a b hd r) ⟨tupleKind_room_in1 hu, k, xs, key_of I.hok eb, dd, h _ _ (I.tok _) ?_⟩
    rw [l]
    exact (rel.val k).getD rd
end

def tDGet1 (td ty : TE) : TE := fun σ H Q => td σ H fun x H1 => ∃ a, x = .ref a ∧ IsD H1 a ∧ ty σ H1 fun y H2 => ∃ o, DGet H2 a y o ∧ Q (o.getD .non) H2
def tDGet2 (td ty tx : TE) : TE := fun σ H Q => td σ H fun x H1 => ∃ a, x = .ref a ∧ IsD H1 a ∧ ty σ H1 fun y H2 => tx σ H2 fun z H3 => ∃ o, DGet H3 a y o ∧ Q (o.getD z) H3
/-- d.pop(k): there; d.pop(k, x): there or not -/
def tDPop1 (td ty : TE) : TE := fun σ H Q => td σ H fun x H1 => ∃ a, x = .ref a ∧ IsD H1 a ∧ ty σ H1 fun y H2 => ∃ kvs k v, H2 a = some (.dK kvs) ∧ y = kV k ∧ valV kvs k = some v ∧ Q v (upd H2 a (.dK (dropK kvs k)))
def tDPop2 (td ty tx : TE) : TE := fun σ H Q => td σ H fun x H1 => ∃ a, x = .ref a ∧ IsD H1 a ∧ ty σ H1 fun y H2 => tx σ H2 fun z H3 => ∃ kvs k, H3 a = some (.dK kvs) ∧ y = kV k ∧
  (∀ v, valV kvs k = some v → Q v (upd H3 a (.dK (dropK kvs k)))) ∧ (valV kvs k = none → Q z H3)
section
variable {X : Cx} {o e f : Expr} {apos cpos : Pos} {td ty tx : TE}
theorem pe_dget1 (hu : X.A.units + 1 < cLine) (ho : PE X o td) (he : PE X e ty) (m : M1 X o "get" apos e cpos) : PE X (.Call (.Attribute o "get" apos) [e] [] cpos) (tDGet1 td ty) := by
  intro pins s σ H Q I h
  refine wpAny_Call_method m.base m.few m.line PySem.F.plainAttrs_dict PySem.F.slot_dict_get PySem.F.type_dict_get (thn (ho pins s σ H _ I h) fun u s1 ⟨x, H1, I1, rx, a, ex, d, q1⟩ => ?_)
  subst ex
  obtain rfl : u = Value.ref a := rx
  obtain ⟨t1, t2, _⟩ := isD_at I1 d
  refine ⟨t1, t2, ?_⟩
  rw [m.trees]
  refine Calls.callWith_builtin rfl (Calls.evalArgs_plain (Calls.spliced_cons (thn (he pins s1 σ H1 _ I1 q1) fun iv s2 ⟨y, H2, I2, ry, ov, g, q2⟩ => Calls.spliced_nil ?_)))
  exact d_get1 hu I2 g ry fun w' s3 I3 rw' => ⟨_, H2, I3, rw', q2⟩
theorem pe_dget2 (hu : X.A.units + 1 < cLine) (ho : PE X o td) (he : PE X e ty) (hf : PE X f tx) (m : M2 X o "get" apos e f cpos) : PE X (.Call (.Attribute o "get" apos) [e, f] [] cpos) (tDGet2 td ty tx) := by
  intro pins s σ H Q I h
  refine wpAny_Call_method m.base m.few m.line PySem.F.plainAttrs_dict PySem.F.slot_dict_get PySem.F.type_dict_get (thn (ho pins s σ H _ I h) fun u s1 ⟨x, H1, I1, rx, a, ex, d, q1⟩ => ?_)
  subst ex
  obtain rfl : u = Value.ref a := rx
  obtain ⟨t1, t2, _⟩ := isD_at I1 d
  refine ⟨t1, t2, ?_⟩
  rw [m.trees]
  refine Calls.callWith_builtin rfl (Calls.evalArgs_plain (Calls.spliced_cons (thn (he pins s1 σ H1 _ I1 q1) fun iv s2 ⟨y, H2, I2, ry, q2⟩ =>
    Calls.spliced_cons (thn (hf pins s2 σ H2 _ I2 q2) fun fv s3 ⟨z, H3, I3, rz, ov, g, q3⟩ => Calls.spliced_nil ?_))))
  exact d_get2 hu I3 g ry rz fun w' s4 I4 rw' => ⟨_, H3, I4, rw', q3⟩
theorem pe_dpop1 (ho : PE X o td) (he : PE X e ty) (m : M1 X o "pop" apos e cpos) : PE X (.Call (.Attribute o "pop" apos) [e] [] cpos) (tDPop1 td ty) := by
  intro pins s σ H Q I h
  refine wpAny_Call_method m.base m.few m.line PySem.F.plainAttrs_dict PySem.F.slot_dict_pop PySem.F.type_dict_pop (thn (ho pins s σ H _ I h) fun u s1 ⟨x, H1, I1, rx, a, ex, d, q1⟩ => ?_)
  subst ex
  obtain rfl : u = Value.ref a := rx
  obtain ⟨t1, t2, _⟩ := isD_at I1 d
  refine ⟨t1, t2, ?_⟩
  rw [m.trees]
  refine Calls.callWith_builtin rfl (Calls.evalArgs_plain (Calls.spliced_cons (thn (he pins s1 σ H1 _ I1 q1) fun iv s2 ⟨y, H2, I2, ry, kvs, k, v, ea, ey, l, q2⟩ => Calls.spliced_nil ?_)))
  subst ey
  exact d_pop I2 ea ry l (.inl rfl) fun w' s3 I3 rw' => ⟨v, _, I3, rw', q2⟩
theorem pe_dpop2 (ho : PE X o td) (he : PE X e ty) (hf : PE X f tx) (m : M2 X o "pop" apos e f cpos) : PE X (.Call (.Attribute o "pop" apos) [e, f] [] cpos) (tDPop2 td ty tx) := by
  intro pins s σ H Q I h
  refine wpAny_Call_method m.base m.few m.line PySem.F.plainAttrs_dict PySem.F.slot_dict_pop PySem.F.type_dict_pop (thn (ho pins s σ H _ I h) fun u s1 ⟨x, H1, I1, rx, a, ex, d, q1⟩ => ?_)
  subst ex
  obtain rfl : u = Value.ref a := rx
  obtain ⟨t1, t2, _⟩ := isD_at I1 d
  refine ⟨t1, t2, ?_⟩
  rw [m.trees]
  refine Calls.callWith_builtin rfl (Calls.evalArgs_plain (Calls.spliced_cons (thn (he pins s1 σ H1 _ I1 q1) fun iv s2 ⟨y, H2, I2, ry, q2⟩ =>
    Calls.spliced_cons (thn (hf pins s2 σ H2 _ I2 q2) fun fv s3 ⟨z, H3, I3, rz, kvs, k, ea, ey, q3, q4⟩ => Calls.spliced_nil ?_))))
  subst ey
  cases l : valV kvs k with
  | some v => exact d_pop I3 ea ry l (.inr ⟨fv, rfl⟩) fun w' s4 I4 rw' => ⟨v, _, I4, rw', q3 v l⟩
  | none => exact d_popD I3 ea ry l fun s4 I4 => ⟨z, H3, I4, rz, q4 l⟩
end

/-! ### dict(d): a copy -/
section
variable {X : Cx} {pins : List (Addr × Obj)} {σ : St} {H : Hp} {s : Shared} {a : Addr} {kvs : List (Key × V)} {A : Around} {E : Value → Shared → Prop}
theorem d_copyOf {Q : Value → Shared → Prop} (I : Inv X pins σ H s) (e : Rd H a (.dK kvs)) (h : ∀ p s', H p = none → Inv X pins σ (upd H p (.dK kvs)) s' → Q (.ref p) s') : wpAny (model X.prog X.w) A (call (.type "dict") [.ref a]) Q E s := by
  obtain ⟨z, hd, vs, rel, dd⟩ := dk_rd I.hok e
  refine kt_call_dict hd dd (by rw [← rel.length]; exact z) fun h' dd' hs => ?_
  refine h _ _ (I.hok.fresh (Nat.le_refl _)) (I.laid (a := s.heap.objs.size) (o := .dK kvs) (t' := s.toks) (fun b q hq => ?_) (Nat.le_refl _) (dk_new z (beq_eq_false_iff_ne.mpr (Ne.symm (Nat.ne_of_lt I.big))) rel dd'))
  exact (hs.2 b (Nat.ne_of_lt (Heap.lt_size hq))).trans (Heap.get?_push_of_some _ hq)
end


section
variable {X : Cx} {pins : List (Addr × Obj)} {σ : St} {H : Hp} {s : Shared} {a : Addr} {y : V} {u : Value} {A : Around} {E : Value → Shared → Prop}
/-- d[y], not there: a KeyError -/
theorem d_missing {Q : Value → Shared → Prop} (hu : A.units + 1 < cLine) (hh : A.handled = none) (I : Inv X pins σ H s) (g : DGet H a y none) (ry : RelV y u)
    (h : ∀ h' e t', Heap.NewExc s.heap h' e "KeyError" → E (.ref e) { s with heap := h', toks := t' }) : wpAny (model X.prog X.w) A (getItem (.ref a) u) Q E s := by
  rcases g with ⟨kvs, k, e, ey, l⟩ | ⟨kvs, k, b, e, ey, eb, l⟩
  · subst ey
    obtain ⟨z, hd, vs, rel, dd⟩ := dk_rd I.hok e
    have hn : valueAt vs k = none := RelO.none_of (by rw [l]; exact rel.val k)
    exact wpAny_getItem_missing_of (kV_is ry) hd hh dd.mapOf hn fun h' ex ne => h h' ex _ ne
  · subst ey
    cases (show u = Value.ref b from ry)
    obtain ⟨z, hd, xs, rel, dd⟩ := dt_rd I.hok e
    have hn : (atKey xs k).map (·.2) = none := RelO.none_of (by rw [l]; exact rel.val k)
    exact wpAny_getItem_missing_heap (tupleKind_room_in1 hu) (key_of I.hok eb) hd hh dd (Option.map_eq_none_iff.mp hn) fun h' ex ne => h h' ex _ ne
end
end L2
namespace Att
open PySem PySem.W PySem.Calls PyProof.Rows

/-! ### the script -/
theorem ints_of_wellAll {P : Params} {h : Heap} : ∀ (ns : List Int) (vs : List Value), WellAll P h vs (ns.map WData.int) → IntsAre vs ns := by
  intro ns
  induction ns with
  | nil =>
    intro vs w
    rw [List.map_nil] at w
    cases w
    exact .nil
  | cons n ns ih =>
    intro vs w
    rw [List.map_cons] at w
    cases w with
    | cons a b =>
      cases a
      exact .cons _ _ (ih _ b)

theorem script_of {l : OpenLaw} {n : Nat} (hn : l.most = some n) {P : Params} {h : Heap} {args : List WData} {vals : List Value}
    (hpre : l.row.toRowW.claim.pre args = true) (hwl : WellAll P h vals args) :
    ∃ a vs ns, vals = [Value.ref a] ∧ args = [WData.list (ns.map WData.int)] ∧ h.get? a = some { cls := .type "list", data := .seq vs.toArray } ∧ IntsAre vs ns ∧ ns.length ≤ n := by
  have hsh : WShape.hasAll [] args [.list .int] = true := (pre_splitW hpre).1
  have hc : l.pre.holds [] { args := args } = true := (pre_splitW hpre).2
  obtain ⟨d, r, rfl, h1, h2⟩ := hasAllW_cons hsh
  obtain rfl := hasAllW_nil h2
  obtain ⟨xs, rfl, h3⟩ := hasW_list h1
  obtain ⟨ns, rfl⟩ := items_int h3
  have hlen : ns.length ≤ n := by
    unfold OpenLaw.pre at hc
    have h4 : (WTm.not (.lt (.lit (.int (n : Int))) (.len (.arg 0)))).holds [] { args := [.list (ns.map .int)] } = true := by
      have h4 := (holds_andW hc).1
      rw [hn] at h4
      exact h4
    have h5 := condW_of h4 (w_not (w_lt w_lit (w_len_list (w_arg rfl))))
    rw [List.length_map] at h5
    refine Nat.le_of_not_lt fun q => ?_
    have q' : (n : Int) < ((ns.length : Nat) : Int) := by omega
    first
      | (rw [decide_eq_true q'] at h5; exact absurd h5 (by decide))
      | (simp at h5; omega)
  cases hwl with
  | cons w1 w2 =>
    cases w2
    cases w1 with
    | list ho hall => exact ⟨_, _, ns, rfl, rfl, ho, ints_of_wellAll ns _ hall, hlen⟩

theorem post_true (l : OpenLaw) (args : List WData) : l.row.toRowW.claim.post args (.bool true) args = true :=
  postW_of (r := l.row.toRowW) (X := (true == true))
    (show WShape.has [] (.bool true) .bool = true by first | rfl | decide | simp [WShape.has, WShape.arms, WShape.armsAll])
    (show (WTm.eq .res (.lit (.bool true))).value [] { args := args, res := some (.bool true), after := args } = some (.bool (true == true)) from w_eq_bool (w_res rfl) w_lit) rfl

/-! ### the attachment: holds_open's last premise (the goal 'hc' behind k_head) from a wpAny of the law's body -/
theorem attach {l : OpenLaw} {n : Nat} {q : Program} {loose : List Str} {XP : (Str → Option Value) → Heap → Prop} {YP : World → Heap → Prop} {d : DefRec} {x : Str}
    (hn : l.most = some n) (hdf : d.params.defaults = [])
    (hbind : ∀ pm cd doc v : Value, bindArgs (docDef d.name d.params d.body d.scope pm cd doc) ⟨[v], []⟩ = pure [(x, v)])
    (hx : d.scope.names.lookup x = some .local ∨ d.scope.names.lookup x = some .cell)
    (hk : d.scope.kind = .function) (hco : d.scope.isCoroutine = false) (hgen : d.scope.isGenerator = false)
    (body : ∀ (w : World) (s₀ s₁ s : Shared) (mg mb : Str → Option Value) (fa : Addr) (o : Obj) (pm cd doc : Value) (a : Addr) (vs : List Value) (ns : List Int),
      Ground q loose [] XP w s₀ mg mb s₁.heap → YP w s₁.heap →
      s₁.heap.get? fa = some o → o.data = .func (docDef d.name d.params d.body d.scope pm cd doc) → s₁.heap.CodeRec cd d.name → mg d.name = some (.ref fa) →
      s₁.heap.get? a = some { cls := .type "list", data := .seq vs.toArray } → IntsAre vs ns → ns.length ≤ n →
      s.gens = #[] → s.os = s₁.os →
      Fr s₁.heap s₁.heap.objs.size s.heap (bindL (envOfC d.name d.scope s₁.heap.objs.size fa cd).kindOf [(x, .ref a)] fun _ => none) →
      Cl s₁.heap.objs.size (cellsFrom (s₁.heap.objs.size + 1) d.scope.names []) s.heap (bindC (envOfC d.name d.scope s₁.heap.objs.size fa cd).kindOf [(x, .ref a)] fun _ => none) →
      wpAny (model l.prog w) (callerA.deeper (envOfC d.name d.scope s₁.heap.objs.size fa cd)) (execs d.body (envOfC d.name d.scope s₁.heap.objs.size fa cd))
        (fun f s' => f = .ret (.bool true) ∧ OldK s₁.heap s'.heap ∧ s'.os = s₁.os ∧ AllBare s'.gens) (fun _ _ => False) s) :
    WalkO q loose XP YP l.row.toRowW d [] (fun f vs => PySem.call f vs) := by
  intro w s₀ s₁ mg mb G Y fa o pm cd doc dV kV ho hd hcd hD hmg hg args vals as hpre hlay hrd hwl hlo
  obtain rfl : dV = .none := Dflts.none hD hdf
  obtain rfl : kV = .none := Dflts.noKw hD
  obtain ⟨a, vs, ns, rfl, rfl, hobj, hints, hlen⟩ := script_of hn hpre hwl
  refine enter_call ?_
  refine call_cells_ret (o := o) (by rw [depth_caller]; decide) ho (fd_plain hd) G.T.nolimit hcd (hbind pm cd doc (.ref a)) (fun y hy => ?_) (fun h₁ tk F X => ?_) hco hgen hk
  · obtain rfl : y = (x, Value.ref a) := List.mem_singleton.mp hy
    rcases hx with e | e
    · exact .inl e
    · exact .inr ⟨e, cellsFrom_some _ _ _ (.inl e)⟩
  · refine wpAny_mono (body w s₀ s₁ { s₁ with heap := h₁, toks := tk } mg mb fa o pm cd doc a vs ns G Y ho (fd_plain hd) hcd hmg hobj hints hlen hg rfl F X) (fun f s' hq => ?_) (fun _ _ hq => hq)
    obtain ⟨rfl, h2, h3, h4⟩ := hq
    exact ⟨.inl ⟨.bool true, .bool true, [], rfl, fun _ => rfl, .bool true, post_true l _, fun _ => ⟨List.Pairwise.nil, fun _ hm => (nomatch hm)⟩⟩, h2, h3, h4⟩

/-- the same from a codeAny of the CALL (for a layer whose function contracts speak of calls) -/
theorem attach_call {l : OpenLaw} {n : Nat} {q : Program} {loose : List Str} {XP : (Str → Option Value) → Heap → Prop} {YP : World → Heap → Prop} {d : DefRec}
    (hn : l.most = some n) (hdf : d.params.defaults = [])
    (call : ∀ (w : World) (s₀ s₁ : Shared) (mg mb : Str → Option Value) (fa : Addr) (o : Obj) (pm cd doc : Value) (a : Addr) (vs : List Value) (ns : List Int),
      Ground q loose [] XP w s₀ mg mb s₁.heap → YP w s₁.heap →
      s₁.heap.get? fa = some o → o.data = .func (docDef d.name d.params d.body d.scope pm cd doc) → s₁.heap.CodeRec cd d.name → mg d.name = some (.ref fa) →
      s₁.heap.get? a = some { cls := .type "list", data := .seq vs.toArray } → IntsAre vs ns → ns.length ≤ n → s₁.gens = #[] →
      codeAny (model l.prog w) callerA (.call (.ref fa) ⟨[.ref a], []⟩) (fun r s' => r = .ok (.ret (.bool true)) ∧ OldK s₁.heap s'.heap ∧ s'.os = s₁.os ∧ AllBare s'.gens) s₁) :
    WalkO q loose XP YP l.row.toRowW d [] (fun f vs => PySem.call f vs) := by
  intro w s₀ s₁ mg mb G Y fa o pm cd doc dV kV ho hd hcd hD hmg hg args vals as hpre hlay hrd hwl hlo
  obtain rfl : dV = .none := Dflts.none hD hdf
  obtain rfl : kV = .none := Dflts.noKw hD
  obtain ⟨a, vs, ns, rfl, rfl, hobj, hints, hlen⟩ := script_of hn hpre hwl
  refine enter_call (codeAny_mono (call w s₀ s₁ mg mb fa o pm cd doc a vs ns G Y ho (fd_plain hd) hcd hmg hobj hints hlen hg) fun r s' hq => ?_)
  obtain ⟨rfl, h2, h3, h4⟩ := hq
  exact ⟨.inl ⟨.bool true, .bool true, [], rfl, fun _ => rfl, .bool true, post_true l _, fun _ => ⟨List.Pairwise.nil, fun _ hm => (nomatch hm)⟩⟩, h2, h3, h4⟩

/-- the same where the top left finished generators (o_head chose holds_openN): nothing may have changed at all and no generator may be left -/
theorem attachN {l : OpenLaw} {n : Nat} {q : Program} {loose : List Str} {XP : (Str → Option Value) → Heap → Prop} {YP : World → Heap → Prop} {d : DefRec} {x : Str}
    (hn : l.most = some n) (hdf : d.params.defaults = [])
    (hbind : ∀ pm cd doc v : Value, bindArgs (docDef d.name d.params d.body d.scope pm cd doc) ⟨[v], []⟩ = pure [(x, v)])
    (hx : d.scope.names.lookup x = some .local ∨ d.scope.names.lookup x = some .cell)
    (hk : d.scope.kind = .function) (hco : d.scope.isCoroutine = false) (hgen : d.scope.isGenerator = false)
    (body : ∀ (w : World) (s₀ s₁ s : Shared) (mg mb : Str → Option Value) (fa : Addr) (o : Obj) (pm cd doc : Value) (a : Addr) (vs : List Value) (ns : List Int),
      Ground q loose [] XP w s₀ mg mb s₁.heap → YP w s₁.heap →
      s₁.heap.get? fa = some o → o.data = .func (docDef d.name d.params d.body d.scope pm cd doc) → s₁.heap.CodeRec cd d.name → mg d.name = some (.ref fa) →
      s₁.heap.get? a = some { cls := .type "list", data := .seq vs.toArray } → IntsAre vs ns → ns.length ≤ n →
      s.gens = #[] → s.os = s₁.os →
      Fr s₁.heap s₁.heap.objs.size s.heap (bindL (envOfC d.name d.scope s₁.heap.objs.size fa cd).kindOf [(x, .ref a)] fun _ => none) →
      Cl s₁.heap.objs.size (cellsFrom (s₁.heap.objs.size + 1) d.scope.names []) s.heap (bindC (envOfC d.name d.scope s₁.heap.objs.size fa cd).kindOf [(x, .ref a)] fun _ => none) →
      wpAny (model l.prog w) (callerA.deeper (envOfC d.name d.scope s₁.heap.objs.size fa cd)) (execs d.body (envOfC d.name d.scope s₁.heap.objs.size fa cd))
        (fun f s' => f = .ret (.bool true) ∧ (∀ b o, s₁.heap.get? b = some o → s'.heap.get? b = some o) ∧ s'.os = s₁.os ∧ s'.gens = #[]) (fun _ _ => False) s) :
    WalkN q loose XP YP l.row.toRowW d [] (fun f vs => PySem.call f vs) := by
  intro w s₀ s₁ mg mb G Y fa o pm cd doc dV kV ho hd hcd hD hmg hg args vals as hpre hlay hrd hwl hlo
  obtain rfl : dV = .none := Dflts.none hD hdf
  obtain rfl : kV = .none := Dflts.noKw hD
  obtain ⟨a, vs, ns, rfl, rfl, hobj, hints, hlen⟩ := script_of hn hpre hwl
  refine enter_callW ?_
  refine call_cells_ret (o := o) (by rw [depth_caller]; decide) ho (fd_plain hd) G.T.nolimit hcd (hbind pm cd doc (.ref a)) (fun y hy => ?_) (fun h₁ tk F X => ?_) hco hgen hk
  · obtain rfl : y = (x, Value.ref a) := List.mem_singleton.mp hy
    rcases hx with e | e
    · exact .inl e
    · exact .inr ⟨e, cellsFrom_some _ _ _ (.inl e)⟩
  · refine wpAny_mono (body w s₀ s₁ { s₁ with heap := h₁, toks := tk } mg mb fa o pm cd doc a vs ns G Y ho (fd_plain hd) hcd hmg hobj hints hlen hg rfl F X) (fun f s' hq => ?_) (fun _ _ hq => hq)
    obtain ⟨rfl, h2, h3, h4⟩ := hq
    exact ⟨.inl ⟨.bool true, .bool true, [], rfl, fun _ => rfl, .bool true, post_true l _, fun _ => ⟨List.Pairwise.nil, fun _ hm => (nomatch hm)⟩⟩, h2, h3, h4⟩

/-! ### rules over ANY heap (no ledger) from facts about the written part K: the library's own take a ledger (News) for what they write -/
section
variable {prog : Program} {w : World} {A : Around} {E : Value → Shared → Prop} {s : Shared} {K : Frag}

/-- a def of the module, or a method (qual 'C.m'), entered: the frame is the next address; cells behind it -/
theorem call_fn {R : Result → Shared → Prop} {name qual : Str} {params : Arguments} {body : List Stmt} {scope : Scope} {dV kV doc pm cdv ct oc : Value} {an od : Option Addr} {osl : Array (Option Value)} {f : Addr} {args : Args} {binds : List (Str × Value)}
    (X : K.In s.heap) (hlim : s.heap.NoLimit) (ho : K.lookup f = some ⟨oc, od, .func (fnOf name qual params body scope dV kV doc pm an cdv ct), osl⟩) (hcd : codeIn K cdv qual = true) (hroom : A.depth < recursionLimit)
    (hbind : BindsTo s (fnOf name qual params body scope dV kV doc pm an cdv ct) args binds)
    (hkind : (binds.all fun y => scope.names.lookup y.1 == some .local || scope.names.lookup y.1 == some .cell) = true)
    (h : ∀ s₁, InCallC s s.heap.objs.size (bindL (envOfC qual scope s.heap.objs.size f cdv).kindOf binds fun _ => none) (cellsFrom (s.heap.objs.size + 1) scope.names [])
        (bindC (envOfC qual scope s.heap.objs.size f cdv).kindOf binds fun _ => none) s₁ →
      wpAny (model prog w) (A.deeper (envOfC qual scope s.heap.objs.size f cdv)) (execs body (envOfC qual scope s.heap.objs.size f cdv))
        (fun fl s' => R (.ok (.ret (match fl with | .ret v => v | _ => .none))) s')
        (fun e s' => wpAny (model prog w) (A.deeper (envOfC qual scope s.heap.objs.size f cdv)) (leaving (envOfC qual scope s.heap.objs.size f cdv) e) (fun _ s'' => R (.error e) s'') (fun e' s'' => R (.error e') s'') s') s₁)
    (hco : scope.isCoroutine = false) (hgen : scope.isGenerator = false) (hk : scope.kind = .function) : codeAny (model prog w) A (.call (.ref f) args) R s := by
  refine codeAny_call_function hroom (X _ _ ho) rfl hco hgen rfl (codeRec_of X hcd) (hbind _ _ _ _ ?_)
  refine wpAny_newFunctionEnv_cells hk (kindsX hkind _) fun env he s₁ x => ?_
  subst he
  exact ⟨hlim.keeps x.toInCall.keep, codeAny_func (h s₁ x)⟩

/-- C(..): dict at size, instance at size + 1, then __init__ -/
theorem make_obj {R : Result → Shared → Prop} {C fI : Addr} {rest : List Value} {kw : List (Str × Value)}
    (X : K.In s.heap) (hm : makesIn K C = true) (hi : findIn K (.ref C) "__init__" = some (some (.ref fI))) (hf : isFn K (.ref fI) = true)
    (h : codeAny (model prog w) (A.under (.builtin "type.__call__" ⟨.ref C :: rest, kw⟩)) (.call (.ref fI) ⟨.ref (s.heap.objs.size + 1) :: rest, kw⟩) (InitBack (s.heap.objs.size + 1) R)
      { s with heap := (s.heap.push emptyDict).push (instObj C s.heap.objs.size) }) : codeAny (model prog w) A (.call (.ref C) ⟨rest, kw⟩) R s := by
  obtain ⟨hh, g, d, t, os⟩ := s
  exact make_core (makes_of X hm) (looks_findIn X hi) (fun self => bind_fn X self (beq_iff_eq.mp hf)) (.inl rfl) h

/-- x.name where the instance's dict holds the name and the class does not -/
theorem get_field {x C : Addr} {ox : Obj} {es : List DictEntry} {n : Nat} {name : Str} {expr : Bool} {v : Value} {Q : Value → Shared → Prop}
    (X : K.In s.heap) (I : PySem.W.InstAt s.heap x ox C (some (dictOf es n))) (hg : plainGet K C name = true) (hh : hasDictIn K C = true) (ha : findIn K (.ref C) name = some none)
    (hl : getL name es = some (some v)) (hv : handedIn v = true) (h : Q v { s with toks := s.toks + 1 }) : wpAny (model prog w) A (getAttr (.ref x) name expr) Q E s :=
  get_value X I (plainGet_of hg).1 (findObj_own hh ha rfl hl) hv h

/-- x.m(..): the method found in the class -/
theorem get_method {x C f : Addr} {ox : Obj} {es : List DictEntry} {n : Nat} {name : Str} {pl : Sem Bool} {Q : Value × List Value → Shared → Prop}
    (X : K.In s.heap) (I : PySem.W.InstAt s.heap x ox C (some (dictOf es n))) (hg : plainGet K C name = true) (hf : findIn K (.ref C) name = some (some (.ref f))) (ht : isFn K (.ref f) = true)
    (hl : getL name es = some none) (h : Q (.ref f, [.ref x]) s) : wpAny (model prog w) A (getMethod (.ref x) name pl) Q E s :=
  method_fn X I (plainGet_of hg).1 (plainGet_of hg).2 hf (beq_iff_eq.mp ht) (by show (lookIn name (dictOf es n)).map _ = _; rw [lookIn_dict, hl]; rfl) h

/-! the whole heap as the ledger: makes every rule that writes through a ledger a rule over any heap -/
def noObjs (h : Heap) : Heap := { h with objs := #[] }
theorem noObjs_get (h : Heap) (b : Addr) : (noObjs h).get? b = none := by
  cases e : (noObjs h).get? b with
  | none => rfl
  | some o => exact absurd (Heap.lt_size e) (Nat.not_lt_zero _)
def ledger (h : Heap) (L d : Addr) : List (Addr × Obj) := (List.range h.objs.size).filterMap fun a => if a = L ∨ a = d then none else (h.get? a).map fun o => (a, o)
theorem mem_ledger {h : Heap} {L d a : Addr} {o : Obj} : (a, o) ∈ ledger h L d ↔ a ≠ L ∧ a ≠ d ∧ h.get? a = some o := by
  unfold ledger
  rw [List.mem_filterMap]
  constructor
  · rintro ⟨b, _, e⟩
    split at e
    · cases e
    · rename_i hb
      obtain ⟨o', ho, e'⟩ := Option.map_eq_some_iff.mp e
      cases e'
      exact ⟨fun q => hb (.inl q), fun q => hb (.inr q), ho⟩
  · rintro ⟨n1, n2, ho⟩
    refine ⟨a, List.mem_range.mpr (Heap.lt_size ho), ?_⟩
    rw [if_neg (show ¬ (a = L ∨ a = d) from fun q => q.elim n1 n2), ho] <;> rfl
theorem news_ledger {h : Heap} {L d : Addr} {od : Obj} (hne : d ≠ L) (ho : h.get? d = some od) : News (noObjs h) L h ([] ++ (d, od) :: ledger h L d) := by
  rintro ⟨a, o⟩ hp
  rcases List.mem_cons.mp hp with e | hp
  · cases e
    exact ⟨ho, hne, noObjs_get _ _⟩
  · obtain ⟨n1, n2, e⟩ := mem_ledger.mp hp
    exact ⟨e, n1, noObjs_get _ _⟩
theorem fr_all {h : Heap} {L : Addr} {m : Str → Option Value} (n : h.Ns L m) : Fr (noObjs h) L h m :=
  ⟨n, fun b o e => (by rw [noObjs_get] at e; cases e), Nat.zero_le _⟩
/-- Upd of the head entry (for append_K, setItem_K ..) -/
theorem upd_ledger {h : Heap} {L d : Addr} {o o' : Obj} : Upd d o o' ((d, o) :: ledger h L d) ((d, o') :: ledger h L d) :=
  .head fun ⟨_, _⟩ hp => (mem_ledger.mp hp).2.1

/-- x.name = v over any heap: L is any namespace of the heap (the frame's, say): its map stays, its object is not told; all else but the dict stays -/
theorem set_field {x C dx L : Addr} {ox : Obj} {m : Str → Option Value} {es es' : List DictEntry} {n n' : Nat} {name : Str} {v : Value} {Q : Unit → Shared → Prop}
    (X : K.In s.heap) (I : PySem.W.InstAt s.heap x ox C (some (dictOf es n))) (hd : ox.dict = some dx) (hL : s.heap.Ns L m) (hne : dx ≠ L)
    (hs : findIn K (.ref C) "__setattr__" = some (some (.builtin "object.__setattr__"))) (hp : plainOver K C = true) (ht : takerIn K C name = some none) (hh : hasDictIn K C = true) (hl : (getL name es).isSome = true)
    (e : (putL name (PyData.keyHash w.params name) (.str name (s.toks + 1)) v es, putN name es n) = (es', n')) (hz : es'.length ≤ 1000)
    (h : ∀ h' : Heap, h'.Ns L m → h'.get? dx = some (dictOf es' n') → (∀ b o, b ≠ dx → b ≠ L → s.heap.get? b = some o → h'.get? b = some o) → Q () { s with heap := h', toks := s.toks + 2 }) :
    wpAny (model prog w) A (setAttr (.ref x) name v) Q E s := by
  obtain ⟨e1, e2⟩ := Prod.mk.inj e
  have hdx : s.heap.get? dx = some (dictOf es n) := by
    have := I.dict
    rw [hd] at this
    exact this
  refine set_plain X I hs (osa_dict (s := { s with toks := s.toks + 1 }) (h₀ := noObjs s.heap) (L := L) (m := m) (od := dictOf es n) (od' := dictOf es' n') (es := es') (n := n') (pre := []) (post := ledger s.heap L dx)
    (fr_all hL) (news_ledger hne hdx) X I hd hp ht hh hl (fun _ q => nomatch q) (fun ⟨_, _⟩ q => (mem_ledger.mp q).2.1) (by rw [putName_dict, e1, e2]) rfl hz fun h' F' N' => ?_)
  exact h h' F'.ns (N'.get (List.Mem.head _)) fun b o n1 n2 ho => N'.get (List.Mem.tail _ (mem_ledger.mpr ⟨n2, n1, ho⟩))
end
end Att

namespace L2
open PySem PySem.Spec PyProof.Rows

theorem vals_ints : ∀ {vs : List Value} {ns : List Int}, IntsAre vs ns → Vals (ns.map V.int) vs
  | _, _, .nil => .nil
  | _, _, .cons n t h => .cons ⟨t, rfl⟩ (vals_ints h)

/-- nothing is tracked but the script, known to the object (or it is an object of the module) -/
def Only (H : Hp) : Prop := ∀ b, H b = none ∨ ∃ o xs, H b = some (.frz o (.lst xs))

/-- THE HEAD: the law's promise, at the heap behind the top. F, the promise of the law's def, may use that base is part of the heap (so K.In base, base.Ns mainGlobals mg stand in Mod) -/
theorem law_call {P : Program} {w : World} {K : PySem.W.Frag} {mg mb : Str → Option Value} {CX : CXT} {k : Nat} {fa a : Addr} {fd : FuncData} {x : Str} {sp : Sp} {s₁ : Shared} {vs : List Value} {ns : List Int}
    (KX : K.In s₁.heap) (hns : s₁.heap.Ns mainGlobals mg) (hb : s₁.heap.Ns builtinsNs mb) (hbb : ∀ x : Str, x ≠ "__name__" → mb x = bootBuiltins x) (hlim : s₁.heap.NoLimit) (hg : s₁.gens = #[])
    (ha : s₁.heap.get? a = some { cls := .type "list", data := .seq vs.toArray }) (hi : IntsAre vs ns) (hl : ns.length ≤ sizeLine) (hr : Room k callerA)
    (F : ∀ base : Heap, K.In base → base.Ns mainGlobals mg → FnOk P w K mg base CX k fa fd [x] sp) (hbind : ∀ (s : Shared) (u : Value), BindsTo s fd ⟨[u], []⟩ [(x, u)])
    (hsp : ∀ H : Hp, Only H → SqL K H a (ns.map V.int) → sp [.ref a] H (fun v _ => v = .bl true) fun _ _ _ => False)
    (hCX : ∀ H e s', CX [] H s₁ (fun _ _ _ => False) e s' → False) :
    codeAny (model P w) callerA (.call (.ref fa) ⟨[.ref a], []⟩) (fun r s' => r = .ok (.ret (.bool true)) ∧ OldK s₁.heap s'.heap ∧ s'.os = s₁.os ∧ AllBare s'.gens) s₁ := by
  have rv := vals_ints hi
  have lenV := hi.length
  -- from an abstract heap in which nothing but the script may be tracked
  have core : ∀ H : Hp, Only H → SqL K H a (ns.map V.int) → HOk P w H s₁.heap → (∀ b, H b ≠ none → b = a) → (H a ≠ none → K.lookup a = none) →
      codeAny (model P w) callerA (.call (.ref fa) ⟨[.ref a], []⟩) (fun r s' => r = .ok (.ret (.bool true)) ∧ OldK s₁.heap s'.heap ∧ s'.os = s₁.os ∧ AllBare s'.gens) s₁ := by
    intro H hO hS hok hA hK
    have base_of : ∀ {b : Addr} {o : Obj}, s₁.heap.get? b = some o → H b = none → (hidT s₁.heap H).get? b = some o := fun e n => hidT_get e n
    have noA : ∀ {b : Addr} {o : Obj} {es : Array DictEntry} {ep : Nat}, s₁.heap.get? b = some o → o.data = .dict es ep → H b = none := fun {b o es ep} e d => by
      cases q : H b with
      | none => rfl
      | some u =>
        have e' : b = a := hA b (by rw [q]; simp)
        subst e'
        rw [ha] at e; cases e
        have d' : Data.seq vs.toArray _ = Data.dict es ep := d
        cases d'
    have nsK : ∀ {b : Addr} {m : Str → Option Value}, s₁.heap.Ns b m → (hidT s₁.heap H).Ns b m := fun {b m} ⟨o, es, ep, e, d, r⟩ => ⟨o, es, ep, base_of e (noA e d), d, r⟩
    have hKb : K.In (hidT s₁.heap H) := fun b o e => base_of (KX b o e) (by
      cases q : H b with
      | none => rfl
      | some u =>
        have e' : b = a := hA b (by rw [q]; simp)
        subst e'
        rw [hK (by rw [q]; simp)] at e; cases e)
    have hM : Mod K mg (hidT s₁.heap H) := ⟨hKb, nsK hns, ⟨mb, nsK hb, hbb⟩, let ⟨mc, h1, h2⟩ := hlim; ⟨mc, nsK h1, h2⟩⟩
    have e0 : Env0 P w K mg (hidT s₁.heap H) callerA [] s₁ H := ⟨rfl, hM, fun b o e => of_hidT e, Nat.le_of_eq (hidT_size _ _), trivial, fun b hb => absurd (show b ∈ ([] : List Addr) from hb) (by simp), hok, .of_eq hg⟩
    refine codeAny_mono ((F _ hKb (nsK hns)).run callerA [] s₁ H ⟨[.ref a], []⟩ [.ref a] [.ref a] _ _ hr e0 (hbind s₁ (.ref a)) (.cons rfl .nil) (hsp H hO hS)) fun r s' h => ?_
    cases r with
    | error e => exact (hCX H e s' h).elim
    | ok fl =>
      cases fl with
      | next => exact False.elim h
      | brk => exact False.elim h
      | cont => exact False.elim h
      | ret u =>
        obtain ⟨v, H', os, bare, un, hok', r', q⟩ := h
        have q' : v = .bl true := q
        subst q'
        obtain rfl : u = Value.bool true := r'
        refine ⟨rfl, OldK.of_keep fun b o e => ?_, os, bare⟩
        cases q : H b with
        | none => exact un.keep b o e q (by intro z; exact absurd (show b ∈ ([] : List Addr) from z) (by simp)) (by simp)
        | some u =>
          rcases hO b with z | ⟨ob, xs, z⟩
          · rw [q] at z; cases z
          · have z2 := un.frzs b ob _ z
            obtain ⟨e1, _⟩ := hok b _ z
            obtain ⟨e2, _⟩ := hok' b _ z2
            rw [e] at e1; cases e1
            exact e2
  cases hk : K.lookup a with
  | some o =>
    -- the script is one of the module's own objects
    have e := KX a o hk
    rw [ha] at e
    cases e
    refine core (fun _ => none) (fun _ => .inl rfl) (.inr ⟨_, vs.toArray, _, hk, rfl, rfl, rfl, by rw [List.size_toArray, lenV]; exact hl, by simpa using rv⟩) (fun b u z => by have z' : (none : Option HO) = some u := z; cases z') (fun b z => absurd rfl z) fun z => absurd rfl z
  | none =>
    refine core (fun b => if b = a then some (.frz { cls := .type "list", data := .seq vs.toArray } (.lst (ns.map V.int))) else none) (fun b => ?_) (.inl (.inr ⟨{ cls := .type "list", data := .seq vs.toArray }, if_pos rfl⟩)) (fun b u z => ?_) (fun b z => ?_) fun _ => hk
    · by_cases hb : b = a
      · exact .inr ⟨_, _, if_pos hb⟩
      · exact .inl (if_neg hb)
    · by_cases hb : b = a
      · have z' := (if_pos hb).symm.trans z
        cases z'
        subst hb
        exact ⟨ha, by rw [List.length_map]; exact hl, vs, _, rv, ha⟩
      · have z' := (if_neg hb).symm.trans z
        cases z'
    · by_cases hb : b = a
      · exact hb
      · exact absurd (if_neg hb) z
end L2

namespace L2
open PySem PySem.Spec PyProof.Rows

abbrev KOf {K : PySem.W.Frag} {h : Heap} (_ : K.In h) : PySem.W.Frag := K

/-- the goal that k_head leaves (case hc), from the law's promise. F gives the function object fd (K's own) once, then the promise over every base -/
theorem walk_of {l : PySem.W.OpenLaw} {n k : Nat} {q : Program} {loose : List Str} {XP : (Str → Option Value) → Heap → Prop} {YP : World → Heap → Prop} {d : DefRec} {K : Params → PySem.W.Frag} {CX : World → CXT} {sp : World → Sp} {x : Str}
    (hn : l.most = some n) (hn2 : n ≤ sizeLine) (hdf : d.params.defaults = []) (hr : Room k callerA)
    (hY : ∀ (w : World) (h : Heap), YP w h → (K w.params).In h)
    (F : ∀ (w : World) (mg : Str → Option Value) (fa : Addr) (h : Heap), (K w.params).In h → h.Ns mainGlobals mg → mg d.name = some (.ref fa) →
      ∃ fd : FuncData, (∀ (s : Shared) (u : Value), BindsTo s fd ⟨[u], []⟩ [(x, u)]) ∧
        ∀ base : Heap, (K w.params).In base → base.Ns mainGlobals mg → FnOk l.prog w (K w.params) mg base (CX w) k fa fd [x] (sp w))
    (hsp : ∀ (w : World) (H : Hp) (a : Addr) (ns : List Int), ns.length ≤ n → Only H → SqL (K w.params) H a (ns.map V.int) → sp w [.ref a] H (fun v _ => v = .bl true) fun _ _ _ => False)
    (hCX : ∀ (w : World) (H : Hp) (s : Shared) (e : Value) (s' : Shared), CX w [] H s (fun _ _ _ => False) e s' → False) :
    PySem.W.WalkO q loose XP YP l.row.toRowW d [] (fun f vs => PySem.call f vs) := by
  refine Att.attach_call hn hdf fun w s₀ s₁ mg mb fa o pm cd doc a vs ns G Y ho hd hcd hmg hobj hints hlen hg => ?_
  have KX := hY w _ Y
  obtain ⟨fd, hb, hF⟩ := F w mg fa _ KX G.T.g hmg
  exact law_call KX G.T.g G.T.b G.T.builtins G.T.nolimit hg hobj hints (Nat.le_trans hlen hn2) hr hF hb (fun H hO hS => hsp w H a ns hlen hO hS) fun H e s' => hCX w H s₁ e s'
/-- the same where the promise hangs on the written part alone: (sp := My.sp_law), no hole under a binder -/
theorem walk_ofK {l : PySem.W.OpenLaw} {n k : Nat} {q : Program} {loose : List Str} {XP : (Str → Option Value) → Heap → Prop} {YP : World → Heap → Prop} {d : DefRec} {K : Params → PySem.W.Frag} {CX : CXT} {sp : PySem.W.Frag → Sp} {x : Str}
    (hn : l.most = some n) (hn2 : n ≤ sizeLine) (hdf : d.params.defaults = []) (hr : Room k callerA)
    (hY : ∀ (w : World) (h : Heap), YP w h → (K w.params).In h)
    (F : ∀ (w : World) (mg : Str → Option Value) (fa : Addr) (h : Heap), (K w.params).In h → h.Ns mainGlobals mg → mg d.name = some (.ref fa) →
      ∃ fd : FuncData, (∀ (s : Shared) (u : Value), BindsTo s fd ⟨[u], []⟩ [(x, u)]) ∧
        ∀ base : Heap, (K w.params).In base → base.Ns mainGlobals mg → FnOk l.prog w (K w.params) mg base CX k fa fd [x] (sp (K w.params)))
    (hsp : ∀ (K : PySem.W.Frag) (H : Hp) (a : Addr) (ns : List Int), ns.length ≤ n → Only H → SqL K H a (ns.map V.int) → sp K [.ref a] H (fun v _ => v = .bl true) fun _ _ _ => False)
    (hCX : ∀ (H : Hp) (s : Shared) (e : Value) (s' : Shared), CX [] H s (fun _ _ _ => False) e s' → False) :
    PySem.W.WalkO q loose XP YP l.row.toRowW d [] (fun f vs => PySem.call f vs) :=
  walk_of (K := K) (CX := fun _ => CX) (sp := fun w => sp (K w.params)) hn hn2 hdf hr hY F (fun w H a ns h1 h2 h3 => hsp (K w.params) H a ns h1 h2 h3) fun _ H s e s' => hCX H s e s'
end L2

/- THE LAST THEOREM (shape; LID, My.* are yours):
   My.Adr: a structure of the addresses that your layer names (classes, functions); My.Txt K t: a structure (Prop) of the equations over K;
   My.txt_mk : {K} {implicit addresses ..} (e1 : nsIn K mainGlobals "law" = some (some (.ref f))) (e2 : K.lookup f = some ⟨oc, od, .func (fnOf "law" "law" params body scope dV kV doc pm an cdv ct), sl⟩) (e3 : codeIn K cdv "law" = true) .. : ∃ t, My.Txt K t

set_option maxRecDepth 100000 in
set_option maxHeartbeats 0 in
theorem PySem.Challenge.cw_LID_holds : PySem.Challenge.rw_LID.Holds := by
  w_on; o_law; k_head; (case hw => w_witness2)
  k_fill
  refine L2.walk_of (l := PySem.Challenge.rw_LID) (n := 63) (k := 40) (x := "script") (CX := fun w => ..) (sp := fun _ => My.sp_law) rfl (by decide) rfl ⟨rfl, by decide, by decide⟩ (fun w h Y => PySem.W.kIn_of Y) ?F ?S ?C
  case F =>
    intro w mg fa h KX G hmg
    have T : ∃ t, My.Txt (L2.KOf KX) t := by
      dsimp only [L2.KOf]                          -- K must stand as «<heap const> w.params» for k_is
      refine' My.txt_mk ?e1 ?e2 ?e3 ..
      (case e1 => PySem.W.k_is)                    -- in the order: a name -> its address -> its object -> its parts
      (case e2 => PySem.W.k_is)
      ..
    obtain ⟨t, T⟩ := T
    have e0 := hmg.symm.trans (PySem.W.mg_of KX G T.law)
    cases e0                                       -- fa is the law's own address
    exact ⟨_, fun s u => .of_eq rfl, fun base kb nb => My.law_fn T kb nb⟩     -- if «.of_eq rfl» comes too early: refine' ⟨_, ?b, fun base kb nb => My.law_fn T kb nb⟩; exact fun s u => .of_eq rfl
  case S => exact fun w H a ns hl hO hS => ..
  case C => exact ..
(the tactic k_is has no namespace: write k_is) -/

/-! SHORT WORDS over the layer: a def of the text, its body, what a loop and a test want. -/
namespace L2
open PySem PySem.Spec PyProof.Rows

/-! ### the text by places -/
/-- the j-th statement of a class's body -/
def inClass (s : Stmt) (j : Nat) : Stmt := match s with
  | .ClassDef _ _ _ body _ _ _ _ _ _ _ => body.getD j (.Pass ⟨0, 0, 0, 0⟩)
  | _ => .Pass ⟨0, 0, 0, 0⟩
def defArgs (s : Stmt) : Arguments := match s with
  | .FunctionDef _ a _ _ _ _ _ _ _ _ => a
  | _ => { posonlyargs := [], args := [], vararg := none, kwonlyargs := [], kw_defaults := [], kwarg := none, defaults := [] }
def defBody (s : Stmt) : List Stmt := match s with
  | .FunctionDef _ _ b _ _ _ _ _ _ _ => b
  | _ => []
def defScope (s : Stmt) : Scope := match s with
  | .FunctionDef _ _ _ _ _ _ sc _ _ _ => sc
  | _ => { kind := .function, names := [], isGenerator := false, isCoroutine := false }

/-! ### no exception leaves a def -/
abbrev CX0 : CXT := fun _ _ _ _ _ _ => False
abbrev E0 : XK := fun _ _ _ => False
theorem pass0 {X : Cx} : Passes CX0 X E0 := fun _ _ _ _ _ _ _ h => h.elim

/-! ### a def (or method) of the text as it stands behind the top -/
structure Fun (K : PySem.W.Frag) (x qual : Str) (st : Stmt) (f : Addr) (fd : FuncData) : Prop where
  ex : ∃ (oc : Value) (od : Option Addr) (kV doc pm : Value) (an : Option Addr) (cdv ct : Value) (osl : Array (Option Value)),
    fd = PySem.W.fnOf x qual (defArgs st) (defBody st) (defScope st) .none kV doc pm an cdv ct ∧ K.lookup f = some ⟨oc, od, .func fd, osl⟩ ∧ PySem.W.codeIn K cdv qual = true
  kp : PySem.W.keepIn K (.ref f) = true
section
variable {P : Program} {w : World} {K : PySem.W.Frag} {mg : Str → Option Value} {base : Heap}
/-- THE RULE for a def: its body as a term of rules, and the reading of that term -/
theorem Fun.ok {x qual : Str} {st : Stmt} {f : Addr} {fd : FuncData} {N ps : List Str} {k : Nat} {sp : Sp} (F : Fun K x qual st f fd) (S : FnScope N ps (defScope st)) (len : ∀ vs H Q E, sp vs H Q E → vs.length = ps.length)
    (hbody : ∀ (cdv : Value) (A : Around) (outer : List Env) (s : Shared) (H : Hp) (vs : List V) (Q : VK) (E : XK), Room k (A.deeper (envOfC qual (defScope st) s.heap.objs.size f cdv)) → sp vs H Q E →
      ∃ t, PSs (cxOf CX0 P w K mg base N qual (defScope st) f cdv A outer s H E).nox (defBody st) t ∧ t { nx := fun _ H' => Q .non H', rt := Q } (start N vs) H) : FnOk P w K mg base CX0 (k + 1) f fd ps sp := by
  obtain ⟨oc, od, kV, doc, pm, an, cdv, ct, osl, rfl, lk, hcd⟩ := F.ex
  refine fn_of lk hcd S len fun A outer s H vs Q E hr hsp => ?_
  obtain ⟨t, h, q⟩ := hbody cdv A outer s H vs Q E hr hsp
  exact ⟨t, h.nox, q⟩
/-- how its arguments bind (no defaults): h is «fun _ _ _ _ _ _ us hl => match us, hl with | [_, _], _ => rfl», one _ a parameter -/
theorem Fun.binds {x qual : Str} {st : Stmt} {f : Addr} {fd : FuncData} {ps : List Str} (F : Fun K x qual st f fd)
    (h : ∀ (kV doc pm : Value) (an : Option Addr) (cdv ct : Value) (us : List Value), us.length = ps.length → bindArgs (PySem.W.fnOf x qual (defArgs st) (defBody st) (defScope st) .none kV doc pm an cdv ct) ⟨us, []⟩ = pure (ps.zip us)) : Binds K fd ps [] := by
  obtain ⟨oc, od, kV, doc, pm, an, cdv, ct, osl, rfl, lk, hcd⟩ := F.ex
  exact .all (h kV doc pm an cdv ct)
theorem fun_mk {x qual : Str} {st : Stmt} {f : Addr} {oc : Value} {od an : Option Addr} {osl : Array (Option Value)} {kV doc pm cdv ct : Value} (l : K.lookup f = some ⟨oc, od, .func (PySem.W.fnOf x qual (defArgs st) (defBody st) (defScope st) .none kV doc pm an cdv ct), osl⟩)
    (c : PySem.W.codeIn K cdv qual = true) (k : PySem.W.keepIn K (.ref f) = true) : Fun K x qual st f (PySem.W.fnOf x qual (defArgs st) (defBody st) (defScope st) .none kV doc pm an cdv ct) := ⟨⟨oc, od, kV, doc, pm, an, cdv, ct, osl, rfl, l, c⟩, k⟩
end
theorem hu_of {A : Around} {k : Nat} (hr : Room k A) : A.units + 1 < cLine := Nat.lt_of_le_of_lt (Nat.add_le_add_left (by decide : 1 ≤ 64) _) hr.units
theorem small1000 {n : Nat} (h : n ≤ 1000) : n < sizeLine := Nat.lt_of_le_of_lt h (by decide)

/-! ### expressions in short: the name that stands in the i-th slot -/
section
variable {X : Cx}
theorem pv (i : Nat) {x : Str} {pos : Pos} (hN : X.N[i]? = some x := by rfl) (hv : Vis X.env.scope x := by first | exact Or.inl rfl | exact Or.inr (Or.inl rfl) | exact Or.inr (Or.inr rfl)) (hd : (x == ("__debug__" : Str)) = false := by decide)
    (hcd : (x == ("__classdict__" : Str)) = false := by decide) : PE X (.Name x pos) (tVar i) := pe_var hN hv hd hcd
end

/-! ### tests -/
theorem iteF {A B : Prop} (h : B) : if false = true then A else B := by
  rw [if_neg Bool.false_ne_true]
  exact h
theorem iteT {A B : Prop} (h : A) : if true = true then A else B := by
  rw [if_pos rfl]
  exact h
theorem ite2 {c A B : Prop} [Decidable c] (h1 : c → A) (h2 : ¬ c → B) : if c then A else B := by
  by_cases h : c
  · rw [if_pos h]
    exact h1 h
  · rw [if_neg h]
    exact h2 h
theorem iteNS {c A B : Prop} [Decidable c] (hc : c) (h : B) : if (!decide c) = true then A else B := by
  rw [decide_eq_true hc]
  exact iteF h

/-! ### heaps -/
/-- all that was tracked is as it was -/
def Same (H H' : Hp) : Prop := ∀ b o, H b = some o → H' b = some o
theorem Same.refl (H : Hp) : Same H H := fun _ _ h => h
theorem Same.trans {H H1 H2 : Hp} (a : Same H H1) (b : Same H1 H2) : Same H H2 := fun c o h => b c o (a c o h)
theorem Same.free {H H' : Hp} (e : Same H H') {l : Addr} (h : H' l = Option.none) : H l = Option.none := by
  cases q : H l with
  | none => rfl
  | some o =>
    rw [e l o q] at h
    cases h
theorem Same.seq {K : PySem.W.Frag} {H H' : Hp} {a : Addr} {xs : List V} (e : Same H H') (h : SqL K H a xs) : SqL K H' a xs := by
  rcases h with (h | ⟨o, h⟩) | h
  · exact .inl (.inl (e _ _ h))
  · exact .inl (.inr ⟨o, e _ _ h⟩)
  · exact .inr h

end L2

set_option autoImplicit false
set_option maxHeartbeats 4000000
namespace TS
open PySem PyProof.Rows

section
variable {prog : Program} {w : World} {A : Around} {E : Value → Shared → Prop} {s : Shared} {a₀ : Array Keyed} {kd : SortKind}

/-- comparisons of the things at hand answer, and change nothing -/
def Asks (prog : Program) (w : World) (A : Around) (s : Shared) (kd : SortKind) (a₀ : Array Keyed) : Prop :=
  ∀ x y : Keyed, x ∈ a₀ → y ∈ a₀ → ∀ (Q : Bool → Shared → Prop) (E : Value → Shared → Prop), (∀ b, Q b s) → wpAny (model prog w) A (keyLt' kd x.1 y.1) Q E s

structure SB (a₀ : Array Keyed) (kd : SortKind) (st : SortSt) : Prop where
  perm : (arrOf st).Perm a₀
  kind : kindOf st = kd
  failed : failedOf st = none

theorem SB.size {st : SortSt} (h : SB a₀ kd st) : (arrOf st).size = a₀.size := h.perm.size_eq
theorem SB.setArr {st : SortSt} (h : SB a₀ kd st) {xs : Array Keyed} (hp : xs.Perm (arrOf st)) : SB a₀ kd (setArr st xs) := ⟨hp.trans h.perm, h.kind, h.failed⟩
theorem SB.mem {st : SortSt} (h : SB a₀ kd st) {i : Nat} (hi : i < (arrOf st).size) : (arrOf st)[i] ∈ a₀ := h.perm.mem_iff.mp (Array.getElem_mem hi)

theorem wpS_lt {st : SortSt} {x y : Keyed} {Q : Option Bool → SortSt → Prop} (hA : Asks prog w A s kd a₀) (hk : kindOf st = kd) (hx : x ∈ a₀) (hy : y ∈ a₀) (h : ∀ b, Q (some b) st) :
    wpS (model prog w) A E s (lt' x y) Q st := by
  rw [lt'_eq]
  refine wpS_bind (wpS_get ?_)
  rw [hk]
  refine wpS_bind (wpS_lift (wpAny_attempt (hA x y hx hy _ _ fun b => ⟨rfl, ?_⟩)))
  exact wpS_pure (h b)

theorem wpS_elem {st : SortSt} {arr : Array Keyed} {i : Nat} {Q : Keyed → SortSt → Prop} (hi : i < arr.size) (h : Q arr[i] st) : wpS (model prog w) A E s (elem' arr i) Q st := by
  rw [elem'_eq, getElem?_pos arr i hi]
  exact wpS_pure h

theorem wpS_ite {α : Type} {c : Prop} [Decidable c] {x y : StateT SortSt Sem α} {Q : α → SortSt → Prop} {st : SortSt} (h1 : c → wpS (model prog w) A E s x Q st) (h2 : ¬ c → wpS (model prog w) A E s y Q st) :
    wpS (model prog w) A E s (if c then x else y) Q st := by
  by_cases h : c
  · rw [if_pos h]; exact h1 h
  · rw [if_neg h]; exact h2 h
theorem wpS_ltAt2 {st : SortSt} {i j : Nat} {Q : Option Bool → SortSt → Prop} (hA : Asks prog w A s kd a₀) (hB : SB a₀ kd st) (hi : i < a₀.size) (hj : j < a₀.size) (h : ∀ b, Q (some b) st) :
    wpS (model prog w) A E s (ltAt' i j) Q st := by
  rw [ltAt'_eq]
  refine wpS_bind (wpS_get ?_)
  have hi' : i < (arrOf st).size := by rw [hB.size]; exact hi
  have hj' : j < (arrOf st).size := by rw [hB.size]; exact hj
  exact wpS_bind (wpS_elem hi' (wpS_bind (wpS_elem hj' (wpS_lt hA hB.kind (hB.mem hi') (hB.mem hj') h))))

/-- the state but its array -/
def SameP (st st' : SortSt) : Prop := pendingOf st' = pendingOf st

theorem binarySort_ok {st : SortSt} {lo n ok : Nat} {Q : Bool → SortSt → Prop} (hA : Asks prog w A s kd a₀) (hn : lo + n ≤ a₀.size) (hB : SB a₀ kd st)
    (h : ∀ st', SB a₀ kd st' → pendingOf st' = pendingOf st → Q true st') : wpS (model prog w) A E s (binarySort' lo n ok) Q st := by
  rw [binarySort'_eq]
  refine wpS_bind (wpS_mono (wpS_forRange (I := fun k c st' => c = (none, ()) ∧ SB a₀ kd st' ∧ pendingOf st' = pendingOf st)
    (Q := fun c st' => c = (none, ()) ∧ SB a₀ kd st' ∧ pendingOf st' = pendingOf st) ?step (fun _ _ h => h) ⟨rfl, hB, rfl⟩) ?post)
  case post =>
    rintro c st' ⟨rfl, hB', hp⟩
    exact wpS_pure (h st' hB' hp)
  case step =>
    rintro k c st' hak hkn ⟨rfl, hB', hp⟩
    refine wpS_bind (wpS_mono (wpS_forRange (I := fun x c st'' => st'' = st' ∧ ∃ l r, c = (none, l, r) ∧ r ≤ k)
      (Q := fun c st'' => st'' = st' ∧ ∃ l r, c = (none, l, r)) ?istep (fun c st'' ⟨e, l, r, e2, _⟩ => ⟨e, l, r, e2⟩) ⟨rfl, 0, k, rfl, Nat.le_refl _⟩) ?ipost)
    case istep =>
      rintro x c st'' _ hxk ⟨rfl, l, r, rfl, hrk⟩
      dsimp only
      by_cases hge : l ≥ r
      · rw [if_pos hge]
        exact wpS_pure ⟨rfl, l, r, rfl⟩
      · rw [if_neg hge]
        refine wpS_bind (wpS_ltAt2 hA hB' (by omega) (by omega) fun b => ?_)
        cases b with
        | true => exact wpS_pure ⟨rfl, l, (l + r) / 2, rfl, by omega⟩
        | false => exact wpS_pure ⟨rfl, (l + r) / 2 + 1, r, rfl, hrk⟩
    case ipost =>
      rintro c st'' ⟨rfl, l, r, rfl⟩
      show wpS _ _ _ _ (do moveDown' (lo + k) (lo + l); pure (ForInStep.yield (none, ()))) _ _
      rw [moveDown'_eq]
      exact wpS_bind (wpS_modify (wpS_pure ⟨rfl, hB'.setArr (bubble_perm _ _ _), hp⟩))
end
end TS
set_option autoImplicit false
set_option maxHeartbeats 4000000
namespace TS
open PySem PyProof.Rows
section
variable {prog : Program} {w : World} {A : Around} {E : Value → Shared → Prop} {s : Shared} {a₀ : Array Keyed} {kd : SortKind}

theorem wpS_rev {st : SortSt} {i j : Nat} {Q : PUnit → SortSt → Prop} (h : Q ⟨⟩ (setArr st (mirror (arrOf st) i j ((j - i) / 2)))) : wpS (model prog w) A E s (reverseSlice' i j) Q st := by
  rw [reverseSlice'_eq]
  exact wpS_modify h

/-- what every step of a run keeps -/
def Kp (a₀ : Array Keyed) (kd : SortKind) (st st' : SortSt) : Prop := SB a₀ kd st' ∧ pendingOf st' = pendingOf st
theorem Kp.rev {st st' : SortSt} {i j d : Nat} (h : Kp a₀ kd st st') : Kp a₀ kd st (setArr st' (mirror (arrOf st') i j d)) := ⟨h.1.setArr (mirror_perm _ _ _ _), h.2⟩

theorem countRun_ok {st : SortSt} {lo nrem : Nat} {Q : Option Nat → SortSt → Prop} (hA : Asks prog w A s kd a₀) (hn : lo + nrem ≤ a₀.size) (h1 : 1 ≤ nrem) (hB : SB a₀ kd st)
    (h : ∀ m st', Kp a₀ kd st st' → 1 ≤ m → m ≤ nrem → Q (some m) st') : wpS (model prog w) A E s (countRun' lo nrem) Q st := by
  have k0 : Kp a₀ kd st st := ⟨hB, rfl⟩
  refine wpS_bind (wpS_mono (wpS_forRange (I := fun x c st' => st' = st ∧ c = (none, x)) (Q := fun c st' => st' = st ∧ ∃ n, c = (none, n) ∧ 1 ≤ n ∧ n ≤ nrem) ?s1 ?f1 ⟨rfl, rfl⟩) ?p1)
  case f1 =>
    rintro c st' ⟨rfl, rfl⟩
    exact ⟨rfl, _, rfl, by omega, by omega⟩
  case s1 =>
    rintro x c st' hax hxn ⟨rfl, rfl⟩
    refine wpS_bind (wpS_ltAt2 hA hB (by show lo + x < _; omega) (by show lo + x - 1 < _; omega) fun b => ?_)
    cases b with
    | true => exact wpS_pure ⟨rfl, x, rfl, hax, by omega⟩
    | false => exact wpS_pure ⟨rfl, rfl⟩
  case p1 =>
    rintro c st' ⟨rfl, n, rfl, hn1, hn2⟩
    refine wpS_ite (fun q => ?_) (fun q => ?_)
    · exact wpS_pure (h n _ k0 hn1 hn2)
    have q' : ¬ (n = nrem) := fun z => q (beq_iff_eq.mpr z)
    refine wpS_ite (fun q1 => ?_) (fun q1 => ?_)
    case' refine_1 =>
      refine wpS_bind (wpS_ltAt2 hA hB (by omega) (by show lo + n - 1 < _; omega) fun b => ?_)
      cases b
      case true => exact wpS_pure (h n _ k0 hn1 hn2)
      refine wpS_bind (wpS_rev ?_)
      have k1 := k0.rev (i := lo) (j := lo + n) (d := (lo + n - lo) / 2)
    case' refine_2 => have k1 := k0
    all_goals
      refine wpS_bind (wpS_lift (wpAny_rule ⟨rfl, ?_⟩))
      refine wpS_bind (wpS_mono (wpS_forRange (I := fun x c st2 => ∃ neq, c = (none, x, neq) ∧ Kp a₀ kd st' st2) (Q := fun c st2 => ∃ m neq, c = (none, m, neq) ∧ Kp a₀ kd st' st2 ∧ n + 1 ≤ m ∧ m ≤ nrem) ?s2 ?f2 ⟨0, rfl, k1⟩) ?p2)
      case f2 =>
        rintro c st2 ⟨neq, rfl, k⟩
        exact ⟨_, neq, rfl, k, by omega, by omega⟩
      case s2 =>
        rintro x c st2 hax hxn ⟨neq, rfl, k⟩
        refine wpS_bind (wpS_ltAt2 hA k.1 (by show lo + x < _; omega) (by show lo + x - 1 < _; omega) fun b => ?_)
        cases b with
        | true =>
          simp only [if_true]
          refine wpS_ite (fun _ => ?_) (fun _ => ?_)
          · exact wpS_bind (wpS_rev (wpS_pure ⟨0, rfl, k.rev⟩))
          · exact wpS_pure ⟨0, rfl, k⟩
        | false =>
          refine wpS_bind (wpS_ltAt2 hA k.1 (by show lo + x - 1 < _; omega) (by show lo + x < _; omega) fun b => ?_)
          cases b with
          | true => exact wpS_pure ⟨x, neq, rfl, k, hax, by omega⟩
          | false => exact wpS_pure ⟨neq + 1, rfl, k⟩
      case p2 =>
        rintro c st2 ⟨m, neq, rfl, k2, hm1, hm2⟩
        dsimp only
        refine wpS_ite (fun _ => ?_) (fun _ => ?_)
        case' refine_1 =>
          refine wpS_bind (wpS_rev ?_)
          replace k2 := k2.rev (i := lo + m - (neq + 1)) (j := lo + m) (d := (lo + m - (lo + m - (neq + 1))) / 2)
        all_goals
          refine wpS_bind (wpS_rev ?_)
          have k3 := k2.rev (i := lo) (j := lo + m) (d := (lo + m - lo) / 2)
          refine wpS_bind (wpS_mono (wpS_forRange (I := fun x c st3 => Kp a₀ kd st' st3 ∧ c = (none, x)) (Q := fun c st3 => Kp a₀ kd st' st3 ∧ ∃ n, c = (none, n) ∧ 1 ≤ n ∧ n ≤ nrem) ?s3 ?f3 ⟨k3, rfl⟩) ?p3)
          case f3 =>
            rintro c st3 ⟨k, rfl⟩
            exact ⟨k, _, rfl, by omega, by omega⟩
          case s3 =>
            rintro x c st3 hax hxn ⟨k, rfl⟩
            refine wpS_bind (wpS_ltAt2 hA k.1 (by show lo + x < _; omega) (by show lo + x - 1 < _; omega) fun b => ?_)
            cases b with
            | true => exact wpS_pure ⟨k, x, rfl, by omega, by omega⟩
            | false => exact wpS_pure ⟨k, rfl⟩
          case p3 =>
            rintro c st3 ⟨k, z, rfl, hz1, hz2⟩
            exact wpS_pure (h z _ k hz1 hz2)
end
end TS
set_option autoImplicit false
set_option maxHeartbeats 4000000
namespace TS
open PySem PyProof.Rows

def gallop' : Bool → Keyed → Array Keyed → Nat → Nat → Nat → StateT SortSt Sem (Option Nat) := sortPriv% PySem.Builtin.gallop
section
variable {prog : Program} {w : World} {A : Around} {E : Value → Shared → Prop} {s : Shared} {a₀ : Array Keyed} {kd : SortKind}

theorem gallop_ok {st : SortSt} {left : Bool} {key : Keyed} {arr : Array Keyed} {base n hint : Nat} {Q : Option Nat → SortSt → Prop} (hA : Asks prog w A s kd a₀) (hk : kindOf st = kd) (hkey : key ∈ a₀) (harr : ∀ x ∈ arr, x ∈ a₀)
    (hb : base + n ≤ arr.size) (hh : hint < n) (h : ∀ k, k ≤ n → Q (some k) st) : wpS (model prog w) A E s (gallop' left key arr base n hint) Q st := by
  have hm : ∀ (i : Nat) (hi : base + i < arr.size), arr[base + i] ∈ a₀ := fun i hi => harr _ (Array.getElem_mem hi)
  cases left with
  | true =>
    refine wpS_bind (wpS_bind (wpS_elem (by omega) (wpS_lt hA hk (hm _ (by omega)) hkey fun b => ?_)))
    cases b
    all_goals
      refine wpS_bind (wpS_mono (wpS_forRange (I := fun _ c st' => st' = st ∧ ∃ l o, c = (none, l, o))
        (Q := fun c st' => st' = st ∧ ∃ l o, c = (none, l, o)) ?step (fun _ _ h => h) ⟨rfl, 0, 1, rfl⟩) ?post)
      case step =>
        rintro x c st' _ _ ⟨rfl, l, o, rfl⟩
        try dsimp only
        refine wpS_ite (fun q => ?_) (fun q => ?_)
        · exact wpS_pure ⟨rfl, l, o, rfl⟩
        · refine wpS_bind (wpS_bind (wpS_elem (by omega) (wpS_lt hA hk (hm _ (by omega)) hkey fun b => ?_)))
          cases b <;> exact wpS_pure ⟨rfl, _, _, rfl⟩
      case post =>
        rintro c st' ⟨rfl, l, o, rfl⟩
        refine wpS_bind (wpS_mono (wpS_forRange (I := fun _ c st2 => st2 = st' ∧ ∃ l r, c = (none, l, r) ∧ r ≤ n)
          (Q := fun c st2 => st2 = st' ∧ ∃ l r, c = (none, l, r) ∧ r ≤ n) ?st2 (fun _ _ h => h) ⟨rfl, _, _, rfl, by omega⟩) ?po2)
        case po2 =>
          rintro c st2 ⟨rfl, l, r, rfl, hr⟩
          exact wpS_pure (h r hr)
        case st2 =>
          rintro x c st2 _ _ ⟨rfl, l, r, rfl, hr⟩
          try dsimp only
          refine wpS_ite (fun q => ?_) (fun q => ?_)
          · exact wpS_pure ⟨rfl, l, r, rfl, hr⟩
          · refine wpS_bind (wpS_bind (wpS_elem (by omega) (wpS_lt hA hk (hm _ (by omega)) hkey fun b => ?_)))
            cases b
            · first
                | exact wpS_pure ⟨rfl, l, _, rfl, by omega⟩
                | exact wpS_pure ⟨rfl, _, r, rfl, hr⟩
            · first
                | exact wpS_pure ⟨rfl, _, r, rfl, hr⟩
                | exact wpS_pure ⟨rfl, l, _, rfl, by omega⟩
  | false =>
    refine wpS_bind (wpS_bind (wpS_elem (by omega) (wpS_bind (wpS_lt hA hk hkey (hm _ (by omega)) fun b => wpS_pure ?_))))
    cases b
    all_goals
      refine wpS_bind (wpS_mono (wpS_forRange (I := fun _ c st' => st' = st ∧ ∃ l o, c = (none, l, o))
        (Q := fun c st' => st' = st ∧ ∃ l o, c = (none, l, o)) ?step (fun _ _ h => h) ⟨rfl, 0, 1, rfl⟩) ?post)
      case step =>
        rintro x c st' _ _ ⟨rfl, l, o, rfl⟩
        try dsimp only
        refine wpS_ite (fun q => ?_) (fun q => ?_)
        · exact wpS_pure ⟨rfl, l, o, rfl⟩
        · refine wpS_bind (wpS_bind (wpS_elem (by omega) (wpS_bind (wpS_lt hA hk hkey (hm _ (by omega)) fun b => wpS_pure ?_))))
          cases b <;> exact wpS_pure ⟨rfl, _, _, rfl⟩
      case post =>
        rintro c st' ⟨rfl, l, o, rfl⟩
        refine wpS_bind (wpS_mono (wpS_forRange (I := fun _ c st2 => st2 = st' ∧ ∃ l r, c = (none, l, r) ∧ r ≤ n)
          (Q := fun c st2 => st2 = st' ∧ ∃ l r, c = (none, l, r) ∧ r ≤ n) ?st2 (fun _ _ h => h) ⟨rfl, _, _, rfl, by omega⟩) ?po2)
        case po2 =>
          rintro c st2 ⟨rfl, l, r, rfl, hr⟩
          exact wpS_pure (h r hr)
        case st2 =>
          rintro x c st2 _ _ ⟨rfl, l, r, rfl, hr⟩
          try dsimp only
          refine wpS_ite (fun q => ?_) (fun q => ?_)
          · exact wpS_pure ⟨rfl, l, r, rfl, hr⟩
          · refine wpS_bind (wpS_bind (wpS_elem (by omega) (wpS_bind (wpS_lt hA hk hkey (hm _ (by omega)) fun b => wpS_pure ?_))))
            cases b
            · first
                | exact wpS_pure ⟨rfl, l, _, rfl, by omega⟩
                | exact wpS_pure ⟨rfl, _, r, rfl, hr⟩
            · first
                | exact wpS_pure ⟨rfl, _, r, rfl, hr⟩
                | exact wpS_pure ⟨rfl, l, _, rfl, by omega⟩
end
end TS
set_option autoImplicit false
set_option maxHeartbeats 4000000
namespace TS
open PySem PyProof.Rows

def setMinGallop' : Nat → StateT SortSt Sem Unit := sortPriv% PySem.Builtin.setMinGallop
abbrev setGal (st : SortSt) (g : Nat) : SortSt := SortSt.mk' (kindOf st) (arrOf st) (pendingOf st) g (failedOf st)
theorem setMinGallop'_eq (g : Nat) : setMinGallop' g = modify fun s => setGal s g := rfl
def mergeLo' : Array Keyed → Array Keyed → StateT SortSt Sem (Array Keyed) := sortPriv% PySem.Builtin.mergeLo
def mergeHi' : Array Keyed → Array Keyed → StateT SortSt Sem (Array Keyed) := sortPriv% PySem.Builtin.mergeHi
/-- what is out, and what is left of both -/
structure Mid (a b out : Array Keyed) (ia ib : Nat) : Prop where
  perm : (out.toList ++ a.toList.drop ia ++ b.toList.drop ib).Perm (a.toList ++ b.toList)
  la : ia ≤ a.size
  lb : ib ≤ b.size
  sz : out.size = ia + ib
theorem Mid.pushB {a b out : Array Keyed} {ia ib : Nat} (m : Mid a b out ia ib) (h : ib < b.size) : Mid a b (out.push b[ib]) ia (ib + 1) := by
  refine ⟨?_, m.la, h, by rw [Array.size_push, m.sz]; omega⟩
  have e : b.toList.drop ib = b[ib] :: b.toList.drop (ib + 1) := by
    rw [List.drop_eq_getElem_cons (by simpa using h)]; simp
  have p := m.perm
  rw [e] at p
  refine List.Perm.trans ?_ p
  rw [Array.toList_push]
  simp only [List.append_assoc, List.singleton_append]
  exact List.Perm.append_left _ (List.perm_middle.symm)
theorem Mid.pushA {a b out : Array Keyed} {ia ib : Nat} (m : Mid a b out ia ib) (h : ia < a.size) : Mid a b (out.push a[ia]) (ia + 1) ib := by
  refine ⟨?_, h, m.lb, by rw [Array.size_push, m.sz]; omega⟩
  have e : a.toList.drop ia = a[ia] :: a.toList.drop (ia + 1) := by
    rw [List.drop_eq_getElem_cons (by simpa using h)]; simp
  have p := m.perm
  rw [e] at p
  refine List.Perm.trans ?_ p
  rw [Array.toList_push]
  simp only [List.append_assoc, List.singleton_append, List.cons_append]
  exact List.Perm.refl _
theorem extract_list (a : Array Keyed) (i k : Nat) : (a.extract i (i + k)).toList ++ a.toList.drop (i + k) = a.toList.drop i := by
  rw [Array.toList_extract]
  show (a.toList.drop i).take (i + k - i) ++ _ = _
  rw [show i + k - i = k by omega]
  have := List.take_append_drop k (a.toList.drop i)
  rwa [List.drop_drop] at this
theorem Mid.manyA {a b out : Array Keyed} {ia ib k : Nat} (m : Mid a b out ia ib) (h : ia + k ≤ a.size) : Mid a b (out ++ a.extract ia (ia + k)) (ia + k) ib := by
  refine ⟨?_, h, m.lb, by rw [Array.size_append, m.sz, Array.size_extract]; omega⟩
  have p := m.perm
  rw [← extract_list a ia k] at p
  rw [Array.toList_append]
  simpa only [List.append_assoc] using p
theorem Mid.manyB {a b out : Array Keyed} {ia ib k : Nat} (m : Mid a b out ia ib) (h : ib + k ≤ b.size) : Mid a b (out ++ b.extract ib (ib + k)) ia (ib + k) := by
  refine ⟨?_, m.la, h, by rw [Array.size_append, m.sz, Array.size_extract]; omega⟩
  have p := m.perm
  rw [← extract_list b ib k] at p
  refine List.Perm.trans ?_ p
  rw [Array.toList_append]
  simp only [List.append_assoc]
  refine List.Perm.append_left _ ?_
  rw [← List.append_assoc, ← List.append_assoc]
  exact List.Perm.append_right _ List.perm_append_comm
theorem ext_all (a : Array Keyed) (i : Nat) : (a.extract i a.size).toList = a.toList.drop i := by
  rw [Array.toList_extract]
  exact List.take_of_length_le (by simp)
theorem Mid.done {a b out : Array Keyed} {ia ib : Nat} (m : Mid a b out ia ib) : (out ++ a.extract ia a.size ++ b.extract ib b.size).Perm (a ++ b) := by
  rw [Array.perm_iff_toList_perm]
  simp only [Array.toList_append, ext_all]
  exact m.perm
theorem Mid.lastA {a b out : Array Keyed} {ia ib : Nat} (m : Mid a b out ia ib) : (out ++ b.extract ib b.size ++ a.extract ia a.size).Perm (a ++ b) := by
  rw [Array.perm_iff_toList_perm]
  simp only [Array.toList_append, ext_all]
  refine List.Perm.trans ?_ m.perm
  simp only [List.append_assoc]
  exact List.Perm.append_left _ List.perm_append_comm

section
variable {prog : Program} {w : World} {A : Around} {E : Value → Shared → Prop} {s : Shared} {a₀ : Array Keyed} {kd : SortKind}
/-- a state that differs in its gallop alone -/
def Gal (st st' : SortSt) : Prop := ∃ g, st' = setGal st g
theorem Gal.refl (st : SortSt) : Gal st st := ⟨gallopOf st, rfl⟩
theorem Gal.set {st st' : SortSt} (h : Gal st st') (g : Nat) : Gal st (setGal st' g) := by
  obtain ⟨g', rfl⟩ := h; exact ⟨g, rfl⟩
theorem Gal.kind {st st' : SortSt} (h : Gal st st') (hk : kindOf st = kd) : kindOf st' = kd := by
  obtain ⟨g', rfl⟩ := h; exact hk
theorem wpS_gal {st : SortSt} {g : Nat} {Q : Unit → SortSt → Prop} (h : Q () (setGal st g)) : wpS (model prog w) A E s (setMinGallop' g) Q st := by
  rw [setMinGallop'_eq]; exact wpS_modify h

theorem mergeLo_ok {st : SortSt} {a b : Array Keyed} {Q : Array Keyed → SortSt → Prop} (hA : Asks prog w A s kd a₀) (hk : kindOf st = kd) (ha : ∀ x ∈ a, x ∈ a₀) (hb : ∀ x ∈ b, x ∈ a₀) (na : 1 ≤ a.size) (nb : 1 ≤ b.size)
    (h : ∀ c st', Gal st st' → c.Perm (a ++ b) → Q c st') : wpS (model prog w) A E s (mergeLo' a b) Q st := by
  refine wpS_bind (wpS_lift (wpAny_rule ⟨rfl, ?_⟩))
  dsimp only
  refine wpS_bind (wpS_elem (by omega) ?_)
  have m0 : Mid a b #[b[0]] 0 1 := by
    have z : Mid a b #[] 0 0 := ⟨by simp, by omega, by omega, rfl⟩
    exact z.pushB (by omega)
  by_cases e1 : 1 = b.size
  · rw [if_pos (by simpa using e1)]
    exact wpS_pure (h _ _ (Gal.refl st) m0.done)
  rw [if_neg (by simpa using e1)]
  by_cases e2 : 0 + 1 = a.size
  · rw [if_pos (by simpa using e2)]
    exact wpS_pure (h _ _ (Gal.refl st) m0.lastA)
  rw [if_neg (by simpa using e2)]
  refine wpS_bind (wpS_get ?_)
  refine wpS_bind (wpS_mono (wpS_forRange
    (I := fun i c st' => Gal st st' ∧ ∃ out ia ib g, c = (none, out, ia, ib, g) ∧ Mid a b out ia ib ∧ ia + 1 < a.size ∧ ib < b.size ∧ i + 1 ≤ out.size)
    (Q := fun c st' => Gal st st' ∧ ∃ r out ia ib g, c = (some r, out, ia, ib, g) ∧ r.Perm (a ++ b)) ?step ?fin ?init) ?post)
  case init => exact ⟨Gal.refl st, _, _, _, _, rfl, m0, by omega, by omega, by simp⟩
  case post =>
    rintro c st' ⟨g, r, out, ia, ib, gg, rfl, p⟩
    exact wpS_pure (h _ _ g p)
  case fin =>
    rintro c st' ⟨g, out, ia, ib, gg, rfl, m, h1, h2, h3⟩
    exfalso
    have := m.sz
    omega
  case step =>
    rintro i c st' _ hi ⟨g, out, ia, ib, gg, rfl, m, h1, h2, h3⟩
    dsimp only
    have tot : 0 < a.size + b.size := by omega
    -- one by one
    refine wpS_bind (wpS_mono (wpS_forRange
      (I := fun _ c st2 => Gal st st2 ∧ ∃ out ia ib ac bc, c = (none, out, ia, ib, ac, bc) ∧ Mid a b out ia ib ∧ ia + 1 < a.size ∧ ib < b.size ∧ i + 1 ≤ out.size)
      (Q := fun c st2 => Gal st st2 ∧ ∃ r out ia ib ac bc, c = (r, out, ia, ib, ac, bc) ∧ (match r with
        | some r => r.Perm (a ++ b)
        | none => Mid a b out ia ib ∧ ia + 1 < a.size ∧ ib < b.size ∧ i + 1 ≤ out.size)) ?step1 ?fin1 ⟨g, _, _, _, _, _, rfl, m, h1, h2, h3⟩) ?post1)
    case fin1 =>
      rintro c st2 ⟨g2, out, ia, ib, ac, bc, rfl, m, h1, h2, h3⟩
      exact ⟨g2, none, _, _, _, _, _, rfl, m, h1, h2, h3⟩
    case step1 =>
      rintro j c st2 _ hj ⟨g2, out, ia, ib, ac, bc, rfl, m, h1, h2, h3⟩
      dsimp only
      refine wpS_bind (wpS_elem h2 (wpS_bind (wpS_elem (by omega) (wpS_bind (wpS_lt hA (g2.kind hk) (hb _ (Array.getElem_mem h2)) (ha _ (Array.getElem_mem _)) fun w => ?_)))))
      cases w with
      | true =>
        simp only [if_true]
        refine wpS_bind (wpS_elem h2 ?_)
        have m2 := m.pushB h2
        have hs2 : i + 1 ≤ (out.push b[ib]).size := by rw [Array.size_push]; omega
        by_cases q : ib + 1 = b.size
        · rw [if_pos (by simpa using q)]
          exact wpS_pure ⟨g2, some _, _, _, _, _, _, rfl, m2.done⟩
        · rw [if_neg (by simpa using q)]
          split
          · exact wpS_pure ⟨g2, none, _, _, _, _, _, rfl, m2, h1, by omega, hs2⟩
          · exact wpS_pure ⟨g2, _, _, _, _, _, rfl, m2, h1, by omega, hs2⟩
      | false =>
        simp only [Bool.false_eq_true, if_false]
        refine wpS_bind (wpS_elem (by omega) ?_)
        have m2 := m.pushA (show ia < a.size by omega)
        have hs2 : i + 1 ≤ (out.push a[ia]).size := by rw [Array.size_push]; omega
        by_cases q : ia + 1 + 1 = a.size
        · rw [if_pos (by simpa using q)]
          exact wpS_pure ⟨g2, some _, _, _, _, _, _, rfl, m2.lastA⟩
        · rw [if_neg (by simpa using q)]
          split
          · exact wpS_pure ⟨g2, none, _, _, _, _, _, rfl, m2, by omega, h2, hs2⟩
          · exact wpS_pure ⟨g2, _, _, _, _, _, rfl, m2, by omega, h2, hs2⟩
    case post1 =>
      rintro c st2 ⟨g2, r, out, ia, ib, ac, bc, rfl, hr⟩
      cases r with
      | some r => exact wpS_pure ⟨g2, r, _, _, _, _, rfl, hr⟩
      | none =>
        obtain ⟨m, h1, h2, h3⟩ := hr
        dsimp only
        refine wpS_bind (wpS_lift (wpAny_rule ⟨rfl, ?_⟩))
        refine wpS_bind (wpS_mono (wpS_forRange
          (I := fun j c st3 => Gal st st3 ∧ ∃ out ia ib gg ac bc, c = (none, out, ia, ib, gg, ac, bc) ∧ Mid a b out ia ib ∧ ia + 1 < a.size ∧ ib < b.size ∧ i + 1 + (if j = 0 then 0 else 1) ≤ out.size)
          (Q := fun c st3 => Gal st st3 ∧ ∃ r out ia ib gg ac bc, c = (r, out, ia, ib, gg, ac, bc) ∧ (match r with
            | some r => r.Perm (a ++ b)
            | none => Mid a b out ia ib ∧ ia + 1 < a.size ∧ ib < b.size ∧ i + 2 ≤ out.size)) ?step2 ?fin2 ⟨g2, _, _, _, _, _, _, rfl, m, h1, h2, by simpa using h3⟩) ?post2)
        case fin2 =>
          rintro c st3 ⟨g3, out, ia, ib, gg, ac, bc, rfl, m, h1, h2, h3⟩
          rw [if_neg (by omega)] at h3
          exact ⟨g3, none, _, _, _, _, _, _, rfl, m, h1, h2, h3⟩
        case step2 =>
          rintro j c st3 _ hj ⟨g3, out, ia, ib, gg, ac, bc, rfl, m, h1, h2, h3⟩
          replace h3 : i + 1 ≤ out.size := by
            split at h3 <;> omega
          dsimp only
          refine wpS_ite (fun hg => ?_) (fun hg => ?_)
          all_goals
            refine wpS_bind (wpS_gal ?_)
            refine wpS_bind (wpS_elem h2 (wpS_bind (gallop_ok hA ((g3.set _).kind hk) (hb _ (Array.getElem_mem h2)) ha (by omega) (by omega) fun k hk' => ?_)))
            dsimp only
            by_cases hk0 : k > 0
            case' pos =>
              rw [if_pos hk0]
              replace m := m.manyA (k := k) (by omega)
              by_cases q1 : ia + k + 1 = a.size
              case pos =>
                rw [if_pos (by simpa using q1)]
                exact wpS_pure ⟨g3.set _, some _, _, _, _, _, _, _, rfl, m.lastA⟩
              rw [if_neg (by simpa using q1)]
              by_cases q2 : ia + k = a.size
              case pos =>
                rw [if_pos (by simpa using q2)]
                exact wpS_pure ⟨g3.set _, some _, _, _, _, _, _, _, rfl, m.done⟩
              rw [if_neg (by simpa using q2)]
              replace h1 : ia + k + 1 < a.size := by omega
              replace h3 : i + 1 ≤ (out ++ a.extract ia (ia + k)).size := by rw [Array.size_append]; omega
            case' neg => rw [if_neg hk0]
            all_goals
              refine wpS_bind (wpS_elem h2 ?_)
              have hs0 := m.sz
              replace m := m.pushB h2
              have hs := m.sz
              by_cases q3 : ib + 1 = b.size
              case pos =>
                rw [if_pos (by simpa using q3)]
                exact wpS_pure ⟨g3.set _, some _, _, _, _, _, _, _, rfl, m.done⟩
              rw [if_neg (by simpa using q3)]
              refine wpS_bind (wpS_elem (by omega) (wpS_bind (gallop_ok hA ((g3.set _).kind hk) (ha _ (Array.getElem_mem _)) hb (by omega) (by omega) fun k2 hk2 => ?_)))
              dsimp only
              by_cases hk1 : k2 > 0
              case' pos =>
                rw [if_pos hk1]
                replace m := m.manyB (k := k2) (by omega)
                by_cases q4 : ib + 1 + k2 = b.size
                case pos =>
                  rw [if_pos (by simpa using q4)]
                  exact wpS_pure ⟨g3.set _, some _, _, _, _, _, _, _, rfl, m.done⟩
                rw [if_neg (by simpa using q4)]
                replace h2 : ib + 1 + k2 < b.size := by omega
              case' neg =>
                rw [if_neg hk1]
                replace h2 : ib + 1 < b.size := by omega
              all_goals
                refine wpS_bind (wpS_elem (by omega) ?_)
                have hs2 := m.sz
                replace m := m.pushA (by omega)
                have hs3 := m.sz
                refine wpS_ite (fun q5 => ?_) (fun q5 => ?_)
                · exact wpS_pure ⟨g3.set _, some _, _, _, _, _, _, _, rfl, m.lastA⟩
                · have q5' : ¬ (_ = _) := fun z => q5 (beq_iff_eq.mpr z)
                  refine wpS_ite (fun q6 => ?_) (fun q6 => ?_)
                  · exact wpS_pure ⟨g3.set _, none, _, _, _, _, _, _, rfl, m, by omega, h2, by omega⟩
                  · exact wpS_pure ⟨g3.set _, _, _, _, _, _, _, rfl, m, by omega, h2, by rw [if_neg (by omega)]; omega⟩
        case post2 =>
          rintro c st3 ⟨g3, r, out, ia, ib, gg, ac, bc, rfl, hr⟩
          cases r with
          | some r => exact wpS_pure ⟨g3, r, _, _, _, _, rfl, hr⟩
          | none =>
            obtain ⟨m, h1, h2, h3⟩ := hr
            exact wpS_bind (wpS_gal (wpS_pure ⟨g3.set _, _, _, _, _, rfl, m, h1, h2, h3⟩))
end
end TS
set_option autoImplicit false
set_option maxHeartbeats 4000000
namespace TS
open PySem PyProof.Rows

structure MidH (a b out : Array Keyed) (na nb : Nat) : Prop where
  perm : (a.toList.take na ++ b.toList.take nb ++ out.toList.reverse).Perm (a.toList ++ b.toList)
  la : na ≤ a.size
  lb : nb ≤ b.size
  sz : out.size + na + nb = a.size + b.size
theorem take_pred (a : Array Keyed) (n : Nat) (h : n - 1 < a.size) (h0 : 1 ≤ n) : a.toList.take n = a.toList.take (n - 1) ++ [a[n - 1]] := by
  obtain ⟨m, rfl⟩ : ∃ m, n = m + 1 := ⟨n - 1, by omega⟩
  have h' : m < a.toList.length := by simpa using h
  simp only [Nat.add_sub_cancel]
  rw [List.take_succ_eq_append_getElem h']
  simp
theorem MidH.pushA {a b out : Array Keyed} {na nb : Nat} (m : MidH a b out na nb) (h0 : 1 ≤ na) (h : na - 1 < a.size) : MidH a b (out.push a[na - 1]) (na - 1) nb := by
  refine ⟨?_, by omega, m.lb, by rw [Array.size_push]; have := m.sz; omega⟩
  have p := m.perm
  rw [take_pred a na h h0] at p
  refine List.Perm.trans ?_ p
  rw [Array.toList_push, List.reverse_append]
  simp only [List.append_assoc, List.singleton_append, List.reverse_cons, List.reverse_nil, List.nil_append, List.cons_append]
  exact List.Perm.append_left _ List.perm_middle
theorem MidH.pushB {a b out : Array Keyed} {na nb : Nat} (m : MidH a b out na nb) (h0 : 1 ≤ nb) (h : nb - 1 < b.size) : MidH a b (out.push b[nb - 1]) na (nb - 1) := by
  refine ⟨?_, m.la, by omega, by rw [Array.size_push]; have := m.sz; omega⟩
  have p := m.perm
  rw [take_pred b nb h h0] at p
  rw [Array.toList_push, List.reverse_append]
  simpa only [List.append_assoc, List.singleton_append, List.reverse_cons, List.reverse_nil, List.nil_append, List.cons_append] using p
theorem ext_mid (a : Array Keyed) (i n : Nat) (h : i ≤ n) : a.toList.take i ++ (a.extract i n).toList = a.toList.take n := by
  rw [Array.toList_extract]
  show a.toList.take i ++ (a.toList.drop i).take (n - i) = _
  conv => rhs; rw [show n = i + (n - i) by omega]
  rw [List.take_add]
theorem MidH.manyA {a b out : Array Keyed} {na nb i : Nat} (m : MidH a b out na nb) (h : i ≤ na) : MidH a b (out ++ (a.extract i na).reverse) i nb := by
  have := m.la
  have := m.sz
  refine ⟨?_, by omega, m.lb, by rw [Array.size_append, Array.size_reverse, Array.size_extract]; omega⟩
  have p := m.perm
  rw [← ext_mid a i na h] at p
  refine List.Perm.trans ?_ p
  rw [Array.toList_append, List.reverse_append, Array.toList_reverse, List.reverse_reverse]
  simp only [List.append_assoc]
  refine List.Perm.append_left _ ?_
  rw [← List.append_assoc, ← List.append_assoc]
  exact List.Perm.append_right _ List.perm_append_comm
theorem MidH.manyB {a b out : Array Keyed} {na nb i : Nat} (m : MidH a b out na nb) (h : i ≤ nb) : MidH a b (out ++ (b.extract i nb).reverse) na i := by
  have := m.lb
  have := m.sz
  refine ⟨?_, m.la, by omega, by rw [Array.size_append, Array.size_reverse, Array.size_extract]; omega⟩
  have p := m.perm
  rw [← ext_mid b i nb h] at p
  rw [Array.toList_append, List.reverse_append, Array.toList_reverse, List.reverse_reverse]
  simpa only [List.append_assoc] using p
theorem ext_take (a : Array Keyed) (i : Nat) : (a.extract 0 i).toList = a.toList.take i := by
  have := ext_mid a 0 i (Nat.zero_le _)
  simpa using this
theorem MidH.done {a b out : Array Keyed} {na nb : Nat} (m : MidH a b out na nb) : (a.extract 0 na ++ b.extract 0 nb ++ out.reverse).Perm (a ++ b) := by
  rw [Array.perm_iff_toList_perm]
  simp only [Array.toList_append, ext_take, Array.toList_reverse]
  exact m.perm
theorem MidH.firstB {a b out : Array Keyed} {na nb : Nat} (m : MidH a b out na nb) : (b.extract 0 nb ++ a.extract 0 na ++ out.reverse).Perm (a ++ b) := by
  rw [Array.perm_iff_toList_perm]
  simp only [Array.toList_append, ext_take, Array.toList_reverse]
  refine List.Perm.trans ?_ m.perm
  exact List.Perm.append_right _ List.perm_append_comm

section
variable {prog : Program} {w : World} {A : Around} {E : Value → Shared → Prop} {s : Shared} {a₀ : Array Keyed} {kd : SortKind}

theorem mergeHi_ok {st : SortSt} {a b : Array Keyed} {Q : Array Keyed → SortSt → Prop} (hA : Asks prog w A s kd a₀) (hk : kindOf st = kd) (ha : ∀ x ∈ a, x ∈ a₀) (hb : ∀ x ∈ b, x ∈ a₀) (na : 1 ≤ a.size) (nb : 1 ≤ b.size)
    (h : ∀ c st', Gal st st' → c.Perm (a ++ b) → Q c st') : wpS (model prog w) A E s (mergeHi' a b) Q st := by
  refine wpS_bind (wpS_lift (wpAny_rule ⟨rfl, ?_⟩))
  dsimp only
  refine wpS_bind (wpS_elem (by omega) ?_)
  have m0 : MidH a b #[a[a.size - 1]] (a.size - 1) b.size := by
    have z : MidH a b #[] a.size b.size := ⟨by rw [List.take_of_length_le (by simp), List.take_of_length_le (by simp)]; simp, by omega, by omega, by simp⟩
    exact z.pushA (by omega) (by omega)
  refine wpS_ite (fun e1 => ?_) (fun e1 => ?_)
  · exact wpS_pure (h _ _ (Gal.refl st) m0.done)
  refine wpS_ite (fun e2 => ?_) (fun e2 => ?_)
  · exact wpS_pure (h _ _ (Gal.refl st) m0.firstB)
  have e1' : ¬ (a.size - 1 = 0) := fun z => e1 (beq_iff_eq.mpr z)
  have e2' : ¬ (b.size = 1) := fun z => e2 (beq_iff_eq.mpr z)
  refine wpS_bind (wpS_get ?_)
  refine wpS_bind (wpS_mono (wpS_forRange
    (I := fun i c st' => Gal st st' ∧ ∃ na nb out g, c = (none, na, nb, out, g) ∧ MidH a b out na nb ∧ 1 ≤ na ∧ 2 ≤ nb ∧ i + 1 ≤ out.size)
    (Q := fun c st' => Gal st st' ∧ ∃ r na nb out g, c = (some r, na, nb, out, g) ∧ r.Perm (a ++ b)) ?step ?fin ?init) ?post)
  case init => exact ⟨Gal.refl st, _, _, _, _, rfl, m0, by omega, by omega, by simp⟩
  case post =>
    rintro c st' ⟨g, r, ia, ib, out, gg, rfl, p⟩
    exact wpS_pure (h _ _ g p)
  case fin =>
    rintro c st' ⟨g, na, nb, out, gg, rfl, m, h1, h2, h3⟩
    exfalso
    have := m.sz
    omega
  case step =>
    rintro i c st' _ hi ⟨g, na, nb, out, gg, rfl, m, h1, h2, h3⟩
    dsimp only
    have tot : 0 < a.size + b.size := by omega
    refine wpS_bind (wpS_mono (wpS_forRange
      (I := fun _ c st2 => Gal st st2 ∧ ∃ na nb out ac bc, c = (none, na, nb, out, ac, bc) ∧ MidH a b out na nb ∧ 1 ≤ na ∧ 2 ≤ nb ∧ i + 1 ≤ out.size)
      (Q := fun c st2 => Gal st st2 ∧ ∃ r na nb out ac bc, c = (r, na, nb, out, ac, bc) ∧ (match r with
        | some r => r.Perm (a ++ b)
        | none => MidH a b out na nb ∧ 1 ≤ na ∧ 2 ≤ nb ∧ i + 1 ≤ out.size)) ?step1 ?fin1 ⟨g, _, _, _, _, _, rfl, m, h1, h2, h3⟩) ?post1)
    case fin1 =>
      rintro c st2 ⟨g2, na, nb, out, ac, bc, rfl, m, h1, h2, h3⟩
      exact ⟨g2, none, _, _, _, _, _, rfl, m, h1, h2, h3⟩
    case step1 =>
      rintro j c st2 _ hj ⟨g2, na, nb, out, ac, bc, rfl, m, h1, h2, h3⟩
      dsimp only
      have la := m.la
      have lb := m.lb
      refine wpS_bind (wpS_elem (by omega) (wpS_bind (wpS_elem (by omega) (wpS_bind (wpS_lt hA (g2.kind hk) (hb _ (Array.getElem_mem _)) (ha _ (Array.getElem_mem _)) fun w => ?_)))))
      cases w with
      | true =>
        simp only [if_true]
        refine wpS_bind (wpS_elem (by omega) ?_)
        have m2 := m.pushA h1 (by omega)
        have hs2 : i + 1 ≤ (out.push a[na - 1]).size := by rw [Array.size_push]; omega
        refine wpS_ite (fun q => ?_) (fun q => ?_)
        · exact wpS_pure ⟨g2, some _, _, _, _, _, _, rfl, m2.done⟩
        · have q' : ¬ (na - 1 = 0) := fun z => q (beq_iff_eq.mpr z)
          refine wpS_ite (fun q => ?_) (fun q => ?_)
          · exact wpS_pure ⟨g2, none, _, _, _, _, _, rfl, m2, by omega, h2, hs2⟩
          · exact wpS_pure ⟨g2, _, _, _, _, _, rfl, m2, by omega, h2, hs2⟩
      | false =>
        simp only [Bool.false_eq_true, if_false]
        refine wpS_bind (wpS_elem (by omega) ?_)
        have m2 := m.pushB (by omega) (by omega)
        have hs2 : i + 1 ≤ (out.push b[nb - 1]).size := by rw [Array.size_push]; omega
        refine wpS_ite (fun q => ?_) (fun q => ?_)
        · exact wpS_pure ⟨g2, some _, _, _, _, _, _, rfl, m2.firstB⟩
        · have q' : ¬ (nb - 1 = 1) := fun z => q (beq_iff_eq.mpr z)
          refine wpS_ite (fun q => ?_) (fun q => ?_)
          · exact wpS_pure ⟨g2, none, _, _, _, _, _, rfl, m2, h1, by omega, hs2⟩
          · exact wpS_pure ⟨g2, _, _, _, _, _, rfl, m2, h1, by omega, hs2⟩
    case post1 =>
      rintro c st2 ⟨g2, r, na, nb, out, ac, bc, rfl, hr⟩
      cases r with
      | some r => exact wpS_pure ⟨g2, r, _, _, _, _, rfl, hr⟩
      | none =>
        obtain ⟨m, h1, h2, h3⟩ := hr
        dsimp only
        refine wpS_bind (wpS_lift (wpAny_rule ⟨rfl, ?_⟩))
        refine wpS_bind (wpS_mono (wpS_forRange
          (I := fun j c st3 => Gal st st3 ∧ ∃ na nb out gg ac bc, c = (none, na, nb, out, gg, ac, bc) ∧ MidH a b out na nb ∧ 1 ≤ na ∧ 2 ≤ nb ∧ i + 1 + (if j = 0 then 0 else 1) ≤ out.size)
          (Q := fun c st3 => Gal st st3 ∧ ∃ r na nb out gg ac bc, c = (r, na, nb, out, gg, ac, bc) ∧ (match r with
            | some r => r.Perm (a ++ b)
            | none => MidH a b out na nb ∧ 1 ≤ na ∧ 2 ≤ nb ∧ i + 2 ≤ out.size)) ?step2 ?fin2 ⟨g2, _, _, _, _, _, _, rfl, m, h1, h2, by simpa using h3⟩) ?post2)
        case fin2 =>
          rintro c st3 ⟨g3, na, nb, out, gg, ac, bc, rfl, m, h1, h2, h3⟩
          rw [if_neg (by omega)] at h3
          exact ⟨g3, none, _, _, _, _, _, _, rfl, m, h1, h2, h3⟩
        case step2 =>
          rintro j c st3 _ hj ⟨g3, na, nb, out, gg, ac, bc, rfl, m, h1, h2, h3⟩
          replace h3 : i + 1 ≤ out.size := by
            split at h3 <;> omega
          dsimp only
          have la := m.la
          have lb := m.lb
          refine wpS_ite (fun hg => ?_) (fun hg => ?_)
          all_goals
            refine wpS_bind (wpS_gal ?_)
            refine wpS_bind (wpS_elem (by omega) (wpS_bind (gallop_ok hA ((g3.set _).kind hk) (hb _ (Array.getElem_mem _)) ha (by omega) (by omega) fun k hk' => ?_)))
            dsimp only
            by_cases hk0 : na - k > 0
            case' pos =>
              rw [if_pos hk0]
              replace m := m.manyA hk'
              have hsz : i + 1 ≤ (out ++ (a.extract k na).reverse).size := by rw [Array.size_append]; omega
              replace h3 := hsz
              by_cases q1 : k = 0
              case pos =>
                rw [if_pos (by simpa using q1)]
                exact wpS_pure ⟨g3.set _, some _, _, _, _, _, _, _, rfl, m.done⟩
              rw [if_neg (by simpa using q1)]
              replace h1 : 1 ≤ k := by omega
            case' neg => rw [if_neg hk0]
            all_goals
              refine wpS_bind (wpS_elem (by omega) ?_)
              have hs0 := m.sz
              have la2 := m.la
              replace m := m.pushB (by omega) (by omega)
              have hs := m.sz
              refine wpS_ite (fun q3 => ?_) (fun q3 => ?_)
              · exact wpS_pure ⟨g3.set _, some _, _, _, _, _, _, _, rfl, m.firstB⟩
              have q3' : ¬ (nb - 1 = 1) := fun z => q3 (beq_iff_eq.mpr z)
              refine wpS_bind (wpS_elem (by omega) (wpS_bind (gallop_ok hA ((g3.set _).kind hk) (ha _ (Array.getElem_mem _)) hb (by omega) (by omega) fun k2 hk2 => ?_)))
              dsimp only
              by_cases hk1 : nb - 1 - k2 > 0
              case' pos =>
                rw [if_pos hk1]
                replace m := m.manyB hk2
                by_cases q4 : k2 = 1
                case pos =>
                  rw [if_pos (by simpa using q4)]
                  exact wpS_pure ⟨g3.set _, some _, _, _, _, _, _, _, rfl, m.firstB⟩
                rw [if_neg (by simpa using q4)]
                by_cases q5 : k2 = 0
                case pos =>
                  rw [if_pos (by simpa using q5)]
                  exact wpS_pure ⟨g3.set _, some _, _, _, _, _, _, _, rfl, m.done⟩
                rw [if_neg (by simpa using q5)]
                have h2' : 2 ≤ k2 := by omega
              case' neg =>
                rw [if_neg hk1]
                have h2' : 2 ≤ nb - 1 := by omega
              all_goals
                refine wpS_bind (wpS_elem (by omega) ?_)
                have hs2 := m.sz
                replace m := m.pushA (by omega) (by omega)
                have hs3 := m.sz
                refine wpS_ite (fun q5 => ?_) (fun q5 => ?_)
                · exact wpS_pure ⟨g3.set _, some _, _, _, _, _, _, _, rfl, m.done⟩
                · have q5' : ¬ (_ = _) := fun z => q5 (beq_iff_eq.mpr z)
                  refine wpS_ite (fun q6 => ?_) (fun q6 => ?_)
                  · exact wpS_pure ⟨g3.set _, none, _, _, _, _, _, _, rfl, m, by omega, h2', by omega⟩
                  · exact wpS_pure ⟨g3.set _, _, _, _, _, _, _, rfl, m, by omega, h2', by rw [if_neg (by omega)]; omega⟩
        case post2 =>
          rintro c st3 ⟨g3, r, na, nb, out, gg, ac, bc, rfl, hr⟩
          cases r with
          | some r => exact wpS_pure ⟨g3, r, _, _, _, _, rfl, hr⟩
          | none =>
            obtain ⟨m, h1, h2, h3⟩ := hr
            exact wpS_bind (wpS_gal (wpS_pure ⟨g3.set _, _, _, _, _, rfl, m, h1, h2, h3⟩))
end
end TS
set_option autoImplicit false
set_option maxHeartbeats 4000000
namespace TS
open PySem PyProof.Rows

/-- writing a list over a stretch of an array -/
theorem over_eq (c : List Keyed) : ∀ (a : Array Keyed) (sa k : Nat), sa + k + c.length ≤ a.size →
    ((c.zipIdx k).foldl (fun a (p : Keyed × Nat) => a.setIfInBounds (sa + p.2) p.1) a).toList = a.toList.take (sa + k) ++ c ++ a.toList.drop (sa + k + c.length) := by
  induction c with
  | nil => intro a sa k h; simp
  | cons x r ih =>
    intro a sa k h
    rw [List.zipIdx_cons, List.foldl_cons]
    have hl : (x :: r).length = r.length + 1 := rfl
    rw [ih (a.setIfInBounds (sa + k) x) sa (k + 1) (by rw [Array.size_setIfInBounds]; omega)]
    have hlt : sa + k < a.toList.length := by simp; omega
    rw [Array.toList_setIfInBounds]
    rw [show sa + (k + 1) = (sa + k) + 1 by omega]
    rw [List.take_succ_eq_append_getElem (by simpa using hlt), List.take_set_of_le (Nat.le_refl _), List.getElem_set_self, List.drop_set_of_lt (by omega)]
    rw [show sa + k + 1 + r.length = sa + k + (x :: r).length by rw [hl]; omega]
    simp
theorem over_perm {a c : Array Keyed} {sa sb nb : Nat} (h1 : sa ≤ sb) (h2 : sb + nb ≤ a.size) (hp : c.Perm (a.extract sa sb ++ a.extract sb (sb + nb))) :
    (c.toList.zipIdx.foldl (fun a (p : Keyed × Nat) => a.setIfInBounds (sa + p.2) p.1) a).Perm a := by
  have hl : c.toList.length = (sb - sa) + nb := by
    have := hp.size_eq
    rw [Array.size_append, Array.size_extract, Array.size_extract] at this
    simp
    omega
  rw [Array.perm_iff_toList_perm, over_eq c.toList a sa 0 (by omega)]
  have hp' := Array.perm_iff_toList_perm.mp hp
  rw [Array.toList_append] at hp'
  have e1 := ext_mid a sa sb h1
  have e2 := ext_mid a sb (sb + nb) (by omega)
  have e3 := List.take_append_drop (sb + nb) a.toList
  have q : (a.toList.take (sa + 0) ++ c.toList ++ a.toList.drop (sa + 0 + c.toList.length)).Perm (a.toList.take sa ++ ((a.extract sa sb).toList ++ (a.extract sb (sb + nb)).toList) ++ a.toList.drop (sb + nb)) := by
    rw [show sa + 0 = sa by omega, show sa + c.toList.length = sb + nb by omega]
    exact List.Perm.append_right _ (List.Perm.append_left _ hp')
  refine q.trans ?_
  rw [← List.append_assoc, e1, e2, e3]

section
variable {prog : Program} {w : World} {A : Around} {E : Value → Shared → Prop} {s : Shared} {a₀ : Array Keyed} {kd : SortKind}

theorem wpS_set {st st2 : SortSt} {Q : PUnit → SortSt → Prop} (h : Q ⟨⟩ st2) : wpS (model prog w) A E s (set st2 : StateT SortSt Sem PUnit) Q st := by
  unfold wpS; rw [StateT.run_set]; exact wpAny_pure ⟨rfl, h⟩

theorem mergeAt_ok {st : SortSt} {i sa na sb nb pa pb : Nat} {Q : Bool → SortSt → Prop} (hA : Asks prog w A s kd a₀) (hB : SB a₀ kd st) (e1 : (pendingOf st)[i]? = some (sa, na, pa)) (e2 : (pendingOf st)[i + 1]? = some (sb, nb, pb))
    (h1 : 1 ≤ na) (h2 : 1 ≤ nb) (hsb : sb = sa + na) (hz : sb + nb ≤ a₀.size)
    (h : ∀ st', SB a₀ kd st' → pendingOf st' = ((pendingOf st).setIfInBounds i (sa, na + nb, pa)).eraseIdxIfInBounds (i + 1) → Q true st') :
    wpS (model prog w) A E s (mergeAt' i) Q st := by
  refine wpS_bind (wpS_get ?_)
  rw [e1, e2]
  dsimp only
  have hsz := hB.size
  have hall : ∀ x ∈ arrOf st, x ∈ a₀ := fun x hx => hB.perm.mem_iff.mp hx
  refine wpS_bind (wpS_set ?_)
  have hB2 : SB a₀ kd (setPending st (((pendingOf st).setIfInBounds i (sa, na + nb, pa)).eraseIdxIfInBounds (i + 1))) := ⟨hB.perm, hB.kind, hB.failed⟩
  refine wpS_bind (wpS_elem (arr := arrOf st) (by omega) (wpS_bind (gallop_ok (arr := arrOf st) hA hB2.kind (hall _ (Array.getElem_mem _)) hall (by omega) (by omega) fun k hk => ?_)))
  dsimp only
  refine wpS_ite (fun q => ?_) (fun q => ?_)
  · exact wpS_pure (h _ hB2 rfl)
  have q' : ¬ (na - k = 0) := fun z => q (beq_iff_eq.mpr z)
  refine wpS_bind (wpS_elem (arr := arrOf st) (by omega) (wpS_bind (gallop_ok (arr := arrOf st) hA hB2.kind (hall _ (Array.getElem_mem _)) hall (by omega) (by omega) fun m hm => ?_)))
  dsimp only
  refine wpS_ite (fun r => ?_) (fun r => ?_)
  · exact wpS_pure (h _ hB2 rfl)
  have r' : ¬ (m = 0) := fun z => r (beq_iff_eq.mpr z)
  have ex : ∀ i j x, x ∈ (arrOf st).extract i j → x ∈ a₀ := fun i j x hx => hall x (by
    rw [Array.mem_iff_getElem] at hx ⊢
    obtain ⟨k, hk, rfl⟩ := hx
    rw [Array.size_extract] at hk
    exact ⟨i + k, by omega, by simp⟩)
  refine wpS_ite (fun _ => wpS_bind (mergeLo_ok (a := (arrOf st).extract (sa + k) sb) (b := (arrOf st).extract sb (sb + m)) hA hB2.kind (ex _ _) (ex _ _) (by rw [Array.size_extract]; omega) (by rw [Array.size_extract]; omega) ?_)) (fun _ => wpS_bind (mergeHi_ok (a := (arrOf st).extract (sa + k) sb) (b := (arrOf st).extract sb (sb + m)) hA hB2.kind (ex _ _) (ex _ _) (by rw [Array.size_extract]; omega) (by rw [Array.size_extract]; omega) ?_))
  all_goals
    rintro c st' ⟨g, rfl⟩ hp
    refine wpS_bind (wpS_modify (wpS_bind (wpS_get (wpS_pure ?_))))
    have hn : (failedOf st).isNone = true := by rw [hB.failed]; rfl
    show Q (failedOf st).isNone _
    rw [hn]
    exact h _ ⟨(over_perm (by omega) (by omega) hp).trans hB.perm, hB.kind, hB.failed⟩ rfl
end
end TS
set_option autoImplicit false
set_option maxHeartbeats 4000000
namespace TS
open PySem PyProof.Rows

abbrev Run := Nat × Nat × Nat
/-- runs one behind the other, from a to b -/
def Cov : List Run → Nat → Nat → Prop
  | [], a, b => a = b
  | (st, len, _) :: r, a, b => st = a ∧ 1 ≤ len ∧ Cov r (a + len) b
theorem Cov.le : ∀ {p : List Run} {a b : Nat}, Cov p a b → a ≤ b
  | [], _, _, h => Nat.le_of_eq h
  | (_, len, _) :: r, a, b, h => by have := Cov.le h.2.2; omega
theorem Cov.snoc : ∀ {p : List Run} {a b n k : Nat}, Cov p a b → 1 ≤ n → Cov (p ++ [(b, n, k)]) a (b + n)
  | [], a, b, n, k, h, hn => by
    have h : a = b := h
    subst h
    exact ⟨rfl, hn, rfl⟩
  | (_, len, _) :: r, a, b, n, k, h, hn => ⟨h.1, h.2.1, Cov.snoc h.2.2 hn⟩
theorem Cov.at : ∀ {p : List Run} {a b i sa na pa sb nb pb : Nat}, Cov p a b → p[i]? = some (sa, na, pa) → p[i + 1]? = some (sb, nb, pb) →
    1 ≤ na ∧ 1 ≤ nb ∧ sb = sa + na ∧ sb + nb ≤ b ∧ Cov ((p.set i (sa, na + nb, pa)).eraseIdx (i + 1)) a b
  | [], a, b, i, _, _, _, _, _, _, h, e, _ => by simp at e
  | [x], a, b, 0, _, _, _, _, _, _, h, e, e2 => by simp at e2
  | x :: y :: r, a, b, 0, sa, na, pa, sb, nb, pb, h, e, e2 => by
    simp at e e2
    subst e; subst e2
    obtain ⟨h1, h2, h3, h4, h5⟩ := h
    have := h5.le
    refine ⟨h2, h4, by omega, by omega, ?_⟩
    show Cov ((sa, na + nb, pa) :: r) a b
    exact ⟨h1, by omega, by rw [← Nat.add_assoc]; exact h5⟩
  | (_, len, _) :: r, a, b, i + 1, sa, na, pa, sb, nb, pb, h, e, e2 => by
    obtain ⟨q1, q2, q3, q4, q5⟩ := Cov.at h.2.2 (by simpa using e) (by simpa using e2)
    exact ⟨q1, q2, q3, q4, h.1, h.2.1, q5⟩
theorem Cov.modify : ∀ {p : List Run} {a b i pw : Nat}, Cov p a b → Cov (p.modify i fun (st, len, _) => (st, len, pw)) a b
  | [], a, b, i, pw, h => by simpa using h
  | (_, len, _) :: r, a, b, 0, pw, h => ⟨h.1, h.2.1, h.2.2⟩
  | (_, len, _) :: r, a, b, i + 1, pw, h => by
    rw [List.modify_succ_cons]
    exact ⟨h.1, h.2.1, Cov.modify h.2.2⟩

section
variable {prog : Program} {w : World} {A : Around} {E : Value → Shared → Prop} {s : Shared} {a₀ : Array Keyed} {kd : SortKind}

structure SR (a₀ : Array Keyed) (kd : SortKind) (lo : Nat) (st : SortSt) : Prop where
  sb : SB a₀ kd st
  cov : Cov (pendingOf st).toList 0 lo
  le : lo ≤ a₀.size

theorem mergeAt_run {st : SortSt} {i lo : Nat} {Q : Bool → SortSt → Prop} (hA : Asks prog w A s kd a₀) (R : SR a₀ kd lo st) (hi : i + 1 < (pendingOf st).size) (h : ∀ st', SR a₀ kd lo st' → Q true st') :
    wpS (model prog w) A E s (mergeAt' i) Q st := by
  have hi0 : i < (pendingOf st).size := by omega
  obtain ⟨⟨sa, na, pa⟩, e1⟩ : ∃ r : Run, (pendingOf st)[i]? = some r := ⟨_, getElem?_pos _ i hi0⟩
  obtain ⟨⟨sb, nb, pb⟩, e2⟩ : ∃ r : Run, (pendingOf st)[i + 1]? = some r := ⟨_, getElem?_pos _ (i + 1) hi⟩
  obtain ⟨q1, q2, q3, q4, q5⟩ := R.cov.at (i := i) (by rw [Array.getElem?_toList]; exact e1) (by rw [Array.getElem?_toList]; exact e2)
  refine mergeAt_ok hA R.sb e1 e2 q1 q2 q3 (Nat.le_trans q4 R.le) fun st' hB hp => h st' ⟨hB, ?_, R.le⟩
  rw [hp]
  have hz : i + 1 < ((pendingOf st).setIfInBounds i (sa, na + nb, pa)).size := by rw [Array.size_setIfInBounds]; exact hi
  rw [Array.eraseIdxIfInBounds, dif_pos hz, Array.toList_eraseIdx, Array.toList_setIfInBounds]
  exact q5

theorem ite_le {c : Prop} [Decidable c] {a b n : Nat} (h1 : a ≤ n) (h2 : b ≤ n) : (if c then a else b) ≤ n := by
  split
  · exact h1
  · exact h2
theorem sortRuns_ok {st : SortSt} {Q : Unit → SortSt → Prop} (hA : Asks prog w A s kd a₀) (hB : SB a₀ kd st) (hp : pendingOf st = #[])
    (h : ∀ st', SB a₀ kd st' → Q () st') : wpS (model prog w) A E s sortRuns' Q st := by
  rw [sortRuns'_eq]
  refine wpS_bind (wpS_get ?_)
  dsimp only
  rw [hB.size]
  refine wpS_bind (wpS_mono (wpS_forRange (I := fun _ c st' => ∃ lo, c = (none, lo) ∧ SR a₀ kd lo st')
    (Q := fun c st' => ∃ lo, c = (none, lo) ∧ SR a₀ kd lo st') ?step (fun _ _ h => h) ⟨0, rfl, hB, by rw [hp]; rfl, Nat.zero_le _⟩) ?post)
  case step =>
    rintro x c st' _ hx ⟨lo, rfl, R⟩
    dsimp only
    refine wpS_ite (fun q => ?_) (fun q => ?_)
    · exact wpS_pure ⟨lo, rfl, R⟩
    refine wpS_bind (countRun_ok hA (by omega) (by omega) R.sb fun m st2 k2 hm1 hm2 => ?_)
    have R2 : SR a₀ kd lo st2 := ⟨k2.1, by rw [k2.2]; exact R.cov, R.le⟩
    dsimp only
    refine wpS_ite (fun hlt => ?_) (fun hlt => ?_)
    case' refine_1 =>
      refine wpS_bind (wpS_lift (wpAny_rule ⟨rfl, ?_⟩))
      refine wpS_bind (binarySort_ok hA (by omega) R2.sb fun st3 hB3 hp3 => ?_)
      have R3 : SR a₀ kd lo st3 := ⟨hB3, by rw [hp3]; exact R2.cov, R2.le⟩
    case' refine_2 => have R3 : SR a₀ kd lo st2 := R2
    all_goals
      refine wpS_bind (wpS_get ?_)
      split
      · rename_i s1 n1 p1 hb
        refine wpS_bind (wpS_mono (wpS_forRange (I := fun _ c st' => c = (none, ()) ∧ SR a₀ kd lo st') (Q := fun c st' => c = (none, ()) ∧ SR a₀ kd lo st') ?st1 (fun _ _ h => h) ⟨rfl, R3⟩) ?po1)
        case po1 =>
          rintro c st4 ⟨rfl, R4⟩
          refine wpS_bind (wpS_modify (wpS_bind (wpS_modify (wpS_pure ⟨_, rfl, ⟨R4.sb.perm, R4.sb.kind, R4.sb.failed⟩, ?_, by omega⟩))))
          show Cov (Array.push _ _).toList 0 _
          rw [Array.toList_push]
          refine Cov.snoc ?_ (by omega)
          show Cov (Array.modify _ _ _).toList 0 lo
          rw [Array.toList_modify]
          exact R4.cov.modify
        case st1 =>
          rintro y c st4 _ _ ⟨rfl, R4⟩
          refine wpS_bind (wpS_get ?_)
          by_cases hz : (pendingOf st4).size > 1
          · rw [if_pos hz, getElem?_pos (pendingOf st4) ((pendingOf st4).size - 2) (by omega)]
            refine wpS_ite (fun _ => ?_) (fun _ => ?_)
            · exact wpS_pure ⟨rfl, R4⟩
            refine wpS_bind (mergeAt_run hA R4 (by omega) fun st5 R5 => ?_)
            exact wpS_pure ⟨rfl, R5⟩
          · rw [if_neg hz]
            exact wpS_pure ⟨rfl, R4⟩
      · refine wpS_bind (wpS_modify (wpS_pure ⟨_, rfl, ⟨R3.sb.perm, R3.sb.kind, R3.sb.failed⟩, ?_, by omega⟩))
        show Cov (Array.push _ _).toList 0 _
        rw [Array.toList_push]
        exact R3.cov.snoc (by omega)
  case post =>
    rintro c st' ⟨lo, rfl, R⟩
    dsimp only
    refine wpS_bind (wpS_mono (wpS_forRange (I := fun _ c st' => c = (none, ()) ∧ SR a₀ kd lo st') (Q := fun c st' => c = (none, ()) ∧ SR a₀ kd lo st') ?st2 (fun _ _ h => h) ⟨rfl, R⟩) ?po2)
    case po2 =>
      rintro c st4 ⟨rfl, R4⟩
      exact wpS_pure (h _ R4.sb)
    case st2 =>
      rintro y c st4 _ _ ⟨rfl, R4⟩
      refine wpS_bind (wpS_get ?_)
      refine wpS_ite (fun _ => ?_) (fun hz => ?_)
      · exact wpS_pure ⟨rfl, R4⟩
      refine wpS_bind (mergeAt_run hA R4 ?_ fun st5 R5 => ?_)
      · exact Nat.lt_of_le_of_lt (Nat.add_le_add_right (ite_le (n := (pendingOf st4).size - 2) (by omega) (Nat.le_refl _)) 1) (by omega)
      · exact wpS_pure ⟨rfl, R5⟩
end
end TS

set_option autoImplicit false
set_option linter.all false
set_option maxHeartbeats 4000000
namespace L2
open PySem PySem.Spec PyProof.Rows

section
variable {prog : Program} {w : World} {A : Around} {R : Result → Shared → Prop} {s : Shared}
theorem compLoop_go {elt target iter : Expr} {ifs : List Expr} {scope : Scope} {pos : Pos} {it acc : Value} {env : Env} (I : Nat → Shared → Prop)
    (turn : ∀ n s, I n s → wpAny (model prog w) A (pyNext it) (fun r s₁ => match r with
      | none => R (.ok .next) s₁
      | some v => wpAny (model prog w) A (letOwnedTupleGo target it v) (fun _ s₀ => wpAny (model prog w) A (assign target env v) (fun _ s₂ =>
          wpAny (model prog w) A (forIn ifs true fun c r => if r = true then do let ok ← isTrue c env (eval c env); pure (ForInStep.yield ok) else pure (ForInStep.yield r)) (fun ok s₃ =>
            if ok = true then wpAny (model prog w) A (eval elt env) (fun x s₄ =>
              wpAny (model prog w) A (call (.builtin "list.append") [acc, x]) (fun _ s₅ => ∃ m, m < n ∧ I m s₅) (fun _ _ => False) s₄) (fun _ _ => False) s₃
            else ∃ m, m < n ∧ I m s₃) (fun _ _ => False) s₂) (fun _ _ => False) s₀) (fun _ _ => False) s₁) (fun _ _ => False) s)
    (n : Nat) (h : I n s) :
    codeAny (model prog w) A (.compLoop (.ListComp elt [⟨target, iter, ifs, 0⟩] scope pos) 0 it acc env) R s := by
  refine codeAny_loop rfl I (fun n s hI => ?_) n h
  show wpAny _ A ((compTurn (.ListComp elt [⟨target, iter, ifs, 0⟩] scope pos) 0 it acc env).onRaise (fun x => do noteFrame x env; theTreesLotGoes x)) _ _ s
  refine wpAny_noted ?_
  rw [compTurn_list]
  refine wpAny_bind (wpAny_standAt (wpAny_bind (wpAny_mono (turn n s hI) (fun r s₁ h₁ => ?_) fun _ _ h' => h'.elim)))
  cases r with
  | none => exact wpAny_pure h₁
  | some v =>
    refine wpAny_bind (wpAny_mono h₁ (fun _ s₀ h₀ => ?_) fun _ _ h' => h'.elim)
    refine wpAny_bind (wpAny_mono h₀ (fun _ s₂ h₂ => wpAny_bind (wpAny_mono h₂ (fun ok s₃ h₃ => ?_) fun _ _ h' => h'.elim)) fun _ _ h' => h'.elim)
    cases ok with
    | false => exact wpAny_pure ⟨rfl, h₃⟩
    | true =>
      exact wpAny_bind (wpAny_bind (wpAny_mono h₃ (fun x s₄ h₄ => wpAny_bind (wpAny_mono h₄ (fun _ s₅ h₅ => wpAny_pure (wpAny_pure ⟨rfl, h₅⟩)) fun _ _ h' => h'.elim)) fun _ _ h' => h'.elim))
end

/-- the tests of a comprehension, one after the other -/
def PTs (X : Cx) (ifs : List Expr) (t : TT) : Prop :=
  ∀ (pins : List (Addr × Obj)) (s : Shared) (σ : St) (H : Hp) (Q : Bool → Hp → Prop), Inv X pins σ H s → t σ H Q →
    wpAny (model X.prog X.w) X.A (forIn ifs true fun c r => if r = true then do let ok ← isTrue c X.env (eval c X.env); pure (ForInStep.yield ok) else pure (ForInStep.yield r)) (TP X pins σ Q) X.xe s
def tYes : TT := fun _ H Q => Q true H
theorem pts_nil {X : Cx} : PTs X [] tYes := fun _ _ _ H _ I h => wpAny_tests_nil ⟨H, I, h⟩
theorem pts_one {X : Cx} {c : Expr} {t : TT} (h : PT X c t) : PTs X [c] t := fun pins s σ H Q I hw => wpAny_tests_one (h pins s σ H Q I hw)

/-- the context of a comprehension's block: its frame at C; own names, then the captured ones -/
def compCx (X : Cx) (scope : Scope) (cl : List (Str × Addr)) (nm : List Str) (C : Addr) (s : Shared) (H : Hp) (fp : List Addr) : Cx where
  prog := X.prog
  w := X.w
  K := X.K
  mg := X.mg
  base := X.base
  A := X.A
  N := nm
  s₀ := s
  H₀ := H
  env := compEnvC scope cl C X.env
  outer := X.stack
  stack := X.stack
  ex := fp
  fn := fun _ => false
  calm := X.calm
  pn := []
  xe := fun _ _ => False
/-- the captured names' values -/
def capOf (k : Nat) (js : List Nat) (σ : St) : St := List.replicate k none ++ js.map fun j => (σ[j]?).getD none

/-- what the names of a comprehension are: caps the captured ones, in the closure's order; js their slots -/
structure CompNm (X : Cx) (scope : Scope) (cl : List (Str × Addr)) (own caps : List Str) (js : List Nat) : Prop where
  clos : closureFor scope X.env = pure cl
  kind : scope.kind = .function
  nocell : ∀ y ∈ scope.names, y.2 ≠ .cell
  loc : ∀ y ∈ scope.names, y.2 = .local → scope.names.lookup y.1 = some .local
  dom : ∀ y ∈ scope.names, y.2 = .free → y.1 ∈ caps
  nm : cl.map (·.1) = caps
  cells : ∀ p ∈ cl, X.env.cells.lookup p.1 = some p.2
  slot : caps.map some = js.map fun j => X.N[j]?
  vis : ∀ x ∈ caps, X.env.kindOf x = some .cell ∨ X.env.kindOf x = some .free
  fr : ∀ x ∈ caps, (relabel scope X.env).names.lookup x = some .cell ∨ (relabel scope X.env).names.lookup x = some .free
  no : ∀ x ∈ own, x ∉ caps
  dis : ∀ x ∈ own, scope.names.lookup x = some .local

theorem lookup_mem {α β : Type} [BEq α] [LawfulBEq α] : ∀ {l : List (α × β)} {x : α} {c : β}, l.lookup x = some c → (x, c) ∈ l
  | [], _, _, h => by simp at h
  | (a, b) :: r, x, c, h => by
    rw [List.lookup_cons] at h
    cases e : x == a with
    | true => rw [e] at h; cases h; have := eq_of_beq e; subst this; exact List.mem_cons_self
    | false => rw [e] at h; exact List.mem_cons_of_mem _ (lookup_mem h)
theorem lookup_some_of {α β : Type} [BEq α] [LawfulBEq α] : ∀ {l : List (α × β)} {x : α}, x ∈ l.map (·.1) → ∃ c, l.lookup x = some c
  | [], _, h => by simp at h
  | (a, b) :: r, x, h => by
    rw [List.lookup_cons]
    cases e : x == a with
    | true => exact ⟨b, rfl⟩
    | false =>
      refine lookup_some_of ?_
      rcases List.mem_cons.mp h with q | q
      · have q : x = a := q
        subst q; simp at e
      · exact q
theorem relabel_free {env : Env} : ∀ {names : List (Str × NameKind)} {x : Str} {k : NameKind}, (names.map fun (n, k) => if (k == NameKind.free && env.scope.kind == .function && env.kindOf n == some .cell) then (n, NameKind.cell) else (n, k)).lookup x = some k →
    (k = .cell ∨ k = .free) → ∃ k', (x, k') ∈ names ∧ (k' = .cell ∨ k' = .free)
  | [], _, _, h, _ => by simp at h
  | (n, k0) :: r, x, k, h, hk => by
    rw [List.map_cons, List.lookup_cons] at h
    by_cases hc : (k0 == NameKind.free && env.scope.kind == .function && env.kindOf n == some .cell) = true
    · simp only [hc, if_true] at h
      cases e : x == n with
      | true =>
        have := eq_of_beq e; subst this
        have hf : k0 = .free := by
          have := (Bool.and_eq_true_iff.mp (Bool.and_eq_true_iff.mp hc).1).1
          exact eq_of_beq this
        exact ⟨k0, List.mem_cons_self, .inr hf⟩
      | false =>
        rw [e] at h
        obtain ⟨k', h1, h2⟩ := relabel_free h hk
        exact ⟨k', List.mem_cons_of_mem _ h1, h2⟩
    · simp only [hc, if_false, Bool.false_eq_true] at h
      cases e : x == n with
      | true =>
        rw [e] at h
        have := eq_of_beq e; subst this
        cases h
        exact ⟨k0, List.mem_cons_self, hk⟩
      | false =>
        rw [e] at h
        obtain ⟨k', h1, h2⟩ := relabel_free h hk
        exact ⟨k', List.mem_cons_of_mem _ h1, h2⟩

section
variable {X : Cx} {scope : Scope} {cl : List (Str × Addr)} {own caps : List Str} {js : List Nat}
theorem CompNm.cl_of (n : CompNm X scope cl own caps js) {x : Str} {c : Addr} (h : cl.lookup x = some c) : X.env.cells.lookup x = some c := n.cells _ (lookup_mem h)
theorem CompNm.in_caps (n : CompNm X scope cl own caps js) {x : Str} {c : Addr} (h : cl.lookup x = some c) : x ∈ caps := by
  rw [← n.nm]; exact List.mem_map.mpr ⟨_, lookup_mem h, rfl⟩
theorem CompNm.has (n : CompNm X scope cl own caps js) {x : Str} (h : x ∈ caps) : ∃ c, cl.lookup x = some c := lookup_some_of (by rw [n.nm]; exact h)

theorem Inv.stk_of {pins : List (Addr × Obj)} {σ : St} {H : Hp} {s : Shared} {b : Addr} (I : Inv X pins σ H s) (hf : FpOk X pins H b) : b ∉ frs X.stack := fun z => by
  rcases List.mem_cons.mp (I.stkSub b z) with e | e
  · exact hf.2.1 e
  · exact hf.2.2.1 e

/-- the block begins -/
theorem comp_start {pins : List (Addr × Obj)} {σ : St} {H : Hp} {s : Shared} {fp : List Addr} {h₁ : Heap} {m : Str → Option Value} {tk : Nat} {own' : List Str} (n : CompNm X scope cl own caps js) (I : Inv X pins σ H s) (hf : ∀ b ∈ fp, FpOk X pins H b)
    (hlt : ∀ b ∈ fp, b < s.heap.objs.size) (hns : h₁.Ns s.heap.objs.size m) (old : ∀ b o, s.heap.get? b = some o → h₁.get? b = some o) :
    Inv (compCx X scope cl (own ++ caps) s.heap.objs.size s H fp) [] (capOf own.length js σ) H { s with heap := h₁, toks := tk } := by
  have hl : js.length = caps.length := by
    have := congrArg List.length n.slot
    simpa using this.symm
  refine ⟨⟨I.ok.mod, n.kind, I.ok.glob, I.ok.blt, Nat.le_refl _, fun x y c h1 h2 => I.ok.inj x y c (n.cl_of h1) (n.cl_of h2), fun x hx => ?_, (fun x c h => nomatch h), I.ok.hd, I.ok.frames, .inl rfl, fun b hb => ⟨Nat.ne_of_lt (hlt b hb), fun x c e => (hf b hb).2.2.2.2.1 x c (n.cl_of e)⟩,
      I.bs, Nat.le_trans I.ok.bsz I.sz, fun b o e hb => ?_, fun b hb => I.stk_of (hf b hb), I.stack, I.stkFree⟩,
    rfl, I.bare, Un.kept old, ⟨m, hns, fun i x v e1 e2 e3 => ?_⟩, fun x c e => ?_, I.hok.fresh (Nat.le_refl _), fun x c e => I.freeC x c (n.cl_of e), (fun p hp => nomatch hp), I.hok.kept old, ?_⟩
  · have hx : (relabel scope X.env).names.lookup x = some .cell ∨ (relabel scope X.env).names.lookup x = some .free := hx
    have key : ∃ k', (x, k') ∈ scope.names ∧ (k' = .cell ∨ k' = .free) := by
      rcases hx with h | h
      · exact relabel_free h (.inl rfl)
      · exact relabel_free h (.inr rfl)
    obtain ⟨k', h1, h2⟩ := key
    rcases h2 with h2 | h2
    · exact absurd h2 (n.nocell _ h1)
    · exact n.has (n.dom _ h1 h2)
  · obtain ⟨_, _, _, h4, _⟩ := hf b hb
    rcases h4 with h4 | h4
    · exact I.ok.noex b o e h4
    · exact absurd (Nat.lt_of_lt_of_le (Heap.lt_size e) I.ok.bsz) (Nat.not_lt.mpr h4)
  · -- a captured name
    have hi : own.length ≤ i := by
      rcases Nat.lt_or_ge i own.length with h | h
      · unfold capOf at e2
        rw [List.getElem?_append_left (by simpa using h), List.getElem?_replicate, if_pos h] at e2
        cases e2
      · exact h
    have e1 : (own ++ caps)[i]? = some x := e1
    rw [List.getElem?_append_right hi] at e1
    unfold capOf at e2
    rw [List.getElem?_append_right (by simpa using hi), List.length_replicate, List.getElem?_map] at e2
    cases ej : js[i - own.length]? with
    | none => rw [ej] at e2; cases e2
    | some j =>
      rw [ej] at e2
      have e2 : some ((σ[j]?).getD none) = some (some v) := e2
      have hj : X.N[j]? = some x := by
        have q := congrArg (fun l => l[i - own.length]?) n.slot
        simp only [List.getElem?_map, e1, ej, Option.map_some] at q
        exact (Option.some.inj q).symm
      have hv : σ[j]? = some (some v) := by
        cases es : σ[j]? with
        | none => rw [es] at e2; cases e2
        | some o => rw [es] at e2; exact e2
      have hxc : x ∈ caps := List.mem_of_getElem? e1
      obtain ⟨m0, hn0, hl0⟩ := I.loc
      have vis : Vis X.env.scope x := by
        rcases n.vis x hxc with k | k
        · exact .inr (.inl k)
        · exact .inr (.inr k)
      obtain ⟨u, r, lk⟩ := hl0 j x v hj hv vis
      refine ⟨u, r, .inr ⟨n.fr x hxc, ?_⟩⟩
      obtain ⟨c, hc⟩ := n.has hxc
      refine ⟨c, hc, ?_⟩
      rcases lk with ⟨k, _⟩ | ⟨_, c', hc', z⟩
      · rcases n.vis x hxc with k' | k'
        · rw [k] at k'; cases k'
        · rw [k] at k'; cases k'
      · rw [n.cl_of hc] at hc'
        cases hc'
        obtain ⟨o, ho, hd⟩ := z
        exact ⟨o, old _ _ ho, hd⟩
  · obtain ⟨v, o, ho, hd⟩ := I.cell x c (n.cl_of e)
    exact ⟨v, o, old _ _ ho, hd⟩
  · show (capOf own.length js σ).length = (own ++ caps).length
    unfold capOf
    rw [List.length_append, List.length_append, List.length_replicate, List.length_map, hl]

/-- the comprehension's reading: W is the invariant by the turn, a measure, the things so far, the block's names, the heap -/
def compW (J : It) (g : TG) (tt : TT) (te : TE) (acc : Addr) (σ₀ : St) (Q : VK) (H1 : Hp) : Prop :=
  ∃ W : Nat → Nat → List V → St → Hp → Prop, (∃ m, W 0 m [] σ₀ (upd H1 acc (.lst []))) ∧
    ∀ i m ys σ H, W i m ys σ H → H acc = some (.lst ys) ∧ ((J.stop i H ∧ Q (.ref acc) H) ∨ (J.go i H ∧ ∀ x H', J.yld i H x H' → g x σ H' fun σ2 H2 => tt σ2 H2 fun b H3 =>
      if b = true then te σ2 H3 fun y H4 => H4 acc = some (.lst ys) ∧ ys.length < sizeLine ∧ ∃ m', m' < m ∧ W (i + 1) m' (ys ++ [y]) σ2 (upd H4 acc (.lst (ys ++ [y])))
      else ∃ m', m' < m ∧ W (i + 1) m' ys σ2 H3))

theorem comp_core {pins : List (Addr × Obj)} {σ : St} {H1 : Hp} {s2 : Shared} {E : Value → Shared → Prop} {elt tg iter : Expr} {ifs : List Expr} {pos : Pos} {g : TG} {tt : TT} {te : TE} {J : It} {fp : List Addr} {it : Addr} {tn : Nat → Heap → Prop} {Q : VK}
    {RR : Value → Addr → Result → Shared → Prop}
    (n : CompNm X scope cl own caps js) (hc : X.calm = true) (hg : ∀ C s H fp, PG (compCx X scope cl (own ++ caps) C s H fp) tg g) (ht : ∀ C s H fp, PTs (compCx X scope cl (own ++ caps) C s H fp) ifs tt)
    (he : ∀ C s H fp, PE (compCx X scope cl (own ++ caps) C s H fp) elt te)
    (I2 : Inv X pins σ H1 s2) (T : Turn X.prog X.w X.K tg J fp it tn) (st2 : tn 0 s2.heap) (f2 : ∀ b ∈ fp, FpOk X pins H1 b)
    (hW : ∀ acc, H1 acc = none → compW J g tt te acc (capOf own.length js σ) Q H1)
    (hRR : ∀ acc C H' s' m, Inv X pins σ H' s' → H' C = none → C ≠ X.env.locals → X.s₀.heap.objs.size ≤ C → (∀ x c, X.env.cells.lookup x = some c → c ≠ C) → (∀ p ∈ X.pn ++ pins, p.1 ≠ C) → s'.heap.Ns C m → Q (.ref acc) H' → RR (.ref acc) C (.ok .next) s') :
    wpAny (model X.prog X.w) X.A (newList []) (fun acc s₃ => wpAny (model X.prog X.w) X.A (newFunctionEnv scope X.env.globals cl [] X.env.qual none .none (some X.env)) (fun cenv s₄ =>
      codeAny (model X.prog X.w) X.A (.compStart (.ListComp elt [⟨tg, iter, ifs, 0⟩] scope pos) 0 (.ref it) acc { cenv with scope := relabel scope X.env }) (RR acc cenv.locals) s₄) E s₃) E s2 := by
  refine wpAny_newObj_type (wpAny_newFunctionEnv n.nocell (by intro y hy; simp at hy) (fun h₁ hns₁ hsb₁ => ?_) n.kind)
  dsimp only at hns₁ hsb₁ ⊢
  have hnew : H1 s2.heap.objs.size = none := I2.hok.fresh (Nat.le_refl _)
  have I3 : Inv X pins σ (upd H1 s2.heap.objs.size (.lst [])) { s2 with heap := s2.heap.push { cls := .type "list", dict := none, data := .seq ([] : List Value).toArray } } :=
    I2.laid (t' := s2.toks) (fun b u e => Heap.get?_push_of_some _ e) (Nat.le_refl _) ⟨Nat.zero_le _, [], 0, .nil, Heap.get?_push_size _ rfl⟩
  obtain ⟨W, ⟨m0, w0⟩, turn⟩ := hW s2.heap.objs.size hnew
  generalize hs3 : ({ s2 with heap := s2.heap.push { cls := .type "list", dict := none, data := .seq ([] : List Value).toArray } } : Shared) = s3 at I3
  have hh3 : s2.heap.push { cls := .type "list", dict := none, data := .seq ([] : List Value).toArray } = s3.heap := by rw [← hs3]
  have old2 : ∀ b o, s2.heap.get? b = some o → s3.heap.get? b = some o := fun b o e => by rw [← hh3]; exact Heap.get?_push_of_some _ e
  rw [hh3] at hns₁ hsb₁ ⊢
  have hlt2 : ∀ b ∈ fp, b < s2.heap.objs.size := fun b hb => by obtain ⟨o, ho, _⟩ := T.obj _ _ st2 b hb; exact Heap.lt_size ho
  have hsz : s3.heap.objs.size = s2.heap.objs.size + 1 := by rw [← hh3, Heap.size_push]
  have f3 : ∀ b ∈ fp, FpOk X pins (upd H1 s2.heap.objs.size (.lst [])) b := fun b hb => by
    obtain ⟨q, r⟩ := f2 b hb
    exact ⟨by rw [upd_ne (Nat.ne_of_lt (hlt2 b hb))]; exact q, r⟩
  have old3 : ∀ b o, s3.heap.get? b = some o → h₁.get? b = some o := fun b o e => hsb₁.extBut b o (Nat.ne_of_lt (Heap.lt_size e)) (Heap.get?_push_of_some _ e)
  have e4 : ({ s2 with heap := h₁, toks := s2.toks + ([] : List (Str × Value)).length } : Shared) = { s3 with heap := h₁, toks := s2.toks + ([] : List (Str × Value)).length } := by rw [← hs3]
  have IY := comp_start (own' := []) (tk := s2.toks + ([] : List (Str × Value)).length) n I3 f3 (fun b hb => by rw [hsz]; exact Nat.lt_succ_of_lt (hlt2 b hb)) hns₁ old3
  have stY : tn 0 h₁ := T.keep _ _ _ st2 fun b hb o e => old3 b o (old2 b o e)
  have loop : ∀ s4 : Shared, s4 = { s3 with heap := h₁, toks := s2.toks + ([] : List (Str × Value)).length } →
      codeAny (model X.prog X.w) X.A (.compLoop (.ListComp elt [⟨tg, iter, ifs, 0⟩] scope pos) 0 (.ref it) (.ref s2.heap.objs.size) (compEnvC scope cl s3.heap.objs.size X.env)) (RR (.ref s2.heap.objs.size) s3.heap.objs.size) s4 := by
    rintro s4 rfl
    have stat : ∀ {H' : Hp}, (∀ b ∈ fp, H' b = none) → ∀ b ∈ fp, FpOk (compCx X scope cl (own ++ caps) s3.heap.objs.size s3 (upd H1 s2.heap.objs.size (.lst [])) fp) [] H' b := fun {H'} hn b hb =>
      ⟨hn b hb, Nat.ne_of_lt (by show b < s3.heap.objs.size; rw [hsz]; exact Nat.lt_succ_of_lt (hlt2 b hb)), I3.stk_of (f3 b hb), .inl hb, fun x c e => (f3 b hb).2.2.2.2.1 x c (n.cl_of e), (fun p hp => nomatch hp)⟩
    refine compLoop_go (fun k s' => ∃ i ys σ' H', Inv (compCx X scope cl (own ++ caps) s3.heap.objs.size s3 (upd H1 s2.heap.objs.size (.lst [])) fp) [] σ' H' s' ∧ tn i s'.heap ∧ (∀ b ∈ fp, H' b = none) ∧ W i k ys σ' H') ?_ m0
      ⟨0, [], _, _, IY, stY, fun b hb => (f3 b hb).1, w0⟩
    rintro k s5 ⟨i, ys, σ5, H5, I5, st5, fr5, w5⟩
    obtain ⟨hacc, hw⟩ := turn i k ys σ5 H5 w5
    rcases hw with ⟨stop, q⟩ | ⟨go, step⟩
    · refine thn (T.done (compCx X scope cl (own ++ caps) s3.heap.objs.size s3 (upd H1 s2.heap.objs.size (.lst [])) fp) rfl rfl rfl hc i [] s5 σ5 H5 (fun _ _ => False) I5 (stat fr5) st5 stop) fun r s6 ⟨hr, I6⟩ => ?_
      subst hr
      have I7 : Inv X pins σ H5 s6 := I3.call' I6.os I6.base I6.hok I6.bare fun b hb => by
        obtain ⟨_, g1, _, g3, g4, g5⟩ := f3 b hb
        exact ⟨g3, g1, g4, g5⟩
      obtain ⟨mC, hnC, _⟩ := I6.loc
      exact hRR _ _ H5 s6 mC I7 I6.free (Nat.ne_of_gt I3.lt) I3.sz (fun x c e z => by
          obtain ⟨v, zc⟩ := I3.cell x c e
          exact absurd zc.lt (by rw [z]; exact Nat.lt_irrefl _))
        (fun p hp z => absurd (Heap.lt_size (I3.pin p hp).1) (by rw [z]; exact Nat.lt_irrefl _)) hnC q
    · refine thn (T.item (compCx X scope cl (own ++ caps) s3.heap.objs.size s3 (upd H1 s2.heap.objs.size (.lst [])) fp) rfl rfl rfl hc i [] s5 σ5 H5 (fun _ _ => False) I5 (stat fr5) st5 go) fun r s6 ⟨u, hr, h6⟩ => ?_
      subst hr
      refine thn h6 fun _ s7 ⟨x, H7, I7, r7, y7, st7, fr7⟩ => ?_
      have I7' := I7.pinned (stat fr7) (T.obj _ _ st7)
      have again : ∀ {σ8 : St} {H8 : Hp} {s8 : Shared} {ys' : List V} {m' : Nat}, Inv (compCx X scope cl (own ++ caps) s3.heap.objs.size s3 (upd H1 s2.heap.objs.size (.lst [])) fp) ([] ++ pinsAt fp s7.heap) σ8 H8 s8 → m' < k → W (i + 1) m' ys' σ8 H8 →
          ∃ m, m < k ∧ ∃ i ys σ' H', Inv (compCx X scope cl (own ++ caps) s3.heap.objs.size s3 (upd H1 s2.heap.objs.size (.lst [])) fp) [] σ' H' s8 ∧ tn i s8.heap ∧ (∀ b ∈ fp, H' b = none) ∧ W i m ys σ' H' := fun {σ8 H8 s8 ys' m'} I8 hm w8 => by
        refine ⟨m', hm, i + 1, ys', σ8, H8, I8.unpinned, T.keep _ _ _ st7 fun b hb o e => (I8.pin (b, o) (List.mem_append_right _ (List.mem_append_right _ (mem_pinsAt hb e)))).1, fun b hb => ?_, w8⟩
        obtain ⟨o, e, d⟩ := T.obj _ _ st7 b hb
        exact (I8.pin (b, o) (List.mem_append_right _ (List.mem_append_right _ (mem_pinsAt hb e)))).2.1
      refine thn (hg _ _ _ _ _ s7 σ5 H7 x u _ I7' r7 (step x H7 y7)) fun _ s8 ⟨σ8, H8, I8, q8⟩ => ?_
      refine thn (ht _ _ _ _ _ s8 σ8 H8 _ I8 q8) fun b s9 ⟨H9, I9, q9⟩ => ?_
      cases b with
      | false =>
        obtain ⟨m', hm, w9⟩ := q9
        exact again I9 hm w9
      | true =>
        refine thn (he _ _ _ _ _ s9 σ8 H9 _ I9 q9) fun yv s10 ⟨y, H10, I10, r10, ha, hz, m', hm, w10⟩ => ?_
        refine thn (mt_append _ s10 σ8 H10 (.ref s2.heap.objs.size) [y] (.ref s2.heap.objs.size) [yv] (fun v H' => v = .non ∧ H' = upd H10 s2.heap.objs.size (.lst (ys ++ [y]))) I10 rfl (.cons r10 .nil) ⟨_, ys, y, rfl, rfl, ha, hz, rfl, rfl⟩) fun _ s11 ⟨v, H11, I11, _, _, eH⟩ => ?_
        subst eH
        exact again I11 hm w10
  rw [e4]
  exact codeAny_compStart_list (loop _ rfl) (T.self _ 0 _ _ _ stY (loop _ rfl))

/-- [elt for tg in iter if ..], as a value -/
def tComp (wi : TI) (k : Nat) (js : List Nat) (g : TG) (tt : TT) (te : TE) : TE := fun σ H Q => wi σ H fun J H1 => ∀ acc, H1 acc = none → compW J g tt te acc (capOf k js σ) Q H1
theorem pe_comp {elt tg iter : Expr} {ifs : List Expr} {pos : Pos} {wi : TI} {g : TG} {tt : TT} {te : TE} (n : CompNm X scope cl own caps js) (hc : X.calm = true) (hi : PI X tg iter wi)
    (hg : ∀ C s H fp, PG (compCx X scope cl (own ++ caps) C s H fp) tg g) (ht : ∀ C s H fp, PTs (compCx X scope cl (own ++ caps) C s H fp) ifs tt) (he : ∀ C s H fp, PE (compCx X scope cl (own ++ caps) C s H fp) elt te)
    (hs : ∀ x, foldedSetIterable iter X.env x = pure x := by intro _; rfl) : PE X (.ListComp elt [⟨tg, iter, ifs, 0⟩] scope pos) (tComp wi own.length js g tt te) := by
  intro pins s σ H Q I h
  rw [eval_ListComp]
  refine wpAny_comprehension_free (use := none) rfl hs n.clos n.kind n.loc (wpAny_mono (hi pins s σ H _ I h) (fun xv s₁ h₁ => wpAny_mono h₁ (fun itv s₂ h₂ => ?_) fun _ _ e => e) fun _ _ e => e)
  obtain ⟨it, fp, tn, J, H2, e, I2, T, st2, f2, hW⟩ := h₂
  subst e
  refine comp_core (RR := fun acc C => compPost (model X.prog X.w) X.A X.xe none (EP X pins σ Q) acc C) n hc hg ht he I2 T st2 f2 hW ?_
  intro acc C H' s' m I' hC h1 h2 h3 h4 hn q
  refine ⟨m, hn, fun h' sb => ⟨.ref acc, H', I'.turned (t' := s'.toks) (fun b o hb e => sb.extBut b o hb e) hC h1 (.inr h2) h3 h4, rfl, q⟩⟩

/-- x = [..] on one line, x a local name: the store comes ahead of the names' going -/
theorem ps_setComp {i : Nat} {x : Str} {elt tg iter : Expr} {ifs : List Expr} {pos pos' spos : Pos} {wi : TI} {g : TG} {tt : TT} {te : TE} (n : CompNm X scope cl own caps js) (hc : X.calm = true) (hi : PI X tg iter wi)
    (hg : ∀ C s H fp, PG (compCx X scope cl (own ++ caps) C s H fp) tg g) (ht : ∀ C s H fp, PTs (compCx X scope cl (own ++ caps) C s H fp) ifs tt) (he : ∀ C s H fp, PE (compCx X scope cl (own ++ caps) C s H fp) elt te)
    (hN : X.N.Nodup) (hx : X.N[i]? = some x) (hl : X.env.scope.names.lookup x = some .local)
    (hsw : swapsWith (.ListComp elt [⟨tg, iter, ifs, 0⟩] scope pos) (some (.Name x pos')) spos.line X.env = pure true)
    (hs : ∀ x, foldedSetIterable iter X.env x = pure x := by intro _; rfl) : PS X (.Assign [.Name x pos'] (.ListComp elt [⟨tg, iter, ifs, 0⟩] scope pos) spos) (tAsg (tComp wi own.length js g tt te) (gName i)) := by
  intro pins s σ H D I h
  rw [exec_Assign_Name_used _ _ _ _ hsw]
  refine wpAny_bind (wpAny_standAt (wpAny_bind ?_))
  show wpAny _ X.A (do let _ ← comprehension (.ListComp elt [⟨tg, iter, ifs, 0⟩] scope pos) scope X.env _ (newList []) false (eval iter X.env) (some (assign (.Name x pos') X.env))) _ _ s
  refine wpAny_bind (wpAny_mono (wpAny_comprehension_free (use := some (assign (.Name x pos') X.env)) (Q := fun _ s' => SP X pins D .next s') rfl hs n.clos n.kind n.loc
    (wpAny_mono (hi pins s σ H _ I h) (fun xv s₁ h₁ => wpAny_mono h₁ (fun itv s₂ h₂ => ?_) fun _ _ e => e) fun _ _ e => e)) (fun _ s' hq => wpAny_pure (wpAny_pure hq)) fun _ _ e => e)
  obtain ⟨it, fp, tn, J, H2, e, I2, T, st2, f2, hW⟩ := h₂
  subst e
  refine comp_core (RR := fun acc C => compPost (model X.prog X.w) X.A X.xe (some (assign (.Name x pos') X.env)) (fun _ s' => SP X pins D .next s') acc C) n hc hg ht he I2 T st2 f2 hW ?_
  intro acc C H' s' m I' hC h1 h2 h3 h4 hn q
  show wpAny _ X.A (assign (.Name x pos') X.env (.ref acc)) _ _ _
  refine wpAny_assign_Name (store_ok2 I' hN hx (.inl hl) (v := .ref acc) rfl (fun s'' I'' sb => ?_) (.inr hl))
  obtain ⟨a, sb, ha⟩ := sb
  have hCa : C ≠ a := by
    rcases ha with ha | ha
    · rw [ha]; exact h1
    · exact fun z => h3 x a ha z.symm
  exact ⟨m, hn.sameBut sb hCa, fun h' sb' => ⟨_, H', I''.turned (t' := s''.toks) (fun b o hb e => sb'.extBut b o hb e) hC h1 (.inr h2) h3 h4, q⟩⟩
end

/-- by what holds at each turn, of n turns -/
theorem comp_by {J : It} {n : Nat} {g : TG} {tt : TT} {te : TE} {acc : Addr} {σ₀ : St} {Q : VK} {H1 : Hp} (Pv : Nat → List V → St → Hp → Prop) (h0 : Pv 0 [] σ₀ (upd H1 acc (.lst []))) (ha : ∀ i ys σ H, i ≤ n → Pv i ys σ H → H acc = some (.lst ys))
    (hs : ∀ i ys σ H, i < n → Pv i ys σ H → J.go i H ∧ ∀ x H', J.yld i H x H' → g x σ H' fun σ2 H2 => tt σ2 H2 fun b H3 =>
      if b = true then te σ2 H3 fun y H4 => H4 acc = some (.lst ys) ∧ ys.length < sizeLine ∧ Pv (i + 1) (ys ++ [y]) σ2 (upd H4 acc (.lst (ys ++ [y]))) else Pv (i + 1) ys σ2 H3)
    (hd : ∀ ys σ H, Pv n ys σ H → J.stop n H ∧ Q (.ref acc) H)
    (mg : ∀ x σ H P P', (∀ σ2 H2, P σ2 H2 → P' σ2 H2) → g x σ H P → g x σ H P') (mt : ∀ σ H P P', (∀ b H2, P b H2 → P' b H2) → tt σ H P → tt σ H P') (me : ∀ σ H P P', (∀ v H2, P v H2 → P' v H2) → te σ H P → te σ H P') : compW J g tt te acc σ₀ Q H1 := by
  refine ⟨fun i m ys σ H => m = n - i ∧ i ≤ n ∧ Pv i ys σ H, ⟨n, by omega, Nat.zero_le _, h0⟩, ?_⟩
  rintro i m ys σ H ⟨rfl, hi, p⟩
  refine ⟨ha i ys σ H hi p, ?_⟩
  by_cases hlt : i < n
  · obtain ⟨go, st⟩ := hs i ys σ H hlt p
    refine .inr ⟨go, fun x H' y => mg _ _ _ _ _ (fun σ2 H2 q => mt _ _ _ _ (fun b H3 q => ?_) q) (st x H' y)⟩
    cases b with
    | true =>
      rw [if_pos rfl] at q ⊢
      exact me _ _ _ _ (fun v H4 ⟨q1, q2, q3⟩ => ⟨q1, q2, n - (i + 1), by omega, rfl, hlt, q3⟩) q
    | false =>
      rw [if_neg Bool.false_ne_true] at q ⊢
      exact ⟨n - (i + 1), by omega, rfl, hlt, q⟩
  · have e : i = n := by omega
    subst e
    exact .inl (hd ys σ H p)
end L2

set_option autoImplicit false
set_option linter.all false
set_option maxHeartbeats 4000000
namespace L2
open PySem PySem.Spec PyProof.Rows
/-- != of two lists of ints -/
def rNeL (K : PySem.W.Frag) : R2 := fun x y H Q => ∃ (a b : Addr) (ns ms : List Int), x = .ref a ∧ y = .ref b ∧ SqL K H a (ns.map V.int) ∧ SqL K H b (ms.map V.int) ∧ Q (.bl (!decide (ns = ms))) H
theorem op_neL {X : Cx} (hu : X.A.units + 64 < cLine) : OpR X (compareOp .NotEq) (rNeL X.K) := by
  intro pins s σ H x y v u Q I rx ry h
  obtain ⟨a, b, ns, ms, rfl, rfl, ha, hb, q⟩ := h
  cases rx
  cases ry
  obtain ⟨its, r1, p1, _⟩ := I.list ha
  obtain ⟨its2, r2, p2, _⟩ := I.list hb
  exact PySem.W.ke_ne_ints p1.isList p2.isList (intsAre_of r1) (intsAre_of r2) hu ⟨.bl _, H, I, rfl, q⟩
end L2

set_option autoImplicit false
set_option linter.all false
set_option Elab.async false
set_option maxRecDepth 100000
set_option maxHeartbeats 4000000
namespace TS
open PySem PySem.W PyProof.Rows
section
variable {prog : Program} {w : World} {A : Around} {E : Value → Shared → Prop} {s : Shared}
theorem map_snd_perm {vs : List Value} {xs : Array Keyed} (h : xs.Perm (pairsOf vs)) : (xs.map (·.2)).toList.Perm vs := by
  have p := (Array.perm_iff_toList_perm.mp h).map (·.2)
  rw [pairsOf_toList] at p
  have e : (vs.zip vs).map (·.2) = vs := List.map_snd_zip (Nat.le_refl _)
  rw [e] at p
  simpa using p
/-- list.sort, whatever the list's length: what stands in it stays in it -/
theorem sort_in {a : Addr} {vs : List Value} {n : Nat} {R : PySem.Fin → Shared → Prop} (ho : s.heap.get? a = some (seqObj "list" vs.toArray n)) (hz : vs.length ≤ sizeLine)
    (hk : ∀ h6 : Heap, (∀ b o, b ≠ a → s.heap.get? b = some o → h6.get? b = some o) → 2 ≤ vs.length → wpAny (model prog w) A (keyKind' vs.toArray) (fun k s' => s' = { s with heap := h6 } ∧ Asks prog w A s' k (pairsOf vs)) E { s with heap := h6 })
    (h : ∀ out : List Value, out.Perm vs → R (.done (.ret .none)) { s with heap := sortedHeap s.heap a vs out.toArray }) : wpAny (model prog w) A (Builtin.«list.sort» ⟨[.ref a], []⟩) R E s := by
  have la : a < s.heap.objs.size := Heap.lt_size ho
  have zs : vs.toArray.size ≤ sizeLine := by simpa using hz
  rw [list_sort_plain]
  refine wpAny_bind (listItems_at ho rfl (wpAny_bind (listUpdate_at ho rfl ?_ zs (Nat.zero_le _))))
  have g1 := get?_update_seq ho (fun _ => #[])
  generalize hh1 : s.heap.update a (Obj.mapSeq fun _ => #[]) = h1 at g1
  have z1 : h1.objs.size = s.heap.objs.size := by rw [← hh1, Heap.size_update]
  have o1 : ∀ b o, b ≠ a → s.heap.get? b = some o → h1.get? b = some o := fun b o hb e => by rw [← hh1, Heap.get?_update_ne _ _ _ _ hb]; exact e
  refine wpAny_bind (seqEpoch_at g1 rfl (wpAny_bind (wpAny_newTuple (wpAny_bind (wpAny_newList (wpAny_holding ?_))) (by simpa using hz))))
  generalize hh6 : (h1.push (seqObj "tuple" vs.toArray 0)).push (seqObj "list" #[] 0) = h6
  have old6 : ∀ b o, h1.get? b = some o → h6.get? b = some o := fun b o e => by rw [← hh6]; exact Heap.get?_push_of_some _ (Heap.get?_push_of_some _ e)
  have g6 := old6 _ _ g1
  have fin : ∀ st' : SortSt, (arrOf st').Perm (pairsOf vs) → R (.done (.ret .none)) { s with heap := h6.update a (Obj.mapSeq fun _ => (arrOf st').map (·.2)) } := fun st' hp => by
    have q := h _ (map_snd_perm hp)
    unfold sortedHeap at q
    rw [hh1, hh6, Array.toArray_toList] at q
    exact q
  have szp : ∀ st' : SortSt, (arrOf st').Perm (pairsOf vs) → ((arrOf st').map (·.2)).size ≤ sizeLine + 1 := fun st' hp => by
    rw [Array.size_map, hp.size_eq, pairsOf_size]; omega
  by_cases h2 : vs.toArray.size < 2
  · rw [if_pos h2, if_pos h2]
    refine wpAny_bind (wpAny_pure ?_)
    dsimp only
    rw [StateT.run_pure]
    refine wpAny_bind (wpAny_pure (wpAny_bind (seqEpoch_at g6 rfl ?_)))
    refine wpAny_bind (listUpdate_at g6 rfl ?_ (Nat.zero_le _) (szp (SortSt.mk' general' (pairsOf vs) #[] 7 none) (Array.Perm.refl _)))
    simp only [bne_self_eq_false, Bool.false_eq_true, if_false]
    exact wpAny_pure (fin (SortSt.mk' general' (pairsOf vs) #[] 7 none) (Array.Perm.refl _))
  · rw [if_neg h2, if_neg h2]
    refine wpAny_bind (wpAny_mono (hk h6 (fun b o hb e => old6 b o (o1 b o hb e)) (by simpa using h2)) (fun k s7 ⟨e7, ask⟩ => ?_) fun _ _ e => e)
    subst e7
    refine wpAny_bind (wpAny_mono (sortRuns_ok (st := SortSt.mk' k (vs.toArray.zip vs.toArray) #[] 7 none) (Q := fun _ st' => SB (pairsOf vs) k st') ask ⟨Array.Perm.refl _, rfl, rfl⟩ rfl fun st' b => b) ?_ fun _ _ e => e)
    rintro ⟨⟨⟩, st'⟩ s8 ⟨e8, B⟩
    subst e8
    dsimp only
    refine wpAny_bind (seqEpoch_at g6 rfl (wpAny_bind (listUpdate_at g6 rfl ?_ (Nat.zero_le _) (szp st' B.perm))))
    rw [B.failed]
    simp only [bne_self_eq_false, Bool.false_eq_true, if_false]
    exact wpAny_pure (fin st' B.perm)
/-- sorted of a list -/
theorem sorted_in {l : Addr} {vs : List Value} {Q : Value → Shared → Prop} (hl : s.heap.IsList l vs.toArray) (hz : vs.length ≤ sizeLine)
    (hk : ∀ h6 : Heap, (∀ b o, s.heap.get? b = some o → h6.get? b = some o) → 2 ≤ vs.length → ∀ E', wpAny (model prog w) A.in1.in1 (keyKind' vs.toArray) (fun k s' => s' = { s with heap := h6 } ∧ Asks prog w A.in1.in1 s' k (pairsOf vs)) E' { s with heap := h6 })
    (h : ∀ out : List Value, out.Perm vs → Q (.ref (s.heap.objs.size + 1)) { s with heap := sortedAll s.heap vs out.toArray }) : wpAny (model prog w) A (call (.builtin "sorted") [.ref l]) Q E s := by
  refine Calls.call_function_entry kind_sorted plain_sorted entry_sorted (args_sorted1 _) ?_
  unfold Builtin.«sorted»
  refine wpAny_bind (m := checkCount "sorted" 1 1 _) (wpAny_pure (wpAny_bind (collect_list hl (wpAny_bind (wpAny_newList ?_ hz)) hz)))
  have old : ∀ b o, s.heap.get? b = some o → ((s.heap.push (seqObj "list" #[] 0)).update s.heap.objs.size (Obj.mapSeq (· ++ vs.toArray))).get? b = some o := fun b o e => by
    rw [Heap.get?_update_ne _ _ _ _ (Nat.ne_of_lt (Heap.lt_size e))]; exact Heap.get?_push_of_some _ e
  have z2 : ((s.heap.push (seqObj "list" #[] 0)).update s.heap.objs.size (Obj.mapSeq (· ++ vs.toArray))).objs.size = s.heap.objs.size + 1 := by rw [Heap.size_update, size_push']
  generalize hh2 : (s.heap.push (seqObj "list" #[] 0)).update s.heap.objs.size (Obj.mapSeq (· ++ vs.toArray)) = h2 at old z2
  have gL : (h2.push (seqObj "list" vs.toArray 0)).get? h2.objs.size = some (seqObj "list" vs.toArray 0) := Heap.get?_push_size _ rfl
  show wpAny _ _ _ _ _ { s with heap := h2.push (seqObj "list" vs.toArray 0) }
  refine wpAny_bind (wpAny_holding (wpAny_call_entry slot_list_sort ⟨_, gL, rfl⟩ entry_list_sort (sort_in gL hz (fun h6 o6 h2' => ?_) fun out ho => ⟨_, rfl, ?_⟩) (args_list_sort _)))
  · exact hk h6 (fun b o e => o6 b o (by rw [z2]; exact Nat.ne_of_lt (Nat.lt_succ_of_lt (Heap.lt_size e))) (Heap.get?_push_of_some _ (old b o e))) h2' _
  · have q := h out ho
    unfold sortedAll at q
    rw [hh2, ← z2] at q
    exact wpAny_pure ⟨_, rfl, q⟩

theorem lex_any {b fin : Bool} {Q : Bool → Shared → Prop} (hq : ∀ c, Q c s) : ∀ {vs ws : List Value} {ns ms : List Int} (i : Nat), IntsAre vs ns → IntsAre ws ms → KatLex prog w A b fin Q (vs.zip ws) i s
  | _, _, _, _, i, .nil, _ => by rw [List.zip_nil_left]; exact kat_nil (hq _)
  | _, _, _, _, i, .cons _ _ _, .nil => by rw [List.zip_nil_right]; exact kat_nil (hq _)
  | _, _, _, _, i, .cons a t r, .cons c u r' => by
    rw [List.zip_cons_cons]
    refine kat_cons (wpAny_eqBool_int (kat_go (fun _ => kat_yes (lex_any hq (i + 1) r r')) fun _ => kat_no ?_))
    cases hb : (b && i == 0) with
    | true => exact oneLt_int (hq _)
    | false => exact kat_one _ _ (lt_int (hq _))
end
end TS
namespace L2
open PySem PySem.Spec PyProof.Rows
theorem Vals.perm {us ws : List Value} (p : ws.Perm us) : ∀ {xs : List V}, Vals xs us → ∃ ys, ys.Perm xs ∧ Vals ys ws := by
  induction p with
  | nil => intro xs r; cases r; exact ⟨[], List.Perm.refl _, .nil⟩
  | cons a _ ih =>
    intro xs r
    cases r with
    | cons h t =>
      obtain ⟨ys, q, r'⟩ := ih t
      exact ⟨_ :: ys, q.cons _, .cons h r'⟩
  | swap a b l =>
    intro xs r
    cases r with
    | cons h t =>
      cases t with
      | cons h' t' => exact ⟨_ :: _ :: _, List.Perm.swap _ _ _, .cons h' (.cons h t')⟩
  | trans _ _ ih1 ih2 =>
    intro xs r
    obtain ⟨ys, q, r'⟩ := ih2 r
    obtain ⟨zs, q', r''⟩ := ih1 r'
    exact ⟨zs, q'.trans q, r''⟩
/-- a tuple of one int or more -/
def IntTup (H : Hp) (y : V) : Prop := ∃ (p : Addr) (n : Int) (ns : List Int), y = .ref p ∧ H p = some (.tup ((n :: ns).map V.int))
theorem tups_of {X : Cx} {pins : List (Addr × Obj)} {σ : St} {H : Hp} {s : Shared} (I : Inv X pins σ H s) : ∀ {ys : List V} {us : List Value}, Vals ys us → (∀ y ∈ ys, IntTup H y) →
    ∃ fs : List Value, fs.length = us.length ∧ PySem.W.KatTups s.heap us fs ∧ (∀ v ∈ fs, ∃ n t, v = .int n t) ∧ ∀ u ∈ us, ∃ (p : Addr) (its : List Value) (ns : List Int), u = .ref p ∧ IsTup s.heap p its.toArray ∧ IntsAre its ns
  | _, _, .nil, _ => ⟨[], rfl, PySem.W.KatTups.nil, (fun v hv => nomatch hv), (fun u hu => nomatch hu)⟩
  | _, _, .cons r t, h => by
    obtain ⟨fs, e1, e2, e3, e4⟩ := tups_of I t fun y hy => h y (List.mem_cons_of_mem _ hy)
    obtain ⟨p, n, ns, ey, hp⟩ := h _ List.mem_cons_self
    subst ey
    cases r
    obtain ⟨its, rv, tp, _⟩ := I.tuple (SqT.of (K := X.K) hp)
    have hi : IntsAre its (n :: ns) := intsAre_of rv
    have hi0 := hi
    cases hi with
    | cons _ tk r' =>
      obtain ⟨o, ho, hc, k, hd⟩ := id tp
      refine ⟨.int n tk :: fs, by rw [List.length_cons, List.length_cons, e1], PySem.W.KatTups.cons ho hc hd (by simp) e2, fun v hv => ?_, fun u hu => ?_⟩
      · rcases List.mem_cons.mp hv with rfl | hv
        · exact ⟨_, _, rfl⟩
        · exact e3 v hv
      · rcases List.mem_cons.mp hu with rfl | hu
        · exact ⟨p, _, n :: ns, rfl, tp, hi0⟩
        · exact e4 u hu
theorem tups_keep {h h' : Heap} (k : ∀ b o, h.get? b = some o → h'.get? b = some o) : ∀ {us fs : List Value}, PySem.W.KatTups h us fs → PySem.W.KatTups h' us fs
  | [], [], _ => PySem.W.KatTups.nil
  | [], _ :: _, t => t.elim
  | _ :: _, [], t => t.elim
  | _ :: _, _ :: _, t => by
    obtain ⟨⟨a, o, xs, n, e, ho, r⟩, t⟩ := t
    exact ⟨⟨a, o, xs, n, e, k _ _ ho, r⟩, tups_keep k t⟩
/-- sorted of a list of tuples of ints: a new list of the same things -/
theorem call_sorted {X : Cx} : CallR X (.builtin "sorted") (fun xs H Q => ∃ l ys, xs = [.ref l] ∧ H l = some (.lst ys) ∧ (∀ y ∈ ys, IntTup H y) ∧ ∀ (zs : List V) (q : Addr), zs.Perm ys → H q = none → Q (.ref q) (upd H q (.lst zs))) := by
  intro pins s σ H xs us Q I r h
  obtain ⟨l, ys, rfl, hl, ht, q⟩ := h
  obtain ⟨u, rfl, ru⟩ := vals1 r
  cases ru
  obtain ⟨z, its, n, rv, hlen, e⟩ := I.lstM hl
  obtain ⟨fs, f1, f2, f3, f4⟩ := tups_of I rv ht
  refine TS.sorted_in ⟨_, e, rfl, n, rfl⟩ (by rw [← hlen]; exact z) (fun h6 o6 h2 E' => ?_) fun out ho => ?_
  · refine PySem.W.kat_kind (T := .type "int") (tups_keep o6 f2) (by rw [f1]; omega) (fun v hv => ?_) (by decide) ⟨rfl, fun x y hx hy Q' E2 hq => ?_⟩
    · obtain ⟨n, t, rfl⟩ := f3 v hv
      exact PySem.W.Looks.now
    · have mem : ∀ x : Keyed, x ∈ pairsOf its → x.1 ∈ its := fun x hx => by
        have : x ∈ its.zip its := by rw [← pairsOf_toList]; exact Array.mem_toList_iff.mpr hx
        exact (List.of_mem_zip this).1
      obtain ⟨p1, i1, n1, e1, t1, j1⟩ := f4 _ (mem x hx)
      obtain ⟨p2, i2, n2, e2, t2, j2⟩ := f4 _ (mem y hy)
      obtain ⟨o1, ho1, hc1, k1, hd1⟩ := t1
      obtain ⟨o2, ho2, hc2, k2, hd2⟩ := t2
      rw [e1, e2]
      exact PySem.W.kat_lt (o6 _ _ ho1) hd1 (o6 _ _ ho2) hd2 (TS.lex_any hq 0 j1 j2)
  · obtain ⟨zs, p, rz⟩ := Vals.perm ho rv
    obtain ⟨e', hat⟩ := sortedAll_at s.heap its out.toArray
    have hf : H (s.heap.objs.size + 1) = none := I.hok.fresh (Nat.le_succ _)
    refine ⟨.ref (s.heap.objs.size + 1), _, I.laid (t' := s.toks) (o := .lst zs) (fun b o hb => sortedAll_old hb) (Nat.le_succ _) ⟨?_, out, e', rz, hat⟩, rfl, q zs _ p hf⟩
    rw [p.length_eq]; exact z
end L2

set_option autoImplicit false
set_option linter.all false
set_option Elab.async false
set_option maxRecDepth 100000
set_option maxHeartbeats 4000000
namespace L2
open PySem PySem.Spec PyProof.Rows
section
variable {prog : Program} {w : World} {A : Around} {E : Value → Shared → Prop} {s : Shared}
/-- a dict as an object: its entries, its epoch -/
structure RawD (h : Heap) (d : Addr) (es : Array DictEntry) (ep : Nat) : Prop where
  ex : ∃ o, h.get? d = some o ∧ o.ExactDict ∧ o.data = .dict es ep
  ns : (d == sysModules) = false
theorem RawD.ty {d : Addr} {es : Array DictEntry} {ep : Nat} (r : RawD s.heap d es ep) : s.TypeIs (.ref d) "dict" := let ⟨o, h1, h2, _⟩ := r.ex; ⟨o, h1, h2.1⟩
theorem raw_len {d : Addr} {es : Array DictEntry} {ep : Nat} {Q : Value → Shared → Prop} (r : RawD s.heap d es ep) (hf : (es.size : Int) < 2 ^ 63) (h : ∀ t tk, Q (.int es.size t) { s with toks := tk }) :
    wpAny (model prog w) A (call (.builtin "len") [.ref d]) Q E s := by
  obtain ⟨o, ho, hc, hd⟩ := r.ex
  refine Calls.call_function_entry kind_len plain_len entry_len (args_len1 _) ?_
  unfold Builtin.«len»
  refine wpAny_bind (m := oneArg "len" _) (wpAny_pure ?_)
  refine wpAny_bind (m := callSpecial? (.ref d) (Str.ofString "__len__")) (wpAny_callSpecial?_slot (name := Str.ofString "__len__") r.ty F.slot_dict_len (wpAny_call_entry F.slot_dict_len r.ty F.entry_dict_len ?_ (F.args_dict_len_1 _)))
  show wpAny _ _ (dictSize d >>= _) _ _ s
  unfold dictSize
  refine wpAny_bind (wpAny_bind (wpAny_dictEntries ho hd (wpAny_pure ?_)))
  show wpAny _ _ (Builtin.Dict.pendingCount d >>= _) _ _ s
  refine wpAny_bind (wpAny_pendingCount_other r.ns ?_)
  refine wpAny_bind (wpAny_mkInt (wpAny_pure ⟨_, rfl, ?_⟩))
  refine wpAny_bind (wpAny_holding (wpAny_pure (wpAny_bind (wpAny_letGo ?_))))
  show wpAny _ _ (if ((es.size : Int) + ((0 : Nat) : Int)) < 0 then _ else _) _ _ _
  rw [if_neg (by omega)]
  show wpAny _ _ (if ((es.size : Int) + ((0 : Nat) : Int)) ≥ 2 ^ 63 then _ else _) _ _ _
  rw [if_neg (by omega)]
  have e0 : ((es.size : Int) + ((0 : Nat) : Int)) = (es.size : Int) := by simp
  show wpAny _ _ (retInt ((es.size : Int) + ((0 : Nat) : Int))) _ _ _
  rw [e0]
  exact wpAny_bind (wpAny_mkInt (wpAny_pure ⟨_, rfl, h _ _⟩))
theorem raw_iter {d : Addr} {es : Array DictEntry} {ep : Nat} {Q : Value → Shared → Prop} (r : RawD s.heap d es ep)
    (h : ∀ h', (∀ b o, s.heap.get? b = some o → h'.get? b = some o) → h'.IsKeyIter s.heap.objs.size d 0 es.size ep → Q (.ref s.heap.objs.size) { s with heap := h' }) : wpAny (model prog w) A (pyIter (.ref d)) Q E s := by
  obtain ⟨o, ho, hc, hd⟩ := r.ex
  refine wpAny_pyIter_slot r.ty F.slot_dict_iter (wpAny_call_entry F.slot_dict_iter r.ty F.entry_dict_iter ?_ (F.args_dict_iter_1 _))
  unfold Builtin.«dict.__iter__» Builtin.Dict.dictSlotNone
  refine wpAny_bind (wpAny_bind (wpAny_notOrdered_dict r.ty (wpAny_pure ?_)))
  unfold Builtin.Dict.showsAll
  show wpAny _ _ ((if _ then _ else _) >>= _) _ _ s
  rw [if_neg (by rw [r.ns]; exact Bool.false_ne_true)]
  refine wpAny_bind (wpAny_pure (wpAny_bind (wpAny_dictEntries ho hd (wpAny_bind (wpAny_dictEpoch ho hd ?_)))))
  refine wpAny_bind (wpAny_newObj_type (wpAny_pure ⟨_, rfl, "dict_keyiterator", _, ⟨_, Heap.get?_push_size _ rfl, rfl⟩, F.slot_dict_keyiterator_next.lookup, ?_⟩))
  exact h _ (fun b o e => Heap.get?_push_of_some _ e) ⟨_, Heap.get?_push_size _ rfl, rfl, by simp [rawInt]⟩
theorem raw_item {it d : Addr} {i ep : Nat} {es : Array DictEntry} {Q : Option Value → Shared → Prop} (k : s.heap.IsKeyIter it d i es.size ep) (r : RawD s.heap d es ep) (hi : i < es.size)
    (h : ∀ h', h'.IsKeyIter it d (i + 1) es.size ep → Heap.SameBut it s.heap h' → Q (some es[i].key) { s with heap := h' }) : wpAny (model prog w) A (pyNext (.ref it)) Q E s := by
  obtain ⟨oi, hoi, hci, hdi⟩ := id k
  obtain ⟨o, ho, hc, hd⟩ := r.ex
  unfold pyNext
  refine wpAny_bind (wpAny_attempt (wpAny_callSpecial?_slot (name := Str.ofString "__next__") k.typeIs F.slot_dict_keyiterator_next (wpAny_call_entry F.slot_dict_keyiterator_next k.typeIs F.entry_dict_keyiterator_next ?_ (F.args_dict_keyiterator_next_1 _))))
  refine wpAny_bind (wpAny_pure (wpAny_bind (wpAny_bind ?_)))
  first
    | refine wpAny_bind (wpAny_typeNameOfWhole_keyiter k.typeIs (wpAny_pure (wpAny_bind (wpAny_fieldsOf hoi hdi ?_))))
    | refine wpAny_bind (wpAny_typeNameOf_keyiter k.typeIs (wpAny_pure (wpAny_bind (wpAny_fieldsOf hoi hdi ?_))))
  simp only [show Builtin.Dict_items.ownsTuple "dict_keyiterator" = false by decide, Bool.false_eq_true, if_false]
  show wpAny _ _ (if (Value.ref d == Value.none) = true then _ else _) _ _ s
  rw [if_neg (show ¬ ((Value.ref d == Value.none) = true) from Bool.false_ne_true)]
  refine wpAny_bind (wpAny_pure (wpAny_bind (wpAny_dictEntries ho hd ?_)))
  rw [if_neg (by simp)]
  refine wpAny_bind (wpAny_pure (wpAny_bind (wpAny_dictEpoch ho hd ?_)))
  rw [if_neg (by simp)]
  refine wpAny_pure ?_
  simp only [show ¬ ((i : Int) < 0) from by omega, if_false, Int.toNat_natCast, Array.getElem?_eq_getElem hi]
  refine wpAny_bind ?_
  first
    | refine wpAny_bind (wpAny_typeNameOfWhole_keyiter k.typeIs (wpAny_pure (wpAny_bind (wpAny_isOneOf_keyiter k.typeIs ?_))))
    | refine wpAny_bind (wpAny_typeNameOf_keyiter k.typeIs (wpAny_pure (wpAny_bind (wpAny_isOneOf_keyiter k.typeIs ?_))))
  show wpAny _ _ (setField (.ref it) 1 (rawInt ((i : Int) + 1)) >>= _) _ _ s
  refine wpAny_bind (wpAny_setField hoi hdi (by simp) ?_)
  have k' : (s.heap.update it (Obj.mapFields (·.setIfInBounds 1 (rawInt ((i : Int) + 1))))).IsKeyIter it d (i + 1) es.size ep :=
    ⟨_, Heap.get?_update_self _ hoi (Obj.isFreed_of_fields (Obj.data_mapFields hdi _)), (Obj.cls_mapFields ..).trans hci, by rw [Obj.data_mapFields hdi]; simp [rawInt]⟩
  refine wpAny_bind (wpAny_holding (wpAny_bind (wpAny_isOneOf_keyiter (s := { s with heap := s.heap.update it (Obj.mapFields (·.setIfInBounds 1 (rawInt ((i : Int) + 1)))) }) k'.typeIs ?_)))
  show wpAny _ _ (pure es[i].key) _ _ _
  exact wpAny_pure (wpAny_pure ⟨_, rfl, wpAny_pure (h _ k' (Heap.SameBut.update ..))⟩)
theorem raw_end {it d : Addr} {i ep : Nat} {es : Array DictEntry} {Q : Option Value → Shared → Prop} (hh : A.handled = none) (k : s.heap.IsKeyIter it d i es.size ep) (r : RawD s.heap d es ep) (hi : es.size ≤ i)
    (h : ∀ h', Heap.ExtBut it s.heap h' → Q none { s with heap := h' }) : wpAny (model prog w) A (pyNext (.ref it)) Q E s := by
  obtain ⟨oi, hoi, hci, hdi⟩ := id k
  obtain ⟨o, ho, hc, hd⟩ := r.ex
  unfold pyNext
  refine wpAny_bind (wpAny_attempt (wpAny_callSpecial?_slot (name := Str.ofString "__next__") k.typeIs F.slot_dict_keyiterator_next (wpAny_call_entry F.slot_dict_keyiterator_next k.typeIs F.entry_dict_keyiterator_next ?_ (F.args_dict_keyiterator_next_1 _))))
  refine wpAny_bind (wpAny_pure (wpAny_bind (wpAny_bind ?_)))
  first
    | refine wpAny_bind (wpAny_typeNameOfWhole_keyiter k.typeIs (wpAny_pure (wpAny_bind (wpAny_fieldsOf hoi hdi ?_))))
    | refine wpAny_bind (wpAny_typeNameOf_keyiter k.typeIs (wpAny_pure (wpAny_bind (wpAny_fieldsOf hoi hdi ?_))))
  simp only [show Builtin.Dict_items.ownsTuple "dict_keyiterator" = false by decide, Bool.false_eq_true, if_false]
  show wpAny _ _ (if (Value.ref d == Value.none) = true then _ else _) _ _ s
  rw [if_neg (show ¬ ((Value.ref d == Value.none) = true) from Bool.false_ne_true)]
  refine wpAny_bind (wpAny_pure (wpAny_bind (wpAny_dictEntries ho hd ?_)))
  rw [if_neg (by simp)]
  refine wpAny_bind (wpAny_pure (wpAny_bind (wpAny_dictEpoch ho hd ?_)))
  rw [if_neg (by simp)]
  refine wpAny_pure ?_
  simp only [show ¬ ((i : Int) < 0) from by omega, if_false, Int.toNat_natCast, Array.getElem?_eq_none hi]
  refine wpAny_bind ?_
  first
    | refine wpAny_bind (wpAny_typeNameOfWhole_keyiter k.typeIs (wpAny_pure ?_))
    | refine wpAny_bind (wpAny_typeNameOf_keyiter k.typeIs (wpAny_pure ?_))
  show wpAny _ _ (setField (.ref it) 0 .none >>= _) _ _ s
  refine wpAny_bind (wpAny_setField hoi hdi (by simp) ?_)
  show wpAny _ _ (newExc (.type "StopIteration") [] >>= _) _ _ _
  refine wpAny_bind ?_
  simp only [newExc, newTuple]
  refine wpAny_bind (wpAny_newObj_type ?_ (by size_fits))
  refine wpAny_bind (m := firstArgMember _ _) (wpAny_of_eq (a := Value.none) (by first | rfl | (simp only [firstArgMember]; rfl)) (wpAny_newObj_type ?_ (by size_fits)))
  simp only [raiseNew]
  refine wpAny_bind (wpAny_handled ?_)
  rw [show A.in1.handled = none from hh]
  refine wpAny_bind (wpAny_pure (wpAny_throw ?_))
  refine wpAny_bind (wpAny_isInstance (T := "StopIteration") (b := true) ⟨_, Heap.get?_push_size _ rfl, rfl⟩ isSubtype_stop ?_)
  exact wpAny_pure (h _ (((Heap.SameBut.update ..).extBut.push _).push _))
end
/-- len of a dict with tuples as keys -/
theorem raw_of {P : Program} {w : World} {H : Hp} {h : Heap} {a : Addr} {kvs : List (List Key × V)} (x : ObjOk P w H h a (.dT kvs)) : ∃ es ep, RawD h a es ep ∧ es.size = kvs.length ∧ kvs.length ≤ sizeLine ∧
    ∀ (i : Nat) (hi : i < es.size), ∃ (p : Addr) (k : List Key), es[i].key = .ref p ∧ (kvs.map (·.1))[i]? = some k ∧ H p = some (.tup (k.map kV)) := by
  obtain ⟨z, y, xs, r, o, es, ep, h1, h2, h3, h4, h5⟩ := x
  have hl : es.size = xs.length := by
    have := congrArg List.length h4
    simpa using this
  have hl2 : kvs.length = xs.length := Paired.length r
  refine ⟨es, ep, ⟨⟨o, h1, h2, h3⟩, y⟩, by omega, z, fun i hi => ?_⟩
  have key : ∀ {l : List (List Key × V)} {m : List (List Key × Addr × Value)}, Paired (fun (p : List Key × V) (q : List Key × Addr × Value) => p.1 = q.1 ∧ H q.2.1 = some (.tup (p.1.map kV)) ∧ RelV p.2 q.2.2) l m →
      ∀ (i : Nat) q, m[i]? = some q → ∃ k, (l.map (·.1))[i]? = some k ∧ H q.2.1 = some (.tup (k.map kV)) := by
    intro l m q
    induction q with
    | nil => intro i q e; simp at e
    | @cons p q ps qs hq t ih =>
      intro i z e
      cases i with
      | zero => simp at e; subst e; exact ⟨p.1, by simp, hq.2.1⟩
      | succ i => obtain ⟨k, e1, e2⟩ := ih i z (by simpa using e); exact ⟨k, by simpa using e1, e2⟩
  have hi' : i < xs.length := by omega
  obtain ⟨k, e1, e2⟩ := key r i xs[i] (by simp [hi'])
  have e3 : es[i] = entryOfKey (tupleKind (mixKind P w)) xs[i] := by
    have q : es.toList[i]? = some es[i] := by simp [hi]
    rw [h4] at q
    simp [hi'] at q
    exact q.symm
  exact ⟨xs[i].2.1, k, by rw [e3]; rfl, e1, e2⟩
section
variable {X : Cx}
theorem call_lenT : CallR X (.builtin "len") (fun xs H Q => ∃ a kvs, xs = [V.ref a] ∧ H a = some (.dT kvs) ∧ Q (.int kvs.length) H) := by
  intro pins s σ H xs us Q I r h
  obtain ⟨a, kvs, rfl, ha, q⟩ := h
  obtain ⟨u, rfl, ru⟩ := vals1 r
  cases ru
  obtain ⟨es, ep, rw', e1, e2, _⟩ := raw_of (I.hok a _ ha)
  have := line63
  refine raw_len rw' (by rw [sizeLine_eq] at e2; omega) fun t tk => ⟨.int kvs.length, H, I.tok tk, ⟨t, by rw [e1]⟩, q⟩
/-- the keys of a dict that is known to the object -/
def Itk (d : Addr) (o : Obj) (kvs : List (List Key × V)) : It :=
  ⟨fun i H => i < kvs.length ∧ H d = some (.frz o (.dT kvs)), fun i H x H' => H' = H ∧ ∃ p k, x = .ref p ∧ (kvs.map (·.1))[i]? = some k ∧ H p = some (.tup (k.map kV)), fun i H => kvs.length ≤ i ∧ H d = some (.frz o (.dT kvs))⟩
theorem turn_keys {P : Program} {w : World} {K : PySem.W.Frag} {tg : Expr} (d it : Addr) (o : Obj) (kvs : List (List Key × V)) (es : Array DictEntry) (ep : Nat) (hd : o.data = .dict es ep) (hz : es.size = kvs.length) :
    Turn P w K tg (Itk d o kvs) [it] it (fun i h => h.IsKeyIter it d i es.size ep) where
  mem := by simp
  obj := fun i h st b hb => by
    have e : b = it := by simpa using hb
    subst e
    obtain ⟨o, e, c, d⟩ := st
    exact ⟨o, e, fun v z => by rw [d] at z; cases z⟩
  keep := fun i h h' st k => let ⟨o, e, r⟩ := st; ⟨o, k it (by simp) o e, r⟩
  item := by
    intro X hP hw hK hc i pins s σ H E I hf st hg
    subst hP hw hK
    obtain ⟨hi, hk⟩ := hg
    obtain ⟨ho, hx⟩ := I.hok d _ hk
    obtain ⟨es', ep', rw', e1, e2, e3⟩ := raw_of hx
    obtain ⟨o', q1, q2, q3⟩ := rw'.ex
    rw [ho] at q1; cases q1
    rw [hd] at q3; injection q3 with q4 q5
    subst q4; subst q5
    obtain ⟨f0, f1, f2, f3, f4, f5⟩ := hf it (by simp)
    refine raw_item st rw' (by omega) fun h' st' sb => ?_
    obtain ⟨p, k, p1, p2, p3⟩ := e3 i (by omega)
    have I1 : Inv X pins σ H { s with heap := h' } := I.turned (t' := s.toks) (fun b ob hb e => (sb.2 b hb).trans e) f0 f1 f3 f4 f5
    obtain ⟨oi, e, c, dd⟩ := id st'
    refine ⟨_, rfl, go_of (s := { s with heap := h' }) e c dd (by decide) ⟨.ref p, H, I1, p1, ⟨rfl, p, k, rfl, p2, p3⟩, st', fun b hb => (hf b hb).1⟩⟩
  done := by
    intro X hP hw hK hc i pins s σ H E I hf st hg
    subst hP hw hK
    obtain ⟨hi, hk⟩ := hg
    obtain ⟨ho, hx⟩ := I.hok d _ hk
    obtain ⟨es', ep', rw', e1, e2, e3⟩ := raw_of hx
    obtain ⟨o', q1, q2, q3⟩ := rw'.ex
    rw [ho] at q1; cases q1
    rw [hd] at q3; injection q3 with q4 q5
    subst q4; subst q5
    obtain ⟨f0, f1, f2, f3, f4, f5⟩ := hf it (by simp)
    exact raw_end (I.ok.hd hc) st rw' (by omega) fun h' eb => ⟨rfl, I.turned (t' := s.toks) (fun b ob hb e => eb b ob hb e) f0 f1 f3 f4 f5⟩
  self := fun _ _ _ _ _ st h => wpAny_pyIter_keyiter st h
theorem Inv.freeze {pins : List (Addr × Obj)} {σ : St} {H : Hp} {s : Shared} {a : Addr} {kvs : List (List Key × V)} (I : Inv X pins σ H s) (ha : H a = some (.dT kvs)) :
    ∃ o, s.heap.get? a = some o ∧ Inv X pins σ (upd H a (.frz o (.dT kvs))) s := by
  have x := I.hok a _ ha
  obtain ⟨es, ep, ⟨⟨o, h1, h2, h3⟩, _⟩, _⟩ := raw_of x
  have kt : ∀ b ys, H b = some (.tup ys) → b ≠ a := fun b ys e z => by rw [z, ha] at e; cases e
  have ko : ∀ b y, H b = some (.own y) → b ≠ a := fun b y e z => by rw [z, ha] at e; cases e
  have kf : ∀ b ob u, H b = some (.frz ob u) → b ≠ a := fun b ob u e z => by rw [z, ha] at e; cases e
  have kb : ∀ b ps, H b = some (.tbl ps) → b ≠ a := fun b ps e z => by rw [z, ha] at e; cases e
  have kn : ∀ b, H b = none → b ≠ a := fun b e z => by rw [z, ha] at e; cases e
  refine ⟨o, h1, I.un (t' := s.toks) (h' := s.heap) ⟨fun b ob e _ _ _ => e, fun b ob e _ _ _ => ⟨ob.slots, e⟩, fun b ob e n _ => by rw [upd_ne (kn b n)]; exact n, fun b ob e _ => ⟨ob, e⟩, fun b ys e => by rw [upd_ne (kt b ys e)]; exact e, fun b ob u e => by rw [upd_ne (kf b ob u e)]; exact e, fun b ps e => ⟨#[], by rw [upd_ne (kb b ps e), e]; simp⟩⟩ fun b u e => ?_⟩
  by_cases hb : b = a
  · subst hb
    rw [upd_same] at e
    cases e
    exact ⟨h1, x.stay (fun c v _ q => q) (fun c q => by rw [upd_ne (ko c _ q)]; exact q) fun c ys q => by rw [upd_ne (kt c ys q)]; exact q⟩
  · rw [upd_ne hb] at e
    exact (I.hok b u e).stay (fun c v _ q => q) (fun c q => by rw [upd_ne (ko c _ q)]; exact q) fun c ys q => by rw [upd_ne (kt c ys q)]; exact q
def iKeys (tl : TE) : TI := fun σ H R => tl σ H fun x H1 => ∃ a kvs, x = .ref a ∧ H1 a = some (.dT kvs) ∧ ∀ o, R (Itk a o kvs) (upd H1 a (.frz o (.dT kvs)))
theorem pi_keys {tg l : Expr} {tl : TE} (hl : PE X l tl) : PI X tg l (iKeys tl) := by
  intro pins s σ H R I h
  refine thn (hl pins s σ H _ I h) fun v s1 ⟨x, H1, I1, r1, a, kvs, e, ha, q⟩ => ?_
  subst e
  cases r1
  obtain ⟨o, ho, I2⟩ := I1.freeze ha
  obtain ⟨es, ep, rw', e1, e2, e3⟩ := raw_of (I1.hok a _ ha)
  obtain ⟨o', q1, q2, q3⟩ := id rw'.ex
  rw [ho] at q1; cases q1
  refine raw_iter rw' fun h' k ki => ?_
  refine ⟨s1.heap.objs.size, [s1.heap.objs.size], _, _, _, rfl, I2.kept (t' := s1.toks) k, turn_keys a _ o kvs es ep q3 e1, ki, fun b hb => ?_, q o⟩
  have e : b = s1.heap.objs.size := by simpa using hb
  subst e
  exact I2.fpOk (Nat.le_refl _) (I2.hok.fresh (Nat.le_refl _))
/-- range(n), a thing by itself -/
theorem call_rng : CallR X (.type "range") (fun xs H Q => ∃ j : Int, xs = [.int j] ∧ ∀ p, H p = none → Q (.ref p) (upd H p (.rng 0 j))) := by
  intro pins s σ H xs us Q I r h
  obtain ⟨j, rfl, q⟩ := h
  obtain ⟨u, rfl, ru⟩ := vals1 r
  obtain ⟨t, rfl⟩ := ru
  exact call_range_1 ⟨.ref s.heap.objs.size, _, I.laid (o := .rng 0 j) (fun b o e => Heap.get?_push_of_some _ e) (Nat.le_refl _) ⟨_, _, _, Heap.get?_push_size _ rfl⟩, rfl, q _ I.fresh⟩
theorem vals_range : ∀ (n : Nat) (us : List Value), us.length = n → (∀ (i : Nat) v, us[i]? = some v → ∃ t, v = Value.int (i : Int) t) → Vals ((List.range n).map fun i : Nat => V.int (i : Int)) us := by
  intro n
  induction n with
  | zero => intro us hl _; have := List.length_eq_zero_iff.mp hl; subst this; exact .nil
  | succ n ih =>
    intro us hl h
    have e : us = us.take n ++ [us[n]'(by omega)] := by
      rw [← List.take_succ_eq_append_getElem (by omega), List.take_of_length_le (by omega)]
    rw [e, List.range_succ, List.map_append]
    refine Vals.append (ih _ (by rw [List.length_take]; omega) fun i v hv => ?_) (.cons ?_ .nil)
    · rw [List.getElem?_take] at hv
      split at hv
      · exact h i v hv
      · cases hv
    · obtain ⟨t, et⟩ := h n (us[n]'(by omega)) (by simp)
      exact ⟨t, et⟩
theorem call_list_rng (hc : X.calm = true) : CallR X (.type "list") (fun xs H Q => ∃ (p : Addr) (n : Nat), xs = [.ref p] ∧ H p = some (.rng 0 (n : Int)) ∧ n ≤ 1000 ∧ ∀ l, H l = none → Q (.ref l) (upd H l (.lst ((List.range n).map fun i : Nat => V.int (i : Int))))) := by
  intro pins s σ H xs us Q I r h
  obtain ⟨p, n, rfl, hp, hn, q⟩ := h
  obtain ⟨u, rfl, ru⟩ := vals1 r
  cases ru
  obtain ⟨t, u, v, e⟩ := (show ObjOk X.prog X.w H s.heap p (.rng 0 (n : Int)) from I.hok p _ hp)
  refine call_list_range (I.ok.hd hc) (show IsRange s.heap p 0 (n : Int) 1 t u v from e) (small_one (by decide) (by decide) (by omega) (by omega)) (n := n) (by rw [rangeSize_one]; first | omega | (split <;> omega)) (by omega) fun h' tk acc c k hS hI => ?_
  obtain ⟨hz, hi⟩ := hI
  have rv : Vals ((List.range n).map fun i : Nat => V.int (i : Int)) acc.toList := vals_range n _ (by simpa using hz) fun i v hv => by
    obtain ⟨t, et⟩ := hi i v (by rw [← Array.getElem?_toList]; exact hv)
    exact ⟨t, by rw [et]; simp⟩
  refine ⟨.ref s.heap.objs.size, _, I.laid (o := .lst ((List.range n).map fun i : Nat => V.int (i : Int))) k (Nat.le_refl _) ⟨?_, acc.toList, c, rv, by simpa using hS⟩, rfl, q _ I.fresh⟩
  rw [List.length_map, List.length_range, sizeLine_eq]
  omega
end
end L2

set_option autoImplicit false
set_option linter.all false
set_option Elab.async false
set_option maxRecDepth 100000
set_option maxHeartbeats 8000000
namespace L2
open PySem PySem.Spec PyProof.Rows
section
variable {prog : Program} {w : World} {A : Around} {E : Value → Shared → Prop} {s : Shared}
theorem any_alive {a : Addr} {Q : Option Obj → Shared → Prop} (h : Q (s.heap.get? a) s) : wpAny (model prog w) A (loadIfAlive a) Q E s := fun Γ p hΓ => by
  show Sem.wp _ Γ (.loadIfAlive a .pure) _ _ p s
  rw [Sem.wp_loadIfAlive]
  exact (wpAny_pure h : wpAny (model prog w) A (pure _) Q E s) Γ p hΓ
theorem tupNext {it t : Addr} {i : Nat} {items : Array Value} {x : Value} {Q : Value → Shared → Prop} (k : s.heap.IsTupleIter it t i) (ht : s.heap.IsTuple t items) (hx : items[i]? = some x)
    (h : ∀ h', h'.IsTupleIter it t (i + 1) → Heap.SameBut it s.heap h' → Q x { s with heap := h' }) : wpAny (model prog w) A (Builtin.SmallTypes.nextOf (.ref it)) Q E s := by
  obtain ⟨o, ho, hc, hd⟩ := id k
  obtain ⟨ol, hol, _, nl, hdl⟩ := ht
  unfold Builtin.SmallTypes.nextOf
  refine wpAny_bind (wpAny_callSpecial?_slot (name := Str.ofString "__next__") k.typeIs F.slot_tuple_iterator_next (wpAny_call_entry F.slot_tuple_iterator_next k.typeIs F.entry_tuple_iterator_next ?_ (F.args_tuple_iterator_next_1 _)))
  show wpAny _ _ (field (.ref it) 0 >>= _) _ _ s
  refine wpAny_bind (wpAny_field ho hd (x := .ref t) rfl ?_)
  show wpAny _ _ (if (Value.ref t == Value.none) = true then _ else _) _ _ s
  rw [if_neg (show ¬ ((Value.ref t == Value.none) = true) from Bool.false_ne_true)]
  show wpAny _ _ (field (.ref it) 1 >>= _) _ _ s
  refine wpAny_bind (wpAny_field ho hd (x := .int i 0) rfl ?_)
  show wpAny _ _ (seqItems? (.ref t) >>= _) _ _ s
  refine wpAny_bind (wpAny_seqItems hol hdl ?_)
  simp only [Int.toNat_natCast, hx]
  refine wpAny_bind (wpAny_setField ho hd (by simp) (wpAny_pure ⟨x, rfl, wpAny_pure (h _ ?_ (Heap.SameBut.update ..))⟩))
  exact ⟨_, Heap.get?_update_self _ ho (Obj.isFreed_of_fields (Obj.data_mapFields hd _)), (Obj.cls_mapFields ..).trans hc, by rw [Obj.data_mapFields hd]; simp [rawInt]⟩
theorem tupStop {it t : Addr} {i : Nat} {items : Array Value} {Q : Value → Shared → Prop} (hh : A.handled = none) (k : s.heap.IsTupleIter it t i) (ht : s.heap.IsTuple t items) (hx : items[i]? = none)
    (h : ∀ h' e, Heap.ExtBut it s.heap h' → (∃ o, h'.get? e = some o ∧ o.cls = .type "StopIteration") → E (.ref e) { s with heap := h' }) : wpAny (model prog w) A (Builtin.SmallTypes.nextOf (.ref it)) Q E s := by
  obtain ⟨o, ho, hc, hd⟩ := id k
  obtain ⟨ol, hol, _, nl, hdl⟩ := ht
  unfold Builtin.SmallTypes.nextOf
  refine wpAny_bind (wpAny_callSpecial?_slot (name := Str.ofString "__next__") k.typeIs F.slot_tuple_iterator_next (wpAny_call_entry F.slot_tuple_iterator_next k.typeIs F.entry_tuple_iterator_next ?_ (F.args_tuple_iterator_next_1 _)))
  show wpAny _ _ (field (.ref it) 0 >>= _) _ _ s
  refine wpAny_bind (wpAny_field ho hd (x := .ref t) rfl ?_)
  show wpAny _ _ (if (Value.ref t == Value.none) = true then _ else _) _ _ s
  rw [if_neg (show ¬ ((Value.ref t == Value.none) = true) from Bool.false_ne_true)]
  show wpAny _ _ (field (.ref it) 1 >>= _) _ _ s
  refine wpAny_bind (wpAny_field ho hd (x := .int i 0) rfl ?_)
  show wpAny _ _ (seqItems? (.ref t) >>= _) _ _ s
  refine wpAny_bind (wpAny_seqItems hol hdl ?_)
  simp only [Int.toNat_natCast, hx]
  refine wpAny_bind (wpAny_rule (wpAny_bind (wpAny_setField ho hd (by simp) ?_)))
  show wpAny _ _ (newExc (.type "StopIteration") [] >>= _) _ _ _
  refine wpAny_bind ?_
  simp only [newExc, newTuple]
  refine wpAny_bind (wpAny_newObj_type ?_ (by size_fits))
  refine wpAny_bind (m := firstArgMember _ _) (wpAny_of_eq (a := Value.none) (by first | rfl | (simp only [firstArgMember]; rfl)) (wpAny_newObj_type ?_ (by size_fits)))
  simp only [raiseNew]
  refine wpAny_bind (wpAny_handled ?_)
  first | rw [show A.in1.handled = none from hh] | rw [hh]
  exact wpAny_bind (wpAny_pure (wpAny_throw (h _ _ (((Heap.SameBut.update ..).extBut.push _).push _) ⟨_, Heap.get?_push_size _ rfl, rfl⟩)))
/-- a zip of two tuples, with what it has made: the iterators at n and n + 1, their pair, its own tuple, itself -/
structure ZipSt (h : Heap) (n l1 l2 : Addr) (i : Nat) : Prop where
  zo : ∃ f0 f1, h.get? (n + 4) = some { cls := .type "zip", dict := none, data := .fields #[f0, .bool f1, .bool false, .ref (n + 2), .ref (n + 3)], slots := #[] } ∧ (f0 = .none ∨ ∃ T : Nat, f0 = rawInt T)
  ti : IsPair h (n + 2) (.ref n) (.ref (n + 1))
  to : ∃ a b, IsPair h (n + 3) a b
  k1 : h.IsTupleIter n l1 i
  k2 : h.IsTupleIter (n + 1) l2 i
theorem itr_at {h h' : Heap} {it t : Addr} {i : Nat} (x : h.IsTupleIter it t i) (k : ∀ o, h.get? it = some o → h'.get? it = some o) : h'.IsTupleIter it t i := let ⟨o, e, r⟩ := x; ⟨o, k o e, r⟩
theorem tup_at {h h' : Heap} {t : Addr} {its : Array Value} (x : h.IsTuple t its) (k : ∀ o, h.get? t = some o → h'.get? t = some o) : h'.IsTuple t its := let ⟨o, e, r⟩ := x; ⟨o, k o e, r⟩
theorem ZipSt.keep {h h' : Heap} {n l1 l2 : Addr} {i : Nat} (z : ZipSt h n l1 l2 i) (k : ∀ b ∈ [n, n + 1, n + 2, n + 3, n + 4], ∀ o, h.get? b = some o → h'.get? b = some o) : ZipSt h' n l1 l2 i := by
  obtain ⟨f0, f1, e, r⟩ := z.zo
  obtain ⟨a, b, to⟩ := z.to
  exact ⟨⟨f0, f1, k _ (by simp) _ e, r⟩, k _ (by simp) _ z.ti, ⟨a, b, k _ (by simp) _ to⟩, itr_at z.k1 (k _ (by simp)), itr_at z.k2 (k _ (by simp))⟩
/-- what of the heap a turn of the zip leaves -/
def ZipKeep (n : Addr) (h h' : Heap) : Prop := ∀ c o, c ≠ n → c ≠ n + 1 → c ≠ n + 3 → c ≠ n + 4 → h.get? c = some o → h'.get? c = some o
end
end L2

set_option autoImplicit false
set_option linter.all false
set_option Elab.async false
set_option maxRecDepth 100000
set_option maxHeartbeats 8000000
namespace L2
open PySem PySem.Spec PyProof.Rows
section
variable {prog : Program} {w : World} {A : Around} {E : Value → Shared → Prop} {s : Shared}
abbrev IsZ (h : Heap) (n : Addr) (f0 : Value) (f1 : Bool) : Prop := h.get? (n + 4) = some { cls := .type "zip", dict := none, data := .fields #[f0, .bool f1, .bool false, .ref (n + 2), .ref (n + 3)], slots := #[] }
def F0 (f0 : Value) : Prop := f0 = .none ∨ ∃ T : Nat, f0 = rawInt T
theorem sb_refl (a : Addr) (h : Heap) : Heap.SameBut a h h := ⟨rfl, fun _ _ => rfl⟩
theorem zip_isFree {n : Addr} {f0 : Value} {f1 : Bool} {Q : Bool → Shared → Prop} (hz : IsZ s.heap n f0 f1) (hf : F0 f0)
    (h : ∀ b h' f1, IsZ h' n f0 f1 → Heap.SameBut (n + 4) s.heap h' → Q b { s with heap := h' }) : wpAny (model prog w) A (Builtin.SmallTypes.ownedTupleIsFree (.ref (n + 4))) Q E s := by
  unfold Builtin.SmallTypes.ownedTupleIsFree
  rcases hf with rfl | ⟨T, rfl⟩
  · exact wpAny_bind (wpAny_field hz rfl (x := .none) rfl (wpAny_pure (h true s.heap f1 hz (sb_refl _ _))))
  · refine wpAny_bind (wpAny_field hz rfl (x := rawInt T) rfl ?_)
    show wpAny _ _ (loadIfAlive (T : Int).toNat >>= _) _ _ _
    refine wpAny_bind (any_alive ?_)
    cases e : (s.heap.get? (T : Int).toNat).isNone with
    | true => exact wpAny_pure (h true s.heap f1 hz (sb_refl _ _))
    | false =>
      simp only [Bool.false_eq_true, if_false]
      refine wpAny_bind (wpAny_field hz rfl (x := .bool f1) rfl ?_)
      cases f1 with
      | true =>
        exact wpAny_pure (h false s.heap true hz (sb_refl _ _))
      | false =>
        show wpAny _ _ (setField (.ref (n + 4)) 1 (.bool true) >>= _) _ _ _
        exact wpAny_bind (wpAny_setField_rec hz (by simp) fun h' hz' hs' => wpAny_pure (h false h' true hz' hs'))
/-- the tuple is none of the zip's own objects -/
def OffZ (n l : Addr) : Prop := l ≠ n ∧ l ≠ n + 1 ∧ l ≠ n + 3 ∧ l ≠ n + 4
theorem tup_sb {h h' : Heap} {a t : Addr} {its : Array Value} (k : h.IsTuple t its) (hs : Heap.SameBut a h h') (ne : t ≠ a) : h'.IsTuple t its := tup_at k fun o e => hs.extBut _ _ ne e
theorem itr_sb {h h' : Heap} {a t l : Addr} {i : Nat} (k : h.IsTupleIter t l i) (hs : Heap.SameBut a h h') (ne : t ≠ a) : h'.IsTupleIter t l i := itr_at k fun o e => hs.extBut _ _ ne e
theorem ne_add {n j k : Nat} (h : j ≠ k) : n + j ≠ n + k := by omega
theorem ne_add0 {n k : Nat} (h : k ≠ 0) : n ≠ n + k := by omega
theorem zip_item {n l1 l2 : Addr} {i : Nat} {xs ys : Array Value} {x y : Value} {Q : Option Value → Shared → Prop} (z : ZipSt s.heap n l1 l2 i) (o1 : OffZ n l1) (o2 : OffZ n l2)
    (hl1 : s.heap.IsTuple l1 xs) (hl2 : s.heap.IsTuple l2 ys) (hx : xs[i]? = some x) (hy : ys[i]? = some y)
    (hQ : ∀ h', ZipSt h' n l1 l2 (i + 1) → IsPair h' s.heap.objs.size x y → h'.objs.size = s.heap.objs.size + 1 → ZipKeep n s.heap h' → Q (some (.ref s.heap.objs.size)) { s with heap := h' }) :
    wpAny (model prog w) A (pyNext (.ref (n + 4))) Q E s := by
  obtain ⟨f0, f1, hz, hf⟩ := z.zo
  obtain ⟨a, b, hTO⟩ := z.to
  have hTI := z.ti
  have k1 := z.k1
  have k2 := z.k2
  obtain ⟨p1, p2, p3, p4⟩ := o1
  obtain ⟨q1, q2, q3, q4⟩ := o2
  have hT : s.TypeIs (.ref (n + 4)) "zip" := ⟨_, hz, rfl⟩
  have d34 : n + 3 ≠ n + 4 := ne_add (by decide)
  have d24 : n + 2 ≠ n + 4 := ne_add (by decide)
  have d14 : n + 1 ≠ n + 4 := ne_add (by decide)
  have d04 : n ≠ n + 4 := ne_add0 (by decide)
  have d13 : n + 1 ≠ n + 3 := ne_add (by decide)
  have d03 : n ≠ n + 3 := ne_add0 (by decide)
  have d01 : n ≠ n + 1 := ne_add0 (by decide)
  have d23 : n + 2 ≠ n + 3 := ne_add (by decide)
  have d21 : n + 2 ≠ n + 1 := ne_add (by decide)
  have d20 : n + 2 ≠ n := (ne_add0 (by decide)).symm
  unfold pyNext
  refine wpAny_bind (wpAny_attempt (wpAny_callSpecial?_slot (name := Str.ofString "__next__") hT F.slot_zip_next (wpAny_call_entry F.slot_zip_next hT F.entry_zip_next ?_ (F.args_zip_next_1 _))))
  show wpAny _ _ (field (.ref (n + 4)) 2 >>= _) _ _ _
  refine wpAny_bind (wpAny_field hz rfl (x := .bool false) rfl ?_)
  show wpAny _ _ (field (.ref (n + 4)) 3 >>= _) _ _ _
  refine wpAny_bind (wpAny_field hz rfl (x := .ref (n + 2)) rfl ?_)
  refine wpAny_bind (wpAny_seqItems hTI rfl ?_)
  show wpAny _ _ (Builtin.SmallTypes.ownedTupleIsFree (.ref (n + 4)) >>= _) _ _ _
  refine wpAny_bind (zip_isFree hz hf fun fr h₀ g1 hz₀ hs₀ => ?_)
  have hTO₀ : IsPair h₀ (n + 3) a b := hs₀.extBut _ _ d34 hTO
  have k1₀ := itr_sb k1 hs₀ d04
  have k2₀ := itr_sb k2 hs₀ d14
  have t1₀ := tup_sb hl1 hs₀ p4
  have t2₀ := tup_sb hl2 hs₀ q4
  have hTI₀ : IsPair h₀ (n + 2) (.ref n) (.ref (n + 1)) := hs₀.extBut _ _ d24 hTI
  cases fr with
  | true =>
    simp only [if_true]
    refine wpAny_bind (wpAny_rule ?_)
    refine wpAny_bind (wpAny_field hz₀ rfl (x := .ref (n + 3)) rfl ?_)
    refine wpAny_bind (wpAny_setField_rec hz₀ (by simp) fun h₁ hz₁ hs₁ => ?_)
    replace hz₁ : IsZ h₁ n .ellipsis g1 := hz₁
    refine wpAny_bind ?_
    simp only [List.zipIdx_cons, List.zipIdx_nil, List.forIn_cons, List.forIn_nil]
    refine wpAny_bind (wpAny_bind (wpAny_onRaise ?_))
    show wpAny _ _ (Builtin.SmallTypes.nextOf (.ref n) >>= _) _ _ _
    refine wpAny_bind (tupNext (itr_sb k1₀ hs₁ d04) (tup_sb t1₀ hs₁ p4) hx fun h₂ k1₂ hs₂ => wpAny_pure ?_)
    have hTO₂ : IsPair h₂ (n + 3) a b := hs₂.extBut _ _ d03.symm (hs₁.extBut _ _ d34 hTO₀)
    refine wpAny_bind (wpAny_seqItems hTO₂ rfl ?_)
    refine wpAny_bind (wpAny_updateSeq_pair hTO₂ fun h₃ hTO₃ hs₃ => ?_)
    replace hTO₃ : IsPair h₃ (n + 3) x b := hTO₃
    refine wpAny_bind (wpAny_letGo (wpAny_pure ?_))
    refine wpAny_bind (wpAny_bind (wpAny_onRaise ?_))
    show wpAny _ _ (Builtin.SmallTypes.nextOf (.ref (n + 1)) >>= _) _ _ _
    refine wpAny_bind (tupNext (itr_sb (itr_sb (itr_sb k2₀ hs₁ d14) hs₂ d01.symm) hs₃ d13) (tup_sb (tup_sb (tup_sb t2₀ hs₁ q4) hs₂ q1) hs₃ q3) hy fun h₄ k2₄ hs₄ => wpAny_pure ?_)
    have hTO₄ : IsPair h₄ (n + 3) x b := hs₄.extBut _ _ d13.symm hTO₃
    refine wpAny_bind (wpAny_seqItems hTO₄ rfl ?_)
    refine wpAny_bind (wpAny_updateSeq_pair hTO₄ fun h₅ hTO₅ hs₅ => ?_)
    replace hTO₅ : IsPair h₅ (n + 3) x y := hTO₅
    refine wpAny_bind (wpAny_letGo (wpAny_pure (wpAny_pure ?_)))
    refine wpAny_bind (wpAny_seqItems hTO₅ rfl ?_)
    refine wpAny_bind (wpAny_newTuple ?_)
    have hsz : h₅.objs.size = s.heap.objs.size := by rw [hs₅.1, hs₄.1, hs₃.1, hs₂.1, hs₁.1, hs₀.1]
    have hz₅ : IsZ h₅ n .ellipsis g1 := hs₅.extBut _ _ d34.symm (hs₄.extBut _ _ d14.symm (hs₃.extBut _ _ d34.symm (hs₂.extBut _ _ d04.symm hz₁)))
    have hk₅ : ∀ c o, c ≠ n + 4 → c ≠ n + 3 → c ≠ n → c ≠ n + 1 → s.heap.get? c = some o → h₅.get? c = some o := fun c o c1 c2 c3 c4 e =>
      hs₅.extBut _ _ c2 (hs₄.extBut _ _ c4 (hs₃.extBut _ _ c2 (hs₂.extBut _ _ c3 (hs₁.extBut _ _ c1 (hs₀.extBut _ _ c1 e)))))
    have k1₅ : h₅.IsTupleIter n l1 (i + 1) := itr_sb (itr_sb (itr_sb k1₂ hs₃ d03) hs₄ d01) hs₅ d03
    have k2₅ : h₅.IsTupleIter (n + 1) l2 (i + 1) := itr_sb k2₄ hs₅ d13
    have hzlt : n + 4 < h₅.objs.size := Heap.lt_size hz₅
    show wpAny _ _ (Builtin.SmallTypes.ownedTupleHandOut (.ref (n + 4)) (.ref h₅.objs.size) >>= _) _ _ _
    refine wpAny_bind ?_
    unfold Builtin.SmallTypes.ownedTupleHandOut
    have hz₆ : IsZ (h₅.push { cls := .type "tuple", data := .seq #[x, y] }) n .ellipsis g1 := Heap.get?_push_of_some _ hz₅
    refine wpAny_bind (wpAny_setField_rec hz₆ (by simp) fun h₇ hz₇ hs₇ => ?_)
    replace hz₇ : IsZ h₇ n (rawInt h₅.objs.size) g1 := hz₇
    refine wpAny_setField_rec hz₇ (by simp) fun h₈ hz₈ hs₈ => ?_
    replace hz₈ : IsZ h₈ n (rawInt h₅.objs.size) false := hz₈
    have up : ∀ c o, c ≠ n + 4 → h₅.get? c = some o → h₈.get? c = some o := fun c o c1 e => hs₈.extBut _ _ c1 (hs₇.extBut _ _ c1 (Heap.get?_push_of_some _ e))
    have hT₈ : IsPair h₈ h₅.objs.size x y := hs₈.extBut _ _ (Nat.ne_of_gt hzlt) (hs₇.extBut _ _ (Nat.ne_of_gt hzlt) (Heap.get?_push_size _ rfl))
    have hz8 : h₈.objs.size = h₅.objs.size + 1 := by rw [hs₈.1, hs₇.1, Heap.size_push]
    have zs : ZipSt h₈ n l1 l2 (i + 1) := ⟨⟨_, _, hz₈, .inr ⟨_, rfl⟩⟩, up _ _ d24 (hk₅ _ _ d24 d23 d20 d21 hTI), ⟨x, y, up _ _ d34 hTO₅⟩, itr_at k1₅ fun o e => up _ o d04 e, itr_at k2₅ fun o e => up _ o d14 e⟩
    rw [hsz] at hT₈ hz8
    refine wpAny_pure ⟨_, rfl, wpAny_pure ?_⟩
    show Q (some (.ref h₅.objs.size)) _
    rw [hsz]
    exact hQ h₈ zs hT₈ hz8 fun c o c1 c2 c3 c4 e => up c o c4 (hk₅ c o c4 c3 c1 c2 e)
  | false =>
    simp only [Bool.false_eq_true, if_false]
    refine wpAny_bind ?_
    rw [← Array.forIn_toList]
    simp only [List.forIn_cons, List.forIn_nil]
    refine wpAny_bind (wpAny_bind (wpAny_holding ?_))
    show wpAny _ _ (Builtin.SmallTypes.nextOf (.ref n) >>= _) _ _ _
    refine wpAny_bind (tupNext k1₀ t1₀ hx fun h₂ k1₂ hs₂ => wpAny_pure (wpAny_pure ?_))
    refine wpAny_bind (wpAny_bind (wpAny_holding ?_))
    show wpAny _ _ (Builtin.SmallTypes.nextOf (.ref (n + 1)) >>= _) _ _ _
    refine wpAny_bind (tupNext (itr_sb k2₀ hs₂ d01.symm) (tup_sb t2₀ hs₂ q1) hy fun h₄ k2₄ hs₄ => wpAny_pure (wpAny_pure (wpAny_pure ?_)))
    refine wpAny_bind (wpAny_newTuple (items := [x, y]) ?_)
    have hsz : h₄.objs.size = s.heap.objs.size := by rw [hs₄.1, hs₂.1, hs₀.1]
    have hk₄ : ∀ c o, c ≠ n + 4 → c ≠ n → c ≠ n + 1 → s.heap.get? c = some o → h₄.get? c = some o := fun c o c1 c3 c4 e => hs₄.extBut _ _ c4 (hs₂.extBut _ _ c3 (hs₀.extBut _ _ c1 e))
    have zs : ZipSt (h₄.push { cls := .type "tuple", data := .seq #[x, y] }) n l1 l2 (i + 1) := ZipSt.keep (h := h₄) ⟨⟨f0, g1, hs₄.extBut _ _ d14.symm (hs₂.extBut _ _ d04.symm hz₀), hf⟩, hk₄ _ _ d24 d20 d21 hTI, ⟨a, b, hk₄ _ _ d34 d03.symm d13.symm hTO⟩, itr_sb k1₂ hs₄ d01, k2₄⟩
      fun b _ o e => Heap.get?_push_of_some _ e
    refine wpAny_pure ⟨_, rfl, wpAny_pure ?_⟩
    show Q (some (.ref h₄.objs.size)) _
    have hP : IsPair (h₄.push { cls := .type "tuple", data := .seq #[x, y] }) h₄.objs.size x y := Heap.get?_push_size _ rfl
    have hs' : (h₄.push { cls := .type "tuple", data := .seq #[x, y] }).objs.size = h₄.objs.size + 1 := Heap.size_push ..
    rw [hsz] at hP hs' ⊢
    exact hQ _ zs hP hs' fun c o c1 c2 c3 c4 e => Heap.get?_push_of_some _ (hk₄ c o c4 c1 c2 e)
theorem zip_end {n l1 l2 : Addr} {i : Nat} {xs ys : Array Value} {Q : Option Value → Shared → Prop} (hh : A.handled = none) (z : ZipSt s.heap n l1 l2 i) (o1 : OffZ n l1) (o2 : OffZ n l2)
    (hl1 : s.heap.IsTuple l1 xs) (hl2 : s.heap.IsTuple l2 ys) (hend : xs[i]? = none ∨ ys[i]? = none)
    (hQ : ∀ h', ZipKeep n s.heap h' → Q none { s with heap := h' }) : wpAny (model prog w) A (pyNext (.ref (n + 4))) Q E s := by
  obtain ⟨f0, f1, hz, hf⟩ := z.zo
  obtain ⟨a, b, hTO⟩ := z.to
  have hTI := z.ti
  have k1 := z.k1
  have k2 := z.k2
  obtain ⟨p1, p2, p3, p4⟩ := o1
  obtain ⟨q1, q2, q3, q4⟩ := o2
  have hT : s.TypeIs (.ref (n + 4)) "zip" := ⟨_, hz, rfl⟩
  have d34 : n + 3 ≠ n + 4 := ne_add (by decide)
  have d24 : n + 2 ≠ n + 4 := ne_add (by decide)
  have d14 : n + 1 ≠ n + 4 := ne_add (by decide)
  have d04 : n ≠ n + 4 := ne_add0 (by decide)
  have d13 : n + 1 ≠ n + 3 := ne_add (by decide)
  have d03 : n ≠ n + 3 := ne_add0 (by decide)
  have d01 : n ≠ n + 1 := ne_add0 (by decide)
  have fin : ∀ {h' : Heap} {e : Addr}, (∃ o, h'.get? e = some o ∧ o.cls = .type "StopIteration") → ZipKeep n s.heap h' →
      wpAny (model prog w) A (isInstance (.ref e) (.type "StopIteration") >>= fun b => if b = true then pure none else throw (.ref e)) Q E { s with heap := h' } := fun {h' e} he hk => by
    obtain ⟨o, ho, hc⟩ := he
    exact wpAny_bind (wpAny_isInstance (T := "StopIteration") (b := true) ⟨o, ho, hc⟩ isSubtype_stop (wpAny_pure (hQ _ hk)))
  unfold pyNext
  refine wpAny_bind (wpAny_attempt (wpAny_callSpecial?_slot (name := Str.ofString "__next__") hT F.slot_zip_next (wpAny_call_entry F.slot_zip_next hT F.entry_zip_next ?_ (F.args_zip_next_1 _))))
  show wpAny _ _ (field (.ref (n + 4)) 2 >>= _) _ _ _
  refine wpAny_bind (wpAny_field hz rfl (x := .bool false) rfl ?_)
  show wpAny _ _ (field (.ref (n + 4)) 3 >>= _) _ _ _
  refine wpAny_bind (wpAny_field hz rfl (x := .ref (n + 2)) rfl ?_)
  refine wpAny_bind (wpAny_seqItems hTI rfl ?_)
  show wpAny _ _ (Builtin.SmallTypes.ownedTupleIsFree (.ref (n + 4)) >>= _) _ _ _
  refine wpAny_bind (zip_isFree hz hf fun fr h₀ g1 hz₀ hs₀ => ?_)
  have hTO₀ : IsPair h₀ (n + 3) a b := hs₀.extBut _ _ d34 hTO
  have k1₀ := itr_sb k1 hs₀ d04
  have k2₀ := itr_sb k2 hs₀ d14
  have t1₀ := tup_sb hl1 hs₀ p4
  have t2₀ := tup_sb hl2 hs₀ q4
  cases fr with
  | true =>
    simp only [if_true]
    refine wpAny_bind (wpAny_rule ?_)
    refine wpAny_bind (wpAny_field hz₀ rfl (x := .ref (n + 3)) rfl ?_)
    refine wpAny_bind (wpAny_setField_rec hz₀ (by simp) fun h₁ hz₁ hs₁ => ?_)
    replace hz₁ : IsZ h₁ n .ellipsis g1 := hz₁
    refine wpAny_bind ?_
    simp only [List.zipIdx_cons, List.zipIdx_nil, List.forIn_cons, List.forIn_nil]
    refine wpAny_bind (wpAny_bind (wpAny_onRaise ?_))
    show wpAny _ _ (Builtin.SmallTypes.nextOf (.ref n) >>= _) _ _ _
    cases hx : xs[i]? with
    | none =>
      refine wpAny_bind (tupStop hh (itr_sb k1₀ hs₁ d04) (tup_sb t1₀ hs₁ p4) hx fun h₂ e hs₂ he => ?_)
      obtain ⟨oe, hoe, hce⟩ := he
      have hz₂ : IsZ h₂ n .ellipsis g1 := hs₂ _ _ d04.symm hz₁
      have hez : e ≠ n + 4 := fun x => by subst x; rw [hz₂] at hoe; cases hoe; simp at hce
      exact wpAny_setField_rec hz₂ (by simp) fun h₃ _ hs₃ => fin ⟨oe, hs₃.extBut _ _ hez hoe, hce⟩ fun c o c1 c2 c3 c4 x => hs₃.extBut _ _ c4 (hs₂ _ _ c1 (hs₁.extBut _ _ c4 (hs₀.extBut _ _ c4 x)))
    | some x =>
      have hy : ys[i]? = none := by rcases hend with h | h; rw [hx] at h; cases h; exact h
      refine wpAny_bind (tupNext (itr_sb k1₀ hs₁ d04) (tup_sb t1₀ hs₁ p4) hx fun h₂ k1₂ hs₂ => wpAny_pure ?_)
      have hTO₂ : IsPair h₂ (n + 3) a b := hs₂.extBut _ _ d03.symm (hs₁.extBut _ _ d34 hTO₀)
      refine wpAny_bind (wpAny_seqItems hTO₂ rfl ?_)
      refine wpAny_bind (wpAny_updateSeq_pair hTO₂ fun h₃ hTO₃ hs₃ => ?_)
      refine wpAny_bind (wpAny_letGo (wpAny_pure ?_))
      refine wpAny_bind (wpAny_bind (wpAny_onRaise ?_))
      show wpAny _ _ (Builtin.SmallTypes.nextOf (.ref (n + 1)) >>= _) _ _ _
      refine wpAny_bind (tupStop hh (itr_sb (itr_sb (itr_sb k2₀ hs₁ d14) hs₂ d01.symm) hs₃ d13) (tup_sb (tup_sb (tup_sb t2₀ hs₁ q4) hs₂ q1) hs₃ q3) hy fun h₄ e hs₄ he => ?_)
      obtain ⟨oe, hoe, hce⟩ := he
      have hz₄ : IsZ h₄ n .ellipsis g1 := hs₄ _ _ d14.symm (hs₃.extBut _ _ d34.symm (hs₂.extBut _ _ d04.symm hz₁))
      have hez : e ≠ n + 4 := fun x => by subst x; rw [hz₄] at hoe; cases hoe; simp at hce
      exact wpAny_setField_rec hz₄ (by simp) fun h₅ _ hs₅ => fin ⟨oe, hs₅.extBut _ _ hez hoe, hce⟩ fun c o c1 c2 c3 c4 x => hs₅.extBut _ _ c4 (hs₄ _ _ c2 (hs₃.extBut _ _ c3 (hs₂.extBut _ _ c1 (hs₁.extBut _ _ c4 (hs₀.extBut _ _ c4 x)))))
  | false =>
    simp only [Bool.false_eq_true, if_false]
    refine wpAny_bind ?_
    rw [← Array.forIn_toList]
    simp only [List.forIn_cons, List.forIn_nil]
    refine wpAny_bind (wpAny_bind (wpAny_holding ?_))
    show wpAny _ _ (Builtin.SmallTypes.nextOf (.ref n) >>= _) _ _ _
    cases hx : xs[i]? with
    | none =>
      refine wpAny_bind (tupStop hh k1₀ t1₀ hx fun h₂ e hs₂ he => ?_)
      exact fin he fun c o c1 c2 c3 c4 x => hs₂ _ _ c1 (hs₀.extBut _ _ c4 x)
    | some x =>
      have hy : ys[i]? = none := by rcases hend with h | h; rw [hx] at h; cases h; exact h
      refine wpAny_bind (tupNext k1₀ t1₀ hx fun h₂ k1₂ hs₂ => wpAny_pure (wpAny_pure ?_))
      refine wpAny_bind (wpAny_bind (wpAny_holding ?_))
      show wpAny _ _ (Builtin.SmallTypes.nextOf (.ref (n + 1)) >>= _) _ _ _
      refine wpAny_bind (tupStop hh (itr_sb k2₀ hs₂ d01.symm) (tup_sb t2₀ hs₂ q1) hy fun h₄ e hs₄ he => ?_)
      exact fin he fun c o c1 c2 c3 c4 x => hs₄ _ _ c2 (hs₂.extBut _ _ c1 (hs₀.extBut _ _ c4 x))
end
end L2

set_option autoImplicit false
set_option linter.all false
set_option Elab.async false
set_option maxRecDepth 100000
set_option maxHeartbeats 8000000
namespace L2
open PySem PySem.Spec PyProof.Rows
section
variable {X : Cx} {pins : List (Addr × Obj)} {σ : St} {H : Hp} {s : Shared} {h' : Heap}
/-- several untracked records of ours have turned -/
theorem Inv.turnedL {t' : Nat} {fp : List Addr} (I : Inv X pins σ H s) (hf : ∀ b ∈ fp, FpOk X pins H b) (k : ∀ b o, b ∉ fp → s.heap.get? b = some o → h'.get? b = some o) : Inv X pins σ H { s with heap := h', toks := t' } := by
  have nit : ∀ b u, H b = some u → b ∉ fp := fun b u e z => by rw [(hf b z).1] at e; cases e
  refine I.step (g' := s.gens) (d' := s.drawn) (ch := fp) (fun b hb => ?_) (fun b o _ _ hc e _ => k b o hc e) (fun b o _ _ hc e _ => ⟨o.slots, k b o hc e⟩) (fun _ _ _ _ n => n)
    (fun b o hc e => ⟨o, k b o hc e⟩) (fun _ _ e => e) (fun _ _ _ e => e) (fun b ps e => ⟨#[], by rw [e]; simp⟩) (fun m hm => ?_) (fun b u e => ?_) I.bare
  · obtain ⟨f0, f1, f2, f3, f4, f5⟩ := hf b hb
    exact ⟨f3, f1, f4, f5⟩
  · obtain ⟨o, es, ep, ho, r⟩ := hm
    exact ⟨o, es, ep, k _ o (fun z => (hf _ z).2.1 rfl) ho, r⟩
  · refine (I.hok b u e).stay (fun c v hc q => k c v ?_ q) (fun _ q => q) fun _ _ q => q
    rcases hc with z | z
    · rw [z]; exact nit b u e
    · exact nit c _ z
/-- an object that is read is none of the iterator's -/
theorem FpOk.off {a : Addr} {fp : List Addr} {xs : List V} (I : Inv X pins σ H s) (hf : ∀ b ∈ fp, FpOk X pins H b) (h : SqT X.K H a xs) : a ∉ fp := fun z => by
  obtain ⟨f0, f1, f2, f3, f4, f5⟩ := hf a z
  rcases h with h | ⟨o, its, n, hk, _⟩
  · rcases h with h | ⟨o, h⟩
    · rw [f0] at h; cases h
    · rw [f0] at h; cases h
  · have hb := I.ok.mod.kin a o hk
    rcases f3 with f3 | f3
    · exact I.ok.noex a o hb f3
    · exact absurd (Nat.lt_of_lt_of_le (Heap.lt_size hb) I.ok.bsz) (Nat.not_lt.mpr f3)
end
section
variable {prog : Program} {w : World} {A : Around} {E : Value → Shared → Prop} {s : Shared}
theorem zip_go {n l1 l2 : Addr} {i : Nat} {tg : Expr} {u : Value} {Q : Unit → Shared → Prop} (z : ZipSt s.heap n l1 l2 i) (h : ∀ h', ZipSt h' n l1 l2 i → Heap.SameBut (n + 4) s.heap h' → Q () { s with heap := h' }) :
    wpAny (model prog w) A (letOwnedTupleGo tg (.ref (n + 4)) u) Q E s := by
  have hz := h s.heap z (sb_refl _ _)
  obtain ⟨f0, f1, e, hf⟩ := id z.zo
  unfold letOwnedTupleGo
  cases tg <;> first
    | exact wpAny_pure hz
    | (cases u <;> first
        | exact wpAny_pure hz
        | (refine wpAny_bind (wpAny_load e ?_)
           dsimp only
           split
           · refine wpAny_bind (wpAny_rule ?_)
             show wpAny _ _ (setField (.ref (n + 4)) 0 .none) Q E s
             refine wpAny_setField_rec e (by simp) fun h' hz' hs' => h h' ?_ hs'
             obtain ⟨a, b, hTO⟩ := z.to
             exact ⟨⟨.none, f1, hz', .inl rfl⟩, hs'.extBut _ _ (ne_add (by decide)) z.ti, ⟨a, b, hs'.extBut _ _ (ne_add (by decide)) hTO⟩, itr_sb z.k1 hs' (ne_add0 (by decide)), itr_sb z.k2 hs' (ne_add (by decide))⟩
           · exact wpAny_pure hz))
theorem zip_self {n l1 l2 : Addr} {i : Nat} {Q : Value → Shared → Prop} (z : ZipSt s.heap n l1 l2 i) (h : Q (.ref (n + 4)) s) : wpAny (model prog w) A (pyIter (.ref (n + 4))) Q E s := by
  obtain ⟨f0, f1, e, hf⟩ := z.zo
  have hT : s.TypeIs (.ref (n + 4)) "zip" := ⟨_, e, rfl⟩
  refine wpAny_pyIter_slot hT F.slot_zip_iter (wpAny_call_entry F.slot_zip_iter hT F.entry_zip_iter ?_ (F.args_zip_iter_1 _))
  show wpAny _ _ (ret (.ref (n + 4))) _ _ s
  exact wpAny_pure ⟨_, rfl, "zip", _, hT, F.slot_zip_next.lookup, h⟩
abbrev zH1 (h : Heap) (l1 : Addr) : Heap := h.push { cls := .type "tuple_iterator", data := .fields #[.ref l1, .int 0 0] }
abbrev zH2 (h : Heap) (l1 l2 : Addr) : Heap := (zH1 h l1).push { cls := .type "tuple_iterator", data := .fields #[.ref l2, .int 0 0] }
abbrev zH3 (h : Heap) (l1 l2 : Addr) : Heap := (zH2 h l1 l2).push { cls := .type "tuple", data := .seq #[.ref h.objs.size, .ref (zH1 h l1).objs.size] }
abbrev zH4 (h : Heap) (l1 l2 : Addr) : Heap := (zH3 h l1 l2).push { cls := .type "tuple", data := .seq #[.none, .none] }
abbrev zH5 (h : Heap) (l1 l2 : Addr) : Heap := (zH4 h l1 l2).push { cls := .type "zip", data := .fields #[.none, .bool false, .bool false, .ref (zH2 h l1 l2).objs.size, .ref (zH3 h l1 l2).objs.size] }
theorem meets_zipT (l1 l2 : Addr) (xs ys : Array Value) :
    Meets (Builtin.«zip.__new__» ⟨[.type "zip", .ref l1, .ref l2], []⟩) (fun _ R s => s.heap.IsTuple l1 xs ∧ s.heap.IsTuple l2 ys ∧
      R (.ok (.ret (.ref (zH4 s.heap l1 l2).objs.size))) { s with heap := zH5 s.heap l1 l2 }) :=
  .of_wp fun prog w A R s h => by
    obtain ⟨hp, g, d, tk, os⟩ := s; obtain ⟨hl1, hl2, h⟩ := h
    have hsub := sub_zip
    have hL1 : Heap.IsTuple (Shared.heap ⟨hp, g, d, tk, os⟩) l1 xs := hl1
    have hL2 : Heap.IsTuple (Shared.heap ⟨hp.push { cls := .type "tuple_iterator", data := .fields #[.ref l1, .int 0 0] }, g, d, tk, os⟩) l2 ys := tup_at hl2 fun o e => Heap.get?_push_of_some _ e
    wp_walk using wpAny_pyIter_tuple hL1, wpAny_pyIter_tuple hL2
    exact ⟨_, rfl, h⟩
theorem call_zipT {l1 l2 : Addr} {xs ys : Array Value} {Q : Value → Shared → Prop} (hl1 : s.heap.IsTuple l1 xs) (hl2 : s.heap.IsTuple l2 ys)
    (h : ∀ h', ZipSt h' s.heap.objs.size l1 l2 0 → h'.objs.size = s.heap.objs.size + 5 → (∀ c o, s.heap.get? c = some o → h'.get? c = some o) → Q (.ref (s.heap.objs.size + 4)) { s with heap := h' }) :
    wpAny (model prog w) A (call (.type "zip") [.ref l1, .ref l2]) Q E s := by
  refine callType_new F.called_zip (by decide) (F.typeCall_zip_2 _ _) (F.newCall_zip_2 _ _) (fun obj => F.args_object_init_3 obj _ _) F.entry_zip_new
    (meets_zipT l1 l2 xs ys) ⟨hl1, hl2, ?_⟩
  have z1 : (zH1 s.heap l1).objs.size = s.heap.objs.size + 1 := Heap.size_push ..
  have z2 : (zH2 s.heap l1 l2).objs.size = s.heap.objs.size + 2 := by rw [Heap.size_push, z1]
  have z3 : (zH3 s.heap l1 l2).objs.size = s.heap.objs.size + 3 := by rw [Heap.size_push, z2]
  have z4 : (zH4 s.heap l1 l2).objs.size = s.heap.objs.size + 4 := by rw [Heap.size_push, z3]
  have z5 : (zH5 s.heap l1 l2).objs.size = s.heap.objs.size + 5 := by rw [Heap.size_push, z4]
  have g5 : (zH5 s.heap l1 l2).get? (zH4 s.heap l1 l2).objs.size = some _ := Heap.get?_push_size _ rfl
  have g4 : (zH5 s.heap l1 l2).get? (zH3 s.heap l1 l2).objs.size = some _ := Heap.get?_push_of_some _ (Heap.get?_push_size _ rfl)
  have g3 : (zH5 s.heap l1 l2).get? (zH2 s.heap l1 l2).objs.size = some _ := Heap.get?_push_of_some _ (Heap.get?_push_of_some _ (Heap.get?_push_size _ rfl))
  have g2 : (zH5 s.heap l1 l2).get? (zH1 s.heap l1).objs.size = some _ := Heap.get?_push_of_some _ (Heap.get?_push_of_some _ (Heap.get?_push_of_some _ (Heap.get?_push_size _ rfl)))
  have g1 : (zH5 s.heap l1 l2).get? s.heap.objs.size = some _ := Heap.get?_push_of_some _ (Heap.get?_push_of_some _ (Heap.get?_push_of_some _ (Heap.get?_push_of_some _ (Heap.get?_push_size _ rfl))))
  show _ ∧ _
  rw [z2, z3, z4] at g5
  rw [z1, z2] at g3
  rw [z3] at g4
  rw [z1] at g2
  rw [z4]
  exact ⟨⟨_, g5, rfl⟩, h _ ⟨⟨.none, false, g5, .inl rfl⟩, g3, ⟨_, _, g4⟩, ⟨_, g1, rfl, rfl⟩, ⟨_, g2, rfl, rfl⟩⟩ z5 fun c o x =>
    Heap.get?_push_of_some _ (Heap.get?_push_of_some _ (Heap.get?_push_of_some _ (Heap.get?_push_of_some _ (Heap.get?_push_of_some _ x))))⟩
end
/-- zip of two tuples: a new pair each turn -/
def Itz (K : PySem.W.Frag) (a b : Addr) : It :=
  ⟨fun i H => ∃ xs ys x y, SqT K H a xs ∧ SqT K H b ys ∧ xs[i]? = some x ∧ ys[i]? = some y,
   fun i H v H' => ∃ p x y, v = .ref p ∧ H p = none ∧ H' = upd H p (.tup [x, y]) ∧ (∀ xs, SqT K H a xs → xs[i]? = some x) ∧ (∀ ys, SqT K H b ys → ys[i]? = some y),
   fun i H => ∃ xs ys, SqT K H a xs ∧ SqT K H b ys ∧ (xs.length ≤ i ∨ ys.length ≤ i)⟩
abbrev fpZ (n : Addr) : List Addr := [n, n + 1, n + 2, n + 3, n + 4]
theorem lt5 {n c S : Nat} (h : c ∈ [n, n + 1, n + 2, n + 3, n + 4]) (hlt : n + 4 < S) : c < S := by
  simp only [List.mem_cons, List.not_mem_nil, or_false] at h
  omega
theorem ge5 {n c : Nat} (h : c ∈ [n, n + 1, n + 2, n + 3, n + 4]) : n ≤ c := by
  simp only [List.mem_cons, List.not_mem_nil, or_false] at h
  omega
theorem offZ {n a : Addr} (h : a ∉ fpZ n) : OffZ n a := by
  simp only [fpZ, List.mem_cons, List.not_mem_nil, or_false, not_or] at h
  exact ⟨h.1, h.2.1, h.2.2.2.1, h.2.2.2.2⟩
theorem turn_zip {P : Program} {w : World} {K : PySem.W.Frag} {tg : Expr} (a b n : Addr) : Turn P w K tg (Itz K a b) (fpZ n) (n + 4) (fun i h => ZipSt h n a b i) where
  mem := by simp
  obj := fun i h st c hc => by
    obtain ⟨f0, f1, e, _⟩ := st.zo
    obtain ⟨u, v, e3⟩ := st.to
    obtain ⟨o0, e0, _, d0⟩ := st.k1
    obtain ⟨o1, e1, _, d1⟩ := st.k2
    simp only [fpZ, List.mem_cons, List.not_mem_nil, or_false] at hc
    rcases hc with rfl | rfl | rfl | rfl | rfl
    · exact ⟨_, e0, fun v z => by rw [d0] at z; cases z⟩
    · exact ⟨_, e1, fun v z => by rw [d1] at z; cases z⟩
    · exact ⟨_, st.ti, fun v z => by have z' : Data.seq _ _ = Data.cell v := z; cases z'⟩
    · exact ⟨_, e3, fun v z => by have z' : Data.seq _ _ = Data.cell v := z; cases z'⟩
    · exact ⟨_, e, fun v z => by have z' : Data.fields _ = Data.cell v := z; cases z'⟩
  keep := fun i h h' st k => st.keep k
  item := by
    intro X hP hw hK hc i pins s σ H E I hf st hg
    subst hP hw hK
    obtain ⟨xs, ys, x, y, hq1, hq2, hx, hy⟩ := hg
    obtain ⟨its1, rv1, p1, hz1⟩ := I.tuple hq1
    obtain ⟨its2, rv2, p2, hz2⟩ := I.tuple hq2
    obtain ⟨u1, hu1, ru1⟩ := rv1.get hx
    obtain ⟨u2, hu2, ru2⟩ := rv2.get hy
    refine zip_item st (offZ (FpOk.off I hf hq1)) (offZ (FpOk.off I hf hq2)) (show s.heap.IsTuple a its1.toArray from p1) (show s.heap.IsTuple b its2.toArray from p2) (x := u1) (y := u2) (by simpa using hu1) (by simpa using hu2) fun h' st' hp hsz hk => ?_
    refine ⟨_, rfl, zip_go (s := { s with heap := h' }) st' fun h2 st2 hs2 => ?_⟩
    obtain ⟨f0, f1, e4, _⟩ := id st.zo
    have hlt : ∀ c ∈ fpZ n, c < s.heap.objs.size := fun c hc => lt5 hc (Heap.lt_size e4)
    have nin : s.heap.objs.size ∉ fpZ n := fun z => Nat.lt_irrefl _ (hlt _ z)
    have I1 : Inv X pins σ (upd H s.heap.objs.size (.tup [x, y])) { s with heap := s.heap.push { cls := .type "tuple", data := .seq #[u1, u2] } } :=
      I.laid (t' := s.toks) (fun b u e => Heap.get?_push_of_some _ e) (Nat.le_refl _) ⟨by show 2 ≤ sizeLine; decide, [u1, u2], .cons ru1 (.cons ru2 .nil), ⟨_, Heap.get?_push_size _ rfl, rfl, 0, rfl⟩⟩
    have hf1 : ∀ c ∈ fpZ n, FpOk X pins (upd H s.heap.objs.size (.tup [x, y])) c := fun c hc => ⟨by rw [upd_ne (Nat.ne_of_lt (hlt c hc))]; exact (hf c hc).1, (hf c hc).2⟩
    have n4 : n + 4 ∈ fpZ n := by simp
    have I2 : Inv X pins σ (upd H s.heap.objs.size (.tup [x, y])) { s with heap := h2 } := I1.turnedL (t' := s.toks) hf1 fun c o hc e => by
      have c4 : c ≠ n + 4 := fun z => hc (by rw [z]; exact n4)
      refine hs2.extBut _ _ c4 ?_
      by_cases hcs : c = s.heap.objs.size
      · subst hcs
        rw [Heap.get?_push_size _ rfl] at e
        cases e
        exact hp
      · have e' : s.heap.get? c = some o := by
          rw [Heap.get?_push_ne _ _ _ hcs] at e
          exact e
        obtain ⟨q0, q1, q3, q4⟩ := offZ hc
        exact hk c o q0 q1 q3 q4 e'
    exact ⟨.ref s.heap.objs.size, _, I2, rfl, ⟨_, x, y, rfl, I.fresh, rfl, fun zs hz => by rw [I.tuple_inj hz hq1]; exact hx, fun zs hz => by rw [I.tuple_inj hz hq2]; exact hy⟩, st2, fun c hc => (hf1 c hc).1⟩
  done := by
    intro X hP hw hK hc i pins s σ H E I hf st hg
    subst hP hw hK
    obtain ⟨xs, ys, hq1, hq2, hx⟩ := hg
    obtain ⟨its1, rv1, p1, hz1⟩ := I.tuple hq1
    obtain ⟨its2, rv2, p2, hz2⟩ := I.tuple hq2
    have l1 := rv1.length
    have l2 := rv2.length
    refine zip_end (I.ok.hd hc) st (offZ (FpOk.off I hf hq1)) (offZ (FpOk.off I hf hq2)) (show s.heap.IsTuple a its1.toArray from p1) (show s.heap.IsTuple b its2.toArray from p2) (hx.imp (fun h => by simp; omega) (fun h => by simp; omega)) fun h' hk => ⟨rfl, I.turnedL (t' := s.toks) hf fun c o hc e => ?_⟩
    obtain ⟨q0, q1, q3, q4⟩ := offZ hc
    exact hk c o q0 q1 q3 q4 e
  self := fun _ _ _ _ _ st h => zip_self st h
section
variable {X : Cx} {tg : Expr}
def iZip (K : PySem.W.Frag) (ta : TA) : TI := fun σ H R => ta σ H fun vs H1 => ∃ a b, vs = [.ref a, .ref b] ∧ (∃ xs, SqT K H1 a xs) ∧ (∃ ys, SqT K H1 b ys) ∧ R (Itz K a b) H1
theorem pi_zip {a b : Expr} {ta : TA} {p pos : Pos} (hg : Gl X "zip") (hm : X.mg "zip" = none) (ha : PA X [a, b] ta) (hs : starEach [a, b] X.env = [(false, eval a X.env), (false, eval b X.env)] := by rfl) (hs2 : starEach [b] X.env = [(false, eval b X.env)] := by rfl) :
    PI X tg (.Call (.Name "zip" p) [a, b] [] pos) (iZip X.K ta) := by
  intro pins s σ H R I h
  refine Call_ (ld_blt I hg hm (u := .type "zip") (by decide +kernel) (PyProof.Rows.callWith_type1 (thn (ha pos pins s σ H _ I h) fun us s1 ⟨vs, H1, I1, r1, q1⟩ => ?_) (by rw [hs, hs2]) (by rw [hs2]; rfl)))
  obtain ⟨c, d, e, ⟨xs, hq1⟩, ⟨ys, hq2⟩, q⟩ := q1
  subst e
  cases r1 with
  | cons r rr =>
    cases rr with
    | cons r' rr =>
      cases rr
      cases r
      cases r'
      obtain ⟨its1, rv1, p1, hz1⟩ := I1.tuple hq1
      obtain ⟨its2, rv2, p2, hz2⟩ := I1.tuple hq2
      refine call_zipT (show s1.heap.IsTuple c its1.toArray from p1) (show s1.heap.IsTuple d its2.toArray from p2) fun h' st hsz k => ?_
      refine zip_self (s := { s1 with heap := h' }) st ?_
      refine ⟨s1.heap.objs.size + 4, fpZ s1.heap.objs.size, _, _, H1, rfl, I1.kept (t' := s1.toks) k, turn_zip c d _, st, fun b hb => ?_, q⟩
      exact I1.fpOk (ge5 hb) (I1.hok.fresh (ge5 hb))
end
end L2

set_option autoImplicit false
set_option linter.all false
set_option Elab.async false
set_option maxRecDepth 100000
set_option maxHeartbeats 8000000
namespace L2
open PySem PySem.Spec PyProof.Rows
/-! ### values as data: == and != and in of whatever is made of ints, truths, None, tuples and lists -/
mutual
inductive DV (K : PySem.W.Frag) (H : Hp) : V → PyData → Prop
  | non : DV K H .non .none
  | bl (b : Bool) : DV K H (.bl b) (.bool b)
  | int (i : Int) : DV K H (.int i) (.int i)
  | tup {a : Addr} {xs : List V} {ds : List PyData} : SqT K H a xs → DVs K H xs ds → DV K H (.ref a) (.tuple ds)
  | lst {a : Addr} {xs : List V} {ds : List PyData} : SqL K H a xs → DVs K H xs ds → DV K H (.ref a) (.list ds)
inductive DVs (K : PySem.W.Frag) (H : Hp) : List V → List PyData → Prop
  | nil : DVs K H [] []
  | cons {x : V} {d : PyData} {xs : List V} {ds : List PyData} : DV K H x d → DVs K H xs ds → DVs K H (x :: xs) (d :: ds)
end
mutual
theorem DV.can {K : PySem.W.Frag} {H : Hp} : ∀ {v : V} {d : PyData}, DV K H v d → d.canLay0 = true
  | _, _, .non => rfl
  | _, _, .bl _ => rfl
  | _, _, .int _ => rfl
  | _, _, .tup _ h => by rw [PyData.canLay0]; exact DVs.can h
  | _, _, .lst _ h => by rw [PyData.canLay0]; exact DVs.can h
theorem DVs.can {K : PySem.W.Frag} {H : Hp} : ∀ {v : List V} {d : List PyData}, DVs K H v d → PyData.canLayAll0 d = true
  | _, _, .nil => rfl
  | _, _, .cons h t => by rw [PyData.canLayAll0, DV.can h, DVs.can t]; rfl
end
section
variable {X : Cx} {pins : List (Addr × Obj)} {σ : St} {H : Hp} {s : Shared}
mutual
theorem DV.reads (I : Inv X pins σ H s) : ∀ {v : V} {d : PyData}, DV X.K H v d → ∀ {u : Value}, RelV v u → ∃ as, Reads s.heap u d as
  | _, _, .non, _, r => by cases r; exact ⟨_, .none⟩
  | _, _, .bl b, _, r => by cases r; exact ⟨_, .bool b⟩
  | _, _, .int i, _, r => by obtain ⟨t, rfl⟩ := r; exact ⟨_, .int i t⟩
  | _, _, .tup hq h, _, r => by
    cases r
    obtain ⟨its, rv, ⟨o, ho, hc, n, hd⟩, hz⟩ := I.tuple hq
    obtain ⟨as, ra⟩ := DVs.reads I h rv
    exact ⟨as, .tuple ho hc hd (by simpa using ra)⟩
  | _, _, .lst hq h, _, r => by
    cases r
    obtain ⟨its, rv, pl, hz⟩ := I.list hq
    obtain ⟨o, ho, hc, n, hd⟩ := pl.isList
    obtain ⟨as, ra⟩ := DVs.reads I h rv
    exact ⟨_, .list ho hc hd (by simpa using ra)⟩
theorem DVs.reads (I : Inv X pins σ H s) : ∀ {v : List V} {d : List PyData}, DVs X.K H v d → ∀ {u : List Value}, Vals v u → ∃ as, ReadsAll s.heap u d as
  | _, _, .nil, _, r => by cases r; exact ⟨_, .nil⟩
  | _, _, .cons h t, _, r => by
    cases r with
    | cons r1 r2 =>
      obtain ⟨as, ra⟩ := DV.reads I h r1
      obtain ⟨bs, rb⟩ := DVs.reads I t r2
      exact ⟨_, .cons ra rb⟩
end
def rEqD (K : PySem.W.Frag) (neg : Bool) : R2 := fun x y H Q => ∃ d e, DV K H x d ∧ DV K H y e ∧ min d.depth e.depth ≤ 60 ∧ Q (.bl (if neg then !PyData.eqv d e else PyData.eqv d e)) H
theorem op_eqD (hu : X.A.units + 64 < cLine) : OpR X (compareOp .Eq) (rEqD X.K false) := by
  intro pins s σ H x y v u Q I rx ry h
  obtain ⟨d, e, hd, he, hm, q⟩ := h
  obtain ⟨as, ra⟩ := hd.reads I rx
  obtain ⟨bs, rb⟩ := he.reads I ry
  exact SeqAt.compareEq_reads ra rb hd.can he.can (by omega) ⟨.bl _, H, I, rfl, q⟩
theorem op_neD (hu : X.A.units + 64 < cLine) : OpR X (compareOp .NotEq) (rEqD X.K true) := by
  intro pins s σ H x y v u Q I rx ry h
  obtain ⟨d, e, hd, he, hm, q⟩ := h
  obtain ⟨as, ra⟩ := hd.reads I rx
  obtain ⟨bs, rb⟩ := he.reads I ry
  exact SeqAt.compareNe_reads ra rb hd.can he.can (by omega) ⟨.bl _, H, I, rfl, q⟩
open Classical in
noncomputable def eqC (h : Heap) (e : PyData) (y : Value) : Bool := if z : ∃ (d : PyData) (as : List Addr), Reads h y d as then PyData.eqv z.choose e else false
theorem eqC_of {h : Heap} {e d : PyData} {y : Value} {as : List Addr} (r : Reads h y d as) : eqC h e y = PyData.eqv d e := by
  have z : ∃ (d : PyData) (as : List Addr), Reads h y d as := ⟨d, as, r⟩
  unfold eqC
  rw [dif_pos z]
  obtain ⟨as', r'⟩ := z.choose_spec
  rw [(Reads.unique r _ _ r').1]
theorem readsAll_mem {h : Heap} : ∀ {us : List Value} {ds : List PyData} {as : List Addr}, ReadsAll h us ds as → ∀ u ∈ us, ∃ d ∈ ds, ∃ bs, Reads h u d bs
  | _, _, _, .nil, u, hu => by cases hu
  | _, _, _, .cons r t, u, hu => by
    rcases List.mem_cons.mp hu with rfl | hu
    · exact ⟨_, List.mem_cons_self, _, r⟩
    · obtain ⟨d, hd, bs, q⟩ := readsAll_mem t u hu
      exact ⟨d, List.mem_cons_of_mem _ hd, bs, q⟩
theorem readsAll_any {h : Heap} {e : PyData} : ∀ {us : List Value} {ds : List PyData} {as : List Addr}, ReadsAll h us ds as → us.any (eqC h e) = ds.any fun d => PyData.eqv d e
  | _, _, _, .nil => rfl
  | _, _, _, .cons r t => by rw [List.any_cons, List.any_cons, eqC_of r, readsAll_any t]
theorem can_mem : ∀ {ds : List PyData}, PyData.canLayAll0 ds = true → ∀ d ∈ ds, d.canLay0 = true
  | [], _, d, hd => by cases hd
  | x :: ds, h, d, hd => by
    rw [PyData.canLayAll0, Bool.and_eq_true] at h
    rcases List.mem_cons.mp hd with rfl | hd
    · exact h.1
    · exact can_mem h.2 d hd
def rInD (K : PySem.W.Frag) (neg : Bool) : R2 := fun x y H Q => ∃ p xs ds e, y = .ref p ∧ (SqL K H p xs ∨ SqT K H p xs) ∧ DVs K H xs ds ∧ DV K H x e ∧ e.depth ≤ 60 ∧
  Q (.bl (if neg then !(ds.any fun d => PyData.eqv d e) else ds.any fun d => PyData.eqv d e)) H
theorem op_inD (hu : X.A.units + 64 < cLine) : OpR X (compareOp .In) (rInD X.K false) := by
  intro pins s σ H x y v u Q I rx ry h
  obtain ⟨p, xs, ds, e, rfl, hq, hds, hx, hm, q⟩ := h
  cases ry
  obtain ⟨bs, rb⟩ := hx.reads I rx
  have hu1 : X.A.in1.units + 61 < cLine := by have : X.A.in1.units ≤ X.A.units + 1 := by first | exact Nat.le_refl _ | simp [Around.in1]
                                              omega
  rcases hq with hq | hq
  · obtain ⟨its, r, pl, hz⟩ := I.list hq
    obtain ⟨as, ra⟩ := hds.reads I r
    refine SeqAt.in_listAt (eqC s.heap e) pl.isList (fun w hw => ?_) ⟨.bl _, H, I, rfl, ?_⟩
    · obtain ⟨d, hd, cs, rd⟩ := readsAll_mem ra w (by simpa using hw)
      rw [eqC_of rd]
      exact SeqAt.eqAt_reads d e _ s w v cs bs rd rb (can_mem hds.can d hd) hx.can (by omega)
    · rw [show its.toArray.any (eqC s.heap e) = its.any (eqC s.heap e) by simp, readsAll_any ra]
      exact q
  · obtain ⟨its, r, pl, hz⟩ := I.tuple hq
    obtain ⟨as, ra⟩ := hds.reads I r
    refine SeqAt.in_tupleAt (eqC s.heap e) pl (fun w hw => ?_) ⟨.bl _, H, I, rfl, ?_⟩
    · obtain ⟨d, hd, cs, rd⟩ := readsAll_mem ra w (by simpa using hw)
      rw [eqC_of rd]
      exact SeqAt.eqAt_reads d e _ s w v cs bs rd rb (can_mem hds.can d hd) hx.can (by omega)
    · rw [show its.toArray.any (eqC s.heap e) = its.any (eqC s.heap e) by simp, readsAll_any ra]
      exact q
theorem op_notInD (hu : X.A.units + 64 < cLine) : OpR X (compareOp .NotIn) (rInD X.K true) := by
  intro pins s σ H x y v u Q I rx ry h
  obtain ⟨p, xs, ds, e, rfl, hq, hds, hx, hm, q⟩ := h
  cases ry
  obtain ⟨bs, rb⟩ := hx.reads I rx
  have hu1 : X.A.in1.units + 61 < cLine := by have : X.A.in1.units ≤ X.A.units + 1 := by first | exact Nat.le_refl _ | simp [Around.in1]
                                              omega
  rcases hq with hq | hq
  · obtain ⟨its, r, pl, hz⟩ := I.list hq
    obtain ⟨as, ra⟩ := hds.reads I r
    refine SeqAt.notIn_listAt (eqC s.heap e) pl.isList (fun w hw => ?_) ⟨.bl _, H, I, rfl, ?_⟩
    · obtain ⟨d, hd, cs, rd⟩ := readsAll_mem ra w (by simpa using hw)
      rw [eqC_of rd]
      exact SeqAt.eqAt_reads d e _ s w v cs bs rd rb (can_mem hds.can d hd) hx.can (by omega)
    · rw [show its.toArray.any (eqC s.heap e) = its.any (eqC s.heap e) by simp, readsAll_any ra]
      exact q
  · obtain ⟨its, r, pl, hz⟩ := I.tuple hq
    obtain ⟨as, ra⟩ := hds.reads I r
    refine SeqAt.notIn_tupleAt (eqC s.heap e) pl (fun w hw => ?_) ⟨.bl _, H, I, rfl, ?_⟩
    · obtain ⟨d, hd, cs, rd⟩ := readsAll_mem ra w (by simpa using hw)
      rw [eqC_of rd]
      exact SeqAt.eqAt_reads d e _ s w v cs bs rd rb (can_mem hds.can d hd) hx.can (by omega)
    · rw [show its.toArray.any (eqC s.heap e) = its.any (eqC s.heap e) by simp, readsAll_any ra]
      exact q
/-! ### tuples of ints -/
theorem DVs.ints {K : PySem.W.Frag} {H : Hp} : ∀ ns : List Int, DVs K H (ns.map V.int) (ns.map PyData.int)
  | [] => .nil
  | n :: ns => .cons (.int n) (DVs.ints ns)
theorem DV.intT {K : PySem.W.Frag} {H : Hp} {a : Addr} {ns : List Int} (h : SqT K H a (ns.map V.int)) : DV K H (.ref a) (.tuple (ns.map PyData.int)) := .tup h (DVs.ints ns)
theorem eqvAll_ints : ∀ ns ms : List Int, PyData.eqvAll (ns.map PyData.int) (ms.map PyData.int) = decide (ns = ms)
  | [], [] => rfl
  | [], _ :: _ => rfl
  | _ :: _, [] => rfl
  | n :: ns, m :: ms => by
    rw [List.map_cons, List.map_cons, PyData.eqvAll, eqvAll_ints ns ms, PyData.eqv]
    by_cases h : n = m
    · subst h; simp
    · simp [h]
theorem eqv_ints (ns ms : List Int) : PyData.eqv (.tuple (ns.map .int)) (.tuple (ms.map .int)) = decide (ns = ms) := by rw [PyData.eqv]; exact eqvAll_ints ns ms
theorem depth_ints : ∀ ns : List Int, PyData.depthAll (ns.map .int) = 0
  | [] => rfl
  | n :: ns => by rw [List.map_cons, PyData.depthAll, depth_ints ns]; rfl
theorem depth_intT (ns : List Int) : PyData.depth (.tuple (ns.map .int)) = 1 := by rw [PyData.depth, depth_ints]
/-- pairs as values -/
theorem DVs.pairs {K : PySem.W.Frag} {H : Hp} : ∀ {zs : List V} {ps : List (Int × Int)}, Paired (fun (z : V) (p : Int × Int) => ∃ q, z = .ref q ∧ SqT K H q [.int p.1, .int p.2]) zs ps →
    DVs K H zs (ps.map fun p => .tuple [.int p.1, .int p.2])
  | _, _, .nil => .nil
  | _, _, .cons ⟨q, e, h⟩ t => by rw [e]; exact .cons (DV.intT (ns := [_, _]) h) (DVs.pairs t)
theorem any_pairs (x y : Int) : ∀ ps : List (Int × Int), ((ps.map fun p => PyData.tuple [.int p.1, .int p.2]).any fun d => PyData.eqv d (.tuple [.int x, .int y])) = decide ((x, y) ∈ ps)
  | [] => rfl
  | p :: ps => by
    rw [List.map_cons, List.any_cons, any_pairs x y ps, show PyData.eqv (.tuple [.int p.1, .int p.2]) (.tuple [.int x, .int y]) = decide ([p.1, p.2] = [x, y]) from eqv_ints [_, _] [_, _]]
    obtain ⟨a, b⟩ := p
    by_cases h : a = x ∧ b = y
    · obtain ⟨rfl, rfl⟩ := h; simp
    · have h' : ¬ ((x, y) = (a, b)) := fun z => h (by cases z; exact ⟨rfl, rfl⟩)
      simp only [List.mem_cons, h', false_or]
      have : ¬ ([a, b] = [x, y]) := fun z => h (by cases z; exact ⟨rfl, rfl⟩)
      simp [this]
theorem any_ints (x : Int) : ∀ ns : List Int, ((ns.map PyData.int).any fun d => PyData.eqv d (.int x)) = decide (x ∈ ns)
  | [] => rfl
  | n :: ns => by
    rw [List.map_cons, List.any_cons, any_ints x ns, PyData.eqv]
    by_cases h : n = x
    · subst h; simp
    · have h' : ¬ x = n := fun z => h z.symm
      simp [h, h']
end
end L2

set_option autoImplicit false
set_option linter.all false
set_option Elab.async false
set_option maxRecDepth 100000
set_option maxHeartbeats 8000000
namespace L2
open PySem PySem.Spec PyProof.Rows
/-- the heap has grown -/
def Gr (H H' : Hp) : Prop := ∀ b u, H b = some u → H' b = some u
theorem Gr.refl (H : Hp) : Gr H H := fun _ _ e => e
theorem Gr.trans {H H1 H2 : Hp} (g : Gr H H1) (g' : Gr H1 H2) : Gr H H2 := fun b u e => g' b u (g b u e)
theorem Gr.new {H : Hp} {p : Addr} {o : HO} (hp : H p = none) : Gr H (upd H p o) := fun b u e => by rw [upd_ne (ne_of_none e hp)]; exact e
theorem SqT.gr {K : PySem.W.Frag} {H H' : Hp} {a : Addr} {xs : List V} (h : SqT K H a xs) (g : Gr H H') : SqT K H' a xs := by
  rcases h with h | h
  · rcases h with h | ⟨o, h⟩
    · exact .inl (.inl (g _ _ h))
    · exact .inl (.inr ⟨o, g _ _ h⟩)
  · exact .inr h
theorem SqL.gr {K : PySem.W.Frag} {H H' : Hp} {a : Addr} {xs : List V} (h : SqL K H a xs) (g : Gr H H') : SqL K H' a xs := by
  rcases h with h | h
  · rcases h with h | ⟨o, h⟩
    · exact .inl (.inl (g _ _ h))
    · exact .inl (.inr ⟨o, g _ _ h⟩)
  · exact .inr h
theorem SqT.new {K : PySem.W.Frag} {H : Hp} {p : Addr} {xs : List V} : SqT K (upd H p (.tup xs)) p xs := .inl (.inl upd_same)
section
variable {prog : Program} {w : World} {A : Around} {E : Value → Shared → Prop} {s : Shared}
theorem getItem_tuple_whole {t sl : Addr} {items : Array Value} {vl vu : Value} {lo hi : Option Int} {Q : Value → Shared → Prop} (ht : IsTup s.heap t items) (hs : s.heap.IsSliceOf sl vl vu .none) (pl : IsPart vl lo) (pu : IsPart vu hi)
    (hw : HT.sIx items.size 0 lo = 0 ∧ HT.sIx items.size items.size hi = items.size) (h : Q (.ref t) s) : wpAny (model prog w) A (getItem (.ref t) (.ref sl)) Q E s := by
  obtain ⟨os, hos, hcs, hds⟩ := id hs
  have hTs : s.TypeIs (.ref sl) "slice" := ⟨os, hos, hcs⟩
  unfold getItem
  try with_reducible refine wpAny_holding ?_
  first | refine wpAny_bind (wpAny_pure ?_) | skip
  refine wpAny_bind (wpAny_sequenceKey ht.typeIs (by decide) ?_)
  refine wpAny_bind (wpAny_callSpecial?_slot (name := Str.ofString "__getitem__") ht.typeIs PyProof.Rows.slot_tuple_getitem
    (wpAny_call_entry PyProof.Rows.slot_tuple_getitem ht.typeIs entry_tuple_getitem ?_ (args_tuple_getitem _ _)))
  show wpAny _ _ (Builtin.Tuple.tupleItemsOf (.ref t) >>= _) _ _ s
  refine wpAny_bind (tupleItemsOf_ ht ?_)
  refine wpAny_bind (wpAny_typeOf hTs ?_)
  rw [if_pos (by decide)]
  refine wpAny_bind (HT.sliceApplied_gen hs pl pu ?_)
  rw [hw.1, hw.2]
  have e : (((0 : Nat) : Int) == 0 && (1 : Int) == 1 && (items.size - 0) == items.size) = true := by simp
  show wpAny _ _ (if (((0 : Nat) : Int) == 0 && (1 : Int) == 1 && (items.size - 0) == items.size) = true then _ else _) _ _ s
  rw [if_pos e]
  show wpAny _ _ (Builtin.Tuple.tupleIsExact (.ref t) >>= _) _ _ s
  unfold Builtin.Tuple.tupleIsExact
  refine wpAny_bind (wpAny_bind (wpAny_typeOf ht.typeIs (wpAny_pure ?_)))
  show wpAny _ _ (if (Value.type "tuple" == Value.type "tuple") = true then _ else _) _ _ s
  rw [if_pos (by decide)]
  exact wpAny_bind (wpAny_rule (wpAny_pure ⟨_, rfl, wpAny_pure h⟩))
theorem rev_pick (xs : List Value) : ((List.range xs.length).filterMap fun (m : Nat) => xs.toArray[(((xs.length : Int) - 1) + (m : Int) * (-1)).toNat]?) = xs.reverse := by
  have e : ∀ m ∈ List.range xs.length, xs.toArray[(((xs.length : Int) - 1) + (m : Int) * (-1)).toNat]? = xs.reverse[m]? := fun m hm => by
    have hm := List.mem_range.mp hm
    have : (((xs.length : Int) - 1) + (m : Int) * (-1)).toNat = xs.length - 1 - m := by omega
    rw [this, List.getElem?_reverse hm]
    simp
  have cg : ∀ (l : List Nat) (f g : Nat → Option Value), (∀ m ∈ l, f m = g m) → l.filterMap f = l.filterMap g := by
    intro l f g
    induction l with
    | nil => intro _; rfl
    | cons x l ih => intro h; rw [List.filterMap_cons, List.filterMap_cons, h x List.mem_cons_self, ih fun m hm => h m (List.mem_cons_of_mem _ hm)]
  rw [cg _ _ _ e]
  have key : ∀ (ys : List Value) (n : Nat), n = ys.length → (List.range n).filterMap (fun m => ys[m]?) = ys := by
    intro ys n hn
    subst hn
    apply List.ext_getElem?
    intro i
    have : (List.range ys.length).filterMap (fun m => ys[m]?) = ys := by
      have h1 : (List.range ys.length).map (fun m => ys[m]?) = ys.map some := by
        apply List.ext_getElem?
        intro j
        by_cases hj : j < ys.length
        · simp [hj]
        · simp [hj]
      have h2 := congrArg (fun l => l.filterMap id) h1
      simpa [List.filterMap_map, Function.comp_def] using h2
    rw [this]
  exact key _ _ (by simp)
theorem adjust_rev (n : Nat) : Builtin.Slice.sliceAdjust none none (-1) (n : Int) = ((n : Int) - 1, -1) := rfl
theorem places_rev (n : Nat) : Builtin.Slice.slicePlaces ((n : Int) - 1) (-1) (-1) = n := by
  unfold Builtin.Slice.slicePlaces
  have h1 : ¬ ((-1 : Int) > 0) := by decide
  simp only [h1, if_false, Int.neg_neg, Int.ediv_one]
  split <;> omega
theorem getItem_tuple_rev {t sl : Addr} {vs : List Value} {tk : Tok} {Q : Value → Shared → Prop} (ht : IsTup s.heap t vs.toArray) (hs : s.heap.IsSliceOf sl .none .none (.int (-1) tk))
    (h : Q (.ref s.heap.objs.size) { s with heap := s.heap.push { cls := .type "tuple", data := .seq vs.reverse.toArray } }) (hsz : vs.length ≤ sizeLine) : wpAny (model prog w) A (getItem (.ref t) (.ref sl)) Q E s := by
  obtain ⟨os, hos, hcs, hds⟩ := id hs
  have hTs : s.TypeIs (.ref sl) "slice" := ⟨os, hos, hcs⟩
  unfold getItem
  try with_reducible refine wpAny_holding ?_
  first | refine wpAny_bind (wpAny_pure ?_) | skip
  refine wpAny_bind (wpAny_sequenceKey ht.typeIs (by decide) ?_)
  refine wpAny_bind (wpAny_callSpecial?_slot (name := Str.ofString "__getitem__") ht.typeIs PyProof.Rows.slot_tuple_getitem
    (wpAny_call_entry PyProof.Rows.slot_tuple_getitem ht.typeIs entry_tuple_getitem ?_ (args_tuple_getitem _ _)))
  show wpAny _ _ (Builtin.Tuple.tupleItemsOf (.ref t) >>= _) _ _ s
  refine wpAny_bind (tupleItemsOf_ ht ?_)
  refine wpAny_bind (wpAny_typeOf hTs ?_)
  rw [if_pos (by decide)]
  refine wpAny_bind (m := Builtin.Slice.sliceApplied (.ref sl) (pure (vs.toArray.size : Int))) ?_
  unfold Builtin.Slice.sliceApplied Builtin.Slice.sliceFields
  refine wpAny_bind (wpAny_bind (wpAny_field hos hds (x := .none) rfl (wpAny_bind (wpAny_field hos hds (x := .none) rfl (wpAny_bind (wpAny_field hos hds (x := .int (-1) tk) rfl (wpAny_pure ?_)))))))
  refine wpAny_bind (HT.slicePart_ (.int (-1) tk) ?_)
  show wpAny _ _ (if ((-1 : Int) == 0) = true then _ else _) _ _ s
  rw [if_neg (by decide)]
  refine wpAny_bind (HT.slicePart_ .none (wpAny_bind (HT.slicePart_ .none (wpAny_bind (wpAny_pure ?_)))))
  show wpAny _ _ (pure (((vs.toArray.size : Nat) : Int) - 1, (-1 : Int), Builtin.Slice.slicePlaces (((vs.toArray.size : Nat) : Int) - 1) (-1) (-1))) _ _ s
  rw [places_rev]
  refine wpAny_pure ?_
  have e : ¬ ((((vs.toArray.size : Int) - 1) == 0 && (-1 : Int) == 1 && vs.toArray.size == vs.toArray.size) = true) := by
    intro q
    rw [Bool.and_eq_true, Bool.and_eq_true] at q
    exact absurd (eq_of_beq q.1.2) (by decide)
  show wpAny _ _ (if (((vs.toArray.size : Int) - 1) == 0 && (-1 : Int) == 1 && vs.toArray.size == vs.toArray.size) = true then _ else _) _ _ s
  rw [if_neg e]
  simp only [List.size_toArray]
  rw [rev_pick vs]
  have htake : sizeOk (.seq vs.reverse.toArray) := by
    show vs.reverse.toArray.size ≤ sizeLine
    rw [List.size_toArray, List.length_reverse]
    exact hsz
  first
    | exact wpAny_bind (m := Builtin.Tuple.tupleExact _) (wpAny_newObj_type (wpAny_pure ⟨_, rfl, wpAny_pure h⟩) htake)
    | exact wpAny_bind (m := Builtin.Tuple.tupleExact _) (wpAny_newObj_type (wpAny_bind (wpAny_pure (wpAny_pure ⟨_, rfl, wpAny_pure h⟩))) htake)
    | exact wpAny_bind (wpAny_bind (m := Builtin.Tuple.tupleExact _) (wpAny_newObj_type (wpAny_pure (wpAny_pure ⟨_, rfl, wpAny_pure h⟩)) htake))
    | exact wpAny_bind (wpAny_bind (m := Builtin.Tuple.tupleExact _) (wpAny_newObj_type (wpAny_pure ⟨_, rfl, wpAny_pure h⟩) htake))
theorem cat_any {t b : Addr} {vs ws : List Value} {Q : Value → Shared → Prop} (ht : IsTup s.heap t vs.toArray) (hb : IsTup s.heap b ws.toArray)
    (h0 : vs = [] → Q (.ref b) s) (h1 : vs ≠ [] → ws = [] → Q (.ref t) s) (h2 : vs ≠ [] → ws ≠ [] → Q (.ref s.heap.objs.size) { s with heap := s.heap.push { cls := .type "tuple", data := .seq (vs ++ ws).toArray } })
    (hsz : vs.length + ws.length ≤ sizeLine) : wpAny (model prog w) A (binaryOp .Add (.ref t) (.ref b)) Q E s := by
  by_cases hv : vs = []
  · obtain ⟨⟨cls, dd, data, sl⟩, ho, hc, n, hd⟩ := id ht
    obtain ⟨⟨cls2, dd2, data2, sl2⟩, ho2, hc2, n2, hd2⟩ := id hb
    simp only at hc hd hc2 hd2
    subst hc hd hc2 hd2
    exact concat_meets ⟨_, ho, rfl⟩ ⟨_, ho2, rfl⟩ noFill_tuple_add seq_tuple_add PySem.F.slot_tuple_add PySem.F.entry_tuple_add (PySem.F.args_tuple_add_2 _ _)
      (tuple_addW0 t b vs.toArray ws.toArray n n2 dd dd2 sl sl2 (by simp [hv])) ⟨ho, ho2, h0 hv⟩
  · exact HT.cat_tup ht hb hv (h1 hv) (h2 hv) hsz
end
theorem noFill_tuple_mul : fillsNumberSlot (.type "tuple") "mul" = pure false :=
  PySem.fillsNumberSlot_seq (id := "tuple.__mul__") (r := some (.builtin "tuple.__rmul__")) PySem.F.slot_tuple_mul.lookup (by decide +kernel) PySem.F.slot_tuple_rmul.lookup (by decide +kernel)
theorem repeat_tuple : seqRepeat? (.type "tuple") = pure (some (.builtin "tuple.__mul__")) := by
  unfold seqRepeat?
  rw [PySem.seqSlot_of (T := "tuple") (name := "__mul__") (id := "tuple.__mul__") PySem.F.slot_tuple_mul.lookup (by decide +kernel), PySem.seqSlot_of (T := "tuple") (name := "__rmul__") (id := "tuple.__rmul__") PySem.F.slot_tuple_rmul.lookup (by decide +kernel)]
  rfl
theorem rmul_tuple (a : Int) (t : Tok) (l : Addr) (items : Array Value) (n : Nat) (dd : Option Addr) (sl : Array (Option Value)) :
    Meets (Builtin.«int.__rmul__» ⟨[.int a t, .ref l], []⟩) (fun _ R s => s.heap.get? l = some { cls := .type "tuple", dict := dd, data := .seq items n, slots := sl } ∧ R (.ok (.ret Value.notImplemented)) s) :=
  .of_wp fun prog w A R s h => by obtain ⟨hp, g, d, tk, os⟩ := s; obtain ⟨hl, h⟩ := h; wp_walk using wpAny_loadPart' hl; exact ⟨_, rfl, h⟩
theorem mul_tuple (a : Int) (t : Tok) (l : Addr) (items : Array Value) (n : Nat) (dd : Option Addr) (sl : Array (Option Value)) (hc1 : ¬ (decide (a < -(2 ^ 63)) || decide (a ≥ 2 ^ 63)) = true) (hc2 : ¬ (items.isEmpty || a == 1) = true) (hc3 : ¬ (decide (a ≤ 0) || items.isEmpty) = true)
    (hc4 : ¬ (items.size : Int) * a > (2 ^ 63 - 1) / 8) (hc5 : ¬ Builtin.Tuple.tupleTooMany ((items.size : Int) * a) = true) (hc6 : ((List.replicate a.toNat items).foldl (· ++ ·) #[]).size ≤ sizeLine) :
    Meets (Builtin.«tuple.__mul__» ⟨[.ref l, .int a t], []⟩) (fun _ R s => s.heap.get? l = some { cls := .type "tuple", dict := dd, data := .seq items n, slots := sl } ∧
      R (.ok (.ret (Value.ref s.heap.objs.size))) { s with heap := s.heap.push { cls := .type "tuple", data := .seq ((List.replicate a.toNat items).foldl (· ++ ·) #[]) } }) :=
  .of_wp fun prog w A R s h => by obtain ⟨hp, g, d, tk, os⟩ := s; obtain ⟨hl, h⟩ := h; have f1 := AutoSeq1.idx_int; have f2 := AutoSeq1.sub_tuple_tuple; wp_walk using wpAny_loadPart' hl
                                  change wpAny (model prog w) A.in1 (if (decide (a < -(2 ^ 63)) || decide (a ≥ 2 ^ 63)) = true then _ else _) _ _ _
                                  rw [if_neg hc1]
                                  wp_walk using wpAny_loadPart' hl
                                  change wpAny (model prog w) A.in1 (if (items.size : Int) * a > (2 ^ 63 - 1) / 8 then _ else _) _ _ _
                                  rw [if_neg hc4]
                                  wp_walk using wpAny_loadPart' hl
                                  exact ⟨_, rfl, h⟩
section
variable {X : Cx} {e : Expr} {te : TE} {pos p2 : Pos}
/-- t[lo:hi] -/
def rSlG (K : PySem.W.Frag) : V → Option Int → Option Int → Hp → VK → Prop := fun x lo hi H Q => ∃ a xs, x = .ref a ∧ SqT K H a xs ∧ ∀ p H', Gr H H' → SqT K H' p (cutV xs lo hi) → Q (.ref p) H'
theorem cut_whole {xs : List V} {lo hi : Option Int} (h : HT.sIx xs.length 0 lo = 0 ∧ HT.sIx xs.length xs.length hi = xs.length) : cutV xs lo hi = xs := by
  unfold cutV
  rw [h.1, h.2, List.drop_zero, Nat.sub_zero, List.take_length]
theorem sl_tupG : SlR X (rSlG X.K) := by
  intro pins s σ H x v vl vu lo hi sl Q I rx hs pl pu h
  obtain ⟨a, xs, rfl, hx, q⟩ := h
  by_cases hw : HT.sIx xs.length 0 lo = 0 ∧ HT.sIx xs.length xs.length hi = xs.length
  · cases rx
    obtain ⟨its, r, ht, hz⟩ := I.tuple hx
    have hlen : its.toArray.size = xs.length := by rw [List.size_toArray]; exact r.length.symm
    refine ⟨"tuple", _, PyProof.Rows.slot_tuple_getitem.lookup, ht.typeIs, ?_⟩
    exact getItem_tuple_whole ht hs pl pu (by rw [hlen]; exact hw) ⟨.ref a, H, I, rfl, q a H (Gr.refl _) (by rw [cut_whole hw]; exact hx)⟩
  · exact sl_tup pins s σ H (.ref a) v vl vu lo hi sl Q I rx hs pl pu ⟨a, xs, rfl, hx, hw, fun p hp => q p _ (Gr.new hp) SqT.new⟩
/-- t[::-1] -/
def tRev (K : PySem.W.Frag) (te : TE) : TE := fun σ H Q => te σ H fun x H1 => ∃ a xs, x = .ref a ∧ SqT K H1 a xs ∧ ∀ p H', Gr H1 H' → SqT K H' p xs.reverse → Q (.ref p) H'
theorem pe_rev {st : Expr} {K : PySem.W.Frag} (hK : X.K = K) (he : PE X e te) (hst : PE X st (tC (.int (-1)))) : PE X (.Subscript e (.Slice none none (some st) p2) pos) (tRev K te) := by
  subst hK
  intro pins s σ H Q I h
  refine Subscript_ (thn (he pins s σ H _ I h) fun v s1 ⟨x, H1, I1, r1, q1⟩ => ?_)
  refine wpAny_Slice ?_
  rw [evalPart_none]
  refine wpAny_pure ?_
  refine wpAny_pure ?_
  rw [evalPart_some]
  refine thn (hst pins s1 σ H1 (fun x H2 => H2 = H1 ∧ x = .int (-1)) I1 ⟨rfl, rfl⟩) fun vs s3 ⟨x3, H3, I3, r3, e3⟩ => ?_
  obtain ⟨rfl, rfl⟩ := e3
  obtain ⟨t3, rfl⟩ := r3
  have I4 : Inv X pins σ H3 { s3 with heap := s3.heap.push { cls := .type "slice", data := .fields #[.none, .none, .int (-1) t3] } } := I3.kept (t' := s3.toks) fun b ob q => Heap.get?_push_of_some _ q
  obtain ⟨a, xs, rfl, hx, q⟩ := q1
  cases r1
  obtain ⟨its, r, ht, hz⟩ := I4.tuple hx
  show wpAny (model X.prog X.w) X.A (subscriptTail e (.Slice none none (some st) p2) (.ref a) (.ref s3.heap.objs.size)) (EP X pins σ Q) X.xe { s3 with heap := s3.heap.push { cls := .type "slice", data := .fields #[.none, .none, .int (-1) t3] } }
  refine tail_any (ops := [.ref a, .ref s3.heap.objs.size]) ht.typeIs PyProof.Rows.slot_tuple_getitem.lookup (getItem_tuple_rev ht (Heap.IsSliceOf.new ..) ?_ (by rw [← r.length]; exact hz)) (by with_unfolding_all rfl)
  have hn := I4.fresh
  refine ⟨.ref _, _, I4.laid (t' := s3.toks) (o := .tup xs.reverse) (fun b ob q => Heap.get?_push_of_some _ q) (Nat.le_refl _) ⟨by rw [List.length_reverse]; exact hz, _, r.reverse, IsTup.new _ _⟩, rfl, q _ _ (Gr.new hn) SqT.new⟩
/-- t + u -/
def rCatG (K : PySem.W.Frag) : R2 := fun x y H Q => ∃ a b xs ys, x = .ref a ∧ y = .ref b ∧ SqT K H a xs ∧ SqT K H b ys ∧ xs.length + ys.length ≤ sizeLine ∧ ∀ p H', Gr H H' → SqT K H' p (xs ++ ys) → Q (.ref p) H'
theorem op_catG : OpR X (binaryOp .Add) (rCatG X.K) := by
  intro pins s σ H x y v u Q I rx ry h
  obtain ⟨a, b, xs, ys, rfl, rfl, ha, hb, hz, q⟩ := h
  cases rx
  cases ry
  obtain ⟨its, r1, p1, _⟩ := I.tuple ha
  obtain ⟨its2, r2, p2, _⟩ := I.tuple hb
  refine cat_any p1 p2 (fun z => ⟨.ref b, H, I, rfl, q b H (Gr.refl _) (by rw [r1.nil_iff.mp z]; exact hb)⟩) (fun _ z => ⟨.ref a, H, I, rfl, q a H (Gr.refl _) (by rw [r2.nil_iff.mp z, List.append_nil]; exact ha)⟩) (fun _ z => ?_) (by rw [← r1.length, ← r2.length]; exact hz)
  exact ⟨.ref s.heap.objs.size, _, I.laid (t' := s.toks) (o := .tup (xs ++ ys)) (fun b ob q => Heap.get?_push_of_some _ q) (Nat.le_refl _) ⟨by rw [List.length_append]; exact hz, _, r1.append r2, IsTup.new _ _⟩, rfl, q _ _ (Gr.new I.fresh) SqT.new⟩
/-- t * k, t not empty, k at least 2 -/
def rMulG (K : PySem.W.Frag) : R2 := fun x y H Q => ∃ a k xs, x = .ref a ∧ y = .int k ∧ SqT K H a xs ∧ xs ≠ [] ∧ 2 ≤ k ∧ k < 2 ^ 63 ∧ xs.length * k.toNat ≤ sizeLine ∧ ∀ p H', Gr H H' → SqT K H' p (List.replicate k.toNat xs).flatten → Q (.ref p) H'
theorem op_mulG : OpR X (binaryOp .Mult) (rMulG X.K) := by
  intro pins s σ H x y v u Q I rx ry h
  obtain ⟨a, k, xs, rfl, rfl, ha, hne, h1, h2, hz, q⟩ := h
  cases rx
  obtain ⟨t, rfl⟩ := ry
  obtain ⟨its, r, p1, _⟩ := I.tuple ha
  have hl := r.length
  have hi : its ≠ [] := fun z => hne (r.nil_iff.mp z)
  have hlen : its.toArray.size * k.toNat ≤ sizeLine := by rw [List.size_toArray, ← hl]; exact hz
  have hcast : ((its.toArray.size : Int)) * k = ((its.toArray.size * k.toNat : Nat) : Int) := by
    have : ((k.toNat : Nat) : Int) = k := by omega
    rw [Int.natCast_mul, this]
  have hnew : List.foldl (fun x1 x2 => x1 ++ x2) #[] (List.replicate k.toNat its.toArray) = (List.replicate k.toNat its).flatten.toArray := by
    have := foldl_rep its k.toNat []
    rw [List.nil_append] at this
    exact this
  have hsz : (List.replicate k.toNat its).flatten.length = k.toNat * its.length := len_rep its k.toNat
  obtain ⟨⟨cls, dd, data, sl⟩, ho, hc, n, hd⟩ := id p1
  simp only at hc hd
  subst hc hd
  refine wpAny_binaryOp_repeat_ref (T := "tuple") (U := "int") (by decide) ⟨_, ho, rfl⟩ (fun s' => typeIs_int s' k t) noFill_tuple_mul PySem.F.fills_int_mul PySem.F.slot_int_rmul repeat_tuple PySem.F.slot_int_index.lookup
    (call_meets PySem.F.slot_int_rmul (typeIs_int s k t) PySem.F.entry_int_rmul (PySem.F.args_int_rmul_2 _ _) (rmul_tuple k t a its.toArray n dd sl)
      ⟨ho, rfl, ⟨_, ho, rfl⟩, call_meets PySem.F.slot_tuple_mul ⟨_, ho, rfl⟩ PySem.F.entry_tuple_mul (PySem.F.args_tuple_mul_2 _ _) (mul_tuple k t a its.toArray n dd sl ?_ ?_ ?_ ?_ ?_ ?_) ⟨ho, ?_⟩⟩)
  · simp; omega
  · simp [hi]; omega
  · simp [hi]; omega
  · rw [hcast]
    have : (sizeLine : Nat) ≤ (2 ^ 63 - 1) / 8 := by decide
    omega
  · rw [hcast]
    unfold Builtin.Tuple.tupleTooMany
    intro z
    exact absurd (of_decide_eq_true z) (by omega)
  · rw [hnew, List.size_toArray, hsz, Nat.mul_comm]
    rw [List.size_toArray] at hlen
    exact hlen
  · rw [hnew]
    exact ⟨.ref s.heap.objs.size, _, I.laid (t' := s.toks) (o := .tup (List.replicate k.toNat xs).flatten) (fun b ob q => Heap.get?_push_of_some _ q) (Nat.le_refl _) ⟨by rw [len_rep, Nat.mul_comm]; exact hz, _, r.rep k.toNat, IsTup.new _ _⟩, rfl, q _ _ (Gr.new I.fresh) SqT.new⟩
end
end L2

set_option autoImplicit false
set_option linter.all false
set_option Elab.async false
set_option maxRecDepth 100000
set_option maxHeartbeats 8000000
namespace L2
open PySem PySem.Spec PyProof.Rows
theorem subTS : isSubtype (.type "tuple") (.type "set") = pure false := by rw [isSubtype_type]; kernel_rfl
theorem subTF : isSubtype (.type "tuple") (.type "frozenset") = pure false := by rw [isSubtype_type]; kernel_rfl
section
variable {prog : Program} {w : World} {A : Around} {E : Value → Shared → Prop} {s : Shared}
abbrev emptySet (led : Bool) : Obj := { cls := .type "set", dict := none, data := .set #[] 0 (.fresh 0 0 led) }
/-- what set(t) has when it is made: the things met, each once -/
def SetMade (prog : Program) (w : World) (s : Shared) (n : Nat) (ns : List Int) (r : Value) (s2 : Shared) : Prop :=
  r = .none ∧ ∃ h' tk, s2 = { s with heap := h', toks := tk } ∧ h'.SetOf (intKind prog w) s.heap.objs.size (fun k => (firstMet (fun i => ns.getD i 0) n).any (· == k)) (firstMet (fun i => ns.getD i 0) n).length ∧
    ∀ b o, b < s.heap.objs.size → s.heap.get? b = some o → h'.get? b = some o
theorem set_init_tuple {t : Addr} {items : Array Value} {ns : List Int} {led : Bool} (hh : A.handled = none) (ht : s.heap.IsTuple t items) (hi : IntsAre items.toList ns) (hb : items.size + 1 < scanBound) :
    wpAny (model prog w) A.in1 (Builtin.«set.__init__» ⟨[.ref s.heap.objs.size, .ref t], []⟩) (fun fin s2 => ∃ r, fin = .done (.ret r) ∧ SetMade prog w s items.size ns r s2) E { s with heap := s.heap.push (emptySet led) } := by
  obtain ⟨⟨ocls, odict, odata, oslots⟩, hol, hcl, nl, hdl⟩ := ht
  simp only at hcl hdl
  subst hcl; subst hdl
  have hS : (s.heap.push (emptySet led)).get? s.heap.objs.size = some (emptySet led) := Heap.get?_push_size _ rfl
  have hol' : (s.heap.push (emptySet led)).get? t = some { cls := .type "tuple", dict := odict, data := .seq items nl, slots := oslots } := Heap.get?_push_of_some _ hol
  have hsls := subTS
  have hslf := subTF
  have hne : (Value.type "tuple" == Value.type "dict") = false := by decide
  have hl1 : (s.heap.push (emptySet led)).IsTuple t items := ⟨_, hol', rfl, nl, rfl⟩
  unfold Builtin.«set.__init__» noKeywords Builtin.Frozenset.updateFrom
  generalize hPI : pyIter = PI
  wp_walk
  subst hPI
  refine wpAny_pyIter_tuple hl1 ?_
  refine wpAny_bind (wpAny_runValue ?_)
  have hlt : t < s.heap.objs.size := Heap.lt_size hol
  have hh3 : A.in1.in1.handled = none := by simp [hh]
  have ez : (s.heap.push (emptySet led)).objs.size = s.heap.objs.size + 1 := Heap.size_push ..
  have hneI : t ≠ (s.heap.push (emptySet led)).objs.size := by rw [ez]; exact Nat.ne_of_lt (Nat.lt_succ_of_lt hlt)
  have hSf : s.heap.objs.size ∉ [(s.heap.push (emptySet led)).objs.size, t] := by
    rw [ez]; simp only [List.mem_cons, List.mem_singleton, List.not_mem_nil, or_false, not_or]
    exact ⟨Nat.ne_of_lt (Nat.lt_succ_self _), Nat.ne_of_gt hlt⟩
  have hl2 : ((s.heap.push (emptySet led)).push { cls := .type "tuple_iterator", data := .fields #[.ref t, .int 0 0] }).IsTuple t items := tup_at hl1 fun o e => Heap.get?_push_of_some _ e
  refine codeAny_set_update_loopS ((Walks.tuple hh3 _ t hneI items).toS) s.heap.objs.size hSf (fun i => ns.getD i 0) (fun i v hv => IntsAre.int_at hi i v (by rw [Array.getElem?_toList]; exact hv)) hb (items.size - 0) 0 _ (by omega) (Nat.zero_le _) ?_ ?_ ?_
  · exact ⟨⟨_, Heap.get?_push_size _ rfl, rfl, rfl⟩, hl2⟩
  · exact SetOf_congr ((setObjOf_fresh (knd := intKind prog w) led).setOf (Heap.get?_push_of_some _ hS) (by unfold scanBound; omega)) (fun _ => rfl) rfl
  · intro s' hm hS'
    obtain ⟨h', g', d', tk', os'⟩ := s'
    have eg : g' = s.gens := hm.gens
    have ed : d' = s.drawn := hm.drawn
    have eo : os' = s.os := hm.os
    subst eg; subst ed; subst eo
    show wpAny _ _ _ _ _ _
    refine wpAny_pure ?_
    show wpAny _ _ (ret Value.none) _ _ _
    refine wpAny_pure ⟨_, rfl, rfl, h', tk', rfl, hS', fun b o hb e => hm.heap b o ?_ (Heap.get?_push_of_some _ (Heap.get?_push_of_some _ e))⟩
    rw [ez]
    simp only [List.mem_cons, List.mem_singleton, List.not_mem_nil, or_false, not_or]
    exact ⟨Nat.ne_of_lt hb, Nat.ne_of_lt (Nat.lt_succ_of_lt hb)⟩
theorem call_set_tuple {t : Addr} {items : Array Value} {ns : List Int} {Q : Value → Shared → Prop} (hh : A.handled = none) (ht : s.heap.IsTuple t items) (hi : IntsAre items.toList ns) (hb : items.size + 1 < scanBound)
    (h : ∀ (h' : Heap) (tk : Nat), h'.SetOf (intKind prog w) s.heap.objs.size (fun k => (firstMet (fun i => ns.getD i 0) items.size).any (· == k)) (firstMet (fun i => ns.getD i 0) items.size).length →
      (∀ b o, b < s.heap.objs.size → s.heap.get? b = some o → h'.get? b = some o) → Q (.ref s.heap.objs.size) { s with heap := h', toks := tk }) :
    wpAny (model prog w) A (call (.type "set") [.ref t]) Q E s := by
  obtain ⟨c, tl, hmro⟩ := PySem.F.called_set.mro
  have hmade := PySem.F.called_set.made
  have hsub := PySem.F.called_set.sub
  have h1 := PySem.F.called_set.notType
  have h2 := PySem.F.called_set.canCreate
  have hct := PySem.F.typeCall_set_1 (.ref t)
  refine wpAny_call (codeAny_of_tree ?_)
  show wpAny _ _ (callAny (.type "set") _) _ _ _
  refine wpAny_pure ⟨Code.quiet_builtin _ (by decide +kernel), codeAny_builtin PySem.F.entry_type_call ?_⟩
  rw [Around.under_plain (weight_type_call_type "set" [.ref t] []) rfl]
  repeat (any_goals (first | assumption | wp_step))
  refine codeAny_mono (code_set_new_1 (.ref t) (E := E) (Q₁ := fun obj s₁ => ∃ led : Bool, obj = .ref s.heap.objs.size ∧ s₁ = { s with heap := s.heap.push (emptySet led) }) fun led => ⟨led, rfl, rfl⟩) fun r s₁ hr => ?_
  match r, hr with
  | .error e, hr => exact hr
  | .ok (.ret obj), hr =>
    obtain ⟨led, rfl, rfl⟩ := hr
    have hS : (s.heap.push (emptySet led)).get? s.heap.objs.size = some (emptySet led) := Heap.get?_push_size _ rfl
    have hT : Shared.TypeIs { s with heap := s.heap.push (emptySet led) } (.ref s.heap.objs.size) "set" := ⟨_, hS, rfl⟩
    have hli := PySem.F.called_set.init.lookup
    have hbi := PySem.F.called_set.init.bind (.ref s.heap.objs.size)
    repeat (any_goals (first | assumption | wp_step))
    refine codeAny_mono (codeAny_call_builtin (R := wants (SetMade prog w s items.size ns) E) PySem.F.called_set.init.plain PySem.F.entry_set_init (check_set_init_1 hT ?_)) fun r₂ s₂ hr₂ => ?_
    · exact wpAny_mono (set_init_tuple (A := A.in1) (by simp [hh]) ht hi hb) (fun fin s2 z => by obtain ⟨r, rfl, z⟩ := z; exact z) fun _ _ e => e
    · match r₂, hr₂ with
      | .error e, hr₂ => exact hr₂
      | .ok (.ret r), hr₂ =>
        obtain ⟨rfl, h', tk, rfl, hS', hk'⟩ := hr₂
        repeat (any_goals (first | assumption | wp_step))
        exact h _ _ hS' hk'
end
end L2

set_option autoImplicit false
set_option linter.all false
set_option Elab.async false
set_option maxRecDepth 100000
set_option maxHeartbeats 8000000
namespace L2
open PySem PySem.Spec PyProof.Rows
section
variable (K : PySem.W.Frag)
theorem kit_int_int : PySem.W.kitOne K (.type "int") (.type "int") = some true := rfl
theorem kit_int_bool : PySem.W.kitOne K (.type "int") (.type "bool") = some false := by kernel_rfl
theorem kit_bool_bool : PySem.W.kitOne K (.type "bool") (.type "bool") = some true := rfl
theorem kit_bool_int : PySem.W.kitOne K (.type "bool") (.type "int") = some true := by kernel_rfl
theorem kit_tup_tup : PySem.W.kitOne K (.type "tuple") (.type "tuple") = some true := rfl
theorem kit_lst_tup : PySem.W.kitOne K (.type "list") (.type "tuple") = some false := by kernel_rfl
theorem kit_int_tup : PySem.W.kitOne K (.type "int") (.type "tuple") = some false := by kernel_rfl
theorem kit_bool_tup : PySem.W.kitOne K (.type "bool") (.type "tuple") = some false := by kernel_rfl
theorem kit_non_tup : PySem.W.kitOne K (.type "NoneType") (.type "tuple") = some false := by kernel_rfl
theorem kit_str_tup : PySem.W.kitOne K (.type "str") (.type "tuple") = some false := by kernel_rfl
theorem kit_lst_int : PySem.W.kitOne K (.type "list") (.type "int") = some false := by kernel_rfl
theorem kit_tup_int : PySem.W.kitOne K (.type "tuple") (.type "int") = some false := by kernel_rfl
theorem kit_non_int : PySem.W.kitOne K (.type "NoneType") (.type "int") = some false := by kernel_rfl
theorem kit_str_int : PySem.W.kitOne K (.type "str") (.type "int") = some false := by kernel_rfl
end
section
variable {X : Cx}
theorem tyOf_tup {pins : List (Addr × Obj)} {σ : St} {H : Hp} {s : Shared} {A : Around} {E : Value → Shared → Prop} {Q : Value → Shared → Prop} {a : Addr} {xs : List V} {c : Value} {b : Bool} (I : Inv X pins σ H s) (ha : SqT X.K H a xs)
    (e : PySem.W.kitOne X.K (.type "tuple") c = some b) (h : ∀ tk, Q (.bool b) { s with toks := tk }) : wpAny (model X.prog X.w) A (call (.builtin "isinstance") [.ref a, c]) Q E s := by
  obtain ⟨its, r, p, _⟩ := I.tuple ha
  obtain ⟨o, h1, h2, _⟩ := p
  exact PySem.W.kia_one PySem.W.kitx_tuple I.kIn ⟨o, h1, h2⟩ e (fun z => nomatch z) h
/-- isinstance(x, c), c a builtin class -/
def rInst (K : PySem.W.Frag) : List V → Hp → VK → Prop := fun xs H Q => ∃ x c b, xs = [x, .ty c] ∧ ((∃ t, TyOf K H x t ∧ PySem.W.kitOne K t (.type c) = some b) ∨ (∃ a ys, x = .ref a ∧ SqT K H a ys ∧ PySem.W.kitOne K (.type "tuple") (.type c) = some b)) ∧ Q (.bl b) H
theorem call_inst : CallR X (.builtin "isinstance") (rInst X.K) := by
  intro pins s σ H xs us Q I r h
  obtain ⟨x, c, b, rfl, hx, q⟩ := h
  cases r with
  | cons r1 r2 =>
    cases r2 with
    | cons r2 r3 =>
      cases r3
      cases r2
      rcases hx with ⟨t, ty, e⟩ | ⟨a, ys, rfl, ha, e⟩
      · exact isinst_ok I r1 ty e fun tk => ⟨.bl b, H, I.tok tk, rfl, q⟩
      · cases r1
        exact tyOf_tup I ha e fun tk => ⟨.bl b, H, I.tok tk, rfl, q⟩
theorem vals_bl {bs : List Bool} : ∀ {us : List Value}, Vals (bs.map V.bl) us → us = bs.map Value.bool := by
  induction bs with
  | nil => intro us r; rw [List.map_nil] at r; cases r; rfl
  | cons b bs ih =>
    intro us r
    rw [List.map_cons] at r
    cases r with
    | cons r1 r2 => cases r1; rw [ih r2]; rfl
theorem all_range (bs : List Bool) : (List.range bs.length).all (fun i => bs.getD i false) = bs.all id := by
  rw [Bool.eq_iff_iff, List.all_eq_true, List.all_eq_true]
  constructor
  · intro h b hb
    obtain ⟨i, hi, e⟩ := List.mem_iff_getElem.mp hb
    have := h i (List.mem_range.mpr hi)
    rw [List.getD_eq_getElem?_getD, List.getElem?_eq_getElem hi] at this
    rw [← e]
    exact this
  · intro h i hi
    have hi := List.mem_range.mp hi
    rw [List.getD_eq_getElem?_getD, List.getElem?_eq_getElem hi]
    exact h _ (List.getElem_mem hi)
theorem any_range (bs : List Bool) : (List.range bs.length).any (fun i => bs.getD i false) = bs.any id := by
  rw [Bool.eq_iff_iff, List.any_eq_true, List.any_eq_true]
  constructor
  · rintro ⟨i, hi, h⟩
    have hi := List.mem_range.mp hi
    rw [List.getD_eq_getElem?_getD, List.getElem?_eq_getElem hi] at h
    exact ⟨_, List.getElem_mem hi, h⟩
  · rintro ⟨b, hb, h⟩
    obtain ⟨i, hi, e⟩ := List.mem_iff_getElem.mp hb
    refine ⟨i, List.mem_range.mpr hi, ?_⟩
    rw [List.getD_eq_getElem?_getD, List.getElem?_eq_getElem hi, e]
    exact h
theorem truth_bl {prog : Program} {w : World} {A : Around} (bs : List Bool) : TruthOf prog w A (fun i v => (bs.map Value.bool).toArray[i]? = some v) (fun i => bs.getD i false) := by
  intro i v s Q E hP hQ
  have hP : (bs.map Value.bool)[i]? = some v := by simpa using hP
  rw [List.getElem?_map] at hP
  cases e : bs[i]? with
  | none => rw [e] at hP; cases hP
  | some b =>
    rw [e] at hP
    cases hP
    refine wpAny_truthy_bool ?_
    have e3 : bs.getD i false = b := by rw [List.getD_eq_getElem?_getD, e]; rfl
    have hQ : Q (bs.getD i false) s := hQ
    rw [e3] at hQ
    exact hQ
/-- all and any of a list of truths -/
def rAll (K : PySem.W.Frag) : List V → Hp → VK → Prop := fun xs H Q => ∃ (p : Addr) (bs : List Bool), xs = [.ref p] ∧ SqL K H p (bs.map V.bl) ∧ Q (.bl (bs.all id)) H
def rAny (K : PySem.W.Frag) : List V → Hp → VK → Prop := fun xs H Q => ∃ (p : Addr) (bs : List Bool), xs = [.ref p] ∧ SqL K H p (bs.map V.bl) ∧ Q (.bl (bs.any id)) H
theorem call_all (hc : X.calm = true) : CallR X (.builtin "all") (rAll X.K) := by
  intro pins s σ H xs us Q I r h
  obtain ⟨p, bs, rfl, hp, q⟩ := h
  obtain ⟨u, rfl, ru⟩ := vals1 r
  cases ru
  obtain ⟨its, rv, pl, hz⟩ := I.list hp
  have e := vals_bl rv
  subst e
  have hlt : p < s.heap.objs.size := by obtain ⟨o, ho, _⟩ := pl.isList; exact Heap.lt_size ho
  refine call_all_walk (wpAny_pyIter_list pl.isList ?_)
  refine ⟨_, _, _, _, _, _, fun i => bs.getD i false, rfl, Walks.list (by have := I.ok.hd hc; simp [this]) _ p (Nat.ne_of_lt hlt) (bs.map Value.bool).toArray, ⟨⟨_, Heap.get?_push_size _ rfl, rfl, rfl⟩, pl.isList.push _⟩, truth_bl bs, fun h' tk hk => ?_⟩
  have e2 : (List.range (bs.map Value.bool).toArray.size).all (fun i => bs.getD i false) = bs.all id := by simpa using all_range bs
  refine ⟨.bl (bs.all id), H, I.kept (t' := tk) fun b o e => hk b o ?_ (Heap.get?_push_of_some _ e), by rw [e2]; rfl, q⟩
  simp only [List.mem_singleton]
  exact Nat.ne_of_lt (Heap.lt_size e)
theorem call_any (hc : X.calm = true) : CallR X (.builtin "any") (rAny X.K) := by
  intro pins s σ H xs us Q I r h
  obtain ⟨p, bs, rfl, hp, q⟩ := h
  obtain ⟨u, rfl, ru⟩ := vals1 r
  cases ru
  obtain ⟨its, rv, pl, hz⟩ := I.list hp
  have e := vals_bl rv
  subst e
  have hlt : p < s.heap.objs.size := by obtain ⟨o, ho, _⟩ := pl.isList; exact Heap.lt_size ho
  refine call_any_walk (wpAny_pyIter_list pl.isList ?_)
  refine ⟨_, _, _, _, _, _, fun i => bs.getD i false, rfl, Walks.list (by have := I.ok.hd hc; simp [this]) _ p (Nat.ne_of_lt hlt) (bs.map Value.bool).toArray, ⟨⟨_, Heap.get?_push_size _ rfl, rfl, rfl⟩, pl.isList.push _⟩, truth_bl bs, fun h' tk hk => ?_⟩
  have e2 : (List.range (bs.map Value.bool).toArray.size).any (fun i => bs.getD i false) = bs.any id := by simpa using any_range bs
  refine ⟨.bl (bs.any id), H, I.kept (t' := tk) fun b o e => hk b o ?_ (Heap.get?_push_of_some _ e), by rw [e2]; rfl, q⟩
  simp only [List.mem_singleton]
  exact Nat.ne_of_lt (Heap.lt_size e)
/-- the things of a list of ints, each once -/
def onceI (ns : List Int) : List Int := firstMet (fun i => ns.getD i 0) ns.length
def rSet (K : PySem.W.Frag) : List V → Hp → VK → Prop := fun xs H Q => ∃ (p : Addr) (ns : List Int), xs = [.ref p] ∧ SqT K H p (ns.map V.int) ∧ ns.length + 1 < scanBound ∧ ∀ l, H l = none → Q (.ref l) (upd H l (.set (fun k => (onceI ns).any (· == k)) (onceI ns).length))
theorem call_setT (hc : X.calm = true) : CallR X (.type "set") (rSet X.K) := by
  intro pins s σ H xs us Q I r h
  obtain ⟨p, ns, rfl, hp, hb, q⟩ := h
  obtain ⟨u, rfl, ru⟩ := vals1 r
  cases ru
  obtain ⟨its, rv, pl, hz⟩ := I.tuple hp
  have hl : its.toArray.size = ns.length := by have := rv.length; simpa using this.symm
  refine call_set_tuple (I.ok.hd hc) (show s.heap.IsTuple p its.toArray from pl) (intsAre_of rv) (by rw [hl]; exact hb) fun h' tk hS hk => ?_
  rw [hl] at hS
  exact ⟨.ref s.heap.objs.size, _, I.laid (t' := tk) (o := .set (fun k => (onceI ns).any (· == k)) (onceI ns).length) (fun b o e => hk b o (Heap.lt_size e) e) (Nat.le_refl _) hS, rfl, q _ I.fresh⟩
theorem call_lenS : CallR X (.builtin "len") (fun xs H Q => ∃ a S n, xs = [V.ref a] ∧ H a = some (.set S n) ∧ n < 5000 ∧ Q (.int n) H) := by
  intro pins s σ H xs us Q I r h
  obtain ⟨a, S, n, rfl, ha, hn, q⟩ := h
  obtain ⟨u, rfl, ru⟩ := vals1 r
  cases ru
  have hS : s.heap.SetOf (intKind X.prog X.w) a S n := I.hok a _ ha
  obtain ⟨o, ho, hso⟩ := hS.objOf
  obtain ⟨hex, es, ep, t, hd, _, _, hn', hf⟩ := hso
  subst hn'
  exact call_len_set ho hex hd hf (by omega) ⟨.int es.size, H, I.tok _, ⟨_, rfl⟩, q⟩
end
theorem dedup_le (ns : List Int) : ∀ acc : List Int, (ns.foldl step_dedup acc).length ≤ acc.length + ns.length := by
  induction ns with
  | nil => intro acc; exact Nat.le_refl _
  | cons n ns ih =>
    intro acc
    have := ih (step_dedup acc n)
    rw [List.foldl_cons, List.length_cons]
    rw [step_length] at this
    split at this <;> omega
theorem dedup_eq (ns : List Int) : ∀ acc : List Int, (ns.foldl step_dedup acc).length = acc.length + ns.length ↔ ns.Nodup ∧ ∀ x ∈ ns, x ∉ acc := by
  induction ns with
  | nil => intro acc; simp
  | cons n ns ih =>
    intro acc
    rw [List.foldl_cons, List.length_cons]
    have hs := step_length acc n
    by_cases h : acc.any (· == n) = true
    · rw [if_pos h] at hs
      have hle := dedup_le ns (step_dedup acc n)
      have hm : n ∈ acc := by simpa using h
      constructor
      · intro e; omega
      · intro e; exact absurd hm (e.2 n List.mem_cons_self)
    · rw [if_neg h] at hs
      have hm : n ∉ acc := by simpa using h
      have hmem : ∀ x, x ∈ step_dedup acc n ↔ x ∈ acc ∨ x = n := fun x => by
        unfold step_dedup
        rw [if_neg h]
        simp
      have key := ih (step_dedup acc n)
      rw [hs] at key
      rw [show acc.length + (ns.length + 1) = acc.length + 1 + ns.length by omega, key, List.nodup_cons]
      constructor
      · rintro ⟨h1, h2⟩
        refine ⟨⟨fun z => h2 n z ((hmem n).mpr (.inr rfl)), h1⟩, fun x hx => ?_⟩
        rcases List.mem_cons.mp hx with rfl | hx
        · exact hm
        · exact fun z => h2 x hx ((hmem x).mpr (.inl z))
      · rintro ⟨⟨h0, h1⟩, h2⟩
        refine ⟨h1, fun x hx z => ?_⟩
        rcases (hmem x).mp z with z | z
        · exact h2 x (List.mem_cons_of_mem _ hx) z
        · exact h0 (z ▸ hx)
theorem range_getD (ns : List Int) : (List.range ns.length).map (fun i => ns.getD i 0) = ns := by
  apply List.ext_getElem?
  intro i
  by_cases h : i < ns.length
  · simp [h]
  · simp [h]
theorem onceI_le (ns : List Int) : (onceI ns).length ≤ ns.length := firstMet_length_le _ _
theorem onceI_eq (ns : List Int) : (onceI ns).length = ns.length ↔ ns.Nodup := by
  unfold onceI firstMet
  rw [range_getD]
  have := dedup_eq ns []
  simpa using this
end L2

set_option autoImplicit false
set_option linter.all false
set_option Elab.async false
set_option maxRecDepth 100000
set_option maxHeartbeats 8000000
namespace L2
open PySem PySem.Spec PyProof.Rows
section
variable {prog : Program} {w : World} {A : Around} {E : Value → Shared → Prop} {s : Shared}
/-- an enumerate of a tuple, with what it has made: the iterator at n, itself behind it -/
abbrev IsEn (h : Heap) (n : Addr) (f0 : Value) (f1 : Bool) (i : Int) (old : Value) : Prop :=
  h.get? (n + 1) = some { cls := .type "enumerate", dict := none, data := .fields #[f0, .bool f1, .ref n, rawInt i, .none, old], slots := #[] }
structure EnSt (h : Heap) (n l : Addr) (i : Nat) : Prop where
  eo : ∃ f0 f1 old, IsEn h n f0 f1 i old ∧ F0 f0
  k1 : h.IsTupleIter n l i
theorem EnSt.keep {h h' : Heap} {n l : Addr} {i : Nat} (z : EnSt h n l i) (k : ∀ b ∈ [n, n + 1], ∀ o, h.get? b = some o → h'.get? b = some o) : EnSt h' n l i := by
  obtain ⟨f0, f1, old, e, r⟩ := z.eo
  exact ⟨⟨f0, f1, old, k _ (by simp) _ e, r⟩, itr_at z.k1 (k _ (by simp))⟩
theorem en_isFree {n : Addr} {f0 old : Value} {f1 : Bool} {i : Int} {Q : Bool → Shared → Prop} (hz : IsEn s.heap n f0 f1 i old) (hf : F0 f0)
    (h : ∀ b h' f1, IsEn h' n f0 f1 i old → Heap.SameBut (n + 1) s.heap h' → Q b { s with heap := h' }) : wpAny (model prog w) A (Builtin.SmallTypes.ownedTupleIsFree (.ref (n + 1))) Q E s := by
  unfold Builtin.SmallTypes.ownedTupleIsFree
  rcases hf with rfl | ⟨T, rfl⟩
  · exact wpAny_bind (wpAny_field hz rfl (x := .none) rfl (wpAny_pure (h true s.heap f1 hz (sb_refl _ _))))
  · refine wpAny_bind (wpAny_field hz rfl (x := rawInt T) rfl ?_)
    show wpAny _ _ (loadIfAlive (T : Int).toNat >>= _) _ _ _
    refine wpAny_bind (any_alive ?_)
    cases e : (s.heap.get? (T : Int).toNat).isNone with
    | true => exact wpAny_pure (h true s.heap f1 hz (sb_refl _ _))
    | false =>
      simp only [Bool.false_eq_true, if_false]
      refine wpAny_bind (wpAny_field hz rfl (x := .bool f1) rfl ?_)
      cases f1 with
      | true => exact wpAny_pure (h false s.heap true hz (sb_refl _ _))
      | false =>
        show wpAny _ _ (setField (.ref (n + 1)) 1 (.bool true) >>= _) _ _ _
        exact wpAny_bind (wpAny_setField_rec hz (by simp) fun h' hz' hs' => wpAny_pure (h false h' true hz' hs'))
theorem en_item {n l : Addr} {i : Nat} {xs : Array Value} {x : Value} {Q : Option Value → Shared → Prop} (z : EnSt s.heap n l i) (o1 : l ≠ n) (o2 : l ≠ n + 1) (hl : s.heap.IsTuple l xs) (hx : xs[i]? = some x)
    (hQ : ∀ h' t, EnSt h' n l (i + 1) → IsPair h' s.heap.objs.size (.int i t) x → h'.objs.size = s.heap.objs.size + 1 → (∀ b o, b ≠ n → b ≠ n + 1 → s.heap.get? b = some o → h'.get? b = some o) → Q (some (.ref s.heap.objs.size)) { s with heap := h', toks := s.toks + 1 }) :
    wpAny (model prog w) A (pyNext (.ref (n + 1))) Q E s := by
  obtain ⟨f0, f1, old, he, hf⟩ := z.eo
  have k1 := z.k1
  have hT : s.TypeIs (.ref (n + 1)) "enumerate" := ⟨_, he, rfl⟩
  have d01 : n ≠ n + 1 := ne_add0 (by decide)
  unfold pyNext
  refine wpAny_bind (wpAny_attempt (wpAny_callSpecial?_slot (name := Str.ofString "__next__") hT PySem.F.slot_enumerate_next (wpAny_call_entry PySem.F.slot_enumerate_next hT PySem.F.entry_enumerate_next ?_ (PySem.F.args_enumerate_next_1 _))))
  show wpAny _ _ (field (.ref (n + 1)) 2 >>= _) _ _ _
  refine wpAny_bind (wpAny_field he rfl (x := .ref n) rfl ?_)
  refine wpAny_bind (tupNext k1 hl hx fun h₁ k₁ s₁ => ?_)
  have e₁ : IsEn h₁ n f0 f1 i old := s₁.extBut _ _ d01.symm he
  show wpAny _ _ (field (.ref (n + 1)) 3 >>= _) _ _ _
  refine wpAny_bind (wpAny_field e₁ rfl (x := rawInt i) rfl ?_)
  show wpAny _ _ (field (.ref (n + 1)) 4 >>= _) _ _ _
  refine wpAny_bind (wpAny_field e₁ rfl (x := .none) rfl ?_)
  show wpAny _ _ (mkInt i >>= _) _ _ _
  refine wpAny_bind (wpAny_mkInt ?_)
  show wpAny _ _ (setField (.ref (n + 1)) 3 (rawInt ((i : Int) + 1)) >>= _) _ _ _
  refine wpAny_bind (wpAny_setField_rec e₁ (by simp) fun h₂ e₂ s₂ => ?_)
  replace e₂ : IsEn h₂ n f0 f1 ((i : Int) + 1) old := e₂
  replace s₂ : Heap.SameBut (n + 1) h₁ h₂ := s₂
  show wpAny _ _ (setField (.ref (n + 1)) 4 .none >>= _) _ _ _
  refine wpAny_bind (wpAny_setField_rec e₂ (by simp) fun h₃ e₃ s₃ => ?_)
  replace e₃ : IsEn h₃ n f0 f1 ((i : Int) + 1) old := e₃
  replace s₃ : Heap.SameBut (n + 1) h₂ h₃ := s₃
  refine wpAny_bind (wpAny_newTuple (items := [.int i s.toks, x]) ?_)
  have hsz : h₃.objs.size = s.heap.objs.size := by rw [s₃.1, s₂.1, s₁.1]
  have e₄ : IsEn (h₃.push { cls := .type "tuple", data := .seq #[.int i s.toks, x] }) n f0 f1 ((i : Int) + 1) old := Heap.get?_push_of_some _ e₃
  have p₄ : IsPair (h₃.push { cls := .type "tuple", data := .seq #[.int i s.toks, x] }) s.heap.objs.size (.int i s.toks) x := by rw [← hsz]; exact Heap.get?_push_size _ rfl
  have z₄ : (h₃.push { cls := .type "tuple", data := .seq #[.int i s.toks, x] }).objs.size = s.heap.objs.size + 1 := by rw [Heap.size_push, hsz]
  have q₄ : ∀ b o, b ≠ n → b ≠ n + 1 → s.heap.get? b = some o → (h₃.push { cls := .type "tuple", data := .seq #[.int i s.toks, x] }).get? b = some o := fun b o b1 b2 e => Heap.get?_push_of_some _ (s₃.extBut b o b2 (s₂.extBut b o b2 (s₁.extBut b o b1 e)))
  have k₄ : (h₃.push { cls := .type "tuple", data := .seq #[.int i s.toks, x] }).IsTupleIter n l (i + 1) := itr_at (itr_sb (itr_sb k₁ s₂ d01) s₃ d01) fun o e => Heap.get?_push_of_some _ e
  show wpAny _ _ (Builtin.SmallTypes.ownedTupleIsFree (.ref (n + 1)) >>= _) _ _ { s with heap := h₃.push { cls := .type "tuple", data := .seq #[.int i s.toks, x] }, toks := s.toks + 1 }
  have elt : n + 1 < s.heap.objs.size := Heap.lt_size he
  rw [show (Value.ref h₃.objs.size) = Value.ref s.heap.objs.size by rw [hsz]]
  generalize h₃.push { cls := .type "tuple", data := .seq #[.int i s.toks, x] } = h₄ at e₄ p₄ z₄ q₄ k₄ ⊢
  refine wpAny_bind (en_isFree (s := { s with heap := h₄, toks := s.toks + 1 }) e₄ hf fun b h₅ g1 e₅ s₅ => ?_)
  replace s₅ : Heap.SameBut (n + 1) h₄ h₅ := s₅
  have k₅ := itr_sb k₄ s₅ d01
  have p₅ : IsPair h₅ s.heap.objs.size (.int i s.toks) x := s₅.extBut _ _ (Nat.ne_of_gt elt) p₄
  have q₅ : ∀ b o, b ≠ n → b ≠ n + 1 → s.heap.get? b = some o → h₅.get? b = some o := fun b o b1 b2 e => s₅.extBut b o b2 (q₄ b o b1 b2 e)
  cases b with
  | false =>
    simp only [Bool.false_eq_true, if_false]
    exact wpAny_pure ⟨_, rfl, wpAny_pure (hQ h₅ _ ⟨⟨_, _, _, e₅, hf⟩, k₅⟩ p₅ (s₅.1.trans z₄) q₅)⟩
  | true =>
    simp only [if_true]
    refine wpAny_bind (wpAny_rule ?_)
    refine wpAny_bind (wpAny_field e₅ rfl (x := old) rfl ?_)
    refine wpAny_bind (wpAny_setField_rec e₅ (by simp) fun h₆ e₆ s₆ => ?_)
    replace e₆ : IsEn h₆ n f0 g1 ((i : Int) + 1) x := e₆
    replace s₆ : Heap.SameBut (n + 1) h₅ h₆ := s₆
    refine wpAny_bind ?_
    unfold Builtin.SmallTypes.ownedTupleHandOut
    refine wpAny_bind (wpAny_setField_rec e₆ (by simp) fun h₇ e₇ s₇ => ?_)
    replace e₇ : IsEn h₇ n (rawInt s.heap.objs.size) g1 ((i : Int) + 1) x := e₇
    replace s₇ : Heap.SameBut (n + 1) h₆ h₇ := s₇
    refine wpAny_setField_rec e₇ (by simp) fun h₈ e₈ s₈ => ?_
    replace e₈ : IsEn h₈ n (rawInt s.heap.objs.size) false ((i : Int) + 1) x := e₈
    replace s₈ : Heap.SameBut (n + 1) h₇ h₈ := s₈
    have up : ∀ b o, b ≠ n + 1 → h₅.get? b = some o → h₈.get? b = some o := fun b o hb e => s₈.extBut b o hb (s₇.extBut b o hb (s₆.extBut b o hb e))
    exact wpAny_bind (wpAny_letGo (wpAny_pure ⟨_, rfl, wpAny_pure (hQ h₈ _ ⟨⟨_, _, _, e₈, .inr ⟨_, rfl⟩⟩, itr_at k₅ fun o e => up _ o d01 e⟩ (up _ _ (Nat.ne_of_gt elt) p₅) (s₈.1.trans (s₇.1.trans (s₆.1.trans (s₅.1.trans z₄)))) fun b o b1 b2 e => up b o b2 (q₅ b o b1 b2 e))⟩))
theorem en_end {n l : Addr} {i : Nat} {xs : Array Value} {Q : Option Value → Shared → Prop} (hh : A.handled = none) (z : EnSt s.heap n l i) (hl : s.heap.IsTuple l xs) (hx : xs[i]? = none)
    (hQ : ∀ h', (∀ b o, b ≠ n → s.heap.get? b = some o → h'.get? b = some o) → Q none { s with heap := h' }) : wpAny (model prog w) A (pyNext (.ref (n + 1))) Q E s := by
  obtain ⟨f0, f1, old, he, hf⟩ := z.eo
  have hT : s.TypeIs (.ref (n + 1)) "enumerate" := ⟨_, he, rfl⟩
  unfold pyNext
  refine wpAny_bind (wpAny_attempt (wpAny_callSpecial?_slot (name := Str.ofString "__next__") hT PySem.F.slot_enumerate_next (wpAny_call_entry PySem.F.slot_enumerate_next hT PySem.F.entry_enumerate_next ?_ (PySem.F.args_enumerate_next_1 _))))
  show wpAny _ _ (field (.ref (n + 1)) 2 >>= _) _ _ _
  refine wpAny_bind (wpAny_field he rfl (x := .ref n) rfl ?_)
  refine wpAny_bind (tupStop hh z.k1 hl hx fun h' e hs he' => ?_)
  obtain ⟨o, ho, hc⟩ := he'
  exact wpAny_bind (wpAny_isInstance (T := "StopIteration") (b := true) ⟨o, ho, hc⟩ isSubtype_stop (wpAny_pure (hQ _ hs)))
theorem en_go {n l : Addr} {i : Nat} {tg : Expr} {u : Value} {Q : Unit → Shared → Prop} (z : EnSt s.heap n l i) (h : ∀ h', EnSt h' n l i → Heap.SameBut (n + 1) s.heap h' → Q () { s with heap := h' }) :
    wpAny (model prog w) A (letOwnedTupleGo tg (.ref (n + 1)) u) Q E s := by
  have hz := h s.heap z (sb_refl _ _)
  obtain ⟨f0, f1, old, e, hf⟩ := id z.eo
  unfold letOwnedTupleGo
  cases tg <;> first
    | exact wpAny_pure hz
    | (cases u <;> first
        | exact wpAny_pure hz
        | (refine wpAny_bind (wpAny_load e ?_)
           dsimp only
           split
           · refine wpAny_bind (wpAny_rule ?_)
             show wpAny _ _ (setField (.ref (n + 1)) 0 .none) Q E s
             exact wpAny_setField_rec e (by simp) fun h' hz' hs' => h h' ⟨⟨.none, f1, old, hz', .inl rfl⟩, itr_sb z.k1 hs' (ne_add0 (by decide))⟩ hs'
           · exact wpAny_pure hz))
theorem en_self {n l : Addr} {i : Nat} {Q : Value → Shared → Prop} (z : EnSt s.heap n l i) (h : Q (.ref (n + 1)) s) : wpAny (model prog w) A (pyIter (.ref (n + 1))) Q E s := by
  obtain ⟨f0, f1, old, e, hf⟩ := z.eo
  have hT : s.TypeIs (.ref (n + 1)) "enumerate" := ⟨_, e, rfl⟩
  refine wpAny_pyIter_slot hT PySem.F.slot_enumerate_iter (wpAny_call_entry PySem.F.slot_enumerate_iter hT PySem.F.entry_enumerate_iter ?_ (PySem.F.args_enumerate_iter_1 _))
  show wpAny _ _ (ret (.ref (n + 1))) _ _ s
  exact wpAny_pure ⟨_, rfl, "enumerate", _, hT, PySem.F.slot_enumerate_next.lookup, h⟩
abbrev eH1 (h : Heap) (l : Addr) : Heap := h.push { cls := .type "tuple_iterator", data := .fields #[.ref l, .int 0 0] }
abbrev eH2 (h : Heap) (l : Addr) : Heap := (eH1 h l).push { cls := .type "enumerate", data := .fields #[.none, .bool false, .ref h.objs.size, rawInt 0, .none, .none] }
theorem meets_enT (l : Addr) (xs : Array Value) :
    Meets (Builtin.«enumerate.__new__» ⟨[.type "enumerate", .ref l], []⟩) (fun _ R s => s.heap.IsTuple l xs ∧ R (.ok (.ret (.ref (eH1 s.heap l).objs.size))) { s with heap := eH2 s.heap l }) :=
  .of_wp fun prog w A R s h => by
    obtain ⟨hp, g, d, tk, os⟩ := s; obtain ⟨hl, h⟩ := h
    have hsub := sub_enumerate
    have hL : Heap.IsTuple (Shared.heap ⟨hp, g, d, tk, os⟩) l xs := hl
    wp_walk
    refine wpAny_stack_any fun st => wpAny_pure ?_
    split
    · rename_i c _ _ _ _ _
      cases (c == Value.type "enumerate")
      · wp_walk using wpAny_pyIter_tuple hL
        exact ⟨_, rfl, h⟩
      · wp_walk using wpAny_pyIter_tuple hL
        exact ⟨_, rfl, h⟩
    · wp_walk using wpAny_pyIter_tuple hL
      exact ⟨_, rfl, h⟩
theorem call_enT {l : Addr} {xs : Array Value} {Q : Value → Shared → Prop} (hl : s.heap.IsTuple l xs)
    (h : ∀ h', EnSt h' s.heap.objs.size l 0 → (∀ b o, s.heap.get? b = some o → h'.get? b = some o) → Q (.ref (s.heap.objs.size + 1)) { s with heap := h' }) :
    wpAny (model prog w) A (call (.type "enumerate") [.ref l]) Q E s := by
  refine callType_new PySem.F.called_enumerate (by decide) (PySem.F.typeCall_enumerate_1 _) (PySem.F.newCall_enumerate_1 _) (fun obj => PySem.F.args_object_init_2 obj _) PySem.F.entry_enumerate_new (meets_enT l xs) ⟨hl, ?_⟩
  have z1 : (eH1 s.heap l).objs.size = s.heap.objs.size + 1 := Heap.size_push ..
  have g2 : (eH2 s.heap l).get? (eH1 s.heap l).objs.size = some _ := Heap.get?_push_size _ rfl
  have g1 : (eH2 s.heap l).get? s.heap.objs.size = some _ := Heap.get?_push_of_some _ (Heap.get?_push_size _ rfl)
  show _ ∧ _
  rw [z1] at g2
  rw [z1]
  exact ⟨⟨_, g2, rfl⟩, h _ ⟨⟨.none, false, .none, g2, .inl rfl⟩, ⟨_, g1, rfl, rfl⟩⟩ fun b o e => Heap.get?_push_of_some _ (Heap.get?_push_of_some _ e)⟩
end
/-- enumerate of a tuple: a new pair each turn -/
def Ite (K : PySem.W.Frag) (a : Addr) : It :=
  ⟨fun i H => ∃ xs x, SqT K H a xs ∧ xs[i]? = some x, fun i H v H' => ∃ p x, v = .ref p ∧ H p = none ∧ H' = upd H p (.tup [.int i, x]) ∧ ∀ xs, SqT K H a xs → xs[i]? = some x, fun i H => ∃ xs, SqT K H a xs ∧ xs.length ≤ i⟩
theorem lt2 {n c S : Nat} (h : c ∈ [n, n + 1]) (hlt : n + 1 < S) : c < S := by
  simp only [List.mem_cons, List.not_mem_nil, or_false] at h
  omega
theorem ge2 {n c : Nat} (h : c ∈ [n, n + 1]) : n ≤ c := by
  simp only [List.mem_cons, List.not_mem_nil, or_false] at h
  omega
theorem turn_enum {P : Program} {w : World} {K : PySem.W.Frag} {tg : Expr} (a n : Addr) : Turn P w K tg (Ite K a) [n, n + 1] (n + 1) (fun i h => EnSt h n a i) where
  mem := by simp
  obj := fun i h st c hc => by
    obtain ⟨f0, f1, old, e, _⟩ := st.eo
    obtain ⟨o0, e0, _, d0⟩ := st.k1
    simp only [List.mem_cons, List.not_mem_nil, or_false] at hc
    rcases hc with rfl | rfl
    · exact ⟨_, e0, fun v z => by rw [d0] at z; cases z⟩
    · exact ⟨_, e, fun v z => by have z' : Data.fields _ = Data.cell v := z; cases z'⟩
  keep := fun i h h' st k => st.keep k
  item := by
    intro X hP hw hK hc i pins s σ H E I hf st hg
    subst hP hw hK
    obtain ⟨xs, x, hq, hx⟩ := hg
    obtain ⟨its, rv, p, hz⟩ := I.tuple hq
    obtain ⟨u, hu, ru⟩ := rv.get hx
    have off := FpOk.off I hf hq
    simp only [List.mem_cons, List.not_mem_nil, or_false, not_or] at off
    refine en_item st off.1 off.2 (show s.heap.IsTuple a its.toArray from p) (x := u) (by simpa using hu) fun h' t st' hp hsz hk => ?_
    refine ⟨_, rfl, en_go (s := { s with heap := h', toks := s.toks + 1 }) st' fun h2 st2 hs2 => ?_⟩
    obtain ⟨f0, f1, old, e4, _⟩ := id st.eo
    have hlt : ∀ c ∈ [n, n + 1], c < s.heap.objs.size := fun c hc => lt2 hc (Heap.lt_size e4)
    have I1 : Inv X pins σ (upd H s.heap.objs.size (.tup [.int i, x])) { s with heap := s.heap.push { cls := .type "tuple", data := .seq #[.int i t, u] } } :=
      I.laid (t' := s.toks) (fun b u e => Heap.get?_push_of_some _ e) (Nat.le_refl _) ⟨by show 2 ≤ sizeLine; decide, [.int i t, u], .cons ⟨t, rfl⟩ (.cons ru .nil), ⟨_, Heap.get?_push_size _ rfl, rfl, 0, rfl⟩⟩
    have hf1 : ∀ c ∈ [n, n + 1], FpOk X pins (upd H s.heap.objs.size (.tup [.int i, x])) c := fun c hc => ⟨by rw [upd_ne (Nat.ne_of_lt (hlt c hc))]; exact (hf c hc).1, (hf c hc).2⟩
    have I2 : Inv X pins σ (upd H s.heap.objs.size (.tup [.int i, x])) { s with heap := h2, toks := s.toks + 1 } := I1.turnedL (t' := s.toks + 1) hf1 fun c o hc e => by
      simp only [List.mem_cons, List.not_mem_nil, or_false, not_or] at hc
      refine hs2.extBut _ _ hc.2 ?_
      by_cases hcs : c = s.heap.objs.size
      · subst hcs
        rw [Heap.get?_push_size _ rfl] at e
        cases e
        exact hp
      · have e' : s.heap.get? c = some o := by
          rw [Heap.get?_push_ne _ _ _ hcs] at e
          exact e
        exact hk c o hc.1 hc.2 e'
    exact ⟨.ref s.heap.objs.size, _, I2, rfl, ⟨_, x, rfl, I.fresh, rfl, fun zs hz => by rw [I.tuple_inj hz hq]; exact hx⟩, st2, fun c hc => (hf1 c hc).1⟩
  done := by
    intro X hP hw hK hc i pins s σ H E I hf st hg
    subst hP hw hK
    obtain ⟨xs, hq, hx⟩ := hg
    obtain ⟨its, rv, p, hz⟩ := I.tuple hq
    have hl := rv.length
    refine en_end (I.ok.hd hc) st (show s.heap.IsTuple a its.toArray from p) (by simp; omega) fun h' hk => ⟨rfl, I.turnedL (t' := s.toks) hf fun c o hc e => ?_⟩
    simp only [List.mem_cons, List.not_mem_nil, or_false, not_or] at hc
    exact hk c o hc.1 e
  self := fun _ _ _ _ _ st h => en_self st h
section
variable {X : Cx} {tg : Expr}
def iEnum (K : PySem.W.Frag) (ta : TA) : TI := fun σ H R => ta σ H fun vs H1 => ∃ a, vs = [.ref a] ∧ (∃ xs, SqT K H1 a xs) ∧ R (Ite K a) H1
theorem pi_enum {a : Expr} {ta : TA} {p pos : Pos} (hg : Gl X "enumerate") (hm : X.mg "enumerate" = none) (ha : PA X [a] ta) (hs : starEach [a] X.env = [(false, eval a X.env)] := by rfl) : PI X tg (.Call (.Name "enumerate" p) [a] [] pos) (iEnum X.K ta) := by
  intro pins s σ H R I h
  refine Call_ (ld_blt I hg hm (u := .type "enumerate") (by decide +kernel) (PyProof.Rows.callWith_type1 (thn (ha pos pins s σ H _ I h) fun us s1 ⟨vs, H1, I1, r1, q1⟩ => ?_) hs rfl))
  obtain ⟨c, e, ⟨xs, hq1⟩, q⟩ := q1
  subst e
  cases r1 with
  | cons r rr =>
    cases rr
    cases r
    obtain ⟨its1, rv1, p1, hz1⟩ := I1.tuple hq1
    refine call_enT (show s1.heap.IsTuple c its1.toArray from p1) fun h' st k => ?_
    refine en_self (s := { s1 with heap := h' }) st ?_
    exact ⟨s1.heap.objs.size + 1, [s1.heap.objs.size, s1.heap.objs.size + 1], _, _, H1, rfl, I1.kept (t' := s1.toks) k, turn_enum c _, st, fun b hb => I1.fpOk (ge2 hb) (I1.hok.fresh (ge2 hb)), q⟩
/-- a for over enumerate -/
theorem for_enum {K : PySem.W.Frag} {a : Addr} {xs : List V} {g : TG} {tb : TS} {D : Ends} {σ : St} {H : Hp} (Pv : Nat → St → Hp → Prop) (h0 : Pv 0 σ H) (hl : ∀ i σ H, i ≤ xs.length → Pv i σ H → SqT K H a xs)
    (hs : ∀ i x p σ H, xs[i]? = some x → Pv i σ H → H p = none → g (.ref p) σ (upd H p (.tup [.int i, x])) fun σ2 H2 => tb { D with nx := Pv (i + 1), ct := Pv (i + 1), bk := D.nx } σ2 H2) (hd : ∀ σ H, Pv xs.length σ H → D.nx σ H) :
    ∃ W : Nat → Nat → St → Hp → Prop, (∃ m, W 0 m σ H) ∧ ∀ i m σ H, W i m σ H →
      ((Ite K a).stop i H ∧ D.nx σ H) ∨ ((Ite K a).go i H ∧ ∃ N : St → Hp → Prop, (∀ σ' H', N σ' H' → ∃ m', m' < m ∧ W (i + 1) m' σ' H') ∧ ∀ x H', (Ite K a).yld i H x H' → g x σ H' fun σ2 H2 => tb { D with nx := N, ct := N, bk := D.nx } σ2 H2) := by
  refine ⟨fun i m σ H => m = xs.length - i ∧ i ≤ xs.length ∧ Pv i σ H, ⟨xs.length, by simp, Nat.zero_le _, h0⟩, ?_⟩
  rintro i m σ H ⟨rfl, hi, p⟩
  have q := hl i σ H hi p
  by_cases hlt : i < xs.length
  · refine .inr ⟨⟨xs, xs[i], q, by simp [hlt]⟩, Pv (i + 1), fun σ' H' p' => ⟨xs.length - (i + 1), by omega, rfl, hlt, p'⟩, fun x H' y => ?_⟩
    obtain ⟨pp, x, rfl, hp, rfl, e⟩ := y
    exact hs i x pp σ _ (e xs q) p hp
  · have e : i = xs.length := by omega
    subst e
    exact .inl ⟨⟨xs, q, Nat.le_refl _⟩, hd σ H p⟩
end
end L2

set_option autoImplicit false
set_option linter.all false
set_option Elab.async false
set_option maxRecDepth 100000
set_option maxHeartbeats 8000000
namespace L2
open PySem PySem.Spec PyProof.Rows
section
variable {prog : Program} {w : World} {A : Around} {E : Value → Shared → Prop} {s : Shared}
theorem idx_tuple {t : Addr} {vs : List Value} {ns : List Int} {n : Int} {u : Tok} {j : Nat} {Q : Value → Shared → Prop} (ht : IsTup s.heap t vs.toArray) (hi : IntsAre vs ns) (hj : ns[j]? = some n) (hno : n ∉ ns.take j)
    (h : Q (.int j s.toks) { s with toks := s.toks + 1 }) : wpAny (model prog w) A (call (.builtin "tuple.index") [.ref t, .int n u]) Q E s := by
  have hlen : vs.length = ns.length := IntsAre.length hi
  obtain ⟨hjl, hje⟩ := List.getElem?_eq_some_iff.mp hj
  refine wpAny_call_entry PySem.F.slot_tuple_index ht.typeIs PySem.F.entry_tuple_index ?_ (PySem.F.args_tuple_index_2 _ _)
  show wpAny _ _ (Builtin.Tuple.tupleItemsOf (.ref t) >>= _) _ _ s
  refine wpAny_bind (tupleItemsOf_ ht ?_)
  refine wpAny_bind (wpAny_pure ?_)
  refine wpAny_bind (wpAny_pure ?_)
  dsimp only
  refine wpAny_bind ?_
  rw [Std.Legacy.Range.forIn_eq_forIn_range']
  have hsz : ([:min vs.toArray.size vs.toArray.size] : Std.Legacy.Range).size = ns.length := by simp [Std.Legacy.Range.size, hlen]
  show wpAny _ _ (forIn (List.range' 0 ([:min vs.toArray.size vs.toArray.size] : Std.Legacy.Range).size 1) _ _) _ _ _
  rw [hsz]
  refine wpAny_forIn_list _ (fun rest b s' => b = (none, ()) ∧ s' = s ∧ ∃ i, i ≤ j ∧ rest = List.range' i (ns.length - i) 1) _ ?_ ?_ _ _ ⟨rfl, rfl, 0, Nat.zero_le _, rfl⟩
  · rintro x rest b s' ⟨rfl, rfl, i, hij, hr⟩
    obtain ⟨m, hm⟩ : ∃ m, ns.length - i = m + 1 := ⟨ns.length - i - 1, by omega⟩
    rw [hm, List.range'_succ] at hr
    injection hr with h1 h2
    subst h1
    have hil : x < ns.length := by omega
    obtain ⟨v, hv⟩ : ∃ v, vs[x]? = some v := ⟨vs[x]'(by omega), List.getElem?_eq_getElem _⟩
    obtain ⟨t', rfl⟩ := IntsAre.int_at hi x v hv
    have hva : vs.toArray[x]? = some (.int (ns.getD x 0) t') := by simpa using hv
    rw [hva]
    have hg : ns.getD x 0 = ns[x] := by rw [List.getD_eq_getElem?_getD, List.getElem?_eq_getElem hil]; rfl
    rw [hg]
    refine wpAny_bind (wpAny_eqBool_int ?_)
    by_cases hx : x = j
    · subst hx
      rw [hje]
      simp only [beq_self_eq_true, if_true]
      exact wpAny_bind (wpAny_bind (wpAny_mkInt (wpAny_pure (wpAny_pure (wpAny_pure ⟨_, rfl, h⟩)))))
    · have hne : ¬ ns[x] = n := fun e => hno (by rw [List.mem_take_iff_getElem]; exact ⟨x, by omega, e⟩)
      rw [show (ns[x] == n) = false by simpa using hne]
      simp only [Bool.false_eq_true, if_false]
      exact wpAny_pure ⟨rfl, rfl, x + 1, by omega, by rw [h2]; congr 1; omega⟩
  · rintro b s' ⟨rfl, rfl, i, hij, hr⟩
    have := congrArg List.length hr
    simp at this
    omega
end
/-! ### tuples of which it is known that they are plain objects (their methods can be called) -/
def TN (H : Hp) (a : Addr) (xs : List V) : Prop := ∃ o : Obj, H a = some (.frz o (.tup xs)) ∧ o.dict = none
theorem TN.sq {K : PySem.W.Frag} {H : Hp} {a : Addr} {xs : List V} (h : TN H a xs) : SqT K H a xs := let ⟨o, e, _⟩ := h; .inl (.inr ⟨o, e⟩)
theorem TN.gr {H H' : Hp} {a : Addr} {xs : List V} (h : TN H a xs) (g : Gr H H') : TN H' a xs := let ⟨o, e, d⟩ := h; ⟨o, g _ _ e, d⟩
theorem TN.new {H : Hp} {p : Addr} {xs : List V} {o : Obj} (d : o.dict = none) : TN (upd H p (.frz o (.tup xs))) p xs := ⟨o, upd_same, d⟩
section
variable {X : Cx} {pins : List (Addr × Obj)} {σ : St} {H : Hp} {s : Shared}
theorem Inv.laidN {xs : List V} {us : List Value} (I : Inv X pins σ H s) (r : Vals xs us) (hz : xs.length ≤ sizeLine) :
    Inv X pins σ (upd H s.heap.objs.size (.frz { cls := .type "tuple", data := .seq us.toArray } (.tup xs))) { s with heap := s.heap.push { cls := .type "tuple", data := .seq us.toArray } } :=
  I.laid (t' := s.toks) (o := .frz { cls := .type "tuple", data := .seq us.toArray } (.tup xs)) (fun b ob q => Heap.get?_push_of_some _ q) (Nat.le_refl _) ⟨Heap.get?_push_size _ rfl, hz, us, r, IsTup.new _ _⟩
/-- tuple(list) -/
theorem call_tupleN : CallR X (.type "tuple") (fun xs H Q => ∃ p ys, xs = [.ref p] ∧ SqL X.K H p ys ∧ ∀ l H', Gr H H' → TN H' l ys → Q (.ref l) H') := by
  intro pins s σ H xs us Q I r h
  obtain ⟨p, ys, rfl, hq, q⟩ := h
  obtain ⟨u, rfl, rx⟩ := vals1 r
  cases rx
  obtain ⟨its, r', pl, hz⟩ := I.list hq
  have hlen := r'.length
  refine call_tuple_list pl.isList (fun h' kp => ?_) (by simp only [List.size_toArray] <;> omega)
  have I1 : Inv X pins σ H { s with heap := h' } := I.kept (t' := s.toks) kp
  exact ⟨.ref h'.objs.size, _, I1.laidN r' hz, rfl, q _ _ (Gr.new (I1.hok.fresh (Nat.le_refl _))) (TN.new rfl)⟩
theorem sl_tupN : SlR X (fun x lo hi H Q => ∃ a xs, x = .ref a ∧ TN H a xs ∧ ∀ p H', Gr H H' → TN H' p (cutV xs lo hi) → Q (.ref p) H') := by
  intro pins s σ H x v vl vu lo hi sl Q I rx hs pl pu h
  obtain ⟨a, xs, rfl, hx, q⟩ := h
  cases rx
  obtain ⟨its, r, ht, hz⟩ := I.tuple hx.sq
  have hlen : its.toArray.size = xs.length := by rw [List.size_toArray]; exact r.length.symm
  refine ⟨"tuple", _, PyProof.Rows.slot_tuple_getitem.lookup, ht.typeIs, ?_⟩
  by_cases hw : HT.sIx xs.length 0 lo = 0 ∧ HT.sIx xs.length xs.length hi = xs.length
  · exact getItem_tuple_whole ht hs pl pu (by rw [hlen]; exact hw) ⟨.ref a, H, I, rfl, q a H (Gr.refl _) (by rw [cut_whole hw]; exact hx)⟩
  · refine HT.getItem_tuple_cut ht hs pl pu (by rw [hlen]; exact hw) ?_ (by rw [hlen]; exact hz)
    rw [hlen]
    exact ⟨.ref s.heap.objs.size, _, I.laidN ((r.drop (HT.sIx xs.length 0 lo)).take (HT.sIx xs.length xs.length hi - HT.sIx xs.length 0 lo)) (Nat.le_trans (cutV_length xs lo hi) hz), rfl, q _ _ (Gr.new I.fresh) (TN.new rfl)⟩
theorem op_catN : OpR X (binaryOp .Add) (fun x y H Q => ∃ a b xs ys, x = .ref a ∧ y = .ref b ∧ TN H a xs ∧ TN H b ys ∧ xs.length + ys.length ≤ sizeLine ∧ ∀ p H', Gr H H' → TN H' p (xs ++ ys) → Q (.ref p) H') := by
  intro pins s σ H x y v u Q I rx ry h
  obtain ⟨a, b, xs, ys, rfl, rfl, ha, hb, hz, q⟩ := h
  cases rx
  cases ry
  obtain ⟨its, r1, p1, _⟩ := I.tuple ha.sq
  obtain ⟨its2, r2, p2, _⟩ := I.tuple hb.sq
  refine cat_any p1 p2 (fun z => ⟨.ref b, H, I, rfl, q b H (Gr.refl _) (by rw [r1.nil_iff.mp z]; exact hb)⟩) (fun _ z => ⟨.ref a, H, I, rfl, q a H (Gr.refl _) (by rw [r2.nil_iff.mp z, List.append_nil]; exact ha)⟩) (fun _ z => ?_) (by rw [← r1.length, ← r2.length]; exact hz)
  exact ⟨.ref s.heap.objs.size, _, I.laidN (r1.append r2) (by rw [List.length_append]; exact hz), rfl, q _ _ (Gr.new I.fresh) (TN.new rfl)⟩
variable {e : Expr} {te : TE} {pos p2 : Pos}
theorem pe_revN {st : Expr} (he : PE X e te) (hst : PE X st (tC (.int (-1)))) : PE X (.Subscript e (.Slice none none (some st) p2) pos)
    (fun σ H Q => te σ H fun x H1 => ∃ a xs, x = .ref a ∧ TN H1 a xs ∧ ∀ p H', Gr H1 H' → TN H' p xs.reverse → Q (.ref p) H') := by
  intro pins s σ H Q I h
  refine Subscript_ (thn (he pins s σ H _ I h) fun v s1 ⟨x, H1, I1, r1, q1⟩ => ?_)
  refine wpAny_Slice ?_
  rw [evalPart_none]
  refine wpAny_pure ?_
  refine wpAny_pure ?_
  rw [evalPart_some]
  refine thn (hst pins s1 σ H1 (fun x H2 => H2 = H1 ∧ x = .int (-1)) I1 ⟨rfl, rfl⟩) fun vs s3 ⟨x3, H3, I3, r3, e3⟩ => ?_
  obtain ⟨rfl, rfl⟩ := e3
  obtain ⟨t3, rfl⟩ := r3
  have I4 : Inv X pins σ H3 { s3 with heap := s3.heap.push { cls := .type "slice", data := .fields #[.none, .none, .int (-1) t3] } } := I3.kept (t' := s3.toks) fun b ob q => Heap.get?_push_of_some _ q
  obtain ⟨a, xs, rfl, hx, q⟩ := q1
  cases r1
  obtain ⟨its, r, ht, hz⟩ := I4.tuple hx.sq
  show wpAny (model X.prog X.w) X.A (subscriptTail e (.Slice none none (some st) p2) (.ref a) (.ref s3.heap.objs.size)) (EP X pins σ Q) X.xe { s3 with heap := s3.heap.push { cls := .type "slice", data := .fields #[.none, .none, .int (-1) t3] } }
  refine tail_any (ops := [.ref a, .ref s3.heap.objs.size]) ht.typeIs PyProof.Rows.slot_tuple_getitem.lookup (getItem_tuple_rev ht (Heap.IsSliceOf.new ..) ?_ (by rw [← r.length]; exact hz)) (by with_unfolding_all rfl)
  exact ⟨.ref _, _, I4.laidN r.reverse (by rw [List.length_reverse]; exact hz), rfl, q _ _ (Gr.new I4.fresh) (TN.new rfl)⟩
/-- t.index(e) of a tuple of ints: the first spot -/
def tIdx (to te : TE) : TE := fun σ H Q => to σ H fun x H1 => ∃ (a : Addr) (ns : List Int), x = .ref a ∧ TN H1 a (ns.map V.int) ∧ te σ H1 fun y H2 => ∃ (n : Int) (j : Nat), y = .int n ∧ TN H2 a (ns.map V.int) ∧ ns[j]? = some n ∧ n ∉ ns.take j ∧ Q (.int j) H2
theorem TN.plain {a : Addr} {xs : List V} (I : Inv X pins σ H s) (h : TN H a xs) : s.TypeIs (.ref a) "tuple" ∧ ∀ b, Value.ref a = .ref b → ∃ ob, s.heap.get? b = some ob ∧ ob.dict = none := by
  obtain ⟨o, e, d⟩ := id h
  obtain ⟨ho, _⟩ := I.hok a _ e
  obtain ⟨its, r, ht, hz⟩ := I.tuple (h.sq (K := X.K))
  exact ⟨ht.typeIs, fun b z => by cases z; exact ⟨o, ho, d⟩⟩
theorem pe_idx {o : Expr} {to : TE} {apos cpos : Pos} (ho : PE X o to) (he : PE X e te)
    (hbase : attributeBase o "index" X.env (eval o X.env) = eval o X.env := by rfl)
    (hfew : ((backTo cpos (starEach [e] X.env)).all (fun x => !x.1) && (backToKw cpos (keywordEach [] X.env)).all (fun x => x.1.isSome)
      && decide ([e].length + ([] : List Keyword).length + (if ([] : List Keyword).isEmpty then 0 else 1) < 30)) = true := by rfl)
    (hline : (apos.endLine == cpos.line) = true := by rfl) (hs : starEach [e] X.env = [(false, eval e X.env)] := by rfl) :
    PE X (.Call (.Attribute o "index" apos) [e] [] cpos) (tIdx to te) := by
  intro pins s σ H Q I h
  refine wpAny_Call_method_late hbase hfew hline rfl (thn (ho pins s σ H _ I h) fun v s1 ⟨x, H1, I1, r1, q1⟩ => ?_)
  obtain ⟨a, ns, rfl, hT, q1⟩ := q1
  cases r1
  obtain ⟨h1, h2⟩ := hT.plain I1
  refine ⟨"tuple", "tuple.index", PySem.F.plainAttrs_tuple, PySem.F.slot_tuple_index, PySem.F.type_tuple_index, h1, h2, ?_⟩
  have hA := (pa_cons he pa_nil hs) cpos pins s1 σ H1 (fun vs H2 => match vs with | [y] => ∃ (n : Int) (j : Nat), y = .int n ∧ TN H2 a (ns.map V.int) ∧ ns[j]? = some n ∧ n ∉ ns.take j ∧ Q (.int j) H2 | _ => False) I1 q1
  rw [hs] at hA ⊢
  refine Calls.callWith_builtin (by rfl) (Calls.evalArgs_plain ?_)
  refine thn hA fun us s2 ⟨vs, H2, I2, r2, q2⟩ => ?_
  match vs, r2, q2 with
  | [y], .cons r .nil, ⟨n, j, ey, tn, hj, hno, q⟩ =>
    subst ey
    obtain ⟨tk, rfl⟩ := r
    obtain ⟨its, rv, ht, hz⟩ := I2.tuple (tn.sq (K := X.K))
    exact idx_tuple ht (intsAre_of rv) hj hno ⟨.int j, H2, I2.tok _, ⟨_, rfl⟩, q⟩
/-- sorted of a list of ints: a new list of the same ints -/
theorem call_sortedI {X : Cx} : CallR X (.builtin "sorted") (fun xs H Q => ∃ (l : Addr) (ns : List Int), xs = [.ref l] ∧ H l = some (.lst (ns.map V.int)) ∧ ∀ (ms : List Int) (q : Addr), ms.Perm ns → H q = none → Q (.ref q) (upd H q (.lst (ms.map V.int)))) := by
  intro pins s σ H xs us Q I r h
  obtain ⟨l, ns, rfl, hl, q⟩ := h
  obtain ⟨u, rfl, ru⟩ := vals1 r
  cases ru
  obtain ⟨z, its, n, rv, hlen, e⟩ := I.lstM hl
  have hi : IntsAre its ns := intsAre_of rv
  refine TS.sorted_in ⟨_, e, rfl, n, rfl⟩ (by rw [← hlen]; exact z) (fun h6 o6 h2 E' => ?_) fun out ho => ?_
  · obtain ⟨v1, v2, vr, rfl⟩ : ∃ v1 v2 vr, its = v1 :: v2 :: vr := by
      match its, h2 with
      | v1 :: v2 :: vr, _ => exact ⟨v1, v2, vr, rfl⟩
    rw [keyKind_ints hi]
    refine wpAny_pure ⟨rfl, fun x y hx hy Q' E2 hq => ?_⟩
    have mem : ∀ x : Keyed, x ∈ pairsOf (v1 :: v2 :: vr) → ∃ n t, x.1 = .int n t := fun x hx => by
      have : x ∈ (v1 :: v2 :: vr).zip (v1 :: v2 :: vr) := by rw [← pairsOf_toList]; exact Array.mem_toList_iff.mpr hx
      obtain ⟨i, hi', ei⟩ := List.mem_iff_getElem.mp (List.of_mem_zip this).1
      obtain ⟨t, et⟩ := IntsAre.int_at hi i x.1 (by rw [List.getElem?_eq_getElem hi', ei])
      exact ⟨_, t, et⟩
    obtain ⟨n1, t1, e1⟩ := mem x hx
    obtain ⟨n2, t2, e2⟩ := mem y hy
    rw [e1, e2]
    exact PySem.W.kat_lt_int (hq _)
  · obtain ⟨zs, p, rz⟩ := Vals.perm ho rv
    obtain ⟨e', hat⟩ := sortedAll_at s.heap its out.toArray
    have hf : H (s.heap.objs.size + 1) = none := I.hok.fresh (Nat.le_succ _)
    obtain ⟨ms, rfl, pm⟩ : ∃ ms : List Int, zs = ms.map V.int ∧ ms.Perm ns := by
      have key : ∀ {l1 l2 : List V}, l1.Perm l2 → ∀ ns : List Int, l2 = ns.map V.int → ∃ ms : List Int, l1 = ms.map V.int ∧ ms.Perm ns := by
        intro l1 l2 pp
        induction pp with
        | nil => intro ns e; cases ns with | nil => exact ⟨[], rfl, List.Perm.refl _⟩ | cons _ _ => cases e
        | cons a _ ih =>
          intro ns e
          cases ns with
          | nil => cases e
          | cons b ns =>
            rw [List.map_cons] at e
            injection e with e1 e2
            obtain ⟨ms, h1, h2⟩ := ih ns e2
            exact ⟨b :: ms, by rw [List.map_cons, e1, h1], h2.cons b⟩
        | swap a b l =>
          intro ns e
          match ns, e with
          | c :: d :: ns, e =>
            rw [List.map_cons, List.map_cons] at e
            injection e with e1 e2
            injection e2 with e2 e3
            exact ⟨d :: c :: ns, by rw [List.map_cons, List.map_cons, e1, e2, e3], List.Perm.swap _ _ _⟩
        | trans _ _ ih1 ih2 =>
          intro ns e
          obtain ⟨ms, h1, h2⟩ := ih2 ns e
          obtain ⟨ks, h3, h4⟩ := ih1 ms h1
          exact ⟨ks, h3, h4.trans h2⟩
      exact key p ns rfl
    refine ⟨.ref (s.heap.objs.size + 1), _, I.laid (t' := s.toks) (o := .lst (ms.map V.int)) (fun b o hb => sortedAll_old hb) (Nat.le_succ _) ⟨?_, out, e', rz, hat⟩, rfl, q ms _ pm hf⟩
    rw [p.length_eq]; exact z
end
end L2

namespace L2
open PySem PySem.Spec PyProof.Rows
theorem op_inDK {X : Cx} {K : PySem.W.Frag} (h : X.K = K) (hu : X.A.units + 64 < cLine) : OpR X (compareOp .In) (rInD K false) := by subst h; exact op_inD hu
def PairsAt (K : PySem.W.Frag) (H : Hp) (zs : List V) (ps : List (Int × Int)) : Prop := Paired (fun (z : V) (p : Int × Int) => ∃ q, z = .ref q ∧ SqT K H q [.int p.1, .int p.2]) zs ps
theorem PairsAt.gr {K : PySem.W.Frag} {H H' : Hp} {zs : List V} {ps : List (Int × Int)} (h : PairsAt K H zs ps) (g : Gr H H') : PairsAt K H' zs ps := Paired.mapP h fun _ _ ⟨q, e, k⟩ => ⟨q, e, k.gr g⟩
theorem pe_neg1 {X : Cx} {j pos pos'} : PE X (.UnaryOp .USub (.Constant (.int 1) j pos) pos') (tC (.int (-1))) := fun pins s σ H Q I h => pe_un un_neg pe_int pins s σ H Q I ⟨1, rfl, h⟩
end L2

set_option autoImplicit false
set_option linter.all false
set_option Elab.async false
set_option maxRecDepth 100000
set_option maxHeartbeats 8000000
namespace My03
open PySem L2
def top (i : Nat) : Stmt := PySem.Challenge.pw_waymusts_k03_least_ways.main.body.getD i (.Pass ⟨0, 0, 0, 0⟩)
abbrev sTurned : Stmt := top 1
abbrev sNexts : Stmt := top 3
abbrev sAway : Stmt := top 4
abbrev sLeast : Stmt := top 5
abbrev sCell : Stmt := top 7
abbrev sWell : Stmt := top 8
abbrev sTake : Stmt := top 9
abbrev sShuf : Stmt := top 10
abbrev sNet : Stmt := top 11
abbrev sLLeast : Stmt := top 12
abbrev sLaw : Stmt := top 13
/-- all but what stands at p is as it was -/
def SameX (p : Addr) (H H' : Hp) : Prop := ∀ b o, H b = some o → b ≠ p → H' b = some o
theorem SameX.refl (p : Addr) (H : Hp) : SameX p H H := fun _ _ h _ => h
theorem SameX.trans {p : Addr} {H H1 H2 : Hp} (a : SameX p H H1) (b : SameX p H1 H2) : SameX p H H2 := fun c o h hp => b c o (a c o h hp) hp
theorem SameX.upd {p : Addr} {H : Hp} {o : HO} : SameX p H (upd H p o) := fun b u h hb => by rw [upd_ne hb]; exact h
theorem SameX.of {p : Addr} {H H' : Hp} (s : Same H H') : SameX p H H' := fun b o h _ => s b o h
theorem SameX.new {p q : Addr} {H H1 : Hp} {o : HO} (a : SameX p H H1) (hq : H1 q = none) (hp : ∃ u, H1 p = some u) : SameX p H (L2.upd H1 q o) := fun b u h hb => by
  have := a b u h hb
  rw [upd_ne (ne_of_none this hq)]; exact this
/-- a bag: of three numbers, the last one at most k -/
def Bag (H : Hp) (p : Addr) (k : Nat) : Prop := ∃ a b c : Int, H p = some (.lst [.int a, .int b, .int c]) ∧ 0 ≤ a ∧ 0 ≤ c ∧ c ≤ k
theorem Bag.new {H : Hp} {p q : Addr} {k : Nat} {o : HO} (h : Bag H p k) (hq : H q = none) : Bag (upd H q o) p k := by
  obtain ⟨a, b, c, e, r⟩ := h
  exact ⟨a, b, c, by rw [upd_ne (ne_of_none e hq)]; exact e, r⟩
theorem Bag.keep {H H' : Hp} {p : Addr} {k : Nat} (h : Bag H p k) (s : Same H H') : Bag H' p k := by
  obtain ⟨a, b, c, e, r⟩ := h
  exact ⟨a, b, c, s _ _ e, r⟩
theorem Bag.mono {H : Hp} {p : Addr} {k k' : Nat} (h : Bag H p k) (hk : k ≤ k') : Bag H p k' := by
  obtain ⟨a, b, c, e, h1, h2, h3⟩ := h
  exact ⟨a, b, c, e, h1, h2, by omega⟩
def spTake : Sp := fun vs H Q _ => ∃ (p : Addr) (k : Nat) (n : Int), vs = [.ref p, .int n] ∧ Bag H p k ∧ k < 1000000 ∧ 1 ≤ n ∧ n < 1073741824 ∧
  ∀ (r : Int) (H' : Hp), 0 ≤ r → r < n → Bag H' p (k + 1) → SameX p H H' → Q (.int r) H'
theorem at0 {α : Type} (a b c : α) : atI [a, b, c] 0 = some a := rfl
theorem at1 {α : Type} (a b c : α) : atI [a, b, c] 1 = some b := rfl
theorem at2 {α : Type} (a b c : α) : atI [a, b, c] 2 = some c := rfl
section
variable {P : Program} {w : World} {K : PySem.W.Frag} {mg : Str → Option Value} {base : Heap}
theorem scTake : FnScope ["bag", "many", "found", "p", "n"] ["bag", "many"] (defScope sTake) := ⟨rfl, rfl, rfl, by decide +kernel, rfl, by decide +kernel, by decide +kernel⟩
theorem ok_take {f : Addr} {fd : FuncData} (F : Fun K "_law_take" "_law_take" sTake f fd) : FnOk P w K mg base CX0 1 f fd ["bag", "many"] spTake := by
  refine F.ok scTake (fun vs H Q E h => ?_) (fun cdv A outer s H vs Q E hr h => ?_)
  · obtain ⟨p, k, n, rfl, _⟩ := h
    rfl
  · obtain ⟨p, k, n, rfl, ⟨a, b, c, hb, ha0, hc0, hck⟩, hk, hn1, hn2, q⟩ := h
    refine ⟨_, pss_cons (ps_if (pt_cmpR op_gt (pe_ix ix_list (pv 0) pe_int (fun _ _ => rfl)) pe_int (nomark _))
        (pss_cons (ps_set (i := 2) scTake.nd rfl (Or.inl rfl) (pe_op op_mod (pe_ix ix_list (pv 0) pe_int (fun _ _ => rfl)) (pv 1)))
        (pss_cons (ps_asg (pe_op op_fdiv (pe_ix ix_list (pv 0) pe_int (fun _ _ => rfl)) (pv 1)) (pg_sub (pv 0) pe_int set_list))
        (pss_one (ps_ret (pv 2))))) pss_nil)
      (pss_cons (ps_asg (pe_op op_add (pe_ix ix_list (pv 0) pe_int (fun _ _ => rfl)) pe_int) (pg_sub (pv 0) pe_int set_list))
      (pss_cons (ps_set (i := 3) scTake.nd rfl (Or.inl rfl) pe_int)
      (pss_cons (ps_set (i := 4) scTake.nd rfl (Or.inl rfl) (pe_op op_mod (pe_op op_add (pe_ix ix_list (pv 0) pe_int (fun _ _ => rfl)) (pe_op op_mul pe_int (pe_ix ix_list (pv 0) pe_int (fun _ _ => rfl)))) (pv 3)))
      (pss_cons (ps_set (i := 4) scTake.nd rfl (Or.inl rfl) (pe_op op_mod (pe_op op_add (pe_op op_add (pe_op op_mul (pv 4) (pv 4)) (pe_op op_mul pe_int (pe_op op_pow (pe_ix ix_list (pv 0) pe_int (fun _ _ => rfl)) pe_int))) pe_int) (pv 3)))
      (pss_one (ps_ret (pe_op op_mod (pe_op op_fdiv (pe_op op_mod (pe_op op_pow (pv 4) pe_int) (pv 3)) pe_int) (pv 1)))))))), ?_⟩
    refine ⟨_, rfl, p, _, _, _, rfl, rfl, SqL.of hb, at0 _ _ _, _, _, rfl, rfl, _, rfl, ?_⟩
    refine ite2 (fun h1 => ?_) (fun h1 => ?_)
    · refine ⟨_, rfl, p, _, _, _, rfl, rfl, SqL.of hb, at0 _ _ _, _, rfl, _, _, rfl, rfl, by omega, ?_⟩
      refine ⟨_, rfl, p, _, _, _, rfl, rfl, SqL.of hb, at0 _ _ _, _, rfl, _, _, rfl, rfl, ⟨by omega, by omega⟩, ?_⟩
      refine ⟨_, rfl, p, _, _, _, rfl, rfl, hb, rfl, ?_⟩
      refine ⟨_, rfl, ?_⟩
      refine q _ _ (Int.emod_nonneg _ (by omega)) (Int.emod_lt_of_pos _ (by omega)) ⟨a / n, b, c, upd_same, Int.ediv_nonneg ha0 (by omega), hc0, by omega⟩ SameX.upd
    · refine ⟨_, rfl, p, _, _, _, rfl, rfl, SqL.of hb, at2 _ _ _, _, _, rfl, rfl, ?_⟩
      refine ⟨_, rfl, p, _, _, _, rfl, rfl, hb, rfl, ?_⟩
      have hb2 : (upd H p (.lst [.int a, .int b, .int (c + 1)])) p = some (.lst [.int a, .int b, .int (c + 1)]) := upd_same
      refine ⟨_, rfl, p, _, _, _, rfl, rfl, SqL.of hb2, at1 _ _ _, _, rfl, p, _, _, _, rfl, rfl, SqL.of hb2, at2 _ _ _, _, _, rfl, rfl, .inl ⟨by decide, by decide⟩, _, _, rfl, rfl, _, rfl, _, _, rfl, rfl, (show (0 : Int) < 2305843009213693951 by decide), ?_⟩
      have m1 : 0 ≤ (b + 1000003 * (c + 1)) % 2305843009213693951 := Int.emod_nonneg _ (by decide)
      have m2 : (b + 1000003 * (c + 1)) % 2305843009213693951 < 2305843009213693951 := Int.emod_lt_of_pos _ (by decide)
      generalize hy : (b + 1000003 * (c + 1)) % 2305843009213693951 = y at m1 m2 ⊢
      refine ⟨_, rfl, _, rfl, _, _, rfl, rfl, .inl ⟨by omega, by omega⟩, _, rfl, p, _, _, _, rfl, rfl, SqL.of hb2, at2 _ _ _, _, _, rfl, rfl, ⟨by decide, by decide, by omega⟩, _, _, rfl, rfl, .inl ⟨by decide, by decide⟩, _, _, rfl, rfl, _, _, rfl, rfl, _, rfl, _, _, rfl, rfl, (show (0 : Int) < 2305843009213693951 by decide), ?_⟩
      generalize y * y + 7919 * (c + 1) ^ (2 : Int).toNat + 5 = z
      have m3 : 0 ≤ z % 2305843009213693951 := Int.emod_nonneg _ (by decide)
      have m4 : z % 2305843009213693951 < 2305843009213693951 := Int.emod_lt_of_pos _ (by decide)
      generalize hx : z % 2305843009213693951 = x at m3 m4 ⊢
      refine ⟨_, rfl, _, _, rfl, rfl, ⟨by decide, by decide, by omega⟩, _, rfl, _, _, rfl, rfl, (show (0 : Int) < 2305843009213693951 by decide), _, _, rfl, rfl, ⟨by decide, by decide⟩, _, rfl, _, _, rfl, rfl, by omega, ?_⟩
      exact q _ _ (Int.emod_nonneg _ (by omega)) (Int.emod_lt_of_pos _ (by omega)) ⟨a, b, c + 1, hb2, ha0, by omega, by omega⟩ SameX.upd
end
theorem iteP {c : Bool} {A B : Prop} (hc : c = true) (h : A) : if c = true then A else B := by rw [if_pos hc]; exact h
theorem iteN {c : Bool} {A B : Prop} (hc : c = false) (h : B) : if c = true then A else B := by rw [if_neg (by rw [hc]; exact Bool.false_ne_true)]; exact h
structure Txt (mg : Str → Option Value) : Prop where
  len : mg "len" = none
  range : mg "range" = none
  list : mg "list" = none
  tuple : mg "tuple" = none
  sorted : mg "sorted" = none
  min : mg "min" = none
section
variable {P : Program} {w : World} {K : PySem.W.Frag} {mg : Str → Option Value} {base : Heap}
def spCell (K : PySem.W.Frag) : Sp := fun vs H Q _ => ∃ (a : Addr) (ns : List Int) (k : Nat), vs = [.ref a, .int k] ∧ SqL K H a (ns.map V.int) ∧ ∀ i : Int, Q (.int i) H
theorem scCell : FnScope ["script", "k"] ["script", "k"] (defScope sCell) := ⟨rfl, rfl, rfl, by decide +kernel, rfl, by decide +kernel, by decide +kernel⟩
theorem ok_cell {f : Addr} {fd : FuncData} (F : Fun K "_law_cell" "_law_cell" sCell f fd) (T : Txt mg) : FnOk P w K mg base CX0 1 f fd ["script", "k"] (spCell K) := by
  refine F.ok scCell (fun vs H Q E h => ?_) (fun cdv A outer s H vs Q E hr h => ?_)
  · obtain ⟨a, ns, k, rfl, _⟩ := h
    rfl
  · obtain ⟨a, ns, k, rfl, ha, q⟩ := h
    refine ⟨_, pss_cons (ps_if (pt_cmpR op_lt (pv 1) (pe_callB call_len_seq (by rfl) T.len PySem.boot_len (pa_cons (pv 0) pa_nil)) (nomark _)) (pss_one (ps_ret (pe_ix ix_list (pv 0) (pv 1) (fun _ _ => rfl)))) pss_nil) (pss_one (ps_ret pe_int)), ?_⟩
    refine ⟨_, rfl, _, rfl, a, _, rfl, .inl ha, _, _, rfl, rfl, _, rfl, ?_⟩
    refine ite2 (fun h1 => ?_) (fun h1 => ?_)
    · have hlt : k < ns.length := by simpa using h1
      have e : (ns.map V.int)[k]? = some (.int ns[k]) := by simp [hlt]
      exact ⟨_, rfl, _, rfl, a, _, _, _, rfl, rfl, ha, atI_nat e, q _⟩
    · exact q _
def spWell : Sp := fun vs H Q _ => ∃ (n t : Int), vs = [.int n, .int t] ∧ 0 ≤ t ∧ ∀ (p : Addr) (H' : Hp), H p = none → Same H H' → Bag H' p t.toNat → Q (.ref p) H'
theorem Same.new {H : Hp} {p : Addr} {o : HO} (h : H p = none) : Same H (upd H p o) := fun b u e => by rw [upd_ne (ne_of_none e h)]; exact e
theorem scWell : FnScope ["cell", "turn"] ["cell", "turn"] (defScope sWell) := ⟨rfl, rfl, rfl, by decide +kernel, rfl, by decide +kernel, by decide +kernel⟩
theorem ok_well {f : Addr} {fd : FuncData} (F : Fun K "_law_well" "_law_well" sWell f fd) : FnOk P w K mg base CX0 1 f fd ["cell", "turn"] spWell := by
  refine F.ok scWell (fun vs H Q E h => ?_) (fun cdv A outer s H vs Q E hr h => ?_)
  · obtain ⟨n, t, rfl, _⟩ := h
    rfl
  · obtain ⟨n, t, rfl, ht, q⟩ := h
    refine ⟨_, pss_cons (ps_if (pt_cmpR op_ge (pv 0) (pe_op op_pow pe_int pe_int) (nomark _)) (pss_one (ps_ret (pe_lst (pa_cons (pe_op op_sub (pv 0) (pe_op op_pow pe_int pe_int)) (pa_cons (pe_op op_mod (pv 0) pe_int) (pa_cons (pv 1) pa_nil)))))) pss_nil)
      (pss_one (ps_ret (pe_lst (pa_cons pe_int (pa_cons (pe_op op_mod (pv 0) pe_int) (pa_cons (pv 1) pa_nil)))))), ?_⟩
    refine ⟨_, rfl, _, _, rfl, rfl, ⟨by decide, by decide, by decide⟩, _, _, rfl, rfl, _, rfl, ?_⟩
    refine ite2 (fun h1 => ?_) (fun h1 => ?_)
    · refine ⟨_, rfl, _, _, rfl, rfl, ⟨by decide, by decide, by decide⟩, _, _, rfl, rfl, _, rfl, _, _, rfl, rfl, (show (0 : Int) < 2305843009213693951 by decide), _, rfl, (by show 3 ≤ sizeLine; decide), fun p hp => ?_⟩
      refine q p _ hp (Same.new hp) ⟨_, _, _, upd_same, ?_, ht, by omega⟩
      have h1 : (10 : Int) ^ (18 : Int).toNat ≤ n := of_decide_eq_true h1
      omega
    · refine ⟨_, rfl, _, _, rfl, rfl, (show (0 : Int) < 2305843009213693951 by decide), _, rfl, (by show 3 ≤ sizeLine; decide), fun p hp => ?_⟩
      exact q p _ hp (Same.new hp) ⟨_, _, _, upd_same, Int.le_refl _, ht, by omega⟩

theorem erase_map {α β : Type} (f : α → β) : ∀ (l : List α) (i : Nat), (l.map f).eraseIdx i = (l.eraseIdx i).map f
  | [], _ => rfl
  | a :: r, 0 => rfl
  | a :: r, i + 1 => by show f a :: (r.map f).eraseIdx i = _; rw [erase_map f r i]; rfl
theorem erase_perm {α : Type} : ∀ (l : List α) (i : Nat) (h : i < l.length), (l[i] :: l.eraseIdx i).Perm l
  | [], i, h => absurd h (by simp)
  | a :: r, 0, h => List.Perm.refl _
  | a :: r, i + 1, h => by
    have h' : i < r.length := by simpa using h
    show (r[i] :: a :: r.eraseIdx i).Perm (a :: r)
    exact (List.Perm.swap _ _ _).trans (List.Perm.cons _ (erase_perm r i h'))
def spShuf (K : PySem.W.Frag) : Sp := fun vs H Q _ => ∃ (p l : Addr) (k : Nat) (ns : List Int), vs = [.ref p, .ref l] ∧ Bag H p k ∧ (SqL K H l (ns.map V.int) ∨ SqT K H l (ns.map V.int)) ∧ ns.length ≤ 100 ∧ k < 100000 ∧
  ∀ (q : Addr) (H' : Hp) (ms : List Int), ms.Perm ns → H q = none → H' q = some (.lst (ms.map V.int)) → Bag H' p (k + ns.length) → SameX p H H' → Q (.ref q) H'
theorem SameX.seq {p a : Addr} {H H' : Hp} {xs : List V} (s : SameX p H H') (h : H a = some (.lst xs)) (hp : a ≠ p) : H' a = some (.lst xs) := s _ _ h hp
theorem scShuf : FnScope ["bag", "some", "left", "found"] ["bag", "some"] (defScope sShuf) := ⟨rfl, rfl, rfl, by decide +kernel, rfl, by decide +kernel, by decide +kernel⟩
theorem Bag.at {H : Hp} {p : Addr} {k : Nat} (h : Bag H p k) : ∃ o, H p = some o := let ⟨a, b, c, e, _⟩ := h; ⟨_, e⟩
theorem ok_shuf {f fT : Addr} {fd fdT : FuncData} (F : Fun K "_law_shuffled" "_law_shuffled" sShuf f fd) (T : Txt mg) (FT : Fun K "_law_take" "_law_take" sTake fT fdT) (bT : Binds K fdT ["bag", "many"] []) (mT : mg "_law_take" = some (.ref fT)) :
    FnOk P w K mg base CX0 2 f fd ["bag", "some"] (spShuf K) := by
  have GT : FnOk P w K mg base CX0 1 fT fdT ["bag", "many"] spTake := ok_take FT
  refine F.ok scShuf (fun vs H Q E h => ?_) (fun cdv A outer s H vs Q E hr h => ?_)
  · obtain ⟨p, l, k, ns, rfl, _⟩ := h
    rfl
  · obtain ⟨p, l, k, ns, rfl, hb, hl, hn, hk, q⟩ := h
    refine ⟨_, pss_cons (ps_set (i := 2) scShuf.nd rfl (Or.inl rfl) (pe_callTy call_list_of (by rfl) T.list (by decide +kernel) (pa_cons (pv 1) pa_nil)))
      (pss_cons (ps_set (i := 3) scShuf.nd rfl (Or.inl rfl) (pe_lst pa_nil))
      (pss_cons (ps_while PassesOwn.never (pt_cmpR (op_neL hr.units) (pv 2) (pe_lst pa_nil) (nomark _))
        (pss_one (ps_expr (pe_bm PySem.F.plainAttrs_list PySem.F.slot_list_append PySem.F.type_list_append mt_append (pv 3)
          (pa_cons (pe_bm PySem.F.plainAttrs_list PySem.F.slot_list_pop PySem.F.type_list_pop mt_popAt (pv 2)
            (pa_cons (pe_call GT hr rfl mT FT.kp bT .nil pass0 (pa_cons (pv 0) (pa_cons (pe_callB call_len_seq (by rfl) T.len PySem.boot_len (pa_cons (pv 2) pa_nil)) pa_nil))) pa_nil)) pa_nil)))))
      (pss_one (ps_ret (pv 3))))), ?_⟩
    refine ⟨_, rfl, l, _, rfl, hl, fun a ha => ⟨(by show 0 ≤ sizeLine; decide), fun b hb2 => ?_⟩⟩
    obtain ⟨op, hop⟩ := hb.at
    have hpa : p ≠ a := ne_of_none hop ha
    have hH1 : Same H (upd H a (.lst (ns.map V.int))) := Same.new ha
    have hpb : p ≠ b := ne_of_none (hH1 _ _ hop) hb2
    have hab : a ≠ b := ne_of_none upd_same hb2
    have hbn : H b = none := hH1.free hb2
    refine ⟨fun m σ H' => ∃ (ls fs : List Int), m = ls.length ∧ σ = [some (.ref p), some (.ref l), some (.ref a), some (.ref b)] ∧ H' a = some (.lst (ls.map V.int)) ∧ H' b = some (.lst (fs.map V.int)) ∧ (fs ++ ls).Perm ns ∧ Bag H' p (k + fs.length) ∧ SameX p H H',
      ⟨_, ns, [], rfl, rfl, by rw [upd_ne hab, upd_same], upd_same, by simp, (hb.new ha).new hb2, fun c o e hc => ?_⟩, ?_⟩
    · rw [upd_ne (ne_of_none (hH1 _ _ e) hb2)]
      exact hH1 _ _ e
    rintro m σ H' ⟨ls, fs, rfl, rfl, h1, h2, hp, hbag, hs⟩
    refine ⟨_, rfl, (by show 0 ≤ sizeLine; decide), fun c hc => ⟨a, c, ls, [], rfl, rfl, SqL.of (by rw [upd_ne (ne_of_none h1 hc)]; exact h1), SqL.of upd_same, _, rfl, ?_⟩⟩
    have hlen : fs.length + ls.length = ns.length := by
      have := hp.length_eq
      rw [List.length_append] at this
      exact this
    by_cases he : ls = []
    · subst he
      refine iteF ?_
      refine ⟨_, rfl, ?_⟩
      rw [List.append_nil] at hp
      refine q b _ fs hp hbn (by rw [upd_ne (ne_of_none h2 hc)]; exact h2) ?_ ?_
      · have := hbag.new (o := .lst []) hc
        rw [show fs.length = ns.length by simpa using hlen] at this
        exact this
      · intro d o e hd
        rw [upd_ne (ne_of_none (hs d o e hd) hc)]
        exact hs d o e hd
    · have h1' : (upd H' c (.lst [])) a = some (.lst (ls.map V.int)) := by rw [upd_ne (ne_of_none h1 hc)]; exact h1
      have h2' : (upd H' c (.lst [])) b = some (.lst (fs.map V.int)) := by rw [upd_ne (ne_of_none h2 hc)]; exact h2
      have hpos : 0 < ls.length := by
        cases ls with
        | nil => exact absurd rfl he
        | cons _ _ => simp
      refine iteP (by simp [he]) ?_
      refine ⟨fun σ2 H2 => ∃ (ls' fs' : List Int), ls'.length + 1 = ls.length ∧ σ2 = [some (.ref p), some (.ref l), some (.ref a), some (.ref b)] ∧ H2 a = some (.lst (ls'.map V.int)) ∧ H2 b = some (.lst (fs'.map V.int)) ∧ (fs' ++ ls').Perm ns ∧ Bag H2 p (k + fs'.length) ∧ SameX p H H2,
        fun σ2 H2 ⟨ls', fs', e1, e2, e3, e4, e5, e6, e7⟩ => ⟨ls'.length, by omega, ls', fs', rfl, e2, e3, e4, e5, e6, e7⟩, ?_⟩
      refine ⟨_, rfl, .inl ⟨rfl, _, SqL.of h2'⟩, _, rfl, .inl ⟨rfl, _, SqL.of h1'⟩, _, rfl, _, rfl, a, _, rfl, .inl (SqL.of h1'), p, k + fs.length, _, rfl, hbag.new hc, by omega, ?_, ?_, fun r H2 r0 r1 bag2 sx => ?_⟩
      · rw [List.length_map]; omega
      · rw [List.length_map]; omega
      rw [List.length_map] at r1
      have hr' : r.toNat < ls.length := by omega
      have g1 : H2 a = some (.lst (ls.map V.int)) := sx _ _ h1' (Ne.symm hpa)
      have g2 : H2 b = some (.lst (fs.map V.int)) := sx _ _ h2' (Ne.symm hpb)
      refine ⟨a, ls.map V.int, r, r.toNat, .int ls[r.toNat], rfl, rfl, g1, by omega, by omega, ?_, by simp [hr'], ?_⟩
      · refine (ixN_seq (n := (ls.map V.int).length) (i := r) ?_).1
        unfold ixN
        rw [if_pos r0, if_pos (by rw [List.length_map]; exact r1)]
      refine ⟨b, fs.map V.int, _, rfl, rfl, by rw [upd_ne (Ne.symm hab)]; exact g2, ?_, ls.eraseIdx r.toNat, fs ++ [ls[r.toNat]], ?_, rfl, ?_, ?_, ?_, ?_, ?_⟩
      · rw [List.length_map]; exact small1000 (by omega)
      · rw [List.length_eraseIdx_of_lt hr']; omega
      · rw [upd_ne hab, upd_same, erase_map]
      · rw [upd_same]; simp
      · refine List.Perm.trans ?_ hp
        rw [List.append_assoc]
        exact List.Perm.append_left _ (erase_perm ls r.toNat hr')
      · obtain ⟨x, y, z, e, r⟩ := bag2
        refine ⟨x, y, z, by rw [upd_ne hpb, upd_ne hpa]; exact e, r.1, r.2.1, ?_⟩
        have := r.2.2
        simp only [List.length_append, List.length_singleton]
        omega
      · intro d o e hd
        have e1 : d ≠ a := ne_of_none e ha
        have e2 : d ≠ b := ne_of_none e hbn
        rw [upd_ne e2, upd_ne e1]
        exact sx d o (by rw [upd_ne (ne_of_none (hs d o e hd) hc)]; exact hs d o e hd) hd
end
theorem pickL {xs : List V} {r : Int} (h0 : 0 ≤ r) (h1 : r < xs.length) {Pr : V → Prop} (h : ∀ x ∈ xs, Pr x) : ∃ v, atI xs r = some v ∧ Pr v := by
  have hr : r.toNat < xs.length := by omega
  refine ⟨xs[r.toNat], ?_, h _ (List.getElem_mem hr)⟩
  have e : ((r.toNat : Nat) : Int) = r := by omega
  have z := atI_nat (xs := xs) (j := r.toNat) (v := xs[r.toNat]) (by simp [hr])
  rw [e] at z
  exact z
theorem mem1 {α : Type} {a : α} {Pr : α → Prop} (h : Pr a) : ∀ p ∈ [a], Pr p := fun p hp => by rw [List.mem_singleton.mp hp]; exact h
theorem all2 {α : Type} {a b : α} {Pr : α → Prop} (h1 : Pr a) (h2 : Pr b) : ∀ p ∈ [a, b], Pr p := fun p hp => by
  rcases List.mem_cons.mp hp with e | hp
  · rw [e]; exact h1
  · exact mem1 h2 p hp
theorem all3 {α : Type} {a b c : α} {Pr : α → Prop} (h1 : Pr a) (h2 : Pr b) (h3 : Pr c) : ∀ p ∈ [a, b, c], Pr p := fun p hp => by
  rcases List.mem_cons.mp hp with e | hp
  · rw [e]; exact h1
  · exact all2 h2 h3 p hp
theorem all5 {α : Type} {a b c d e : α} {Pr : α → Prop} (h1 : Pr a) (h2 : Pr b) (h3 : Pr c) (h4 : Pr d) (h5 : Pr e) : ∀ p ∈ [a, b, c, d, e], Pr p := fun p hp => by
  rcases List.mem_cons.mp hp with e | hp
  · rw [e]; exact h1
  · rcases List.mem_cons.mp hp with e | hp
    · rw [e]; exact h2
    · exact all3 h3 h4 h5 p hp
theorem comp_to {J : It} {n : Nat} {g : TG} {tt : TT} {te : TE} {acc : Addr} {σ₀ : St} {Q : VK} {H1 : Hp} (Pv : Nat → List V → St → Hp → Prop) (h0 : Pv 0 [] σ₀ (upd H1 acc (.lst []))) (ha : ∀ i ys σ H, i ≤ n → Pv i ys σ H → H acc = some (.lst ys))
    (hs : ∀ i ys σ H, i < n → Pv i ys σ H → J.go i H ∧ ∀ x H', J.yld i H x H' → g x σ H' fun σ2 H2 => tt σ2 H2 fun b H3 =>
      if b = true then te σ2 H3 fun y H4 => H4 acc = some (.lst ys) ∧ ys.length < sizeLine ∧ ∃ m', m' < n - i ∧ m' = n - (i + 1) ∧ i + 1 ≤ n ∧ Pv (i + 1) (ys ++ [y]) σ2 (upd H4 acc (.lst (ys ++ [y])))
      else ∃ m', m' < n - i ∧ m' = n - (i + 1) ∧ i + 1 ≤ n ∧ Pv (i + 1) ys σ2 H3)
    (hd : ∀ ys σ H, Pv n ys σ H → J.stop n H ∧ Q (.ref acc) H) : compW J g tt te acc σ₀ Q H1 := by
  refine ⟨fun i m ys σ H => m = n - i ∧ i ≤ n ∧ Pv i ys σ H, ⟨n, by omega, Nat.zero_le _, h0⟩, ?_⟩
  rintro i m ys σ H ⟨rfl, hi, p⟩
  refine ⟨ha i ys σ H hi p, ?_⟩
  by_cases hlt : i < n
  · exact .inr (hs i ys σ H hlt p)
  · have e : i = n := by omega
    subst e
    exact .inl (hd ys σ H p)
theorem ix_listK {X : Cx} {K : PySem.W.Frag} (h : X.K = K) : IxR X (rIxL K) := by subst h; exact ix_list
theorem ix_tupK {X : Cx} {K : PySem.W.Frag} (h : X.K = K) : IxR X (rIxT K) := by subst h; exact ix_tup
theorem pg_tupK {X : Cx} {K : PySem.W.Frag} {pos : Pos} {es : List Expr} {k : Nat} {t : TGs} {n : Nat} (hK : X.K = K) (hc : X.calm = true) (h : PGs X es t)
    (hn : (assignEach es X.env).length = n := by rfl) (hst : (assignEach es X.env).findIdx? (·.1) = none := by rfl) : PG X (.Tuple es k pos) (gTup K n t) := by subst hK; exact pg_tup hc h hn hst
theorem cut_from (xs : List V) (k : Nat) : cutV xs (some (k : Int)) none = xs.drop k := by
  unfold cutV
  rw [HT.sIx_nat, HT.sIx_none]
  by_cases h : k ≤ xs.length
  · rw [Nat.min_eq_left h, List.take_of_length_le (by rw [List.length_drop]; exact Nat.le_refl _)]
  · rw [Nat.min_eq_right (by omega), List.drop_of_length_le (Nat.le_refl _), List.drop_of_length_le (by omega), List.take_nil]
theorem cut_to (xs : List V) (k : Nat) : cutV xs none (some (k : Int)) = xs.take k := by
  unfold cutV
  rw [HT.sIx_nat, HT.sIx_none, List.drop_zero, Nat.sub_zero]
  by_cases h : k ≤ xs.length
  · rw [Nat.min_eq_left h]
  · rw [Nat.min_eq_right (by omega), List.take_length, List.take_of_length_le (by omega)]
theorem cut_mid (xs : List V) (j k : Nat) (h : j ≤ k) : cutV xs (some (j : Int)) (some (k : Int)) = (xs.drop j).take (k - j) := by
  unfold cutV
  rw [HT.sIx_nat, HT.sIx_nat]
  by_cases h1 : j ≤ xs.length
  · rw [Nat.min_eq_left h1]
    by_cases h2 : k ≤ xs.length
    · rw [Nat.min_eq_left h2]
    · rw [Nat.min_eq_right (by omega), List.take_of_length_le (by rw [List.length_drop]; exact Nat.le_refl _), List.take_of_length_le (by rw [List.length_drop]; omega)]
  · rw [List.drop_of_length_le (l := xs) (i := min j xs.length) (by omega), List.drop_of_length_le (l := xs) (i := j) (by omega), List.take_nil, List.take_nil]
theorem Gr.acc {H1 H' : Hp} {acc : Addr} {o : HO} (g : Gr H1 H') (h : H1 acc = none) : Gr H1 (upd H' acc o) := fun b u e => by
  rw [upd_ne (ne_of_none e h)]; exact g b u e
theorem take_snoc {α β : Type} (f : α → β) {l : List α} {i : Nat} {x : α} (h : l[i]? = some x) : (l.take i).map f ++ [f x] = (l.take (i + 1)).map f := by
  obtain ⟨hi, e⟩ := List.getElem?_eq_some_iff.mp h
  rw [List.take_succ_eq_append_getElem hi, List.map_append, e]
  rfl
theorem Bag.ne {H : Hp} {p a : Addr} {k : Nat} {u : HO} (b : Bag H p k) (e : H a = some u) (h : ∀ xs, u ≠ .lst xs) : a ≠ p := fun z => by
  obtain ⟨x, y, w, eb, _⟩ := b
  rw [z, eb] at e
  cases e
  exact h _ rfl
theorem SqT.sx {K : PySem.W.Frag} {H H' : Hp} {p a : Addr} {k : Nat} {xs : List V} (h : SqT K H a xs) (s : SameX p H H') (b : Bag H p k) : SqT K H' a xs := by
  rcases h with h | h
  · rcases h with h | ⟨o, h⟩
    · exact .inl (.inl (s _ _ h (b.ne h (fun _ z => nomatch z))))
    · exact .inl (.inr ⟨o, s _ _ h (b.ne h (fun _ z => nomatch z))⟩)
  · exact .inr h
theorem Bag.gr {H H' : Hp} {p : Addr} {k : Nat} (b : Bag H p k) (g : Gr H H') : Bag H' p k := by
  obtain ⟨x, y, z, e, r⟩ := b
  exact ⟨x, y, z, g _ _ e, r⟩
theorem SameX.gr {p : Addr} {H H1 H2 : Hp} (s : SameX p H H1) (g : Gr H1 H2) : SameX p H H2 := fun b u e hb => g b u (s b u e hb)
theorem Gr.sx {p : Addr} {H H' : Hp} (g : Gr H H') : SameX p H H' := fun b u e _ => g b u e
theorem cutI (ns : List Int) (lo hi : Option Int) : ∃ ms : List Int, cutV (ns.map V.int) lo hi = ms.map V.int ∧ ms.length ≤ ns.length := by
  refine ⟨(ns.drop (HT.sIx ns.length 0 lo)).take (HT.sIx ns.length ns.length hi - HT.sIx ns.length 0 lo), ?_, by rw [List.length_take, List.length_drop]; omega⟩
  unfold cutV
  rw [List.length_map, List.map_take, List.map_drop]
theorem getD_at {ns : List Int} {j : Nat} (h : j < ns.length) : ns.getD j 0 = ns[j] := by rw [List.getD_eq_getElem?_getD, List.getElem?_eq_getElem h]; rfl
theorem at_map {ns : List Int} {i : Nat} (h : i < ns.length) : atI (ns.map V.int) (i : Int) = some (.int ns[i]) := atI_nat (by rw [List.getElem?_map, List.getElem?_eq_getElem h]; rfl)
theorem filter_take {α : Type} (f : α → Bool) {l : List α} {i : Nat} {x : α} (h : l[i]? = some x) : (l.take (i + 1)).filter f = (l.take i).filter f ++ (if f x = true then [x] else []) := by
  obtain ⟨hi, e⟩ := List.getElem?_eq_some_iff.mp h
  rw [List.take_succ_eq_append_getElem hi, List.filter_append, e]
  by_cases hf : f x = true
  · simp [hf]
  · simp [hf]
theorem pair_get {K : PySem.W.Frag} {H : Hp} : ∀ {zs : List V} {ps : List (Int × Int)} {i : Nat} {z : V}, PairsAt K H zs ps → zs[i]? = some z → ∃ (q : Addr) (x y : Int), z = .ref q ∧ SqT K H q [.int x, .int y] ∧ ps[i]? = some (x, y)
  | _, _, _, _, .nil, h => by simp at h
  | _, _, 0, _, .cons ⟨q, e, s⟩ t, h => by simp at h; subst h; exact ⟨q, _, _, e, s, rfl⟩
  | _, _, i + 1, _, .cons _ t, h => by simp at h; simpa using pair_get t h
theorem PairsAt.sx {K : PySem.W.Frag} {H H' : Hp} {p : Addr} {k : Nat} {zs : List V} {ps : List (Int × Int)} (h : PairsAt K H zs ps) (s : SameX p H H') (b : Bag H p k) : PairsAt K H' zs ps := Paired.mapP h fun _ _ ⟨q, e, x⟩ => ⟨q, e, SqT.sx x s b⟩
structure S0 (H₀ H : Hp) (p : Addr) (k : Nat) : Prop where
  sx : SameX p H₀ H
  bag : Bag H p k
theorem S0.gr {H₀ H H' : Hp} {p : Addr} {k : Nat} (s : S0 H₀ H p k) (g : Gr H H') : S0 H₀ H' p k := ⟨s.sx.gr g, s.bag.gr g⟩
theorem S0.new {H₀ H : Hp} {p a : Addr} {k : Nat} {o : HO} (s : S0 H₀ H p k) (ha : H a = none) : S0 H₀ (upd H a o) p k := s.gr (Gr.new ha)
theorem S0.take {H₀ H H' : Hp} {p : Addr} {k k' : Nat} (s : S0 H₀ H p k) (b : Bag H' p k') (x : SameX p H H') : S0 H₀ H' p k' := ⟨s.sx.trans x, b⟩
theorem S0.mono {H₀ H : Hp} {p : Addr} {k k' : Nat} (s : S0 H₀ H p k) (h : k ≤ k') : S0 H₀ H p k' := ⟨s.sx, s.bag.mono h⟩
theorem S0.upl {H₀ H : Hp} {p a : Addr} {k : Nat} {o : HO} (s : S0 H₀ H p k) (ha : H₀ a = none) (hp : a ≠ p) : S0 H₀ (upd H a o) p k := by
  refine ⟨fun b u e hb => by rw [upd_ne (ne_of_none e ha)]; exact s.sx b u e hb, ?_⟩
  obtain ⟨x, y, z, e, r⟩ := s.bag
  exact ⟨x, y, z, by rw [upd_ne (Ne.symm hp)]; exact e, r⟩
theorem S0.id {H : Hp} {p : Addr} {k : Nat} (b : Bag H p k) : S0 H H p k := ⟨SameX.refl _ _, b⟩
theorem Bag.off {H : Hp} {p a : Addr} {k : Nat} (b : Bag H p k) (ha : H a = none) : a ≠ p := fun z => by obtain ⟨o, e⟩ := b.at; rw [← z, ha] at e; cases e
theorem SqT.upl {K : PySem.W.Frag} {H : Hp} {a q : Addr} {ys : List V} {o : HO} {xs : List V} (h : SqT K H q xs) (ha : H a = some (.lst ys)) : SqT K (upd H a o) q xs := by
  rcases h with h | h
  · rcases h with h | ⟨ob, h⟩
    · exact .inl (.inl (by rw [upd_ne (ne_of h ha (by intro z; cases z))]; exact h))
    · exact .inl (.inr ⟨ob, by rw [upd_ne (ne_of h ha (by intro z; cases z))]; exact h⟩)
  · exact .inr h
theorem PairsAt.upl {K : PySem.W.Frag} {H : Hp} {a : Addr} {ys : List V} {o : HO} {zs : List V} {ps : List (Int × Int)} (h : PairsAt K H zs ps) (ha : H a = some (.lst ys)) : PairsAt K (upd H a o) zs ps := Paired.mapP h fun _ _ ⟨q, e, x⟩ => ⟨q, e, SqT.upl x ha⟩
theorem PairsAt.app {K : PySem.W.Frag} {H : Hp} : ∀ {zs ys : List V} {ps qs : List (Int × Int)}, PairsAt K H zs ps → PairsAt K H ys qs → PairsAt K H (zs ++ ys) (ps ++ qs)
  | _, _, _, _, .nil, h => h
  | _, _, _, _, .cons a t, h => .cons a (PairsAt.app t h)
end My03

set_option autoImplicit false
set_option linter.all false
set_option Elab.async false
set_option maxRecDepth 100000
set_option maxHeartbeats 8000000
namespace My03
open PySem L2
/-- a net, read: how many places, its lanes -/
def NetV (K : PySem.W.Frag) (H : Hp) (q : Addr) (many : Int) (ps : List (Int × Int)) : Prop := ∃ (t : Addr) (zs : List V), SqT K H q [.int many, .ref t] ∧ SqT K H t zs ∧ PairsAt K H zs ps
theorem NetV.gr {K : PySem.W.Frag} {H H' : Hp} {q : Addr} {many : Int} {ps : List (Int × Int)} (h : NetV K H q many ps) (g : Gr H H') : NetV K H' q many ps := by
  obtain ⟨t, zs, h1, h2, h3⟩ := h
  exact ⟨t, zs, h1.gr g, h2.gr g, h3.gr g⟩
/-- pairs that are tracked -/
def PairsX (H : Hp) (zs : List V) (ps : List (Int × Int)) : Prop := Paired (fun (z : V) (p : Int × Int) => ∃ q, z = .ref q ∧ H q = some (.tup [.int p.1, .int p.2])) zs ps
theorem PairsX.at {K : PySem.W.Frag} {H : Hp} {zs : List V} {ps : List (Int × Int)} (h : PairsX H zs ps) : PairsAt K H zs ps := Paired.mapP h fun _ _ ⟨q, e, x⟩ => ⟨q, e, SqT.of x⟩
theorem PairsX.gr {H H' : Hp} {zs : List V} {ps : List (Int × Int)} (h : PairsX H zs ps) (g : Gr H H') : PairsX H' zs ps := Paired.mapP h fun _ _ ⟨q, e, x⟩ => ⟨q, e, g _ _ x⟩
theorem PairsX.upl {H : Hp} {a : Addr} {ys : List V} {o : HO} {zs : List V} {ps : List (Int × Int)} (h : PairsX H zs ps) (ha : H a = some (.lst ys)) : PairsX (upd H a o) zs ps :=
  Paired.mapP h fun _ _ ⟨q, e, x⟩ => ⟨q, e, by rw [upd_ne (ne_of x ha (by intro z; cases z))]; exact x⟩
theorem PairsX.app {H : Hp} : ∀ {zs ys : List V} {ps qs : List (Int × Int)}, PairsX H zs ps → PairsX H ys qs → PairsX H (zs ++ ys) (ps ++ qs)
  | _, _, _, _, .nil, h => h
  | _, _, _, _, .cons a t, h => .cons a (PairsX.app t h)
theorem PairsX.tup {H : Hp} : ∀ {zs : List V} {ps : List (Int × Int)}, PairsX H zs ps → ∀ z ∈ zs, IntTup H z
  | _, _, .nil, z, hz => by cases hz
  | _, _, .cons ⟨q, e, x⟩ t, z, hz => by
    rcases List.mem_cons.mp hz with rfl | hz
    · exact ⟨q, _, [_], e, x⟩
    · exact PairsX.tup t z hz
theorem PairsX.perm {H : Hp} {zs ys : List V} (p : zs.Perm ys) : ∀ {ps : List (Int × Int)}, PairsX H ys ps → ∃ qs, qs.Perm ps ∧ PairsX H zs qs := by
  induction p with
  | nil => intro ps r; cases r; exact ⟨[], List.Perm.refl _, .nil⟩
  | cons a _ ih =>
    intro ps r
    cases r with
    | cons h t =>
      obtain ⟨qs, q, r'⟩ := ih t
      exact ⟨_ :: qs, q.cons _, .cons h r'⟩
  | swap a b l =>
    intro ps r
    cases r with
    | cons h t =>
      cases t with
      | cons h' t' => exact ⟨_ :: _ :: _, List.Perm.swap _ _ _, .cons h' (.cons h t')⟩
  | trans _ _ ih1 ih2 =>
    intro ps r
    obtain ⟨qs, q, r'⟩ := ih2 r
    obtain ⟨us, q', r''⟩ := ih1 r'
    exact ⟨us, q'.trans q, r''⟩
def swp (p : Int × Int) : Int × Int := (p.2, p.1)
def succs (ps : List (Int × Int)) (j : Nat) : List Int := (ps.filter fun p => decide (p.1 = (j : Int))).map (·.2)
theorem mem_succs {ps : List (Int × Int)} {j : Nat} {x : Int} : x ∈ succs ps j ↔ ((j : Int), x) ∈ ps := by
  unfold succs
  rw [List.mem_map]
  constructor
  · rintro ⟨⟨a, b⟩, h, rfl⟩
    obtain ⟨h1, h2⟩ := List.mem_filter.mp h
    have : a = (j : Int) := of_decide_eq_true h2
    rw [← this]
    exact h1
  · intro h
    exact ⟨((j : Int), x), List.mem_filter.mpr ⟨h, decide_eq_true rfl⟩, rfl⟩
def NextsAt (H : Hp) (L : Addr) (rs : List Addr) (many : Int) (ps : List (Int × Int)) : Prop := H L = some (.lst (rs.map V.ref)) ∧ (rs.length : Int) = many ∧ ∀ (j : Nat) (hj : j < rs.length), H rs[j] = some (.lst ((succs ps j).map V.int))
theorem NextsAt.gr {H H' : Hp} {L : Addr} {rs : List Addr} {many : Int} {ps : List (Int × Int)} (h : NextsAt H L rs many ps) (g : Gr H H') : NextsAt H' L rs many ps := by
  obtain ⟨h1, h2, h3⟩ := h
  exact ⟨g _ _ h1, h2, fun j hj => g _ _ (h3 j hj)⟩
def spTurned (K : PySem.W.Frag) : Sp := fun vs H Q _ => ∃ (q : Addr) (many : Int) (ps : List (Int × Int)), vs = [.ref q] ∧ NetV K H q many ps ∧ ps.length ≤ 1000 ∧ ∀ (r : Addr) (H' : Hp) (qs : List (Int × Int)), Gr H H' → NetV K H' r many qs → qs.Perm (ps.map swp) → Q (.ref r) H'
def spNexts (K : PySem.W.Frag) : Sp := fun vs H Q _ => ∃ (q : Addr) (many : Int) (ps : List (Int × Int)), vs = [.ref q] ∧ NetV K H q many ps ∧ ps.length ≤ 1000 ∧ 0 ≤ many ∧ many ≤ 100 ∧ (∀ p ∈ ps, 0 ≤ p.1 ∧ p.1 < many) ∧
  ∀ (L : Addr) (H' : Hp) (rs : List Addr), Gr H H' → NextsAt H' L rs many ps → H L = none → (∀ r ∈ rs, H r = none) → Q (.ref L) H'
section
variable {P : Program} {w : World} {K : PySem.W.Frag} {mg : Str → Option Value} {base : Heap}
theorem no0 {α : Type} {Pr : α → Prop} : ∀ p ∈ ([] : List α), Pr p := fun p hp => nomatch hp
theorem scTurned : FnScope ["net", "many", "lanes"] ["net"] (defScope sTurned) := ⟨rfl, rfl, rfl, by decide +kernel, rfl, by decide +kernel, by decide +kernel⟩
theorem ndOO : ((["one", "other"] : List Str) ++ ([] : List Str)).Nodup := by decide +kernel
theorem ok_turned {f : Addr} {fd : FuncData} (F : Fun K "turned" "turned" sTurned f fd) (T : Txt mg) : FnOk P w K mg base CX0 1 f fd ["net"] (spTurned K) := by
  refine F.ok scTurned (fun vs H Q E h => ?_) (fun cdv A outer s H vs Q E hr h => ?_)
  · obtain ⟨q, many, ps, rfl, _⟩ := h
    rfl
  · obtain ⟨q, many, ps, rfl, ⟨t, zs, hq, ht, hps⟩, hpl, q0⟩ := h
    refine ⟨_, pss_cons (ps_asg (pv 0) (pg_tup rfl (pgs_cons (pg_name (i := 1) scTurned.nd rfl (Or.inl rfl)) (pgs_cons (pg_name (i := 2) scTurned.nd rfl (Or.inl rfl)) pgs_nil))))
      (pss_one (ps_ret (pe_tup (pa_cons (pv 1) (pa_cons (pe_callTy call_tuple_of (by rfl) T.tuple (by decide +kernel) (pa_cons (pe_callB call_sorted (by rfl) T.sorted (by decide +kernel) (pa_cons
          (pe_comp (own := ["one", "other"]) (caps := []) (js := []) ⟨rfl, rfl, by decide +kernel, by decide +kernel, by decide +kernel, rfl, no0, rfl, no0, no0, by decide +kernel, by decide +kernel⟩ rfl (pi_tup (pv 2))
            (fun C s H fp => pg_tupK (K := K) (n := 2) rfl rfl (pgs_cons (pg_name (i := 0) ndOO rfl (Or.inl rfl) (Or.inr rfl)) (pgs_cons (pg_name (i := 1) ndOO rfl (Or.inl rfl) (Or.inr rfl)) pgs_nil)))
            (fun C s H fp => pts_nil) (fun C s H fp => pe_tup (pa_cons (pv 1) (pa_cons (pv 0) pa_nil)))) pa_nil)) pa_nil)) pa_nil))))), ?_⟩
    have sm : ∀ n : Nat, n ≤ 1000 → n ≤ sizeLine := fun n h => Nat.le_of_lt (small1000 h)
    have hzl : zs.length = ps.length := Paired.length hps
    refine ⟨_, rfl, q, _, rfl, hq, rfl, _, _, rfl, _, _, rfl, rfl, ?_⟩
    refine ⟨_, rfl, _, rfl, t, rfl, ⟨_, ht⟩, fun acc hacc => ?_⟩
    refine comp_to (n := zs.length) (fun i ys σ H' => ∃ u1 u2 : Option V, σ = [u1, u2] ∧ PairsX H' ys ((ps.take i).map swp) ∧ H' acc = some (.lst ys) ∧ Gr H H')
      ⟨none, none, rfl, .nil, upd_same, Gr.new hacc⟩ (fun i ys σ H' _ ⟨_, _, _, _, h, _⟩ => h) ?_ ?_
    · rintro i ys σ H' hi ⟨u1, u2, rfl, hX, ha, gr⟩
      refine ⟨⟨_, zs[i], ht.gr gr, List.getElem?_eq_getElem hi⟩, ?_⟩
      rintro x H'' ⟨rfl, hx⟩
      obtain ⟨pq, x, y, rfl, hpq, hpi⟩ := pair_get (hps.gr gr) (hx _ (ht.gr gr))
      refine ⟨pq, _, rfl, hpq, rfl, _, _, rfl, _, _, rfl, rfl, ?_⟩
      refine ⟨_, rfl, _, rfl, sm 2 (by decide), fun pt hpt => ?_⟩
      have hyl : ys.length = ((ps.take i).map swp).length := Paired.length hX
      rw [List.length_map, List.length_take] at hyl
      have ha2 := Gr.new (o := .tup [.int y, .int x]) hpt _ _ ha
      refine ⟨ha2, small1000 (by omega), _, by omega, rfl, by omega, _, _, rfl, ?_, upd_same, Gr.acc (gr.trans (Gr.new hpt)) hacc⟩
      rw [← take_snoc swp hpi]
      exact PairsX.app (PairsX.upl (hX.gr (Gr.new hpt)) ha2) (.cons ⟨pt, rfl, by rw [upd_ne (Ne.symm (ne_of_none ha hpt)), upd_same]; rfl⟩ .nil)
    · rintro ys σ H2 ⟨u1, u2, rfl, hX, ha, gr⟩
      refine ⟨⟨_, ht.gr gr, Nat.le_refl _⟩, ?_⟩
      rw [hzl, List.take_length] at hX
      refine ⟨acc, ys, rfl, ha, hX.tup, fun us q1 pm hq1 => ⟨q1, us, rfl, .inl ⟨SqL.of upd_same, fun l5 hl5 => ⟨sm 2 (by decide), fun q2 hq2 => ?_⟩⟩⟩⟩
      obtain ⟨qs, pq, hX2⟩ := hX.perm pm
      have g1 := Gr.new (o := .lst us) hq1
      have g2 := Gr.new (o := .tup us) hl5
      have g3 := Gr.new (o := .tup [.int many, .ref l5]) hq2
      exact q0 q2 _ qs (((gr.trans g1).trans g2).trans g3) ⟨l5, us, SqT.new, (SqT.new (K := K)).gr g3, ((hX2.gr ((g1.trans g2).trans g3))).at⟩ pq
theorem scNexts : FnScope ["net", "many", "lanes", "nexts", "one", "other"] ["net"] (defScope sNexts) := ⟨rfl, rfl, rfl, by decide +kernel, rfl, by decide +kernel, by decide +kernel⟩
theorem ndPl : ((["place"] : List Str) ++ ([] : List Str)).Nodup := by decide +kernel
theorem ok_nexts {f : Addr} {fd : FuncData} (F : Fun K "next_places" "next_places" sNexts f fd) (T : Txt mg) : FnOk P w K mg base CX0 1 f fd ["net"] (spNexts K) := by
  refine F.ok scNexts (fun vs H Q E h => ?_) (fun cdv A outer s H vs Q E hr h => ?_)
  · obtain ⟨q, many, ps, rfl, _⟩ := h
    rfl
  · obtain ⟨q, many, ps, rfl, ⟨t, zs, hq, ht, hps⟩, hpl, hm0, hm1, hrg, q0⟩ := h
    refine ⟨_, pss_cons (ps_asg (pv 0) (pg_tup rfl (pgs_cons (pg_name (i := 1) scNexts.nd rfl (Or.inl rfl)) (pgs_cons (pg_name (i := 2) scNexts.nd rfl (Or.inl rfl)) pgs_nil))))
      (pss_cons (ps_setComp (i := 3) (own := ["place"]) (caps := []) (js := []) ⟨rfl, rfl, by decide +kernel, by decide +kernel, by decide +kernel, rfl, no0, rfl, no0, no0, by decide +kernel, by decide +kernel⟩ rfl (pi_range1 rfl T.range (pa_cons (pv 1) pa_nil))
          (fun C s H fp => pg_name (i := 0) ndPl rfl (Or.inl rfl) (Or.inr rfl)) (fun C s H fp => pts_nil) (fun C s H fp => pe_lst pa_nil) scNexts.nd rfl rfl rfl)
      (pss_cons (ps_for PassesOwn.never rfl (pi_tup (pv 2)) (pg_tup rfl (pgs_cons (pg_name (i := 4) scNexts.nd rfl (Or.inl rfl)) (pgs_cons (pg_name (i := 5) scNexts.nd rfl (Or.inl rfl)) pgs_nil)))
        (pss_one (ps_expr (pe_bm PySem.F.plainAttrs_list PySem.F.slot_list_append PySem.F.type_list_append mt_append (pe_ix ix_list (pv 3) (pv 4) (fun _ _ => rfl)) (pa_cons (pv 5) pa_nil)))))
      (pss_one (ps_ret (pv 3))))), ?_⟩
    have sm : ∀ n : Nat, n ≤ 1000 → n ≤ sizeLine := fun n h => Nat.le_of_lt (small1000 h)
    have hzl : zs.length = ps.length := Paired.length hps
    refine ⟨_, rfl, q, _, rfl, hq, rfl, _, _, rfl, _, _, rfl, rfl, ?_⟩
    refine ⟨_, rfl, _, rfl, by omega, by omega, fun acc hacc => ?_⟩
    refine comp_to (n := many.toNat) (fun i ys σ H' => ∃ (u : Option V) (rs : List Addr), σ = [u] ∧ ys = rs.map V.ref ∧ rs.length = i ∧ rs.Nodup ∧ (∀ r ∈ rs, H' r = some (.lst []) ∧ H r = none ∧ r ≠ acc) ∧ H' acc = some (.lst ys) ∧ Gr H H')
      ⟨none, [], rfl, rfl, rfl, List.nodup_nil, no0, upd_same, Gr.new hacc⟩ (fun i ys σ H' _ ⟨_, _, _, _, _, _, _, h, _⟩ => h) ?_ ?_
    · rintro i ys σ H' hi ⟨u, rs, rfl, rfl, hl, nd, hrs, ha, gr⟩
      refine ⟨hi, ?_⟩
      rintro x H'' ⟨rfl, rfl⟩
      refine ⟨sm 0 (by decide), fun pt hpt => ?_⟩
      have hpa : pt ≠ acc := Ne.symm (ne_of_none ha hpt)
      have hp0 : H pt = none := by
        cases e : H pt with
        | none => rfl
        | some o => have := gr _ _ e; rw [hpt] at this; cases this
      have hnr : pt ∉ rs := fun z => by have := (hrs pt z).1; rw [hpt] at this; cases this
      refine ⟨Gr.new hpt _ _ ha, small1000 (by rw [List.length_map]; omega), _, by omega, rfl, by omega, _, rs ++ [pt], rfl, by simp, by simp [hl], ?_, fun r hr' => ?_, upd_same, Gr.acc (gr.trans (Gr.new hpt)) hacc⟩
      · rw [List.nodup_append]
        exact ⟨nd, List.nodup_cons.mpr ⟨by simp, List.nodup_nil⟩, fun a ha' b hb' => by rw [List.mem_singleton.mp hb']; exact fun z => hnr (z ▸ ha')⟩
      · rcases List.mem_append.mp hr' with h | h
        · obtain ⟨h1, h2, h3⟩ := hrs r h
          exact ⟨by rw [upd_ne h3, upd_ne (ne_of_none h1 hpt)]; exact h1, h2, h3⟩
        · rw [List.mem_singleton.mp h]
          exact ⟨by rw [upd_ne hpa, upd_same], hp0, hpa⟩
    · rintro ys σ H2 ⟨u, rs, rfl, rfl, hl, nd, hrs, ha, gr⟩
      refine ⟨Nat.le_refl _, ?_⟩
      refine ⟨_, rfl, t, rfl, ⟨_, ht.gr gr⟩, for_tup (K := K) (a := t) (xs := zs) (fun i σ H3 => ∃ u4 u5 : Option V, σ = [some (.ref q), some (.int many), some (.ref t), some (.ref acc), u4, u5] ∧ H3 acc = some (.lst (rs.map V.ref)) ∧ (∀ (j : Nat) (hj : j < rs.length), H3 rs[j] = some (.lst ((succs (ps.take i) j).map V.int))) ∧ Gr H H3)
        ⟨none, none, rfl, ha, fun j hj => (hrs _ (List.getElem_mem hj)).1, gr⟩ (fun i σ H3 _ ⟨_, _, _, _, _, g⟩ => ht.gr g) ?_ ?_⟩
      · rintro i z σ H3 hi ⟨u4, u5, rfl, ha3, hr3, g3⟩
        obtain ⟨pq, x, y, rfl, hpq, hpi⟩ := pair_get (hps.gr g3) hi
        obtain ⟨x0, x9⟩ := hrg _ (List.mem_of_getElem? hpi)
        have hxl : x.toNat < rs.length := by rw [hl]; have := x9; have := x0; simp only at *; omega
        have hxc : ((x.toNat : Nat) : Int) = x := by simp only at x0; omega
        have hat : atI (rs.map V.ref) x = some (.ref rs[x.toNat]) := by
          have z := atI_nat (xs := rs.map V.ref) (j := x.toNat) (v := .ref rs[x.toNat]) (by rw [List.getElem?_map, List.getElem?_eq_getElem hxl]; rfl)
          rw [hxc] at z
          exact z
        have hil := (List.getElem?_eq_some_iff.mp hpi).1
        have hsl : (succs (ps.take i) x.toNat).length ≤ 1000 := by
          unfold succs
          rw [List.length_map]
          have h1 := List.length_filter_le (fun p : Int × Int => decide (p.1 = ((x.toNat : Nat) : Int))) (ps.take i)
          rw [List.length_take] at h1
          omega
        refine ⟨pq, _, rfl, hpq, rfl, _, _, rfl, _, _, rfl, rfl, ?_⟩
        refine ⟨_, rfl, _, rfl, acc, _, _, _, rfl, rfl, SqL.of ha3, hat, .inl ⟨rfl, _, SqL.of (hr3 _ hxl)⟩, _, rfl, rs[x.toNat], _, _, rfl, rfl, hr3 _ hxl, small1000 (by rw [List.length_map]; exact hsl), _, _, rfl, ?_, fun j hj => ?_, ?_⟩
        · rw [upd_ne (Ne.symm (hrs _ (List.getElem_mem hxl)).2.2)]
          exact ha3
        · have hf := filter_take (fun p : Int × Int => decide (p.1 = (j : Int))) hpi
          by_cases hjx : j = x.toNat
          · subst hjx
            rw [upd_same]
            unfold succs
            rw [hf, if_pos (decide_eq_true (show x = ((x.toNat : Nat) : Int) from hxc.symm))]
            simp
          · have hne : rs[j] ≠ rs[x.toNat] := fun z => by
              rcases Nat.lt_or_gt_of_ne hjx with h | h
              · exact List.pairwise_iff_getElem.mp nd _ _ hj hxl h z
              · exact List.pairwise_iff_getElem.mp nd _ _ hxl hj h z.symm
            rw [upd_ne hne, hr3 j hj]
            unfold succs
            rw [hf, if_neg (by simp only [decide_eq_true_eq]; omega), List.append_nil]
        · exact Gr.acc g3 (hrs _ (List.getElem_mem hxl)).2.1
      · rintro σ H3 ⟨u4, u5, rfl, ha3, hr3, g3⟩
        rw [hzl, List.take_length] at hr3
        exact ⟨_, rfl, q0 acc H3 rs g3 ⟨ha3, by rw [hl]; omega, hr3⟩ hacc fun r hr' => (hrs r hr').2.1⟩
end
end My03

set_option autoImplicit false
set_option linter.all false
set_option Elab.async false
set_option maxRecDepth 100000
set_option maxHeartbeats 8000000
namespace My03
open PySem L2
/-! ### how many lanes away, by walks -/
def R (ps : List (Int × Int)) (cl : List Int) (start : Int) : Nat → Int → Prop
  | 0, v => v = start ∧ start ∉ cl
  | n + 1, v => ∃ u, R ps cl start n u ∧ (u, v) ∈ ps ∧ v ∉ cl
def IsDist (ps : List (Int × Int)) (cl : List Int) (start many : Int) (ds : List (Option Nat)) : Prop :=
  (ds.length : Int) = many ∧ ∀ j : Nat, (∀ m, ds[j]? = some (some m) → R ps cl start m j ∧ ∀ m' < m, ¬ R ps cl start m' j) ∧ (ds[j]? = some none → ∀ m, ¬ R ps cl start m j)
def dv : Option Nat → V
  | none => .non
  | some n => .int (n : Int)
theorem R_none {ps : List (Int × Int)} {cl : List Int} {start : Int} (h : start ∈ cl) : ∀ m v, ¬ R ps cl start m v
  | 0, v, z => z.2 h
  | m + 1, v, ⟨u, r, _⟩ => R_none h m u r
theorem R_rng {ps : List (Int × Int)} {cl : List Int} {start many : Int} (hs : 0 ≤ start ∧ start < many) (hr : ∀ p ∈ ps, 0 ≤ p.2 ∧ p.2 < many) : ∀ m v, R ps cl start m v → 0 ≤ v ∧ v < many
  | 0, v, z => by rw [z.1]; exact hs
  | m + 1, v, ⟨u, _, e, _⟩ => hr _ e
structure Bfs (ps : List (Int × Int)) (cl : List Int) (start many : Int) (n : Nat) (lay : List Int) (ds : List (Option Nat)) : Prop where
  len : (ds.length : Int) = many
  sound : ∀ (j : Nat) m, ds[j]? = some (some m) → m ≤ n ∧ R ps cl start m j ∧ ∀ m' < m, ¬ R ps cl start m' j
  compl : ∀ m ≤ n, ∀ v : Nat, R ps cl start m v → ∃ m' ≤ m, ds[v]? = some (some m')
  layer : ∀ x : Int, x ∈ lay ↔ ∃ j : Nat, x = j ∧ ds[j]? = some (some n)
structure Mid (ps : List (Int × Int)) (cl lay : List Int) (n : Nat) (ds ds' : List (Option Nat)) (fur : List Int) (done : List (Int × Int)) : Prop where
  len : ds'.length = ds.length
  old : ∀ (j : Nat) m, ds[j]? = some (some m) → ds'[j]? = some (some m)
  new : ∀ (j : Nat) m, ds'[j]? = some (some m) → ds[j]? = some (some m) ∨ (m = n + 1 ∧ ds[j]? = some none ∧ (j : Int) ∈ fur)
  furs : ∀ x ∈ fur, ∃ j : Nat, x = j ∧ ds'[j]? = some (some (n + 1)) ∧ ds[j]? = some none ∧ ∃ u ∈ lay, (u, x) ∈ ps ∧ x ∉ cl
  proc : ∀ e ∈ done, e.2 ∉ cl → ∀ v : Nat, e.2 = v → ∃ m, ds'[v]? = some (some m)
def cnt (ds : List (Option Nat)) : Nat := (ds.filter (·.isNone)).length
theorem cnt_set : ∀ {ds : List (Option Nat)} {j m : Nat}, ds[j]? = some none → cnt (ds.set j (some m)) + 1 = cnt ds
  | [], _, _, h => by simp at h
  | a :: ds, 0, m, h => by simp at h; subst h; simp [cnt]
  | a :: ds, j + 1, m, h => by
    have ih := cnt_set (ds := ds) (j := j) (m := m) (by simpa using h)
    unfold cnt at ih ⊢
    rw [List.set_cons_succ, List.filter_cons, List.filter_cons]
    by_cases ha : a.isNone = true
    · rw [if_pos ha, if_pos ha]; simp only [List.length_cons]; omega
    · rw [if_neg ha, if_neg ha]; exact ih
section
variable {ps : List (Int × Int)} {cl lay fur : List Int} {start many : Int} {n : Nat} {ds ds' : List (Option Nat)} {done : List (Int × Int)}
theorem Mid.init : Mid ps cl lay n ds ds [] [] := ⟨rfl, fun _ _ h => h, fun _ _ h => .inl h, (fun x hx => nomatch hx), (fun e he => nomatch he)⟩
/-- a lane to a place that has its number, or is closed -/
theorem Mid.skip (M : Mid ps cl lay n ds ds' fur done) {u : Int} {v : Nat} (h : (v : Int) ∈ cl ∨ ∃ m, ds'[v]? = some (some m)) : Mid ps cl lay n ds ds' fur (done ++ [(u, (v : Int))]) := by
  refine ⟨M.len, M.old, M.new, M.furs, fun e he hc w hw => ?_⟩
  rcases List.mem_append.mp he with he | he
  · exact M.proc e he hc w hw
  · rw [List.mem_singleton.mp he] at hc hw
    have e : (v : Int) = (w : Int) := hw
    have e : v = w := by omega
    subst e
    rcases h with h | h
    · exact absurd h hc
    · exact h
/-- a lane to a new place -/
theorem Mid.put (M : Mid ps cl lay n ds ds' fur done) {u : Int} {v : Nat} (hn : ds'[v]? = some none) (hu : u ∈ lay) (hp : (u, (v : Int)) ∈ ps) (hc : (v : Int) ∉ cl) :
    Mid ps cl lay n ds (ds'.set v (some (n + 1))) (fur ++ [(v : Int)]) (done ++ [(u, (v : Int))]) := by
  have hv : v < ds'.length := (List.getElem?_eq_some_iff.mp hn).1
  have hdn : ds[v]? = some none := by
    cases e : ds[v]? with
    | none => rw [List.getElem?_eq_none_iff] at e; rw [← M.len] at e; omega
    | some o => cases o with
      | none => rfl
      | some m => rw [M.old v m e] at hn; cases hn
  have hset : ∀ j : Nat, (ds'.set v (some (n + 1)))[j]? = if v = j then some (some (n + 1)) else ds'[j]? := fun j => by
    rw [List.getElem?_set]
    by_cases h : v = j
    · subst h; simp [hv]
    · simp [h]
  refine ⟨by rw [List.length_set]; exact M.len, fun j m h => ?_, fun j m h => ?_, fun x hx => ?_, fun e he hcl w hw => ?_⟩
  · rw [hset]
    by_cases hj : v = j
    · subst hj; rw [hdn] at h; cases h
    · rw [if_neg hj]; exact M.old j m h
  · rw [hset] at h
    by_cases hj : v = j
    · subst hj
      rw [if_pos rfl] at h
      cases h
      exact .inr ⟨rfl, hdn, List.mem_append_right _ (List.mem_singleton.mpr rfl)⟩
    · rw [if_neg hj] at h
      rcases M.new j m h with z | ⟨z1, z2, z3⟩
      · exact .inl z
      · exact .inr ⟨z1, z2, List.mem_append_left _ z3⟩
  · rcases List.mem_append.mp hx with hx | hx
    · obtain ⟨j, e, h1, h2, h3⟩ := M.furs x hx
      refine ⟨j, e, ?_, h2, h3⟩
      rw [hset]
      by_cases hj : v = j
      · rw [if_pos hj]
      · rw [if_neg hj]; exact h1
    · rw [List.mem_singleton.mp hx]
      exact ⟨v, rfl, by rw [hset, if_pos rfl], hdn, u, hu, hp, hc⟩
  · rw [hset]
    by_cases hj : v = w
    · rw [if_pos hj]; exact ⟨_, rfl⟩
    · rw [if_neg hj]
      rcases List.mem_append.mp he with he | he
      · exact M.proc e he hcl w hw
      · rw [List.mem_singleton.mp he] at hw
        have e2 : (v : Int) = (w : Int) := hw
        exact absurd (by omega) hj
/-- a layer is through -/
theorem Mid.fin (hrn : ∀ m v, R ps cl start m v → 0 ≤ v) (B : Bfs ps cl start many n lay ds) (M : Mid ps cl lay n ds ds' fur done) (hd : ∀ u v, u ∈ lay → (u, v) ∈ ps → (u, v) ∈ done) : Bfs ps cl start many (n + 1) fur ds' := by
  have hR : ∀ x ∈ fur, R ps cl start (n + 1) x := fun x hx => by
    obtain ⟨j, e, _, _, u, hu, hp, hc⟩ := M.furs x hx
    obtain ⟨k, e2, hk⟩ := (B.layer u).mp hu
    exact ⟨u, by rw [e2]; exact (B.sound k n hk).2.1, hp, hc⟩
  have hmin : ∀ j : Nat, ds[j]? = some none → ∀ m' < n + 1, ¬ R ps cl start m' j := fun j h m' hm r => by
    obtain ⟨m'', _, e⟩ := B.compl m' (by omega) j r
    rw [h] at e
    cases e
  refine ⟨by rw [M.len]; exact B.len, fun j m h => ?_, fun m hm v r => ?_, fun x => ⟨fun hx => ?_, fun ⟨j, e, h⟩ => ?_⟩⟩
  · rcases M.new j m h with z | ⟨rfl, z2, z3⟩
    · obtain ⟨h1, h2, h3⟩ := B.sound j m z
      exact ⟨by omega, h2, h3⟩
    · exact ⟨Nat.le_refl _, hR _ z3, hmin j z2⟩
  · by_cases hm' : m ≤ n
    · obtain ⟨m', h1, h2⟩ := B.compl m hm' v r
      exact ⟨m', h1, M.old _ _ h2⟩
    · have em : m = n + 1 := by omega
      subst em
      obtain ⟨u, ru, hp, hc⟩ := r
      have key : ∃ m', ds'[v]? = some (some m') := by
        by_cases hu : u ∈ lay
        · exact M.proc (u, (v : Int)) (hd u v hu hp) hc v rfl
        · -- u has a lesser number
          obtain ⟨k, rfl⟩ : ∃ k : Nat, u = (k : Int) := ⟨u.toNat, by have := hrn n u ru; omega⟩
          obtain ⟨m', hm1, hm2⟩ := B.compl n (Nat.le_refl _) k ru
          have hlt : m' < n := by
            rcases Nat.lt_or_eq_of_le hm1 with z | z
            · exact z
            · subst z; exact absurd ((B.layer k).mpr ⟨k, rfl, hm2⟩) hu
          have r' : R ps cl start (m' + 1) (v : Int) := ⟨k, (B.sound k m' hm2).2.1, hp, hc⟩
          obtain ⟨m'', _, e⟩ := B.compl (m' + 1) (by omega) v r'
          exact ⟨m'', M.old _ _ e⟩
      obtain ⟨m', e⟩ := key
      refine ⟨m', ?_, e⟩
      rcases M.new v m' e with z | ⟨rfl, _, _⟩
      · have := (B.sound v m' z).1; omega
      · exact Nat.le_refl _
  · obtain ⟨j, e, h1, _⟩ := M.furs x hx
    exact ⟨j, e, h1⟩
  · rcases M.new j (n + 1) h with z | ⟨_, _, z3⟩
    · have := (B.sound j (n + 1) z).1; omega
    · rw [e]; exact z3
/-- nothing new: all numbers are told -/
theorem Bfs.dist (hrn : ∀ m v, R ps cl start m v → 0 ≤ v) (B : Bfs ps cl start many n [] ds) : IsDist ps cl start many ds := by
  refine ⟨B.len, fun j => ⟨fun m h => (B.sound j m h).2, fun h m r => ?_⟩⟩
  have all : ∀ m (v : Nat), R ps cl start m v → ∃ m' ≤ n, ds[v]? = some (some m') := by
    intro m
    induction m with
    | zero => intro v r; obtain ⟨m', h1, h2⟩ := B.compl 0 (Nat.zero_le _) v r; exact ⟨m', by omega, h2⟩
    | succ m ih =>
      intro v r
      obtain ⟨u, ru, hp, hc⟩ := r
      obtain ⟨k, rfl⟩ : ∃ k : Nat, u = (k : Int) := ⟨u.toNat, by have := hrn m u ru; omega⟩
      obtain ⟨m', h1, h2⟩ := ih k ru
      have hlt : m' < n := by
        rcases Nat.lt_or_eq_of_le h1 with z | z
        · exact z
        · subst z; exact nomatch (B.layer k).mpr ⟨k, rfl, h2⟩
      obtain ⟨m'', h3, h4⟩ := B.compl (m' + 1) (by omega) v ⟨k, (B.sound k m' h2).2.1, hp, hc⟩
      exact ⟨m'', by omega, h4⟩
  obtain ⟨m', _, e⟩ := all m j r
  rw [h] at e
  cases e
theorem Bfs.init {s0 : Nat} (hs : start = (s0 : Int)) (hlt : start < many) (hc : start ∉ cl) : Bfs ps cl start many 0 [start] ((List.replicate many.toNat (none : Option Nat)).set s0 (some 0)) := by
  have hl : s0 < many.toNat := by omega
  have hset : ∀ j : Nat, ((List.replicate many.toNat (none : Option Nat)).set s0 (some 0))[j]? = if s0 = j then some (some 0) else (List.replicate many.toNat (none : Option Nat))[j]? := fun j => by
    rw [List.getElem?_set]
    by_cases h : s0 = j
    · subst h; simp [hl]
    · simp [h]
  have hin : ∀ (j m : Nat), ((List.replicate many.toNat (none : Option Nat)).set s0 (some 0))[j]? = some (some m) → s0 = j ∧ m = 0 := fun j m h => by
    rw [hset] at h
    by_cases hj : s0 = j
    · rw [if_pos hj] at h; cases h; exact ⟨hj, rfl⟩
    · rw [if_neg hj, List.getElem?_replicate] at h
      split at h <;> simp at h
  refine ⟨by rw [List.length_set, List.length_replicate]; omega, fun j m h => ?_, fun m hm v r => ?_, fun x => ⟨fun hx => ?_, fun ⟨j, e, h⟩ => ?_⟩⟩
  · obtain ⟨rfl, rfl⟩ := hin j m h
    exact ⟨Nat.le_refl _, ⟨hs.symm, hc⟩, fun m' hm' => absurd hm' (Nat.not_lt_zero _)⟩
  · have e : m = 0 := by omega
    subst e
    obtain ⟨e, _⟩ := r
    have : s0 = v := by omega
    exact ⟨0, Nat.le_refl _, by rw [hset, if_pos this]⟩
  · rw [List.mem_singleton.mp hx]
    exact ⟨s0, hs, by rw [hset, if_pos rfl]⟩
  · obtain ⟨e2, _⟩ := hin j 0 h
    rw [e, ← e2, ← hs]
    exact List.mem_singleton.mpr rfl
end
end My03

set_option autoImplicit false
set_option linter.all false
set_option Elab.async false
set_option maxRecDepth 100000
set_option maxHeartbeats 8000000
namespace My03
open PySem L2
def spAway (K : PySem.W.Frag) : Sp := fun vs H Q _ => ∃ (q c : Addr) (start many : Int) (ps : List (Int × Int)) (cl : List Int), vs = [.ref q, .int start, .ref c] ∧ NetV K H q many ps ∧ ps.length ≤ 1000 ∧ many ≤ 100 ∧ 0 ≤ start ∧ start < many ∧
  (∀ p ∈ ps, (0 ≤ p.1 ∧ p.1 < many) ∧ 0 ≤ p.2 ∧ p.2 < many) ∧ (SqL K H c (cl.map V.int) ∨ SqT K H c (cl.map V.int)) ∧
  ∀ (A : Addr) (H' : Hp) (ds : List (Option Nat)), Gr H H' → H' A = some (.lst (ds.map dv)) → IsDist ps cl start many ds → (∀ (j : Nat) m, ds[j]? = some (some m) → m ≤ 100) → Q (.ref A) H'
theorem sq_gr {K : PySem.W.Frag} {H H' : Hp} {a : Addr} {xs : List V} (h : SqL K H a xs ∨ SqT K H a xs) (g : Gr H H') : SqL K H' a xs ∨ SqT K H' a xs := h.imp (·.gr g) (·.gr g)
theorem at_dv {ds : List (Option Nat)} {j : Nat} {o : Option Nat} (h : ds[j]? = some o) : atI (ds.map dv) (j : Int) = some (dv o) := atI_nat (by rw [List.getElem?_map, h]; rfl)
theorem ix_nat {n j : Nat} (h : j < n) : ixN n (j : Int) = some j := by
  unfold ixN
  rw [if_pos (by omega), if_pos (by omega)]
  rfl
section
variable {P : Program} {w : World} {K : PySem.W.Frag} {mg : Str → Option Value} {base : Heap}
theorem scAway : FnScope ["net", "start", "closed", "many", "away", "nexts", "shut", "layer", "further", "place", "head"] ["net", "start", "closed"] (defScope sAway) := ⟨rfl, rfl, rfl, by decide +kernel, rfl, by decide +kernel, by decide +kernel⟩
theorem ndPC : ((["place"] : List Str) ++ (["closed"] : List Str)).Nodup := by decide +kernel
theorem ok_away {f fN : Addr} {fd fdN : FuncData} (F : Fun K "lanes_away" "lanes_away" sAway f fd) (T : Txt mg) (FN : Fun K "next_places" "next_places" sNexts fN fdN) (bN : Binds K fdN ["net"] []) (mN : mg "next_places" = some (.ref fN)) :
    FnOk P w K mg base CX0 2 f fd ["net", "start", "closed"] (spAway K) := by
  have GN : FnOk P w K mg base CX0 1 fN fdN ["net"] (spNexts K) := ok_nexts FN T
  refine F.ok scAway (fun vs H Q E h => ?_) (fun cdv A outer s H vs Q E hr h => ?_)
  · obtain ⟨q, c, start, many, ps, cl, rfl, _⟩ := h
    rfl
  · obtain ⟨q, c, start, many, ps, cl, rfl, NV, hpl, hm1, hs0, hs1, hrg, hcl, q0⟩ := h
    have hu := hr.units
    refine ⟨_, pss_cons (ps_set (i := 3) scAway.nd rfl (Or.inl rfl) (pe_ix ix_tup (pv 0) pe_int (fun _ _ => rfl)))
      (pss_cons (ps_set (i := 4) scAway.nd rfl (Or.inl rfl) (pe_op op_rep (pe_lst (pa_cons pe_non pa_nil)) (pv 3)))
      (pss_cons (ps_if (pt_cmpR (op_inD hu) (pv 1) (pv 2) (by with_unfolding_all rfl)) (pss_one (ps_ret (pv 4))) pss_nil)
      (pss_cons (ps_set (i := 5) scAway.nd rfl (Or.inl rfl) (pe_call GN hr rfl mN FN.kp bN .nil pass0 (pa_cons (pv 0) pa_nil)))
      (pss_cons (ps_setComp (i := 6) (own := ["place"]) (caps := ["closed"]) (js := [2]) ⟨rfl, rfl, by decide +kernel, by decide +kernel, by decide +kernel, rfl, mem1 rfl, rfl, mem1 (Or.inl rfl), mem1 (Or.inl rfl), by decide +kernel, by decide +kernel⟩ rfl (pi_range1 rfl T.range (pa_cons (pv 3) pa_nil))
          (fun C s H fp => pg_name (i := 0) ndPC rfl (Or.inl rfl) (Or.inr rfl)) (fun C s H fp => pts_nil) (fun C s H fp => pe_cmpR (op_inDK (K := K) rfl hu) (pv 0) (pv 1) (by with_unfolding_all rfl)) scAway.nd rfl rfl rfl)
      (pss_cons (ps_asg pe_int (pg_sub (pv 4) (pv 1) set_list))
      (pss_cons (ps_set (i := 7) scAway.nd rfl (Or.inl rfl) (pe_lst (pa_cons (pv 1) pa_nil)))
      (pss_cons (ps_while PassesOwn.never (pt_truth (pv 7) (fun _ => rfl))
        (pss_cons (ps_set (i := 8) scAway.nd rfl (Or.inl rfl) (pe_lst pa_nil))
        (pss_cons (ps_for PassesOwn.never rfl (pi_list (pv 7)) (pg_name (i := 9) scAway.nd rfl (Or.inl rfl))
          (pss_one (ps_for PassesOwn.never rfl (pi_list (pe_ix ix_list (pv 5) (pv 9) (fun _ _ => rfl))) (pg_name (i := 10) scAway.nd rfl (Or.inl rfl))
            (pss_one (ps_if (PW.pt (pw_and (pt_cmp (pc_isN (pe_ix ix_list (pv 4) (pv 10) (fun _ _ => rfl)))) (pw_and1 (pt_not (pt_val (pe_ix ix_list (pv 6) (pv 10) (fun _ _ => rfl)))))))
              (pss_cons (ps_asg (pe_op op_add (pe_ix ix_list (pv 4) (pv 9) (fun _ _ => rfl)) pe_int) (pg_sub (pv 4) (pv 10) set_list))
              (pss_one (ps_expr (pe_bm PySem.F.plainAttrs_list PySem.F.slot_list_append PySem.F.type_list_append mt_append (pv 8) (pa_cons (pv 10) pa_nil))))) pss_nil)))))
        (pss_one (ps_set (i := 7) scAway.nd rfl (Or.inl rfl) (pv 8))))))
      (pss_one (ps_ret (pv 4)))))))))), ?_⟩
    have sm : ∀ n : Nat, n ≤ 1000 → n ≤ sizeLine := fun n h => Nat.le_of_lt (small1000 h)
    obtain ⟨t, zs, hq, ht, hps⟩ := id NV
    refine ⟨_, rfl, q, _, _, _, rfl, rfl, hq, rfl, ?_⟩
    refine ⟨sm 1 (by decide), fun l1 hl1 => ⟨_, rfl, l1, many, _, rfl, rfl, upd_same, by omega, by omega, sm _ (by simp; omega), fun av hav => ?_⟩⟩
    have e0 : (List.replicate many.toNat [V.non]).flatten = (List.replicate many.toNat (none : Option Nat)).map dv := by
      rw [List.map_replicate]
      induction many.toNat with
      | zero => rfl
      | succ n ih => rw [List.replicate_succ, List.flatten_cons, ih, List.replicate_succ]; rfl
    rw [e0]
    have g1 : Gr H (upd (upd H l1 (.lst [.non])) av (.lst ((List.replicate many.toNat (none : Option Nat)).map dv))) := (Gr.new hl1).trans (Gr.new hav)
    have hav0 : H av = none := by
      cases e : H av with
      | none => rfl
      | some o => have := Gr.new (o := .lst [.non]) hl1 _ _ e; rw [hav] at this; cases this
    refine ⟨_, rfl, _, rfl, c, _, _, _, rfl, sq_gr hcl g1, DVs.ints cl, .int start, by show 0 ≤ 60; decide, _, rfl, ?_⟩
    rw [show (if false then !((cl.map PyData.int).any fun d => PyData.eqv d (.int start)) else ((cl.map PyData.int).any fun d => PyData.eqv d (.int start))) = decide (start ∈ cl) from L2.any_ints start cl]
    by_cases hsc : start ∈ cl
    · refine iteP (decide_eq_true hsc) ?_
      exact ⟨_, rfl, q0 av _ _ g1 upd_same ⟨by simp; omega, fun j => ⟨fun m h => by rw [List.getElem?_replicate] at h; split at h <;> simp at h, fun _ m => R_none hsc m j⟩⟩ fun j m h => by rw [List.getElem?_replicate] at h; split at h <;> simp at h⟩
    refine iteN (decide_eq_false hsc) ?_
    have hrn : ∀ m v, R ps cl start m v → 0 ≤ v := fun m v r => (R_rng ⟨hs0, hs1⟩ (fun p hp => (hrg p hp).2) m v r).1
    -- nexts
    refine ⟨_, rfl, q, many, ps, rfl, NV.gr g1, hpl, by omega, by omega, (fun p hp => (hrg p hp).1), fun nx H2 rs g2 NX hnx hrs => ?_⟩
    -- shut
    refine ⟨_, rfl, _, rfl, by omega, by omega, fun acc hacc => ?_⟩
    refine comp_to (n := many.toNat) (fun i ys σ H' => ∃ u : Option V, σ = [u, some (.ref c)] ∧ ys = (List.range i).map (fun j : Nat => V.bl (decide ((j : Int) ∈ cl))) ∧ H' acc = some (.lst ys) ∧ Gr H2 H')
      ⟨none, rfl, rfl, upd_same, Gr.new hacc⟩ (fun i ys σ H' _ ⟨_, _, _, h, _⟩ => h) ?_ ?_
    · rintro i ys σ H' hi ⟨u, rfl, rfl, ha, gr⟩
      refine ⟨hi, ?_⟩
      rintro x H'' ⟨rfl, rfl⟩
      refine ⟨_, rfl, _, rfl, c, _, _, _, rfl, sq_gr hcl ((g1.trans g2).trans gr), DVs.ints cl, .int _, by show 0 ≤ 60; decide, ?_⟩
      rw [show (if false then !((cl.map PyData.int).any fun d => PyData.eqv d (.int (0 + (i : Int)))) else ((cl.map PyData.int).any fun d => PyData.eqv d (.int (0 + (i : Int))))) = decide ((i : Int) ∈ cl) from by rw [Int.zero_add]; exact L2.any_ints (i : Int) cl]
      exact ⟨ha, small1000 (by simp; omega), _, by omega, rfl, by omega, _, rfl, by rw [List.range_succ, List.map_append]; rfl, upd_same, Gr.acc gr hacc⟩
    · rintro ys σ H3 ⟨u, rfl, rfl, hsh, gr3⟩
      refine ⟨Nat.le_refl _, ?_⟩
      have g3 := (g1.trans g2).trans gr3
      have hav3 : H3 av = some (.lst ((List.replicate many.toNat (none : Option Nat)).map dv)) := gr3 _ _ (g2 _ _ upd_same)
      have NX3 := NX.gr gr3
      have havp : (upd (upd H l1 (.lst [.non])) av (.lst ((List.replicate many.toNat (none : Option Nat)).map dv))) av = some (.lst ((List.replicate many.toNat (none : Option Nat)).map dv)) := upd_same
      have nxa : nx ≠ av := fun z => by rw [z, havp] at hnx; cases hnx
      have rsa : ∀ r ∈ rs, r ≠ av := fun r hr' z => by have h := hrs r hr'; rw [z, havp] at h; cases h
      have sha : acc ≠ av := fun z => by rw [z, g2 _ _ havp] at hacc; cases hacc
      obtain ⟨s0, hs⟩ : ∃ s0 : Nat, start = (s0 : Int) := ⟨start.toNat, by omega⟩
      have hs0l : s0 < many.toNat := by omega
      -- away[start] = 0
      refine ⟨_, rfl, _, rfl, av, _, start, s0, rfl, rfl, hav3, by rw [hs]; exact ix_nat (by simp; omega), ?_⟩
      have e1 : ((List.replicate many.toNat (none : Option Nat)).map dv).set s0 (.int 0) = ((List.replicate many.toNat (none : Option Nat)).set s0 (some 0)).map dv := by rw [List.map_set]; rfl
      rw [e1]
      -- layer = [start]
      refine ⟨_, rfl, sm 1 (by decide), fun ly0 hly0 => ?_⟩
      have hla0 : ly0 ≠ av := fun z => by rw [z, upd_same] at hly0; cases hly0
      have Sx0 : SameX av H3 (upd (upd H3 av (.lst (((List.replicate many.toNat (none : Option Nat)).set s0 (some 0)).map dv))) ly0 (.lst [.int start])) := SameX.upd.gr (Gr.new hly0)
      have B0 := Bfs.init (ps := ps) (many := many) hs hs1 hsc
      refine ⟨fun m σ H' => ∃ (ly : Addr) (lay : List Int) (n : Nat) (ds : List (Option Nat)) (o8 o9 o10 : Option V), σ = [some (.ref q), some (.int start), some (.ref c), some (.int many), some (.ref av), some (.ref nx), some (.ref acc), some (.ref ly), o8, o9, o10] ∧
          H' ly = some (.lst (lay.map V.int)) ∧ ly ≠ av ∧ H' av = some (.lst (ds.map dv)) ∧ SameX av H3 H' ∧ Bfs ps cl start many n lay ds ∧ m = cnt ds + (if lay = [] then 0 else 1) ∧ n + m ≤ 100,
        ⟨_, ly0, [start], 0, _, none, none, none, rfl, upd_same, hla0, by rw [upd_ne (Ne.symm hla0), upd_same], Sx0, B0, rfl, ?_⟩, ?_⟩
      · have h1 := cnt_set (ds := List.replicate many.toNat (none : Option Nat)) (j := s0) (m := 0) (by rw [List.getElem?_replicate, if_pos hs0l])
        have h2 : cnt (List.replicate many.toNat (none : Option Nat)) = many.toNat := by unfold cnt; rw [List.filter_eq_self.mpr (fun a ha => by rw [(List.mem_replicate.mp ha).2]; rfl), List.length_replicate]
        rw [if_neg (by simp)]
        omega
      rintro m σ H' ⟨ly, lay, n, ds, o8, o9, o10, rfl, hly, hla, hav', Sx, B, rfl, hnm⟩
      have hdl : ds.length ≤ 100 := by have := B.len; omega
      have hcd : cnt ds ≤ 100 := by
        have := List.length_filter_le (fun o : Option Nat => o.isNone) ds
        unfold cnt
        omega
      refine ⟨_, rfl, _, .inl ⟨_, SqL.of hly, rfl⟩, ?_⟩
      by_cases hl : lay = []
      · subst hl
        refine iteN rfl ?_
        exact ⟨_, rfl, q0 av H' ds (fun b u e => Sx b u (g3 b u e) (ne_of_none e hav0)) hav' (B.dist hrn) fun j m h => by have := (B.sound j m h).1; omega⟩
      · refine iteP (by cases lay with | nil => exact absurd rfl hl | cons _ _ => rfl) ?_
        rw [if_neg hl]
        refine ⟨fun σ2 H2 => ∃ (ly2 : Addr) (fur : List Int) (ds' : List (Option Nat)) (p8 p9 p10 : Option V), σ2 = [some (.ref q), some (.int start), some (.ref c), some (.int many), some (.ref av), some (.ref nx), some (.ref acc), some (.ref ly2), p8, p9, p10] ∧
            H2 ly2 = some (.lst (fur.map V.int)) ∧ ly2 ≠ av ∧ H2 av = some (.lst (ds'.map dv)) ∧ SameX av H3 H2 ∧ Bfs ps cl start many (n + 1) fur ds' ∧ cnt ds' + fur.length = cnt ds,
          fun σ2 H2 ⟨ly2, fur, ds', p8, p9, p10, e1, e2, e3, e4, e5, e6, e7⟩ => ⟨_, ?_, ly2, fur, n + 1, ds', p8, p9, p10, e1, e2, e3, e4, e5, e6, rfl, ?_⟩, ?_⟩
        · by_cases hf : fur = []
          · rw [if_pos hf]; omega
          · rw [if_neg hf]
            have : 0 < fur.length := by cases fur with | nil => exact absurd rfl hf | cons _ _ => simp
            omega
        · by_cases hf : fur = []
          · rw [if_neg hl] at hnm; rw [if_pos hf]; omega
          · rw [if_neg hl] at hnm
            rw [if_neg hf]
            have : 0 < fur.length := by cases fur with | nil => exact absurd rfl hf | cons _ _ => simp
            omega
        -- further = []
        refine ⟨sm 0 (by decide), fun fr hfr => ?_⟩
        have hfa : fr ≠ av := fun z => by rw [z, hav'] at hfr; cases hfr
        have hfl : ly ≠ fr := ne_of_none hly hfr
        have hf3 : H3 fr = none := by
          cases e : H3 fr with
          | none => rfl
          | some o => have := Sx _ _ e hfa; rw [hfr] at this; cases this
        refine ⟨_, rfl, ly, rfl, ⟨_, SqL.of (Gr.new hfr _ _ hly)⟩, for_list (K := K) (a := ly) (xs := lay.map V.int) (fun i σ2 H2 => ∃ (ds' : List (Option Nat)) (fur : List Int) (p9 p10 : Option V), σ2 = [some (.ref q), some (.int start), some (.ref c), some (.int many), some (.ref av), some (.ref nx), some (.ref acc), some (.ref ly), some (.ref fr), p9, p10] ∧
            H2 ly = some (.lst (lay.map V.int)) ∧ H2 fr = some (.lst (fur.map V.int)) ∧ H2 av = some (.lst (ds'.map dv)) ∧ SameX av H3 H2 ∧ Mid ps cl lay n ds ds' fur ((lay.take i).flatMap fun u => (succs ps u.toNat).map fun v => (u, v)) ∧ cnt ds' + fur.length = cnt ds)
          ⟨ds, [], o9, o10, rfl, Gr.new hfr _ _ hly, upd_same, Gr.new hfr _ _ hav', Sx.gr (Gr.new hfr), Mid.init, rfl⟩ (fun i σ2 H2 _ ⟨_, _, _, _, _, h, _⟩ => SqL.of h) ?_ ?_⟩
        · rintro i y σ2 H2 hi ⟨ds', fur, p9, p10, rfl, hly2, hfr2, hav2, Sx2, M, hcn⟩
          have hil : i < lay.length := by simpa using (List.getElem?_eq_some_iff.mp hi).1
          obtain rfl : y = .int lay[i] := by rw [List.getElem?_map, List.getElem?_eq_getElem hil] at hi; exact (Option.some.inj hi).symm
          obtain ⟨kk, ek, hkk⟩ := (B.layer lay[i]).mp (List.getElem_mem hil)
          have hkl : kk < rs.length := by
            have h1 := (List.getElem?_eq_some_iff.mp hkk).1
            have h2 := B.len
            have h3 := NX3.2.1
            omega
          have atk : atI (rs.map V.ref) lay[i] = some (.ref rs[kk]) := by
            rw [ek]
            exact atI_nat (by rw [List.getElem?_map, List.getElem?_eq_getElem hkl]; rfl)
          have hrk : ∀ {Hx : Hp}, SameX av H3 Hx → Hx rs[kk] = some (.lst ((succs ps kk).map V.int)) := fun {Hx} sx => sx _ _ (NX3.2.2 kk hkl) (rsa _ (List.getElem_mem hkl))
          have hdn : (lay.take (i + 1)).flatMap (fun u => (succs ps u.toNat).map fun v => (u, v)) = (lay.take i).flatMap (fun u => (succs ps u.toNat).map fun v => (u, v)) ++ (succs ps kk).map fun v => (lay[i], v) := by
            rw [List.take_succ_eq_append_getElem hil, List.flatMap_append]
            simp [show lay[i].toNat = kk by omega]
          refine ⟨_, rfl, _, rfl, nx, _, _, _, rfl, rfl, SqL.of (Sx2 _ _ NX3.1 nxa), atk, rs[kk], rfl, ⟨_, SqL.of (hrk Sx2)⟩, for_list (K := K) (a := rs[kk]) (xs := (succs ps kk).map V.int) (fun k σ3 H4 => ∃ (ds' : List (Option Nat)) (fur : List Int) (p10 : Option V), σ3 = [some (.ref q), some (.int start), some (.ref c), some (.int many), some (.ref av), some (.ref nx), some (.ref acc), some (.ref ly), some (.ref fr), some (.int lay[i]), p10] ∧
              H4 ly = some (.lst (lay.map V.int)) ∧ H4 fr = some (.lst (fur.map V.int)) ∧ H4 av = some (.lst (ds'.map dv)) ∧ SameX av H3 H4 ∧ Mid ps cl lay n ds ds' fur ((lay.take i).flatMap (fun u => (succs ps u.toNat).map fun v => (u, v)) ++ ((succs ps kk).take k).map fun v => (lay[i], v)) ∧ cnt ds' + fur.length = cnt ds)
            ⟨ds', fur, p10, rfl, hly2, hfr2, hav2, Sx2, by rw [List.take_zero, List.map_nil, List.append_nil]; exact M, hcn⟩ (fun k σ3 H4 _ ⟨_, _, _, _, _, _, _, sx, _⟩ => SqL.of (hrk sx)) ?_ ?_⟩
          · rintro k y σ3 H4 hk ⟨ds4, fur4, q10, rfl, hly4, hfr4, hav4, Sx4, M4, hcn4⟩
            have hkl' : k < (succs ps kk).length := by simpa using (List.getElem?_eq_some_iff.mp hk).1
            obtain rfl : y = .int (succs ps kk)[k] := by rw [List.getElem?_map, List.getElem?_eq_getElem hkl'] at hk; exact (Option.some.inj hk).symm
            have hin : ((kk : Int), (succs ps kk)[k]) ∈ ps := mem_succs.mp (List.getElem_mem hkl')
            obtain ⟨_, v0, v9⟩ := hrg _ hin
            obtain ⟨v, ev⟩ : ∃ v : Nat, (succs ps kk)[k] = (v : Int) := ⟨(succs ps kk)[k].toNat, by simp only at v0; omega⟩
            rw [ev] at hin v9 ⊢
            have hvl : v < ds4.length := by have := M4.len; have := B.len; simp only at v9; omega
            have esn : ((succs ps kk).take k).map (fun v => (lay[i], v)) ++ [(lay[i], (v : Int))] = ((succs ps kk).take (k + 1)).map (fun v => (lay[i], v)) := by
              rw [← ev]
              exact take_snoc (fun v => (lay[i], v)) (List.getElem?_eq_getElem hkl')
            have atv : atI (ds4.map dv) (v : Int) = some (dv ds4[v]) := at_dv (List.getElem?_eq_getElem hvl)
            have skip : ((v : Int) ∈ cl ∨ ∃ m, ds4[v]? = some (some m)) → Mid ps cl lay n ds ds4 fur4 ((lay.take i).flatMap (fun u => (succs ps u.toNat).map fun v => (u, v)) ++ ((succs ps kk).take (k + 1)).map fun v => (lay[i], v)) := fun h => by
              have := M4.skip (u := lay[i]) h
              rw [List.append_assoc, esn] at this
              exact this
            refine ⟨_, rfl, _, rfl, av, _, _, _, rfl, rfl, SqL.of hav4, atv, _, rfl, ?_⟩
            cases edv : ds4[v] with
            | some m' =>
              refine iteN rfl ?_
              exact ⟨ds4, fur4, _, rfl, hly4, hfr4, hav4, Sx4, skip (.inr ⟨m', by rw [List.getElem?_eq_getElem hvl, edv]⟩), hcn4⟩
            | none =>
              refine iteP rfl ?_
              have hshv : atI ((List.range many.toNat).map fun j : Nat => V.bl (decide ((j : Int) ∈ cl))) (v : Int) = some (.bl (decide ((v : Int) ∈ cl))) := atI_nat (by
                rw [List.getElem?_map, List.getElem?_range (by simp only at v9; omega)]; rfl)
              refine ⟨_, rfl, _, rfl, acc, _, _, _, rfl, rfl, SqL.of (Sx4 _ _ hsh sha), hshv, _, rfl, ?_⟩
              by_cases hvc : (v : Int) ∈ cl
              · refine iteN (by rw [decide_eq_true hvc]; rfl) ?_
                exact ⟨ds4, fur4, _, rfl, hly4, hfr4, hav4, Sx4, skip (.inl hvc), hcn4⟩
              · refine iteP (by rw [decide_eq_false hvc]; rfl) ?_
                have hnone : ds4[v]? = some none := by rw [List.getElem?_eq_getElem hvl, edv]
                have atp : atI (ds4.map dv) lay[i] = some (dv (some n)) := by rw [ek]; exact at_dv (M4.old _ _ hkk)
                refine ⟨_, rfl, _, rfl, av, _, _, _, rfl, rfl, SqL.of hav4, atp, _, _, rfl, rfl, _, rfl, _, rfl, av, _, _, v, rfl, rfl, hav4, ix_nat (by simpa using hvl), ?_⟩
                have e5 : (ds4.map dv).set v (.int ((n : Int) + 1)) = (ds4.set v (some (n + 1))).map dv := by rw [List.map_set]; rfl
                rw [e5]
                have hfr5 : (upd H4 av (.lst ((ds4.set v (some (n + 1))).map dv))) fr = some (.lst (fur4.map V.int)) := by rw [upd_ne hfa]; exact hfr4
                have hfl4 : fur4.length ≤ 100 := by omega
                have M5 := M4.put (u := lay[i]) hnone (List.getElem_mem hil) (by rw [ek]; exact hin) hvc
                rw [List.append_assoc, esn] at M5
                have c5 := cnt_set (m := n + 1) hnone
                refine ⟨_, rfl, .inl ⟨rfl, _, SqL.of hfr5⟩, _, rfl, fr, _, _, rfl, rfl, hfr5, small1000 (by rw [List.length_map]; omega), _, fur4 ++ [(v : Int)], _, rfl, ?_, by rw [upd_same]; simp, ?_, ?_, M5, by rw [List.length_append, List.length_singleton]; omega⟩
                · rw [upd_ne hfl, upd_ne hla]; exact hly4
                · rw [upd_ne (Ne.symm hfa), upd_same]
                · intro b u e hb
                  rw [upd_ne (ne_of_none e hf3), upd_ne hb]
                  exact Sx4 b u e hb
          · rintro σ3 H4 ⟨ds4, fur4, q10, rfl, hly4, hfr4, hav4, Sx4, M4, hcn4⟩
            rw [List.length_map, List.take_length, ← hdn] at M4
            exact ⟨ds4, fur4, _, _, rfl, hly4, hfr4, hav4, Sx4, M4, hcn4⟩
        · rintro σ2 H2 ⟨ds', fur, p9, p10, rfl, hly2, hfr2, hav2, Sx2, M, hcn⟩
          rw [List.length_map, List.take_length] at M
          refine ⟨_, rfl, fr, fur, ds', _, _, _, rfl, hfr2, hfa, hav2, Sx2, M.fin hrn B fun u v hu' hp' => ?_, hcn⟩
          obtain ⟨kk, ek, _⟩ := (B.layer u).mp hu'
          refine List.mem_flatMap.mpr ⟨u, hu', List.mem_map.mpr ⟨v, mem_succs.mpr ?_, rfl⟩⟩
          rw [show ((u.toNat : Nat) : Int) = u by omega]
          exact hp'
end
end My03

set_option autoImplicit false
set_option linter.all false
set_option Elab.async false
set_option maxRecDepth 100000
set_option maxHeartbeats 8000000
namespace L2
open PySem PySem.Spec PyProof.Rows
theorem subRR : isSubtype (.type "range_iterator") (.type "reversed") = pure false := by rw [isSubtype_type]; kernel_rfl
section
variable {prog : Program} {w : World} {A : Around} {E : Value → Shared → Prop} {s : Shared}
theorem call_range_rev {p : Addr} {n : Nat} {t u v : Tok} {Q : Value → Shared → Prop} (hn : n ≤ 1000) (hp : s.heap.get? p = some { cls := .type "range", data := .fields #[.int 0 t, .int (n : Int) u, .int 1 v] })
    (h : Q (.ref s.heap.objs.size) { s with heap := s.heap.push { cls := .type "range_iterator", data := .fields #[rawInt ((n : Int) - 1), rawInt (n : Int), rawInt (-1)] } }) : wpAny (model prog w) A (call (.builtin "range.__reversed__") [.ref p]) Q E s := by
  have hT : s.TypeIs (.ref p) "range" := ⟨_, hp, rfl⟩
  have hz : Builtin.Range.rangeSize 0 (n : Int) 1 = (n : Int) := by rw [rangeSize_one]; first | omega | (split <;> omega)
  refine wpAny_call_entry PySem.F.slot_range_reversed hT PySem.F.entry_range_reversed ?_ (PySem.F.args_range_reversed_1 _)
  unfold Builtin.«range.__reversed__»
  refine wpAny_bind (wpAny_of_eq (a := Value.ref p) rfl ?_)
  have hf : wpAny (model prog w) A.in1 (Builtin.Range.rangeFields (.ref p)) (fun r s' => r = (0, (n : Int), 1) ∧ s' = s) E s := by
    unfold Builtin.Range.rangeFields
    refine wpAny_bind (wpAny_field hp rfl (x := .int 0 t) rfl ?_)
    refine wpAny_bind (wpAny_pure (a := some (0 : Int)) ?_)
    refine wpAny_bind (wpAny_field hp rfl (x := .int (n : Int) u) rfl ?_)
    refine wpAny_bind (wpAny_pure (a := some (n : Int)) ?_)
    refine wpAny_bind (wpAny_field hp rfl (x := .int 1 v) rfl ?_)
    refine wpAny_bind (wpAny_pure (a := some (1 : Int)) ?_)
    exact wpAny_pure ⟨rfl, rfl⟩
  refine wpAny_bind (wpAny_mono hf (fun r s' ⟨e1, e2⟩ => ?_) fun _ _ e => e)
  subst e1 e2
  dsimp only
  rw [hz]
  have hs : (Builtin.Range.rangeFitsLong 0 && Builtin.Range.rangeFitsLong (n : Int) && Builtin.Range.rangeFitsLong 1 && Builtin.Range.rangeFitsLong (-1) && Builtin.Range.rangeFitsLong (0 - 1) && Builtin.Range.rangeFitsLong (n : Int)) = true := by
    have h1 : Builtin.Range.rangeFitsLong (n : Int) = true := by
      unfold Builtin.Range.rangeFitsLong
      simp only [Bool.and_eq_true, decide_eq_true_eq]
      omega
    rw [h1]
    decide
  rw [hs]
  simp only [Bool.not_true, Bool.false_eq_true, if_false, if_true]
  have e : (0 : Int) + ((n : Int) - 1) * 1 = (n : Int) - 1 := by omega
  rw [e]
  exact wpAny_bind (wpAny_newObj_type (wpAny_pure ⟨_, rfl, h⟩))
theorem code_rev_range {p : Addr} {n : Nat} {t u v : Tok} {Q₁ : Value → Shared → Prop} (hn : n ≤ 1000) (hp : s.heap.get? p = some { cls := .type "range", data := .fields #[.int 0 t, .int (n : Int) u, .int 1 v] })
    (h : Q₁ (.ref s.heap.objs.size) { s with heap := s.heap.push { cls := .type "range_iterator", data := .fields #[rawInt ((n : Int) - 1), rawInt (n : Int), rawInt (-1)] } }) :
    codeAny (model prog w) A (.call (.builtin "reversed.__new__") ⟨[.type "reversed", .ref p], []⟩) (wants Q₁ E) s := by
  have hT : s.TypeIs (.ref p) "range" := ⟨_, hp, rfl⟩
  refine codeAny_of_tree ?_
  show wpAny _ A.in1 (do checkBuiltinCall "reversed.__new__" ⟨[.type "reversed", .ref p], []⟩; again (.builtin "reversed.__new__" ⟨[.type "reversed", .ref p], []⟩)) _ _ s
  refine wpAny_bind (wpAny_of_eq (PySem.F.newCall_reversed_1 _) (wpAny_pure ⟨plainId_quiet PySem.F.plain_reversed_new _, codeAny_builtin PySem.F.entry_reversed_new ?_⟩))
  rw [Around.under_plainId PySem.F.plain_reversed_new _]
  unfold Builtin.«reversed.__new__»
  refine wpAny_bind (wpAny_of_eq (newClass_reversed _) ?_)
  try dsimp only
  refine wpAny_bind (wpAny_of_eq (a := ()) (by first | rfl | kernel_rfl) ?_)
  refine wpAny_bind (wpAny_of_eq (a := ()) (by first | rfl | kernel_rfl) ?_)
  try dsimp only
  refine wpAny_bind (wpAny_specialOf hT PySem.F.slot_range_reversed.lookup ?_)
  try dsimp only
  refine wpAny_bind (wpAny_of_eq (PySem.F.slot_range_reversed.bind _) ?_)
  try dsimp only
  show wpAny _ _ (if (Value.builtin "range.__reversed__" == Value.none) = true then _ else _) _ _ _
  rw [if_neg (show ¬ ((Value.builtin "range.__reversed__" == Value.none) = true) from Bool.false_ne_true)]
  refine wpAny_bind (wpAny_rule ?_)
  refine wpAny_bind (m := runValue (.call (.builtin "range.__reversed__") ⟨[.ref p], []⟩)) (show wpAny _ _ (call (.builtin "range.__reversed__") [.ref p]) _ _ _ from call_range_rev hn hp ?_)
  first
  | exact wpAny_pure h
  | exact wpAny_bind (wpAny_pure (wpAny_pure h))
theorem call_rev_range {p : Addr} {n : Nat} {t u v : Tok} {Q : Value → Shared → Prop} (hn : n ≤ 1000) (hp : s.heap.get? p = some { cls := .type "range", data := .fields #[.int 0 t, .int (n : Int) u, .int 1 v] })
    (h : Q (.ref s.heap.objs.size) { s with heap := s.heap.push { cls := .type "range_iterator", data := .fields #[rawInt ((n : Int) - 1), rawInt (n : Int), rawInt (-1)] } }) : wpAny (model prog w) A (call (.type "reversed") [.ref p]) Q E s := by
  refine callType_other (U := "range_iterator") (Q₁ := fun obj s₁ => obj = .ref s.heap.objs.size ∧ s₁ = { s with heap := s.heap.push { cls := .type "range_iterator", data := .fields #[rawInt ((n : Int) - 1), rawInt (n : Int), rawInt (-1)] } }) (by decide +kernel) PySem.F.create_reversed ⟨_, _, PySem.F.mro_reversed⟩ PySem.F.made_reversed subRR (PySem.F.typeCall_reversed_1 _) (code_rev_range hn hp ⟨rfl, rfl⟩) ?_
  rintro obj s₁ ⟨rfl, rfl⟩
  exact ⟨⟨_, Heap.get?_push_size _ rfl, rfl⟩, h⟩
end
/-- n - 1, n - 2, .., 0 -/
def Itd (n : Nat) : It := ⟨fun i _ => i < n, fun i H x H' => H' = H ∧ x = .int ((n : Int) - 1 - i), fun i _ => n ≤ i⟩
theorem turn_down {P : Program} {w : World} {K : PySem.W.Frag} {tg : Expr} (it : Addr) (n : Nat) : Turn P w K tg (Itd n) [it] it (fun i h => IsRangeIter h it (((n : Int) - 1) + (i : Nat) * (-1)) ((n : Int) - (i : Nat)) (-1)) where
  mem := by simp
  obj := fun i h st b hb => by
    have e : b = it := by simpa using hb
    subst e
    exact ⟨_, st, fun v z => by
      have z' : Data.fields _ = Data.cell v := z
      cases z'⟩
  keep := fun i h h' st k => k it (by simp) _ st
  item := by
    intro X hP hw hK hc i pins s σ H E I hf st hg
    subst hP hw hK
    obtain ⟨f0, f1, f2, f3, f4, f5⟩ := hf it (by simp)
    have W := Walks.range (prog := X.prog) (w := X.w) (I.ok.hd hc) it ((n : Int) - 1) (-1) n
    refine W.item i s _ _ hg st fun v h' tk hv st' kk => ?_
    obtain ⟨t, rfl⟩ := hv
    have I1 : Inv X pins σ H { s with heap := h', toks := tk } := I.turned (fun b o hb e => kk b o (by simpa using hb) e) f0 f1 f3 f4 f5
    refine ⟨_, rfl, go_of (s := { s with heap := h', toks := tk }) (n := "range_iterator") st' rfl rfl (by decide) ⟨.int ((n : Int) - 1 - i), H, I1, ⟨t, ?_⟩, ⟨rfl, rfl⟩, st', fun b hb => (hf b hb).1⟩⟩
    congr 1
    omega
  done := by
    intro X hP hw hK hc i pins s σ H E I hf st hg
    subst hP hw hK
    obtain ⟨f0, f1, f2, f3, f4, f5⟩ := hf it (by simp)
    exact wpAny_pyNext_range_end (I.ok.hd hc) st (by have : n ≤ i := hg; omega) fun h' eb => ⟨rfl, I.turned (t' := s.toks) (fun b o hb e => eb b o hb e) f0 f1 f3 f4 f5⟩
  self := fun _ _ _ _ _ st h => wpAny_pyIter_rangeiter st h
section
variable {X : Cx} {tg : Expr}
def iRev (ta : TA) : TI := fun σ H R => ta σ H fun vs H1 => ∃ (p : Addr) (n : Nat), vs = [.ref p] ∧ H1 p = some (.rng 0 (n : Int)) ∧ n ≤ 1000 ∧ R (Itd n) H1
theorem pi_rev {a : Expr} {ta : TA} {p pos : Pos} (hg : Gl X "reversed") (hm : X.mg "reversed" = none) (ha : PA X [a] ta) (hs : starEach [a] X.env = [(false, eval a X.env)] := by rfl) : PI X tg (.Call (.Name "reversed" p) [a] [] pos) (iRev ta) := by
  intro pins s σ H R I h
  refine Call_ (ld_blt I hg hm (u := .type "reversed") (by decide +kernel) (PyProof.Rows.callWith_type1 (thn (ha pos pins s σ H _ I h) fun us s1 ⟨vs, H1, I1, r1, q1⟩ => ?_) hs rfl))
  obtain ⟨c, n, e, hq, hn, q⟩ := q1
  subst e
  cases r1 with
  | cons r rr =>
    cases rr
    cases r
    obtain ⟨t, u, v, e⟩ := (show ObjOk X.prog X.w H1 s1.heap c (.rng 0 (n : Int)) from I1.hok c _ hq)
    refine call_rev_range hn e ?_
    have st : IsRangeIter (s1.heap.push { cls := .type "range_iterator", data := .fields #[rawInt ((n : Int) - 1), rawInt (n : Int), rawInt (-1)] }) s1.heap.objs.size (((n : Int) - 1) + ((0 : Nat) : Int) * (-1)) ((n : Int) - ((0 : Nat) : Int)) (-1) := by
      have e1 : ((n : Int) - 1) + ((0 : Nat) : Int) * (-1) = (n : Int) - 1 := by omega
      have e2 : (n : Int) - ((0 : Nat) : Int) = (n : Int) := by omega
      rw [e1, e2]
      exact Heap.get?_push_size _ rfl
    refine wpAny_pyIter_rangeiter (s := { s1 with heap := s1.heap.push { cls := .type "range_iterator", data := .fields #[rawInt ((n : Int) - 1), rawInt (n : Int), rawInt (-1)] } }) st ?_
    refine ⟨s1.heap.objs.size, [s1.heap.objs.size], _, _, H1, rfl, I1.kept (t' := s1.toks) fun b o e => Heap.get?_push_of_some _ e, turn_down _ n, st, fun b hb => ?_, q⟩
    have e : b = s1.heap.objs.size := by simpa using hb
    subst e
    exact I1.fpOk (Nat.le_refl _) (I1.hok.fresh (Nat.le_refl _))
theorem for_down {n : Nat} {g : TG} {tb : TS} {D : Ends} {σ : St} {H : Hp} (Pv : Nat → St → Hp → Prop) (h0 : Pv 0 σ H)
    (hs : ∀ i σ H, i < n → Pv i σ H → g (.int ((n : Int) - 1 - i)) σ H fun σ2 H2 => tb { D with nx := Pv (i + 1), ct := Pv (i + 1), bk := D.nx } σ2 H2) (hd : ∀ σ H, Pv n σ H → D.nx σ H) :
    ∃ W : Nat → Nat → St → Hp → Prop, (∃ m, W 0 m σ H) ∧ ∀ i m σ H, W i m σ H →
      ((Itd n).stop i H ∧ D.nx σ H) ∨ ((Itd n).go i H ∧ ∃ N : St → Hp → Prop, (∀ σ' H', N σ' H' → ∃ m', m' < m ∧ W (i + 1) m' σ' H') ∧ ∀ x H', (Itd n).yld i H x H' → g x σ H' fun σ2 H2 => tb { D with nx := N, ct := N, bk := D.nx } σ2 H2) := by
  refine ⟨fun i m σ H => m = n - i ∧ i ≤ n ∧ Pv i σ H, ⟨n, by simp, Nat.zero_le _, h0⟩, ?_⟩
  rintro i m σ H ⟨rfl, hi, p⟩
  by_cases hlt : i < n
  · refine .inr ⟨hlt, Pv (i + 1), fun σ' H' p' => ⟨n - (i + 1), by omega, rfl, hlt, p'⟩, fun x H' y => ?_⟩
    obtain ⟨rfl, rfl⟩ := y
    exact hs i σ _ hlt p
  · have e : i = n := by omega
    subst e
    exact .inl ⟨Nat.le_refl _, hd σ H p⟩
/-- min of a list of ints that isn't empty -/
theorem call_minL (hc : X.calm = true) : CallR X (.builtin "min") (fun xs H Q => ∃ (l : Addr) (ns : List Int), xs = [.ref l] ∧ SqL X.K H l (ns.map V.int) ∧ ns ≠ [] ∧ ∀ m, m ∈ ns → (∀ x ∈ ns, m ≤ x) → Q (.int m) H) := by
  intro pins s σ H xs us Q I r h
  obtain ⟨l, ns, rfl, hl, hne, q⟩ := h
  obtain ⟨u, rfl, ru⟩ := vals1 r
  cases ru
  obtain ⟨its, rv, pl, hz⟩ := I.list hl
  have hi : IntsAre its ns := intsAre_of rv
  have hlen := rv.length
  rw [List.length_map] at hlen
  have hpos : 0 < ns.length := by cases ns with | nil => exact absurd rfl hne | cons _ _ => simp
  have hlt : l < s.heap.objs.size := by obtain ⟨o, ho, _⟩ := pl.isList; exact Heap.lt_size ho
  refine call_min_walk (wpAny_pyIter_list pl.isList ?_)
  refine ⟨_, _, _, _, _, _, _, rfl, Walks.list (A := X.A.in1) (by have := I.ok.hd hc; simp [this]) _ l (Nat.ne_of_lt hlt) its.toArray, ⟨⟨_, Heap.get?_push_size _ rfl, rfl, rfl⟩, pl.isList.push _⟩, ?_, by simp; omega, CmpOf.ints_lt (fun i => ns.getD i 0) (fun i v hv => IntsAre.int_at hi i v (by simpa using hv)), fun v h' tk hP hk => ?_⟩
  · intro b hb
    show b < (s.heap.push _).objs.size
    rw [Heap.size_push]
    rcases List.mem_cons.mp hb with rfl | hb
    · exact Nat.lt_succ_self _
    · rw [List.mem_singleton.mp hb]
      exact Nat.lt_succ_of_lt hlt
  · obtain ⟨b1, b2⟩ := argBest_lt (fun i => ns.getD i 0) (its.toArray.size - 1)
    obtain ⟨t, rfl⟩ := IntsAre.int_at hi _ v (List.getElem?_toArray.symm.trans hP)
    have hsz : its.toArray.size = ns.length := by simpa using hlen.symm
    have hbl : argBest (fun i j => decide (ns.getD i 0 < ns.getD j 0)) (its.toArray.size - 1) < ns.length := by omega
    have gd : ∀ j, (hj : j < ns.length) → ns.getD j 0 = ns[j] := fun j hj => by rw [List.getD_eq_getElem?_getD, List.getElem?_eq_getElem hj]; rfl
    refine ⟨.int _, H, I.kept (t' := tk) fun b o e => hk b o ?_ (Heap.get?_push_of_some _ e), ⟨t, rfl⟩, q _ ?_ fun x hx => ?_⟩
    · simp only [List.mem_singleton]
      exact Nat.ne_of_lt (Heap.lt_size e)
    · rw [gd _ hbl]
      exact List.getElem_mem hbl
    · obtain ⟨j, hj, rfl⟩ := List.mem_iff_getElem.mp hx
      have := b2 j (by omega)
      rw [gd j hj] at this
      exact this
end
end L2

set_option autoImplicit false
set_option linter.all false
set_option Elab.async false
set_option maxRecDepth 100000
set_option maxHeartbeats 8000000
namespace My03
open PySem L2
/-! ### walks, and the least of the shortest ones -/
def W (ps : List (Int × Int)) (cl : List Int) : Nat → Int → Int → List Int → Prop
  | 0, u, v, l => u = v ∧ l = [u] ∧ u ∉ cl
  | n + 1, u, v, l => ∃ x l', (u, x) ∈ ps ∧ u ∉ cl ∧ W ps cl n x v l' ∧ l = u :: l'
/-- lists of one length, the one at most the other -/
def lle : List Int → List Int → Prop
  | [], [] => True
  | a :: l, b :: m => a < b ∨ (a = b ∧ lle l m)
  | _, _ => False
theorem lle_refl : ∀ l, lle l l
  | [] => True.intro
  | a :: l => .inr ⟨rfl, lle_refl l⟩
theorem lle_anti : ∀ {l m : List Int}, lle l m → lle m l → l = m
  | [], [], _, _ => rfl
  | a :: l, b :: m, h1, h2 => by
    rcases h1 with h1 | ⟨rfl, h1⟩
    · rcases h2 with h2 | ⟨h2, _⟩
      · omega
      · omega
    · rcases h2 with h2 | ⟨_, h2⟩
      · omega
      · rw [lle_anti h1 h2]
  | [], _ :: _, h, _ => h.elim
  | _ :: _, [], h, _ => h.elim
theorem lle_trans : ∀ {l m n : List Int}, lle l m → lle m n → lle l n
  | [], [], [], _, _ => True.intro
  | a :: l, b :: m, c :: n, h1, h2 => by
    rcases h1 with h1 | ⟨rfl, h1⟩
    · rcases h2 with h2 | ⟨rfl, _⟩
      · exact .inl (by omega)
      · exact .inl h1
    · rcases h2 with h2 | ⟨rfl, h2⟩
      · exact .inl h2
      · exact .inr ⟨rfl, lle_trans h1 h2⟩
  | [], _ :: _, _, h, _ => h.elim
  | _ :: _, [], _, h, _ => h.elim
  | [], [], _ :: _, _, h => h.elim
  | _ :: _, _ :: _, [], _, h => h.elim
/-- the walks of n lanes from u to v have a least one, l -/
def Least (ps : List (Int × Int)) (cl : List Int) (n : Nat) (u v : Int) (l : List Int) : Prop := W ps cl n u v l ∧ (∀ l', W ps cl n u v l' → lle l l') ∧ ∀ m < n, ∀ l', ¬ W ps cl m u v l'
theorem Least.uniq {ps : List (Int × Int)} {cl : List Int} {n m : Nat} {u v : Int} {l k : List Int} (h : Least ps cl n u v l) (h' : Least ps cl m u v k) : l = k := by
  have e : n = m := by
    rcases Nat.lt_trichotomy n m with z | z | z
    · exact absurd h.1 (h'.2.2 n z l)
    · exact z
    · exact absurd h'.1 (h.2.2 m z k)
  subst e
  exact lle_anti (h.2.1 k h'.1) (h'.2.1 l h.1)
section
variable {ps qs : List (Int × Int)} {cl : List Int} {other : Int}
theorem R_W (hq : ∀ p, p ∈ qs ↔ swp p ∈ ps) : ∀ n u, R qs cl other n u ↔ ∃ l, W ps cl n u other l
  | 0, u => ⟨fun ⟨e, h⟩ => ⟨[u], e, rfl, by rw [e]; exact h⟩, fun ⟨l, e, _, h⟩ => ⟨e, by rw [← e]; exact h⟩⟩
  | n + 1, u => by
    constructor
    · rintro ⟨x, r, hp, hc⟩
      obtain ⟨l, w⟩ := (R_W hq n x).mp r
      exact ⟨u :: l, x, l, (hq _).mp hp, hc, w, rfl⟩
    · rintro ⟨l, x, l', hp, hc, w, rfl⟩
      exact ⟨x, (R_W hq n x).mpr ⟨l', w⟩, (hq (x, u)).mpr hp, hc⟩
def D (qs : List (Int × Int)) (cl : List Int) (other : Int) (k : Nat) (x : Int) : Prop := R qs cl other k x ∧ ∀ m < k, ¬ R qs cl other m x
/-- a walk that takes the least next place each time -/
def Ch (ps qs : List (Int × Int)) (cl : List Int) (other : Int) : Nat → Int → List Int → Prop
  | 0, x, l => l = [x] ∧ D qs cl other 0 x
  | k + 1, x, l => ∃ y l', l = x :: l' ∧ D qs cl other (k + 1) x ∧ (x, y) ∈ ps ∧ (∀ z, (x, z) ∈ ps → D qs cl other k z → y ≤ z) ∧ Ch ps qs cl other k y l'
theorem Ch.least (hq : ∀ p, p ∈ qs ↔ swp p ∈ ps) : ∀ k x l, Ch ps qs cl other k x l → Least ps cl k x other l
  | 0, x, l, ⟨e, ⟨e1, e2⟩, _⟩ => by
    refine ⟨⟨e1, e, by rw [e1]; exact e2⟩, fun l' ⟨_, e', _⟩ => by rw [e, e']; exact lle_refl _, fun m hm => absurd hm (Nat.not_lt_zero _)⟩
  | k + 1, x, l, ⟨y, l', e, ⟨d1, d2⟩, hp, hmin, ch⟩ => by
    obtain ⟨w1, w2, w3⟩ := Ch.least hq k y l' ch
    have hxc : x ∉ cl := by obtain ⟨_, _, _, h⟩ := d1; exact h
    refine ⟨⟨y, l', hp, hxc, w1, e⟩, ?_, fun m hm l2 w => d2 m hm ((R_W hq m x).mpr ⟨l2, w⟩)⟩
    rintro l2 ⟨z, l3, hz, _, wz, rfl⟩
    have dz : D qs cl other k z := by
      refine ⟨(R_W hq k z).mpr ⟨l3, wz⟩, fun m hm r => d2 (m + 1) (by omega) ⟨z, r, (hq (z, x)).mpr hz, hxc⟩⟩
    have hyz := hmin z hz dz
    rw [e]
    refine .inr ⟨rfl, ?_⟩
    have hl : ∀ {n u v t}, W ps cl n u v t → ∃ t', t = u :: t' := fun {n u v t} w => by
      cases n with
      | zero => obtain ⟨_, e, _⟩ := w; exact ⟨[], e⟩
      | succ n => obtain ⟨_, t', _, _, _, e⟩ := w; exact ⟨t', e⟩
    rcases Int.lt_or_eq_of_le hyz with h | h
    · obtain ⟨t1, rfl⟩ := hl w1
      obtain ⟨t2, rfl⟩ := hl wz
      exact .inl h
    · subst h
      exact w2 l3 wz
end
def spLeastW (K : PySem.W.Frag) : Sp := fun vs H Q _ => ∃ (q c : Addr) (one other many : Int) (ps : List (Int × Int)) (cl : List Int), vs = [.ref q, .int one, .int other, .ref c] ∧ NetV K H q many ps ∧ ps.length ≤ 1000 ∧ many ≤ 100 ∧ (0 ≤ one ∧ one < many) ∧ (0 ≤ other ∧ other < many) ∧
  (∀ p ∈ ps, (0 ≤ p.1 ∧ p.1 < many) ∧ 0 ≤ p.2 ∧ p.2 < many) ∧ (SqL K H c (cl.map V.int) ∨ SqT K H c (cl.map V.int)) ∧
  (∀ H', Gr H H' → (∀ n l, ¬ W ps cl n one other l) → Q .non H') ∧ ∀ (r : Addr) (H' : Hp) (n : Nat) (l : List Int), Gr H H' → SqT K H' r (l.map V.int) → Least ps cl n one other l → Q (.ref r) H'
structure Txt3 (mg : Str → Option Value) : Prop where
  reversed : mg "reversed" = none
  min : mg "min" = none
section
variable {P : Program} {w : World} {K : PySem.W.Frag} {mg : Str → Option Value} {base : Heap}
theorem scLeast : FnScope ["net", "one", "other", "closed", "left", "nexts", "way", "more"] ["net", "one", "other", "closed"] (defScope sLeast) := ⟨rfl, rfl, rfl, by decide +kernel, rfl, by decide +kernel, by decide +kernel⟩
theorem ndHML : ((["head"] : List Str) ++ (["more", "left"] : List Str)).Nodup := by decide +kernel
theorem ok_least {f fA fN fU : Addr} {fd fdA fdN fdU : FuncData} (F : Fun K "least_way" "least_way" sLeast f fd) (T : Txt mg) (T3 : Txt3 mg) (FN : Fun K "next_places" "next_places" sNexts fN fdN) (bN : Binds K fdN ["net"] []) (mN : mg "next_places" = some (.ref fN))
    (FA : Fun K "lanes_away" "lanes_away" sAway fA fdA) (bA : Binds K fdA ["net", "start", "closed"] []) (mA : mg "lanes_away" = some (.ref fA)) (FU : Fun K "turned" "turned" sTurned fU fdU) (bU : Binds K fdU ["net"] []) (mU : mg "turned" = some (.ref fU)) :
    FnOk P w K mg base CX0 3 f fd ["net", "one", "other", "closed"] (spLeastW K) := by
  have GN : FnOk P w K mg base CX0 1 fN fdN ["net"] (spNexts K) := ok_nexts FN T
  have GA : FnOk P w K mg base CX0 2 fA fdA ["net", "start", "closed"] (spAway K) := ok_away FA T FN bN mN
  have GU : FnOk P w K mg base CX0 1 fU fdU ["net"] (spTurned K) := ok_turned FU T
  refine F.ok scLeast (fun vs H Q E h => ?_) (fun cdv A outer s H vs Q E hr h => ?_)
  · obtain ⟨q, c, one, other, many, ps, cl, rfl, _⟩ := h
    rfl
  · obtain ⟨q, c, one, other, many, ps, cl, rfl, NV, hpl, hm1, ho, ht, hrg, hcl, q1, q2⟩ := h
    have hr1 : Room 1 _ := hr.mono (by decide)
    have hu := hr.units
    refine ⟨_, pss_cons (ps_set (i := 4) scLeast.nd rfl (Or.inr rfl) (pe_call GA hr rfl mA FA.kp bA .nil pass0 (pa_cons (pe_call GU hr1 rfl mU FU.kp bU .nil pass0 (pa_cons (pv 0) pa_nil)) (pa_cons (pv 2) (pa_cons (pv 3) pa_nil)))))
      (pss_cons (ps_if (pt_cmp (pc_isN (pe_ix ix_list (pv 4) (pv 1) (fun _ _ => rfl)))) (pss_one (ps_ret pe_non)) pss_nil)
      (pss_cons (ps_set (i := 5) scLeast.nd rfl (Or.inl rfl) (pe_call GN hr1 rfl mN FN.kp bN .nil pass0 (pa_cons (pv 0) pa_nil)))
      (pss_cons (ps_set (i := 6) scLeast.nd rfl (Or.inl rfl) (pe_lst (pa_cons (pv 1) pa_nil)))
      (pss_cons (ps_for PassesOwn.never rfl (pi_rev rfl T3.reversed (pa_cons (pe_callTy call_rng (by rfl) T.range (by decide +kernel) (pa_cons (pe_ix ix_list (pv 4) (pv 1) (fun _ _ => rfl)) pa_nil)) pa_nil)) (pg_name (i := 7) scLeast.nd rfl (Or.inr rfl))
        (pss_one (ps_expr (pe_bm PySem.F.plainAttrs_list PySem.F.slot_list_append PySem.F.type_list_append mt_append (pv 6) (pa_cons (pe_callB (call_minL rfl) (by rfl) T3.min (by decide +kernel) (pa_cons
          (pe_comp (own := ["head"]) (caps := ["more", "left"]) (js := [7, 4]) ⟨rfl, rfl, by decide +kernel, by decide +kernel, by decide +kernel, rfl, all2 rfl rfl, rfl, all2 (Or.inl rfl) (Or.inl rfl), all2 (Or.inl rfl) (Or.inl rfl), by decide +kernel, by decide +kernel⟩ rfl
            (pi_list (pe_ix ix_list (pv 5) (pe_ix ix_list (pv 6) (pe_un un_neg pe_int) (fun _ _ => rfl)) (fun _ _ => rfl)))
            (fun C s H fp => pg_name (i := 0) ndHML rfl (Or.inl rfl) (Or.inr rfl)) (fun C s H fp => pts_one (pt_cmpR op_eq (pe_ix (ix_listK (K := K) rfl) (pv 2) (pv 0) (fun _ _ => rfl)) (pv 1) (nomark _)))
            (fun C s H fp => pv 0)) pa_nil)) pa_nil)))))
      (pss_one (ps_ret (pe_callTy call_tuple_of (by rfl) T.tuple (by decide +kernel) (pa_cons (pv 6) pa_nil)))))))), ?_⟩
    have sm : ∀ n : Nat, n ≤ 1000 → n ≤ sizeLine := fun n h => Nat.le_of_lt (small1000 h)
    -- left
    refine ⟨_, rfl, q, many, ps, rfl, NV, hpl, fun r1 H1 qs g1 NV1 pq => ?_⟩
    have hq : ∀ p, p ∈ qs ↔ swp p ∈ ps := fun p => by
      rw [pq.mem_iff, List.mem_map]
      constructor
      · rintro ⟨a, ha, rfl⟩; exact ha
      · intro h; exact ⟨swp p, h, rfl⟩
    have hql : qs.length ≤ 1000 := by rw [pq.length_eq, List.length_map]; exact hpl
    refine ⟨_, rfl, _, rfl, r1, c, other, many, qs, cl, rfl, NV1, hql, hm1, ht.1, ht.2, (fun p hp => ⟨(hrg _ ((hq p).mp hp)).2, (hrg _ ((hq p).mp hp)).1⟩), sq_gr hcl g1, fun av H2 ds g2 hav hd hdb => ?_⟩
    obtain ⟨hdl, hds⟩ := hd
    obtain ⟨o, eo⟩ : ∃ o : Nat, one = (o : Int) := ⟨one.toNat, by omega⟩
    have hol : o < ds.length := by omega
    have ato : atI (ds.map dv) one = some (dv ds[o]) := by rw [eo]; exact at_dv (List.getElem?_eq_getElem hol)
    -- the numbers, by D
    have num : ∀ {k : Nat} {z : Int}, 0 ≤ z → z < many → (ds[z.toNat]? = some (some k) ↔ D qs cl other k z) := fun {k z} z0 z9 => by
      have ez : ((z.toNat : Nat) : Int) = z := by omega
      have hzl : z.toNat < ds.length := by omega
      constructor
      · intro h
        have := (hds z.toNat).1 k h
        rw [ez] at this
        exact this
      · rintro ⟨r, rm⟩
        cases e : ds[z.toNat] with
        | none => exact absurd r (by have := (hds z.toNat).2 (by rw [List.getElem?_eq_getElem hzl, e]) k; rw [ez] at this; exact this)
        | some m =>
          have h1 := (hds z.toNat).1 m (by rw [List.getElem?_eq_getElem hzl, e])
          rw [ez] at h1
          have : m = k := by
            rcases Nat.lt_trichotomy m k with h | h | h
            · exact absurd h1.1 (rm m h)
            · exact h
            · exact absurd r (h1.2 k h)
          rw [List.getElem?_eq_getElem hzl, e, this]
    refine ⟨_, rfl, _, rfl, av, _, _, _, rfl, rfl, SqL.of hav, ato, _, rfl, ?_⟩
    cases ed : ds[o] with
    | none =>
      refine iteP rfl ?_
      refine q1 H2 (g1.trans g2) fun n l w => ?_
      have := (hds o).2 (by rw [List.getElem?_eq_getElem hol, ed]) n
      rw [← eo] at this
      exact this ((R_W hq n one).mpr ⟨l, w⟩)
    | some d =>
      refine iteN rfl ?_
      rw [ed] at ato
      have hdo : ds[o]? = some (some d) := by rw [List.getElem?_eq_getElem hol, ed]
      have hd100 := hdb o d hdo
      have Do : D qs cl other d one := by have := (hds o).1 d hdo; rw [← eo] at this; exact this
      -- nexts
      refine ⟨_, rfl, q, many, ps, rfl, NV.gr (g1.trans g2), hpl, by omega, by omega, (fun p hp => (hrg p hp).1), fun nx H3 rs g3 NX hnx hrs => ?_⟩
      have hav3 := g3 _ _ hav
      refine ⟨_, rfl, sm 1 (by decide), fun wl hwl => ?_⟩
      refine ⟨_, rfl, _, rfl, av, _, _, _, rfl, rfl, SqL.of (Gr.new hwl _ _ hav3), ato, _, rfl, fun gg hgg => ⟨gg, d, rfl, upd_same, by omega, ?_⟩⟩
      have g4 : Gr H3 (upd (upd H3 wl (.lst [.int one])) gg (.rng 0 (d : Int))) := (Gr.new hwl).trans (Gr.new hgg)
      refine for_down (n := d) (fun i σ H5 => ∃ (u7 : Option V) (pre : List Int) (x : Int), σ = [some (.ref q), some (.int one), some (.int other), some (.ref c), some (.ref av), some (.ref nx), some (.ref wl), u7] ∧ H5 wl = some (.lst ((pre ++ [x]).map V.int)) ∧ pre.length = i ∧ (0 ≤ x ∧ x < many) ∧ D qs cl other (d - i) x ∧ (∀ l, Ch ps qs cl other (d - i) x l → Ch ps qs cl other d one (pre ++ l)) ∧ Gr H3 H5)
        ⟨none, [], one, rfl, Gr.new hgg _ _ upd_same, rfl, ho, Do, (fun l h => h), g4⟩ ?_ ?_
      · rintro i σ H5 hi ⟨u7, pre, x, rfl, hw5, hpre, hx, Dx, ctx, g5⟩
        obtain ⟨k, ek⟩ : ∃ k, d - i = k + 1 := ⟨d - i - 1, by omega⟩
        have emore : (d : Int) - 1 - (i : Int) = (k : Int) := by omega
        have ek2 : d - (i + 1) = k := by omega
        rw [ek] at Dx ctx
        rw [ek2]
        obtain ⟨xx, exx⟩ : ∃ xx : Nat, x = (xx : Int) := ⟨x.toNat, by omega⟩
        have hxl : xx < rs.length := by have := NX.2.1; omega
        have atx : atI (rs.map V.ref) x = some (.ref rs[xx]) := by
          rw [exx]
          exact atI_nat (by rw [List.getElem?_map, List.getElem?_eq_getElem hxl]; rfl)
        have atl : atI ((pre ++ [x]).map V.int) (-1) = some (.int x) := by
          unfold atI ixN
          rw [if_neg (by decide), if_pos (by simp; omega)]
          have : ((-1 : Int) + (((pre ++ [x]).map V.int).length : Nat)).toNat = pre.length := by simp; omega
          rw [this]
          simp
        have hrk := g5 _ _ (NX.2.2 xx hxl)
        have hav5 := g5 _ _ hav3
        have inr : ∀ z ∈ succs ps xx, (x, z) ∈ ps ∧ 0 ≤ z ∧ z < many := fun z hz => by
          have := mem_succs.mp hz
          rw [← exx] at this
          exact ⟨this, (hrg _ this).2⟩
        have hsl : (succs ps xx).length ≤ 1000 := by
          unfold succs
          rw [List.length_map]
          have h1 := List.length_filter_le (fun p : Int × Int => decide (p.1 = (xx : Int))) ps
          omega
        rw [emore]
        refine ⟨_, rfl, .inl ⟨rfl, _, SqL.of hw5⟩, ?_⟩
        refine ⟨_, rfl, _, rfl, _, rfl, wl, _, _, _, rfl, rfl, SqL.of hw5, atl, nx, _, _, _, rfl, rfl, SqL.of (g5 _ _ NX.1), atx, rs[xx], rfl, ⟨_, SqL.of hrk⟩, fun acc hacc => ?_⟩
        refine comp_to (n := (succs ps xx).length) (fun j ys σ H6 => ∃ u : Option V, σ = [u, some (.int (k : Int)), some (.ref av)] ∧ ys = (((succs ps xx).take j).filter fun z => decide (ds[z.toNat]? = some (some k))).map V.int ∧ H6 acc = some (.lst ys) ∧ Gr H5 H6)
          ⟨none, rfl, rfl, upd_same, Gr.new hacc⟩ (fun i ys σ H' _ ⟨_, _, _, h, _⟩ => h) ?_ ?_
        · rintro j ys σ H6 hj ⟨u, rfl, rfl, ha, g6⟩
          have hz0 : (succs ps xx)[j]? = some (succs ps xx)[j] := List.getElem?_eq_getElem hj
          have hz1 : ((succs ps xx).map V.int)[j]? = some (.int (succs ps xx)[j]) := by rw [List.getElem?_map, hz0]; rfl
          have so := SqL.of (K := K) (g6 _ _ hrk)
          refine ⟨⟨_, _, so, hz1⟩, ?_⟩
          rintro y H7 ⟨rfl, hy⟩
          have ey := hy _ so
          rw [hz1] at ey
          cases ey
          obtain ⟨hzp, z0, z9⟩ := inr _ (List.getElem_mem hj)
          have hzl : (succs ps xx)[j].toNat < ds.length := by omega
          have atz : atI (ds.map dv) (succs ps xx)[j] = some (dv ds[(succs ps xx)[j].toNat]) := by
            have z := at_dv (ds := ds) (List.getElem?_eq_getElem hzl)
            rw [show (((succs ps xx)[j].toNat : Nat) : Int) = (succs ps xx)[j] by omega] at z
            exact z
          have hf := filter_take (fun z : Int => decide (ds[z.toNat]? = some (some k))) hz0
          have smm : ((((succs ps xx).take j).filter fun z => decide (ds[z.toNat]? = some (some k))).map V.int).length < sizeLine := small1000 (by
            rw [List.length_map]
            have h1 := List.length_filter_le (fun z : Int => decide (ds[z.toNat]? = some (some k))) ((succs ps xx).take j)
            rw [List.length_take] at h1
            omega)
          have PF : ds[(succs ps xx)[j].toNat]? ≠ some (some k) → ∃ u' : Option V, [some (V.int (succs ps xx)[j]), some (.int (k : Int)), some (.ref av)] = [u', some (.int (k : Int)), some (.ref av)] ∧ (((succs ps xx).take j).filter fun z => decide (ds[z.toNat]? = some (some k))).map V.int = (((succs ps xx).take (j + 1)).filter fun z => decide (ds[z.toNat]? = some (some k))).map V.int ∧
              H7 acc = some (.lst ((((succs ps xx).take j).filter fun z => decide (ds[z.toNat]? = some (some k))).map V.int)) ∧ Gr H5 H7 := fun hne => ⟨_, rfl, by rw [hf, if_neg (by simpa using hne), List.append_nil], ha, g6⟩
          refine ⟨_, rfl, _, rfl, av, _, _, _, rfl, rfl, SqL.of (g6 _ _ hav5), atz, _, rfl, ?_⟩
          cases edz : ds[(succs ps xx)[j].toNat] with
          | none =>
            refine ⟨rfl, _, rfl, ?_⟩
            refine iteN rfl ?_
            exact ⟨_, by omega, rfl, by omega, PF (by rw [List.getElem?_eq_getElem hzl, edz]; simp)⟩
          | some m =>
            refine ⟨rfl, _, rfl, ?_⟩
            by_cases hmk : m = k
            · subst hmk
              refine iteP (decide_eq_true rfl) ?_
              refine ⟨_, rfl, ha, smm, _, by omega, rfl, by omega, _, rfl, ?_, upd_same, Gr.acc g6 hacc⟩
              rw [hf, if_pos (decide_eq_true (by rw [List.getElem?_eq_getElem hzl, edz])), List.map_append]
              rfl
            · refine iteN (decide_eq_false (fun z => hmk (by have z : V.int (m : Int) = V.int (k : Int) := z; injection z with z; omega))) ?_
              exact ⟨_, by omega, rfl, by omega, PF (by rw [List.getElem?_eq_getElem hzl, edz]; simp [hmk])⟩
        · rintro ys σ H6 ⟨u, rfl, rfl, ha, g6⟩
          refine ⟨⟨_, SqL.of (g6 _ _ hrk), by simp⟩, ?_⟩
          rw [List.take_length] at ha
          have hmem : ∀ z, z ∈ (succs ps xx).filter (fun z => decide (ds[z.toNat]? = some (some k))) ↔ (x, z) ∈ ps ∧ D qs cl other k z := fun z => by
            rw [List.mem_filter]
            constructor
            · rintro ⟨h1, h2⟩
              obtain ⟨h3, h4, h5⟩ := inr z h1
              exact ⟨h3, (num h4 h5).mp (of_decide_eq_true h2)⟩
            · rintro ⟨h1, h2⟩
              obtain ⟨_, h4, h5⟩ := hrg _ h1
              exact ⟨mem_succs.mpr (by rw [← exx]; exact h1), decide_eq_true ((num h4 h5).mpr h2)⟩
          have hnon : (succs ps xx).filter (fun z => decide (ds[z.toNat]? = some (some k))) ≠ [] := fun z => by
            obtain ⟨⟨y, ry, hy, hxc⟩, rm⟩ := Dx
            have hyp : (x, y) ∈ ps := (hq (y, x)).mp hy
            have := (hmem y).mpr ⟨hyp, ry, fun m hm r => rm (m + 1) (by omega) ⟨y, r, hy, hxc⟩⟩
            rw [z] at this
            cases this
          refine ⟨acc, _, rfl, SqL.of ha, hnon, fun mm hm1' hm2' => ?_⟩
          obtain ⟨hmp, hmD⟩ := (hmem mm).mp hm1'
          have hw6 := g6 _ _ hw5
          have wln : H3 wl = none := hwl
          refine ⟨wl, _, _, rfl, rfl, hw6, small1000 (by simp; omega), _, pre ++ [x], mm, rfl, by rw [upd_same]; simp, by simp [hpre], (hrg _ hmp).2, hmD, fun l hl => ?_, Gr.acc (g5.trans g6) wln⟩
          rw [List.append_assoc]
          exact ctx (x :: l) ⟨mm, l, rfl, Dx, hmp, fun z hz hDz => hm2' z ((hmem z).mpr ⟨hz, hDz⟩), hl⟩
      · rintro σ H5 ⟨u7, pre, x, rfl, hw5, hpre, hx, Dx, ctx, g5⟩
        rw [Nat.sub_self] at Dx ctx
        refine ⟨_, rfl, wl, _, rfl, .inl ⟨SqL.of hw5, fun l hl => ?_⟩⟩
        exact q2 l _ d (pre ++ [x]) (((g1.trans g2).trans (g3.trans g5)).trans (Gr.new hl)) SqT.new (Ch.least hq d one _ (ctx [x] ⟨rfl, Dx⟩))
end
end My03

set_option autoImplicit false
set_option linter.all false
set_option Elab.async false
set_option maxRecDepth 100000
set_option maxHeartbeats 8000000
namespace L2
open PySem PySem.Spec PyProof.Rows
section
variable {prog : Program} {w : World} {A : Around} {s : Shared} {R : Result → Shared → Prop} {a b x : Value} {T I S : Addr}
abbrev BestIs (h : Heap) (S : Addr) (xs : Array Value) : Prop := ∃ c, h.get? S = some { cls := .type "list", dict := none, data := .seq xs c, slots := #[] }
theorem mhname : (toString "min" ++ toString ".loop" : String) = "min.loop" := by decide
theorem min_end (hh : A.handled = none) (hT : s.heap.IsTuple T #[a, b]) (hI : s.heap.IsTupleIter I T 2) (hS : BestIs s.heap S #[x, x]) (SI : S ≠ I)
    (hR : ∀ h', (∀ d o, d ≠ I → d ≠ S → s.heap.get? d = some o → h'.get? d = some o) → R (.ok (.ret x)) { s with heap := h' }) : codeAny (model prog w) A (.builtin "min.loop" ⟨[.ref I, .none, .ref S], []⟩) R s := by
  obtain ⟨c, hS⟩ := hS
  refine codeAny_builtin PySem.F.entry_min_loop ?_
  rw [Around.under_plainId PySem.F.plain_min_loop _]
  show wpAny _ A.in1 (seqItems? (.ref S) >>= _) _ _ s
  refine wpAny_bind (wpAny_seqItems hS rfl ?_)
  show wpAny _ A.in1 (tryCatch (pyNext (.ref I)) _ >>= _) _ _ s
  refine wpAny_bind (wpAny_tryCatch (wpAny_pyNext_tuple_end (by simp [hh]) hI hT (by simp) fun h' eb => ?_))
  have hS' := eb S _ SI hS
  show wpAny _ A.in1 (updateSeq S (fun _ => #[]) >>= _) _ _ _
  refine wpAny_bind ?_
  refine wpAny_updateSeq hS' rfl (wpAny_bind (wpAny_letGo (wpAny_pure ?_)))
  exact hR _ fun d o dI dS e => (Heap.get?_update_other _ _ (Ne.symm dS)).trans (eb d o dI e)
theorem min_snd {c : Bool} (hh : A.handled = none) (hT : s.heap.IsTuple T #[a, b]) (hI : s.heap.IsTupleIter I T 1) (hS : BestIs s.heap S #[a, a]) (SI : S ≠ I) (TI : T ≠ I) (TS : T ≠ S)
    (hcmp : ∀ (s' : Shared) (Q' : Value → Shared → Prop) (E' : Value → Shared → Prop), (∀ d o, d ≠ I → d ≠ S → s.heap.get? d = some o → s'.heap.get? d = some o) → Q' (.bool c) s' → wpAny (model prog w) A.in1 (richCompare .Lt b a) Q' E' s')
    (hR : ∀ h', (∀ d o, d ≠ I → d ≠ S → s.heap.get? d = some o → h'.get? d = some o) → R (.ok (.ret (if c then b else a))) { s with heap := h' }) : codeAny (model prog w) A (.builtin "min.loop" ⟨[.ref I, .none, .ref S], []⟩) R s := by
  obtain ⟨cc, hS⟩ := hS
  refine codeAny_builtin PySem.F.entry_min_loop ?_
  rw [Around.under_plainId PySem.F.plain_min_loop _]
  show wpAny _ A.in1 (seqItems? (.ref S) >>= _) _ _ s
  refine wpAny_bind (wpAny_seqItems hS rfl ?_)
  show wpAny _ A.in1 (tryCatch (pyNext (.ref I)) _ >>= _) _ _ s
  refine wpAny_bind (wpAny_tryCatch (wpAny_pyNext_tuple_item hI hT (x := b) (by simp) fun h' hI' hs' => ?_))
  have k1 : ∀ d o, d ≠ I → d ≠ S → s.heap.get? d = some o → h'.get? d = some o := fun d o dI _ e => hs'.extBut d o dI e
  have hS' := hs'.extBut S _ SI hS
  have hT' := tup_sb hT hs' TI
  show wpAny _ A.in1 (tryCatch (holding [b, b] (richCompare .Lt b a >>= _)) _ >>= _) _ _ _
  refine wpAny_bind (wpAny_tryCatch (wpAny_holding (wpAny_bind (hcmp _ _ _ k1 ?_))))
  refine wpAny_bind (wpAny_holding (wpAny_truthy_bool ?_))
  refine wpAny_bind (wpAny_letGo (wpAny_pure ?_))
  cases c with
  | true =>
    simp only [if_true]
    refine wpAny_bind ?_
    refine wpAny_updateSeq hS' rfl (wpAny_bind (wpAny_letGo ?_))
    rw [mhname]
    have up : ∀ d o, d ≠ S → h'.get? d = some o → (h'.update S (Obj.mapSeq fun _ => #[b, b])).get? d = some o := fun d o dS e => (Heap.get?_update_other _ _ (Ne.symm dS)).trans e
    exact wpAny_pure ⟨plainId_quiet PySem.F.plain_min_loop _, min_end (x := b) hh (tup_at hT' fun o e => up T o TS e) (itr_at hI' fun o e => up I o (Ne.symm SI) e) ⟨_, Heap.get?_update_self _ hS' rfl⟩ SI fun h2 k2 => hR h2 fun d o dI dS e => k2 d o dI dS (up d o dS (k1 d o dI dS e))⟩
  | false =>
    simp only [Bool.false_eq_true, if_false]
    refine wpAny_bind (wpAny_letGo ?_)
    rw [mhname]
    exact wpAny_pure ⟨plainId_quiet PySem.F.plain_min_loop _, min_end (s := { s with heap := h' }) (x := a) hh hT' hI' ⟨_, hS'⟩ SI fun h2 k2 => hR h2 fun d o dI dS e => k2 d o dI dS (k1 d o dI dS e)⟩
theorem min_fst {c : Bool} (hh : A.handled = none) (hT : s.heap.IsTuple T #[a, b]) (hI : s.heap.IsTupleIter I T 0) (hS : BestIs s.heap S #[]) (SI : S ≠ I) (TI : T ≠ I) (TS : T ≠ S)
    (hcmp : ∀ (s' : Shared) (Q' : Value → Shared → Prop) (E' : Value → Shared → Prop), (∀ d o, d ≠ I → d ≠ S → s.heap.get? d = some o → s'.heap.get? d = some o) → Q' (.bool c) s' → wpAny (model prog w) A.in1 (richCompare .Lt b a) Q' E' s')
    (hR : ∀ h', (∀ d o, d ≠ I → d ≠ S → s.heap.get? d = some o → h'.get? d = some o) → R (.ok (.ret (if c then b else a))) { s with heap := h' }) : codeAny (model prog w) A (.builtin "min.loop" ⟨[.ref I, .none, .ref S], []⟩) R s := by
  obtain ⟨cc, hS⟩ := hS
  refine codeAny_builtin PySem.F.entry_min_loop ?_
  rw [Around.under_plainId PySem.F.plain_min_loop _]
  show wpAny _ A.in1 (seqItems? (.ref S) >>= _) _ _ s
  refine wpAny_bind (wpAny_seqItems hS rfl ?_)
  show wpAny _ A.in1 (tryCatch (pyNext (.ref I)) _ >>= _) _ _ s
  refine wpAny_bind (wpAny_tryCatch (wpAny_pyNext_tuple_item hI hT (x := a) (by simp) fun h' hI' hs' => ?_))
  have k1 : ∀ d o, d ≠ I → d ≠ S → s.heap.get? d = some o → h'.get? d = some o := fun d o dI _ e => hs'.extBut d o dI e
  have hS' := hs'.extBut S _ SI hS
  have hT' := tup_sb hT hs' TI
  show wpAny _ A.in1 (updateSeq S (fun _ => #[a, a]) >>= _) _ _ _
  refine wpAny_bind ?_
  refine wpAny_updateSeq hS' rfl ?_
  rw [mhname]
  have up : ∀ d o, d ≠ S → h'.get? d = some o → (h'.update S (Obj.mapSeq fun _ => #[a, a])).get? d = some o := fun d o dS e => (Heap.get?_update_other _ _ (Ne.symm dS)).trans e
  exact wpAny_pure ⟨plainId_quiet PySem.F.plain_min_loop _, min_snd hh (tup_at hT' fun o e => up T o TS e) (itr_at hI' fun o e => up I o (Ne.symm SI) e) ⟨_, Heap.get?_update_self _ hS' rfl⟩ SI TI TS
    (fun s' Q' E' k2 q => hcmp s' Q' E' (fun d o dI dS e => k2 d o dI dS (up d o dS (k1 d o dI dS e))) q) fun h2 k2 => hR h2 fun d o dI dS e => k2 d o dI dS (up d o dS (k1 d o dI dS e))⟩
/-- min(a, b) of two things whose comparison answers wherever the heap has what it had -/
theorem min_two {E : Value → Shared → Prop} {c : Bool} {Q : Value → Shared → Prop} (hh : A.handled = none)
    (hcmp : ∀ (s' : Shared) (Q' : Value → Shared → Prop) (E' : Value → Shared → Prop), (∀ d o, s.heap.get? d = some o → s'.heap.get? d = some o) → Q' (.bool c) s' → wpAny (model prog w) A.in1 (richCompare .Lt b a) Q' E' s')
    (h : ∀ h', (∀ d o, s.heap.get? d = some o → h'.get? d = some o) → Q (if c then b else a) { s with heap := h' }) : wpAny (model prog w) A (call (.builtin "min") [a, b]) Q E s := by
  refine call_function_tree PySem.F.kind_min PySem.F.plain_min PySem.F.entry_min (PySem.F.args_min2 _ _) ?_
  show wpAny _ A.in1 (Builtin.Builtins.bindParams "min" ["key", "default"] 0 ⟨[], []⟩ >>= _) _ _ s
  refine wpAny_bind (wpAny_of_eq (show Builtin.Builtins.bindParams "min" ["key", "default"] 0 ⟨[], []⟩ = pure [none, none] from rfl) ?_)
  show wpAny _ A.in1 (newTuple [a, b] >>= _) _ _ s
  refine wpAny_bind (wpAny_newObj_type ?_)
  have hT : (s.heap.push { cls := .type "tuple", data := .seq #[a, b] }).IsTuple s.heap.objs.size #[a, b] := ⟨_, Heap.get?_push_size _ rfl, rfl, 0, rfl⟩
  refine wpAny_bind (wpAny_pyIter_tuple (s := { s with heap := s.heap.push { cls := .type "tuple", data := .seq #[a, b] } }) hT ?_)
  refine wpAny_bind (wpAny_newObj_type ?_)
  rw [mhname]
  have z1 : (s.heap.push { cls := .type "tuple", data := .seq #[a, b] }).objs.size = s.heap.objs.size + 1 := Heap.size_push ..
  have z2 : ((s.heap.push { cls := .type "tuple", data := .seq #[a, b] }).push { cls := .type "tuple_iterator", data := .fields #[.ref s.heap.objs.size, .int 0 0] }).objs.size = s.heap.objs.size + 2 := by rw [Heap.size_push, z1]
  refine wpAny_pure ⟨plainId_quiet PySem.F.plain_min_loop _, min_fst (a := a) (b := b) (c := c) (T := s.heap.objs.size) (by simp [hh]) (tup_at hT fun o e => Heap.get?_push_of_some _ (Heap.get?_push_of_some _ e)) ⟨_, Heap.get?_push_of_some _ (Heap.get?_push_size _ rfl), rfl, rfl⟩ ⟨0, Heap.get?_push_size _ rfl⟩ ?_ ?_ ?_ (fun s' Q' E' k q => ?_) fun h' k => ?_⟩
  · show _ ≠ _
    rw [z1, z2]
    exact Nat.ne_of_gt (Nat.lt_succ_self _)
  · show _ ≠ _
    rw [z1]
    exact Nat.ne_of_lt (Nat.lt_succ_self _)
  · show _ ≠ _
    rw [z2]
    exact Nat.ne_of_lt (Nat.lt_succ_of_lt (Nat.lt_succ_self _))
  · refine hcmp s' Q' E' (fun d o e => ?_) q
    have lt := Heap.lt_size e
    exact k d o (by rw [z1]; exact Nat.ne_of_lt (Nat.lt_succ_of_lt lt)) (by rw [z2]; exact Nat.ne_of_lt (Nat.lt_succ_of_lt (Nat.lt_succ_of_lt lt))) (Heap.get?_push_of_some _ (Heap.get?_push_of_some _ (Heap.get?_push_of_some _ e)))
  · refine h h' fun d o e => ?_
    have lt := Heap.lt_size e
    exact k d o (by rw [z1]; exact Nat.ne_of_lt (Nat.lt_succ_of_lt lt)) (by rw [z2]; exact Nat.ne_of_lt (Nat.lt_succ_of_lt (Nat.lt_succ_of_lt lt))) (Heap.get?_push_of_some _ (Heap.get?_push_of_some _ (Heap.get?_push_of_some _ e)))
end
section
variable {X : Cx}
/-- min of two tuples of ints -/
theorem call_minT (hc : X.calm = true) (hu : X.A.units + 64 < cLine) : CallR X (.builtin "min") (fun xs H Q => ∃ (a b : Addr) (ns ms : List Int), xs = [.ref a, .ref b] ∧ SqT X.K H a (ns.map V.int) ∧ SqT X.K H b (ms.map V.int) ∧ Q (if HT.lexLt ms ns then .ref b else .ref a) H) := by
  intro pins s σ H xs us Q I r h
  obtain ⟨a, b, ns, ms, rfl, ha, hb, q⟩ := h
  cases r with
  | cons r1 r2 =>
    cases r2 with
    | cons r2 r3 =>
      cases r3
      cases r1
      cases r2
      obtain ⟨its, rv1, p1, _⟩ := I.tuple ha
      obtain ⟨its2, rv2, p2, _⟩ := I.tuple hb
      have i1 : IntsAre its.toArray.toList ns := intsAre_of rv1
      have i2 : IntsAre its2.toArray.toList ms := intsAre_of rv2
      refine min_two (c := HT.lexLt ms ns) (I.ok.hd hc) (fun s' Q' E' k q' => ?_) fun h' k => ?_
      · exact HT.lt_tupInts (A := X.A.in1) (p2.keeps k) (p1.keeps k) i2 i1 (by show X.A.units + 1 < cLine; omega) q'
      · refine ⟨_, H, I.kept (t' := s.toks) k, ?_, q⟩
        cases HT.lexLt ms ns <;> rfl
end
end L2

set_option autoImplicit false
set_option linter.all false
set_option Elab.async false
set_option maxRecDepth 100000
set_option maxHeartbeats 8000000
namespace L2
open PySem PySem.Spec PyProof.Rows
section
variable {prog : Program} {w : World} {A : Around} {E : Value → Shared → Prop} {s : Shared}
theorem code_collect_dict {K : Type} [DecidableEq K] {knd : KeyKind prog w K} {d : Addr} {kvs : List (K × Value)} {ep : Nat} {R : Result → Shared → Prop} (hh : A.handled = none) (lo : (d == sysModules) = false) (hm : s.heap.DictAt knd d kvs ep) (hn : kvs.length ≤ sizeLine)
    (h : ∀ h' tk acc' c', (∀ b o, b ≠ s.heap.objs.size → (s.heap.push { cls := .type "list", data := .seq ([] : List Value).toArray }).get? b = some o → h'.get? b = some o) → h'.get? s.heap.objs.size = some { cls := .type "list", dict := none, data := .seq acc' c', slots := #[] } → ItemsOf (fun i v => ∃ k x, kvs[i]? = some (k, x) ∧ knd.is k v = true) acc' kvs.length → R (.ok (.ret (.ref s.heap.objs.size))) { s with heap := h', toks := tk }) :
    codeAny (model prog w) A (.builtin "proto.collect" ⟨[.ref d], []⟩) R s := by
  refine codeAny_builtin PySem.F.entry_proto_collect ?_
  rw [Around.under_plainId PySem.F.plain_proto_collect _]
  show wpAny _ A.in1 (newList [] >>= fun l => again (.builtin "list.__iadd__" ⟨[l, .ref d], []⟩)) _ _ s
  refine wpAny_bind (wpAny_newObj_type ?_)
  refine wpAny_pure ⟨plainId_quiet PySem.F.plain_list_iadd _, codeAny_builtin PySem.F.entry_list_iadd ?_⟩
  rw [Around.under_plainId PySem.F.plain_list_iadd _]
  show wpAny _ A.in1 (Builtin.List.listExtendWith (.ref s.heap.objs.size) (.ref d) (.ref s.heap.objs.size)) _ _ _
  have lt := hm.lt_size
  exact PySem.W.kdl_extend (s := { s with heap := s.heap.push { cls := .type "list", data := .seq ([] : List Value).toArray } }) (PySem.W.kdl_dict (knd := knd) (kvs := kvs) (ep := ep) lo) hh (hm.push _) s.heap.objs.size (Nat.ne_of_gt lt) (Nat.ne_of_gt lt) _ 0 (Heap.get?_push_size _ rfl) (fun h' tk acc' c' hk hS' hacc => h h' tk acc' c' hk hS' hacc) hn
theorem collect_dict {K : Type} [DecidableEq K] {knd : KeyKind prog w K} {d : Addr} {kvs : List (K × Value)} {ep : Nat} {Q : List Value → Shared → Prop} (hh : A.handled = none) (lo : (d == sysModules) = false) (hm : s.heap.DictAt knd d kvs ep) (hn : kvs.length ≤ sizeLine)
    (h : ∀ h' tk (us : List Value), s.heap.objs.size ≤ h'.objs.size → (∀ b o, s.heap.get? b = some o → h'.get? b = some o) → us.length = kvs.length → (∀ (i : Nat) v, us[i]? = some v → ∃ k x, kvs[i]? = some (k, x) ∧ knd.is k v = true) → Q us { s with heap := h', toks := tk }) :
    wpAny (model prog w) A (collect (.ref d)) Q E s := by
  unfold collect
  refine wpAny_bind (wpAny_runValue (code_collect_dict hh lo hm hn fun h' tk acc' c' hk hS' hacc => ?_))
  show wpAny _ A (load s.heap.objs.size >>= _) _ _ _
  refine wpAny_bind (wpAny_load hS' ?_)
  exact wpAny_pure (h h' tk acc'.toList (Nat.le_of_lt (Heap.lt_size hS')) (fun b o e => hk b o (Nat.ne_of_lt (Heap.lt_size e)) (Heap.get?_push_of_some _ e)) (by rw [Array.length_toList]; exact hacc.1) fun i v e => hacc.2 i v (by rw [← Array.getElem?_toList]; exact e))
theorem sorted_dict {K : Type} [DecidableEq K] {knd : KeyKind prog w K} {d : Addr} {kvs : List (K × Value)} {ep : Nat} {Q : Value → Shared → Prop} (hh : A.handled = none) (lo : (d == sysModules) = false) (hm : s.heap.DictAt knd d kvs ep) (hn : kvs.length ≤ sizeLine)
    (hk : ∀ us : List Value, us.length = kvs.length → (∀ (i : Nat) v, us[i]? = some v → ∃ k x, kvs[i]? = some (k, x) ∧ knd.is k v = true) → 2 ≤ us.length → ∀ E' (s6 : Shared), wpAny (model prog w) A.in1.in1 (keyKind' us.toArray) (fun k s' => s' = s6 ∧ TS.Asks prog w A.in1.in1 s' k (pairsOf us)) E' s6)
    (h : ∀ (us out : List Value) h' tk q e, us.length = kvs.length → (∀ (i : Nat) v, us[i]? = some v → ∃ k x, kvs[i]? = some (k, x) ∧ knd.is k v = true) → out.Perm us → s.heap.objs.size ≤ q → h'.get? q = some (seqObj "list" out.toArray e) → (∀ b o, s.heap.get? b = some o → h'.get? b = some o) → Q (.ref q) { s with heap := h', toks := tk }) :
    wpAny (model prog w) A (call (.builtin "sorted") [.ref d]) Q E s := by
  refine Calls.call_function_entry kind_sorted plain_sorted entry_sorted (args_sorted1 _) ?_
  unfold Builtin.«sorted»
  refine wpAny_bind (m := checkCount "sorted" 1 1 _) (wpAny_pure (wpAny_bind (collect_dict (A := A.in1) hh lo hm hn fun h2 tk us le old hl hu => wpAny_bind (wpAny_newList ?_ (by rw [hl]; exact hn)))))
  have gL : (h2.push (seqObj "list" us.toArray 0)).get? h2.objs.size = some (seqObj "list" us.toArray 0) := Heap.get?_push_size _ rfl
  show wpAny _ _ _ _ _ { s with heap := h2.push (seqObj "list" us.toArray 0), toks := tk }
  refine wpAny_bind (wpAny_holding (wpAny_call_entry slot_list_sort ⟨_, gL, rfl⟩ entry_list_sort (TS.sort_in (s := { s with heap := h2.push (seqObj "list" us.toArray 0), toks := tk }) gL (by rw [hl]; exact hn) (fun h6 o6 h2' => ?_) fun out ho => ⟨_, rfl, ?_⟩) (args_list_sort _)))
  · exact hk us hl hu h2' _ _
  · obtain ⟨e', hat⟩ := sortedHeap_at (out := out.toArray) gL
    refine wpAny_pure ⟨_, rfl, h us out _ tk _ e' hl hu ho le hat fun b o e => ?_⟩
    have lb := Heap.lt_size (old b o e)
    rw [sortedHeap_old (Nat.ne_of_lt lb) (by rw [size_push']; exact Nat.lt_succ_of_lt lb)]
    exact Heap.get?_push_of_some _ (old b o e)
end
theorem vals_at : ∀ (ks : List Int) (us : List Value), us.length = ks.length → (∀ (i : Nat) v, us[i]? = some v → ∃ n t, ks[i]? = some n ∧ v = Value.int n t) → Vals (ks.map V.int) us
  | [], [], _, _ => .nil
  | k :: ks, u :: us, hl, h => by
    obtain ⟨n, t, e1, e2⟩ := h 0 u rfl
    have e3 : k = n := by simpa using e1
    subst e3
    exact .cons ⟨t, e2⟩ (vals_at ks us (by simpa using hl) fun i v hv => h (i + 1) v (by simpa using hv))
  | [], _ :: _, hl, _ => by simp at hl
  | _ :: _, [], hl, _ => by simp at hl
theorem perm_ints {l1 l2 : List V} (pp : l1.Perm l2) : ∀ ns : List Int, l2 = ns.map V.int → ∃ ms : List Int, l1 = ms.map V.int ∧ ms.Perm ns := by
  induction pp with
  | nil => intro ns e; cases ns with | nil => exact ⟨[], rfl, List.Perm.refl _⟩ | cons _ _ => cases e
  | cons a _ ih =>
    intro ns e
    cases ns with
    | nil => cases e
    | cons b ns =>
      rw [List.map_cons] at e
      injection e with e1 e2
      obtain ⟨ms, h1, h2⟩ := ih ns e2
      exact ⟨b :: ms, by rw [List.map_cons, e1, h1], h2.cons b⟩
  | swap a b l =>
    intro ns e
    match ns, e with
    | c :: d :: ns, e =>
      rw [List.map_cons, List.map_cons] at e
      injection e with e1 e2
      injection e2 with e2 e3
      exact ⟨d :: c :: ns, by rw [List.map_cons, List.map_cons, e1, e2, e3], List.Perm.swap _ _ _⟩
  | trans _ _ ih1 ih2 =>
    intro ns e
    obtain ⟨ms, h1, h2⟩ := ih2 ns e
    obtain ⟨ks, h3, h4⟩ := ih1 ms h1
    exact ⟨ks, h3, h4.trans h2⟩
/-- sorted of a dict with ints as keys -/
theorem call_sortedK {X : Cx} (hc : X.calm = true) : CallR X (.builtin "sorted") (fun xs H Q => ∃ (d : Addr) (kvs : List (Key × V)) (ks : List Int), xs = [.ref d] ∧ Rd H d (.dK kvs) ∧ kvs.map (·.1) = ks.map Sum.inl ∧ ∀ (ms : List Int) (q : Addr), ms.Perm ks → H q = none → Q (.ref q) (upd H q (.lst (ms.map V.int)))) := by
  intro pins s σ H xs us Q I r h
  obtain ⟨d, kvs, ks, rfl, hd, hks, q⟩ := h
  obtain ⟨u, rfl, ru⟩ := vals1 r
  cases ru
  obtain ⟨z, lo, vs, rel, dd⟩ := dk_rd I.hok hd
  obtain ⟨ep, da⟩ := dd.dictAt
  have hl0 : kvs.length = vs.length := rel.length
  have hl1 : ks.length = kvs.length := by
    have := congrArg List.length hks
    simpa using this.symm
  have hvi : ∀ us : List Value, us.length = vs.length → (∀ (i : Nat) v, us[i]? = some v → ∃ k x, vs[i]? = some (k, x) ∧ (mixKind X.prog X.w).is k v = true) → Vals (ks.map V.int) us := fun us hl hu => by
    refine vals_at ks us (by omega) fun i v hv => ?_
    obtain ⟨k, x, e1, e2⟩ := hu i v hv
    have e3 : (kvs.map (·.1))[i]? = some k := by rw [rel.keys, List.getElem?_map, e1]; rfl
    rw [hks, List.getElem?_map] at e3
    cases e4 : ks[i]? with
    | none => rw [e4] at e3; cases e3
    | some n =>
      rw [e4] at e3
      cases e3
      rw [mixKind_is] at e2
      rcases keyIs_shape e2 with ⟨j, t, z1, z2⟩ | ⟨y, t, z1, z2⟩
      · cases z1
        exact ⟨_, t, rfl, z2⟩
      · cases z1
  refine sorted_dict (I.ok.hd hc) lo da (by omega) (fun us hl hu h2 E' s6 => ?_) fun us out h' tk qq e hl hu ho hq hat old => ?_
  · have hi : IntsAre us ks := intsAre_of (hvi us hl hu)
    obtain ⟨v1, v2, vr, rfl⟩ : ∃ v1 v2 vr, us = v1 :: v2 :: vr := by
      match us, h2 with
      | v1 :: v2 :: vr, _ => exact ⟨v1, v2, vr, rfl⟩
    rw [keyKind_ints hi]
    refine wpAny_pure ⟨rfl, fun x y hx hy Q' E2 hq => ?_⟩
    have mem : ∀ x : Keyed, x ∈ pairsOf (v1 :: v2 :: vr) → ∃ n t, x.1 = .int n t := fun x hx => by
      have : x ∈ (v1 :: v2 :: vr).zip (v1 :: v2 :: vr) := by rw [← pairsOf_toList]; exact Array.mem_toList_iff.mpr hx
      obtain ⟨i, hi', ei⟩ := List.mem_iff_getElem.mp (List.of_mem_zip this).1
      obtain ⟨t, et⟩ := IntsAre.int_at hi i x.1 (by rw [List.getElem?_eq_getElem hi', ei])
      exact ⟨_, t, et⟩
    obtain ⟨n1, t1, e1⟩ := mem x hx
    obtain ⟨n2, t2, e2⟩ := mem y hy
    rw [e1, e2]
    exact PySem.W.kat_lt_int (hq _)
  · obtain ⟨zs, p, rz⟩ := Vals.perm ho (hvi us hl hu)
    obtain ⟨ms, rfl, pm⟩ := perm_ints p ks rfl
    refine ⟨.ref qq, _, I.laid (o := .lst (ms.map V.int)) old hq ⟨?_, out, e, rz, hat⟩, rfl, q ms _ pm (I.hok.fresh hq)⟩
    rw [List.length_map, pm.length_eq, hl1]; exact z
/-- a dict with ints (and texts) as keys, as an object -/
theorem raw_ofK {P : Program} {w : World} {H : Hp} {h : Heap} {a : Addr} {kvs : List (Key × V)} (x : ObjOk P w H h a (.dK kvs)) : ∃ es ep, RawD h a es ep ∧ es.size = kvs.length ∧ kvs.length ≤ sizeLine ∧
    ∀ (i : Nat) (hi : i < es.size), ∃ k : Key, (kvs.map (·.1))[i]? = some k ∧ RelV (kV k) es[i].key := by
  obtain ⟨z, y, vs, r, o, es, ep, h1, h2, h3, h4, h5, h6⟩ := x
  have hl : es.size = vs.length := by rw [← h5.length]; simp
  have hl2 : kvs.length = vs.length := r.length
  refine ⟨es, ep, ⟨⟨o, h1, h2, h3⟩, y⟩, by omega, z, fun i hi => ?_⟩
  have hi' : i < vs.length := by omega
  obtain ⟨e1, _⟩ := h5.get? (i := i) (e := es[i]) (k := vs[i].1) (v := vs[i].2) (by simp [hi]) (by simp [hi'])
  refine ⟨vs[i].1, by rw [r.keys]; simp [hi'], ?_⟩
  rw [mixKind_is] at e1
  rcases keyIs_shape e1 with ⟨j, t, z1, z2⟩ | ⟨y, t, z1, z2⟩
  · rw [z1, z2]; exact ⟨t, rfl⟩
  · rw [z1, z2]; exact ⟨t, rfl⟩
section
variable {X : Cx}
def ItK (d : Addr) (o : Obj) (kvs : List (Key × V)) : It :=
  ⟨fun i H => i < kvs.length ∧ H d = some (.frz o (.dK kvs)), fun i H x H' => H' = H ∧ ∃ k, x = kV k ∧ (kvs.map (·.1))[i]? = some k, fun i H => kvs.length ≤ i ∧ H d = some (.frz o (.dK kvs))⟩
theorem turn_keysK {P : Program} {w : World} {K : PySem.W.Frag} {tg : Expr} (d it : Addr) (o : Obj) (kvs : List (Key × V)) (es : Array DictEntry) (ep : Nat) (hd : o.data = .dict es ep) (hz : es.size = kvs.length) :
    Turn P w K tg (ItK d o kvs) [it] it (fun i h => h.IsKeyIter it d i es.size ep) where
  mem := by simp
  obj := fun i h st b hb => by
    have e : b = it := by simpa using hb
    subst e
    obtain ⟨o, e, c, d⟩ := st
    exact ⟨o, e, fun v z => by rw [d] at z; cases z⟩
  keep := fun i h h' st k => let ⟨o, e, r⟩ := st; ⟨o, k it (by simp) o e, r⟩
  item := by
    intro X hP hw hK hc i pins s σ H E I hf st hg
    subst hP hw hK
    obtain ⟨hi, hk⟩ := hg
    obtain ⟨ho, hx⟩ := I.hok d _ hk
    obtain ⟨es', ep', rw', e1, e2, e3⟩ := raw_ofK hx
    obtain ⟨o', q1, q2, q3⟩ := rw'.ex
    rw [ho] at q1; cases q1
    rw [hd] at q3; injection q3 with q4 q5
    subst q4; subst q5
    obtain ⟨f0, f1, f2, f3, f4, f5⟩ := hf it (by simp)
    refine raw_item st rw' (by omega) fun h' st' sb => ?_
    obtain ⟨k, p2, p3⟩ := e3 i (by omega)
    have I1 : Inv X pins σ H { s with heap := h' } := I.turned (t' := s.toks) (fun b ob hb e => (sb.2 b hb).trans e) f0 f1 f3 f4 f5
    obtain ⟨oi, e, c, dd⟩ := id st'
    refine ⟨_, rfl, go_of (s := { s with heap := h' }) e c dd (by decide) ⟨kV k, H, I1, p3, ⟨rfl, k, rfl, p2⟩, st', fun b hb => (hf b hb).1⟩⟩
  done := by
    intro X hP hw hK hc i pins s σ H E I hf st hg
    subst hP hw hK
    obtain ⟨hi, hk⟩ := hg
    obtain ⟨ho, hx⟩ := I.hok d _ hk
    obtain ⟨es', ep', rw', e1, e2, e3⟩ := raw_ofK hx
    obtain ⟨o', q1, q2, q3⟩ := rw'.ex
    rw [ho] at q1; cases q1
    rw [hd] at q3; injection q3 with q4 q5
    subst q4; subst q5
    obtain ⟨f0, f1, f2, f3, f4, f5⟩ := hf it (by simp)
    exact raw_end (I.ok.hd hc) st rw' (by omega) fun h' eb => ⟨rfl, I.turned (t' := s.toks) (fun b ob hb e => eb b ob hb e) f0 f1 f3 f4 f5⟩
  self := fun _ _ _ _ _ st h => wpAny_pyIter_keyiter st h
theorem Inv.freezeK {pins : List (Addr × Obj)} {σ : St} {H : Hp} {s : Shared} {a : Addr} {kvs : List (Key × V)} (I : Inv X pins σ H s) (ha : H a = some (.dK kvs)) :
    ∃ o, s.heap.get? a = some o ∧ Inv X pins σ (upd H a (.frz o (.dK kvs))) s := by
  have x := I.hok a _ ha
  obtain ⟨es, ep, ⟨⟨o, h1, h2, h3⟩, _⟩, _⟩ := raw_ofK x
  have kt : ∀ b ys, H b = some (.tup ys) → b ≠ a := fun b ys e z => by rw [z, ha] at e; cases e
  have ko : ∀ b y, H b = some (.own y) → b ≠ a := fun b y e z => by rw [z, ha] at e; cases e
  have kf : ∀ b ob u, H b = some (.frz ob u) → b ≠ a := fun b ob u e z => by rw [z, ha] at e; cases e
  have kb : ∀ b ps, H b = some (.tbl ps) → b ≠ a := fun b ps e z => by rw [z, ha] at e; cases e
  have kn : ∀ b, H b = none → b ≠ a := fun b e z => by rw [z, ha] at e; cases e
  refine ⟨o, h1, I.un (t' := s.toks) (h' := s.heap) ⟨fun b ob e _ _ _ => e, fun b ob e _ _ _ => ⟨ob.slots, e⟩, fun b ob e n _ => by rw [upd_ne (kn b n)]; exact n, fun b ob e _ => ⟨ob, e⟩, fun b ys e => by rw [upd_ne (kt b ys e)]; exact e, fun b ob u e => by rw [upd_ne (kf b ob u e)]; exact e, fun b ps e => ⟨#[], by rw [upd_ne (kb b ps e), e]; simp⟩⟩ fun b u e => ?_⟩
  by_cases hb : b = a
  · subst hb
    rw [upd_same] at e
    cases e
    exact ⟨h1, x.stay (fun c v _ q => q) (fun c q => by rw [upd_ne (ko c _ q)]; exact q) fun c ys q => by rw [upd_ne (kt c ys q)]; exact q⟩
  · rw [upd_ne hb] at e
    exact (I.hok b u e).stay (fun c v _ q => q) (fun c q => by rw [upd_ne (ko c _ q)]; exact q) fun c ys q => by rw [upd_ne (kt c ys q)]; exact q
def iKeysK (tl : TE) : TI := fun σ H R => tl σ H fun x H1 => ∃ a kvs, x = .ref a ∧ H1 a = some (.dK kvs) ∧ ∀ o, R (ItK a o kvs) (upd H1 a (.frz o (.dK kvs)))
theorem pi_keysK {tg l : Expr} {tl : TE} (hl : PE X l tl) : PI X tg l (iKeysK tl) := by
  intro pins s σ H R I h
  refine thn (hl pins s σ H _ I h) fun v s1 ⟨x, H1, I1, r1, a, kvs, e, ha, q⟩ => ?_
  subst e
  cases r1
  obtain ⟨o, ho, I2⟩ := I1.freezeK ha
  obtain ⟨es, ep, rw', e1, e2, e3⟩ := raw_ofK (I1.hok a _ ha)
  obtain ⟨o', q1, q2, q3⟩ := id rw'.ex
  rw [ho] at q1; cases q1
  refine raw_iter rw' fun h' k ki => ?_
  refine ⟨s1.heap.objs.size, [s1.heap.objs.size], _, _, _, rfl, I2.kept (t' := s1.toks) k, turn_keysK a _ o kvs es ep q3 e1, ki, fun b hb => ?_, q o⟩
  have e : b = s1.heap.objs.size := by simpa using hb
  subst e
  exact I2.fpOk (Nat.le_refl _) (I2.hok.fresh (Nat.le_refl _))
end
end L2

set_option autoImplicit false
set_option linter.all false
set_option Elab.async false
set_option maxRecDepth 100000
set_option maxHeartbeats 8000000
namespace My03
open PySem L2
section
variable {ps : List (Int × Int)} {cl : List Int}
theorem W_len : ∀ {n u v l}, W ps cl n u v l → l.length = n + 1
  | 0, _, _, _, ⟨_, e, _⟩ => by rw [e]; rfl
  | n + 1, _, _, _, ⟨_, _, _, _, w, e⟩ => by rw [e, List.length_cons, W_len w]
theorem W_snoc : ∀ {n u v l} {x : Int}, W ps cl n u v l → (v, x) ∈ ps → x ∉ cl → W ps cl (n + 1) u x (l ++ [x])
  | 0, u, v, l, x, ⟨e1, e2, e3⟩, hp, hx => by
    subst e1
    exact ⟨x, [x], hp, e3, ⟨rfl, rfl, hx⟩, by rw [e2]; rfl⟩
  | n + 1, u, v, l, x, ⟨y, l', h1, h2, w, e⟩, hp, hx => ⟨y, l' ++ [x], h1, h2, W_snoc w hp hx, by rw [e]; rfl⟩
theorem W_split : ∀ {n u l} {x : Int}, W ps cl (n + 1) u x l → ∃ v l', W ps cl n u v l' ∧ (v, x) ∈ ps ∧ x ∉ cl ∧ l = l' ++ [x]
  | 0, u, l, x, ⟨y, l', h1, h2, ⟨e1, e2, e3⟩, e⟩ => by
    subst e1
    exact ⟨u, [u], ⟨rfl, rfl, h2⟩, h1, e3, by rw [e, e2]; rfl⟩
  | n + 1, u, l, x, ⟨y, l', h1, h2, w, e⟩ => by
    obtain ⟨v, l2, w2, h3, h4, e2⟩ := W_split w
    exact ⟨v, u :: l2, ⟨y, l2, h1, h2, w2, rfl⟩, h3, h4, by rw [e, e2]; rfl⟩
theorem lle_app {x : Int} : ∀ {l m : List Int}, lle l m → lle (l ++ [x]) (m ++ [x])
  | [], [], _ => .inr ⟨rfl, True.intro⟩
  | a :: l, b :: m, h => by
    rcases h with h | ⟨e, h⟩
    · exact .inl h
    · exact .inr ⟨e, lle_app h⟩
  | [], _ :: _, h => h.elim
  | _ :: _, [], h => h.elim
theorem lle_lex : ∀ {l m : List Int}, l.length = m.length → (HT.lexLt l m = true → lle l m) ∧ (HT.lexLt l m = false → lle m l)
  | [], [], _ => ⟨fun _ => True.intro, fun _ => True.intro⟩
  | a :: l, b :: m, hl => by
    have ih := lle_lex (l := l) (m := m) (by simpa using hl)
    constructor
    · intro h
      by_cases e : a = b
      · subst e
        exact .inr ⟨rfl, ih.1 (by simpa [HT.lexLt] using h)⟩
      · exact .inl (by simpa [HT.lexLt, e] using h)
    · intro h
      by_cases e : a = b
      · subst e
        exact .inr ⟨rfl, ih.2 (by simpa [HT.lexLt] using h)⟩
      · have : ¬ a < b := by simpa [HT.lexLt, e] using h
        exact .inl (by omega)
  | [], _ :: _, h => by simp at h
  | _ :: _, [], h => by simp at h
/-- all places of at most n lanes from one are told, with their least ways; the row has those of just n -/
structure Lay0 (ps : List (Int × Int)) (cl : List Int) (one : Int) (n : Nat) (row : List Int) (f : Int → Option (List Int)) : Prop where
  a : ∀ v l, f v = some l → ∃ m, m ≤ n ∧ Least ps cl m one v l
  b : ∀ v m l, m ≤ n → W ps cl m one v l → ∃ l', f v = some l'
  r : ∀ v, v ∈ row ↔ (∃ l, W ps cl n one v l) ∧ ∀ m < n, ∀ l, ¬ W ps cl m one v l
structure MidL (cl row : List Int) (f g : Int → Option (List Int)) (dn : List (Int × Int)) : Prop where
  s : ∀ v l, g v = some l → f v = none ∧ v ∉ cl ∧ ∃ u fu, (u, v) ∈ dn ∧ u ∈ row ∧ f u = some fu ∧ l = fu ++ [v]
  c : ∀ u v fu, (u, v) ∈ dn → u ∈ row → f v = none → v ∉ cl → f u = some fu → ∃ l, g v = some l ∧ lle l (fu ++ [v])
theorem Lay0.init {one : Int} (h : one ∉ cl) : Lay0 ps cl one 0 [one] fun v => if v = one then some [one] else none where
  a := fun v l e => by
    by_cases z : v = one
    · rw [if_pos z] at e
      cases e
      exact ⟨0, Nat.le_refl _, ⟨z.symm, rfl, h⟩, fun l' ⟨_, e, _⟩ => by rw [e]; exact lle_refl _, fun m hm => absurd hm (Nat.not_lt_zero _)⟩
    · rw [if_neg z] at e; cases e
  b := fun v m l hm w => by
    have : m = 0 := by omega
    subst this
    obtain ⟨e, _, _⟩ := w
    exact ⟨[one], if_pos e.symm⟩
  r := fun v => by
    rw [List.mem_singleton]
    exact ⟨fun e => ⟨⟨[one], e.symm, rfl, h⟩, fun m hm => absurd hm (Nat.not_lt_zero _)⟩, fun ⟨⟨l, e, _⟩, _⟩ => e.symm⟩
theorem MidL.init {row : List Int} {f : Int → Option (List Int)} : MidL cl row f (fun _ => none) [] := ⟨fun _ _ e => (by cases e), fun _ _ _ h => (by cases h)⟩
section
variable {one : Int} {n : Nat} {row : List Int} {f g : Int → Option (List Int)}
theorem Lay0.at (L : Lay0 ps cl one n row f) {u : Int} (hu : u ∈ row) : ∃ fu, f u = some fu ∧ Least ps cl n one u fu := by
  obtain ⟨⟨l, w⟩, h⟩ := (L.r u).mp hu
  obtain ⟨fu, e⟩ := L.b u n l (Nat.le_refl _) w
  obtain ⟨m, hm, le⟩ := L.a u fu e
  have : m = n := by
    rcases Nat.lt_or_ge m n with z | z
    · exact absurd le.1 (h m z fu)
    · omega
  subst this
  exact ⟨fu, e, le⟩
/-- a walk of one lane more to a place that isn't told comes from the row -/
theorem Lay0.from (L : Lay0 ps cl one n row f) {v : Int} {l : List Int} (hv : f v = none) (w : W ps cl (n + 1) one v l) : ∃ u fu l', u ∈ row ∧ f u = some fu ∧ (u, v) ∈ ps ∧ v ∉ cl ∧ lle fu l' ∧ l = l' ++ [v] := by
  obtain ⟨u, l', w', hp, hx, e⟩ := W_split w
  have hr : u ∈ row := (L.r u).mpr ⟨⟨l', w'⟩, fun m hm l2 w2 => by
    obtain ⟨_, z⟩ := L.b v (m + 1) _ (by omega) (W_snoc w2 hp hx)
    rw [hv] at z; cases z⟩
  obtain ⟨fu, e1, le⟩ := L.at hr
  exact ⟨u, fu, l', hr, e1, hp, hx, le.2.1 l' w', e⟩
theorem MidL.least (L : Lay0 ps cl one n row f) (M : MidL cl row f g ps) {v : Int} {l : List Int} (h : g v = some l) : Least ps cl (n + 1) one v l := by
  obtain ⟨hv, hx, u, fu, hp, hr, e, rfl⟩ := M.s v l h
  obtain ⟨fu', e', le⟩ := L.at hr
  rw [e] at e'; cases e'
  refine ⟨W_snoc le.1 hp hx, fun l' w => ?_, fun m hm l' w => ?_⟩
  · obtain ⟨u', fu', l2, hr', e2, hp', _, hl, rfl⟩ := L.from hv w
    obtain ⟨l3, e3, h3⟩ := M.c u' v fu' hp' hr' hv hx e2
    rw [h] at e3; cases e3
    exact lle_trans h3 (lle_app hl)
  · obtain ⟨_, z⟩ := L.b v m l' (by omega) w
    rw [hv] at z; cases z
theorem Lay0.next (L : Lay0 ps cl one n row f) (M : MidL cl row f g ps) {row' : List Int} {f' : Int → Option (List Int)} (hr : ∀ v, v ∈ row' ↔ ∃ l, g v = some l) (hf : ∀ v, f' v = match f v with | some l => some l | none => g v) : Lay0 ps cl one (n + 1) row' f' where
  a := fun v l e => by
    rw [hf] at e
    cases z : f v with
    | some l' => rw [z] at e; obtain ⟨m, hm, le⟩ := L.a v l' z; cases e; exact ⟨m, by omega, le⟩
    | none => rw [z] at e; exact ⟨n + 1, Nat.le_refl _, M.least L e⟩
  b := fun v m l hm w => by
    rw [hf]
    cases z : f v with
    | some l' => exact ⟨l', rfl⟩
    | none =>
      have : m = n + 1 := by
        rcases Nat.lt_or_ge n m with y | y
        · omega
        · obtain ⟨_, z'⟩ := L.b v m l y w
          rw [z] at z'; cases z'
      subst this
      obtain ⟨u, fu, l', hru, e, hp, hx, _, _⟩ := L.from z w
      obtain ⟨l3, e3, _⟩ := M.c u v fu hp hru z hx e
      exact ⟨l3, e3⟩
  r := fun v => by
    rw [hr]
    constructor
    · rintro ⟨l, e⟩
      have le := M.least L e
      exact ⟨⟨l, le.1⟩, le.2.2⟩
    · rintro ⟨⟨l, w⟩, h⟩
      have z : f v = none := by
        cases z : f v with
        | none => rfl
        | some l' => obtain ⟨m, hm, le⟩ := L.a v l' z; exact absurd le.1 (h m (by omega) l')
      obtain ⟨u, fu, l', hru, e, hp, hx, _, _⟩ := L.from z w
      obtain ⟨l3, e3, _⟩ := M.c u v fu hp hru z hx e
      exact ⟨l3, e3⟩
theorem Lay0.all (L : Lay0 ps cl one n [] f) : ∀ m v l, W ps cl m one v l → ∃ l', f v = some l' := by
  intro m
  induction m with
  | zero => intro v l w; exact L.b v 0 l (Nat.zero_le _) w
  | succ m ih =>
    intro v l w
    obtain ⟨u, l', w', hp, hx, _⟩ := W_split w
    obtain ⟨fu, e⟩ := ih u l' w'
    obtain ⟨j, hj, le⟩ := L.a u fu e
    rcases Nat.lt_or_ge j n with y | y
    · exact L.b v (j + 1) _ (by omega) (W_snoc le.1 hp hx)
    · have : j = n := by omega
      subst this
      have := (L.r u).mpr ⟨⟨fu, le.1⟩, le.2.2⟩
      cases this
theorem MidL.skip {dn : List (Int × Int)} {u v : Int} (M : MidL cl row f g dn) (h : u ∉ row ∨ f v ≠ none ∨ v ∈ cl) : MidL cl row f g (dn ++ [(u, v)]) where
  s := fun x l e => by
    obtain ⟨h1, h2, y, fy, h3, r⟩ := M.s x l e
    exact ⟨h1, h2, y, fy, List.mem_append_left _ h3, r⟩
  c := fun y x fy hm h1 h2 h3 h4 => by
    rcases List.mem_append.mp hm with hm | hm
    · exact M.c y x fy hm h1 h2 h3 h4
    · cases List.mem_singleton.mp hm
      rcases h with h | h | h
      · exact absurd h1 h
      · exact absurd h2 h
      · exact absurd h h3
theorem MidL.put {dn : List (Int × Int)} {u v : Int} {fu l : List Int} {g' : Int → Option (List Int)} (M : MidL cl row f g dn) (hu : u ∈ row) (hv : f v = none) (hc : v ∉ cl) (hf : f u = some fu)
    (hl : (l = fu ++ [v] ∨ g v = some l) ∧ lle l (fu ++ [v]) ∧ ∀ l0, g v = some l0 → lle l l0) (hg : ∀ x, g' x = if x = v then some l else g x) : MidL cl row f g' (dn ++ [(u, v)]) where
  s := fun x l' e => by
    rw [hg] at e
    by_cases z : x = v
    · rw [if_pos z] at e
      cases e
      subst z
      rcases hl.1 with rfl | h
      · exact ⟨hv, hc, u, fu, List.mem_append_right _ List.mem_cons_self, hu, hf, rfl⟩
      · obtain ⟨h1, h2, y, fy, h3, r⟩ := M.s x l h
        exact ⟨h1, h2, y, fy, List.mem_append_left _ h3, r⟩
    · rw [if_neg z] at e
      obtain ⟨h1, h2, y, fy, h3, r⟩ := M.s x l' e
      exact ⟨h1, h2, y, fy, List.mem_append_left _ h3, r⟩
  c := fun y x fy hm h1 h2 h3 h4 => by
    rw [hg]
    rcases List.mem_append.mp hm with hm | hm
    · obtain ⟨l0, e0, h0⟩ := M.c y x fy hm h1 h2 h3 h4
      by_cases z : x = v
      · subst z
        rw [if_pos rfl]
        exact ⟨l, rfl, lle_trans (hl.2.2 l0 e0) h0⟩
      · rw [if_neg z]; exact ⟨l0, e0, h0⟩
    · cases List.mem_singleton.mp hm
      rw [if_pos rfl]
      rw [hf] at h4; cases h4
      exact ⟨l, rfl, hl.2.1⟩
end
end
/-! ### a dict from places to ways -/
def DW (K : PySem.W.Frag) (H : Hp) (kvs : List (Key × V)) (f : Int → Option (List Int)) : Prop :=
  (∃ ks : List Int, kvs.map (·.1) = ks.map Sum.inl) ∧ ∀ v, (f v = none ∧ valV kvs (Sum.inl v : Key) = none) ∨ ∃ (r : Addr) (l : List Int), f v = some l ∧ valV kvs (Sum.inl v : Key) = some (.ref r) ∧ SqT K H r (l.map V.int)
theorem DW.mono {K : PySem.W.Frag} {H H' : Hp} {kvs : List (Key × V)} {f : Int → Option (List Int)} (d : DW K H kvs f) (h : ∀ r xs, SqT K H r xs → SqT K H' r xs) : DW K H' kvs f :=
  ⟨d.1, fun v => (d.2 v).imp id fun ⟨r, l, e1, e2, e3⟩ => ⟨r, l, e1, e2, h _ _ e3⟩⟩
theorem DW.nil {K : PySem.W.Frag} {H : Hp} : DW K H [] fun _ => none := ⟨⟨[], rfl⟩, fun v => .inl ⟨rfl, rfl⟩⟩
theorem DW.none {K : PySem.W.Frag} {H : Hp} {kvs : List (Key × V)} {f : Int → Option (List Int)} (d : DW K H kvs f) {v : Int} (h : f v = none) : valV kvs (Sum.inl v : Key) = none := by
  rcases d.2 v with ⟨_, e⟩ | ⟨r, l, e, _⟩
  · exact e
  · rw [h] at e; cases e
theorem DW.some {K : PySem.W.Frag} {H : Hp} {kvs : List (Key × V)} {f : Int → Option (List Int)} (d : DW K H kvs f) {v : Int} {l : List Int} (h : f v = some l) : ∃ r, valV kvs (Sum.inl v : Key) = some (.ref r) ∧ SqT K H r (l.map V.int) := by
  rcases d.2 v with ⟨e, _⟩ | ⟨r, l', e, e1, e2⟩
  · rw [h] at e; cases e
  · rw [h] at e; cases e; exact ⟨r, e1, e2⟩
theorem put_ints {kvs : List (Key × V)} {ks : List Int} {k : Int} {v : V} (h : kvs.map (·.1) = ks.map Sum.inl) : ∃ ks' : List Int, (putK kvs (Sum.inl k : Key) v).map (·.1) = ks'.map Sum.inl := by
  unfold putK
  split
  · refine ⟨ks, ?_⟩
    rw [← h, List.map_map]
    apply List.map_congr_left
    intro p _
    show (if p.1 = Sum.inl k then (p.1, v) else p).1 = p.1
    split <;> rfl
  · exact ⟨ks ++ [k], by rw [List.map_append, h, List.map_append]; rfl⟩
theorem DW.put {K : PySem.W.Frag} {H : Hp} {kvs : List (Key × V)} {f : Int → Option (List Int)} (d : DW K H kvs f) {v : Int} {l : List Int} {r : Addr} (h : SqT K H r (l.map V.int)) : DW K H (putK kvs (Sum.inl v : Key) (.ref r)) fun x => if x = v then Option.some l else f x := by
  obtain ⟨⟨ks, hk⟩, h2⟩ := d
  refine ⟨put_ints hk, fun x => ?_⟩
  show ((if x = v then Option.some l else f x) = _ ∧ _) ∨ ∃ (r' : Addr) (l' : List Int), (if x = v then Option.some l else f x) = _ ∧ _
  rw [valV_put]
  by_cases z : x = v
  · rw [if_pos z, if_pos (by rw [z])]
    exact .inr ⟨r, l, rfl, rfl, h⟩
  · rw [if_neg z, if_neg (fun e => z (Sum.inl.inj e))]
    exact h2 x
theorem DW.mem {K : PySem.W.Frag} {H : Hp} {kvs : List (Key × V)} {f : Int → Option (List Int)} (d : DW K H kvs f) {ks : List Int} (hk : kvs.map (·.1) = ks.map Sum.inl) (v : Int) : v ∈ ks ↔ ∃ l, f v = Option.some l := by
  have key : v ∈ ks ↔ (valV kvs (Sum.inl v : Key)).isSome = true := by
    rw [← valV_any, List.any_eq_true]
    constructor
    · intro h
      have : (Sum.inl v : Key) ∈ kvs.map (·.1) := by rw [hk]; exact List.mem_map.mpr ⟨v, h, rfl⟩
      obtain ⟨p, hp, e⟩ := List.mem_map.mp this
      exact ⟨p, hp, decide_eq_true e⟩
    · rintro ⟨p, hp, e⟩
      have : (Sum.inl v : Key) ∈ kvs.map (·.1) := List.mem_map.mpr ⟨p, hp, of_decide_eq_true e⟩
      rw [hk] at this
      obtain ⟨x, hx, e⟩ := List.mem_map.mp this
      cases e
      exact hx
  rw [key]
  rcases d.2 v with ⟨e1, e2⟩ | ⟨r, l, e1, e2, _⟩
  · rw [e1, e2]; exact ⟨fun h => (by cases h), fun ⟨_, h⟩ => (by cases h)⟩
  · rw [e1, e2]; exact ⟨fun _ => ⟨l, rfl⟩, fun _ => rfl⟩
end My03

set_option autoImplicit false
set_option linter.all false
set_option Elab.async false
set_option maxRecDepth 100000
set_option maxHeartbeats 8000000
namespace My03
open PySem L2
theorem for_keysK {a : Addr} {o : Obj} {kvs : List (Key × V)} {g : TG} {tb : TS} {D : Ends} {σ : St} {H : Hp} (Pv : Nat → St → Hp → Prop) (h0 : Pv 0 σ H) (hl : ∀ i σ H, i ≤ kvs.length → Pv i σ H → H a = some (.frz o (.dK kvs)))
    (hs : ∀ i k σ H, (kvs.map (·.1))[i]? = some k → Pv i σ H → g (kV k) σ H fun σ2 H2 => tb { D with nx := Pv (i + 1), ct := Pv (i + 1), bk := D.nx } σ2 H2) (hd : ∀ σ H, Pv kvs.length σ H → D.nx σ H) :
    ∃ W : Nat → Nat → St → Hp → Prop, (∃ m, W 0 m σ H) ∧ ∀ i m σ H, W i m σ H →
      ((ItK a o kvs).stop i H ∧ D.nx σ H) ∨ ((ItK a o kvs).go i H ∧ ∃ N : St → Hp → Prop, (∀ σ' H', N σ' H' → ∃ m', m' < m ∧ W (i + 1) m' σ' H') ∧ ∀ x H', (ItK a o kvs).yld i H x H' → g x σ H' fun σ2 H2 => tb { D with nx := N, ct := N, bk := D.nx } σ2 H2) := by
  refine ⟨fun i m σ H => m = kvs.length - i ∧ i ≤ kvs.length ∧ Pv i σ H, ⟨kvs.length, by simp, Nat.zero_le _, h0⟩, ?_⟩
  rintro i m σ H ⟨rfl, hi, p⟩
  have q := hl i σ H hi p
  by_cases hlt : i < kvs.length
  · refine .inr ⟨⟨hlt, q⟩, Pv (i + 1), fun σ' H' p' => ⟨kvs.length - (i + 1), by omega, rfl, hlt, p'⟩, fun x H' y => ?_⟩
    obtain ⟨e, k, e2, hk⟩ := y
    subst e
    subst e2
    exact hs i k σ _ hk p
  · have e : i = kvs.length := by omega
    subst e
    exact .inl ⟨⟨Nat.le_refl _, q⟩, hd σ H p⟩
theorem SqT.upk {K : PySem.W.Frag} {H : Hp} {a q : Addr} {kvs : List (Key × V)} {o : HO} {xs : List V} (h : SqT K H q xs) (ha : H a = some (.dK kvs)) : SqT K (upd H a o) q xs := by
  rcases h with h | h
  · rcases h with h | ⟨ob, h⟩
    · exact .inl (.inl (by rw [upd_ne (ne_of h ha (by intro z; cases z))]; exact h))
    · exact .inl (.inr ⟨ob, by rw [upd_ne (ne_of h ha (by intro z; cases z))]; exact h⟩)
  · exact .inr h
theorem filter_lt {α : Type} {p p' : α → Bool} : ∀ {xs : List α}, (∀ x ∈ xs, p' x = true → p x = true) → (xs.filter p').length ≤ (xs.filter p).length ∧ ((∃ x ∈ xs, p x = true ∧ p' x = false) → (xs.filter p').length < (xs.filter p).length)
  | [], _ => ⟨Nat.le_refl _, fun ⟨x, h, _⟩ => by cases h⟩
  | a :: xs, h => by
    obtain ⟨i1, i2⟩ := filter_lt (xs := xs) fun x hx => h x (List.mem_cons_of_mem _ hx)
    have ha := h a List.mem_cons_self
    rw [List.filter_cons, List.filter_cons]
    cases e1 : p' a <;> cases e2 : p a
    · simp only [Bool.false_eq_true, if_false]
      refine ⟨i1, fun ⟨x, hx, h1, h2⟩ => i2 ?_⟩
      rcases List.mem_cons.mp hx with rfl | hx
      · rw [e2] at h1; cases h1
      · exact ⟨x, hx, h1, h2⟩
    · simp only [Bool.false_eq_true, if_false, if_true, List.length_cons]
      exact ⟨by omega, fun _ => by omega⟩
    · rw [ha e1] at e2; cases e2
    · simp only [if_true, List.length_cons]
      refine ⟨by omega, fun ⟨x, hx, h1, h2⟩ => ?_⟩
      rcases List.mem_cons.mp hx with rfl | hx
      · rw [e1] at h2; cases h2
      · have := i2 ⟨x, hx, h1, h2⟩; omega
def cntF (many : Int) (f : Int → Option (List Int)) : Nat := ((List.range many.toNat).filter fun j : Nat => (f (j : Int)).isNone).length
section
variable {P : Program} {w : World} {K : PySem.W.Frag} {mg : Str → Option Value} {base : Heap}
theorem scLL : FnScope ["net", "one", "other", "closed", "ways", "row", "later", "here", "there", "way"] ["net", "one", "other", "closed"] (defScope sLLeast) := ⟨rfl, rfl, rfl, by decide +kernel, rfl, by decide +kernel, by decide +kernel⟩
theorem ok_ll {f : Addr} {fd : FuncData} (F : Fun K "_law_least" "_law_least" sLLeast f fd) (T : Txt mg) (T3 : Txt3 mg) : FnOk P w K mg base CX0 1 f fd ["net", "one", "other", "closed"] (spLeastW K) := by
  refine F.ok scLL (fun vs H Q E h => ?_) (fun cdv A outer s H vs Q E hr h => ?_)
  · obtain ⟨q, c, one, other, many, ps, cl, rfl, _⟩ := h
    rfl
  · obtain ⟨q, c, one, other, many, ps, cl, rfl, NV, hpl, hm1, ho, ht, hrg, hcl, q1, q2⟩ := h
    have hu := hr.units
    have hu1 := hu_of hr
    refine ⟨_, pss_cons (ps_if (pt_cmpR (op_inD hu) (pv 1) (pv 3) (by with_unfolding_all rfl)) (pss_one (ps_ret pe_non)) pss_nil)
      (pss_cons (ps_set (i := 4) scLL.nd rfl (Or.inl rfl) (pe_disp (pps_cons (pv 1) (pe_tup (pa_cons (pv 1) pa_nil)) pps_nil) rfl rfl (by intro z; cases z) (by decide)))
      (pss_cons (ps_set (i := 5) scLL.nd rfl (Or.inl rfl) (pe_lst (pa_cons (pv 1) pa_nil)))
      (pss_cons (ps_while PassesOwn.never (pt_cmpR (op_neL hr.units) (pv 5) (pe_lst pa_nil) (nomark _))
        (pss_cons (ps_set (i := 6) scLL.nd rfl (Or.inl rfl) pe_dnewK)
        (pss_cons (ps_for PassesOwn.never rfl (pi_tup (pe_ix ix_tup (pv 0) pe_int (fun _ _ => rfl))) (pg_tup rfl (pgs_cons (pg_name (i := 7) scLL.nd rfl (Or.inl rfl)) (pgs_cons (pg_name (i := 8) scLL.nd rfl (Or.inl rfl)) pgs_nil)))
          (pss_one (ps_if (PW.pt (pw_and (pt_cmpR (op_inD hu) (pv 7) (pv 5) (by with_unfolding_all rfl)) (pw_and (pt_cmp (pc_dnotin hu1 (pv 8) (pv 4))) (pw_and1 (pt_cmpR (op_notInD hu) (pv 8) (pv 3) (by with_unfolding_all rfl))))))
            (pss_cons (ps_set (i := 9) scLL.nd rfl (Or.inl rfl) (pe_op op_catG (pe_dget hu1 (pv 4) (pv 7) (fun _ _ => rfl)) (pe_tup (pa_cons (pv 8) pa_nil))))
            (pss_one (ps_dput hu1 (pv 6) (pv 8) (pe_callB (call_minT rfl hu) (by rfl) T3.min (by decide +kernel) (pa_cons (pe_dget2 hu1 (pv 6) (pv 8) (pv 9) ⟨rfl, rfl, rfl, rfl⟩) (pa_cons (pv 9) pa_nil))) rfl))) pss_nil)))
        (pss_cons (ps_for PassesOwn.never rfl (pi_keysK (pv 6)) (pg_name (i := 8) scLL.nd rfl (Or.inl rfl))
          (pss_one (ps_dput hu1 (pv 4) (pv 8) (pe_dget hu1 (pv 6) (pv 8) (fun _ _ => rfl)) rfl)))
        (pss_one (ps_set (i := 5) scLL.nd rfl (Or.inl rfl) (pe_callB (call_sortedK rfl) (by rfl) T.sorted (by decide +kernel) (pa_cons (pv 6) pa_nil))))))))
      (pss_one (ps_ret (pe_dget2 hu1 (pv 4) (pv 2) pe_non ⟨rfl, rfl, rfl, rfl⟩)))))), ?_⟩
    have sm : ∀ n : Nat, n ≤ 1000 → n ≤ sizeLine := fun n h => Nat.le_of_lt (small1000 h)
    obtain ⟨t, zs, hq, htt, hps⟩ := id NV
    refine ⟨_, rfl, _, rfl, c, _, _, _, rfl, hcl, DVs.ints cl, .int one, by show 0 ≤ 60; decide, _, rfl, ?_⟩
    rw [show (if false then !((cl.map PyData.int).any fun d => PyData.eqv d (.int one)) else ((cl.map PyData.int).any fun d => PyData.eqv d (.int one))) = decide (one ∈ cl) from L2.any_ints one cl]
    by_cases hoc : one ∈ cl
    · refine iteP (decide_eq_true hoc) ?_
      refine q1 H (fun _ _ e => e) fun n l w => ?_
      cases n with
      | zero => exact w.2.2 hoc
      | succ n => obtain ⟨_, _, _, h, _⟩ := w; exact h hoc
    refine iteN (decide_eq_false hoc) ?_
    -- ways
    intro d hd
    refine ⟨_, rfl, _, rfl, sm 1 (by decide), fun t0 ht0 => ?_⟩
    have edt : d ≠ t0 := ne_of_none upd_same ht0
    refine ⟨by rw [upd_ne edt, upd_same], [(Sum.inl one, .ref t0)], rfl, (show 1 ≤ 15 by decide), ?_⟩
    -- row
    refine ⟨_, rfl, sm 1 (by decide), fun rw0 hrw0 => ?_⟩
    have hd1 : (upd (upd H d (.dK [])) t0 (.tup [.int one])) d = some (.dK []) := by rw [upd_ne edt, upd_same]
    have gA : Gr H (upd (upd H d (.dK [])) t0 (.tup [.int one])) := (Gr.new hd).trans (Gr.new ht0)
    have gB : Gr H (upd (upd (upd H d (.dK [])) t0 (.tup [.int one])) d (.dK (mergeK [] [(Sum.inl one, .ref t0)]))) := Gr.acc gA hd
    have gC := gB.trans (Gr.new (o := .lst [.int one]) hrw0)
    have hdr : d ≠ rw0 := ne_of_none upd_same hrw0
    have DW0 : DW K (upd (upd (upd (upd H d (.dK [])) t0 (.tup [.int one])) d (.dK (mergeK [] [(Sum.inl one, .ref t0)]))) rw0 (.lst [.int one])) (mergeK [] [(Sum.inl one, .ref t0)]) (fun v => if v = one then some [one] else none) := by
      have h0 : SqT K (upd (upd (upd (upd H d (.dK [])) t0 (.tup [.int one])) d (.dK (mergeK [] [(Sum.inl one, .ref t0)]))) rw0 (.lst [.int one])) t0 ([one].map V.int) := (SqT.upk SqT.new hd1).gr (Gr.new hrw0)
      exact DW.nil.put h0
    have hcnt : cntF many (fun v => if v = one then some [one] else none) + 1 ≤ 100 := by
      have h1 := filter_lt (xs := List.range many.toNat) (p := fun _ => true) (p' := fun j : Nat => (if (j : Int) = one then some [one] else (none : Option (List Int))).isNone) (fun _ _ _ => rfl)
      have h2 := h1.2 ⟨one.toNat, List.mem_range.mpr (by omega), rfl, by rw [if_pos (by omega)]; rfl⟩
      rw [List.filter_eq_self.mpr (fun _ _ => rfl), List.length_range] at h2
      show (List.filter (fun j : Nat => (if (j : Int) = one then some [one] else (none : Option (List Int))).isNone) (List.range many.toNat)).length + 1 ≤ 100
      omega
    refine ⟨fun m σ H' => ∃ (rw' : Addr) (row : List Int) (n : Nat) (kvs : List (Key × V)) (f : Int → Option (List Int)) (o6 o7 o8 o9 : Option V), σ = [some (.ref q), some (.int one), some (.int other), some (.ref c), some (.ref d), some (.ref rw'), o6, o7, o8, o9] ∧
        H' d = some (.dK kvs) ∧ DW K H' kvs f ∧ H' rw' = some (.lst (row.map V.int)) ∧ Gr H H' ∧ Lay0 ps cl one n row f ∧ kvs.length ≤ 1 + 1000 * n ∧ row.length ≤ 1000 ∧ m = cntF many f + (if row = [] then 0 else 1) ∧ n + m ≤ 100,
      ⟨_, rw0, [one], 0, _, _, none, none, none, none, rfl, by rw [upd_ne hdr, upd_same], DW0, upd_same, gC, Lay0.init hoc, (show 1 ≤ 1 + 1000 * 0 by decide), (show 1 ≤ 1000 by decide), rfl, by rw [if_neg (by simp)]; omega⟩, ?_⟩
    rintro m σ H' ⟨rw', row, n, kvs, f, o6, o7, o8, o9, rfl, hdk, dw, hrw, gH, L, hkl, hrl, rfl, hnm⟩
    refine ⟨_, rfl, sm 0 (by decide), fun e0 he0 => ⟨rw', e0, row, [], rfl, rfl, SqL.of (Gr.new he0 _ _ hrw), SqL.of upd_same, _, rfl, ?_⟩⟩
    have g0 : Gr H' (upd H' e0 (.lst [])) := Gr.new he0
    have hdk0 := g0 _ _ hdk
    by_cases hre : row = []
    · subst hre
      refine iteN (by simp) ?_
      refine ⟨_, rfl, d, rfl, .inl ⟨kvs, .inl hdk0⟩, _, rfl, _, DGet.k (k := Sum.inl other) hdk0, ?_⟩
      cases z : f other with
      | none =>
        rw [dw.none z]
        exact q1 _ (gH.trans g0) fun m l w => by obtain ⟨l', e⟩ := L.all m other l w; rw [z] at e; cases e
      | some l =>
        obtain ⟨r, e1, e2⟩ := dw.some z
        obtain ⟨m, _, le⟩ := L.a _ _ z
        rw [e1]
        exact q2 r _ m l (gH.trans g0) (e2.gr g0) le
    · refine iteP (by simpa using hre) ?_
      rw [if_neg hre] at hnm ⊢
      refine ⟨fun σ2 H2 => ∃ (rw2 : Addr) (row2 : List Int) (kvs2 : List (Key × V)) (f2 : Int → Option (List Int)) (p6 p7 p8 p9 : Option V), σ2 = [some (.ref q), some (.int one), some (.int other), some (.ref c), some (.ref d), some (.ref rw2), p6, p7, p8, p9] ∧
          H2 d = some (.dK kvs2) ∧ DW K H2 kvs2 f2 ∧ H2 rw2 = some (.lst (row2.map V.int)) ∧ Gr H H2 ∧ Lay0 ps cl one (n + 1) row2 f2 ∧ kvs2.length ≤ 1 + 1000 * (n + 1) ∧ row2.length ≤ 1000 ∧ cntF many f2 + (if row2 = [] then 0 else 1) ≤ cntF many f,
        fun σ2 H2 ⟨rw2, row2, kvs2, f2, p6, p7, p8, p9, e1, e2, e3, e4, e5, e6, e7, e8, e9⟩ => ⟨_, Nat.lt_succ_of_le e9, rw2, row2, n + 1, kvs2, f2, p6, p7, p8, p9, e1, e2, e3, e4, e5, e6, e7, e8, rfl, by omega⟩, ?_⟩
      -- later = {}
      intro lt hlt
      have hgA : Gr H (upd H' e0 (.lst [])) := gH.trans g0
      have hlt0 : H lt = none := by
        cases e : H lt with
        | none => rfl
        | some o => have := hgA _ _ e; rw [hlt] at this; cases this
      have g1 : Gr (upd H' e0 (.lst [])) (upd (upd H' e0 (.lst [])) lt (.dK [])) := Gr.new hlt
      have hzl : zs.length = ps.length := Paired.length hps
      have hrw0' := g0 _ _ hrw
      have dw0 := dw.mono (fun r xs h => SqT.gr (K := K) h g0)
      refine ⟨_, rfl, q, _, _, _, rfl, rfl, hq.gr (hgA.trans g1), rfl, t, rfl, ⟨_, htt.gr (hgA.trans g1)⟩, for_tup (K := K) (a := t) (xs := zs) (fun i σ H3 => ∃ (kg : List (Key × V)) (g : Int → Option (List Int)) (u7 u8 u9 : Option V), σ = [some (.ref q), some (.int one), some (.int other), some (.ref c), some (.ref d), some (.ref rw'), some (.ref lt), u7, u8, u9] ∧
          H3 lt = some (.dK kg) ∧ DW K H3 kg g ∧ kg.length ≤ i ∧ MidL cl row f g (ps.take i) ∧ Gr (upd H' e0 (.lst [])) H3)
        ⟨[], fun _ => none, _, _, _, rfl, upd_same, DW.nil, Nat.le_refl _, MidL.init, g1⟩ (fun i σ H3 _ ⟨_, _, _, _, _, _, _, _, _, _, g⟩ => htt.gr (hgA.trans g)) ?_ ?_⟩
      · rintro i z σ H3 hi ⟨kg, g, u7, u8, u9, rfl, hlk, dg, hgl, M, g3⟩
        obtain ⟨pq, x, y, rfl, hpq, hpi⟩ := pair_get (hps.gr (hgA.trans g3)) hi
        have hil := (List.getElem?_eq_some_iff.mp hpi).1
        have hxy : (x, y) ∈ ps := List.mem_of_getElem? hpi
        have htk : ps.take (i + 1) = ps.take i ++ [(x, y)] := by
          rw [List.take_succ_eq_append_getElem hil, (List.getElem?_eq_some_iff.mp hpi).2]
        have hrw3 := g3 _ _ hrw0'
        have hdk3 := g3 _ _ hdk0
        have dw3 := dw0.mono (fun r xs h => SqT.gr (K := K) h g3)
        have skip : (x ∉ row ∨ f y ≠ none ∨ y ∈ cl) → MidL cl row f g (ps.take (i + 1)) := fun h => by rw [htk]; exact M.skip h
        refine ⟨pq, _, rfl, hpq, rfl, _, _, rfl, _, _, rfl, rfl, ?_⟩
        refine ⟨_, rfl, _, rfl, rw', _, _, _, rfl, .inl (SqL.of hrw3), DVs.ints row, .int x, by show 0 ≤ 60; decide, _, rfl, ?_⟩
        rw [show (if false then !((row.map PyData.int).any fun d => PyData.eqv d (.int x)) else ((row.map PyData.int).any fun d => PyData.eqv d (.int x))) = decide (x ∈ row) from L2.any_ints x row]
        by_cases hxr : x ∈ row
        case neg =>
          refine iteN (decide_eq_false hxr) ?_
          exact ⟨kg, g, _, _, _, rfl, hlk, dg, by omega, skip (.inl hxr), g3⟩
        refine iteP (decide_eq_true hxr) ?_
        obtain ⟨fu, efu, lefu⟩ := L.at hxr
        have lenfu : fu.length = n + 1 := W_len lefu.1
        refine ⟨_, rfl, _, rfl, d, _, rfl, DGet.k (k := Sum.inl y) hdk3, _, rfl, ?_⟩
        cases zf : f y with
        | some l =>
          obtain ⟨r, e1, _⟩ := dw3.some zf
          rw [e1]
          refine iteN rfl ?_
          exact ⟨kg, g, _, _, _, rfl, hlk, dg, by omega, skip (.inr (.inl (by rw [zf]; intro z; cases z))), g3⟩
        | none =>
          rw [dw3.none zf]
          refine iteP rfl ?_
          refine ⟨_, rfl, _, rfl, c, _, _, _, rfl, sq_gr hcl (hgA.trans g3), DVs.ints cl, .int y, by show 0 ≤ 60; decide, _, rfl, ?_⟩
          rw [show (if true then !((cl.map PyData.int).any fun d => PyData.eqv d (.int y)) else ((cl.map PyData.int).any fun d => PyData.eqv d (.int y))) = !decide (y ∈ cl) from congrArg Bool.not (L2.any_ints y cl)]
          by_cases hyc : y ∈ cl
          · refine iteN (by rw [decide_eq_true hyc]; rfl) ?_
            exact ⟨kg, g, _, _, _, rfl, hlk, dg, by omega, skip (.inr (.inr hyc)), g3⟩
          · refine iteP (by rw [decide_eq_false hyc]; rfl) ?_
            obtain ⟨r, er, hr3⟩ := dw3.some efu
            have dget : DGet H3 d (.int x) (some (.ref r)) := by have z := DGet.k (k := Sum.inl x) hdk3; rw [er] at z; exact z
            refine ⟨_, rfl, _, rfl, d, _, rfl, dget, _, rfl, sm 1 (by decide), fun t1 ht1 => ⟨r, t1, fu.map V.int, [.int y], rfl, rfl, hr3.gr (Gr.new ht1), SqT.new, sm _ (by rw [List.length_map, lenfu]; show n + 1 + 1 ≤ 1000; omega), fun wy H5 g5 hwy => ?_⟩⟩
            have g35 : Gr H3 H5 := (Gr.new ht1).trans g5
            have hlk5 := g35 _ _ hlk
            have hwy' : SqT K H5 wy ((fu ++ [y]).map V.int) := by rw [List.map_append]; exact hwy
            have dg5 := dg.mono (fun r xs h => SqT.gr (K := K) h g35)
            obtain ⟨r0, l0, hr0, hs0, hl0, hor, huq⟩ : ∃ (r0 : Addr) (l0 : List Int), (valV kg (Sum.inl y : Key)).getD (.ref wy) = .ref r0 ∧ SqT K H5 r0 (l0.map V.int) ∧ (fu ++ [y]).length = l0.length ∧ (l0 = fu ++ [y] ∨ g y = some l0) ∧ ∀ l1, g y = some l1 → l1 = l0 := by
              cases zg : g y with
              | none => exact ⟨wy, fu ++ [y], by rw [dg5.none zg]; rfl, hwy', rfl, .inl rfl, fun l1 e => by cases e⟩
              | some l0 =>
                obtain ⟨r0, e1, e2⟩ := dg5.some zg
                refine ⟨r0, l0, by rw [e1]; rfl, e2, ?_, .inr rfl, fun l1 e => by cases e; rfl⟩
                obtain ⟨_, _, u', fu', _, hu', ef', rfl⟩ := M.s y l0 zg
                obtain ⟨fu2, e3, le3⟩ := L.at hu'
                rw [ef'] at e3; cases e3
                rw [List.length_append, List.length_append, lenfu, W_len le3.1]
            refine ⟨_, rfl, lt, rfl, .inl ⟨kg, .inl hlk5⟩, _, rfl, _, rfl, _, DGet.k (k := Sum.inl y) hlk5, _, rfl, r0, wy, l0, fu ++ [y], by rw [hr0], hs0, hwy', ?_⟩
            have fin : ∀ (rr : Addr) (l : List Int), SqT K H5 rr (l.map V.int) → ((l = fu ++ [y] ∨ g y = some l) ∧ lle l (fu ++ [y]) ∧ ∀ l0, g y = some l0 → lle l l0) →
                ∃ (kg' : List (Key × V)) (g' : Int → Option (List Int)) (u7 u8 u9 : Option V), [some (V.ref q), some (.int one), some (.int other), some (.ref c), some (.ref d), some (.ref rw'), some (.ref lt), some (.int x), some (.int y), some (.ref wy)] = [some (.ref q), some (.int one), some (.int other), some (.ref c), some (.ref d), some (.ref rw'), some (.ref lt), u7, u8, u9] ∧
                (upd H5 lt (.dK (putK kg (Sum.inl y : Key) (.ref rr)))) lt = some (.dK kg') ∧ DW K (upd H5 lt (.dK (putK kg (Sum.inl y : Key) (.ref rr)))) kg' g' ∧ kg'.length ≤ i + 1 ∧ MidL cl row f g' (ps.take (i + 1)) ∧ Gr (upd H' e0 (.lst [])) (upd H5 lt (.dK (putK kg (Sum.inl y : Key) (.ref rr)))) := fun rr l hs hh =>
              ⟨_, _, _, _, _, rfl, upd_same, (dg5.put hs).mono (fun r xs h => SqT.upk h hlk5), Nat.le_trans (length_putK _ _ _) (by omega), by rw [htk]; exact M.put hxr zf hyc efu hh (fun _ => rfl), Gr.acc (g3.trans g35) hlt⟩
            cases hlx : HT.lexLt (fu ++ [y]) l0 with
            | true =>
              rw [if_pos rfl]
              exact ⟨_, rfl, _, rfl, lt, _, rfl, DPut.k (k := Sum.inl y) hlk5 (small1000 (by omega)), fin wy _ hwy' ⟨.inl rfl, lle_refl _, fun l1 e => by rw [huq l1 e]; exact (lle_lex hl0).1 hlx⟩⟩
            | false =>
              rw [if_neg (by decide)]
              exact ⟨_, rfl, _, rfl, lt, _, rfl, DPut.k (k := Sum.inl y) hlk5 (small1000 (by omega)), fin r0 _ hs0 ⟨hor, (lle_lex hl0).2 hlx, fun l1 e => by rw [huq l1 e]; exact lle_refl _⟩⟩
      · rintro σ H3 ⟨kg, g, u7, u8, u9, rfl, hlk, dg, hgl, M, g3⟩
        rw [hzl, List.take_length] at M
        rw [hzl] at hgl
        obtain ⟨ks, hks⟩ := dg.1
        have hkl2 : ks.length = kg.length := by have := congrArg List.length hks; simpa using this.symm
        have hdk3 := g3 _ _ hdk0
        have dw3 := dw0.mono (fun r xs h => SqT.gr (K := K) h g3)
        have hdl : d ≠ lt := ne_of_none hdk0 hlt
        refine ⟨_, rfl, lt, kg, rfl, hlk, fun o => for_keysK (a := lt) (o := o) (kvs := kg) (fun i σ H6 => ∃ (kw : List (Key × V)) (fw : Int → Option (List Int)) (v8 : Option V), σ = [some (.ref q), some (.int one), some (.int other), some (.ref c), some (.ref d), some (.ref rw'), some (.ref lt), u7, v8, u9] ∧
            H6 lt = some (.frz o (.dK kg)) ∧ H6 d = some (.dK kw) ∧ DW K H6 kw fw ∧ DW K H6 kg g ∧ (∀ v, fw v = match f v with | some l => some l | none => if v ∈ ks.take i then g v else none) ∧ kw.length ≤ kvs.length + i ∧ Gr H H6)
          ⟨kvs, f, _, rfl, upd_same, by rw [upd_ne hdl]; exact hdk3, dw3.mono (fun r xs h => SqT.upk h hlk), dg.mono (fun r xs h => SqT.upk h hlk), fun v => ?_, Nat.le_refl _, Gr.acc (hgA.trans g3) hlt0⟩ (fun i σ H6 _ ⟨_, _, _, _, h, _⟩ => h) ?_ ?_⟩
        · rw [List.take_zero]
          cases f v with
          | some l => rfl
          | none => rfl
        · rintro i k σ H6 hk ⟨kw, fw, v8, rfl, hlk6, hdk6, dw6, dg6, hfw, hwl, g6⟩
          rw [hks, List.getElem?_map] at hk
          cases ev : ks[i]? with
          | none => rw [ev] at hk; cases hk
          | some v =>
            rw [ev] at hk
            cases hk
            have hil := (List.getElem?_eq_some_iff.mp ev).1
            obtain ⟨l, egv⟩ := (dg6.mem hks v).mp (List.mem_of_getElem? ev)
            obtain ⟨r, er, hr6⟩ := dg6.some egv
            have hfv := (M.s v l egv).1
            have dget : DGet H6 lt (.int v) (some (.ref r)) := .inl ⟨kg, Sum.inl v, .inr ⟨o, hlk6⟩, rfl, er.symm⟩
            refine ⟨_, rfl, _, rfl, lt, _, rfl, dget, _, rfl, _, rfl, d, _, rfl, DPut.k (k := Sum.inl v) hdk6 ?_, ?_⟩
            · rw [sizeLine_eq]; omega
            refine ⟨_, _, _, rfl, by rw [upd_ne (Ne.symm hdl)]; exact hlk6, upd_same, (dw6.put hr6).mono (fun r xs h => SqT.upk h hdk6), dg6.mono (fun r xs h => SqT.upk h hdk6), fun x => ?_, Nat.le_trans (length_putK _ _ _) (by omega), Gr.acc g6 hd⟩
            have htk : ks.take (i + 1) = ks.take i ++ [v] := by rw [List.take_succ_eq_append_getElem hil, (List.getElem?_eq_some_iff.mp ev).2]
            show (if x = v then some l else fw x) = _
            by_cases hx : x = v
            · subst hx
              rw [if_pos rfl, hfv, htk]
              show some l = if x ∈ ks.take i ++ [x] then g x else none
              rw [if_pos (by simp), egv]
            · rw [if_neg hx, hfw x, htk]
              have : (x ∈ ks.take i ++ [v]) ↔ x ∈ ks.take i := by simp [hx]
              cases f x with
              | some l => rfl
              | none =>
                show (if x ∈ ks.take i then g x else none) = if x ∈ ks.take i ++ [v] then g x else none
                by_cases h : x ∈ ks.take i
                · rw [if_pos h, if_pos (this.mpr h)]
                · rw [if_neg h, if_neg (fun z => h (this.mp z))]
        · rintro σ H6 ⟨kw, fw, v8, rfl, hlk6, hdk6, dw6, dg6, hfw, hwl, g6⟩
          rw [← hkl2, List.take_length] at hfw
          have hf2 : ∀ v, fw v = match f v with | some l => some l | none => g v := fun v => by
            rw [hfw v]
            cases f v with
            | some l => rfl
            | none =>
              show (if v ∈ ks then g v else none) = g v
              by_cases h : v ∈ ks
              · rw [if_pos h]
              · rw [if_neg h]
                cases e : g v with
                | none => rfl
                | some l => exact absurd ((dg6.mem hks v).mpr ⟨l, e⟩) h
          refine ⟨_, rfl, lt, kg, ks, rfl, .inr ⟨o, hlk6⟩, hks, fun ms qq pm hqq => ?_⟩
          have hms : ∀ v, v ∈ ms ↔ ∃ l, g v = some l := fun v => by rw [pm.mem_iff]; exact dg6.mem hks v
          refine ⟨qq, ms, kw, fw, _, _, _, _, rfl, Gr.new hqq _ _ hdk6, dw6.mono (fun r xs h => SqT.gr (K := K) h (Gr.new hqq)), upd_same, g6.trans (Gr.new hqq), L.next M hms hf2, by omega, by rw [pm.length_eq]; omega, ?_⟩
          have fl := filter_lt (xs := List.range many.toNat) (p := fun j : Nat => (f (j : Int)).isNone) (p' := fun j : Nat => (fw (j : Int)).isNone) (fun j _ h => by
            rw [hf2] at h
            cases e : f (j : Int) with
            | none => rfl
            | some l => rw [e] at h; exact h)
          by_cases hme : ms = []
          · rw [if_pos hme]; exact fl.1
          · rw [if_neg hme]
            refine fl.2 ?_
            obtain ⟨v, hv⟩ := List.exists_mem_of_ne_nil ms hme
            obtain ⟨l, egv⟩ := (hms v).mp hv
            obtain ⟨hfv, _, u, _, huv, _⟩ := M.s v l egv
            have hvr := (hrg _ huv).2
            simp only at hvr
            have ev : ((v.toNat : Nat) : Int) = v := by omega
            refine ⟨v.toNat, List.mem_range.mpr (by omega), ?_, ?_⟩
            · show (f ((v.toNat : Nat) : Int)).isNone = true
              rw [ev, hfv]; rfl
            · show (fw ((v.toNat : Nat) : Int)).isNone = false
              rw [ev, hf2, hfv]
              show (g v).isNone = false
              rw [egv]; rfl
end
end My03

set_option autoImplicit false
set_option linter.all false
set_option Elab.async false
set_option maxRecDepth 100000
set_option maxHeartbeats 8000000
namespace My03
open PySem L2



def LaneKey (many : Int) (k : List Key) : Prop := ∃ x y : Int, k = [Sum.inl x, Sum.inl y] ∧ 0 ≤ x ∧ x < many ∧ 0 ≤ y ∧ y < many
structure S1 (H₀ H : Hp) (p : Addr) (k : Nat) (d : Addr) (many : Int) (n : Nat) : Prop where
  s0 : S0 H₀ H p k
  dp : d ≠ p
  dn : H₀ d = none
  dict : ∃ kvs : List (List Key × V), H d = some (.dT kvs) ∧ kvs.length ≤ n ∧ ∀ x ∈ kvs.map (·.1), LaneKey many x
theorem S1.new {H₀ H : Hp} {p a d : Addr} {k n : Nat} {many : Int} {o : HO} (s : S1 H₀ H p k d many n) (ha : H a = none) : S1 H₀ (upd H a o) p k d many n := by
  obtain ⟨kvs, e, r⟩ := s.dict
  exact ⟨s.s0.new ha, s.dp, s.dn, kvs, by rw [upd_ne (ne_of_none e ha)]; exact e, r⟩
theorem S1.take {H₀ H H' : Hp} {p d : Addr} {k k' n : Nat} {many : Int} (s : S1 H₀ H p k d many n) (b : Bag H' p k') (x : SameX p H H') : S1 H₀ H' p k' d many n := by
  obtain ⟨kvs, e, r⟩ := s.dict
  exact ⟨s.s0.take b x, s.dp, s.dn, kvs, x _ _ e s.dp, r⟩
theorem S1.mono {H₀ H : Hp} {p d : Addr} {k k' n n' : Nat} {many : Int} (s : S1 H₀ H p k d many n) (h : k ≤ k') (h2 : n ≤ n') : S1 H₀ H p k' d many n' := by
  obtain ⟨kvs, e, r, q⟩ := s.dict
  exact ⟨s.s0.mono h, s.dp, s.dn, kvs, e, Nat.le_trans r h2, q⟩
theorem put_keys {kvs : List (List Key × V)} {k : List Key} {v : V} {Pr : List Key → Prop} (h : ∀ x ∈ kvs.map (·.1), Pr x) (hk : Pr k) : ∀ x ∈ (putK kvs k v).map (·.1), Pr x := by
  intro x hx
  obtain ⟨q, hq, rfl⟩ := List.mem_map.mp hx
  unfold putK at hq
  split at hq
  · obtain ⟨z, hz, e⟩ := List.mem_map.mp hq
    by_cases he : z.1 = k
    · rw [if_pos he] at e; subst e; exact h _ (List.mem_map.mpr ⟨z, hz, rfl⟩)
    · rw [if_neg he] at e; subst e; exact h _ (List.mem_map.mpr ⟨z, hz, rfl⟩)
  · rcases List.mem_append.mp hq with hq | hq
    · exact h _ (List.mem_map.mpr ⟨q, hq, rfl⟩)
    · rw [List.mem_singleton.mp hq]; exact hk

theorem S1.put {H₀ H : Hp} {p d : Addr} {k n : Nat} {many : Int} {kvs : List (List Key × V)} {ks : List Key} {v : V} (s : S1 H₀ H p k d many n) (e : H d = some (.dT kvs)) (hn : kvs.length ≤ n) (hq : ∀ x ∈ kvs.map (·.1), LaneKey many x) (hk : LaneKey many ks) :
    S1 H₀ (upd H d (.dT (putK kvs ks v))) p k d many (n + 1) := by
  refine ⟨⟨fun b u eb hb => ?_, ?_⟩, s.dp, s.dn, _, upd_same, Nat.le_trans (length_putK _ _ _) (by omega), put_keys hq hk⟩
  · rw [upd_ne (ne_of_none eb s.dn)]
    exact s.s0.sx b u eb hb
  · obtain ⟨a, b, c, eb, r⟩ := s.s0.bag
    exact ⟨a, b, c, by rw [upd_ne (Ne.symm s.dp)]; exact eb, r⟩

def LaneAt (H : Hp) (many : Int) (v : V) : Prop := ∃ (q : Addr) (x y : Int), v = .ref q ∧ H q = some (.tup [.int x, .int y]) ∧ 0 ≤ x ∧ x < many ∧ 0 ≤ y ∧ y < many

def NetAt (H : Hp) (q : Addr) (many : Int) : Prop := ∃ (t : Addr) (zs : List V), H q = some (.tup [.int many, .ref t]) ∧ H t = some (.tup zs) ∧ 1 ≤ many ∧ many ≤ 24 ∧ zs.length ≤ 1000 ∧ ∀ z ∈ zs, LaneAt H many z
theorem LaneAt.keep {H H' : Hp} {many : Int} {v : V} (h : LaneAt H many v) (k : ∀ q xs, H q = some (.tup xs) → H' q = some (.tup xs)) : LaneAt H' many v := by
  obtain ⟨q, x, y, e, hq, r⟩ := h
  exact ⟨q, x, y, e, k _ _ hq, r⟩
theorem tk {H : Hp} {a : Addr} {o : HO} (ha : H a = none) : ∀ q xs, H q = some (.tup xs) → (upd H a o) q = some (.tup xs) := fun q xs e => by rw [upd_ne (ne_of_none e ha)]; exact e
theorem tl {H : Hp} {a : Addr} {ys : List V} {o : HO} (ha : H a = some (.lst ys)) : ∀ q xs, H q = some (.tup xs) → (upd H a o) q = some (.tup xs) := fun q xs e => by rw [upd_ne (ne_of e ha (by intro z; cases z))]; exact e
def spNet : Sp := fun vs H Q _ => ∃ (p : Addr) (k : Nat) (most : Int), vs = [.ref p, .int most] ∧ Bag H p k ∧ k ≤ 1000 ∧ 1 ≤ most ∧ most ≤ 24 ∧
  ∀ (r q : Addr) (H' : Hp) (many gate : Int), H' r = some (.tup [.ref q, .int gate]) → NetAt H' q many → Bag H' p (k + 2000) → SameX p H H' → Q (.ref r) H'
section
variable {P : Program} {w : World} {K : PySem.W.Frag} {mg : Str → Option Value} {base : Heap}
theorem ndOON : ((["one", "other"] : List Str) ++ (["names"] : List Str)).Nodup := by decide +kernel
theorem scNet : FnScope ["bag", "most", "many", "way", "more", "lanes", "k", "turn", "one", "other", "names", "gate"] ["bag", "most"] (defScope sNet) := ⟨rfl, rfl, rfl, by decide +kernel, rfl, by decide +kernel, by decide +kernel⟩
theorem ok_net {f fT fS : Addr} {fd fdT fdS : FuncData} (F : Fun K "_law_net" "_law_net" sNet f fd) (T : Txt mg) (FT : Fun K "_law_take" "_law_take" sTake fT fdT) (bT : Binds K fdT ["bag", "many"] []) (mT : mg "_law_take" = some (.ref fT))
    (FS : Fun K "_law_shuffled" "_law_shuffled" sShuf fS fdS) (bS : Binds K fdS ["bag", "some"] []) (mS : mg "_law_shuffled" = some (.ref fS)) : FnOk P w K mg base CX0 3 f fd ["bag", "most"] spNet := by
  have GT : FnOk P w K mg base CX0 1 fT fdT ["bag", "many"] spTake := ok_take FT
  have GS : FnOk P w K mg base CX0 2 fS fdS ["bag", "some"] (spShuf K) := ok_shuf FS T FT bT mT
  refine F.ok scNet (fun vs H Q E h => ?_) (fun cdv A outer s H vs Q E hr h => ?_)
  · obtain ⟨p, k, most, rfl, _⟩ := h
    rfl
  · obtain ⟨p, k, most, rfl, hb, hk, hm1, hm2, q⟩ := h
    have hr1 : Room 1 _ := hr.mono (by decide)
    have hu := hu_of hr
    refine ⟨_, pss_cons (ps_set (i := 2) scNet.nd rfl (Or.inl rfl) (pe_ix ix_list (pe_lst (pa_cons (pv 1) (pa_cons (pe_op op_add pe_int (pe_call GT hr1 rfl mT FT.kp bT .nil pass0 (pa_cons (pv 0) (pa_cons (pv 1) pa_nil))))
          (pa_cons (pe_op op_add pe_int (pe_call GT hr1 rfl mT FT.kp bT .nil pass0 (pa_cons (pv 0) (pa_cons (pe_callB (call_min2 rfl) (by rfl) T.min (by decide +kernel) (pa_cons pe_int (pa_cons (pv 1) pa_nil))) pa_nil)))) pa_nil))))
          (pe_call GT hr1 rfl mT FT.kp bT .nil pass0 (pa_cons (pv 0) (pa_cons pe_int pa_nil))) (fun _ _ => rfl)))
      (pss_cons (ps_set (i := 3) scNet.nd rfl (Or.inl rfl) (pe_call GT hr1 rfl mT FT.kp bT .nil pass0 (pa_cons (pv 0) (pa_cons pe_int pa_nil))))
      (pss_cons (ps_set (i := 4) scNet.nd rfl (Or.inl rfl) (pe_ix ix_list (pe_lst (pa_cons pe_int (pa_cons pe_int (pa_cons (pe_call GT hr1 rfl mT FT.kp bT .nil pass0 (pa_cons (pv 0) (pa_cons (pe_op op_add (pv 2) pe_int) pa_nil)))
          (pa_cons (pe_op op_add (pv 2) (pe_call GT hr1 rfl mT FT.kp bT .nil pass0 (pa_cons (pv 0) (pa_cons (pe_op op_mul pe_int (pv 2)) pa_nil)))) (pa_cons pe_int pa_nil))))))
          (pe_call GT hr1 rfl mT FT.kp bT .nil pass0 (pa_cons (pv 0) (pa_cons pe_int pa_nil))) (fun _ _ => rfl)))
      (pss_cons (ps_set (i := 5) scNet.nd rfl (Or.inl rfl) pe_dnewT)
      (pss_cons (ps_for PassesOwn.never rfl (pi_range2 rfl T.range (pa_cons pe_int (pa_cons (pv 2) pa_nil))) (pg_name (i := 6) scNet.nd rfl (Or.inl rfl))
        (pss_one (ps_if (pt_cmpR op_lt (pv 3) pe_int (nomark _))
          (pss_one (ps_dput hu (pv 5) (pe_tup (pa_cons (pe_ix ix_list (pe_lst (pa_cons (pe_call GT hr1 rfl mT FT.kp bT .nil pass0 (pa_cons (pv 0) (pa_cons (pv 6) pa_nil)))
              (pa_cons (pe_op op_sub (pe_op op_sub (pv 6) pe_int) (pe_call GT hr1 rfl mT FT.kp bT .nil pass0 (pa_cons (pv 0) (pa_cons (pe_callB (call_min2 rfl) (by rfl) T.min (by decide +kernel) (pa_cons (pv 6) (pa_cons pe_int pa_nil))) pa_nil)))) (pa_cons pe_int pa_nil)))) (pv 3) (fun _ _ => rfl))
            (pa_cons (pv 6) pa_nil))) pe_bl rfl)) pss_nil)))
      (pss_cons (ps_for PassesOwn.never rfl (pi_range1 rfl T.range (pa_cons (pv 4) pa_nil)) (pg_name (i := 7) scNet.nd rfl (Or.inl rfl))
        (pss_cons (ps_set (i := 8) scNet.nd rfl (Or.inl rfl) (pe_call GT hr1 rfl mT FT.kp bT .nil pass0 (pa_cons (pv 0) (pa_cons (pv 2) pa_nil))))
        (pss_cons (ps_set (i := 9) scNet.nd rfl (Or.inl rfl) (pe_ix ix_list (pe_lst (pa_cons (pe_call GT hr1 rfl mT FT.kp bT .nil pass0 (pa_cons (pv 0) (pa_cons (pv 2) pa_nil)))
            (pa_cons (pe_op op_mod (pe_op op_add (pe_op op_add (pv 8) pe_int) (pe_call GT hr1 rfl mT FT.kp bT .nil pass0 (pa_cons (pv 0) (pa_cons pe_int pa_nil)))) (pv 2)) pa_nil)))
            (pe_call GT hr1 rfl mT FT.kp bT .nil pass0 (pa_cons (pv 0) (pa_cons pe_int pa_nil))) (fun _ _ => rfl)))
        (pss_one (ps_if (pw_and (pt_cmpR op_ne (pv 8) (pv 9) (nomark _)) (pw_and1 (pt_cmpR op_lt (pe_callB call_lenT (by rfl) T.len PySem.boot_len (pa_cons (pv 5) pa_nil)) pe_int (nomark _)))).pt
          (pss_one (ps_dput hu (pv 5) (pe_tup (pa_cons (pv 8) (pa_cons (pv 9) pa_nil))) pe_bl rfl)) pss_nil)))))
      (pss_cons (ps_set (i := 10) scNet.nd rfl (Or.inr rfl) (pe_call GS hr rfl mS FS.kp bS .nil pass0 (pa_cons (pv 0) (pa_cons (pe_callTy (call_list_rng rfl) (by rfl) T.list (by decide +kernel) (pa_cons (pe_callTy call_rng (by rfl) T.range (by decide +kernel) (pa_cons (pv 2) pa_nil)) pa_nil)) pa_nil))))
      (pss_cons (ps_set (i := 11) scNet.nd rfl (Or.inl rfl) (pe_ix ix_list (pe_lst (pa_cons (pe_ix ix_list (pv 10) pe_int (fun _ _ => rfl)) (pa_cons (pe_ix ix_list (pv 10) pe_int (fun _ _ => rfl)) (pa_cons (pe_call GT hr1 rfl mT FT.kp bT .nil pass0 (pa_cons (pv 0) (pa_cons (pv 2) pa_nil))) pa_nil))))
          (pe_call GT hr1 rfl mT FT.kp bT .nil pass0 (pa_cons (pv 0) (pa_cons pe_int pa_nil))) (fun _ _ => rfl)))
      (pss_one (ps_ret (pe_tup (pa_cons (pe_tup (pa_cons (pv 2) (pa_cons (pe_callTy call_tuple_of (by rfl) T.tuple (by decide +kernel) (pa_cons (pe_callB call_sorted (by rfl) T.sorted (by decide +kernel) (pa_cons
          (pe_comp (own := ["one", "other"]) (caps := ["names"]) (js := [10]) ⟨rfl, rfl, by decide +kernel, by decide +kernel, by decide +kernel, rfl, mem1 rfl, rfl, mem1 (Or.inl rfl), mem1 (Or.inl rfl), by decide +kernel, by decide +kernel⟩ rfl (pi_keys (pv 5))
            (fun C s H fp => pg_tupK (K := K) (n := 2) rfl rfl (pgs_cons (pg_name (i := 0) ndOON rfl (Or.inl rfl) (Or.inr rfl)) (pgs_cons (pg_name (i := 1) ndOON rfl (Or.inl rfl) (Or.inr rfl)) pgs_nil)))
            (fun C s H fp => pts_nil) (fun C s H fp => pe_tup (pa_cons (pe_ix (ix_listK (K := K) rfl) (pv 2) (pv 0) (fun _ _ => rfl)) (pa_cons (pe_ix (ix_listK (K := K) rfl) (pv 2) (pv 1) (fun _ _ => rfl)) pa_nil)))) pa_nil)) pa_nil)) pa_nil))) (pa_cons (pv 11) pa_nil)))))))))))), ?_⟩
    have S : S0 H H p k := ⟨SameX.refl _ _, hb⟩
    -- many
    refine ⟨_, rfl, _, rfl, _, rfl, p, k, _, rfl, S.bag, by omega, by omega, by omega, fun r1 H1 a1 b1 g1 s1 => ?_⟩
    replace S := S.take g1 s1
    refine ⟨_, _, rfl, rfl, _, rfl, _, rfl, _, _, rfl, p, k + 1, _, rfl, S.bag, by omega, (by split <;> omega), (by split <;> omega), fun r2 H2 a2 b2 g2 s2 => ?_⟩
    replace S := S.take g2 s2
    refine ⟨_, _, rfl, rfl, (by show 3 ≤ sizeLine; decide), fun l1 hl1 => ?_⟩
    refine ⟨_, rfl, p, k + 2, _, rfl, (S.new hl1).bag, by omega, by omega, by omega, fun r3 H3 a3 b3 g3 s3 => ?_⟩
    have nl1 : l1 ≠ p := fun z => by obtain ⟨o, e⟩ := S.bag.at; rw [← z, hl1] at e; cases e
    obtain ⟨v, hv, many, rfl, mn1, mn2⟩ := pickL (xs := [.int most, .int (1 + r1), .int (1 + r2)]) a3 (by simpa using b3) (Pr := fun v => ∃ n : Int, v = .int n ∧ 1 ≤ n ∧ n ≤ 24)
      (all3 ⟨_, rfl, hm1, hm2⟩ ⟨_, rfl, by omega, by omega⟩ ⟨_, rfl, by omega, by split at b2 <;> omega⟩)
    refine ⟨l1, _, _, _, rfl, rfl, SqL.of (s3 _ _ upd_same nl1), hv, ?_⟩
    replace S := (S.new (o := .lst [.int most, .int (1 + r1), .int (1 + r2)]) hl1).take g3 s3
    -- way
    refine ⟨_, rfl, p, k + 3, _, rfl, S.bag, by omega, by omega, by omega, fun way H4 a4 b4 g4 s4 => ?_⟩
    replace S := S.take g4 s4
    -- more
    refine ⟨_, rfl, _, rfl, _, _, rfl, rfl, p, k + 4, _, rfl, S.bag, by omega, by omega, by omega, fun r5 H5 a5 b5 g5 s5 => ?_⟩
    replace S := S.take g5 s5
    refine ⟨_, rfl, _, rfl, _, rfl, _, _, rfl, rfl, .inl ⟨by decide, by decide⟩, p, k + 5, _, rfl, S.bag, by omega, by omega, by omega, fun r6 H6 a6 b6 g6 s6 => ?_⟩
    replace S := S.take g6 s6
    refine ⟨_, _, rfl, rfl, (by show 5 ≤ sizeLine; decide), fun l2 hl2 => ?_⟩
    refine ⟨_, rfl, p, k + 6, _, rfl, (S.new hl2).bag, by omega, by omega, by omega, fun r7 H7 a7 b7 g7 s7 => ?_⟩
    have nl2 : l2 ≠ p := fun z => by obtain ⟨o, e⟩ := S.bag.at; rw [← z, hl2] at e; cases e
    obtain ⟨v, hv2, more, rfl, mo1, mo2⟩ := pickL (xs := [.int 0, .int 1, .int r5, .int (many + r6), .int 120]) a7 (by simpa using b7) (Pr := fun v => ∃ n : Int, v = .int n ∧ 0 ≤ n ∧ n ≤ 200)
      (all5 ⟨_, rfl, by omega, by omega⟩ ⟨_, rfl, by omega, by omega⟩ ⟨_, rfl, by omega, by omega⟩ ⟨_, rfl, by omega, by omega⟩ ⟨_, rfl, by omega, by omega⟩)
    refine ⟨l2, _, _, _, rfl, rfl, SqL.of (s7 _ _ upd_same nl2), hv2, ?_⟩
    replace S := (S.new (o := .lst [.int 0, .int 1, .int r5, .int (many + r6), .int 120]) hl2).take g7 s7
    -- lanes = {}
    intro d hd
    have ndp : d ≠ p := fun z => by obtain ⟨o, e⟩ := S.bag.at; rw [← z, hd] at e; cases e
    have nd0 : H d = none := by
      cases e : H d with
      | none => rfl
      | some o => have := S.sx d o e ndp; rw [hd] at this; cases this
    have S1' : S1 H (upd H7 d (.dT [])) p (k + 7) d many 0 := ⟨S.new hd, ndp, nd0, [], upd_same, Nat.le_refl _, fun x hx => nomatch hx⟩
    -- for k in range(1, many)
    refine ⟨_, rfl, _, _, rfl, ⟨by omega, by omega, by omega, by omega⟩, for_range (lo := 1) (n := (many - 1).toNat) (fun i σ H' => ∃ kk : Option V, σ = [some (.ref p), some (.int most), some (.int many), some (.int way), some (.int more), some (.ref d), kk, none, none, none, none, none] ∧ S1 H H' p (k + 7 + 2 * i) d many i)
      ⟨none, rfl, S1'⟩ ?_ ?_⟩
    · rintro i σ H' hi ⟨kk, rfl, S⟩
      refine ⟨_, rfl, _, _, rfl, rfl, _, rfl, ?_⟩
      refine ite2 (fun hw => ?_) (fun hw => ?_)
      · have hw' : way < 3 := of_decide_eq_true hw
        refine ⟨_, rfl, _, rfl, _, rfl, p, k + 7 + 2 * i, _, rfl, S.s0.bag, by omega, by omega, by omega, fun x1 J1 c1 d1 e1 f1 => ?_⟩
        replace S := S.take e1 f1
        refine ⟨_, rfl, _, _, rfl, rfl, _, rfl, _, rfl, _, _, rfl, p, k + 7 + 2 * i + 1, _, rfl, S.s0.bag, by omega, (by split <;> omega), (by split <;> omega), fun x2 J2 c2 d2 e2 f2 => ?_⟩
        replace S := S.take e2 f2
        refine ⟨_, _, rfl, rfl, (by show 3 ≤ sizeLine; decide), fun l hl => ?_⟩
        obtain ⟨v, hv3, x, rfl, x0, x9⟩ := pickL (xs := [.int x1, .int (1 + (i : Int) - 1 - x2), .int 0]) a4 (by simpa using hw') (Pr := fun v => ∃ n : Int, v = .int n ∧ 0 ≤ n ∧ n < many)
          (all3 ⟨_, rfl, c1, by omega⟩ ⟨_, rfl, by split at d2 <;> omega, by omega⟩ ⟨_, rfl, by omega, by omega⟩)
        refine ⟨_, rfl, l, _, _, _, rfl, rfl, SqL.of upd_same, hv3, _, rfl, (by show 2 ≤ sizeLine; decide), fun t ht => ?_⟩
        replace S := (S.new (o := .lst [.int x1, .int (1 + (i : Int) - 1 - x2), .int 0]) hl).new (o := .tup [.int x, .int (1 + (i : Int))]) ht
        obtain ⟨kvs, ek, hn, hq⟩ := S.dict
        refine ⟨d, _, rfl, DPut.t (k := [Sum.inl x, Sum.inl (1 + (i : Int))]) ek upd_same (small1000 (by omega)), _, rfl, ?_⟩
        exact (S.put ek hn hq ⟨x, _, rfl, x0, x9, by omega, by omega⟩).mono (by omega) (by omega)
      · exact ⟨_, rfl, S.mono (by omega) (by omega)⟩
    · rintro σ H8 ⟨kk, rfl, S⟩
      -- for turn in range(more)
      refine ⟨_, rfl, _, rfl, by omega, by omega, for_range (lo := 0) (n := more.toNat) (fun i σ H' => ∃ tt oo ot : Option V, σ = [some (.ref p), some (.int most), some (.int many), some (.int way), some (.int more), some (.ref d), kk, tt, oo, ot, none, none] ∧ S1 H H' p (k + 60 + 4 * i) d many (30 + i))
        ⟨none, none, none, rfl, S.mono (by omega) (by omega)⟩ ?_ ?_⟩
      · rintro i σ H' hi ⟨tt, oo, ot, rfl, S⟩
        refine ⟨_, rfl, _, rfl, p, k + 60 + 4 * i, _, rfl, S.s0.bag, by omega, by omega, by omega, fun one J1 c1 d1 e1 f1 => ?_⟩
        replace S := S.take e1 f1
        refine ⟨_, rfl, _, rfl, p, k + 60 + 4 * i + 1, _, rfl, S.s0.bag, by omega, by omega, by omega, fun x2 J2 c2 d2 e2 f2 => ?_⟩
        replace S := S.take e2 f2
        refine ⟨_, rfl, _, _, rfl, rfl, _, rfl, p, k + 60 + 4 * i + 1 + 1, _, rfl, S.s0.bag, by omega, by omega, by omega, fun x3 J3 c3 d3 e3 f3 => ?_⟩
        replace S := S.take e3 f3
        refine ⟨_, _, rfl, rfl, _, rfl, _, _, rfl, rfl, (show (0 : Int) < many by omega), (by show 2 ≤ sizeLine; decide), fun l hl => ?_⟩
        refine ⟨_, rfl, p, k + 60 + 4 * i + 1 + 1 + 1, _, rfl, (S.new hl).s0.bag, by omega, by omega, by omega, fun x4 J4 c4 d4 e4 f4 => ?_⟩
        have nlp : l ≠ p := fun z => by obtain ⟨o, e⟩ := S.s0.bag.at; rw [← z, hl] at e; cases e
        obtain ⟨v, hv3, other, rfl, x0, x9⟩ := pickL (xs := [.int x2, .int ((one + 1 + x3) % many)]) c4 (by simpa using d4) (Pr := fun v => ∃ n : Int, v = .int n ∧ 0 ≤ n ∧ n < many)
          (all2 ⟨_, rfl, c2, d2⟩ ⟨_, rfl, Int.emod_nonneg _ (by omega), Int.emod_lt_of_pos _ (by omega)⟩)
        refine ⟨l, _, _, _, rfl, rfl, SqL.of (f4 _ _ upd_same nlp), hv3, ?_⟩
        replace S := (S.new (o := .lst [.int x2, .int ((one + 1 + x3) % many)]) hl).take e4 f4
        obtain ⟨kvs, ek, hn, hq⟩ := S.dict
        refine ⟨_, rfl, _, rfl, rfl, _, rfl, ?_⟩
        refine ite2 (fun hw => ?_) (fun hw => ?_)
        · refine ⟨_, rfl, d, kvs, rfl, ek, _, _, rfl, rfl, _, rfl, ?_⟩
          refine ite2 (fun hz => ?_) (fun hz => ?_)
          · refine ⟨_, rfl, _, rfl, _, rfl, (by show 2 ≤ sizeLine; decide), fun t ht => ?_⟩
            have S2 := S.new (o := .tup [.int one, .int other]) ht
            have ek2 : (upd J4 t (.tup [.int one, .int other])) d = some (.dT kvs) := by rw [upd_ne (ne_of_none ek ht)]; exact ek
            refine ⟨d, _, rfl, DPut.t (k := [Sum.inl one, Sum.inl other]) ek2 upd_same (small1000 (by omega)), _, _, _, rfl, ?_⟩
            exact (S2.put ek2 hn hq ⟨one, other, rfl, c1, d1, x0, x9⟩).mono (by omega) (by omega)
          · exact ⟨_, _, _, rfl, S.mono (by omega) (by omega)⟩
        · exact ⟨_, _, _, rfl, S.mono (by omega) (by omega)⟩
      · rintro σ H9 ⟨tt, oo, ot, rfl, S⟩
        -- names
        refine ⟨_, rfl, _, rfl, _, rfl, fun g hg => ⟨g, many.toNat, rfl, ?_, by omega, fun l hl => ?_⟩⟩
        · rw [upd_same, show ((many.toNat : Nat) : Int) = many by omega]
        have hSl := (S.new (o := .rng 0 many) hg).new (o := .lst ((List.range many.toNat).map fun i : Nat => V.int (i : Int))) hl
        have el : ((List.range many.toNat).map fun i : Nat => V.int (i : Int)) = ((List.range many.toNat).map fun i : Nat => (i : Int)).map V.int := by rw [List.map_map]; rfl
        refine ⟨p, l, _, (List.range many.toNat).map fun i : Nat => (i : Int), rfl, hSl.s0.bag, .inl (SqL.of (by rw [upd_same, el])), by simp; omega, by omega, fun nq H10 ms perm hnq hnm bag10 sx10 => ?_⟩
        have S10 := hSl.take bag10 sx10
        have hms : ∀ x ∈ ms, 0 ≤ x ∧ x < many := fun x hx => by
          obtain ⟨j, hj, rfl⟩ := List.mem_map.mp (perm.mem_iff.mp hx)
          have := List.mem_range.mp hj
          omega
        have hml : ms.length = many.toNat := by rw [perm.length_eq]; simp
        have getm : ∀ x : Int, 0 ≤ x → x < many → ∃ y : Int, atI (ms.map V.int) x = some (.int y) ∧ 0 ≤ y ∧ y < many := fun x x0 x9 => by
          obtain ⟨v, hv, y, rfl, hy⟩ := pickL (xs := ms.map V.int) x0 (by rw [List.length_map, hml]; omega) (Pr := fun v => ∃ y : Int, v = .int y ∧ 0 ≤ y ∧ y < many) (fun v hv => by
            obtain ⟨y, hy, rfl⟩ := List.mem_map.mp hv
            exact ⟨y, rfl, hms y hy⟩)
          exact ⟨y, hv, hy⟩
        have nnp : nq ≠ p := fun z => by obtain ⟨o, e⟩ := hSl.s0.bag.at; rw [← z, hnq] at e; cases e
        -- gate
        obtain ⟨n0, gn0, _⟩ := getm 0 (by omega) (by omega)
        refine ⟨_, rfl, nq, _, _, _, rfl, rfl, SqL.of hnm, gn0, _, rfl, nq, _, _, _, rfl, rfl, SqL.of hnm, gn0, _, rfl, _, rfl, p, _, _, rfl, S10.s0.bag, by simp; omega, by omega, by omega, fun y1 K1 c1 d1 e1 f1 => ?_⟩
        have S11 := S10.take e1 f1
        refine ⟨(by show 3 ≤ sizeLine; decide), fun l3 hl3 => ?_⟩
        refine ⟨_, rfl, p, _, _, rfl, (S11.new hl3).s0.bag, by simp; omega, by omega, by omega, fun y2 K2 c2 d2 e2 f2 => ?_⟩
        have nlp : l3 ≠ p := fun z => by obtain ⟨o, e⟩ := S11.s0.bag.at; rw [← z, hl3] at e; cases e
        obtain ⟨v, hv4, gate, rfl⟩ := pickL (xs := [.int n0, .int n0, .int y1]) c2 (by simpa using d2) (Pr := fun v => ∃ n : Int, v = .int n) (all3 ⟨_, rfl⟩ ⟨_, rfl⟩ ⟨_, rfl⟩)
        refine ⟨l3, _, _, _, rfl, rfl, SqL.of (f2 _ _ upd_same nlp), hv4, ?_⟩
        have S12 := (S11.new (o := .lst [.int n0, .int n0, .int y1]) hl3).take e2 f2
        have hnm2 : K2 nq = some (.lst (ms.map V.int)) := f2 _ _ (by rw [upd_ne (ne_of_none (f1 _ _ hnm nnp) hl3)]; exact f1 _ _ hnm nnp) nnp
        -- the lanes
        obtain ⟨kvs, ek, hn, hq⟩ := S12.dict
        have hdq : d ≠ nq := ne_of ek hnm2 (by intro z; cases z)
        refine ⟨_, rfl, _, rfl, d, kvs, rfl, ek, fun o acc hacc => ?_⟩
        have hpd : p ≠ d := Ne.symm S12.dp
        have bag0 : S0 H (upd K2 d (.frz o (.dT kvs))) p (k + 2000) := by
          refine ⟨fun b u e hb => ?_, ?_⟩
          · rw [upd_ne (ne_of_none e S12.dn)]; exact S12.s0.sx b u e hb
          · obtain ⟨x, y, z, e, r1, r2, r3⟩ := S12.s0.bag
            refine ⟨x, y, z, by rw [upd_ne hpd]; exact e, r1, r2, Int.le_trans r3 ?_⟩
            simp only [List.length_map, List.length_range]
            omega
        have hnq1 : (upd K2 d (.frz o (.dT kvs))) nq = some (.lst (ms.map V.int)) := by rw [upd_ne (Ne.symm hdq)]; exact hnm2
        have hna : nq ≠ acc := ne_of_none hnq1 hacc
        have hpa : p ≠ acc := let ⟨_, e⟩ := bag0.bag.at; ne_of_none e hacc
        refine comp_to (n := kvs.length) (fun i ys σ H' => ∃ u1 u2 : Option V, σ = [u1, u2, some (.ref nq)] ∧ H' acc = some (.lst ys) ∧ ys.length = i ∧ (∀ y ∈ ys, LaneAt H' many y) ∧ H' d = some (.frz o (.dT kvs)) ∧ H' nq = some (.lst (ms.map V.int)) ∧ S0 H H' p (k + 2000))
          ⟨none, none, rfl, upd_same, rfl, (fun y hy => nomatch hy), by rw [upd_ne (ne_of_none upd_same hacc), upd_same], ?_, bag0.new hacc⟩ (fun i ys σ H' _ ⟨_, _, _, h, _⟩ => h) ?_ ?_
        · have : (upd K2 d (.frz o (.dT kvs))) nq = some (.lst (ms.map V.int)) := by rw [upd_ne (Ne.symm hdq)]; exact hnm2
          rw [upd_ne (ne_of_none this hacc)]
          exact this
        · rintro i ys σ H' hi ⟨u1, u2, rfl, ha, hl, hy, hd', hn', S'⟩
          refine ⟨⟨hi, hd'⟩, ?_⟩
          rintro x H'' ⟨rfl, kp, kk, rfl, hk, hkp⟩
          obtain ⟨x, y, rfl, x0, x9, y0, y9⟩ := hq kk (List.mem_of_getElem? hk)
          obtain ⟨nx, gx, nx0, nx9⟩ := getm x x0 x9
          obtain ⟨ny, gy, ny0, ny9⟩ := getm y y0 y9
          refine ⟨kp, _, rfl, SqT.of hkp, rfl, _, _, rfl, _, _, rfl, rfl, ?_⟩
          refine ⟨_, rfl, _, rfl, nq, _, _, _, rfl, rfl, SqL.of hn', gx, _, rfl, _, rfl, nq, _, _, _, rfl, rfl, SqL.of hn', gy, (by show 2 ≤ sizeLine; decide), fun t ht => ?_⟩
          have ha2 : (upd H'' t (.tup [.int nx, .int ny])) acc = some (.lst ys) := by rw [upd_ne (ne_of_none ha ht)]; exact ha
          have hne : ∀ {b : Addr} {u : HO}, H'' b = some u → b ≠ acc → (upd (upd H'' t (.tup [.int nx, .int ny])) acc (.lst (ys ++ [.ref t]))) b = some u := fun {b u} e hb => by
            rw [upd_ne hb, upd_ne (ne_of_none e ht)]; exact e
          refine ⟨ha2, small1000 (by omega), _, by omega, rfl, by omega, _, _, rfl, upd_same, by simp [hl], fun z hz => ?_, hne hd' (ne_of hd' ha (by intro z; cases z)), hne hn' hna, ⟨fun b u e hb => hne (S'.sx b u e hb) (ne_of_none (bag0.sx b u e hb) hacc), ?_⟩⟩
          · rcases List.mem_append.mp hz with hz | hz
            · exact ((hy z hz).keep (tk ht)).keep (tl ha2)
            · rw [List.mem_singleton.mp hz]
              refine ⟨t, nx, ny, rfl, ?_, nx0, nx9, ny0, ny9⟩
              rw [upd_ne (Ne.symm (ne_of_none ha ht)), upd_same]
          · obtain ⟨x, y, z, e, r⟩ := S'.bag
            exact ⟨x, y, z, hne e hpa, r⟩
        · rintro ys σ H' ⟨u1, u2, rfl, ha, hl, hy, hd', hn', S'⟩
          refine ⟨⟨Nat.le_refl _, hd'⟩, ?_⟩
          refine ⟨acc, ys, rfl, ha, fun y hy' => ?_, fun zs q1 hp hq1 => ⟨q1, zs, rfl, .inl ⟨SqL.of upd_same, fun l5 hl5 => ⟨(by show 2 ≤ sizeLine; decide), fun q2 hq2 => ⟨_, rfl, (by show 2 ≤ sizeLine; decide), fun q3 hq3 => ?_⟩⟩⟩⟩⟩
          · obtain ⟨t, x, y, e, ht, _⟩ := hy y hy'
            exact ⟨t, x, [y], e, ht⟩
          · refine q q3 q2 _ many gate upd_same ⟨l5, zs, ?_, ?_, mn1, mn2, ?_, fun z hz => ?_⟩ ?_ ?_
            · exact tk hq3 _ _ upd_same
            · exact tk hq3 _ _ (tk hq2 _ _ upd_same)
            · rw [hp.length_eq, hl]; omega
            · exact ((((hy z (hp.mem_iff.mp hz)).keep (tk hq1)).keep (tk hl5)).keep (tk hq2)).keep (tk hq3)
            · exact ((((S'.new hq1).new hl5).new hq2).new hq3).bag
            · exact ((((S'.new hq1).new hl5).new hq2).new hq3).sx
end

end My03

set_option autoImplicit false
set_option linter.all false
set_option Elab.async false
set_option maxRecDepth 100000
set_option maxHeartbeats 8000000
namespace My03
open PySem L2
structure Txt4 (mg : Str → Option Value) : Prop where
  int : mg "int" = none
  isinstance : mg "isinstance" = none
theorem lanes_ps {K : PySem.W.Frag} {H : Hp} {many : Int} : ∀ {zs : List V}, (∀ z ∈ zs, LaneAt H many z) → ∃ ps : List (Int × Int), PairsAt K H zs ps ∧ ∀ p ∈ ps, (0 ≤ p.1 ∧ p.1 < many) ∧ 0 ≤ p.2 ∧ p.2 < many
  | [], _ => ⟨[], .nil, fun p hp => nomatch hp⟩
  | z :: zs, h => by
    obtain ⟨ps, r, hr⟩ := lanes_ps (K := K) (zs := zs) fun y hy => h y (List.mem_cons_of_mem _ hy)
    obtain ⟨q, x, y, e, hq, x0, x9, y0, y9⟩ := h z List.mem_cons_self
    refine ⟨(x, y) :: ps, .cons ⟨q, e, SqT.of hq⟩ r, fun p hp => ?_⟩
    rcases List.mem_cons.mp hp with rfl | hp
    · exact ⟨⟨x0, x9⟩, y0, y9⟩
    · exact hr p hp
theorem Gr.tk {H1 H2 H3 : Hp} {p : Addr} (g : Gr H1 H2) (s : SameX p H2 H3) (h : H1 p = none) : Gr H1 H3 := fun b u e => s b u (g b u e) (ne_of_none e h)
theorem tup_of {K : PySem.W.Frag} {H : Hp} {h : Addr} {ys : List V} {Q : VK} (hs : SqL K H h ys ∨ SqT K H h ys) (q : ∀ kt H', Gr H H' → SqT K H' kt ys → Q (.ref kt) H') : (SqL K H h ys ∧ ∀ l, H l = none → Q (.ref l) (upd H l (.tup ys))) ∨ (SqT K H h ys ∧ Q (.ref h) H) := by
  rcases hs with hs | hs
  · exact .inl ⟨hs, fun l hl => q l _ (Gr.new hl) SqT.new⟩
  · exact .inr ⟨hs, q h H (fun _ _ e => e) hs⟩
theorem call_tupleG {X : Cx} : CallR X (.type "tuple") (fun xs H Q => ∃ (p : Addr) (ys : List V), xs = [.ref p] ∧ (SqL X.K H p ys ∨ SqT X.K H p ys) ∧ ∀ kt H', Gr H H' → SqT X.K H' kt ys → Q (.ref kt) H') := by
  intro pins s σ H xs us Q I r h
  obtain ⟨p, ys, rfl, hs, q⟩ := h
  exact call_tuple_of pins s σ H _ us Q I r ⟨p, ys, rfl, tup_of (Q := Q) hs q⟩
def spLaw (K : PySem.W.Frag) : Sp := fun vs H Q _ => ∃ (a : Addr) (ns : List Int), vs = [.ref a] ∧ SqL K H a (ns.map V.int) ∧ ns.length ≤ 63 ∧ ∀ H', Q (.bl true) H'
section
variable {P : Program} {w : World} {K : PySem.W.Frag} {mg : Str → Option Value} {base : Heap}
theorem scLaw : FnScope ["script", "net", "cell", "bag", "one", "other", "many", "closed", "handed", "kept", "due", "found"] ["script"] (defScope sLaw) := ⟨rfl, rfl, rfl, by decide +kernel, rfl, by decide +kernel, by decide +kernel⟩
theorem ndKNB : ((["k"] : List Str) ++ (["net", "bag"] : List Str)).Nodup := by decide +kernel
theorem ndPOO : ((["place"] : List Str) ++ (["other", "one"] : List Str)).Nodup := by decide +kernel
theorem ok_law {f fU fX fA fW fC fL fT fS fN fQ : Addr} {fd fdU fdX fdA fdW fdC fdL fdT fdS fdN fdQ : FuncData} (F : Fun K "law" "law" sLaw f fd) (T : Txt mg) (T3 : Txt3 mg) (T4 : Txt4 mg)
    (FU : Fun K "turned" "turned" sTurned fU fdU) (bU : Binds K fdU ["net"] []) (mU : mg "turned" = some (.ref fU))
    (FX : Fun K "next_places" "next_places" sNexts fX fdX) (bX : Binds K fdX ["net"] []) (mX : mg "next_places" = some (.ref fX))
    (FA : Fun K "lanes_away" "lanes_away" sAway fA fdA) (bA : Binds K fdA ["net", "start", "closed"] []) (mA : mg "lanes_away" = some (.ref fA))
    (FW : Fun K "least_way" "least_way" sLeast fW fdW) (bW : Binds K fdW ["net", "one", "other", "closed"] []) (mW : mg "least_way" = some (.ref fW))
    (FC : Fun K "_law_cell" "_law_cell" sCell fC fdC) (bC : Binds K fdC ["script", "k"] []) (mC : mg "_law_cell" = some (.ref fC))
    (FL : Fun K "_law_well" "_law_well" sWell fL fdL) (bL : Binds K fdL ["cell", "turn"] []) (mL : mg "_law_well" = some (.ref fL))
    (FT : Fun K "_law_take" "_law_take" sTake fT fdT) (bT : Binds K fdT ["bag", "many"] []) (mT : mg "_law_take" = some (.ref fT))
    (FS : Fun K "_law_shuffled" "_law_shuffled" sShuf fS fdS) (bS : Binds K fdS ["bag", "some"] []) (mS : mg "_law_shuffled" = some (.ref fS))
    (FN : Fun K "_law_net" "_law_net" sNet fN fdN) (bN : Binds K fdN ["bag", "most"] []) (mN : mg "_law_net" = some (.ref fN))
    (FQ : Fun K "_law_least" "_law_least" sLLeast fQ fdQ) (bQ : Binds K fdQ ["net", "one", "other", "closed"] []) (mQ : mg "_law_least" = some (.ref fQ)) : FnOk P w K mg base CX0 4 f fd ["script"] (spLaw K) := by
  have GC : FnOk P w K mg base CX0 1 fC fdC ["script", "k"] (spCell K) := ok_cell FC T
  have GL : FnOk P w K mg base CX0 1 fL fdL ["cell", "turn"] spWell := ok_well FL
  have GT : FnOk P w K mg base CX0 1 fT fdT ["bag", "many"] spTake := ok_take FT
  have GN : FnOk P w K mg base CX0 3 fN fdN ["bag", "most"] spNet := ok_net FN T FT bT mT FS bS mS
  have GQ : FnOk P w K mg base CX0 1 fQ fdQ ["net", "one", "other", "closed"] (spLeastW K) := ok_ll FQ T T3
  have GW : FnOk P w K mg base CX0 3 fW fdW ["net", "one", "other", "closed"] (spLeastW K) := ok_least FW T T3 FX bX mX FA bA mA FU bU mU
  refine F.ok scLaw (fun vs H Q E h => ?_) (fun cdv A outer s H vs Q E hr h => ?_)
  · obtain ⟨a, ns, rfl, _⟩ := h
    rfl
  · obtain ⟨a, ns, rfl, hS, hlen, q0⟩ := h
    have hu := hr.units
    have hr1 : Room 1 _ := hr.mono (by decide)
    refine ⟨_, pss_cons (ps_set (i := 1) scLaw.nd rfl (Or.inr rfl) (pe_ix ix_tup (pe_call GN hr rfl mN FN.kp bN .nil pass0 (pa_cons (pe_call GL hr1 rfl mL FL.kp bL .nil pass0 (pa_cons (pe_call GC hr1 rfl mC FC.kp bC .nil pass0 (pa_cons (pv 0) (pa_cons pe_int pa_nil))) (pa_cons pe_int pa_nil))) (pa_cons pe_int pa_nil))) pe_int (fun _ _ => rfl)))
      (pss_cons (ps_for PassesOwn.never rfl (pi_list (pe_op op_cat (pe_slice sl_list (pv 0) (po_some pe_int) (po_some pe_int)) (pe_lst (pa_cons pe_int pa_nil)))) (pg_name (i := 2) scLaw.nd rfl (Or.inl rfl))
        (pss_cons (ps_set (i := 3) scLaw.nd rfl (Or.inr rfl) (pe_call GL hr1 rfl mL FL.kp bL .nil pass0 (pa_cons (pv 2) (pa_cons pe_int pa_nil))))
        (pss_cons (ps_set (i := 4) scLaw.nd rfl (Or.inr rfl) (pe_call GT hr1 rfl mT FT.kp bT .nil pass0 (pa_cons (pv 3) (pa_cons (pe_ix ix_tup (pv 1) pe_int (fun _ _ => rfl)) pa_nil))))
        (pss_cons (ps_set (i := 5) scLaw.nd rfl (Or.inr rfl) (pe_call GT hr1 rfl mT FT.kp bT .nil pass0 (pa_cons (pv 3) (pa_cons (pe_ix ix_tup (pv 1) pe_int (fun _ _ => rfl)) pa_nil))))
        (pss_cons (ps_set (i := 6) scLaw.nd rfl (Or.inl rfl) (pe_ix ix_list (pe_lst (pa_cons (pe_call GT hr1 rfl mT FT.kp bT .nil pass0 (pa_cons (pv 3) (pa_cons pe_int pa_nil))) (pa_cons (pe_call GT hr1 rfl mT FT.kp bT .nil pass0 (pa_cons (pv 3) (pa_cons pe_int pa_nil))) pa_nil)))
            (pe_callTy call_int1 (by rfl) T4.int (by decide +kernel) (pa_cons (pe_cmpR op_eq (pe_call GT hr1 rfl mT FT.kp bT .nil pass0 (pa_cons (pv 3) (pa_cons pe_int pa_nil))) pe_int (nomark _)) pa_nil)) (fun _ _ => rfl)))
        (pss_cons (ps_setComp (i := 7) (own := ["k"]) (caps := ["net", "bag"]) (js := [1, 3]) ⟨rfl, rfl, by decide +kernel, by decide +kernel, by decide +kernel, rfl, all2 rfl rfl, rfl, all2 (Or.inl rfl) (Or.inl rfl), all2 (Or.inl rfl) (Or.inl rfl), by decide +kernel, by decide +kernel⟩ rfl (pi_range1 rfl T.range (pa_cons (pv 6) pa_nil))
            (fun C s H fp => pg_name (i := 0) ndKNB rfl (Or.inl rfl) (Or.inr rfl)) (fun C s H fp => pts_nil) (fun C s H fp => pe_call GT hr1 rfl mT FT.kp bT .nil pass0 (pa_cons (pv 2) (pa_cons (pe_ix (ix_tupK (K := K) rfl) (pv 1) pe_int (fun _ _ => rfl)) pa_nil))) scLaw.nd rfl rfl rfl)
        (pss_cons (ps_if (pt_cmpR op_gt (pe_call GT hr1 rfl mT FT.kp bT .nil pass0 (pa_cons (pv 3) (pa_cons pe_int pa_nil))) pe_int (nomark _))
          (pss_one (ps_setComp (i := 7) (own := ["place"]) (caps := ["other", "one"]) (js := [5, 4]) ⟨rfl, rfl, by decide +kernel, by decide +kernel, by decide +kernel, rfl, all2 rfl rfl, rfl, all2 (Or.inl rfl) (Or.inl rfl), all2 (Or.inl rfl) (Or.inl rfl), by decide +kernel, by decide +kernel⟩ rfl (pi_list (pv 7))
            (fun C s H fp => pg_name (i := 0) ndPOO rfl (Or.inl rfl) (Or.inr rfl)) (fun C s H fp => pts_one (PW.pt (pw_and (pt_cmpR op_ne (pv 0) (pv 2) (nomark _)) (pw_and1 (pt_cmpR op_ne (pv 0) (pv 1) (nomark _)))))) (fun C s H fp => pv 0) scLaw.nd rfl rfl rfl)) pss_nil)
        (pss_cons (ps_set (i := 8) scLaw.nd rfl (Or.inl rfl) (pe_ix ix_list (pe_lst (pa_cons (pe_callTy call_list_of (by rfl) T.list (by decide +kernel) (pa_cons (pv 7) pa_nil)) (pa_cons (pe_callTy call_tuple_of (by rfl) T.tuple (by decide +kernel) (pa_cons (pv 7) pa_nil)) pa_nil)))
            (pe_call GT hr1 rfl mT FT.kp bT .nil pass0 (pa_cons (pv 3) (pa_cons pe_int pa_nil))) (fun _ _ => rfl)))
        (pss_cons (ps_set (i := 9) scLaw.nd rfl (Or.inl rfl) (pe_callTy call_tupleG (by rfl) T.tuple (by decide +kernel) (pa_cons (pv 8) pa_nil)))
        (pss_cons (ps_set (i := 10) scLaw.nd rfl (Or.inl rfl) (pe_call GQ hr1 rfl mQ FQ.kp bQ .nil pass0 (pa_cons (pv 1) (pa_cons (pv 4) (pa_cons (pv 5) (pa_cons (pv 7) pa_nil))))))
        (pss_cons (ps_set (i := 11) scLaw.nd rfl (Or.inl rfl) (pe_call GW hr rfl mW FW.kp bW .nil pass0 (pa_cons (pv 1) (pa_cons (pv 4) (pa_cons (pv 5) (pa_cons (pv 8) pa_nil))))))
        (pss_one (ps_if (PW.pt (pw_or (pt_cmpR (op_neD hu) (pv 11) (pv 10) (nomark _))
            (pw_or (PW.pt (pw_and (pt_cmp (pc_notN (pv 10))) (pw_and1 (pt_not (pt_val (pe_callB call_inst (by rfl) T4.isinstance (by decide +kernel) (pa_cons (pv 11) (pa_cons (pe_bltn (v := .ty "tuple") (by rfl) T.tuple (by decide +kernel) rfl) pa_nil))))))))
            (pw_or1 (pt_cmpR (op_neD hu) (pe_callTy call_tupleG (by rfl) T.tuple (by decide +kernel) (pa_cons (pv 8) pa_nil)) (pv 9) (nomark _)))))) (pss_one (ps_ret pe_bl)) pss_nil)))))))))))))
      (pss_one (ps_ret pe_bl))), ?_⟩
    have sm : ∀ n : Nat, n ≤ 1000 → n ≤ sizeLine := fun n h => Nat.le_of_lt (small1000 h)
    -- the net
    refine ⟨_, rfl, a, ns, 0, rfl, hS, fun c0 => ?_⟩
    refine ⟨c0, 0, rfl, by omega, fun p Hw hp sw bw => ?_⟩
    refine ⟨p, _, 24, rfl, bw, by decide, by omega, by omega, fun r q HN many gate hr' hN bN' sN => ?_⟩
    refine ⟨r, _, _, _, rfl, rfl, SqT.of hr', rfl, ?_⟩
    obtain ⟨t, zs, hq, ht, mn1, mn2, hzl, hz⟩ := hN
    obtain ⟨ps, hps, hrg⟩ := lanes_ps (K := K) hz
    have hpl : ps.length ≤ 1000 := by have e : zs.length = ps.length := Paired.length hps; omega
    have NV0 : NetV K HN q many ps := ⟨t, zs, SqT.of hq, SqT.of ht, hps⟩
    have gN : Gr H HN := fun b u e => sN b u (sw b u e) (ne_of_none e hp)
    -- the cells
    obtain ⟨cs, ec, lc⟩ := cutI ns (some 1) (some 12)
    have hxs : cutV (ns.map V.int) (some 1) (some 12) ++ [V.int 0] = (cs ++ [0]).map V.int := by rw [ec]; simp
    refine ⟨_, rfl, _, rfl, _, rfl, a, _, rfl, hS.gr gN, fun l1 hl1 => ⟨sm 1 (by decide), fun l2 hl2 => ⟨l1, l2, _, _, rfl, rfl, Gr.new hl2 _ _ upd_same, upd_same, ?_, fun L hL => ?_⟩⟩⟩
    · rw [ec]
      exact sm _ (by simp; omega)
    have NV1 := ((NV0.gr (Gr.new (o := .lst (cutV (ns.map V.int) (some 1) (some 12))) hl1)).gr (Gr.new (o := .lst [V.int 0]) hl2)).gr (Gr.new (o := .lst (cutV (ns.map V.int) (some 1) (some 12) ++ [V.int 0])) hL)
    refine ⟨L, rfl, ⟨_, SqL.of upd_same⟩, for_list (K := K) (a := L) (xs := (cs ++ [0]).map V.int) (fun i σ H2 => ∃ o2 o3 o4 o5 o6 o7 o8 o9 o10 o11 : Option V, σ = [some (.ref a), some (.ref q), o2, o3, o4, o5, o6, o7, o8, o9, o10, o11] ∧ NetV K H2 q many ps ∧ H2 L = some (.lst ((cs ++ [0]).map V.int)))
      ⟨none, none, none, none, none, none, none, none, none, none, rfl, NV1, by rw [← hxs]; exact upd_same⟩ (fun i σ H2 _ ⟨_, _, _, _, _, _, _, _, _, _, _, _, h⟩ => SqL.of h) ?_ ?_⟩
    · rintro i y σ H2 hi ⟨o2, o3, o4, o5, o6, o7, o8, o9, o10, o11, rfl, NV, hL2⟩
      obtain ⟨z, rfl⟩ : ∃ z, y = V.int z := by
        obtain ⟨z, _, e⟩ := List.mem_map.mp (List.mem_of_getElem? hi)
        exact ⟨z, e.symm⟩
      refine ⟨_, rfl, z, 0, rfl, by omega, fun p Hb hp sb bb => ?_⟩
      have Gb : Gr H2 Hb := fun b u e => sb b u e
      have S := S0.id bb
      have GG : ∀ {H' : Hp} {k : Nat}, S0 Hb H' p k → Gr H2 H' := fun {H' k} S => Gr.tk Gb S.sx hp
      obtain ⟨t, zs, hq, htt, hps⟩ := id NV
      refine ⟨_, rfl, _, rfl, q, _, _, _, rfl, rfl, hq.gr (GG S), rfl, p, _, many, rfl, S.bag, by decide, mn1, by omega, fun one H3 a1 b1 g3 s3 => ?_⟩
      replace S := S.take g3 s3
      refine ⟨_, rfl, _, rfl, q, _, _, _, rfl, rfl, hq.gr (GG S), rfl, p, _, many, rfl, S.bag, by decide, mn1, by omega, fun other H4 a2 b2 g4 s4 => ?_⟩
      replace S := S.take g4 s4
      -- many
      refine ⟨_, rfl, p, _, 7, rfl, S.bag, by decide, by omega, by omega, fun r5 H5 a5 b5 g5 s5 => ?_⟩
      replace S := S.take g5 s5
      refine ⟨_, rfl, p, _, 201, rfl, S.bag, by decide, by omega, by omega, fun r6 H6 a6 b6 g6 s6 => ?_⟩
      replace S := S.take g6 s6
      refine ⟨sm 2 (by decide), fun l3 hl3 => ?_⟩
      have l3p := Bag.off S.bag hl3
      replace S := S.new (o := .lst [.int r5, .int r6]) hl3
      refine ⟨_, rfl, p, _, 4, rfl, S.bag, by decide, by omega, by omega, fun r7 H7 a7 b7 g7 s7 => ⟨rfl, .inr ⟨_, rfl, ?_⟩⟩⟩
      replace S := S.take g7 s7
      have hv : ∀ bb : Bool, ∃ n : Nat, n ≤ 200 ∧ atI [V.int r5, V.int r6] (if bb = true then 1 else 0) = some (.int (n : Int)) := fun bb => by
        cases bb
        · exact ⟨r5.toNat, by omega, by rw [show ((r5.toNat : Nat) : Int) = r5 by omega]; rfl⟩
        · exact ⟨r6.toNat, by omega, by rw [show ((r6.toNat : Nat) : Int) = r6 by omega]; rfl⟩
      obtain ⟨mc, hmc, hv0⟩ := hv (decide (V.int r7 = V.int 0))
      refine ⟨l3, _, _, _, rfl, rfl, SqL.of (s7 _ _ upd_same l3p), hv0, ?_⟩
      have S7 : S0 Hb H7 p 5 := S.mono (by decide)
      clear S
      have hmn : ((mc : Nat) : Int).toNat = mc := by omega
      -- closed
      refine ⟨_, rfl, _, rfl, by omega, by omega, fun acc hacc => ?_⟩
      have accp := Bag.off S7.bag hacc
      have haccb : Hb acc = none := by
        cases e : Hb acc with
        | none => rfl
        | some o => have := S7.sx _ _ e accp; rw [hacc] at this; cases this
      refine comp_to (n := ((mc : Nat) : Int).toNat) (fun i ys σ H' => ∃ (u : Option V) (ks : List Int), σ = [u, some (.ref q), some (.ref p)] ∧ ys = ks.map V.int ∧ ks.length ≤ i ∧ H' acc = some (.lst ys) ∧ S0 Hb H' p (5 + i))
        ⟨none, [], rfl, rfl, by simp, upd_same, S7.new hacc⟩ (fun i ys σ H' _ ⟨_, _, _, _, _, h, _⟩ => h) ?_ ?_
      · rintro i ys σ H' hi ⟨u, ks, rfl, rfl, hks, ha, S'⟩
        refine ⟨hi, ?_⟩
        rintro x H'' ⟨rfl, rfl⟩
        refine ⟨_, rfl, _, rfl, q, _, _, _, rfl, rfl, hq.gr (GG S'), rfl, p, _, many, rfl, S'.bag, by omega, mn1, by omega, fun rk H8 a8 b8 g8 s8 => ?_⟩
        exact ⟨s8 _ _ ha accp, small1000 (by rw [List.length_map]; omega), _, by omega, rfl, by omega, _, ks ++ [rk], rfl, by simp, by simp; omega, upd_same, (S'.take g8 s8).upl haccb accp⟩
      · rintro ys σ H8 ⟨u, cc, rfl, rfl, hcc, ha, S8⟩
        refine ⟨Nat.le_refl _, ?_⟩
        rw [hmn] at hcc S8
        refine ⟨_, rfl, p, _, 4, rfl, S8.bag, by omega, by omega, by omega, fun r9 H9 a9 b9 g9 s9 => ⟨_, _, rfl, rfl, _, rfl, ?_⟩⟩
        have ha9 := s9 _ _ ha accp
        replace S8 := S8.take g9 s9
        refine ite2 (fun _ => ?b1) (fun _ => ?b2)
        case' b1 =>
          refine ⟨_, rfl, acc, rfl, ⟨_, SqL.of ha9⟩, fun ca hca0 => ?_⟩
          have cap := Bag.off S8.bag hca0
          refine comp_to (n := (cc.map V.int).length) (fun i ys σ H' => ∃ (u : Option V) (ks : List Int), σ = [u, some (.int other), some (.int one)] ∧ ys = ks.map V.int ∧ ks.length ≤ i ∧ H' ca = some (.lst ys) ∧ Gr H9 H')
            ⟨none, [], rfl, rfl, by simp, upd_same, Gr.new hca0⟩ (fun i ys σ H' _ ⟨_, _, _, _, _, h, _⟩ => h) (by
              rintro i ys σ H' hi ⟨u, ks, rfl, rfl, hks, hb, g'⟩
              have so := SqL.of (K := K) (g' _ _ ha9)
              have hx1 : (cc.map V.int)[i]? = some (cc.map V.int)[i] := List.getElem?_eq_getElem hi
              have hi' : i < cc.length := by simpa using hi
              refine ⟨⟨_, _, so, hx1⟩, ?_⟩
              rintro x H'' ⟨rfl, hx⟩
              have e := hx _ so
              rw [List.getElem?_map, List.getElem?_eq_getElem hi'] at e
              cases e
              refine ⟨_, rfl, _, rfl, rfl, _, rfl, ?_⟩
              refine ite2 (fun _ => ?_) (fun _ => ?_)
              · refine ⟨_, rfl, _, rfl, rfl, _, rfl, ?_⟩
                refine ite2 (fun _ => ?_) (fun _ => ?_)
                · exact ⟨_, rfl, hb, small1000 (by rw [List.length_map]; omega), _, by omega, rfl, by omega, _, ks ++ [cc[i]], rfl, by simp, by simp; omega, upd_same, Gr.acc g' hca0⟩
                · exact ⟨_, by omega, rfl, by omega, _, ks, rfl, rfl, by omega, hb, g'⟩
              · exact ⟨_, by omega, rfl, by omega, _, ks, rfl, rfl, by omega, hb, g'⟩) ?_
          rintro ys σ HX ⟨u, cl, rfl, rfl, hcl, hca, gX⟩
          refine ⟨⟨_, SqL.of (gX _ _ ha9), Nat.le_refl _⟩, ?_⟩
          have SX : S0 Hb HX p 300 := (S8.gr gX).mono (by omega)
          clear S8 ha9 gX
        case' b2 =>
          obtain ⟨ca, cl, HX, e1, e2, hca, cap, SX⟩ : ∃ (ca : Addr) (cl : List Int) (HX : Hp), ca = acc ∧ HX = H9 ∧ HX ca = some (.lst (cl.map V.int)) ∧ ca ≠ p ∧ S0 Hb HX p 300 := ⟨acc, cc, H9, rfl, rfl, ha9, accp, S8.mono (by omega)⟩
          rw [← e1, ← e2]
          clear S8 ha9 e2
        all_goals
          -- handed
          refine ⟨_, rfl, ca, _, rfl, .inl (SqL.of hca), fun la hla => ⟨_, rfl, ca, _, rfl, .inl ⟨SqL.of (Gr.new hla _ _ hca), fun ta hta => ⟨sm 2 (by decide), fun lb hlb => ?_⟩⟩⟩⟩
          have gh : Gr HX (upd (upd (upd HX la (.lst (cl.map V.int))) ta (.tup (cl.map V.int))) lb (.lst [.ref la, .ref ta])) := ((Gr.new hla).trans (Gr.new hta)).trans (Gr.new hlb)
          have lap := Bag.off SX.bag hla
          have tap := Bag.off (SX.new (o := .lst (cl.map V.int)) hla).bag hta
          have lbp := Bag.off ((SX.new (o := .lst (cl.map V.int)) hla).new (o := .tup (cl.map V.int)) hta).bag hlb
          have SH := SX.gr gh
          refine ⟨_, rfl, p, _, 2, rfl, SH.bag, by omega, by omega, by omega, fun rr H11 a11 b11 g11 s11 => ?_⟩
          have S11 := SH.take g11 s11
          have hla11 : H11 la = some (.lst (cl.map V.int)) := s11 _ _ (Gr.new hlb _ _ (Gr.new hta _ _ upd_same)) lap
          have hta11 : H11 ta = some (.tup (cl.map V.int)) := s11 _ _ (Gr.new hlb _ _ upd_same) tap
          obtain ⟨v, hv, hd, rfl, hsq⟩ := pickL (xs := [.ref la, .ref ta]) a11 (by simpa using b11) (Pr := fun v => ∃ hd : Addr, v = .ref hd ∧ (SqL K H11 hd (cl.map V.int) ∨ SqT K H11 hd (cl.map V.int))) (all2 ⟨la, rfl, .inl (SqL.of hla11)⟩ ⟨ta, rfl, .inr (SqT.of hta11)⟩)
          refine ⟨lb, _, _, _, rfl, rfl, SqL.of (s11 _ _ upd_same lbp), hv, ?_⟩
          refine ⟨_, rfl, hd, _, rfl, hsq, fun kt H12 g12 hkt => ?_⟩
          have G12 : Gr H2 H12 := (GG S11).trans g12
          have hca12 : H12 ca = some (.lst (cl.map V.int)) := g12 _ _ (s11 _ _ (gh _ _ hca) cap)
          -- due
          refine ⟨_, rfl, _, rfl, _, rfl, _, rfl, q, ca, one, other, many, ps, cl, rfl, NV.gr G12, hpl, by omega, ⟨a1, b1⟩, ⟨a2, b2⟩, hrg, .inl (SqL.of hca12), fun H13 g13 hno => ?_, fun dr H13 n l g13 hdr hle => ?_⟩
          · have gA := g12.trans g13
            refine ⟨_, rfl, _, rfl, _, rfl, _, rfl, q, hd, one, other, many, ps, cl, rfl, NV.gr (G12.trans g13), hpl, by omega, ⟨a1, b1⟩, ⟨a2, b2⟩, hrg, sq_gr hsq gA, fun H14 g14 hno' => ?_, fun fr H14 n' l' g14 hfr hle' => absurd hle'.1 (hno n' l')⟩
            refine ⟨_, rfl, _, rfl, _, _, .non, .non, by decide, _, rfl, ?_⟩
            refine iteN rfl ?_
            refine ⟨_, rfl, _, rfl, ?_⟩
            refine iteN rfl ?_
            refine iteN rfl ?_
            refine ⟨_, rfl, hd, _, rfl, sq_gr hsq (gA.trans g14), fun k2 H15 g15 hk2 => ⟨_, rfl, _, _, DV.intT hk2, DV.intT ((hkt.gr (g13.trans g14)).gr g15), by rw [depth_intT]; omega, _, rfl, ?_⟩⟩
            rw [show (if true then !PyData.eqv (.tuple (cl.map .int)) (.tuple (cl.map .int)) else PyData.eqv (.tuple (cl.map .int)) (.tuple (cl.map .int))) = !decide (cl = cl) from congrArg not (eqv_ints cl cl)]
            refine iteN (by simp) ?_
            exact ⟨_, _, _, _, _, _, _, _, _, _, rfl, NV.gr ((G12.trans (g13.trans g14)).trans g15), ((G12.trans (g13.trans g14)).trans g15) _ _ hL2⟩
          · have gA := g12.trans g13
            refine ⟨_, rfl, _, rfl, _, rfl, _, rfl, q, hd, one, other, many, ps, cl, rfl, NV.gr (G12.trans g13), hpl, by omega, ⟨a1, b1⟩, ⟨a2, b2⟩, hrg, sq_gr hsq gA, fun H14 g14 hno' => absurd hle.1 (hno' n l), fun fr H14 n' l' g14 hfr hle' => ?_⟩
            obtain rfl : l' = l := hle'.uniq hle
            refine ⟨_, rfl, _, rfl, _, _, DV.intT hfr, DV.intT (hdr.gr g14), by rw [depth_intT]; omega, _, rfl, ?_⟩
            rw [show (if true then !PyData.eqv (.tuple (l'.map .int)) (.tuple (l'.map .int)) else PyData.eqv (.tuple (l'.map .int)) (.tuple (l'.map .int))) = !decide (l' = l') from congrArg not (eqv_ints l' l')]
            refine iteN (by simp) ?_
            refine ⟨_, rfl, _, rfl, ?_⟩
            refine iteP rfl ?_
            refine ⟨_, rfl, _, _, true, rfl, .inr ⟨fr, _, rfl, hfr, kit_tup_tup K⟩, true, rfl, ?_⟩
            refine iteN rfl ?_
            refine ⟨_, rfl, hd, _, rfl, sq_gr hsq (gA.trans g14), fun k2 H15 g15 hk2 => ⟨_, rfl, _, _, DV.intT hk2, DV.intT ((hkt.gr (g13.trans g14)).gr g15), by rw [depth_intT]; omega, _, rfl, ?_⟩⟩
            rw [show (if true then !PyData.eqv (.tuple (cl.map .int)) (.tuple (cl.map .int)) else PyData.eqv (.tuple (cl.map .int)) (.tuple (cl.map .int))) = !decide (cl = cl) from congrArg not (eqv_ints cl cl)]
            refine iteN (by simp) ?_
            exact ⟨_, _, _, _, _, _, _, _, _, _, rfl, NV.gr ((G12.trans (g13.trans g14)).trans g15), ((G12.trans (g13.trans g14)).trans g15) _ _ hL2⟩
    · rintro σ H2 ⟨o2, o3, o4, o5, o6, o7, o8, o9, o10, o11, rfl, NV, hL2⟩
      exact q0 H2
end
end My03

set_option autoImplicit false
set_option linter.all false
set_option Elab.async false
set_option maxRecDepth 100000
set_option maxHeartbeats 8000000
namespace My03
open PySem L2
theorem all_mk {l : PySem.W.OpenLaw} {w : World} {K : PySem.W.Frag} {h : Heap} {mg : Str → Option Value} {fa fU fX fA fW fC fL fT fS fN fQ f0 : Addr} (X : K.In h) (G : h.Ns mainGlobals mg) (hfa : mg "law" = some (.ref fa))
    {odU anU odX anX odA anA odW anW odC anC odL anL odT anT odS anS odN anN odQ anQ od0 an0 : Option Addr} {slU slX slA slW slC slL slT slS slN slQ sl0 : Array (Option Value)} {ocU kVU dcU pmU cdU ctU ocX kVX dcX pmX cdX ctX ocA kVA dcA pmA cdA ctA ocW kVW dcW pmW cdW ctW ocC kVC dcC pmC cdC ctC ocL kVL dcL pmL cdL ctL ocT kVT dcT pmT cdT ctT ocS kVS dcS pmS cdS ctS ocN kVN dcN pmN cdN ctN ocQ kVQ dcQ pmQ cdQ ctQ oc0 kV0 dc0 pm0 cd0 ct0 : Value}
    (aU : PySem.W.nsIn K mainGlobals "turned" = some (some (.ref fU))) (lU : K.lookup fU = some ⟨ocU, odU, .func (PySem.W.fnOf "turned" "turned" (defArgs sTurned) (defBody sTurned) (defScope sTurned) .none kVU dcU pmU anU cdU ctU), slU⟩) (cU : PySem.W.codeIn K cdU "turned" = true) (kU : PySem.W.keepIn K (.ref fU) = true)
    (aX : PySem.W.nsIn K mainGlobals "next_places" = some (some (.ref fX))) (lX : K.lookup fX = some ⟨ocX, odX, .func (PySem.W.fnOf "next_places" "next_places" (defArgs sNexts) (defBody sNexts) (defScope sNexts) .none kVX dcX pmX anX cdX ctX), slX⟩) (cX : PySem.W.codeIn K cdX "next_places" = true) (kX : PySem.W.keepIn K (.ref fX) = true)
    (aA : PySem.W.nsIn K mainGlobals "lanes_away" = some (some (.ref fA))) (lA : K.lookup fA = some ⟨ocA, odA, .func (PySem.W.fnOf "lanes_away" "lanes_away" (defArgs sAway) (defBody sAway) (defScope sAway) .none kVA dcA pmA anA cdA ctA), slA⟩) (cA : PySem.W.codeIn K cdA "lanes_away" = true) (kA : PySem.W.keepIn K (.ref fA) = true)
    (aW : PySem.W.nsIn K mainGlobals "least_way" = some (some (.ref fW))) (lW : K.lookup fW = some ⟨ocW, odW, .func (PySem.W.fnOf "least_way" "least_way" (defArgs sLeast) (defBody sLeast) (defScope sLeast) .none kVW dcW pmW anW cdW ctW), slW⟩) (cW : PySem.W.codeIn K cdW "least_way" = true) (kW : PySem.W.keepIn K (.ref fW) = true)
    (aC : PySem.W.nsIn K mainGlobals "_law_cell" = some (some (.ref fC))) (lC : K.lookup fC = some ⟨ocC, odC, .func (PySem.W.fnOf "_law_cell" "_law_cell" (defArgs sCell) (defBody sCell) (defScope sCell) .none kVC dcC pmC anC cdC ctC), slC⟩) (cC : PySem.W.codeIn K cdC "_law_cell" = true) (kC : PySem.W.keepIn K (.ref fC) = true)
    (aL : PySem.W.nsIn K mainGlobals "_law_well" = some (some (.ref fL))) (lL : K.lookup fL = some ⟨ocL, odL, .func (PySem.W.fnOf "_law_well" "_law_well" (defArgs sWell) (defBody sWell) (defScope sWell) .none kVL dcL pmL anL cdL ctL), slL⟩) (cL : PySem.W.codeIn K cdL "_law_well" = true) (kL : PySem.W.keepIn K (.ref fL) = true)
    (aT : PySem.W.nsIn K mainGlobals "_law_take" = some (some (.ref fT))) (lT : K.lookup fT = some ⟨ocT, odT, .func (PySem.W.fnOf "_law_take" "_law_take" (defArgs sTake) (defBody sTake) (defScope sTake) .none kVT dcT pmT anT cdT ctT), slT⟩) (cT : PySem.W.codeIn K cdT "_law_take" = true) (kT : PySem.W.keepIn K (.ref fT) = true)
    (aS : PySem.W.nsIn K mainGlobals "_law_shuffled" = some (some (.ref fS))) (lS : K.lookup fS = some ⟨ocS, odS, .func (PySem.W.fnOf "_law_shuffled" "_law_shuffled" (defArgs sShuf) (defBody sShuf) (defScope sShuf) .none kVS dcS pmS anS cdS ctS), slS⟩) (cS : PySem.W.codeIn K cdS "_law_shuffled" = true) (kS : PySem.W.keepIn K (.ref fS) = true)
    (aN : PySem.W.nsIn K mainGlobals "_law_net" = some (some (.ref fN))) (lN : K.lookup fN = some ⟨ocN, odN, .func (PySem.W.fnOf "_law_net" "_law_net" (defArgs sNet) (defBody sNet) (defScope sNet) .none kVN dcN pmN anN cdN ctN), slN⟩) (cN : PySem.W.codeIn K cdN "_law_net" = true) (kN : PySem.W.keepIn K (.ref fN) = true)
    (aQ : PySem.W.nsIn K mainGlobals "_law_least" = some (some (.ref fQ))) (lQ : K.lookup fQ = some ⟨ocQ, odQ, .func (PySem.W.fnOf "_law_least" "_law_least" (defArgs sLLeast) (defBody sLLeast) (defScope sLLeast) .none kVQ dcQ pmQ anQ cdQ ctQ), slQ⟩) (cQ : PySem.W.codeIn K cdQ "_law_least" = true) (kQ : PySem.W.keepIn K (.ref fQ) = true)
    (a0 : PySem.W.nsIn K mainGlobals "law" = some (some (.ref f0))) (l0 : K.lookup f0 = some ⟨oc0, od0, .func (PySem.W.fnOf "law" "law" (defArgs sLaw) (defBody sLaw) (defScope sLaw) .none kV0 dc0 pm0 an0 cd0 ct0), sl0⟩) (c0 : PySem.W.codeIn K cd0 "law" = true) (k0 : PySem.W.keepIn K (.ref f0) = true)
    (zlen : PySem.W.nsIn K mainGlobals "len" = some none) (zrange : PySem.W.nsIn K mainGlobals "range" = some none) (zlist : PySem.W.nsIn K mainGlobals "list" = some none) (ztuple : PySem.W.nsIn K mainGlobals "tuple" = some none) (zsorted : PySem.W.nsIn K mainGlobals "sorted" = some none) (zmin : PySem.W.nsIn K mainGlobals "min" = some none) (zreversed : PySem.W.nsIn K mainGlobals "reversed" = some none) (zint : PySem.W.nsIn K mainGlobals "int" = some none) (zisinstance : PySem.W.nsIn K mainGlobals "isinstance" = some none) :
    ∃ fd : FuncData, (∀ (s : Shared) (v : Value), BindsTo s fd ⟨[v], []⟩ [("script", v)]) ∧ ∀ base : Heap, K.In base → base.Ns mainGlobals mg → FnOk l.prog w K mg base CX0 4 fa fd ["script"] (spLaw K) := by
  have e := hfa.symm.trans (PySem.W.mg_of X G a0)
  cases e
  have T0 : Txt mg := ⟨PySem.W.mg_none_of X G zlen, PySem.W.mg_none_of X G zrange, PySem.W.mg_none_of X G zlist, PySem.W.mg_none_of X G ztuple, PySem.W.mg_none_of X G zsorted, PySem.W.mg_none_of X G zmin⟩
  have T1 : Txt3 mg := ⟨PySem.W.mg_none_of X G zreversed, PySem.W.mg_none_of X G zmin⟩
  have T2 : Txt4 mg := ⟨PySem.W.mg_none_of X G zint, PySem.W.mg_none_of X G zisinstance⟩
  have FU := fun_mk (st := sTurned) lU cU kU
  have FX := fun_mk (st := sNexts) lX cX kX
  have FA := fun_mk (st := sAway) lA cA kA
  have FW := fun_mk (st := sLeast) lW cW kW
  have FC := fun_mk (st := sCell) lC cC kC
  have FL := fun_mk (st := sWell) lL cL kL
  have FT := fun_mk (st := sTake) lT cT kT
  have FS := fun_mk (st := sShuf) lS cS kS
  have FN := fun_mk (st := sNet) lN cN kN
  have FQ := fun_mk (st := sLLeast) lQ cQ kQ
  have F0 := fun_mk (st := sLaw) l0 c0 k0
  have bU := FU.binds (ps := ["net"]) fun _ _ _ _ _ _ us hl => match us, hl with | [_], _ => rfl
  have bX := FX.binds (ps := ["net"]) fun _ _ _ _ _ _ us hl => match us, hl with | [_], _ => rfl
  have bA := FA.binds (ps := ["net", "start", "closed"]) fun _ _ _ _ _ _ us hl => match us, hl with | [_, _, _], _ => rfl
  have bW := FW.binds (ps := ["net", "one", "other", "closed"]) fun _ _ _ _ _ _ us hl => match us, hl with | [_, _, _, _], _ => rfl
  have bC := FC.binds (ps := ["script", "k"]) fun _ _ _ _ _ _ us hl => match us, hl with | [_, _], _ => rfl
  have bL := FL.binds (ps := ["cell", "turn"]) fun _ _ _ _ _ _ us hl => match us, hl with | [_, _], _ => rfl
  have bT := FT.binds (ps := ["bag", "many"]) fun _ _ _ _ _ _ us hl => match us, hl with | [_, _], _ => rfl
  have bS := FS.binds (ps := ["bag", "some"]) fun _ _ _ _ _ _ us hl => match us, hl with | [_, _], _ => rfl
  have bN := FN.binds (ps := ["bag", "most"]) fun _ _ _ _ _ _ us hl => match us, hl with | [_, _], _ => rfl
  have bQ := FQ.binds (ps := ["net", "one", "other", "closed"]) fun _ _ _ _ _ _ us hl => match us, hl with | [_, _, _, _], _ => rfl
  exact ⟨PySem.W.fnOf "law" "law" (defArgs sLaw) (defBody sLaw) (defScope sLaw) .none kV0 dc0 pm0 an0 cd0 ct0, fun s v => .of_eq rfl, fun base _ _ => ok_law F0 T0 T1 T2 FU bU (PySem.W.mg_of X G aU) FX bX (PySem.W.mg_of X G aX) FA bA (PySem.W.mg_of X G aA) FW bW (PySem.W.mg_of X G aW) FC bC (PySem.W.mg_of X G aC) FL bL (PySem.W.mg_of X G aL) FT bT (PySem.W.mg_of X G aT) FS bS (PySem.W.mg_of X G aS) FN bN (PySem.W.mg_of X G aN) FQ bQ (PySem.W.mg_of X G aQ)⟩
theorem walk {l : PySem.W.OpenLaw} {q : Program} {loose : List Str} {XP : (Str → Option Value) → Heap → Prop} {YP : World → Heap → Prop} {d : DefRec} {K : Params → PySem.W.Frag} (hn : l.most = some 63) (hdf : d.params.defaults = [])
    (hY : ∀ (w : World) (h : Heap), YP w h → (K w.params).In h)
    (F : ∀ (w : World) (mg : Str → Option Value) (fa : Addr) (h : Heap), (K w.params).In h → h.Ns mainGlobals mg → mg d.name = some (.ref fa) →
      ∃ fd : FuncData, (∀ (s : Shared) (u : Value), BindsTo s fd ⟨[u], []⟩ [("script", u)]) ∧ ∀ base : Heap, (K w.params).In base → base.Ns mainGlobals mg → FnOk l.prog w (K w.params) mg base CX0 4 fa fd ["script"] (spLaw (K w.params))) :
    PySem.W.WalkO q loose XP YP l.row.toRowW d [] (fun f vs => PySem.call f vs) :=
  L2.walk_of (n := 63) (k := 4) (x := "script") (CX := fun _ => CX0) (sp := fun w => spLaw (K w.params)) hn (by decide) hdf ⟨rfl, by decide, by decide⟩ hY F (fun _ _ a ns hl _ hS => ⟨a, ns, rfl, hS, hl, fun _ => rfl⟩) fun _ _ _ _ _ z => z
end My03
open PySem PySem.W PyProof.Rows
set_option maxRecDepth 100000 in
set_option maxHeartbeats 0 in
theorem PySem.Challenge.cw_waymusts_k03_least_ways_holds : PySem.Challenge.rw_waymusts_k03_least_ways.Holds := by
  w_on; o_law; k_head; (case hw => w_witness2)
  k_fill
  refine My03.walk (l := PySem.Challenge.rw_waymusts_k03_least_ways) rfl rfl (fun w h Y => PySem.W.kIn_of Y) ?F
  case F =>
    intro w mg fa h KX G hmg
    refine' My03.all_mk KX G hmg ?aU ?lU ?cU ?kU ?aX ?lX ?cX ?kX ?aA ?lA ?cA ?kA ?aW ?lW ?cW ?kW ?aC ?lC ?cC ?kC ?aL ?lL ?cL ?kL ?aT ?lT ?cT ?kT ?aS ?lS ?cS ?kS ?aN ?lN ?cN ?kN ?aQ ?lQ ?cQ ?kQ ?a0 ?l0 ?c0 ?k0 ?zlen ?zrange ?zlist ?ztuple ?zsorted ?zmin ?zreversed ?zint ?zisinstance
    (case aU => k_is); (case lU => k_is); (case cU => k_is); (case kU => k_is)
    (case aX => k_is); (case lX => k_is); (case cX => k_is); (case kX => k_is)
    (case aA => k_is); (case lA => k_is); (case cA => k_is); (case kA => k_is)
    (case aW => k_is); (case lW => k_is); (case cW => k_is); (case kW => k_is)
    (case aC => k_is); (case lC => k_is); (case cC => k_is); (case kC => k_is)
    (case aL => k_is); (case lL => k_is); (case cL => k_is); (case kL => k_is)
    (case aT => k_is); (case lT => k_is); (case cT => k_is); (case kT => k_is)
    (case aS => k_is); (case lS => k_is); (case cS => k_is); (case kS => k_is)
    (case aN => k_is); (case lN => k_is); (case cN => k_is); (case kN => k_is)
    (case aQ => k_is); (case lQ => k_is); (case cQ => k_is); (case kQ => k_is)
    (case a0 => k_is); (case l0 => k_is); (case c0 => k_is); (case k0 => k_is)
    (case zlen => k_is); (case zrange => k_is); (case zlist => k_is); (case ztuple => k_is)
    (case zsorted => k_is); (case zmin => k_is); (case zreversed => k_is); (case zint => k_is)
    (case zisinstance => k_is)
