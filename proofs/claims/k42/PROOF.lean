import PyProof.Rows.All
import Wide.All
import OpenK.AllK
import Wide.FinOn
import Lean
import PyProof.EqAt
import PyProof.EqKinds
import PyProof.TupleCall
import PySem.Challenge.RW_sumspan_k42_whole_rounds
import KE.KFind
import KE.KSortTup
set_option Elab.async false
set_option linter.all false
set_option maxRecDepth 100000
set_option maxHeartbeats 4000000
set_option compiler.extract_closed false
set_option genSizeOf false
namespace L2
theorem ns_ {α : Type} {a : α} {C : Prop} (h : none = some a) : C := nomatch h
theorem sn_ {α : Type} {a : α} {C : Prop} (h : some a = none) : C := nomatch h
theorem ob_aa {P0 : Prop} {P1 : Prop} {P2 : Prop} {Z : Prop} (h : P0 ∧ P1 ∧ P2) (k : P0 → P1 → P2 → Z) : Z := by
  obtain ⟨h1, h2, h3⟩ := h
  exact k h1 h2 h3
theorem ob_aaa {P0 : Prop} {P1 : Prop} {P2 : Prop} {P3 : Prop} {Z : Prop} (h : P0 ∧ P1 ∧ P2 ∧ P3) (k : P0 → P1 → P2 → P3 → Z) : Z := by
  obtain ⟨h1, h2, h3, h4⟩ := h
  exact k h1 h2 h3 h4
theorem ob_aaaa {P0 : Prop} {P1 : Prop} {P2 : Prop} {P3 : Prop} {P4 : Prop} {Z : Prop} (h : P0 ∧ P1 ∧ P2 ∧ P3 ∧ P4) (k : P0 → P1 → P2 → P3 → P4 → Z) : Z := by
  obtain ⟨h1, h2, h3, h4, h5⟩ := h
  exact k h1 h2 h3 h4 h5
theorem ob_aea {P0 : Prop} {α1 : Type} {P1 : α1 → Prop} {P2 : α1 → Prop} {Z : Prop} (h : P0 ∧ ∃ x1, P1 x1 ∧ P2 x1) (k : P0 → ∀ x1, P1 x1 → P2 x1 → Z) : Z := by
  obtain ⟨h1, x1, h2, h3⟩ := h
  exact k h1 x1 h2 h3
theorem ob_aeeaa {P0 : Prop} {α1 : Type} {α2 : Type} {P1 : α1 → α2 → Prop} {P2 : α1 → α2 → Prop} {P3 : α1 → α2 → Prop} {Z : Prop} (h : P0 ∧ ∃ x1, ∃ x2, P1 x1 x2 ∧ P2 x1 x2 ∧ P3 x1 x2) (k : P0 → ∀ x1, ∀ x2, P1 x1 x2 → P2 x1 x2 → P3 x1 x2 → Z) : Z := by
  obtain ⟨h1, x1, x2, h2, h3, h4⟩ := h
  exact k h1 x1 x2 h2 h3 h4
theorem ob_ea {α1 : Type} {P0 : α1 → Prop} {P1 : α1 → Prop} {Z : Prop} (h : ∃ x1, P0 x1 ∧ P1 x1) (k : ∀ x1, P0 x1 → P1 x1 → Z) : Z := by
  obtain ⟨x1, h1, h2⟩ := h
  exact k x1 h1 h2
theorem ob_eaa {α1 : Type} {P0 : α1 → Prop} {P1 : α1 → Prop} {P2 : α1 → Prop} {Z : Prop} (h : ∃ x1, P0 x1 ∧ P1 x1 ∧ P2 x1) (k : ∀ x1, P0 x1 → P1 x1 → P2 x1 → Z) : Z := by
  obtain ⟨x1, h1, h2, h3⟩ := h
  exact k x1 h1 h2 h3
theorem ob_eaaa {α1 : Type} {P0 : α1 → Prop} {P1 : α1 → Prop} {P2 : α1 → Prop} {P3 : α1 → Prop} {Z : Prop} (h : ∃ x1, P0 x1 ∧ P1 x1 ∧ P2 x1 ∧ P3 x1) (k : ∀ x1, P0 x1 → P1 x1 → P2 x1 → P3 x1 → Z) : Z := by
  obtain ⟨x1, h1, h2, h3, h4⟩ := h
  exact k x1 h1 h2 h3 h4
theorem ob_eaaaa {α1 : Type} {P0 : α1 → Prop} {P1 : α1 → Prop} {P2 : α1 → Prop} {P3 : α1 → Prop} {P4 : α1 → Prop} {Z : Prop} (h : ∃ x1, P0 x1 ∧ P1 x1 ∧ P2 x1 ∧ P3 x1 ∧ P4 x1) (k : ∀ x1, P0 x1 → P1 x1 → P2 x1 → P3 x1 → P4 x1 → Z) : Z := by
  obtain ⟨x1, h1, h2, h3, h4, h5⟩ := h
  exact k x1 h1 h2 h3 h4 h5
theorem ob_eea {α1 : Type} {α2 : Type} {P0 : α1 → α2 → Prop} {P1 : α1 → α2 → Prop} {Z : Prop} (h : ∃ x1, ∃ x2, P0 x1 x2 ∧ P1 x1 x2) (k : ∀ x1, ∀ x2, P0 x1 x2 → P1 x1 x2 → Z) : Z := by
  obtain ⟨x1, x2, h1, h2⟩ := h
  exact k x1 x2 h1 h2
theorem ob_eeaa {α1 : Type} {α2 : Type} {P0 : α1 → α2 → Prop} {P1 : α1 → α2 → Prop} {P2 : α1 → α2 → Prop} {Z : Prop} (h : ∃ x1, ∃ x2, P0 x1 x2 ∧ P1 x1 x2 ∧ P2 x1 x2) (k : ∀ x1, ∀ x2, P0 x1 x2 → P1 x1 x2 → P2 x1 x2 → Z) : Z := by
  obtain ⟨x1, x2, h1, h2, h3⟩ := h
  exact k x1 x2 h1 h2 h3
theorem ob_eeaaa {α1 : Type} {α2 : Type} {P0 : α1 → α2 → Prop} {P1 : α1 → α2 → Prop} {P2 : α1 → α2 → Prop} {P3 : α1 → α2 → Prop} {Z : Prop} (h : ∃ x1, ∃ x2, P0 x1 x2 ∧ P1 x1 x2 ∧ P2 x1 x2 ∧ P3 x1 x2) (k : ∀ x1, ∀ x2, P0 x1 x2 → P1 x1 x2 → P2 x1 x2 → P3 x1 x2 → Z) : Z := by
  obtain ⟨x1, x2, h1, h2, h3, h4⟩ := h
  exact k x1 x2 h1 h2 h3 h4
theorem ob_eeeaaaa {α1 : Type} {α2 : Type} {α3 : Type} {P0 : α1 → α2 → α3 → Prop} {P1 : α1 → α2 → α3 → Prop} {P2 : α1 → α2 → α3 → Prop} {P3 : α1 → α2 → α3 → Prop} {P4 : α1 → α2 → α3 → Prop} {Z : Prop} (h : ∃ x1, ∃ x2, ∃ x3, P0 x1 x2 x3 ∧ P1 x1 x2 x3 ∧ P2 x1 x2 x3 ∧ P3 x1 x2 x3 ∧ P4 x1 x2 x3) (k : ∀ x1, ∀ x2, ∀ x3, P0 x1 x2 x3 → P1 x1 x2 x3 → P2 x1 x2 x3 → P3 x1 x2 x3 → P4 x1 x2 x3 → Z) : Z := by
  obtain ⟨x1, x2, x3, h1, h2, h3, h4, h5⟩ := h
  exact k x1 x2 x3 h1 h2 h3 h4 h5
theorem ob_eeeeeeeeeaa {α1 : Type} {α2 : Type} {α3 : Type} {α4 : Type} {α5 : Type} {α6 : Type} {α7 : Type} {α8 : Type} {α9 : Type} {P0 : α1 → α2 → α3 → α4 → α5 → α6 → α7 → α8 → α9 → Prop} {P1 : α1 → α2 → α3 → α4 → α5 → α6 → α7 → α8 → α9 → Prop} {P2 : α1 → α2 → α3 → α4 → α5 → α6 → α7 → α8 → α9 → Prop} {Z : Prop} (h : ∃ x1, ∃ x2, ∃ x3, ∃ x4, ∃ x5, ∃ x6, ∃ x7, ∃ x8, ∃ x9, P0 x1 x2 x3 x4 x5 x6 x7 x8 x9 ∧ P1 x1 x2 x3 x4 x5 x6 x7 x8 x9 ∧ P2 x1 x2 x3 x4 x5 x6 x7 x8 x9) (k : ∀ x1, ∀ x2, ∀ x3, ∀ x4, ∀ x5, ∀ x6, ∀ x7, ∀ x8, ∀ x9, P0 x1 x2 x3 x4 x5 x6 x7 x8 x9 → P1 x1 x2 x3 x4 x5 x6 x7 x8 x9 → P2 x1 x2 x3 x4 x5 x6 x7 x8 x9 → Z) : Z := by
  obtain ⟨x1, x2, x3, x4, x5, x6, x7, x8, x9, h1, h2, h3⟩ := h
  exact k x1 x2 x3 x4 x5 x6 x7 x8 x9 h1 h2 h3
theorem ob_eeeeeeeeeeeeeeeeeaaa {α1 : Type} {α2 : Type} {α3 : Type} {α4 : Type} {α5 : Type} {α6 : Type} {α7 : Type} {α8 : Type} {α9 : Type} {α10 : Type} {α11 : Type} {α12 : Type} {α13 : Type} {α14 : Type} {α15 : Type} {α16 : Type} {α17 : Type} {P0 : α1 → α2 → α3 → α4 → α5 → α6 → α7 → α8 → α9 → α10 → α11 → α12 → α13 → α14 → α15 → α16 → α17 → Prop} {P1 : α1 → α2 → α3 → α4 → α5 → α6 → α7 → α8 → α9 → α10 → α11 → α12 → α13 → α14 → α15 → α16 → α17 → Prop} {P2 : α1 → α2 → α3 → α4 → α5 → α6 → α7 → α8 → α9 → α10 → α11 → α12 → α13 → α14 → α15 → α16 → α17 → Prop} {P3 : α1 → α2 → α3 → α4 → α5 → α6 → α7 → α8 → α9 → α10 → α11 → α12 → α13 → α14 → α15 → α16 → α17 → Prop} {Z : Prop} (h : ∃ x1, ∃ x2, ∃ x3, ∃ x4, ∃ x5, ∃ x6, ∃ x7, ∃ x8, ∃ x9, ∃ x10, ∃ x11, ∃ x12, ∃ x13, ∃ x14, ∃ x15, ∃ x16, ∃ x17, P0 x1 x2 x3 x4 x5 x6 x7 x8 x9 x10 x11 x12 x13 x14 x15 x16 x17 ∧ P1 x1 x2 x3 x4 x5 x6 x7 x8 x9 x10 x11 x12 x13 x14 x15 x16 x17 ∧ P2 x1 x2 x3 x4 x5 x6 x7 x8 x9 x10 x11 x12 x13 x14 x15 x16 x17 ∧ P3 x1 x2 x3 x4 x5 x6 x7 x8 x9 x10 x11 x12 x13 x14 x15 x16 x17) (k : ∀ x1, ∀ x2, ∀ x3, ∀ x4, ∀ x5, ∀ x6, ∀ x7, ∀ x8, ∀ x9, ∀ x10, ∀ x11, ∀ x12, ∀ x13, ∀ x14, ∀ x15, ∀ x16, ∀ x17, P0 x1 x2 x3 x4 x5 x6 x7 x8 x9 x10 x11 x12 x13 x14 x15 x16 x17 → P1 x1 x2 x3 x4 x5 x6 x7 x8 x9 x10 x11 x12 x13 x14 x15 x16 x17 → P2 x1 x2 x3 x4 x5 x6 x7 x8 x9 x10 x11 x12 x13 x14 x15 x16 x17 → P3 x1 x2 x3 x4 x5 x6 x7 x8 x9 x10 x11 x12 x13 x14 x15 x16 x17 → Z) : Z := by
  obtain ⟨x1, x2, x3, x4, x5, x6, x7, x8, x9, x10, x11, x12, x13, x14, x15, x16, x17, h1, h2, h3, h4⟩ := h
  exact k x1 x2 x3 x4 x5 x6 x7 x8 x9 x10 x11 x12 x13 x14 x15 x16 x17 h1 h2 h3 h4
open PySem PySem.Spec PyProof.Rows
noncomputable abbrev Key := Sum Int Str
noncomputable def keyIs : Key → Value → Bool
  | .inl k, v => Value.isInt k v
  | .inr x, v => Value.isStrOf x v
noncomputable def keyH (w : World) : Key → Int
  | .inl k => hashInt k
  | .inr x => hashStr w x
theorem keyIs_shape : ∀ {k : Key} {v : Value}, keyIs k v = true → (∃ i t, k = Sum.inl i ∧ v = Value.int i t) ∨ (∃ x t, k = Sum.inr x ∧ v = Value.str x t)
  | .inl i, v, h => by
    obtain ⟨t, e⟩ := Value.isInt_shape (k := i) (v := v) h
    exact .inl ⟨i, t, rfl, e⟩
  | .inr x, v, h => by
    obtain ⟨t, e⟩ := Value.isStrOf_shape (x := x) (v := v) h
    exact .inr ⟨x, t, rfl, e⟩
theorem keyIs_int (i : Int) (t : Tok) : keyIs (.inl i) (.int i t) = true := by simp [keyIs, Value.isInt]
theorem keyIs_str (x : Str) (t : Tok) : keyIs (.inr x) (.str x t) = true := by simp [keyIs, Value.isStrOf]
theorem key_ll (a b : Int) : decide ((Sum.inl a : Key) = Sum.inl b) = (a == b) := by
  by_cases e : a = b
  · subst e; simp
  · have h : ¬ (Sum.inl a : Key) = Sum.inl b := fun q => e (Sum.inl.inj q)
    rw [decide_eq_false h]
    exact (beq_eq_false_iff_ne.mpr e).symm
theorem key_rr (a b : Str) : decide ((Sum.inr a : Key) = Sum.inr b) = decide (a = b) := by
  by_cases e : a = b
  · subst e; simp
  · have h : ¬ (Sum.inr a : Key) = Sum.inr b := fun q => e (Sum.inr.inj q)
    rw [decide_eq_false h, decide_eq_false e]
theorem key_lr (a : Int) (b : Str) : decide ((Sum.inl a : Key) = Sum.inr b) = false := decide_eq_false (fun q => nomatch q)
theorem key_rl (a : Str) (b : Int) : decide ((Sum.inr a : Key) = Sum.inl b) = false := decide_eq_false (fun q => nomatch q)
noncomputable def mixKind (prog : Program) (w : World) : PySem.KeyKind prog w Key where
  is := keyIs
  hash := keyH w
  inj := fun v a b ha hb => by
    rcases keyIs_shape ha with ⟨i, t, rfl, rfl⟩ | ⟨x, t, rfl, rfl⟩
    · rcases keyIs_shape hb with ⟨j, u, rfl, e⟩ | ⟨y, u, rfl, e⟩
      · injection e with e1 _; rw [e1]
      · exact nomatch e
    · rcases keyIs_shape hb with ⟨j, u, rfl, e⟩ | ⟨y, u, rfl, e⟩
      · exact nomatch e
      · injection e with e1 _; rw [e1]
  byValue := fun k v h => by
    rcases keyIs_shape h with ⟨i, t, rfl, rfl⟩ | ⟨x, t, rfl, rfl⟩ <;> rfl
  pyHash := fun hv h => by
    rcases keyIs_shape hv with ⟨i, t, rfl, rfl⟩ | ⟨x, t, rfl, rfl⟩
    · exact wpAny_pyHash_int h
    · exact wpAny_pyHash_str h
  eqBool := fun hu hv h => by
    rcases keyIs_shape hu with ⟨i, t, rfl, rfl⟩ | ⟨x, t, rfl, rfl⟩
    · rcases keyIs_shape hv with ⟨j, u, rfl, rfl⟩ | ⟨y, u, rfl, rfl⟩
      · rw [key_ll] at h; exact wpAny_eqBool_int h
      · rw [key_lr] at h; exact SeqAt.EqAt.int_str i t y u _ _ _ _ h
    · rcases keyIs_shape hv with ⟨j, u, rfl, rfl⟩ | ⟨y, u, rfl, rfl⟩
      · rw [key_rl] at h; exact SeqAt.EqAt.str_int x t j u _ _ _ _ h
      · rw [key_rr] at h; exact wpAny_eqBool_str h
  «strs» := fun k x t v h => by
    rcases keyIs_shape h with ⟨i, u, rfl, e⟩ | ⟨y, u, rfl, e⟩
    · exact nomatch e
    · injection e with e1 _
      subst e1
      cases v <;> rfl
theorem mixKind_int (prog : Program) (w : World) (i : Int) (t : Tok) : (mixKind prog w).is (.inl i) (.int i t) = true := keyIs_int i t
theorem mixKind_str (prog : Program) (w : World) (x : Str) (t : Tok) : (mixKind prog w).is (.inr x) (.str x t) = true := keyIs_str x t
end L2

namespace L2
open PySem PySem.Spec PyProof.Rows
inductive V where
  | non | bl (b : Bool) | int (i : Int) | str (x : Str) | byt (b : Array UInt8) | flt (b : UInt64) | ref (a : Addr) | ty (n : String)
  deriving DecidableEq
noncomputable def RelV : V → Value → Prop
  | .non, u => u = Value.none
  | .bl b, u => u = Value.bool b
  | .int i, u => ∃ t, u = Value.int i t
  | .str x, u => ∃ t, u = Value.str x t
  | .byt b, u => ∃ t, u = Value.bytes b t
  | .flt b, u => ∃ t, u = Value.float b t
  | .ref a, u => u = Value.ref a
  | .ty n, u => u = Value.type n
noncomputable abbrev Vals : List V → List Value → Prop := Paired RelV
theorem Vals.length {xs : List V} {us : List Value} (r : Vals xs us) : xs.length = us.length := Paired.length r
theorem Vals.get {xs : List V} {us : List Value} {i : Nat} {x : V} (h : Vals xs us) (e : xs[i]? = some x) : ∃ u, us[i]? = some u ∧ RelV x u := by
  induction h generalizing i with
  | nil => exact L2.ns_ e
  | cons r t ih => cases i with
    | zero => exact ⟨_, rfl, Option.some.inj e ▸ r⟩
    | succ i => exact ih e
theorem Vals.set {x : V} {u : Value} (r : RelV x u) {xs : List V} {us : List Value} (i : Nat) (h : Vals xs us) : Vals (xs.set i x) (us.set i u) := by
  induction h generalizing i with
  | nil => exact .nil
  | cons q t ih => cases i with
    | zero => exact .cons r t
    | succ i => exact .cons q (ih i)
theorem Vals.append {xs ys : List V} {us ws : List Value} (h : Vals xs us) (s : Vals ys ws) : Vals (xs ++ ys) (us ++ ws) := by
  induction h with
  | nil => exact s
  | cons r _ ih => exact .cons r ih
theorem Vals.take {xs : List V} {us : List Value} (n : Nat) (h : Vals xs us) : Vals (xs.take n) (us.take n) := by
  induction h generalizing n with
  | nil => cases n <;> exact .nil
  | cons r t ih => cases n with
    | zero => exact .nil
    | succ n => exact .cons r (ih n)
theorem Vals.drop {xs : List V} {us : List Value} (n : Nat) (h : Vals xs us) : Vals (xs.drop n) (us.drop n) := by
  induction h generalizing n with
  | nil => cases n <;> exact .nil
  | cons r t ih => cases n with
    | zero => exact .cons r t
    | succ n => exact ih n
noncomputable def RelO : Option V → Option Value → Prop
  | some v, some u => RelV v u
  | none, none => True
  | _, _ => False
noncomputable def KV {κ : Type} : List (κ × V) → List (κ × Value) → Prop := Paired fun (p : κ × V) (q : κ × Value) => p.1 = q.1 ∧ RelV p.2 q.2
noncomputable def kV : Key → V
  | .inl i => .int i
  | .inr x => .str x
inductive HO where
  /-- a list -/
  | lst (xs : List V)
  /-- a tuple (never changes) -/
  | tup (xs : List V)
  /-- a dict whose keys are ints and texts; one whose keys are tuples of ints and texts (the empty one is both) -/
  | dK (kvs : List (Key × V)) | dT (kvs : List (List Key × V))
  /-- a set of ints: its members, its size -/
  | set (S : Int → Bool) (n : Nat)
  /-- an instance of the class at C, its dict at dx, its attributes -/
  | ins (C dx : Addr) (fs : List (Str × V))
  /-- the dict of the instance at x -/
  | own (x : Addr)
  /-- the dict of an exception -/
  | xd (fs : List (Str × V))
  /-- a bound method, f of x -/
  | met (f x : Addr)
  /-- a range object lo, lo + 1, .. below hi -/
  | rng (lo hi : Int)
  /-- a thing that is known to the object (the script; a dict while a loop walks it): read, never written while it is so -/
  | frz (o : Obj) (u : HO)
  /-- a code object's table -/
  | tbl (ps : Array Value)
  /-- any other thing, by what is true of its one object (a def of one's own: SetO a S n := HO.ext fun h => ..) -/
  | ext (φ : Heap → Prop)
noncomputable abbrev Hp := Addr → Option HO
noncomputable def upd (H : Hp) (a : Addr) (o : HO) : Hp := fun b => if b = a then some o else H b
theorem upd_same {H : Hp} {a : Addr} {o : HO} : upd H a o a = some o := by unfold upd; rw [if_pos rfl]
theorem upd_ne {H : Hp} {a b : Addr} {o : HO} (h : b ≠ a) : upd H a o b = H b := by unfold upd; rw [if_neg h]
theorem ne_of {H : Hp} {a b : Addr} {o u : HO} (h : H a = some o) (h' : H b = some u) (d : o ≠ u) : a ≠ b := by
  intro e; subst e; rw [h] at h'; exact d (Option.some.inj h')
theorem ne_of_none {H : Hp} {a b : Addr} {o : HO} (h : H a = some o) (h' : H b = none) : a ≠ b := by
  intro e; subst e; rw [h] at h'; exact L2.sn_ h'
section
variable (P : Program) (w : World)
noncomputable def ObjOk (H : Hp) (h : Heap) (a : Addr) : HO → Prop
  | .lst xs => xs.length ≤ sizeLine ∧ ∃ (its : List Value) (n : Nat), Vals xs its ∧ h.get? a = some { cls := .type "list", data := .seq its.toArray n }
  | .tup xs => xs.length ≤ sizeLine ∧ ∃ its : List Value, Vals xs its ∧ IsTup h a its.toArray
  | .dK kvs => kvs.length ≤ sizeLine ∧ (a == sysModules) = false ∧ ∃ vs, KV kvs vs ∧ h.DictOf (mixKind P w) a vs
  | .dT kvs => kvs.length ≤ sizeLine ∧ (a == sysModules) = false ∧ ∃ xs : List (List Key × Addr × Value),
      Paired (fun (p : List Key × V) (q : List Key × Addr × Value) => p.1 = q.1 ∧ H q.2.1 = some (.tup (p.1.map kV)) ∧ RelV p.2 q.2.2) kvs xs ∧
      ∃ o es ep, h.get? a = some o ∧ o.ExactDict ∧ o.data = .dict es ep ∧ es.toList = xs.map (entryOfKey (tupleKind (mixKind P w))) ∧ (xs.map (·.1)).Nodup
  | .set S n => h.SetOf (intKind P w) a S n
  | .ins C dx fs => H dx = some (.own a) ∧ fs.length ≤ 1000 ∧ dx ≠ a ∧ h.get? a = some (PySem.W.instObj C dx) ∧
      ∃ mA, h.Ns1 dx mA ∧ (∀ f, RelO (fs.lookup f) (mA f)) ∧ PySem.Within mA (fs.map (·.1))
  | .own _ => ∃ o, h.get? a = some o
  | .xd fs => ∃ mA, h.Ns1 a mA ∧ ∀ f, RelO (fs.lookup f) (mA f)
  | .rng lo hi => ∃ t u v, h.get? a = some { cls := .type "range", data := .fields #[.int lo t, .int hi u, .int 1 v] }
  | .frz o u => h.get? a = some o ∧ ObjOk H h a u
  | .tbl ps => h.get? a = some { cls := .none, data := .fields ps }
  | .met f x => h.get? a = some (PySem.W.methodObj (.ref f) (.ref x))
  | .ext φ => φ h ∧ (∃ o, h.get? a = some o) ∧ ∀ h1 h2 : Heap, φ h1 → (∀ o, h1.get? a = some o → h2.get? a = some o) → φ h2
noncomputable def HOk (H : Hp) (h : Heap) : Prop := ∀ a o, H a = some o → ObjOk P w H h a o
end

section
variable {P : Program} {w : World} {H H' : Hp} {h h' : Heap} {a : Addr} {o : HO}
theorem ObjOk.lt (x : ObjOk P w H h a o) : a < h.objs.size := by
  cases o with
  | lst xs => obtain ⟨_, _, _, _, e⟩ := x; exact Heap.lt_size e
  | tup xs => obtain ⟨_, _, _, p⟩ := x; exact p.lt
  | dK kvs => obtain ⟨_, _, _, _, o, _, _, e, _⟩ := x; exact Heap.lt_size e
  | dT kvs => obtain ⟨_, _, _, _, o, _, _, e, _⟩ := x; exact Heap.lt_size e
  | set S n => obtain ⟨o, _, _, _, e, _⟩ := x; exact Heap.lt_size e
  | ins C dx fs => obtain ⟨_, _, _, e, _⟩ := x; exact Heap.lt_size e
  | own y => obtain ⟨_, e⟩ := x; exact Heap.lt_size e
  | xd fs => obtain ⟨_, ⟨_, _, _, e, _⟩, _⟩ := x; exact Heap.lt_size e
  | rng lo hi => obtain ⟨_, _, _, e⟩ := x; exact Heap.lt_size e
  | frz ob u => obtain ⟨e, _⟩ := x; exact Heap.lt_size e
  | tbl ps => exact Heap.lt_size (show h.get? a = some _ from x)
  | met f y => exact Heap.lt_size (show h.get? a = some _ from x)
  | ext φ => obtain ⟨_, ⟨_, e⟩, _⟩ := x; exact Heap.lt_size e
theorem Paired.mapP {α β : Type} {F G : α → β → Prop} {l₁ : List α} {l₂ : List β} (r : Paired F l₁ l₂) (f : ∀ a b, F a b → G a b) : Paired G l₁ l₂ := by
  induction r with
  | nil => exact .nil
  | cons r _ ih => exact .cons (f _ _ r) ih
theorem ObjOk.stay (x : ObjOk P w H h a o) (k : ∀ b u, (b = a ∨ H b = some (.own a)) → h.get? b = some u → h'.get? b = some u)
    (ho : ∀ b, H b = some (.own a) → H' b = some (.own a)) (ht : ∀ b xs, H b = some (.tup xs) → H' b = some (.tup xs)) : ObjOk P w H' h' a o := by
  induction o with
  | lst xs => obtain ⟨z, its, n, r, e⟩ := x; exact ⟨z, its, n, r, k _ _ (.inl rfl) e⟩
  | tup xs => obtain ⟨z, its, r, ob, e, c⟩ := x; exact ⟨z, its, r, ob, k _ _ (.inl rfl) e, c⟩
  | dK kvs => obtain ⟨z, y, vs, r, ob, es, ep, e, c⟩ := x; exact ⟨z, y, vs, r, ob, es, ep, k _ _ (.inl rfl) e, c⟩
  | dT kvs =>
    obtain ⟨z, y, xs, r, ob, es, ep, e, c⟩ := x
    exact ⟨z, y, xs, Paired.mapP r fun p q z => ⟨z.1, ht _ _ z.2.1, z.2.2⟩, ob, es, ep, k _ _ (.inl rfl) e, c⟩
  | set S n => obtain ⟨ob, es, ep, t, e, c⟩ := x; exact ⟨ob, es, ep, t, k _ _ (.inl rfl) e, c⟩
  | ins C dx fs =>
    obtain ⟨d, z, ne, e, mA, ⟨od, es, ep, e2, c⟩, r⟩ := x
    exact ⟨ho _ d, z, ne, k _ _ (.inl rfl) e, mA, ⟨od, es, ep, k _ _ (.inr d) e2, c⟩, r⟩
  | own y => obtain ⟨ob, e⟩ := x; exact ⟨ob, k _ _ (.inl rfl) e⟩
  | xd fs => obtain ⟨mA, ⟨od, es, ep, e, c⟩, r⟩ := x; exact ⟨mA, ⟨od, es, ep, k _ _ (.inl rfl) e, c⟩, r⟩
  | rng lo hi => obtain ⟨t, u, v, e⟩ := x; exact ⟨t, u, v, k _ _ (.inl rfl) e⟩
  | frz ob u ih => obtain ⟨e, q⟩ := x; exact ⟨k _ _ (.inl rfl) e, ih q⟩
  | tbl ps =>
    have e : h.get? a = some { cls := .none, data := .fields ps } := x
    show h'.get? a = some { cls := .none, data := .fields ps }
    exact k a _ (.inl rfl) e
  | met f y =>
    have e : h.get? a = some (PySem.W.methodObj (.ref f) (.ref y)) := x
    show h'.get? a = some (PySem.W.methodObj (.ref f) (.ref y))
    exact k a _ (.inl rfl) e
  | ext φ => obtain ⟨p, ⟨o, e⟩, st⟩ := x; exact ⟨st _ _ p fun o q => k _ _ (.inl rfl) q, ⟨o, k _ _ (.inl rfl) e⟩, st⟩
theorem HOk.lt (x : HOk P w H h) (e : H a = some o) : a < h.objs.size := (x a o e).lt
theorem HOk.fresh (x : HOk P w H h) (e : h.objs.size ≤ a) : H a = none := by
  cases q : H a with
  | none => rfl
  | some u => exact absurd (Nat.lt_of_lt_of_le (x.lt q) e) (Nat.lt_irrefl _)
theorem HOk.kept (x : HOk P w H h) (k : ∀ b u, h.get? b = some u → h'.get? b = some u) : HOk P w H h' := fun a o e =>
  (x a o e).stay (fun b u _ q => k b u q) (fun _ q => q) fun _ _ q => q
theorem HOk.laid (x : HOk P w H h) (k : ∀ b u, h.get? b = some u → h'.get? b = some u) (hp : h.objs.size ≤ a) (new : ObjOk P w (upd H a o) h' a o) : HOk P w (upd H a o) h' := fun b u e => by
  have hn := x.fresh hp
  by_cases hb : b = a
  · subst hb; rw [upd_same] at e; obtain rfl := Option.some.inj e; exact new
  · rw [upd_ne hb] at e
    exact (x b u e).stay (fun c v _ q => k c v q) (fun c q => by rw [upd_ne (ne_of_none q hn)]; exact q) fun c xs q => by rw [upd_ne (ne_of_none q hn)]; exact q
end

noncomputable def Rd (H : Hp) (a : Addr) (u : HO) : Prop := H a = some u ∨ ∃ o, H a = some (.frz o u)
theorem Rd.ok {P : Program} {w : World} {H : Hp} {h : Heap} {a : Addr} {u : HO} (r : Rd H a u) (x : HOk P w H h) : ObjOk P w H h a u := by
  rcases r with r | ⟨o, r⟩
  · exact x a u r
  · obtain ⟨_, q⟩ := x a _ r
    exact q
noncomputable def Mut : Option HO → Prop
  | some (.lst _) => True
  | some (.dK _) => True
  | some (.dT _) => True
  | some (.set _ _) => True
  | some (.ins _ _ _) => True
  | some (.ext _) => True
  | _ => False
section
variable {P : Program} {w : World} {H : Hp} {h h' : Heap} {x e : Addr} {o' : HO}
theorem HOk.write (ok : HOk P w H h) (mu : Mut (H x)) (he : e = x ∨ H e = some (.own x)) (k : ∀ b u, b ≠ e → h.get? b = some u → h'.get? b = some u) (heo : ∃ u, h'.get? e = some u)
    (new : ObjOk P w (upd H x o') h' x o') : HOk P w (upd H x o') h' := fun b u q => by
  have nown : ∀ c y, H c = some (.own y) → c ≠ x := fun c y r z => by subst z; rw [r] at mu; exact mu
  have ntup : ∀ c xs, H c = some (.tup xs) → c ≠ x := fun c xs r z => by subst z; rw [r] at mu; exact mu
  by_cases hb : b = x
  · subst hb; rw [upd_same] at q; obtain rfl := Option.some.inj q; exact new
  · rw [upd_ne hb] at q
    by_cases hbe : b = e
    · have q' : H b = some (.own x) := by
        rcases he with z | z
        · exact absurd (hbe.trans z) hb
        · rw [hbe]; exact z
      rw [q] at q'; obtain rfl := Option.some.inj q'
      obtain ⟨v, hv⟩ := heo
      exact ⟨v, by rw [hbe]; exact hv⟩
    · refine (ok b u q).stay (fun c v hc r => k c v ?_ r) (fun c r => by rw [upd_ne (nown c b r)]; exact r) fun c xs r => by rw [upd_ne (ntup c xs r)]; exact r
      rcases hc with rfl | hc
      · exact hbe
      · rintro rfl
        rcases he with z | z
        · exact nown c b hc z
        · rw [hc] at z; cases z; exact hb rfl
end

structure Un (fs ex : List Addr) (H H' : Hp) (h h' : Heap) : Prop where
  keep : ∀ b o, h.get? b = some o → H b = none → b ∉ fs → b ∉ ex → h'.get? b = some o
  slot : ∀ b o, h.get? b = some o → H b = none → b ∈ fs → b ∉ ex → ∃ sl, h'.get? b = some { o with slots := sl }
  free : ∀ b o, h.get? b = some o → H b = none → b ∉ ex → H' b = none
  there : ∀ b o, h.get? b = some o → b ∉ ex → ∃ o', h'.get? b = some o'
  tups : ∀ b xs, H b = some (.tup xs) → H' b = some (.tup xs)
  frzs : ∀ b o u, H b = some (.frz o u) → H' b = some (.frz o u)
  tbls : ∀ b ps, H b = some (.tbl ps) → ∃ more, H' b = some (.tbl (ps ++ more))
section
variable {fs fs' ex ex' : List Addr} {H H1 H2 : Hp} {h h1 h2 h' : Heap} {a x e : Addr} {o : HO}
theorem Un.any (u : Un fs ex H H1 h h1) {b : Addr} {ob : Obj} (q : h.get? b = some ob) (n : H b = none) (hx : b ∉ ex) : ∃ sl, h1.get? b = some { ob with slots := sl } := by
  by_cases hb : b ∈ fs
  · exact u.slot b ob q n hb hx
  · exact ⟨ob.slots, u.keep b ob q n hb hx⟩
theorem Un.kept (k : ∀ b u, h.get? b = some u → h'.get? b = some u) : Un fs ex H H h h' :=
  ⟨fun b ob q _ _ _ => k b ob q, fun b ob q _ _ _ => ⟨ob.slots, k b ob q⟩, fun _ _ _ n _ => n, fun b ob q _ => ⟨ob, k b ob q⟩, fun _ _ q => q, fun _ _ _ q => q, fun _ ps q => ⟨#[], by rw [q]; simp⟩⟩
theorem Un.refl : Un fs ex H H h h := Un.kept fun _ _ q => q
theorem Un.laid (k : ∀ b u, h.get? b = some u → h'.get? b = some u) (hp : h.objs.size ≤ a) (hn : H a = none) : Un fs ex H (upd H a o) h h' where
  keep := fun b u q _ _ _ => k b u q
  slot := fun b u q _ _ _ => ⟨u.slots, k b u q⟩
  free := fun b u q n _ => by rw [upd_ne (Nat.ne_of_lt (Nat.lt_of_lt_of_le (Heap.lt_size q) hp))]; exact n
  there := fun b u q _ => ⟨u, k b u q⟩
  tups := fun b xs q => by rw [upd_ne (ne_of_none q hn)]; exact q
  frzs := fun b u xs q => by rw [upd_ne (ne_of_none q hn)]; exact q
  tbls := fun b ps q => ⟨#[], by rw [upd_ne (ne_of_none q hn), q]; simp⟩
theorem Un.write (mu : Mut (H x)) (he : e = x ∨ H e = some (.own x)) (k : ∀ b u, b ≠ e → h.get? b = some u → h'.get? b = some u) (heo : ∃ u, h'.get? e = some u) : Un fs ex H (upd H x o) h h' := by
  have hx : ∀ b, H b = none → b ≠ x := fun b n z => by subst z; rw [n] at mu; exact mu
  have hb : ∀ b, H b = none → b ≠ e := fun b n z => by
    subst z
    rcases he with r | r
    · exact hx b n r
    · rw [n] at r; exact L2.ns_ r
  have hm : ∀ b u, H b = some u → ¬ Mut (some u) → b ≠ x := fun b u q nm z => by subst z; rw [q] at mu; exact nm mu
  refine ⟨fun b u q n _ _ => k b u (hb b n) q, fun b u q n _ _ => ⟨u.slots, k b u (hb b n) q⟩, fun b u q n _ => by rw [upd_ne (hx b n)]; exact n, fun b u q _ => ?_,
    fun b xs q => by rw [upd_ne (hm b _ q fun z => z)]; exact q, fun b u xs q => by rw [upd_ne (hm b _ q fun z => z)]; exact q, fun b ps q => ⟨#[], by rw [upd_ne (hm b _ q fun z => z), q]; simp⟩⟩
  by_cases hbe : b = e
  · subst hbe; exact heo
  · exact ⟨u, k b u hbe q⟩
end

noncomputable def trk (h : Heap) (H : Hp) : List Addr := (List.range h.objs.size).filter fun a => (H a).isSome
noncomputable def hidT (h : Heap) (H : Hp) : Heap := PySem.W.hideAll h (trk h H)
theorem hidT_size (h : Heap) (H : Hp) : (hidT h H).objs.size = h.objs.size := PySem.W.hideAll_size _ _
theorem hidT_get {h : Heap} {H : Hp} {b : Addr} {o : Obj} (e : h.get? b = some o) (n : H b = none) : (hidT h H).get? b = some o :=
  PySem.W.hideAll_get _ e fun hm => by
    have q : (H b).isSome = true := (List.mem_filter.mp hm).2
    rw [n] at q; simp at q
theorem of_hidT {h : Heap} {H : Hp} {b : Addr} {o : Obj} (e : (hidT h H).get? b = some o) : h.get? b = some o ∧ H b = none := by
  have e' : h.get? b = some o := PySem.W.of_hideAll (trk h H) e
  refine ⟨e', ?_⟩
  cases q : H b with
  | none => rfl
  | some x =>
    have hm : b ∈ trk h H := List.mem_filter.mpr ⟨List.mem_range.mpr (Heap.lt_size e'), by simp [q]⟩
    have z : (hidT h H).get? b = none := PySem.W.hideAll_none (trk h H) hm
    rw [z] at e; exact L2.ns_ e
end L2

namespace L2
open PySem PySem.Spec PyProof.Rows
structure Mod (K : PySem.W.Frag) (mg : Str → Option Value) (base : Heap) : Prop where
  kin : K.In base
  glob : base.Ns mainGlobals mg
  blt : ∃ mb, base.Ns builtinsNs mb ∧ ∀ x : Str, x ≠ "__name__" → mb x = bootBuiltins x
  nolimit : base.NoLimit
structure Cx where
  prog : Program
  w : World
  K : PySem.W.Frag
  mg : Str → Option Value
  base : Heap
  A : Around
  N : List Str
  s₀ : Shared
  H₀ : Hp
  env : Env
  outer : List Env
  stack : List Env
  ex : List Addr
  fn : Str → Bool
  calm : Bool
  pn : List (Addr × Obj)
  xe : Value → Shared → Prop
noncomputable def frs (l : List Env) : List Addr := l.filterMap (·.frame)
noncomputable abbrev Cx.fs (X : Cx) : List Addr := frs X.outer
noncomputable def Vis (sc : Scope) (x : Str) : Prop := sc.names.lookup x = some .local ∨ sc.names.lookup x = some .cell ∨ sc.names.lookup x = some .free
noncomputable def Loc (sc : Scope) (x : Str) : Prop := sc.names.lookup x = some .local ∨ sc.names.lookup x = some .cell
noncomputable def Look (env : Env) (h : Heap) (m : Str → Option Value) (x : Str) (u : Value) : Prop :=
  (env.kindOf x = some .local ∧ m x = some u) ∨ ((env.kindOf x = some .cell ∨ env.kindOf x = some .free) ∧ ∃ c, env.cells.lookup x = some c ∧ h.IsCell c (some u))
structure Cx.Ok (X : Cx) : Prop where
  mod : Mod X.K X.mg X.base
  kind : X.env.scope.kind = .function
  glob : X.env.globals = mainGlobals
  blt : X.env.builtins = builtinsNs
  above : X.s₀.heap.objs.size ≤ X.env.locals
  inj : ∀ x y c, X.env.cells.lookup x = some c → X.env.cells.lookup y = some c → x = y
  has : ∀ x, (X.env.kindOf x = some .cell ∨ X.env.kindOf x = some .free) → ∃ c, X.env.cells.lookup x = some c
  cab : ∀ x c, X.fn x = true → X.env.cells.lookup x = some c → X.s₀.heap.objs.size ≤ c
  hd : X.calm = true → X.A.handled = none
  frames : X.A.frames = some X.stack
  stk : X.stack = X.outer ∨ (X.stack = X.env :: X.outer ∧ X.env.frame = some X.env.locals)
  exf : ∀ b ∈ X.ex, b ≠ X.env.locals ∧ ∀ x c, X.env.cells.lookup x = some c → c ≠ b
  bs : ∀ b o, X.base.get? b = some o → X.s₀.heap.get? b = some o ∧ X.H₀ b = none
  bsz : X.base.objs.size ≤ X.s₀.heap.objs.size
  noex : ∀ b o, X.base.get? b = some o → b ∉ X.ex
  exfs : ∀ b ∈ X.ex, b ∉ X.fs
  funs : X.s₀.heap.FunFrames X.base X.outer
  frf : ∀ b ∈ X.fs, X.H₀ b = none
structure Inv (X : Cx) (pins : List (Addr × Obj)) (σ : List (Option V)) (H : Hp) (s : Shared) : Prop where
  ok : X.Ok
  os : s.os = X.s₀.os
  bare : AllBare s.gens
  base : Un X.fs X.ex X.H₀ H X.s₀.heap s.heap
  loc : ∃ m, s.heap.Ns X.env.locals m ∧ ∀ (i : Nat) (x : Str) (v : V), X.N[i]? = some x → σ[i]? = some (some v) → Vis X.env.scope x → ∃ u, RelV v u ∧ Look X.env s.heap m x u
  cell : ∀ x c, X.env.cells.lookup x = some c → ∃ v, s.heap.IsCell c v
  free : H X.env.locals = none
  freeC : ∀ x c, X.env.cells.lookup x = some c → H c = none
  pin : ∀ p ∈ X.pn ++ pins, s.heap.get? p.1 = some p.2 ∧ H p.1 = none ∧ p.1 ≠ X.env.locals ∧ p.1 ∉ X.fs ∧ ∀ v, p.2.data ≠ .cell v
  hok : HOk X.prog X.w H s.heap
  len : σ.length = X.N.length
section
variable {X : Cx} {pins : List (Addr × Obj)} {σ : List (Option V)} {H H' : Hp} {s : Shared} {h' : Heap}
theorem Cx.Ok.nofr (ok : X.Ok) {b : Addr} {o : Obj} (e : X.base.get? b = some o) : b ∉ X.fs := fun hb => by
  have := (ok.funs.mem hb).1
  rw [e] at this; exact L2.sn_ this
theorem Inv.bs (I : Inv X pins σ H s) : ∀ b o, X.base.get? b = some o → s.heap.get? b = some o ∧ H b = none := fun b o e =>
  ⟨I.base.keep b o (I.ok.bs b o e).1 (I.ok.bs b o e).2 (I.ok.nofr e) (I.ok.noex b o e), I.base.free b o (I.ok.bs b o e).1 (I.ok.bs b o e).2 (I.ok.noex b o e)⟩
theorem Inv.bk (I : Inv X pins σ H s) : ∀ b o, X.base.get? b = some o → s.heap.get? b = some o := fun b o e => (I.bs b o e).1
theorem Inv.mod (I : Inv X pins σ H s) : Mod X.K X.mg X.base := I.ok.mod
theorem Inv.kIn (I : Inv X pins σ H s) : X.K.In s.heap := I.ok.mod.kin.keeps I.bk
theorem Inv.nolimit (I : Inv X pins σ H s) : s.heap.NoLimit := I.ok.mod.nolimit.keeps I.bk
theorem Inv.lt (I : Inv X pins σ H s) : X.env.locals < s.heap.objs.size := let ⟨_, hn, _⟩ := I.loc; hn.lt
theorem Inv.sz (I : Inv X pins σ H s) : X.s₀.heap.objs.size ≤ s.heap.objs.size := Nat.le_trans I.ok.above (Nat.le_of_lt I.lt)
theorem Inv.nofs (I : Inv X pins σ H s) {a : Addr} (h : s.heap.objs.size ≤ a) : a ∉ X.fs := fun hb => by
  obtain ⟨_, o, ho, _⟩ := I.ok.funs.mem hb
  exact absurd (Nat.lt_of_lt_of_le (Heap.lt_size ho) (Nat.le_trans I.sz h)) (Nat.lt_irrefl _)
theorem Inv.cne (I : Inv X pins σ H s) : ∀ x c, X.env.cells.lookup x = some c → c ≠ X.env.locals := fun x c e z => by
  obtain ⟨v, o, ho, hd⟩ := I.cell x c e
  obtain ⟨m, ⟨o', es, ep, ho', hd', _⟩, _⟩ := I.loc
  rw [z, ho'] at ho; obtain rfl := Option.some.inj ho; rw [hd'] at hd; cases hd
theorem Inv.funs (I : Inv X pins σ H s) : s.heap.FunFrames X.base X.outer := by
  have all : ∀ (l : List Env), (∀ b ∈ frs l, b ∈ X.fs) → X.s₀.heap.FunFrames X.base l → s.heap.FunFrames X.base l := by
    intro l
    induction l with
    | nil => intro _ _; trivial
    | cons env r ih =>
      intro hs hl
      obtain ⟨hk, ⟨L, o, hf, hn, ho, hd⟩, hr⟩ := hl
      have hL : L ∈ X.fs := hs L (by unfold frs; rw [List.filterMap_cons, hf]; exact List.mem_cons_self)
      obtain ⟨sl, e⟩ := I.base.slot L o ho (I.ok.frf L hL) hL fun z => I.ok.exfs L z hL
      exact ⟨hk, ⟨L, _, hf, hn, e, hd⟩, ih (fun b hb => hs b (by unfold frs; rw [List.filterMap_cons, hf]; exact List.mem_cons_of_mem _ hb)) hr⟩
  exact all X.outer (fun _ hb => hb) I.ok.funs
theorem Inv.stack (I : Inv X pins σ H s) : s.heap.FunFrames X.base X.stack := by
  rcases I.ok.stk with e | ⟨e, hf⟩
  · rw [e]; exact I.funs
  · rw [e]
    obtain ⟨m, hn, _⟩ := I.loc
    refine .cons (by rw [I.ok.kind]; decide) hf hn ?_ I.funs
    exact Heap.get?_none_of_le (Nat.le_trans I.ok.bsz I.ok.above)
theorem Inv.stkSub (I : Inv X pins σ H s) : ∀ b ∈ frs X.stack, b ∈ X.env.locals :: X.fs := fun b hb => by
  rcases I.ok.stk with e | ⟨e, hf⟩
  · rw [e] at hb; exact List.mem_cons_of_mem _ hb
  · rw [e] at hb
    unfold frs at hb
    rw [List.filterMap_cons, hf] at hb
    exact hb
theorem Inv.stkFree (I : Inv X pins σ H s) : ∀ b ∈ frs X.stack, H b = none := fun b hb => by
  rcases List.mem_cons.mp (I.stkSub b hb) with e | hb
  · rw [e]; exact I.free
  · obtain ⟨_, o, ho, _⟩ := I.ok.funs.mem hb
    exact I.base.free b o ho (I.ok.frf b hb) fun z => I.ok.exfs b z hb
theorem Inv.step {g' : Array GenState} {t' : Nat} {d' : Drawn} {ch : List Addr} (I : Inv X pins σ H s)
    (hch : ∀ b ∈ ch, (b ∈ X.ex ∨ X.s₀.heap.objs.size ≤ b) ∧ b ≠ X.env.locals ∧ (∀ x c, X.env.cells.lookup x = some c → c ≠ b) ∧ ∀ p ∈ X.pn ++ pins, p.1 ≠ b)
    (keep : ∀ b o, b ≠ X.env.locals → b ∉ X.fs → b ∉ ch → s.heap.get? b = some o → H b = none → h'.get? b = some o)
    (slot : ∀ b o, b ≠ X.env.locals → b ∈ X.fs → b ∉ ch → s.heap.get? b = some o → H b = none → ∃ sl, h'.get? b = some { o with slots := sl }) (free : ∀ b o, b ∉ ch → s.heap.get? b = some o → H b = none → H' b = none)
    (there : ∀ b o, b ∉ ch → s.heap.get? b = some o → ∃ o', h'.get? b = some o')
    (tups : ∀ b xs, H b = some (.tup xs) → H' b = some (.tup xs)) (frzs : ∀ b o u, H b = some (.frz o u) → H' b = some (.frz o u)) (tbls : ∀ b ps, H b = some (.tbl ps) → ∃ more, H' b = some (.tbl (ps ++ more)))
    (ns : ∀ m, s.heap.Ns X.env.locals m → h'.Ns X.env.locals m) (hok : HOk X.prog X.w H' h') (hg : AllBare g') :
    Inv X pins σ H' { s with heap := h', gens := g', drawn := d', toks := t' } := by
  have neL : ∀ b o, X.s₀.heap.get? b = some o → b ≠ X.env.locals := fun b o e => Nat.ne_of_lt (Nat.lt_of_lt_of_le (Heap.lt_size e) I.ok.above)
  have neC : ∀ b o, X.s₀.heap.get? b = some o → b ∉ X.ex → b ∉ ch := fun b o e hx hb => by
    rcases (hch b hb).1 with z | z
    · exact hx z
    · exact absurd (Nat.lt_of_lt_of_le (Heap.lt_size e) z) (Nat.lt_irrefl _)
  have cellK : ∀ x c, X.env.cells.lookup x = some c → ∀ v, s.heap.IsCell c v → h'.IsCell c v := fun x c e v ⟨o, ho, hd⟩ => by
    have nch : c ∉ ch := fun z => (hch c z).2.2.1 x c e rfl
    by_cases hc : c ∈ X.fs
    · obtain ⟨sl, q⟩ := slot c o (I.cne x c e) hc nch ho (I.freeC x c e)
      exact ⟨_, q, hd⟩
    · exact ⟨o, keep c o (I.cne x c e) hc nch ho (I.freeC x c e), hd⟩
  refine ⟨I.ok, I.os, hg, ⟨fun b o e n hb hx => ?_, fun b o e n hb hx => ?_, fun b o e n hx => ?_, fun b o e hx => ?_, fun b xs e => tups b xs (I.base.tups b xs e), fun b o xs e => frzs b o xs (I.base.frzs b o xs e), fun b ps e => ?_⟩, ?_, fun x c e => ?_, ?_, fun x c e => ?_, fun p hp => ?_, hok, I.len⟩
  · exact keep b o (neL b o e) hb (neC b o e hx) (I.base.keep b o e n hb hx) (I.base.free b o e n hx)
  · obtain ⟨sl, e1⟩ := I.base.slot b o e n hb hx
    obtain ⟨sl', e2⟩ := slot b _ (neL b o e) hb (neC b o e hx) e1 (I.base.free b o e n hx)
    exact ⟨sl', e2⟩
  · obtain ⟨o', e1⟩ := I.base.there b o e hx
    exact free b o' (neC b o e hx) e1 (I.base.free b o e n hx)
  · obtain ⟨o', e1⟩ := I.base.there b o e hx
    exact there b o' (neC b o e hx) e1
  · obtain ⟨m1, e1⟩ := I.base.tbls b ps e
    obtain ⟨m2, e2⟩ := tbls b _ e1
    exact ⟨m1 ++ m2, by rw [e2, Array.append_assoc]⟩
  · refine L2.ob_ea I.loc fun m hn hl => ?_
    refine ⟨m, ns m hn, fun i x v e1 e2 e3 => ?_⟩
    obtain ⟨u, r, l⟩ := hl i x v e1 e2 e3
    refine ⟨u, r, ?_⟩
    rcases l with l | ⟨k, c, e, z⟩
    · exact .inl l
    · exact .inr ⟨k, c, e, cellK x c e _ z⟩
  · obtain ⟨v, z⟩ := I.cell x c e
    exact ⟨v, cellK x c e v z⟩
  · obtain ⟨m, ⟨o, _, _, ho, _⟩, _⟩ := I.loc
    exact free _ o (fun z => (hch _ z).2.1 rfl) ho I.free
  · obtain ⟨v, o, ho, hd⟩ := I.cell x c e
    exact free c o (fun z => (hch c z).2.2.1 x c e rfl) ho (I.freeC x c e)
  · refine L2.ob_aaaa (I.pin p hp) fun e n ne nf d => ?_
    have nch : p.1 ∉ ch := fun z => (hch p.1 z).2.2.2 p hp rfl
    exact ⟨keep p.1 p.2 ne nf nch e n, free p.1 p.2 nch e n, ne, nf, d⟩
theorem Inv.un {t' : Nat} (I : Inv X pins σ H s) (u : Un X.fs [] H H' s.heap h') (hok : HOk X.prog X.w H' h') : Inv X pins σ H' { s with heap := h', toks := t' } := by
  obtain ⟨m, ⟨o, es, ep, ho, r⟩, _⟩ := id I.loc
  obtain ⟨sl, hL⟩ := u.any ho I.free (by simp)
  exact I.step (g' := s.gens) (d' := s.drawn) (ch := []) (fun _ z => nomatch z) (fun b o _ hb _ e n => u.keep b o e n hb (by simp)) (fun b o _ hb _ e n => u.slot b o e n hb (by simp)) (fun b o _ e n => u.free b o e n (by simp)) (fun b o _ e => u.there b o e (by simp)) u.tups u.frzs u.tbls (fun m' hm => by
    obtain ⟨o', es', ep', ho', r'⟩ := hm
    rw [ho] at ho'; cases ho'
    exact ⟨_, es', ep', hL, r'⟩) hok I.bare
theorem Inv.call {g' : Array GenState} {t' : Nat} {d' : Drawn} {ch : List Addr} (I : Inv X pins σ H s) (u : Un (frs X.stack) ch H H' s.heap h') (hok : HOk X.prog X.w H' h') (hg : AllBare g')
    (hch : ∀ b ∈ ch, (b ∈ X.ex ∨ X.s₀.heap.objs.size ≤ b) ∧ b ≠ X.env.locals ∧ (∀ x c, X.env.cells.lookup x = some c → c ≠ b) ∧ ∀ p ∈ X.pn ++ pins, p.1 ≠ b) :
    Inv X pins σ H' { s with heap := h', gens := g', drawn := d', toks := t' } := by
  obtain ⟨m, ⟨o, es, ep, ho, r⟩, _⟩ := id I.loc
  obtain ⟨sl, hL⟩ := u.any ho I.free fun z => (hch _ z).2.1 rfl
  exact I.step (ch := ch) hch (fun b o hL hb hc e n => u.keep b o e n (fun z => (List.mem_cons.mp (I.stkSub b z)).elim hL hb) hc) (fun b o _ _ hc e n => u.any e n hc) (fun b o hc e n => u.free b o e n hc) (fun b o hc e => u.there b o e hc) u.tups u.frzs u.tbls (fun m' hm => by
    obtain ⟨o', es', ep', ho', r'⟩ := hm
    rw [ho] at ho'; cases ho'
    exact ⟨_, es', ep', hL, r'⟩) hok hg
theorem Inv.turned {t' : Nat} {it : Addr} (I : Inv X pins σ H s) (k : ∀ b o, b ≠ it → s.heap.get? b = some o → h'.get? b = some o) (hn : H it = none) (hL : it ≠ X.env.locals)
    (h1 : it ∈ X.ex ∨ X.s₀.heap.objs.size ≤ it) (h2 : ∀ x c, X.env.cells.lookup x = some c → c ≠ it) (h3 : ∀ p ∈ X.pn ++ pins, p.1 ≠ it) : Inv X pins σ H { s with heap := h', toks := t' } := by
  have nit : ∀ b u, H b = some u → b ≠ it := fun b u e z => by rw [z, hn] at e; exact L2.ns_ e
  refine I.step (g' := s.gens) (d' := s.drawn) (ch := [it]) (fun b hb => ?_) (fun b o _ _ hc e _ => k b o (fun z => hc (by simp [z])) e) (fun b o _ _ hc e _ => ⟨o.slots, k b o (fun z => hc (by simp [z])) e⟩) (fun _ _ _ _ n => n)
    (fun b o hc e => ⟨o, k b o (fun z => hc (by simp [z])) e⟩) (fun _ _ e => e) (fun _ _ _ e => e) (fun b ps e => ⟨#[], by rw [e]; simp⟩) (fun m hm => ?_) (fun b u e => ?_) I.bare
  · have e : b = it := by simpa using hb
    subst e
    exact ⟨h1, hL, h2, h3⟩
  · obtain ⟨o, es, ep, ho, r⟩ := hm
    exact ⟨o, es, ep, k _ o (Ne.symm hL) ho, r⟩
  · refine (I.hok b u e).stay (fun c v hc q => k c v ?_ q) (fun _ q => q) fun _ _ q => q
    rcases hc with z | z
    · rw [z]; exact nit b u e
    · exact nit c _ z
theorem Inv.tok (I : Inv X pins σ H s) (t : Nat) : Inv X pins σ H { s with toks := t } := I.un (h' := s.heap) (t' := t) Un.refl I.hok
theorem Inv.kept {t' : Nat} (I : Inv X pins σ H s) (k : ∀ b u, s.heap.get? b = some u → h'.get? b = some u) : Inv X pins σ H { s with heap := h', toks := t' } := I.un (Un.kept k) (I.hok.kept k)
theorem Inv.laid {a : Addr} {o : HO} {t' : Nat} (I : Inv X pins σ H s) (k : ∀ b u, s.heap.get? b = some u → h'.get? b = some u) (hp : s.heap.objs.size ≤ a) (new : ObjOk X.prog X.w (upd H a o) h' a o) :
    Inv X pins σ (upd H a o) { s with heap := h', toks := t' } := I.un (Un.laid k hp (I.hok.fresh hp)) (I.hok.laid k hp new)
theorem Inv.write {x e : Addr} {o : HO} {t' : Nat} (I : Inv X pins σ H s) (mu : Mut (H x)) (he : e = x ∨ H e = some (.own x)) (k : ∀ b u, b ≠ e → s.heap.get? b = some u → h'.get? b = some u) (heo : ∃ u, h'.get? e = some u)
    (new : ObjOk X.prog X.w (upd H x o) h' x o) : Inv X pins σ (upd H x o) { s with heap := h', toks := t' } := I.un (Un.write mu he k heo) (I.hok.write mu he k heo new)
theorem Inv.weak {σ' : List (Option V)} (I : Inv X pins σ H s) (hl : σ'.length = σ.length) (w : ∀ (i : Nat) v, σ'[i]? = some (some v) → σ[i]? = some (some v)) : Inv X pins σ' H s :=
  ⟨I.ok, I.os, I.bare, I.base, let ⟨m, hn, hl'⟩ := I.loc; ⟨m, hn, fun i x v e1 e2 e3 => hl' i x v e1 (w i v e2) e3⟩, I.cell, I.free, I.freeC, I.pin, I.hok, hl.trans I.len⟩
theorem Inv.pins_of {pins' : List (Addr × Obj)} (I : Inv X pins σ H s) (h : ∀ p ∈ pins', s.heap.get? p.1 = some p.2 ∧ H p.1 = none ∧ p.1 ≠ X.env.locals ∧ p.1 ∉ X.fs ∧ ∀ v, p.2.data ≠ .cell v) : Inv X pins' σ H s :=
  ⟨I.ok, I.os, I.bare, I.base, I.loc, I.cell, I.free, I.freeC, fun p hp => (List.mem_append.mp hp).elim (fun z => I.pin p (List.mem_append_left _ z)) (h p), I.hok, I.len⟩
theorem nodup_ix {N : List Str} (hN : N.Nodup) {i j : Nat} {x : Str} (a : N[i]? = some x) (b : N[j]? = some x) : i = j := by
  obtain ⟨h1, e1⟩ := List.getElem?_eq_some_iff.mp a
  obtain ⟨h2, e2⟩ := List.getElem?_eq_some_iff.mp b
  exact (List.getElem_inj hN).mp (e1.trans e2.symm)
theorem store_ok2 {M : Model} {A : Around} {E : Value → Shared → Prop} {i : Nat} {x : Str} {v : V} {u : Value} {Q : Unit → Shared → Prop} (I : Inv X pins σ H s) (hN : X.N.Nodup) (hi : X.N[i]? = some x) (hx : Loc X.env.scope x) (r : RelV v u)
    (h : ∀ s', Inv X pins (σ.set i (some v)) H s' → (∃ a, Heap.SameBut a s.heap s'.heap ∧ (a = X.env.locals ∨ X.env.cells.lookup x = some a)) → Q () s') (hf : X.fn x = true ∨ X.env.scope.names.lookup x = some .local := by first | exact .inl rfl | exact .inr rfl | assumption) : wpAny M A (storeName X.env x u) Q E s := by
  obtain ⟨m, hn, hl⟩ := id I.loc
  have hcls : (X.env.scope.kind == .class || (X.env.scope.kind == .module && X.env.locals != X.env.globals)) = false := by rw [I.ok.kind]; rfl
  have hiσ : i < σ.length := by rw [I.len]; exact (List.getElem?_eq_some_iff.mp hi).1
  have cne := I.cne
  have tracked : ∀ {a : Addr} {h' : Heap}, (∃ o, s.heap.get? a = some o ∧ H a = none) → Heap.SameBut a s.heap h' → HOk X.prog X.w H h' := fun {a h'} ha hs b ob e => by
    obtain ⟨_, _, hfree⟩ := ha
    refine (I.hok b ob e).stay (fun c w' hc q => (hs.2 c ?_).trans q) (fun _ q => q) fun _ _ q => q
    rintro rfl
    rcases hc with rfl | hc
    · rw [hfree] at e; exact L2.ns_ e
    · rw [hfree] at hc; exact L2.ns_ hc
  rcases hx with hk | hk
  · refine wpAny_storeName_local hk hn (fun h' hn' hs => ?_) hcls
    obtain ⟨oL, _, _, hoL, _⟩ := id hn
    refine h _ ⟨I.ok, I.os, I.bare, ⟨fun b o e n hb hx => ?_, fun b o e n hb hx => ?_, I.base.free, fun b o e hx => ?_, I.base.tups, I.base.frzs, I.base.tbls⟩, ⟨_, hn', fun j y v' e1 e2 e3 => ?_⟩, fun y c e => ?_, I.free, I.freeC, fun p hp => ?_, tracked ⟨oL, hoL, I.free⟩ hs, by simpa using I.len⟩ ⟨_, hs, .inl rfl⟩
    · exact (hs.2 b (Nat.ne_of_lt (Nat.lt_of_lt_of_le (Heap.lt_size e) I.ok.above))).trans (I.base.keep b o e n hb hx)
    · obtain ⟨sl, e1⟩ := I.base.slot b o e n hb hx
      exact ⟨sl, (hs.2 b (Nat.ne_of_lt (Nat.lt_of_lt_of_le (Heap.lt_size e) I.ok.above))).trans e1⟩
    · obtain ⟨o', e1⟩ := I.base.there b o e hx
      exact ⟨o', (hs.2 b (Nat.ne_of_lt (Nat.lt_of_lt_of_le (Heap.lt_size e) I.ok.above))).trans e1⟩
    · by_cases hj : j = i
      · subst hj
        rw [hi] at e1; cases e1
        rw [List.getElem?_set_self hiσ] at e2
        cases e2
        exact ⟨u, r, .inl ⟨hk, by simp⟩⟩
      · rw [List.getElem?_set_ne (Ne.symm hj)] at e2
        refine L2.ob_ea (hl j y v' e1 e2 e3) fun u' r' q => ?_
        refine ⟨u', r', ?_⟩
        rcases q with ⟨k, e⟩ | ⟨k, c, e, z⟩
        · refine .inl ⟨k, ?_⟩
          have : y ≠ x := fun e => hj (nodup_ix hN e1 (e ▸ hi))
          simp [this, e]
        · exact .inr ⟨k, c, e, z.sameBut hs (cne y c e)⟩
    · obtain ⟨w', z⟩ := I.cell y c e
      exact ⟨w', z.sameBut hs (cne y c e)⟩
    · refine L2.ob_aaaa (I.pin p hp) fun e n ne nf d => ?_
      exact ⟨(hs.2 p.1 ne).trans e, n, ne, nf, d⟩
  · have hfn : X.fn x = true := by
      rcases hf with z | z
      · exact z
      · rw [z] at hk; cases hk
    obtain ⟨c, hc⟩ := I.ok.has x (.inl hk)
    obtain ⟨w', z⟩ := I.cell x c hc
    refine wpAny_storeName_cell I.ok.kind hk hc z (fun h' hc' hs => ?_)
    obtain ⟨oc, hoc, hocd⟩ := id z
    refine h { s with heap := h' } ⟨I.ok, I.os, I.bare, ⟨fun b o e n hb hx => ?_, fun b o e n hb hx => ?_, I.base.free, fun b o e hx => ?_, I.base.tups, I.base.frzs, I.base.tbls⟩, ⟨m, hn.sameBut hs (Ne.symm (cne x c hc)), fun j y v' e1 e2 e3 => ?_⟩, fun y c' e => ?_, I.free, I.freeC, fun p hp => ?_, tracked ⟨oc, hoc, I.freeC x c hc⟩ hs, by simpa using I.len⟩ ⟨c, hs, .inr hc⟩
    · exact (hs.2 b (Nat.ne_of_lt (Nat.lt_of_lt_of_le (Heap.lt_size e) (I.ok.cab x c hfn hc)))).trans (I.base.keep b o e n hb hx)
    · obtain ⟨sl, e1⟩ := I.base.slot b o e n hb hx
      exact ⟨sl, (hs.2 b (Nat.ne_of_lt (Nat.lt_of_lt_of_le (Heap.lt_size e) (I.ok.cab x c hfn hc)))).trans e1⟩
    · obtain ⟨o', e1⟩ := I.base.there b o e hx
      exact ⟨o', (hs.2 b (Nat.ne_of_lt (Nat.lt_of_lt_of_le (Heap.lt_size e) (I.ok.cab x c hfn hc)))).trans e1⟩
    · by_cases hj : j = i
      · subst hj
        rw [hi] at e1; cases e1
        rw [List.getElem?_set_self hiσ] at e2
        cases e2
        exact ⟨u, r, .inr ⟨.inl hk, c, hc, hc'⟩⟩
      · rw [List.getElem?_set_ne (Ne.symm hj)] at e2
        refine L2.ob_ea (hl j y v' e1 e2 e3) fun u' r' q => ?_
        refine ⟨u', r', ?_⟩
        rcases q with q | ⟨k, c', e, z'⟩
        · exact .inl q
        · refine .inr ⟨k, c', e, z'.sameBut hs ?_⟩
          rintro rfl
          exact hj (nodup_ix hN e1 (I.ok.inj _ _ _ e hc ▸ hi))
    · by_cases hcc : c' = c
      · subst hcc; exact ⟨_, hc'⟩
      · obtain ⟨w2, z2⟩ := I.cell y c' e
        exact ⟨w2, z2.sameBut hs hcc⟩
    · refine L2.ob_aaaa (I.pin p hp) fun e n ne nf d => ?_
      refine ⟨(hs.2 p.1 ?_).trans e, n, ne, nf, d⟩
      intro q
      rw [q, hoc] at e
      have q' : oc = p.2 := Option.some.inj e
      exact d w' (by rw [← q']; exact hocd)
theorem store_ok {M : Model} {A : Around} {E : Value → Shared → Prop} {i : Nat} {x : Str} {v : V} {u : Value} {Q : Unit → Shared → Prop} (I : Inv X pins σ H s) (hN : X.N.Nodup) (hi : X.N[i]? = some x) (hx : Loc X.env.scope x) (r : RelV v u)
    (h : ∀ s', Inv X pins (σ.set i (some v)) H s' → Q () s') (hf : X.fn x = true ∨ X.env.scope.names.lookup x = some .local := by first | exact .inl rfl | exact .inr rfl | assumption) : wpAny M A (storeName X.env x u) Q E s :=
  store_ok2 I hN hi hx r (fun s' I' _ => h s' I') hf
theorem Inv.call' {s' : Shared} {ch : List Addr} (I : Inv X pins σ H s) (ho : s'.os = s.os) (u : Un (frs X.stack) ch H H' s.heap s'.heap) (hok : HOk X.prog X.w H' s'.heap) (hg : AllBare s'.gens)
    (hch : ∀ b ∈ ch, (b ∈ X.ex ∨ X.s₀.heap.objs.size ≤ b) ∧ b ≠ X.env.locals ∧ (∀ x c, X.env.cells.lookup x = some c → c ≠ b) ∧ ∀ p ∈ X.pn ++ pins, p.1 ≠ b) : Inv X pins σ H' s' := by
  obtain ⟨h', g', d', t', o'⟩ := s'
  have e : o' = s.os := ho
  subst e
  exact I.call (g' := g') (t' := t') (d' := d') u hok hg hch
end

noncomputable abbrev XK := Value → Option Addr → Hp → Prop
noncomputable abbrev St := List (Option V)
noncomputable abbrev VK := V → Hp → Prop
noncomputable abbrev TE := St → Hp → VK → Prop
noncomputable abbrev TT := St → Hp → (Bool → Hp → Prop) → Prop
noncomputable abbrev TA := St → Hp → (List V → Hp → Prop) → Prop
structure Ends where
  nx : St → Hp → Prop
  rt : VK
  bk : St → Hp → Prop := fun _ _ => False
  ct : St → Hp → Prop := fun _ _ => False
noncomputable abbrev TS := Ends → St → Hp → Prop
noncomputable def Ends.nxt (D : Ends) (k : St → Hp → Prop) : Ends := { D with nx := k }
noncomputable def Ends.lp (D : Ends) (N : St → Hp → Prop) : Ends := { D with nx := N, ct := N, bk := D.nx }
noncomputable def onI (x : V) (k : Int → Prop) : Prop := match x with
  | .int i => k i
  | _ => False
noncomputable def onB (x : V) (k : Bool → Prop) : Prop := match x with
  | .bl i => k i
  | _ => False
noncomputable def onO (o : Option (Option V)) (k : V → Prop) : Prop := match o with
  | some (some v) => k v
  | _ => False
noncomputable def onT (b : Bool) (q : Prop) : Prop := match b with
  | true => q
  | false => False
noncomputable def onL (vs : List V) (k : V → List V → Prop) : Prop := match vs with
  | v :: r => k v r
  | [] => False
noncomputable def onN (vs : List V) (q : Prop) : Prop := match vs with
  | [] => q
  | _ :: _ => False
theorem onI.ex {x : V} {k : Int → Prop} (h : onI x k) : ∃ i, x = .int i ∧ k i := by
  cases x with
  | int i => exact ⟨i, rfl, h⟩
  | _ => exact h.elim
theorem onB.ex {x : V} {k : Bool → Prop} (h : onB x k) : ∃ i, x = .bl i ∧ k i := by
  cases x with
  | bl i => exact ⟨i, rfl, h⟩
  | _ => exact h.elim
theorem onO.ex {o : Option (Option V)} {k : V → Prop} (h : onO o k) : ∃ v, o = some (some v) ∧ k v := by
  cases o with
  | none => exact h.elim
  | some o => cases o with
    | none => exact h.elim
    | some v => exact ⟨v, rfl, h⟩
theorem onT.ex {b : Bool} {q : Prop} (h : onT b q) : b = true ∧ q := by
  cases b with
  | true => exact ⟨rfl, h⟩
  | false => exact h.elim
theorem onL.ex {vs : List V} {k : V → List V → Prop} (h : onL vs k) : ∃ v r, vs = v :: r ∧ k v r := by
  cases vs with
  | nil => exact h.elim
  | cons v r => exact ⟨v, r, rfl, h⟩
theorem onN.ex {vs : List V} {q : Prop} (h : onN vs q) : vs = [] ∧ q := by
  cases vs with
  | nil => exact ⟨rfl, h⟩
  | cons v r => exact h.elim
inductive EP (X : Cx) (pins : List (Addr × Obj)) (σ : St) (Q : VK) (u : Value) (s' : Shared)  : Prop
  | mk : ∀ v H', (Inv X pins σ H' s') → (RelV v u) → (Q v H') → EP X pins σ Q u s'
inductive TP (X : Cx) (pins : List (Addr × Obj)) (σ : St) (Q : Bool → Hp → Prop) (b : Bool) (s' : Shared)  : Prop
  | mk : ∀ H', (Inv X pins σ H' s') → (Q b H') → TP X pins σ Q b s'
inductive AP (X : Cx) (pins : List (Addr × Obj)) (σ : St) (Q : List V → Hp → Prop) (us : List Value) (s' : Shared)  : Prop
  | mk : ∀ vs H', (Inv X pins σ H' s') → (Vals vs us) → (Q vs H') → AP X pins σ Q us s'
inductive SN (X : Cx) (pins : List (Addr × Obj)) (N : St → Hp → Prop) (s' : Shared) : Prop
  | mk : ∀ σ' H', Inv X pins σ' H' s' → N σ' H' → SN X pins N s'
inductive SR (X : Cx) (pins : List (Addr × Obj)) (R : VK) (u : Value) (s' : Shared) : Prop
  | mk : ∀ v σ' H', Inv X pins σ' H' s' → RelV v u → R v H' → SR X pins R u s'
noncomputable def SP (X : Cx) (pins : List (Addr × Obj)) (D : Ends) (f : Flow) (s' : Shared) : Prop :=
  match f with
  | .next => SN X pins D.nx s'
  | .brk => SN X pins D.bk s'
  | .cont => SN X pins D.ct s'
  | .ret u => SR X pins D.rt u s'
noncomputable def PE (X : Cx) (e : Expr) (t : TE) : Prop :=
  ∀ (pins : List (Addr × Obj)) (s : Shared) (σ : St) (H : Hp) (Q : VK), Inv X pins σ H s → t σ H Q → wpAny (model X.prog X.w) X.A (eval e X.env) (EP X pins σ Q) X.xe s
noncomputable def PT (X : Cx) (e : Expr) (t : TT) : Prop :=
  ∀ (pins : List (Addr × Obj)) (s : Shared) (σ : St) (H : Hp) (Q : Bool → Hp → Prop), Inv X pins σ H s → t σ H Q → wpAny (model X.prog X.w) X.A (isTrue e X.env (eval e X.env)) (TP X pins σ Q) X.xe s
noncomputable def PW (X : Cx) (e : Expr) (t : TT) : Prop :=
  ∀ (whole : Sem Value) (pins : List (Addr × Obj)) (s : Shared) (σ : St) (H : Hp) (Q : Bool → Hp → Prop), Inv X pins σ H s → t σ H Q → wpAny (model X.prog X.w) X.A (isTrue e X.env whole) (TP X pins σ Q) X.xe s
theorem PW.pt {X : Cx} {e : Expr} {t : TT} (h : PW X e t) : PT X e t := h _
noncomputable def PA (X : Cx) (es : List Expr) (t : TA) : Prop :=
  ∀ (pos : Pos) (pins : List (Addr × Obj)) (s : Shared) (σ : St) (H : Hp) (Q : List V → Hp → Prop), Inv X pins σ H s → t σ H Q → wpAny (model X.prog X.w) X.A (spliced (backTo pos (starEach es X.env))) (AP X pins σ Q) X.xe s
noncomputable def PS (X : Cx) (st : Stmt) (t : TS) : Prop :=
  ∀ (pins : List (Addr × Obj)) (s : Shared) (σ : St) (H : Hp) (D : Ends), Inv X pins σ H s → t D σ H → wpAny (model X.prog X.w) X.A (exec st X.env) (SP X pins D) X.xe s
noncomputable def PSs (X : Cx) (st : List Stmt) (t : TS) : Prop :=
  ∀ (pins : List (Addr × Obj)) (s : Shared) (σ : St) (H : Hp) (D : Ends), Inv X pins σ H s → t D σ H → wpAny (model X.prog X.w) X.A (execs st X.env) (SP X pins D) X.xe s
theorem thn {α : Type} {t : Sem α} {Q Q' : α → Shared → Prop} {M : Model} {A : Around} {E : Value → Shared → Prop} {s : Shared} (h : wpAny M A t Q E s) (hQ : ∀ a s, Q a s → Q' a s) : wpAny M A t Q' E s := wpAny_mono h hQ fun _ _ x => x
end L2

namespace L2
open PySem PySem.Spec PyProof.Rows
section
variable {X : Cx}
noncomputable def tVar (i : Nat) : TE := fun σ H Q => onO σ[i]? fun v => Q v H
theorem tVar.ex {i : Nat} {σ : St} {H : Hp} {Q : VK} (h : tVar i σ H Q) : ∃ v, σ[i]? = some (some v) ∧ Q v H := onO.ex h
noncomputable def tC (v : V) : TE := fun _ H Q => Q v H
theorem pe_var {i : Nat} {x : Str} {pos : Pos} (hN : X.N[i]? = some x) (hv : Vis X.env.scope x) (hd : (x == ("__debug__" : Str)) = false := by decide) (hcd : (x == ("__classdict__" : Str)) = false := by decide) : PE X (.Name x pos) (tVar i) := by
  intro pins s σ H Q I h
  refine L2.ob_ea (tVar.ex h) fun v e h => ?_
  refine L2.ob_ea I.loc fun m hn hl => ?_
  refine L2.ob_ea (hl i x v hN e hv) fun u r l => ?_
  have fin : EP X pins σ Q u s := ⟨v, H, I, r, h⟩
  rcases l with ⟨hk, hm⟩ | ⟨hk, c, hc, hcell⟩
  · exact wpAny_Name (wpAny_loadName_local I.ok.kind hk hn hm fin) hd
  · rcases hk with hk | hk
    · exact wpAny_Name (wpAny_loadName_cell I.ok.kind hk hc hcell fin) hd
    · exact wpAny_Name (wpAny_loadName_free I.ok.kind hk hc hcell fin hcd) hd
theorem pe_int {i j pos} : PE X (.Constant (.int i) j pos) (tC (.int i)) := fun _ _ _ H _ I h => wpAny_Constant_int ⟨.int i, H, I.tok _, ⟨_, rfl⟩, h⟩
theorem pe_bl {b j pos} : PE X (.Constant (.bool b) j pos) (tC (.bl b)) := fun _ _ _ H _ I h => Constant_bool ⟨.bl b, H, I, rfl, h⟩
theorem pe_non {j pos} : PE X (.Constant .none j pos) (tC .non) := fun _ _ _ H _ I h => Constant_none ⟨.non, H, I, rfl, h⟩
theorem pe_str {x j pos} : PE X (.Constant (.str x) j pos) (tC (.str x)) := fun _ _ _ H _ I h => Calls.Constant_str ⟨.str x, H, I.tok _, ⟨_, rfl⟩, h⟩
noncomputable def Gl (X : Cx) (x : Str) : Prop := X.env.kindOf x = some .globalImplicit
theorem ld_glob {E : Value → Shared → Prop} {pins : List (Addr × Obj)} {s : Shared} {σ : St} {H : Hp} {x : Str} {u : Value} {pos : Pos} {Q : Value → Shared → Prop} (I : Inv X pins σ H s) (hg : Gl X x) (hm : X.mg x = some u) (h : Q u s)
    (hd : (x == ("__debug__" : Str)) = false := by decide) : wpAny (model X.prog X.w) X.A (eval (.Name x pos) X.env) Q E s :=
  Calls.Name_function_global I.ok.kind hg (Calls.loadGlobal_global (by rw [I.ok.glob]; exact I.mod.glob.keeps I.bk) hm h) hd
theorem ld_blt {E : Value → Shared → Prop} {pins : List (Addr × Obj)} {s : Shared} {σ : St} {H : Hp} {x : Str} {u : Value} {pos : Pos} {Q : Value → Shared → Prop} (I : Inv X pins σ H s) (hg : Gl X x) (hm : X.mg x = none) (hv : bootBuiltins x = some u) (h : Q u s)
    (hn : x ≠ "__name__" := by decide) (hd : (x == ("__debug__" : Str)) = false := by decide) : wpAny (model X.prog X.w) X.A (eval (.Name x pos) X.env) Q E s := by
  obtain ⟨mb, h1, h2⟩ := I.mod.blt
  exact Calls.Name_function_global I.ok.kind hg (Calls.loadGlobal_builtin (by rw [I.ok.glob]; exact I.mod.glob.keeps I.bk) hm (by rw [I.ok.blt]; exact h1.keeps I.bk) ((h2 x hn).trans hv) h) hd
theorem pe_glob {x : Str} {v : V} {u : Value} {pos : Pos} (hg : Gl X x) (hm : X.mg x = some u) (r : RelV v u) (hd : (x == ("__debug__" : Str)) = false := by decide) : PE X (.Name x pos) (tC v) :=
  fun _ _ _ H _ I h => ld_glob I hg hm ⟨v, H, I, r, h⟩ hd
theorem pe_bltn {x : Str} {v : V} {u : Value} {pos : Pos} (hg : Gl X x) (hm : X.mg x = none) (hv : bootBuiltins x = some u) (r : RelV v u) (hn : x ≠ "__name__" := by decide) (hd : (x == ("__debug__" : Str)) = false := by decide) : PE X (.Name x pos) (tC v) :=
  fun _ _ _ H _ I h => ld_blt I hg hm hv ⟨v, H, I, r, h⟩ hn hd
variable {a b : Expr} {ta tb : TE} {pos : Pos}
noncomputable def PC (X : Cx) (op : CmpOp) (a b : Expr) (t : TE) : Prop :=
  ∀ (pins : List (Addr × Obj)) (s : Shared) (σ : St) (H : Hp) (Q : VK), Inv X pins σ H s → t σ H Q →
    wpAny (model X.prog X.w) X.A (eval a X.env) (fun v s₁ => wpAny (model X.prog X.w) X.A (eval b X.env) (fun u s₂ => wpAny (model X.prog X.w) X.A (compareOp op v u) (EP X pins σ Q) X.xe s₂) X.xe s₁) X.xe s
noncomputable def tB_b (Q : Bool → Hp → Prop) (x : V) (H1 : Hp) : Prop := onB x fun c => Q c H1
theorem tB_b.ex {Q : Bool → Hp → Prop} {x : V} {H1 : Hp} (h : tB_b Q x H1) : ∃ c, x = .bl c ∧ Q c H1 := onB.ex h
noncomputable def tB (t : TE) : TT := fun σ H Q => t σ H (tB_b Q)
theorem pt_cmp {op : CmpOp} {t : TE} (h : PC X op a b t) (h1 : behindInMarks op b = false := by first | exact nobehind _ (by decide) (by decide) | rfl) : PT X (.Compare a [op] [b] pos) (tB t) := by
  intro pins s σ H Q I hw
  refine wpAny_isTrue_Compare1 (thn (h pins s σ H _ I hw) fun v s1 h1 => thn h1 fun u s2 h2 => thn h2 fun c s3 ⟨x, H1, I1, r1, q1⟩ => ?_) h1
  obtain ⟨d, rfl, q⟩ := tB_b.ex q1
  cases r1
  exact wpAny_truthy_bool ⟨H1, I1, q⟩
theorem pt_val {e : Expr} {t : TE} (h : PE X e t) (he : ∀ whole, isTrue e X.env whole = (do let v ← whole; standAt e.pos; holding [v] (truthy v)) := by intro _; rfl) : PT X e (tB t) := by
  intro pins s σ H Q I hw
  refine isTrue_plain (thn (h pins s σ H _ I hw) fun v s1 ⟨x, H1, I1, r1, q1⟩ => ?_) (he _)
  obtain ⟨d, rfl, q⟩ := tB_b.ex q1
  cases r1
  exact wpAny_truthy_bool ⟨H1, I1, q⟩
variable {tA tB' : TT} {rest : List Expr}
noncomputable def tAnd (t u : TT) : TT := fun σ H Q => t σ H fun c H1 => if c = true then u σ H1 Q else Q false H1
noncomputable def tOr (t u : TT) : TT := fun σ H Q => t σ H fun c H1 => if c = true then Q true H1 else u σ H1 Q
noncomputable def tNot (t : TT) : TT := fun σ H Q => t σ H fun c H1 => Q (!c) H1
theorem pw_and1 (ha : PT X a tA) : PW X (.BoolOp .And [a] pos) tA := by
  intro wh pins s σ H Q I h
  refine isTrue_and (thn (ha pins s σ H Q I h) fun c s1 e => ?_)
  cases c with
  | true => exact isTrue_and_nil e
  | false => exact e
theorem pw_or1 (ha : PT X a tA) : PW X (.BoolOp .Or [a] pos) tA := by
  intro wh pins s σ H Q I h
  refine isTrue_or (thn (ha pins s σ H Q I h) fun c s1 e => ?_)
  cases c with
  | false => exact isTrue_or_nil e
  | true => exact e
theorem pw_and (ha : PT X a tA) (hb : PW X (.BoolOp .And (b :: rest) pos) tB') : PW X (.BoolOp .And (a :: b :: rest) pos) (tAnd tA tB') := by
  intro wh pins s σ H Q I h
  refine isTrue_and (thn (ha pins s σ H _ I h) fun c s1 ⟨H1, I1, q1⟩ => ?_)
  cases c with
  | true => exact hb wh pins s1 σ H1 Q I1 q1
  | false => exact ⟨H1, I1, q1⟩
theorem pw_or (ha : PT X a tA) (hb : PW X (.BoolOp .Or (b :: rest) pos) tB') : PW X (.BoolOp .Or (a :: b :: rest) pos) (tOr tA tB') := by
  intro wh pins s σ H Q I h
  refine isTrue_or (thn (ha pins s σ H _ I h) fun c s1 ⟨H1, I1, q1⟩ => ?_)
  cases c with
  | true => exact ⟨H1, I1, q1⟩
  | false => exact hb wh pins s1 σ H1 Q I1 q1
theorem pt_not (ha : PT X a tA) : PT X (.UnaryOp .Not a pos) (tNot tA) := by
  intro pins s σ H Q I h
  exact isTrue_not (thn (ha pins s σ H (fun c H1 => Q (!c) H1) I h) fun _ _ ⟨H1, I1, q1⟩ => ⟨H1, I1, q1⟩)
noncomputable def tAndV_b (tb : TE) (σ : St) (Q : VK) (x : V) (H1 : Hp) : Prop := onB x fun c => if c = true then tb σ H1 Q else Q (.bl false) H1
theorem tAndV_b.ex {tb : TE} {σ : St} {Q : VK} {x : V} {H1 : Hp} (h : tAndV_b tb σ Q x H1) : ∃ c, x = .bl c ∧ if c = true then tb σ H1 Q else Q (.bl false) H1 := onB.ex h
noncomputable def tAndV (ta tb : TE) : TE := fun σ H Q => ta σ H (tAndV_b tb σ Q)
noncomputable def tNotV_b (Q : VK) (x : V) (H1 : Hp) : Prop := onB x fun c => Q (.bl (!c)) H1
theorem tNotV_b.ex {Q : VK} {x : V} {H1 : Hp} (h : tNotV_b Q x H1) : ∃ c, x = .bl c ∧ Q (.bl (!c)) H1 := onB.ex h
noncomputable def tNotV (ta : TE) : TE := fun σ H Q => ta σ H (tNotV_b Q)
theorem pe_one {op} {t : TE} (h : PE X a t) : PE X (.BoolOp op [a] pos) t := fun pins s σ H Q I hw => BoolOp_one (h pins s σ H Q I hw)
theorem pe_and (ha : PE X a ta) (hb : PE X (.BoolOp .And (b :: rest) pos) tb) : PE X (.BoolOp .And (a :: b :: rest) pos) (tAndV ta tb) := by
  intro pins s σ H Q I h
  refine BoolOp_and (thn (ha pins s σ H _ I h) fun v s1 ⟨x, H1, I1, r1, q1⟩ => ?_)
  refine L2.ob_ea (tAndV_b.ex q1) fun c e_1 q1 => ?_; subst e_1
  cases r1
  refine wpAny_truthy_bool ?_
  cases c with
  | true => exact hb pins s1 σ H1 Q I1 q1
  | false => exact ⟨.bl false, H1, I1, rfl, q1⟩
theorem pe_not (ha : PE X a ta) : PE X (.UnaryOp .Not a pos) (tNotV ta) := by
  intro pins s σ H Q I h
  refine UnaryOp_ (thn (ha pins s σ H _ I h) fun v s1 ⟨x, H1, I1, r1, q1⟩ => ?_)
  obtain ⟨c, rfl, q1⟩ := tNotV_b.ex q1
  cases r1
  exact not_of (wpAny_truthy_bool ⟨.bl (!c), H1, I1, rfl, q1⟩)
noncomputable def tIf (t : TT) (ta tb : TE) : TE := fun σ H Q => t σ H fun c H1 => if c = true then ta σ H1 Q else tb σ H1 Q
theorem pe_ifExp {c : Expr} (hc : PT X c tA) (ha : PE X a ta) (hb : PE X b tb) : PE X (.IfExp c a b pos) (tIf tA ta tb) := by
  intro pins s σ H Q I h
  refine wpAny_IfExp (thn (hc pins s σ H _ I h) fun d s1 ⟨H1, I1, q1⟩ => ?_)
  cases d with
  | true => exact ha pins s1 σ H1 Q I1 q1
  | false => exact hb pins s1 σ H1 Q I1 q1
end
end L2

namespace L2
open PySem PySem.Spec PyProof.Rows
noncomputable def SqL (K : PySem.W.Frag) (H : Hp) (a : Addr) (xs : List V) : Prop :=
  Rd H a (.lst xs) ∨
    ∃ (o : Obj) (its : Array Value) (n : Nat), K.lookup a = some o ∧ o.cls = .type "list" ∧ o.dict = none ∧ o.data = .seq its n ∧ its.size ≤ sizeLine ∧ Vals xs its.toList
noncomputable def SqT (K : PySem.W.Frag) (H : Hp) (a : Addr) (xs : List V) : Prop :=
  Rd H a (.tup xs) ∨
    ∃ (o : Obj) (its : Array Value) (n : Nat), K.lookup a = some o ∧ o.cls = .type "tuple" ∧ o.data = .seq its n ∧ its.size ≤ sizeLine ∧ Vals xs its.toList
noncomputable def absV : Value → Option V
  | .none => some .non
  | .bool b => some (.bl b)
  | .int i _ => some (.int i)
  | .str x _ => some (.str x)
  | .bytes b _ => some (.byt b)
  | .float b _ => some (.flt b)
  | .ref a => some (.ref a)
  | .type n => some (.ty n)
  | _ => none
theorem RelV.abs {x : V} {u : Value} (r : RelV x u) : absV u = some x := by
  cases x with
  | non => cases r; rfl
  | bl _ => cases r; rfl
  | int _ => obtain ⟨t, rfl⟩ := r; rfl
  | str _ => obtain ⟨t, rfl⟩ := r; rfl
  | byt _ => obtain ⟨t, rfl⟩ := r; rfl
  | flt _ => obtain ⟨t, rfl⟩ := r; rfl
  | ref _ => cases r; rfl
  | ty _ => cases r; rfl
theorem RelV.inj {x y : V} {u : Value} (r : RelV x u) (q : RelV y u) : x = y := Option.some.inj (r.abs.symm.trans q.abs)
theorem Vals.inj {xs ys : List V} {us : List Value} (h : Vals xs us) (h' : Vals ys us) : xs = ys := by
  induction h generalizing ys with
  | nil => cases h'; rfl
  | cons r t ih => cases h' with
    | cons r' t' => rw [r.inj r', ih t']
section
variable {X : Cx} {pins : List (Addr × Obj)} {σ : St} {H : Hp} {s : Shared} {a : Addr} {xs ys : List V}
theorem SqL.of {K : PySem.W.Frag} (h : H a = some (.lst xs)) : SqL K H a xs := .inl (.inl h)
theorem SqT.of {K : PySem.W.Frag} (h : H a = some (.tup xs)) : SqT K H a xs := .inl (.inl h)
theorem Inv.list (I : Inv X pins σ H s) (h : SqL X.K H a xs) : ∃ its : List Value, Vals xs its ∧ PlainL s.heap a its.toArray ∧ xs.length ≤ sizeLine := by
  rcases h with h | ⟨o, its, n, hk, hc, hd, hs, hz, r⟩
  · obtain ⟨z, its, n, r, e⟩ := h.ok I.hok
    exact ⟨its, r, ⟨_, n, e, rfl, rfl, rfl⟩, z⟩
  · refine ⟨its.toList, r, ⟨o, n, I.kIn a o hk, hc, hd, by simpa using hs⟩, ?_⟩
    have e := r.length
    simp only [Array.length_toList] at e
    lia
theorem Inv.tuple (I : Inv X pins σ H s) (h : SqT X.K H a xs) : ∃ its : List Value, Vals xs its ∧ IsTup s.heap a its.toArray ∧ xs.length ≤ sizeLine := by
  rcases h with h | ⟨o, its, n, hk, hc, hs, hz, r⟩
  · obtain ⟨z, its, r, p⟩ := h.ok I.hok
    exact ⟨its, r, p, z⟩
  · refine ⟨its.toList, r, ⟨o, I.kIn a o hk, hc, n, by simpa using hs⟩, ?_⟩
    have e := r.length
    simp only [Array.length_toList] at e
    lia
theorem Inv.list_inj (I : Inv X pins σ H s) (h : SqL X.K H a xs) (h' : SqL X.K H a ys) : xs = ys := by
  obtain ⟨its, r, ⟨o, n, e, _, _, d⟩, _⟩ := I.list h
  obtain ⟨its', r', ⟨o', n', e', _, _, d'⟩, _⟩ := I.list h'
  rw [e] at e'; cases e'
  rw [d] at d'
  injection d' with d1 _
  have : its = its' := by simpa using congrArg Array.toList d1
  subst this
  exact r.inj r'
theorem Inv.tuple_inj (I : Inv X pins σ H s) (h : SqT X.K H a xs) (h' : SqT X.K H a ys) : xs = ys := by
  obtain ⟨its, r, ⟨o, e, _, n, d⟩, _⟩ := I.tuple h
  obtain ⟨its', r', ⟨o', e', _, n', d'⟩, _⟩ := I.tuple h'
  rw [e] at e'; cases e'
  rw [d] at d'
  injection d' with d1 _
  have : its = its' := by simpa using congrArg Array.toList d1
  subst this
  exact r.inj r'
end

section
variable {X : Cx} {pins : List (Addr × Obj)} {σ : St} {H : Hp} {s : Shared} {E : Value → Shared → Prop}
end

section
variable {X : Cx} {st : Stmt} {rest : List Stmt} {t u : TS} {e : Expr} {te : TE} {pos : Pos}
noncomputable def tNext : TS := fun D σ H => D.nx σ H
noncomputable def tSeq (t u : TS) : TS := fun D σ H => t (D.nxt (u D)) σ H
theorem pss_nil : PSs X [] tNext := fun _ _ σ H _ I h => wpAny_execs_nil ⟨σ, H, I, h⟩
theorem pss_cons (h1 : PS X st t) (h2 : PSs X rest u) : PSs X (st :: rest) (tSeq t u) := by
  intro pins s σ H D I h
  refine wpAny_execs_cons (thn (h1 pins s σ H (D.nxt (u D)) I h) fun f s1 q => ?_)
  cases f with
  | next =>
    obtain ⟨σ', H', I', q⟩ := q
    exact h2 pins s1 σ' H' D I' q
  | ret v => exact q
  | brk => exact q
  | cont => exact q
theorem pss_one (h1 : PS X st t) : PSs X [st] t := by
  intro pins s σ H D I h
  refine wpAny_execs_cons (thn (h1 pins s σ H D I h) fun f s1 q => ?_)
  cases f with
  | next => exact wpAny_execs_nil q
  | ret v => exact q
  | brk => exact q
  | cont => exact q
theorem Inv.quiet {pins : List (Addr × Obj)} {σ : St} {H : Hp} {s : Shared} (I : Inv X pins σ H s) : interactive X.env = false := by simp [interactive, I.ok.kind]
noncomputable def tDrop (te : TE) : TS := fun D σ H => te σ H fun _ H1 => D.nx σ H1
theorem ps_expr (he : PE X e te) (hs : swapsWith e none pos.line X.env = pure false := by rfl) : PS X (.Expr e pos) (tDrop te) := by
  intro pins s σ H D I h
  exact wpAny_Expr_any (thn (he pins s σ H _ I h) fun v s1 ⟨x, H1, I1, r1, q1⟩ => ⟨σ, H1, I1, q1⟩) I.quiet hs
noncomputable def tRet (te : TE) : TS := fun D σ H => te σ H D.rt
theorem ps_ret (he : PE X e te) : PS X (.Return (some e) pos) (tRet te) := by
  intro pins s σ H D I h
  exact wpAny_Return_some (thn (he pins s σ H _ I h) fun v s1 ⟨x, H1, I1, r1, q1⟩ => ⟨x, σ, H1, I1, r1, q1⟩)
noncomputable def tIfS (c : TT) (t u : TS) : TS := fun D σ H => c σ H fun b H1 => if b = true then t D σ H1 else u D σ H1
theorem ps_if {c : Expr} {a b : List Stmt} {tc : TT} (hc : PT X c tc) (ha : PSs X a t) (hb : PSs X b u) : PS X (.If c a b pos) (tIfS tc t u) := by
  intro pins s σ H D I h
  refine wpAny_If (thn (hc pins s σ H _ I h) fun d s1 ⟨H1, I1, q1⟩ => ?_)
  cases d with
  | true => exact ha pins s1 σ H1 D I1 q1
  | false => exact hb pins s1 σ H1 D I1 q1
end

noncomputable abbrev TG := V → St → Hp → (St → Hp → Prop) → Prop
noncomputable abbrev TGs := List V → St → Hp → (St → Hp → Prop) → Prop
noncomputable def PG (X : Cx) (target : Expr) (t : TG) : Prop :=
  ∀ (pins : List (Addr × Obj)) (s : Shared) (σ : St) (H : Hp) (v : V) (u : Value) (Q : St → Hp → Prop), Inv X pins σ H s → RelV v u → t v σ H Q →
    wpAny (model X.prog X.w) X.A (assign target X.env u) (fun _ s' => SN X pins (Q) s') X.xe s
noncomputable def PGs (X : Cx) (ts : List Expr) (t : TGs) : Prop :=
  ∀ (pins : List (Addr × Obj)) (s : Shared) (σ : St) (H : Hp) (vs : List V) (us : List Value) (Q : St → Hp → Prop), Inv X pins σ H s → Vals vs us → t vs σ H Q →
    wpAny (model X.prog X.w) X.A (assignInOrder ((assignEach ts X.env).map (·.2)) us) (fun _ s' => SN X pins (Q) s') X.xe s
noncomputable abbrev TSet := V → V → V → Hp → (Hp → Prop) → Prop
noncomputable def PSet (X : Cx) (t : TSet) : Prop :=
  ∀ (pins : List (Addr × Obj)) (s : Shared) (σ : St) (H : Hp) (o i v : V) (ov iv u : Value) (Q : Hp → Prop), Inv X pins σ H s → RelV o ov → RelV i iv → RelV v u → t o i v H Q →
    wpAny (model X.prog X.w) X.A (setItem ov iv u) (fun _ s' => ∃ H', Inv X pins σ H' s' ∧ Q H') X.xe s
section
variable {X : Cx} {pos : Pos}
noncomputable def gName (i : Nat) : TG := fun v σ H Q => Q (σ.set i (some v)) H
theorem pg_name {i : Nat} {x : Str} (hN : X.N.Nodup) (hi : X.N[i]? = some x) (hx : Loc X.env.scope x) (hf : X.fn x = true ∨ X.env.scope.names.lookup x = some .local := by first | exact .inl rfl | exact .inr rfl | assumption) : PG X (.Name x pos) (gName i) := by
  intro pins s σ H v u Q I r h
  exact wpAny_assign_Name (store_ok I hN hi hx r (fun s' I' => ⟨_, H, I', h⟩) hf)
noncomputable def gNil : TGs := fun vs σ H Q => onN vs (Q σ H)
theorem gNil.ex {vs : List V} {σ : St} {H : Hp} {Q : St → Hp → Prop} (h : gNil vs σ H Q) : vs = [] ∧ Q σ H := onN.ex h
noncomputable def gCons (t : TG) (u : TGs) : TGs := fun vs σ H Q => onL vs fun v r => t v σ H fun σ' H' => u r σ' H' Q
theorem gCons.ex {t : TG} {u : TGs} {vs : List V} {σ : St} {H : Hp} {Q : St → Hp → Prop} (h : gCons t u vs σ H Q) : ∃ v r, vs = v :: r ∧ t v σ H fun σ' H' => u r σ' H' Q := onL.ex h
theorem pgs_nil : PGs X [] gNil := by
  intro pins s σ H vs us Q I r h
  obtain ⟨e, h⟩ := gNil.ex h
  subst e
  cases r
  exact assignInOrder_nil ⟨σ, H, I, h⟩
theorem pgs_cons {e : Expr} {es : List Expr} {t : TG} {u : TGs} (h1 : PG X e t) (h2 : PGs X es u)
    (hs : (assignEach (e :: es) X.env).map (·.2) = assign e X.env :: (assignEach es X.env).map (·.2) := by rfl) : PGs X (e :: es) (gCons t u) := by
  intro pins s σ H vs us Q I r h
  refine L2.ob_eea (gCons.ex h) fun v vr e1 h => ?_
  subst e1
  cases r with
  | cons r rr =>
    rw [hs]
    refine assignInOrder_cons (thn (h1 pins s σ H _ _ _ I r h) fun _ s1 ⟨σ1, H1, I1, q1⟩ => ?_)
    exact h2 pins s1 σ1 H1 _ _ Q I1 rr q1
inductive gTup (K : PySem.W.Frag) (n : Nat) (t : TGs) (v : V) (σ : St) (H : Hp) (Q : St → Hp → Prop) : Prop
  | mk : ∀ a xs, (v = .ref a) → (SqT K H a xs) → (xs.length = n) → (t xs σ H Q) → gTup K n t v σ H Q
theorem pg_tup {es : List Expr} {k : Nat} {t : TGs} {n : Nat} (hc : X.calm = true) (h : PGs X es t)
    (hn : (assignEach es X.env).length = n := by rfl) (hst : (assignEach es X.env).findIdx? (·.1) = none := by rfl) : PG X (.Tuple es k pos) (gTup X.K n t) := by
  intro pins s σ H v u Q I r hw
  obtain ⟨a, xs, e1, hq, hl, hw⟩ := hw
  subst e1
  cases r
  refine L2.ob_eaa (I.tuple hq) fun its rv ht hz => ?_
  refine assign_Tuple_tuple (I.ok.hd hc) ht (by simp [hn, ← hl, rv.length]) hst fun h' hx => ?_
  have I1 : Inv X pins σ H { s with heap := h' } := I.kept (t' := s.toks) fun b o e => hx b o (Nat.ne_of_lt (Heap.lt_size e)) e
  exact h pins _ σ H xs _ Q I1 (by simpa using rv) hw
noncomputable def gSub (to ti : TE) (t : TSet) : TG := fun v σ H Q => to σ H fun o H1 => ti σ H1 fun i H2 => t o i v H2 fun H3 => Q σ H3
theorem pg_sub {o i : Expr} {to ti : TE} {t : TSet} (ho : PE X o to) (hi : PE X i ti) (hs : PSet X t)
    (ha : ∀ v, assign (.Subscript o i pos) X.env v = (do
      let ov ← holding [v] (eval o X.env)
      let iv ← holding [v, ov] (eval i X.env)
      standAt pos
      holding [v, ov, iv] (setItem ov iv v)
      release [v, ov, iv] []) := by intro _; rfl) : PG X (.Subscript o i pos) (gSub to ti t) := by
  intro pins s σ H v u Q I r h
  rw [ha]
  refine wpAny_bind (wpAny_holding (thn (ho pins s σ H _ I h) fun ov s1 ⟨x, H1, I1, r1, q1⟩ => ?_))
  refine wpAny_bind (wpAny_holding (thn (hi pins s1 σ H1 _ I1 q1) fun iv s2 ⟨y, H2, I2, r2, q2⟩ => ?_))
  refine wpAny_bind (wpAny_standAt (wpAny_bind (wpAny_holding (thn (hs pins s2 σ H2 x y v ov iv u _ I2 r1 r2 r q2) fun _ s3 ⟨H3, I3, q3⟩ => ?_))))
  exact wpAny_release ⟨σ, H3, I3, q3⟩
noncomputable def tAsg (te : TE) (g : TG) : TS := fun D σ H => te σ H fun x H1 => g x σ H1 D.nx
theorem ps_asg {tg e : Expr} {te : TE} {g : TG} (he : PE X e te) (hg : PG X tg g) (hs : swapsWithSole [tg] e pos.line X.env = pure false := by rfl) (hw : swappedStores [tg] e X.env = pure none := by rfl)
    (h1 : (assignEach [tg] X.env).map (·.2) = [assign tg X.env] := by rfl) : PS X (.Assign [tg] e pos) (tAsg te g) := by
  intro pins s σ H D I h
  refine wpAny_Assign_stores (thn (he pins s σ H _ I h) fun v s1 ⟨x, H1, I1, r1, q1⟩ => ?_) hs hw
  rw [h1]
  exact thn (hg pins s1 σ H1 x v _ I1 r1 q1) fun _ s2 q => q
theorem ps_set {i : Nat} {x : Str} {e : Expr} {te : TE} {pos' : Pos} (hN : X.N.Nodup) (hi : X.N[i]? = some x) (hx : Loc X.env.scope x) (he : PE X e te) (hs : swapsWith e (some (.Name x pos')) pos.line X.env = pure false := by rfl) (hf : X.fn x = true ∨ X.env.scope.names.lookup x = some .local := by first | exact .inl rfl | exact .inr rfl | assumption) :
    PS X (.Assign [.Name x pos'] e pos) (tAsg te (gName i)) := by
  intro pins s σ H D I h
  refine wpAny_Assign_Name (thn (he pins s σ H _ I h) fun v s1 ⟨y, H1, I1, r1, q1⟩ => ?_) hs
  exact store_ok I1 hN hi hx r1 (fun s2 I2 => ⟨_, H1, I2, q1⟩) hf
end

section
variable {X : Cx} {pos : Pos}
noncomputable def tWhile (c : TT) (tb : TS) : TS := fun D σ H => ∃ W : Nat → St → Hp → Prop, (∃ m, W m σ H) ∧ ∀ m σ H, W m σ H →
  c σ H fun b H1 => if b = true then ∃ N : St → Hp → Prop, (∀ σ' H', N σ' H' → ∃ m', m' < m ∧ W m' σ' H') ∧ tb (D.lp (N)) σ H1 else D.nx σ H1
theorem ps_while {c : Expr} {body : List Stmt} {tc : TT} {tb : TS} (hp : PassesOwn (model X.prog X.w) X.A X.env X.xe) (hc : PT X c tc) (hb : PSs X body tb) : PS X (.While c body [] pos) (tWhile tc tb) := by
  intro pins s σ H D I h
  obtain ⟨W, ⟨m0, w0⟩, turn⟩ := h
  refine wpAny_While (codeAny_whileLoop (fun n s' => SN X pins (W n) s') ?_ m0 ⟨σ, H, I, w0⟩)
  rintro n s1 ⟨σ1, H1, I1, w1⟩
  refine wpAny_passesOwn hp (thn (hc pins s1 σ1 H1 _ I1 (turn n σ1 H1 w1)) fun b s2 ⟨H2, I2, q2⟩ => ?_)
  cases b with
  | true =>
    obtain ⟨N, hN, q2⟩ := q2
    rw [if_pos rfl]
    refine wpAny_passesOwn hp (thn (hb pins s2 σ1 H2 _ I2 q2) fun f s3 q3 => ?_)
    cases f with
    | next =>
      obtain ⟨σ3, H3, I3, n3⟩ := q3
      refine L2.ob_ea (hN σ3 H3 n3) fun m' hm w3 => ?_
      exact ⟨m', hm, σ3, H3, I3, w3⟩
    | cont =>
      obtain ⟨σ3, H3, I3, n3⟩ := q3
      refine L2.ob_ea (hN σ3 H3 n3) fun m' hm w3 => ?_
      exact ⟨m', hm, σ3, H3, I3, w3⟩
    | brk => exact q3
    | ret v => exact q3
  | false =>
    rw [if_neg Bool.false_ne_true]
    exact wpAny_execs_nil ⟨σ1, H2, I2, q2⟩
end

structure It where
  go : Nat → Hp → Prop
  yld : Nat → Hp → V → Hp → Prop
  stop : Nat → Hp → Prop
noncomputable def FpOk (X : Cx) (pins : List (Addr × Obj)) (H : Hp) (b : Addr) : Prop :=
  H b = none ∧ b ≠ X.env.locals ∧ b ∉ X.fs ∧ (b ∈ X.ex ∨ X.s₀.heap.objs.size ≤ b) ∧ (∀ x c, X.env.cells.lookup x = some c → c ≠ b) ∧ ∀ p ∈ X.pn ++ pins, p.1 ≠ b
theorem Inv.fpOk {X : Cx} {pins : List (Addr × Obj)} {σ : St} {H H' : Hp} {s : Shared} {b : Addr} (I : Inv X pins σ H s) (hb : s.heap.objs.size ≤ b) (hn : H' b = none) : FpOk X pins H' b := by
  refine ⟨hn, Nat.ne_of_gt (Nat.lt_of_lt_of_le I.lt hb), I.nofs hb, .inr (Nat.le_trans I.sz hb), fun x c e z => ?_, fun p hp z => ?_⟩
  · obtain ⟨v, q⟩ := I.cell x c e
    exact absurd (Nat.lt_of_lt_of_le q.lt (by rw [z]; exact hb)) (Nat.lt_irrefl _)
  · exact absurd (Nat.lt_of_lt_of_le (Heap.lt_size (I.pin p hp).1) (by rw [z]; exact hb)) (Nat.lt_irrefl _)
inductive TIt (X : Cx) (pins : List (Addr × Obj)) (σ : St) (u : Value) (J : It) (i : Nat) (H : Hp) (fp : List Addr) (tn : Nat → Heap → Prop) (s2 : Shared) : Prop
  | mk : ∀ x H', Inv X pins σ H' s2 → RelV x u → J.yld i H x H' → tn (i + 1) s2.heap → (∀ b ∈ fp, H' b = none) → TIt X pins σ u J i H fp tn s2
structure Turn (P : Program) (w : World) (K : PySem.W.Frag) (tg : Expr) (J : It) (fp : List Addr) (it : Addr) (tn : Nat → Heap → Prop) : Prop where
  mem : it ∈ fp
  obj : ∀ i h, tn i h → ∀ b ∈ fp, ∃ o, h.get? b = some o ∧ ∀ v, o.data ≠ .cell v
  keep : ∀ i h h', tn i h → (∀ b ∈ fp, ∀ o, h.get? b = some o → h'.get? b = some o) → tn i h'
  item : ∀ (X : Cx), X.prog = P → X.w = w → X.K = K → X.calm = true → ∀ (i : Nat) (pins : List (Addr × Obj)) (s : Shared) (σ : St) (H : Hp) (E : Value → Shared → Prop), Inv X pins σ H s → (∀ b ∈ fp, FpOk X pins H b) → tn i s.heap → J.go i H →
    wpAny (model P w) X.A (pyNext (.ref it)) (fun r s1 => ∃ u, r = some u ∧
      wpAny (model P w) X.A (letOwnedTupleGo tg (.ref it) u) (fun _ s2 => TIt X pins σ u J i H fp tn s2) E s1) E s
  done : ∀ (X : Cx), X.prog = P → X.w = w → X.K = K → X.calm = true → ∀ (i : Nat) (pins : List (Addr × Obj)) (s : Shared) (σ : St) (H : Hp) (E : Value → Shared → Prop), Inv X pins σ H s → (∀ b ∈ fp, FpOk X pins H b) → tn i s.heap → J.stop i H →
    wpAny (model P w) X.A (pyNext (.ref it)) (fun r s1 => r = none ∧ Inv X pins σ H s1) E s
  self : ∀ (A : Around) (i : Nat) (s : Shared) (Q : Value → Shared → Prop) (E : Value → Shared → Prop), tn i s.heap → Q (.ref it) s → wpAny (model P w) A (pyIter (.ref it)) Q E s
noncomputable abbrev TI := St → Hp → (It → Hp → Prop) → Prop
inductive PIE (X : Cx) (pins : List (Addr × Obj)) (σ : St) (tg : Expr) (R : It → Hp → Prop) (itv : Value) (s2 : Shared)  : Prop
  | mk : ∀ (it : Addr) (fp : List Addr) (tn : Nat → Heap → Prop) (J : It) (H' : Hp), (itv = .ref it) → (Inv X pins σ H' s2) → (Turn X.prog X.w X.K tg J fp it tn) → (tn 0 s2.heap) → ((∀ b ∈ fp, FpOk X pins H' b)) → (R J H') → PIE X pins σ tg R itv s2
noncomputable def PI (X : Cx) (tg iter : Expr) (wi : TI) : Prop :=
  ∀ (pins : List (Addr × Obj)) (s : Shared) (σ : St) (H : Hp) (R : It → Hp → Prop), Inv X pins σ H s → wi σ H R →
    wpAny (model X.prog X.w) X.A (eval iter X.env) (fun v s1 => wpAny (model X.prog X.w) X.A (pyIter v) (PIE X pins σ tg R) X.xe s1) X.xe s
theorem go_of {M : Model} {A : Around} {E : Value → Shared → Prop} {s : Shared} {tg : Expr} {it : Addr} {u : Value} {o : Obj} {n : String} {vs : Array Value} {Q : Unit → Shared → Prop} (ho : s.heap.get? it = some o) (hc : o.cls = .type n) (hd : o.data = .fields vs)
    (hn : ["enumerate", "zip", "dict_itemiterator", "dict_reverseitemiterator", "odict_iterator", "itertools.zip_longest", "itertools.pairwise"].contains n = false) (hQ : Q () s) : wpAny M A (letOwnedTupleGo tg (.ref it) u) Q E s := by
  unfold letOwnedTupleGo
  cases tg <;> first
    | exact wpAny_pure hQ
    | (cases u <;> first
        | exact wpAny_pure hQ
        | (refine wpAny_bind (wpAny_load ho ?_)
           rw [hc, hd]
           show wpAny M A (if (["enumerate", "zip", "dict_itemiterator", "dict_reverseitemiterator", "odict_iterator", "itertools.zip_longest", "itertools.pairwise"].contains n && vs[0]? == some (rawInt _)) = true then _ else _) Q E s
           rw [if_neg (by intro h; rw [hn, Bool.false_and] at h; cases h)]
           exact wpAny_pure hQ))
noncomputable def Itl (K : PySem.W.Frag) (a : Addr) : It :=
  ⟨fun i H => ∃ xs x, SqL K H a xs ∧ xs[i]? = some x, fun i H x H' => H' = H ∧ ∀ xs, SqL K H a xs → xs[i]? = some x, fun i H => ∃ xs, SqL K H a xs ∧ xs.length ≤ i⟩
noncomputable def Itt (K : PySem.W.Frag) (a : Addr) : It :=
  ⟨fun i H => ∃ xs x, SqT K H a xs ∧ xs[i]? = some x, fun i H x H' => H' = H ∧ ∀ xs, SqT K H a xs → xs[i]? = some x, fun i H => ∃ xs, SqT K H a xs ∧ xs.length ≤ i⟩
noncomputable def Itr (lo : Int) (n : Nat) : It := ⟨fun i _ => i < n, fun i H x H' => H' = H ∧ x = .int (lo + i), fun i _ => n ≤ i⟩
theorem turn_list {P : Program} {w : World} {K : PySem.W.Frag} {tg : Expr} (a it : Addr) : Turn P w K tg (Itl K a) [it] it (fun i h => h.IsListIter it a i) where
  mem := by simp
  obj := fun i h st b hb => by
    have e : b = it := by simpa using hb
    subst e
    obtain ⟨o, e, c, d⟩ := st
    exact ⟨o, e, fun v z => by rw [d] at z; cases z⟩
  keep := fun i h h' st k => st.at fun o e => k it (by simp) o e
  item := by
    intro X hP hw hK hc i pins s σ H E I hf st hg
    subst hP hw hK
    obtain ⟨xs, x, hq, hx⟩ := hg
    refine L2.ob_eaa (I.list hq) fun its rv p hz => ?_
    refine L2.ob_ea (rv.get hx) fun u hu ru => ?_
    obtain ⟨f0, f1, f2, f3, f4, f5⟩ := hf it (by simp)
    refine wpAny_pyNext_list_item st p.isList (x := u) (by simpa using hu) fun h' st' sb => ?_
    have I1 : Inv X pins σ H { s with heap := h' } := I.turned (t' := s.toks) (fun b o hb e => (sb.2 b hb).trans e) f0 f1 f3 f4 f5
    obtain ⟨o, e, c, d⟩ := id st'
    exact ⟨u, rfl, go_of (s := { s with heap := h' }) e c d (by decide) ⟨x, H, I1, ru, ⟨rfl, fun ys hy => by rw [I.list_inj hy hq]; exact hx⟩, st', fun b hb => (hf b hb).1⟩⟩
  done := by
    intro X hP hw hK hc i pins s σ H E I hf st hg
    subst hP hw hK
    obtain ⟨xs, hq, hx⟩ := hg
    refine L2.ob_eaa (I.list hq) fun its rv p hz => ?_
    obtain ⟨f0, f1, f2, f3, f4, f5⟩ := hf it (by simp)
    have hl := rv.length
    exact wpAny_pyNext_list_end (I.ok.hd hc) st p.isList (by simp; lia) fun h' eb => ⟨rfl, I.turned (t' := s.toks) (fun b o hb e => eb b o hb e) f0 f1 f3 f4 f5⟩
  self := fun _ _ _ _ _ st h => wpAny_pyIter_listiter st h
theorem turn_tuple {P : Program} {w : World} {K : PySem.W.Frag} {tg : Expr} (a it : Addr) : Turn P w K tg (Itt K a) [it] it (fun i h => h.IsTupleIter it a i) where
  mem := by simp
  obj := fun i h st b hb => by
    have e : b = it := by simpa using hb
    subst e
    obtain ⟨o, e, c, d⟩ := st
    exact ⟨o, e, fun v z => by rw [d] at z; cases z⟩
  keep := fun i h h' st k => st.at fun o e => k it (by simp) o e
  item := by
    intro X hP hw hK hc i pins s σ H E I hf st hg
    subst hP hw hK
    obtain ⟨xs, x, hq, hx⟩ := hg
    refine L2.ob_eaa (I.tuple hq) fun its rv p hz => ?_
    refine L2.ob_ea (rv.get hx) fun u hu ru => ?_
    obtain ⟨f0, f1, f2, f3, f4, f5⟩ := hf it (by simp)
    refine wpAny_pyNext_tuple_item st (show s.heap.IsTuple a its.toArray from p) (x := u) (by simpa using hu) fun h' st' sb => ?_
    have I1 : Inv X pins σ H { s with heap := h' } := I.turned (t' := s.toks) (fun b o hb e => (sb.2 b hb).trans e) f0 f1 f3 f4 f5
    obtain ⟨o, e, c, d⟩ := id st'
    exact ⟨u, rfl, go_of (s := { s with heap := h' }) e c d (by decide) ⟨x, H, I1, ru, ⟨rfl, fun ys hy => by rw [I.tuple_inj hy hq]; exact hx⟩, st', fun b hb => (hf b hb).1⟩⟩
  done := by
    intro X hP hw hK hc i pins s σ H E I hf st hg
    subst hP hw hK
    obtain ⟨xs, hq, hx⟩ := hg
    refine L2.ob_eaa (I.tuple hq) fun its rv p hz => ?_
    obtain ⟨f0, f1, f2, f3, f4, f5⟩ := hf it (by simp)
    have hl := rv.length
    exact wpAny_pyNext_tuple_end (I.ok.hd hc) st (show s.heap.IsTuple a its.toArray from p) (by simp; lia) fun h' eb => ⟨rfl, I.turned (t' := s.toks) (fun b o hb e => eb b o hb e) f0 f1 f3 f4 f5⟩
  self := fun _ _ _ _ _ st h => wpAny_pyIter_tupleiter st h
theorem turn_range {P : Program} {w : World} {K : PySem.W.Frag} {tg : Expr} (it : Addr) (lo : Int) (n : Nat) : Turn P w K tg (Itr lo n) [it] it (fun i h => IsRangeIter h it (lo + (i : Nat) * 1) ((n : Int) - (i : Nat)) 1) where
  mem := by simp
  obj := fun i h st b hb => by
    have e : b = it := by simpa using hb
    subst e
    exact ⟨_, st, fun v z => by
      have z' : Data.fields _ = Data.cell v := z
      cases z'⟩
  keep := fun i h h' st k => k it (by simp) _ st
  item := by
    intro X hP hw hK hc i pins s σ H E I hf st hg
    subst hP hw hK
    obtain ⟨f0, f1, f2, f3, f4, f5⟩ := hf it (by simp)
    have W := Walks.range (prog := X.prog) (w := X.w) (I.ok.hd hc) it lo 1 n
    refine W.item i s _ _ hg st fun v h' tk hv st' kk => ?_
    obtain ⟨t, rfl⟩ := hv
    have I1 : Inv X pins σ H { s with heap := h', toks := tk } := I.turned (fun b o hb e => kk b o (by simpa using hb) e) f0 f1 f3 f4 f5
    refine ⟨_, rfl, go_of (s := { s with heap := h', toks := tk }) (n := "range_iterator") st' rfl rfl (by decide) ⟨.int (lo + i), H, I1, ⟨t, ?_⟩, ⟨rfl, rfl⟩, st', fun b hb => (hf b hb).1⟩⟩
    rw [Int.mul_one]
  done := by
    intro X hP hw hK hc i pins s σ H E I hf st hg
    subst hP hw hK
    obtain ⟨f0, f1, f2, f3, f4, f5⟩ := hf it (by simp)
    exact wpAny_pyNext_range_end (I.ok.hd hc) st (by have : n ≤ i := hg; lia) fun h' eb => ⟨rfl, I.turned (t' := s.toks) (fun b o hb e => eb b o hb e) f0 f1 f3 f4 f5⟩
  self := fun _ _ _ _ _ st h => wpAny_pyIter_rangeiter st h
end L2

namespace L2
open PySem PySem.Spec PyProof.Rows
section
variable {X : Cx} {tg : Expr}
inductive iList_b (K : PySem.W.Frag) (R : It → Hp → Prop) (x : V) (H1 : Hp) : Prop
  | mk : ∀ a, (x = .ref a) → ((∃ xs, SqL K H1 a xs)) → (R (Itl K a) H1) → iList_b K R x H1
noncomputable def iList (K : PySem.W.Frag) (tl : TE) : TI := fun σ H R => tl σ H fun x H1 => iList_b K R x H1
inductive iTup_b (K : PySem.W.Frag) (R : It → Hp → Prop) (x : V) (H1 : Hp) : Prop
  | mk : ∀ a, (x = .ref a) → ((∃ xs, SqT K H1 a xs)) → (R (Itt K a) H1) → iTup_b K R x H1
noncomputable def iTup (K : PySem.W.Frag) (tl : TE) : TI := fun σ H R => tl σ H fun x H1 => iTup_b K R x H1
theorem pi_list {l : Expr} {tl : TE} (hl : PE X l tl) : PI X tg l (iList X.K tl) := by
  intro pins s σ H R I h
  refine thn (hl pins s σ H _ I h) fun v s1 ⟨x, H1, I1, r1, q1⟩ => ?_
  obtain ⟨a, e, ⟨xs, hq⟩, q⟩ := q1
  subst e
  cases r1
  obtain ⟨its, rv, p, hz⟩ := I1.list hq
  refine wpAny_pyIter_list p.isList ?_
  refine ⟨s1.heap.objs.size, [s1.heap.objs.size], _, _, H1, rfl, I1.kept (t' := s1.toks) fun b o e => Heap.get?_push_of_some _ e, turn_list a _, ⟨_, Heap.get?_push_size _ rfl, rfl, rfl⟩, fun b hb => ?_, q⟩
  have e : b = s1.heap.objs.size := by simpa using hb
  subst e
  exact I1.fpOk (Nat.le_refl _) (I1.hok.fresh (Nat.le_refl _))
theorem pi_tup {l : Expr} {tl : TE} (hl : PE X l tl) : PI X tg l (iTup X.K tl) := by
  intro pins s σ H R I h
  refine thn (hl pins s σ H _ I h) fun v s1 ⟨x, H1, I1, r1, q1⟩ => ?_
  obtain ⟨a, e, ⟨xs, hq⟩, q⟩ := q1
  subst e
  cases r1
  obtain ⟨its, rv, p, hz⟩ := I1.tuple hq
  refine wpAny_pyIter_tuple (show s1.heap.IsTuple a its.toArray from p) ?_
  refine ⟨s1.heap.objs.size, [s1.heap.objs.size], _, _, H1, rfl, I1.kept (t' := s1.toks) fun b o e => Heap.get?_push_of_some _ e, turn_tuple a _, ⟨_, Heap.get?_push_size _ rfl, rfl, rfl⟩, fun b hb => ?_, q⟩
  have e : b = s1.heap.objs.size := by simpa using hb
  subst e
  exact I1.fpOk (Nat.le_refl _) (I1.hok.fresh (Nat.le_refl _))
theorem range_it {pins : List (Addr × Obj)} {σ : St} {H : Hp} {s : Shared} {R : It → Hp → Prop} {E : Value → Shared → Prop} {lo hi : Int} {t u v : Tok} {tk : Nat} (I : Inv X pins σ H s) (h1 : -(2 ^ 62) ≤ lo) (h2 : lo < 2 ^ 62) (h3 : -(2 ^ 62) ≤ hi) (h4 : hi < 2 ^ 62)
    (q : R (Itr lo (hi - lo).toNat) H) : wpAny (model X.prog X.w) X.A (pyIter (.ref s.heap.objs.size)) (PIE X pins σ tg R) E { s with heap := s.heap.push { cls := .type "range", data := .fields #[.int lo t, .int hi u, .int 1 v] }, toks := tk } := by
  refine wpAny_pyIter_range (IsRange.new ..) (small_one h1 h2 h3 h4) ?_
  have I1 : Inv X pins σ H { s with heap := s.heap.push { cls := .type "range", data := .fields #[.int lo t, .int hi u, .int 1 v] }, toks := tk } := I.kept fun b o e => Heap.get?_push_of_some _ e
  refine ⟨(s.heap.push { cls := .type "range", data := .fields #[.int lo t, .int hi u, .int 1 v] }).objs.size, [(s.heap.push { cls := .type "range", data := .fields #[.int lo t, .int hi u, .int 1 v] }).objs.size], _, _, H, rfl,
    I1.kept (t' := tk) fun b o e => Heap.get?_push_of_some _ e, turn_range _ lo (hi - lo).toNat, ?_, fun b hb => ?_, q⟩
  · have e1 : lo + ((0 : Nat) : Int) * 1 = lo := by simp
    have e2 : (((hi - lo).toNat : Nat) : Int) - ((0 : Nat) : Int) = Builtin.Range.rangeSize lo hi 1 := by rw [rangeSize_one]; split <;> lia
    show IsRangeIter _ _ (lo + ((0 : Nat) : Int) * 1) ((((hi - lo).toNat : Nat) : Int) - ((0 : Nat) : Int)) 1
    rw [e1, e2]
    exact Heap.get?_push_size _ rfl
  · have e : b = (s.heap.push { cls := .type "range", data := .fields #[.int lo t, .int hi u, .int 1 v] }).objs.size := by simpa using hb
    subst e
    exact I1.fpOk (Nat.le_refl _) (I1.hok.fresh (Nat.le_refl _))
inductive iRng1_b (R : It → Hp → Prop) (vs : List V) (H1 : Hp) : Prop
  | mk : ∀ j : Int, (vs = [.int j]) → (-(2 ^ 62) ≤ j) → (j < 2 ^ 62) → (R (Itr 0 j.toNat) H1) → iRng1_b R vs H1
noncomputable def iRng1 (ta : TA) : TI := fun σ H R => ta σ H fun vs H1 => iRng1_b R vs H1
inductive iRng2_b (R : It → Hp → Prop) (vs : List V) (H1 : Hp) : Prop
  | mk : ∀ i j : Int, (vs = [.int i, .int j]) → ((-(2 ^ 62) ≤ i ∧ i < 2 ^ 62 ∧ -(2 ^ 62) ≤ j ∧ j < 2 ^ 62)) → (R (Itr i (j - i).toNat) H1) → iRng2_b R vs H1
noncomputable def iRng2 (ta : TA) : TI := fun σ H R => ta σ H fun vs H1 => iRng2_b R vs H1
theorem pi_range1 {a : Expr} {ta : TA} {p pos : Pos} (hg : Gl X "range") (hm : X.mg "range" = none) (ha : PA X [a] ta) (hs : starEach [a] X.env = [(false, eval a X.env)] := by rfl) : PI X tg (.Call (.Name "range" p) [a] [] pos) (iRng1 ta) := by
  intro pins s σ H R I h
  refine Call_ (ld_blt I hg hm boot_range (PyProof.Rows.callWith_type1 (thn (ha pos pins s σ H _ I h) fun us s1 ⟨vs, H1, I1, r1, q1⟩ => ?_) hs rfl))
  obtain ⟨j, e, q1, q2, q⟩ := q1
  subst e
  cases r1 with
  | cons r rr =>
    cases rr
    obtain ⟨t, rfl⟩ := r
    exact call_range_1 (range_it I1 (by exact Int.natCast_nonneg _) (by exact Int.natCast_nonneg _) q1 q2 (by simpa using q))
theorem pi_range2 {a b : Expr} {ta : TA} {p pos : Pos} (hg : Gl X "range") (hm : X.mg "range" = none) (ha : PA X [a, b] ta) (hs : starEach [a, b] X.env = [(false, eval a X.env), (false, eval b X.env)] := by rfl) (hs2 : starEach [b] X.env = [(false, eval b X.env)] := by rfl) :
    PI X tg (.Call (.Name "range" p) [a, b] [] pos) (iRng2 ta) := by
  intro pins s σ H R I h
  refine Call_ (ld_blt I hg hm boot_range (PyProof.Rows.callWith_type1 (thn (ha pos pins s σ H _ I h) fun us s1 ⟨vs, H1, I1, r1, q1⟩ => ?_) (by rw [hs, hs2]) (by rw [hs2]; rfl)))
  obtain ⟨i, j, e, ⟨q1, q2, q3, q4⟩, q⟩ := q1
  subst e
  cases r1 with
  | cons r rr =>
    cases rr with
    | cons r' rr =>
      cases rr
      obtain ⟨t, rfl⟩ := r
      obtain ⟨t', rfl⟩ := r'
      exact call_range_2 (range_it I1 q1 q2 q3 q4 q)
noncomputable def tFor (wi : TI) (g : TG) (tb : TS) : TS := fun D σ H => wi σ H fun J H1 => ∃ W : Nat → Nat → St → Hp → Prop, (∃ m, W 0 m σ H1) ∧ ∀ i m σ H, W i m σ H →
  (J.stop i H ∧ D.nx σ H) ∨ (J.go i H ∧ ∃ N : St → Hp → Prop, (∀ σ' H', N σ' H' → ∃ m', m' < m ∧ W (i + 1) m' σ' H') ∧ ∀ x H', J.yld i H x H' → g x σ H' fun σ2 H2 => tb (D.lp (N)) σ2 H2)
noncomputable def pinsAt (fp : List Addr) (h : Heap) : List (Addr × Obj) := fp.filterMap fun b => (h.get? b).map fun o => (b, o)
theorem mem_pinsAt {fp : List Addr} {h : Heap} {b : Addr} {o : Obj} (hb : b ∈ fp) (e : h.get? b = some o) : (b, o) ∈ pinsAt fp h := List.mem_filterMap.mpr ⟨b, hb, by rw [e]; rfl⟩
theorem of_pinsAt {fp : List Addr} {h : Heap} {p : Addr × Obj} (hp : p ∈ pinsAt fp h) : p.1 ∈ fp ∧ h.get? p.1 = some p.2 := by
  obtain ⟨b, hb, e⟩ := List.mem_filterMap.mp hp
  cases q : h.get? b with
  | none => rw [q] at e; cases e
  | some o =>
    rw [q] at e
    have e' : (b, o) = p := Option.some.inj e
    subst e'
    exact ⟨hb, q⟩
theorem Inv.pinned {pins : List (Addr × Obj)} {σ : St} {H : Hp} {s : Shared} {fp : List Addr} (I : Inv X pins σ H s) (hf : ∀ b ∈ fp, FpOk X pins H b) (ho : ∀ b ∈ fp, ∃ o, s.heap.get? b = some o ∧ ∀ v, o.data ≠ .cell v) : Inv X (pins ++ pinsAt fp s.heap) σ H s :=
  I.pins_of fun p hp => (List.mem_append.mp hp).elim (fun z => I.pin p (List.mem_append_right _ z)) fun z => by
    obtain ⟨hb, e⟩ := of_pinsAt z
    obtain ⟨f0, f1, f2, _⟩ := hf p.1 hb
    refine L2.ob_ea (ho p.1 hb) fun o e' d => ?_
    rw [e] at e'; obtain rfl := Option.some.inj e'
    exact ⟨e, f0, f1, f2, d⟩
theorem Inv.unpinned {pins pl : List (Addr × Obj)} {σ : St} {H : Hp} {s : Shared} (I : Inv X (pins ++ pl) σ H s) : Inv X pins σ H s := I.pins_of fun p hp => I.pin p (List.mem_append_right _ (List.mem_append_left _ hp))
inductive FL (X : Cx) (pins : List (Addr × Obj)) (fp : List Addr) (tn : Nat → Heap → Prop) (W : Nat → Nat → St → Hp → Prop) (n : Nat) (s' : Shared) : Prop
  | mk : ∀ i σ' H', Inv X pins σ' H' s' → tn i s'.heap → (∀ b ∈ fp, H' b = none) → W i n σ' H' → FL X pins fp tn W n s'
theorem ps_for {iter : Expr} {body : List Stmt} {wi : TI} {g : TG} {tb : TS} {pos : Pos} (hp : PassesOwn (model X.prog X.w) X.A X.env X.xe) (hc : X.calm = true) (hi : PI X tg iter wi) (hg : PG X tg g) (hb : PSs X body tb)
    (hs : ∀ x, foldedSetIterable iter X.env x = pure x := by intro _; rfl) : PS X (.For tg iter body [] pos) (tFor wi g tb) := by
  intro pins s σ H D I h
  refine wpAny_For (thn (hi pins s σ H _ I h) fun v s1 h1 => thn h1 fun itv s2 h2 => ?_) hs
  obtain ⟨it, fp, tn, J, H2, e, I2, T, st2, f2, W, ⟨m0, w0⟩, turn⟩ := h2
  subst e
  -- what stays true of the iterator's objects through the loop
  have stat : ∀ {H' : Hp}, (∀ b ∈ fp, H' b = none) → ∀ b ∈ fp, FpOk X pins H' b := fun hn b hb => ⟨hn b hb, (f2 b hb).2⟩
  refine codeAny_forLoop_any (FL X pins fp tn W) ?_ m0 ⟨0, σ, H2, I2, st2, fun b hb => (f2 b hb).1, w0⟩
  rintro n s3 ⟨i, σ3, H3, I3, st3, fr3, w3⟩
  rcases turn i n σ3 H3 w3 with ⟨stop, qn⟩ | ⟨go, N, hN, step⟩
  · refine wpAny_passesOwn hp (thn (T.done X rfl rfl rfl hc i pins s3 σ3 H3 X.xe I3 (stat fr3) st3 stop) fun r s4 ⟨hr, I4⟩ => ?_)
    subst hr
    exact wpAny_execs_nil ⟨σ3, H3, I4, qn⟩
  · refine wpAny_passesOwn hp (thn (T.item X rfl rfl rfl hc i pins s3 σ3 H3 X.xe I3 (stat fr3) st3 go) fun r s4 ⟨u, hr, h4⟩ => ?_)
    subst hr
    refine wpAny_passesOwn hp (thn h4 fun _ s5 ⟨x, H5, I5, r5, y5, st5, fr5⟩ => ?_)
    have I5' := I5.pinned (stat fr5) (T.obj _ _ st5)
    refine wpAny_passesOwn hp (thn (hg _ s5 σ3 H5 x u _ I5' r5 (step x H5 y5)) fun _ s6 ⟨σ6, H6, I6, q6⟩ => ?_)
    refine wpAny_passesOwn hp (thn (hb _ s6 σ6 H6 _ I6 q6) fun f s7 q7 => ?_)
    have again : ∀ {σ7 : St} {H7 : Hp}, Inv X (pins ++ pinsAt fp s5.heap) σ7 H7 s7 → N σ7 H7 → ∃ m, m < n ∧ FL X pins fp tn W m s7 := fun {σ7 H7} I7 n7 => by
      obtain ⟨m', hm, w7⟩ := hN σ7 H7 n7
      refine ⟨m', hm, i + 1, σ7, H7, I7.unpinned, T.keep _ _ _ st5 fun b hb o e => (I7.pin (b, o) (List.mem_append_right _ (List.mem_append_right _ (mem_pinsAt hb e)))).1, fun b hb => ?_, w7⟩
      obtain ⟨o, e, d⟩ := T.obj _ _ st5 b hb
      exact (I7.pin (b, o) (List.mem_append_right _ (List.mem_append_right _ (mem_pinsAt hb e)))).2.1
    cases f with
    | next => obtain ⟨σ7, H7, I7, n7⟩ := q7; exact again I7 n7
    | cont => obtain ⟨σ7, H7, I7, n7⟩ := q7; exact again I7 n7
    | brk => obtain ⟨σ7, H7, I7, q7⟩ := q7; exact ⟨σ7, H7, I7.unpinned, q7⟩
    | ret v => obtain ⟨x7, σ7, H7, I7, r7, q7⟩ := q7; exact ⟨x7, σ7, H7, I7.unpinned, r7, q7⟩
end

theorem for_list {K : PySem.W.Frag} {a : Addr} {xs : List V} {g : TG} {tb : TS} {D : Ends} {σ : St} {H : Hp} (Pv : Nat → St → Hp → Prop) (h0 : Pv 0 σ H) (hl : ∀ i σ H, i ≤ xs.length → Pv i σ H → SqL K H a xs)
    (hs : ∀ i x σ H, xs[i]? = some x → Pv i σ H → g x σ H fun σ2 H2 => tb (D.lp (Pv (i + 1))) σ2 H2) (hd : ∀ σ H, Pv xs.length σ H → D.nx σ H) :
    ∃ W : Nat → Nat → St → Hp → Prop, (∃ m, W 0 m σ H) ∧ ∀ i m σ H, W i m σ H →
      ((Itl K a).stop i H ∧ D.nx σ H) ∨ ((Itl K a).go i H ∧ ∃ N : St → Hp → Prop, (∀ σ' H', N σ' H' → ∃ m', m' < m ∧ W (i + 1) m' σ' H') ∧ ∀ x H', (Itl K a).yld i H x H' → g x σ H' fun σ2 H2 => tb (D.lp (N)) σ2 H2) := by
  refine ⟨fun i m σ H => m = xs.length - i ∧ i ≤ xs.length ∧ Pv i σ H, ⟨xs.length, by simp, Nat.zero_le _, h0⟩, ?_⟩
  rintro i m σ H ⟨rfl, hi, p⟩
  have q := hl i σ H hi p
  by_cases hlt : i < xs.length
  · refine .inr ⟨⟨xs, xs[i], q, by simp [hlt]⟩, Pv (i + 1), fun σ' H' p' => ⟨xs.length - (i + 1), by lia, rfl, hlt, p'⟩, fun x H' y => ?_⟩
    obtain ⟨e, y⟩ := y
    subst e
    exact hs i x σ _ (y xs q) p
  · have e : i = xs.length := by lia
    subst e
    exact .inl ⟨⟨xs, q, Nat.le_refl _⟩, hd σ H p⟩
theorem for_tup {K : PySem.W.Frag} {a : Addr} {xs : List V} {g : TG} {tb : TS} {D : Ends} {σ : St} {H : Hp} (Pv : Nat → St → Hp → Prop) (h0 : Pv 0 σ H) (hl : ∀ i σ H, i ≤ xs.length → Pv i σ H → SqT K H a xs)
    (hs : ∀ i x σ H, xs[i]? = some x → Pv i σ H → g x σ H fun σ2 H2 => tb (D.lp (Pv (i + 1))) σ2 H2) (hd : ∀ σ H, Pv xs.length σ H → D.nx σ H) :
    ∃ W : Nat → Nat → St → Hp → Prop, (∃ m, W 0 m σ H) ∧ ∀ i m σ H, W i m σ H →
      ((Itt K a).stop i H ∧ D.nx σ H) ∨ ((Itt K a).go i H ∧ ∃ N : St → Hp → Prop, (∀ σ' H', N σ' H' → ∃ m', m' < m ∧ W (i + 1) m' σ' H') ∧ ∀ x H', (Itt K a).yld i H x H' → g x σ H' fun σ2 H2 => tb (D.lp (N)) σ2 H2) := by
  refine ⟨fun i m σ H => m = xs.length - i ∧ i ≤ xs.length ∧ Pv i σ H, ⟨xs.length, by simp, Nat.zero_le _, h0⟩, ?_⟩
  rintro i m σ H ⟨rfl, hi, p⟩
  have q := hl i σ H hi p
  by_cases hlt : i < xs.length
  · refine .inr ⟨⟨xs, xs[i], q, by simp [hlt]⟩, Pv (i + 1), fun σ' H' p' => ⟨xs.length - (i + 1), by lia, rfl, hlt, p'⟩, fun x H' y => ?_⟩
    obtain ⟨e, y⟩ := y
    subst e
    exact hs i x σ _ (y xs q) p
  · have e : i = xs.length := by lia
    subst e
    exact .inl ⟨⟨xs, q, Nat.le_refl _⟩, hd σ H p⟩
theorem for_range {lo : Int} {n : Nat} {g : TG} {tb : TS} {D : Ends} {σ : St} {H : Hp} (Pv : Nat → St → Hp → Prop) (h0 : Pv 0 σ H)
    (hs : ∀ i σ H, i < n → Pv i σ H → g (.int (lo + i)) σ H fun σ2 H2 => tb (D.lp (Pv (i + 1))) σ2 H2) (hd : ∀ σ H, Pv n σ H → D.nx σ H) :
    ∃ W : Nat → Nat → St → Hp → Prop, (∃ m, W 0 m σ H) ∧ ∀ i m σ H, W i m σ H →
      ((Itr lo n).stop i H ∧ D.nx σ H) ∨ ((Itr lo n).go i H ∧ ∃ N : St → Hp → Prop, (∀ σ' H', N σ' H' → ∃ m', m' < m ∧ W (i + 1) m' σ' H') ∧ ∀ x H', (Itr lo n).yld i H x H' → g x σ H' fun σ2 H2 => tb (D.lp (N)) σ2 H2) := by
  refine ⟨fun i m σ H => m = n - i ∧ i ≤ n ∧ Pv i σ H, ⟨n, by simp, Nat.zero_le _, h0⟩, ?_⟩
  rintro i m σ H ⟨rfl, hi, p⟩
  by_cases hlt : i < n
  · refine .inr ⟨hlt, Pv (i + 1), fun σ' H' p' => ⟨n - (i + 1), by lia, rfl, hlt, p'⟩, fun x H' y => ?_⟩
    obtain ⟨e, y⟩ := y
    subst e y
    exact hs i σ _ hlt p
  · have e : i = n := by lia
    subst e
    exact .inl ⟨Nat.le_refl _, hd σ H p⟩
end L2

namespace L2
open PySem PySem.Spec PyProof.Rows
noncomputable abbrev R2 := V → V → Hp → VK → Prop
noncomputable def OpR (X : Cx) (f : Value → Value → Sem Value) (r : R2) : Prop :=
  ∀ (pins : List (Addr × Obj)) (s : Shared) (σ : St) (H : Hp) (x y : V) (v u : Value) (Q : VK), Inv X pins σ H s → RelV x v → RelV y u → r x y H Q →
    wpAny (model X.prog X.w) X.A (f v u) (EP X pins σ Q) X.xe s
noncomputable def UnR (X : Cx) (f : Value → Sem Value) (r : V → Hp → VK → Prop) : Prop :=
  ∀ (pins : List (Addr × Obj)) (s : Shared) (σ : St) (H : Hp) (x : V) (v : Value) (Q : VK), Inv X pins σ H s → RelV x v → r x H Q →
    wpAny (model X.prog X.w) X.A (f v) (EP X pins σ Q) X.xe s
noncomputable def CallR (X : Cx) (f : Value) (r : List V → Hp → VK → Prop) : Prop :=
  ∀ (pins : List (Addr × Obj)) (s : Shared) (σ : St) (H : Hp) (xs : List V) (us : List Value) (Q : VK), Inv X pins σ H s → Vals xs us → r xs H Q →
    wpAny (model X.prog X.w) X.A (call f us) (EP X pins σ Q) X.xe s
noncomputable def TruR (X : Cx) (r : V → Hp → (Bool → Hp → Prop) → Prop) : Prop :=
  ∀ (pins : List (Addr × Obj)) (s : Shared) (σ : St) (H : Hp) (x : V) (v : Value) (Q : Bool → Hp → Prop), Inv X pins σ H s → RelV x v → r x H Q →
    wpAny (model X.prog X.w) X.A (truthy v) (TP X pins σ Q) X.xe s
noncomputable def tOp (r : R2) (ta tb : TE) : TE := fun σ H Q => ta σ H fun x H1 => tb σ H1 fun y H2 => r x y H2 Q
noncomputable def tUn (r : V → Hp → VK → Prop) (ta : TE) : TE := fun σ H Q => ta σ H fun x H1 => r x H1 Q
noncomputable def rI (C : Int → Int → Prop) (g : Int → Int → V) : R2 := fun x y H Q => onI x fun i => onI y fun j => C i j ∧ Q (g i j) H
theorem rI.ex {C : Int → Int → Prop} {g : Int → Int → V} {x y : V} {H : Hp} {Q : VK} (h : rI C g x y H Q) : ∃ i j, x = .int i ∧ y = .int j ∧ C i j ∧ Q (g i j) H := by
  obtain ⟨i, e, h⟩ := onI.ex h
  obtain ⟨j, e', h⟩ := onI.ex h
  exact ⟨i, j, e, e', h⟩
noncomputable def rI0 (g : Int → Int → V) : R2 := fun x y H Q => onI x fun i => onI y fun j => Q (g i j) H
theorem rI0.ex {g : Int → Int → V} {x y : V} {H : Hp} {Q : VK} (h : rI0 g x y H Q) : ∃ i j, x = .int i ∧ y = .int j ∧ Q (g i j) H := by
  obtain ⟨i, e, h⟩ := onI.ex h
  obtain ⟨j, e', h⟩ := onI.ex h
  exact ⟨i, j, e, e', h⟩
noncomputable def rU (g : Int → V) : V → Hp → VK → Prop := fun x H Q => onI x fun i => Q (g i) H
theorem rU.ex {g : Int → V} {x : V} {H : Hp} {Q : VK} (h : rU g x H Q) : ∃ i, x = .int i ∧ Q (g i) H := onI.ex h
section
variable {X : Cx} {a b c : Expr} {ta tb tc : TE} {pos : Pos}
theorem binT (ha : PE X a ta) (hb : PE X b tb) {pins : List (Addr × Obj)} {s : Shared} {σ : St} {H : Hp} {R : V → V → Hp → Prop} (I : Inv X pins σ H s)
    (h : ta σ H fun x H1 => tb σ H1 fun y H2 => R x y H2) {Q : Value → Shared → Prop} {f : Value → Value → Sem Value}
    (hf : ∀ v u s2 x y H2, Inv X pins σ H2 s2 → RelV x v → RelV y u → R x y H2 → wpAny (model X.prog X.w) X.A (f v u) Q X.xe s2) :
    wpAny (model X.prog X.w) X.A (eval a X.env) (fun v s₁ => wpAny (model X.prog X.w) X.A (eval b X.env) (fun u s₂ => wpAny (model X.prog X.w) X.A (f v u) Q X.xe s₂) X.xe s₁) X.xe s := by
  refine thn (ha pins s σ H _ I h) fun v s1 ⟨x, H1, I1, r1, q1⟩ => ?_
  refine thn (hb pins s1 σ H1 _ I1 q1) fun u s2 ⟨y, H2, I2, r2, q2⟩ => ?_
  exact hf v u s2 x y H2 I2 r1 r2 q2
theorem pe_op {op : Operator} {r : R2} (ho : OpR X (binaryOp op) r) (ha : PE X a ta) (hb : PE X b tb) : PE X (.BinOp a op b pos) (tOp r ta tb) := by
  intro pins s σ H Q I h
  exact wpAny_BinOp (binT ha hb I h fun v u s2 x y H2 I2 rx ry q => ho pins s2 σ H2 x y v u Q I2 rx ry q)
theorem pe_un {op : UnaryOp} {r : V → Hp → VK → Prop} (ho : UnR X (unaryOp op) r) (ha : PE X a ta) : PE X (.UnaryOp op a pos) (tUn r ta) := by
  intro pins s σ H Q I h
  exact UnaryOp_ (thn (ha pins s σ H _ I h) fun v s1 ⟨x, H1, I1, r1, q1⟩ => ho pins s1 σ H1 x v Q I1 r1 q1)
theorem opI {f : Value → Value → Sem Value} {C : Int → Int → Prop} {g : Int → Int → Int}
    (rule : ∀ (i j : Int) (t u : Tok) (s : Shared) (Q : Value → Shared → Prop) (E : Value → Shared → Prop), C i j → Q (.int (g i j) s.toks) { s with toks := s.toks + 1 } → wpAny (model X.prog X.w) X.A (f (.int i t) (.int j u)) Q E s) :
    OpR X f (rI C fun i j => .int (g i j)) := by
  intro pins s σ H x y v u Q I rx ry h
  obtain ⟨i, j, rfl, rfl, hc, q⟩ := h.ex
  obtain ⟨t, rfl⟩ := rx
  obtain ⟨t', rfl⟩ := ry
  exact rule i j t t' s _ _ hc ⟨.int (g i j), H, I.tok _, ⟨_, rfl⟩, q⟩
theorem opI0 {f : Value → Value → Sem Value} {g : Int → Int → Int}
    (rule : ∀ (i j : Int) (t u : Tok) (s : Shared) (Q : Value → Shared → Prop) (E : Value → Shared → Prop), Q (.int (g i j) s.toks) { s with toks := s.toks + 1 } → wpAny (model X.prog X.w) X.A (f (.int i t) (.int j u)) Q E s) :
    OpR X f (rI0 fun i j => .int (g i j)) := by
  intro pins s σ H x y v u Q I rx ry h
  obtain ⟨i, j, rfl, rfl, q⟩ := h.ex
  obtain ⟨t, rfl⟩ := rx
  obtain ⟨t', rfl⟩ := ry
  exact rule i j t t' s _ _ ⟨.int (g i j), H, I.tok _, ⟨_, rfl⟩, q⟩
theorem opB0 {f : Value → Value → Sem Value} {g : Int → Int → Bool}
    (rule : ∀ (i j : Int) (t u : Tok) (s : Shared) (Q : Value → Shared → Prop) (E : Value → Shared → Prop), Q (.bool (g i j)) s → wpAny (model X.prog X.w) X.A (f (.int i t) (.int j u)) Q E s) :
    OpR X f (rI0 fun i j => .bl (g i j)) := by
  intro pins s σ H x y v u Q I rx ry h
  obtain ⟨i, j, rfl, rfl, q⟩ := h.ex
  obtain ⟨t, rfl⟩ := rx
  obtain ⟨t', rfl⟩ := ry
  exact rule i j t t' s _ _ ⟨.bl (g i j), H, I, rfl, q⟩
noncomputable def CDiv (i j : Int) : Prop := 0 < j ∧ j < 1073741824
noncomputable def CMul (i j : Int) : Prop := (-(2 ^ 64) < i ∧ i < 2 ^ 64) ∨ (-(2 ^ 64) < j ∧ j < 2 ^ 64)
theorem CMul.ok {i j : Int} (h : CMul i j) : IntMulOk i j := by
  rcases h with ⟨h1, h2⟩ | ⟨h1, h2⟩
  · exact .of_left (intBits_le_64 h1 h2)
  · exact .of_right (intBits_le_64 h1 h2)
theorem op_add : OpR X (binaryOp .Add) (rI0 fun i j => .int (i + j)) := opI0 fun _ _ _ _ _ _ _ q => add_int q
theorem op_sub : OpR X (binaryOp .Sub) (rI0 fun i j => .int (i - j)) := opI0 fun _ _ _ _ _ _ _ q => sub_int q
theorem op_mul : OpR X (binaryOp .Mult) (rI CMul fun i j => .int (i * j)) := opI fun _ _ _ _ _ _ _ hc q => mul_int q hc.ok
theorem op_fdiv : OpR X (binaryOp .FloorDiv) (rI CDiv fun i j => .int (i / j)) := opI fun i j _ _ _ _ _ hc q => by
  have h1 : (0 : Int) < j := hc.1
  have h2 : j < 1073741824 := hc.2
  exact floordiv_int (by lia) (by rw [Int.fdiv_eq_ediv_of_nonneg i (by solve_by_elim (maxDepth := 3) [Int.le_of_lt, Int.natCast_nonneg, Int.add_nonneg, Int.le_trans, Int.lt_of_lt_of_le, Int.lt_of_le_of_lt])]; exact q) (.inl (PyProof.noPylong_small (by lia)))
theorem op_mod : OpR X (binaryOp .Mod) (rI (fun _ j => 0 < j) fun i j => .int (i % j)) := opI fun i j _ _ _ _ _ hc q => by
  have h1 : (0 : Int) < j := hc
  exact mod_int' (by lia) (by rw [Int.fmod_eq_emod_of_nonneg i (by solve_by_elim (maxDepth := 3) [Int.le_of_lt, Int.natCast_nonneg, Int.add_nonneg, Int.le_trans, Int.lt_of_lt_of_le, Int.lt_of_le_of_lt])]; exact q)
theorem unI {f : Value → Sem Value} {g : Int → Int}
    (rule : ∀ (i : Int) (t : Tok) (s : Shared) (Q : Value → Shared → Prop) (E : Value → Shared → Prop), Q (.int (g i) s.toks) { s with toks := s.toks + 1 } → wpAny (model X.prog X.w) X.A (f (.int i t)) Q E s) :
    UnR X f (rU fun i => .int (g i)) := by
  intro pins s σ H x v Q I rx h
  obtain ⟨i, rfl, q⟩ := h.ex
  obtain ⟨t, rfl⟩ := rx
  exact rule i t s _ _ ⟨.int (g i), H, I.tok _, ⟨_, rfl⟩, q⟩
theorem un_neg : UnR X (unaryOp .USub) (rU fun i => .int (-i)) := unI fun _ _ _ _ _ q => neg_int q
end

noncomputable def scal : V → V → Bool
  | .non, .non => true | .non, .int _ => true | .int _, .non => true | .non, .bl _ => true | .bl _, .non => true | .non, .str _ => true | .str _, .non => true
  | .int _, .int _ => true | .bl _, .bl _ => true | .str _, .str _ => true | .byt _, .byt _ => true
  | .int _, .str _ => true | .str _, .int _ => true | .bl _, .str _ => true | .str _, .bl _ => true
  | _, _ => false
noncomputable def rEq : R2 := fun x y H Q => onT (scal x y) (Q (.bl (decide (x = y))) H)
theorem rEq.ex {x y : V} {H : Hp} {Q : VK} (h : rEq x y H Q) : scal x y = true ∧ Q (.bl (decide (x = y))) H := onT.ex h
noncomputable def rNe : R2 := fun x y H Q => onT (scal x y) (Q (.bl (!decide (x = y))) H)
theorem rNe.ex {x y : V} {H : Hp} {Q : VK} (h : rNe x y H Q) : scal x y = true ∧ Q (.bl (!decide (x = y))) H := onT.ex h
theorem dec_int {i j : Int} : decide (V.int i = V.int j) = (i == j) := by
  rw [Bool.eq_iff_iff]
  simp
theorem dec_bl {i j : Bool} : decide (V.bl i = V.bl j) = (i == j) := by
  rw [Bool.eq_iff_iff]
  simp
theorem dec_str {i j : Str} : decide (V.str i = V.str j) = (i == j) := by
  rw [Bool.eq_iff_iff]
  simp
theorem dec_byt {i j : Array UInt8} : decide (V.byt i = V.byt j) = (i.toList == j.toList) := by
  rw [Bool.eq_iff_iff]
  cases i
  cases j
  simp
section
variable {X : Cx} {a b c : Expr} {ta tb tc : TE} {pos : Pos}
theorem fin_bl {pins : List (Addr × Obj)} {σ : St} {H : Hp} {s : Shared} {Q : VK} {k k' : Bool} (I : Inv X pins σ H s) (q : Q (.bl k) H) (e : k = k') : EP X pins σ Q (.bool k') s := by
  subst e
  exact ⟨.bl k, H, I, rfl, q⟩
theorem op_eq : OpR X (compareOp .Eq) rEq := by
  intro pins s σ H x y v u Q I rx ry h
  obtain ⟨hs, q⟩ := h.ex
  cases x with
  | non =>
    cases rx
    cases y with
    | non => cases ry; exact PySem.EqNone.eq_none_none (fin_bl I q (by simp))
    | bl j => cases ry; exact PySem.EqNone.eq_none_bool (fin_bl I q (by simp))
    | int j => obtain ⟨t', rfl⟩ := ry; exact PySem.EqNone.eq_none_int (fin_bl I q (by simp))
    | str j => obtain ⟨t', rfl⟩ := ry; exact PySem.EqNone.eq_none_str (fin_bl I q (by simp))
    | _ => exact absurd (show false = true from hs) Bool.false_ne_true
  | bl i =>
    cases rx
    cases y with
    | non => cases ry; exact PySem.EqNone.eq_bool_none (fin_bl I q (by simp))
    | bl j => cases ry; exact eq_bool (fin_bl I q dec_bl)
    | str j => obtain ⟨t', rfl⟩ := ry; exact PySem.EqMixed.eq_bool_str (fin_bl I q (by simp))
    | _ => exact absurd (show false = true from hs) Bool.false_ne_true
  | int i =>
    obtain ⟨t, rfl⟩ := rx
    cases y with
    | non => cases ry; exact PySem.EqNone.eq_int_none (fin_bl I q (by simp))
    | int j => obtain ⟨t', rfl⟩ := ry; exact eq_int (fin_bl I q dec_int)
    | str j => obtain ⟨t', rfl⟩ := ry; exact PySem.EqMixed.eq_int_str (fin_bl I q (by simp))
    | _ => exact absurd (show false = true from hs) Bool.false_ne_true
  | str i =>
    obtain ⟨t, rfl⟩ := rx
    cases y with
    | non => cases ry; exact PySem.EqNone.eq_str_none (fin_bl I q (by simp))
    | bl j => cases ry; exact PySem.EqMixed.eq_str_bool (fin_bl I q (by simp))
    | int j => obtain ⟨t', rfl⟩ := ry; exact PySem.EqMixed.eq_str_int (fin_bl I q (by simp))
    | str j => obtain ⟨t', rfl⟩ := ry; exact eq_str (fin_bl I q dec_str)
    | _ => exact absurd (show false = true from hs) Bool.false_ne_true
  | byt i =>
    obtain ⟨t, rfl⟩ := rx
    cases y with
    | byt j => obtain ⟨t', rfl⟩ := ry; exact PySem.W.eq_bytes (fin_bl I q dec_byt)
    | _ => exact absurd (show false = true from hs) Bool.false_ne_true
  | _ => cases y <;> exact absurd (show false = true from hs) Bool.false_ne_true
theorem op_ne : OpR X (compareOp .NotEq) rNe := by
  intro pins s σ H x y v u Q I rx ry h
  obtain ⟨hs, q⟩ := h.ex
  cases x with
  | non =>
    cases rx
    cases y with
    | non => cases ry; exact PySem.EqNone.ne_none_none (fin_bl I q (by simp))
    | bl j => cases ry; exact PySem.EqNone.ne_none_bool (fin_bl I q (by simp))
    | int j => obtain ⟨t', rfl⟩ := ry; exact PySem.EqNone.ne_none_int (fin_bl I q (by simp))
    | str j => obtain ⟨t', rfl⟩ := ry; exact PySem.EqNone.ne_none_str (fin_bl I q (by simp))
    | _ => exact absurd (show false = true from hs) Bool.false_ne_true
  | bl i =>
    cases rx
    cases y with
    | non => cases ry; exact PySem.EqNone.ne_bool_none (fin_bl I q (by simp))
    | bl j => cases ry; exact ne_bool (fin_bl I q (congrArg not dec_bl))
    | str j => obtain ⟨t', rfl⟩ := ry; exact PySem.EqMixed.ne_bool_str (fin_bl I q (by simp))
    | _ => exact absurd (show false = true from hs) Bool.false_ne_true
  | int i =>
    obtain ⟨t, rfl⟩ := rx
    cases y with
    | non => cases ry; exact PySem.EqNone.ne_int_none (fin_bl I q (by simp))
    | int j => obtain ⟨t', rfl⟩ := ry; exact ne_int (fin_bl I q (congrArg not dec_int))
    | str j => obtain ⟨t', rfl⟩ := ry; exact PySem.EqMixed.ne_int_str (fin_bl I q (by simp))
    | _ => exact absurd (show false = true from hs) Bool.false_ne_true
  | str i =>
    obtain ⟨t, rfl⟩ := rx
    cases y with
    | non => cases ry; exact PySem.EqNone.ne_str_none (fin_bl I q (by simp))
    | bl j => cases ry; exact PySem.EqMixed.ne_str_bool (fin_bl I q (by simp))
    | int j => obtain ⟨t', rfl⟩ := ry; exact PySem.EqMixed.ne_str_int (fin_bl I q (by simp))
    | str j => obtain ⟨t', rfl⟩ := ry; exact ne_str (fin_bl I q (congrArg not dec_str))
    | _ => exact absurd (show false = true from hs) Bool.false_ne_true
  | byt i =>
    obtain ⟨t, rfl⟩ := rx
    cases y with
    | byt j => obtain ⟨t', rfl⟩ := ry; exact PySem.W.ne_bytes (fin_bl I q (congrArg not dec_byt))
    | _ => exact absurd (show false = true from hs) Bool.false_ne_true
  | _ => cases y <;> exact absurd (show false = true from hs) Bool.false_ne_true
theorem op_lt : OpR X (compareOp .Lt) (rI0 fun i j => .bl (decide (i < j))) := opB0 fun _ _ _ _ _ _ _ q => lt_int q
theorem op_le : OpR X (compareOp .LtE) (rI0 fun i j => .bl (decide (i ≤ j))) := opB0 fun _ _ _ _ _ _ _ q => le_int q
theorem op_gt : OpR X (compareOp .Gt) (rI0 fun i j => .bl (decide (j < i))) := opB0 fun _ _ _ _ _ _ _ q => gt_int q
theorem op_isN : OpR X (compareOp .Is) (fun x y H Q => y = .non ∧ Q (.bl (decide (x = .non))) H) := by
  intro pins s σ H x y v u Q I rx ry h
  obtain ⟨rfl, q⟩ := h
  cases ry
  refine is_none_gen (fin_bl I q ?_)
  cases x <;> first
    | (cases rx; rfl)
    | (obtain ⟨t, rfl⟩ := rx; rfl)
theorem nomark (b : Expr) {op : CmpOp} (h : op ≠ .In := by decide) (h2 : op ≠ .NotIn := by decide) : behindInMarks op b = false := by
  have e1 : (op == CmpOp.In) = false := by cases op <;> first | rfl | exact absurd rfl h
  have e2 : (op == CmpOp.NotIn) = false := by cases op <;> first | rfl | exact absurd rfl h2
  cases b <;> simp [behindInMarks, e1, e2]
theorem pe_cmpR {op : CmpOp} {r : R2} (ho : OpR X (compareOp op) r) (ha : PE X a ta) (hb : PE X b tb) (hm : behindInMarks op b = false) : PE X (.Compare a [op] [b] pos) (tOp r ta tb) := by
  intro pins s σ H Q I h
  exact wpAny_Compare1 (binT ha hb I h fun v u s2 x y H2 I2 rx ry q => ho pins s2 σ H2 x y v u Q I2 rx ry q) hm
noncomputable def tTest_b (Q : Bool → Hp → Prop) (x : V) (H' : Hp) : Prop := onB x fun k => Q k H'
theorem tTest_b.ex {Q : Bool → Hp → Prop} {x : V} {H' : Hp} (h : tTest_b Q x H') : ∃ k, x = .bl k ∧ Q k H' := onB.ex h
noncomputable def tTest (t : TE) : TT := fun σ H Q => t σ H (tTest_b Q)
theorem pt_cmpR {op : CmpOp} {r : R2} (ho : OpR X (compareOp op) r) (ha : PE X a ta) (hb : PE X b tb) (hm : behindInMarks op b = false) : PT X (.Compare a [op] [b] pos) (tTest (tOp r ta tb)) := by
  intro pins s σ H Q I h
  refine wpAny_isTrue_Compare1 (thn (ha pins s σ H _ I h) fun v s1 ⟨x, H1, I1, r1, q1⟩ => thn (hb pins s1 σ H1 _ I1 q1) fun u s2 ⟨y, H2, I2, r2, q2⟩ =>
    thn (ho pins s2 σ H2 x y v u _ I2 r1 r2 q2) fun c s3 ⟨z, H3, I3, r3, q3⟩ => ?_) hm
  obtain ⟨k, rfl, q3⟩ := q3.ex
  cases r3
  exact wpAny_truthy_bool ⟨H3, I3, q3⟩
noncomputable def tChain (r r' : R2) (ta tb tc : TE) : TE := fun σ H Q => ta σ H fun x H1 => tb σ H1 fun y H2 => r x y H2 fun z H3 => ∃ k, z = .bl k ∧
  (if k = true then tc σ H3 fun w' H4 => r' y w' H4 Q else Q (.bl false) H3)
theorem pe_chain {op op' : CmpOp} {r r' : R2} (ho : OpR X (compareOp op) r) (ho' : OpR X (compareOp op') r') (ha : PE X a ta) (hb : PE X b tb) (hc : PE X c tc)
    (hm : lastMarks [op, op'] [b, c] = false := by with_unfolding_all rfl) : PE X (.Compare a [op, op'] [b, c] pos) (tChain r r' ta tb tc) := by
  intro pins s σ H Q I h
  refine Compare_chain (thn (ha pins s σ H _ I h) fun v s1 ⟨x, H1, I1, r1, q1⟩ => chain_link (thn (hb pins s1 σ H1 _ I1 q1) fun u s2 ⟨y, H2, I2, r2, q2⟩ =>
    thn (ho pins s2 σ H2 x y v u _ I2 r1 r2 q2) fun d s3 ⟨z, H3, I3, r3, k, e, q3⟩ => ?_)) hm
  subst e
  cases r3
  refine wpAny_truthy_bool ?_
  cases k with
  | false => exact ite_ff ⟨.bl false, H3, I3, rfl, q3⟩
  | true => exact ite_tt (chain_last (thn (hc pins s3 σ H3 _ I3 q3) fun w' s4 ⟨z', H4, I4, r4, q4⟩ => ho' pins s4 σ H4 y z' u w' Q I4 r2 r4 q4))
noncomputable def TruV (K : PySem.W.Frag) (x : V) (H : Hp) (k : Bool) : Prop :=
  match x with
  | .non => k = false
  | .bl b => k = b
  | .int i => k = (i != 0)
  | .str y => y.length ≤ sizeLine ∧ k = ((y.length : Int) != 0)
  | .byt y => y.size ≤ sizeLine ∧ k = ((y.size : Int) != 0)
  | .ref p => (∃ xs, SqL K H p xs ∧ k = !xs.isEmpty) ∨ (∃ xs, SqT K H p xs ∧ k = !xs.isEmpty) ∨ ∃ kvs, H p = some (.dK kvs) ∧ k = !kvs.isEmpty
  | _ => False
theorem isEmpty_kv {κ : Type} {kvs : List (κ × V)} {vs : List (κ × Value)} (r : KV kvs vs) : (!vs.isEmpty) = !kvs.isEmpty := by
  cases r <;> rfl
theorem isEmpty_of {xs : List V} {its : List Value} (r : Vals xs its) : (!its.toArray.isEmpty) = !xs.isEmpty := by
  cases r <;> simp
theorem line63 : (sizeLine : Nat) < 2 ^ 63 := by rw [sizeLine_eq]; decide
theorem tru_ok : TruR X (fun x H Q => ∃ k, TruV X.K x H k ∧ Q k H) := by
  intro pins s σ H x v Q I rx h
  obtain ⟨k, e, q⟩ := h
  have hl := line63
  have hs : sizeLine = 16777216 := sizeLine_eq
  cases x with
  | non =>
    cases rx
    have e' : k = false := e
    subst e'
    exact truthy_none ⟨H, I, q⟩
  | bl b =>
    cases rx
    have e' : k = b := e
    subst e'
    exact wpAny_truthy_bool ⟨H, I, q⟩
  | int i =>
    obtain ⟨t, rfl⟩ := rx
    have e' : k = (i != 0) := e
    subst e'
    exact PySem.P.truthy_int ⟨H, I, q⟩
  | str y =>
    obtain ⟨t, rfl⟩ := rx
    obtain ⟨hy, e'⟩ : y.length ≤ sizeLine ∧ k = ((y.length : Int) != 0) := e
    subst e'
    exact PySem.P.truthy_str (by lia) ⟨H, I.tok _, q⟩
  | byt y =>
    obtain ⟨t, rfl⟩ := rx
    obtain ⟨hy, e'⟩ : y.size ≤ sizeLine ∧ k = ((y.size : Int) != 0) := e
    subst e'
    exact PySem.W.truthy_bytes (by lia) ⟨H, I.tok _, q⟩
  | ref p =>
    cases rx
    have e' : (∃ xs, SqL X.K H p xs ∧ k = !xs.isEmpty) ∨ (∃ xs, SqT X.K H p xs ∧ k = !xs.isEmpty) ∨ ∃ kvs, H p = some (.dK kvs) ∧ k = !kvs.isEmpty := e
    rcases e' with ⟨xs, hx, e'⟩ | ⟨xs, hx, e'⟩ | ⟨kvs, hx, e'⟩
    · subst e'
      obtain ⟨its, r, pl, hz⟩ := I.list hx
      have hlen := r.length
      exact wpAny_truthy_list pl.isList (by simp only [List.size_toArray]; lia) ⟨H, I.tok _, by rw [isEmpty_of r]; exact q⟩
    · subst e'
      obtain ⟨its, r, pl, hz⟩ := I.tuple hx
      have hlen := r.length
      exact truthy_tuple pl (by simp only [List.size_toArray]; lia) ⟨H, I.tok _, by rw [isEmpty_of r]; exact q⟩
    · subst e'
      obtain ⟨hz, hS, vs, r, m⟩ : kvs.length ≤ sizeLine ∧ (p == sysModules) = false ∧ ∃ vs, KV kvs vs ∧ s.heap.DictOf (mixKind X.prog X.w) p vs := I.hok p _ hx
      have hlen : kvs.length = vs.length := Paired.length r
      exact wpAny_truthy_dict hS m (by lia) ⟨H, I.tok _, by rw [isEmpty_kv r]; exact q⟩
  | _ => exact (show False from e).elim
theorem pt_truth (ha : PE X a ta) (he : ∀ whole, isTrue a X.env whole = (do let v ← whole; standAt a.pos; holding [v] (truthy v))) :
    PT X a (fun σ H Q => ta σ H fun x H' => ∃ k, TruV X.K x H' k ∧ Q k H') := by
  intro pins s σ H Q I h
  exact isTrue_plain (thn (ha pins s σ H _ I h) fun v s1 ⟨x, H1, I1, r1, q1⟩ => tru_ok pins s1 σ H1 x v Q I1 r1 q1) (he _)
theorem vals1 {x : V} {us : List Value} (r : Vals [x] us) : ∃ u, us = [u] ∧ RelV x u := by
  cases r with
  | cons r1 r2 => cases r2; exact ⟨_, rfl, r1⟩
theorem vals2 {x y : V} {us : List Value} (r : Vals [x, y] us) : ∃ u w', us = [u, w'] ∧ RelV x u ∧ RelV y w' := by
  cases r with
  | cons r1 r2 =>
    cases r2 with
    | cons r3 r4 => cases r4; exact ⟨_, _, rfl, r1, r3⟩
inductive r_call_max2 (xs : List V) (H : Hp) (Q : VK) : Prop
  | mk : ∀ i j, (xs = [.int i, .int j]) → (Q (.int (if j > i then j else i)) H) → r_call_max2 xs H Q
theorem call_max2 (hc : X.calm = true) : CallR X (.builtin "max") r_call_max2 := by
  intro pins s σ H xs us Q I r h
  obtain ⟨i, j, rfl, q⟩ := h
  refine L2.ob_eeaa (vals2 r) fun u w' e_2 q_3 q_4 => ?_; subst e_2; obtain ⟨t, rfl⟩ := q_3; obtain ⟨t', rfl⟩ := q_4
  refine max_two_ints (I.ok.hd hc) fun h' tk k => ⟨_, H, I.kept k, ?_, q⟩
  by_cases hj : j > i
  · rw [if_pos hj, if_pos hj]; exact ⟨_, rfl⟩
  · rw [if_neg hj, if_neg hj]; exact ⟨_, rfl⟩
end
end L2

namespace L2
open PySem PySem.Spec PyProof.Rows
structure ObjM (h : Heap) (x dx C : Addr) (mA : Str → Option Value) : Prop where
  obj : h.get? x = some (PySem.W.instObj C dx)
  ns : h.Ns1 dx mA
  ne : dx ≠ x
theorem lookIn_ns {h : Heap} {dx : Addr} {mA : Str → Option Value} (n : h.Ns1 dx mA) : ∃ od, h.get? dx = some od ∧ ∀ name, PySem.W.lookIn name od = some (mA name) := by
  obtain ⟨o, es, ep, ho, hd, hk, _, hm⟩ := n
  refine ⟨o, ho, fun name => ?_⟩
  have e := hm name
  unfold nsFind findBy at e
  rw [← Array.find?_toList] at e
  unfold PySem.W.lookIn
  rw [hd]
  dsimp only
  split
  · rename_i y q
    rw [q] at e
    exact congrArg some e
  · rename_i q
    rw [q] at e
    have a : es.toList.any (·.refKey) = false := by
      rw [List.any_eq_false]
      intro y hy
      obtain ⟨z, t, hkey⟩ := hk y (Array.mem_toList_iff.mp hy)
      simp [DictEntry.refKey, hkey]
    have a' : ¬ es.toList.any (·.refKey) = true := by rw [a]; exact Bool.false_ne_true
    rw [if_neg a']
    exact congrArg some e
theorem ObjM.look {h : Heap} {x dx C : Addr} {mA : Str → Option Value} (I : ObjM h x dx C mA) : ∃ od, PySem.W.InstAt h x (PySem.W.instObj C dx) C (some od) ∧ ∀ name, PySem.W.lookIn name od = some (mA name) :=
  let ⟨od, ho, hl⟩ := lookIn_ns I.ns
  ⟨od, ⟨I.obj, rfl, rfl, ho⟩, hl⟩
section
variable {prog : Program} {w : World} {A : Around} {E : Value → Shared → Prop} {s : Shared} {K : PySem.W.Frag} {x dx C f : Addr} {mA : Str → Option Value} {name : Str} {v : Value}
end

theorem RelO.some_of {v : V} {o : Option Value} (r : RelO (some v) o) : ∃ u, o = some u ∧ RelV v u := by
  cases o with
  | none => exact (show False from r).elim
  | some u => exact ⟨u, rfl, r⟩
section
variable {P : Program} {w : World} {H H' : Hp} {h h' : Heap} {a C dx : Addr} {fs fs' : List (Str × V)}
theorem ins_get (hok : HOk P w H h) (e : H a = some (.ins C dx fs)) : ∃ mA, ObjM h a dx C mA ∧ (∀ f, RelO (fs.lookup f) (mA f)) ∧ PySem.Within mA (fs.map (·.1)) ∧ fs.length ≤ 1000 ∧ H dx = some (.own a) := by
  obtain ⟨d, z, ne, ob, mA, n, r, q⟩ := (show ObjOk P w H h a (.ins C dx fs) from hok a _ e)
  exact ⟨mA, ⟨ob, n, ne⟩, r, q, z, d⟩
end

structure Cls (K : PySem.W.Frag) (C : Addr) : Prop where
  pg : PySem.W.plainGet K C Str.empty = true
  hd : PySem.W.hasDictIn K C = true
  po : PySem.W.plainOver K C = true
  sa : PySem.W.findIn K (.ref C) "__setattr__" = some (some (.builtin "object.__setattr__"))
theorem Cls.get {K : PySem.W.Frag} {C : Addr} (c : Cls K C) (f : Str) : PySem.W.plainGet K C f = true := c.pg
section
variable {X : Cx} {pins : List (Addr × Obj)} {σ : St} {H : Hp} {s : Shared} {a C dx : Addr} {fs : List (Str × V)} {f : Str} {v : V} {A : Around} {E : Value → Shared → Prop}
end

section
variable {X : Cx} {o e value : Expr} {f : Str} {pos pos' tpos : Pos} {ta tv : TE}
end

section
variable {X : Cx} {pins : List (Addr × Obj)} {σ : St} {H : Hp} {s : Shared} {A : Around} {E : Value → Shared → Prop} {Q : Value → Shared → Prop} {c : Value} {b : Bool}
inductive TyOf (K : PySem.W.Frag) (H : Hp) : V → Value → Prop where
  | non : TyOf K H .non (.type "NoneType")
  | bl (x : Bool) : TyOf K H (.bl x) (.type "bool")
  | int (i : Int) : TyOf K H (.int i) (.type "int")
  | str (x : Str) : TyOf K H (.str x) (.type "str")
  | flt (x : UInt64) : TyOf K H (.flt x) (.type "float")
  | lst {a : Addr} {xs : List V} (e : H a = some (.lst xs)) : TyOf K H (.ref a) (.type "list")
  | frz {a : Addr} {o : Obj} {xs : List V} (e : H a = some (.frz o (.lst xs))) : TyOf K H (.ref a) (.type "list")
  | tup {a : Addr} {xs : List V} (e : H a = some (.tup xs)) : TyOf K H (.ref a) (.type "tuple")
  | dK {a : Addr} {kvs : List (Key × V)} (e : H a = some (.dK kvs)) : TyOf K H (.ref a) (.type "dict")
  | dT {a : Addr} {kvs : List (List Key × V)} (e : H a = some (.dT kvs)) : TyOf K H (.ref a) (.type "dict")
  | ins {a C dx : Addr} {fs : List (Str × V)} (e : H a = some (.ins C dx fs)) (cl : Cls K C) (ha : PySem.W.findIn K (.ref C) "__class__" = some (some (.builtin "object.__class__")))
      (hn : PySem.W.specialIn K (.builtin "object.__class__") "__get__" = some (some (.builtin "getset_descriptor.__get__"))) (htk : PySem.W.takesIn K (.builtin "object.__class__") = some true)
      (hm : PySem.W.mroIn K C (.type "object") = some true) : TyOf K H (.ref a) (.ref C)
theorem isinst_ok {x : V} {u t : Value} (I : Inv X pins σ H s) (rx : RelV x u) (ty : TyOf X.K H x t) (e : PySem.W.kitOne X.K t c = some b) (h : ∀ tk, Q (.bool b) { s with toks := tk }) :
    wpAny (model X.prog X.w) A (call (.builtin "isinstance") [u, c]) Q E s := by
  cases ty with
  | non => cases (show u = Value.none from rx); exact PySem.W.kia_one PySem.W.kitx_none I.kIn True.intro e (fun z => nomatch z) h
  | bl y => cases (show u = Value.bool y from rx); exact PySem.W.kia_one PySem.W.kitx_bool I.kIn True.intro e (fun z => nomatch z) h
  | int i => obtain ⟨t, q⟩ := (show ∃ t, u = Value.int i t from rx); cases q; exact PySem.W.kia_one PySem.W.kitx_int I.kIn True.intro e (fun z => nomatch z) h
  | str y => obtain ⟨t, q⟩ := (show ∃ t, u = Value.str y t from rx); cases q; exact PySem.W.kia_one PySem.W.kitx_str I.kIn True.intro e (fun z => nomatch z) h
  | flt y => obtain ⟨t, q⟩ := (show ∃ t, u = Value.float y t from rx); cases q; exact PySem.W.kia_one PySem.W.kitx_float I.kIn True.intro e (fun z => nomatch z) h
  | @lst a xs ea =>
    cases (show u = Value.ref a from rx)
    obtain ⟨_, _, n, _, h1⟩ := (show ObjOk X.prog X.w H s.heap a (.lst xs) from I.hok a _ ea)
    exact PySem.W.kia_one PySem.W.kitx_list I.kIn ⟨_, h1, rfl⟩ e (fun z => nomatch z) h
  | @frz a ob xs ea =>
    cases (show u = Value.ref a from rx)
    obtain ⟨_, _, _, n, _, h1⟩ := (show ObjOk X.prog X.w H s.heap a (.frz ob (.lst xs)) from I.hok a _ ea)
    exact PySem.W.kia_one PySem.W.kitx_list I.kIn ⟨_, h1, rfl⟩ e (fun z => nomatch z) h
  | @tup a xs ea =>
    cases (show u = Value.ref a from rx)
    obtain ⟨_, _, _, p⟩ := (show ObjOk X.prog X.w H s.heap a (.tup xs) from I.hok a _ ea)
    obtain ⟨o, h1, h2, _⟩ := p
    exact PySem.W.kia_one PySem.W.kitx_tuple I.kIn ⟨o, h1, h2⟩ e (fun z => nomatch z) h
  | @dK a kvs ea =>
    cases (show u = Value.ref a from rx)
    obtain ⟨_, _, vs, _, p⟩ := (show ObjOk X.prog X.w H s.heap a (.dK kvs) from I.hok a _ ea)
    obtain ⟨o, es, ep, h1, h2, _⟩ := p
    exact PySem.W.kia_one PySem.W.kitx_dict I.kIn ⟨o, h1, h2.1⟩ e (fun z => nomatch z) h
  | @dT a kvs ea =>
    cases (show u = Value.ref a from rx)
    obtain ⟨_, _, xs, _, o, es, ep, h1, h2, _⟩ := (show ObjOk X.prog X.w H s.heap a (.dT kvs) from I.hok a _ ea)
    exact PySem.W.kia_one PySem.W.kitx_dict I.kIn ⟨o, h1, h2.1⟩ e (fun z => nomatch z) h
  | @ins a C dx fs ea cl ha hn htk hm =>
    cases (show u = Value.ref a from rx)
    refine L2.ob_ea (ins_get I.hok ea) fun mA O _ => ?_
    refine L2.ob_ea O.look fun od J _ => ?_
    exact PySem.W.kia_one (PySem.W.kitx_own (cl.get _) cl.hd ha hn htk hm) I.kIn J e (fun z => nomatch z) h
end
end L2

namespace L2
open PySem PySem.Spec PyProof.Rows
structure Room (k : Nat) (A : Around) : Prop where
  hd : A.handled = none
  dp : A.depth + 3 * k + 5 < recursionLimit
  un : A.units + 16 * k + 200 < cLine
theorem Room.mono {j k : Nat} {A : Around} (r : Room k A) (h : j ≤ k) : Room j A := ⟨r.hd, by have := r.dp; lia, by have := r.un; lia⟩
theorem Room.deeper {k : Nat} {A : Around} (r : Room (k + 1) A) (env : Env) : Room k (A.deeper env) :=
  ⟨r.hd, by have := r.dp; show A.depth + 1 + 3 * k + 5 < _; lia, by have := r.un; show A.units + 3 + 16 * k + 200 < _; lia⟩
theorem Room.in1 {k : Nat} {A : Around} (r : Room (k + 1) A) : Room k A.in1 :=
  ⟨r.hd, by have := r.dp; show A.depth + 3 * k + 5 < _; lia, by have := r.un; show A.units + 1 + 16 * k + 200 < _; lia⟩
theorem Room.depth {k : Nat} {A : Around} (r : Room k A) : A.depth < recursionLimit := by have := r.dp; lia
theorem Room.units {k : Nat} {A : Around} (r : Room k A) : A.units + 64 < cLine := by have := r.un; lia
noncomputable def tNil : TA := fun _ H Q => Q [] H
noncomputable def tCons (ta : TE) (tr : TA) : TA := fun σ H Q => ta σ H fun x H1 => tr σ H1 fun xs H2 => Q (x :: xs) H2
section
variable {X : Cx} {e : Expr} {es : List Expr} {te : TE} {t : TA} {pos : Pos}
theorem pa_nil : PA X [] tNil := fun _ _ _ _ H Q I h => Calls.spliced_nil ⟨[], H, I, .nil, h⟩
theorem pa_cons (ha : PE X e te) (hr : PA X es t) (hs : starEach (e :: es) X.env = (false, eval e X.env) :: starEach es X.env := by rfl) : PA X (e :: es) (tCons te t) := by
  intro pos pins s σ H Q I h
  rw [hs]
  show wpAny _ _ (spliced ((false, eval e X.env) :: backTo pos (starEach es X.env))) _ _ s
  refine Calls.spliced_cons (thn (ha pins s σ H _ I h) fun u s1 ⟨x, H1, I1, r1, q1⟩ => ?_)
  exact thn (hr pos pins s1 σ H1 _ I1 q1) fun us s2 ⟨xs, H2, I2, r2, q2⟩ => ⟨x :: xs, H2, I2, .cons r1 r2, q2⟩
inductive tTup_b (Q : VK) (xs : List V) (H1 : Hp) : Prop
  | mk : (xs.length ≤ sizeLine) → (∀ p, H1 p = none → Q (.ref p) (upd H1 p (.tup xs))) → tTup_b Q xs H1
noncomputable def tTup (t : TA) : TE := fun σ H Q => t σ H fun xs H1 => tTup_b Q xs H1
inductive tLst_b (Q : VK) (xs : List V) (H1 : Hp) : Prop
  | mk : (xs.length ≤ sizeLine) → (∀ p, H1 p = none → Q (.ref p) (upd H1 p (.lst xs))) → tLst_b Q xs H1
noncomputable def tLst (t : TA) : TE := fun σ H Q => t σ H fun xs H1 => tLst_b Q xs H1
theorem pe_tup {x1} (h : PA X es t) : PE X (.Tuple es x1 pos) (tTup t) := by
  intro pins s σ H Q I hq
  refine wpAny_Tuple_spliced (thn (h pos pins s σ H _ I hq) fun us s1 ⟨xs, H1, I1, r, z, q⟩ => ⟨by rw [← r.length]; exact z, ?_⟩)
  have hf : H1 s1.heap.objs.size = none := I1.hok.fresh (Nat.le_refl _)
  refine ⟨.ref s1.heap.objs.size, upd H1 s1.heap.objs.size (.tup xs), I1.laid (t' := s1.toks) (fun b u e => Heap.get?_push_of_some _ e) (Nat.le_refl _) ?_, rfl, q _ hf⟩
  exact ⟨z, us, r, ⟨_, Heap.get?_push_size _ rfl, rfl, _, rfl⟩⟩
theorem pe_lst (h : PA X es t) : PE X (.List es pos) (tLst t) := by
  intro pins s σ H Q I hq
  refine wpAny_List_spliced (thn (h pos pins s σ H _ I hq) fun us s1 ⟨xs, H1, I1, r, z, q⟩ => ⟨by rw [← r.length]; exact z, ?_⟩)
  have hf : H1 s1.heap.objs.size = none := I1.hok.fresh (Nat.le_refl _)
  refine ⟨.ref s1.heap.objs.size, upd H1 s1.heap.objs.size (.lst xs), I1.laid (t' := s1.toks) (fun b u e => Heap.get?_push_of_some _ e) (Nat.le_refl _) ?_, rfl, q _ hf⟩
  exact ⟨z, us, 0, r, Heap.get?_push_size _ rfl⟩
end

noncomputable abbrev Sp := List V → Hp → VK → XK → Prop
noncomputable abbrev CXT := List Env → Hp → Shared → XK → Value → Shared → Prop
structure Env0 (P : Program) (w : World) (K : PySem.W.Frag) (mg : Str → Option Value) (base : Heap) (A : Around) (outer : List Env) (s : Shared) (H : Hp) : Prop where
  frames : A.frames = some outer
  mod : Mod K mg base
  bs : ∀ b o, base.get? b = some o → s.heap.get? b = some o ∧ H b = none
  bsz : base.objs.size ≤ s.heap.objs.size
  funs : s.heap.FunFrames base outer
  frf : ∀ b ∈ frs outer, H b = none
  hok : HOk P w H s.heap
  bare : AllBare s.gens
noncomputable def CE (outer : List Env) (P : Program) (w : World) (H : Hp) (s : Shared) (Q : VK) (u : Value) (s' : Shared) : Prop :=
  ∃ v H', s'.os = s.os ∧ AllBare s'.gens ∧ Un (frs outer) [] H H' s.heap s'.heap ∧ HOk P w H' s'.heap ∧ RelV v u ∧ Q v H'
noncomputable def CR (CX : CXT) (outer : List Env) (P : Program) (w : World) (H : Hp) (s : Shared) (Q : VK) (E : XK) (r : Result) (s' : Shared) : Prop :=
  match r with
  | .ok (.ret u) => CE outer P w H s Q u s'
  | .ok _ => False
  | .error e => CX outer H s E e s'
structure FnOk (P : Program) (w : World) (K : PySem.W.Frag) (mg : Str → Option Value) (base : Heap) (CX : CXT) (k : Nat) (f : Addr) (fd : FuncData) (ps : List Str) (sp : Sp) : Prop where
  len : ∀ vs H Q E, sp vs H Q E → vs.length = ps.length
  run : ∀ (A : Around) (outer : List Env) (s : Shared) (H : Hp) (args : Args) (us : List Value) (vs : List V) (Q : VK) (E : XK), Room k A → Env0 P w K mg base A outer s H → BindsTo s fd args (ps.zip us) → Vals vs us → sp vs H Q E →
    codeAny (model P w) A (.call (.ref f) args) (CR CX outer P w H s Q E) s
theorem FnOk.imp {P : Program} {w : World} {K : PySem.W.Frag} {mg : Str → Option Value} {base : Heap} {CX : CXT} {k : Nat} {f : Addr} {fd : FuncData} {ps : List Str} {sp sp' : Sp} (F : FnOk P w K mg base CX k f fd ps sp)
    (h : ∀ vs H Q E, sp' vs H Q E → sp vs H Q E) : FnOk P w K mg base CX k f fd ps sp' :=
  ⟨fun vs H Q E q => F.len vs H Q E (h _ _ _ _ q), fun A outer s H args us vs Q E hr he hb hv hs => F.run A outer s H args us vs Q E hr he hb hv (h _ _ _ _ hs)⟩
section
variable {X : Cx} {pins : List (Addr × Obj)} {σ : St} {H : Hp} {s s' : Shared}
theorem Inv.env0 (I : Inv X pins σ H s) : Env0 X.prog X.w X.K X.mg X.base X.A X.stack s H :=
  ⟨I.ok.frames, I.ok.mod, I.bs, Nat.le_trans I.ok.bsz I.sz, I.stack, I.stkFree, I.hok, I.bare⟩
theorem Inv.after {Q : VK} {u : Value} (I : Inv X pins σ H s) (h : CE X.stack X.prog X.w H s Q u s') : EP X pins σ Q u s' := by
  obtain ⟨v, H', os, bare, un, hok, r, q⟩ := h
  obtain ⟨hh, g, d, t, os'⟩ := s'
  obtain rfl : os' = s.os := os
  exact ⟨v, H', I.call (h' := hh) (g' := g) (d' := d) (t' := t) (ch := []) un hok bare (fun b z => absurd z (by simp)), r, q⟩
end

noncomputable def tCall (sp : Sp) (dvs : List V) (E : XK) (t : TA) : TE := fun σ H Q => t σ H fun vs H1 => sp (vs ++ dvs) H1 Q E
noncomputable def Binds (K : PySem.W.Frag) (fd : FuncData) (ps : List Str) (ds : List Value) : Prop :=
  ∀ (s : Shared) (us : List Value), K.In s.heap → (us ++ ds).length = ps.length → BindsTo s fd ⟨us, []⟩ (ps.zip (us ++ ds))
theorem Binds.all {K : PySem.W.Frag} {fd : FuncData} {ps : List Str} (h : ∀ us : List Value, us.length = ps.length → bindArgs fd ⟨us, []⟩ = pure (ps.zip us)) : Binds K fd ps [] := fun s us _ hl => by
  rw [List.append_nil] at hl ⊢
  exact .of_eq (h us hl)
noncomputable def Passes (CX : CXT) (X : Cx) (E : XK) : Prop := ∀ (pins : List (Addr × Obj)) (σ : St) (H : Hp) (s : Shared) (e : Value) (s' : Shared), Inv X pins σ H s → CX X.stack H s E e s' → X.xe e s'
section
variable {X : Cx} {CX : CXT} {k : Nat} {f C : Addr} {fd : FuncData} {ps : List Str} {sp : Sp} {dvs : List V} {ds : List Value} {E : XK} {x m : Str} {p pos apos : Pos} {e o : Expr} {es : List Expr} {ta : TE} {t : TA}
theorem run_fn {pins : List (Addr × Obj)} {σ : St} {H : Hp} {s : Shared} {Q : VK} {us : List Value} {vs : List V} (F : FnOk X.prog X.w X.K X.mg X.base CX k f fd ps sp) (hr : Room k X.A) (hb : Binds X.K fd ps ds) (hd : Vals dvs ds) (hx : Passes CX X E)
    (I : Inv X pins σ H s) (r : Vals vs us) (h : sp (vs ++ dvs) H Q E) : wpAny (model X.prog X.w) X.A (call (.ref f) us) (EP X pins σ Q) X.xe s := by
  have r2 : Vals (vs ++ dvs) (us ++ ds) := r.append hd
  have hl : (us ++ ds).length = ps.length := by rw [← r2.length]; exact F.len _ _ _ _ h
  refine wpAny_call (codeAny_mono (F.run X.A X.stack s H ⟨us, []⟩ (us ++ ds) (vs ++ dvs) Q E hr I.env0 (hb s us I.kIn hl) r2 h) fun r s' hq => ?_)
  cases r with
  | error e => exact hx pins σ H s e s' I hq
  | ok fl =>
    cases fl with
    | ret u => exact I.after hq
    | next => exact False.elim hq
    | brk => exact False.elim hq
    | cont => exact False.elim hq
theorem pe_call (F : FnOk X.prog X.w X.K X.mg X.base CX k f fd ps sp) (hr : Room k X.A) (hg : Gl X x) (hm : X.mg x = some (.ref f)) (hk : PySem.W.keepIn X.K (.ref f) = true) (hb : Binds X.K fd ps ds) (hd : Vals dvs ds) (hx : Passes CX X E)
    (ha : PA X (e :: es) t) (hdb : (x == ("__debug__" : Str)) = false := by decide) (he : starEach (e :: es) X.env = (false, eval e X.env) :: starEach es X.env := by rfl) (hpl : (backTo pos (starEach es X.env)).any (·.1) = false := by rfl) :
    PE X (.Call (.Name x p) (e :: es) [] pos) (tCall sp dvs E t) := by
  intro pins s σ H Q I h
  refine wpAny_Call_Name_kw (ld_glob I hg hm ?_ hdb)
  refine PySem.W.callWith_K (h₀ := X.base) I.ok.mod.kin hk (thn (ha pos pins s σ H _ I h) fun us s1 ⟨vs, H1, I1, r, q⟩ => ⟨I1.kIn, ?_⟩) he hpl
  exact run_fn F hr hb hd hx I1 r q
end

section
variable {X : Cx} {CX : CXT} {k : Nat} {f C : Addr} {fd : FuncData} {ps ks : List Str} {sp : Sp} {E : XK} {x m : Str} {p pos apos kpos : Pos} {e o : Expr} {es : List Expr} {kws : List Keyword} {te ta : TE} {t tk : TA} {nm : Option Str}
variable {g : List Value → List Value → List Value} {gV : List V → List V → List V}
end

structure FnScope (N P : List Str) (sc : Scope) : Prop where
  kind : sc.kind = .function
  co : sc.isCoroutine = false
  gen : sc.isGenerator = false
  nd : N.Nodup
  pre : N.take P.length = P
  par : ∀ x ∈ P, sc.names.lookup x = some .local ∨ sc.names.lookup x = some .cell
  nofree : ∀ y ∈ sc.names, y.2 ≠ .free
theorem bindL_out {kindOf : Str → Option NameKind} {x : Str} : ∀ {binds : List (Str × Value)} {m : Str → Option Value}, (∀ v, (x, v) ∉ binds) → bindL kindOf binds m x = m x
  | [], _, _ => rfl
  | (n, v) :: r, m, h => by
    unfold bindL
    rw [bindL_out fun w hw => h w (List.mem_cons_of_mem _ hw)]
    split
    · have : x ≠ n := by rintro rfl; exact h v List.mem_cons_self
      simp [this]
    · rfl
theorem bindC_out {kindOf : Str → Option NameKind} {x : Str} : ∀ {binds : List (Str × Value)} {m : Str → Option Value}, (∀ v, (x, v) ∉ binds) → bindC kindOf binds m x = m x
  | [], _, _ => rfl
  | (n, v) :: r, m, h => by
    unfold bindC
    rw [bindC_out fun w hw => h w (List.mem_cons_of_mem _ hw)]
    split
    · rfl
    · have : x ≠ n := by rintro rfl; exact h v List.mem_cons_self
      simp [this]
theorem bindL_get {kindOf : Str → Option NameKind} {x : Str} {v : Value} : ∀ {P : List Str} {vs : List Value} {i : Nat} {m : Str → Option Value}, P.Nodup → P[i]? = some x → vs[i]? = some v → kindOf x = some .local →
    bindL kindOf (P.zip vs) m x = some v
  | [], _, _, _, _, h, _, _ => by simp at h
  | _ :: _, [], _, _, _, _, h, _ => by simp at h
  | p :: P, w :: vs, 0, m, nd, h1, h2, hk => by
    simp at h1 h2; subst h1; subst h2
    show bindL kindOf ((p, w) :: P.zip vs) m p = _
    unfold bindL
    rw [bindL_out fun v hv => (List.nodup_cons.mp nd).1 (List.of_mem_zip hv).1, if_pos hk]
    simp
  | p :: P, w :: vs, i + 1, m, nd, h1, h2, hk => by
    show bindL kindOf ((p, w) :: P.zip vs) m x = _
    unfold bindL
    exact bindL_get (i := i) (List.nodup_cons.mp nd).2 (by simpa using h1) (by simpa using h2) hk
theorem bindC_get {kindOf : Str → Option NameKind} {x : Str} {v : Value} : ∀ {P : List Str} {vs : List Value} {i : Nat} {m : Str → Option Value}, P.Nodup → P[i]? = some x → vs[i]? = some v → kindOf x ≠ some .local →
    bindC kindOf (P.zip vs) m x = some v
  | [], _, _, _, _, h, _, _ => by simp at h
  | _ :: _, [], _, _, _, _, h, _ => by simp at h
  | p :: P, w :: vs, 0, m, nd, h1, h2, hk => by
    simp at h1 h2; subst h1; subst h2
    show bindC kindOf ((p, w) :: P.zip vs) m p = _
    unfold bindC
    rw [bindC_out fun v hv => (List.nodup_cons.mp nd).1 (List.of_mem_zip hv).1, if_neg hk]
    simp
  | p :: P, w :: vs, i + 1, m, nd, h1, h2, hk => by
    show bindC kindOf ((p, w) :: P.zip vs) m x = _
    unfold bindC
    exact bindC_get (i := i) (List.nodup_cons.mp nd).2 (by simpa using h1) (by simpa using h2) hk
noncomputable def start (N : List Str) (vs : List V) : St := vs.map some ++ List.replicate (N.length - vs.length) none
noncomputable def cxOf (CX : CXT) (P : Program) (w : World) (K : PySem.W.Frag) (mg : Str → Option Value) (base : Heap) (N : List Str) (qual : Str) (scope : Scope) (f : Addr) (cd : Value) (A : Around) (outer : List Env) (s : Shared) (H : Hp) (E : XK) : Cx where
  prog := P
  w := w
  K := K
  mg := mg
  base := base
  A := A.deeper (envOfC qual scope s.heap.objs.size f cd)
  N := N
  s₀ := s
  H₀ := H
  env := envOfC qual scope s.heap.objs.size f cd
  outer := outer
  stack := envOfC qual scope s.heap.objs.size f cd :: outer
  ex := []
  calm := true
  fn := fun _ => true
  pn := []
  xe := fun e s' => wpAny (model P w) (A.deeper (envOfC qual scope s.heap.objs.size f cd)) (leaving (envOfC qual scope s.heap.objs.size f cd) e) (fun _ s'' => CX outer H s E e s'') (fun e' s'' => CX outer H s E e' s'') s'
theorem cell_has {sc : Scope} {n : Nat} {x : Str} (h : sc.names.lookup x = some .cell) : ∃ c, (cellsFrom n sc.names []).lookup x = some c := by
  have q := PySem.W.cellsFrom_some sc.names n [] (.inl h)
  exact Option.isSome_iff_exists.mp q
theorem inv_start {CX : CXT} {P : Program} {w : World} {K : PySem.W.Frag} {mg : Str → Option Value} {base : Heap} {N ps : List Str} {qual : Str} {scope : Scope} {f : Addr} {cd : Value} {A : Around} {outer : List Env} {s s1 : Shared} {H : Hp} {E : XK} {us : List Value} {vs : List V}
    (S : FnScope N ps scope) (hd : A.handled = none) (e0 : Env0 P w K mg base A outer s H) (hl : vs.length = ps.length) (r : Vals vs us)
    (x : InCallC s s.heap.objs.size (bindL (envOfC qual scope s.heap.objs.size f cd).kindOf (ps.zip us) fun _ => none) (cellsFrom (s.heap.objs.size + 1) scope.names []) (bindC (envOfC qual scope s.heap.objs.size f cd).kindOf (ps.zip us) fun _ => none) s1) :
    Inv (cxOf CX P w K mg base N qual scope f cd A outer s H E) [] (start N vs) H s1 := by
  have hpl : ps.length ≤ N.length := by have := congrArg List.length S.pre; rw [List.length_take] at this; lia
  refine L2.ob_eea x.done fun h1 tk e_2 hk => ?_; subst e_2
  have noA : ∀ b : Addr, b ∉ (cxOf CX P w K mg base N qual scope f cd A outer s H E).ex := fun b z => absurd (show b ∈ ([] : List Addr) from z) (by simp)
  refine ⟨⟨e0.mod, S.kind, rfl, rfl, Nat.le_refl _, fun y z c h1 h2 => ?_, fun y hy => ?_, fun y c _ h => ?_, fun _ => hd, Around.frames_deeper e0.frames, .inr ⟨rfl, rfl⟩, fun b z => absurd z (noA b), e0.bs, e0.bsz, fun b _ _ => noA b, fun b z => absurd z (noA b), e0.funs, e0.frf⟩,
    rfl, e0.bare, Un.kept hk, ⟨_, x.toInCall.ns, fun i y v h1 h2 h3 => ?_⟩, fun y c h => ⟨_, x.cell y c h⟩, e0.hok.fresh (Nat.le_refl _), fun y c h => ?_, fun p hp => absurd (show p ∈ ([] : List (Addr × Obj)) from hp) (by simp), e0.hok.kept hk, ?_⟩
  · exact name_of_addr x.apart (PySem.mem_of_lookup h1) (PySem.mem_of_lookup h2)
  · have hy : scope.names.lookup y = some .cell ∨ scope.names.lookup y = some .free := hy
    rcases hy with hy | hy
    · exact cell_has hy
    · exact absurd rfl (S.nofree _ (PySem.mem_of_lookup hy))
  · exact Nat.le_of_lt (x.above y c (PySem.mem_of_lookup h))
  · have hi : i < vs.length := by
      unfold start at h2
      by_cases hi : i < vs.length
      · exact hi
      · rw [List.getElem?_append_right (by simpa using hi)] at h2
        rw [List.getElem?_replicate] at h2
        split at h2 <;> cases h2
    have ha : vs[i]? = some v := by
      unfold start at h2
      rw [List.getElem?_append_left (by simpa using hi), List.getElem?_map] at h2
      cases e : vs[i]? with
      | none => rw [e] at h2; cases h2
      | some a => rw [e] at h2; cases h2; rfl
    refine L2.ob_ea (r.get ha) fun u hu rv => ?_
    have hp : ps[i]? = some y := by
      rw [← S.pre, List.getElem?_take_of_lt (by lia)]; exact h1
    have ndP : ps.Nodup := by rw [← S.pre]; exact S.nd.sublist (List.take_sublist _ _)
    refine ⟨u, rv, ?_⟩
    rcases S.par y (List.mem_of_getElem? hp) with k | k
    · exact .inl ⟨k, bindL_get ndP hp hu k⟩
    · obtain ⟨c, e⟩ := cell_has (n := s.heap.objs.size + 1) k
      refine .inr ⟨.inl k, c, e, ?_⟩
      have q := x.cell y c e
      rw [bindC_get ndP hp hu (by show scope.names.lookup y ≠ _; rw [k]; decide)] at q
      exact q
  · exact e0.hok.fresh (Nat.le_of_lt (x.above y c (PySem.mem_of_lookup h)))
  · unfold start
    show _ = N.length
    rw [List.length_append, List.length_map, List.length_replicate]
    lia
theorem fn_of {CX : CXT} {P : Program} {w : World} {K : PySem.W.Frag} {mg : Str → Option Value} {base : Heap} {k : Nat} {f : Addr} {name qual : Str} {params : Arguments} {body : List Stmt} {scope : Scope} {dV kV doc pm cdv ct oc : Value} {an od : Option Addr}
    {osl : Array (Option Value)} {N ps : List Str} {sp : Sp} (lk : K.lookup f = some ⟨oc, od, .func (PySem.W.fnOf name qual params body scope dV kV doc pm an cdv ct), osl⟩) (hcd : PySem.W.codeIn K cdv qual = true) (S : FnScope N ps scope)
    (len : ∀ vs H Q E, sp vs H Q E → vs.length = ps.length)
    (hbody : ∀ (A : Around) (outer : List Env) (s : Shared) (H : Hp) (vs : List V) (Q : VK) (E : XK), Room k (A.deeper (envOfC qual scope s.heap.objs.size f cdv)) → sp vs H Q E →
      ∃ t, PSs (cxOf CX P w K mg base N qual scope f cdv A outer s H E) body t ∧ t { nx := fun _ H' => Q .non H', rt := Q } (start N vs) H) :
    FnOk P w K mg base CX (k + 1) f (PySem.W.fnOf name qual params body scope dV kV doc pm an cdv ct) ps sp := by
  refine ⟨len, fun A outer s H args us vs Q E hr e0 hb r hsp => ?_⟩
  have hl := len _ _ _ _ hsp
  have KX : K.In s.heap := e0.mod.kin.keeps fun b o e => (e0.bs b o e).1
  have lim : s.heap.NoLimit := e0.mod.nolimit.keeps fun b o e => (e0.bs b o e).1
  have hkind : ∀ y ∈ ps.zip us, scope.names.lookup y.1 = some .local ∨ (scope.names.lookup y.1 = some .cell ∧ ((cellsFrom (s.heap.objs.size + 1) scope.names []).lookup y.1).isSome = true) := fun ⟨n, v⟩ hy => by
    rcases S.par n (List.of_mem_zip hy).1 with q | q
    · exact .inl q
    · exact .inr ⟨q, PySem.W.cellsFrom_some _ _ _ (.inl q)⟩
  refine codeAny_call_function hr.depth (KX _ _ lk) rfl S.co S.gen rfl (PySem.W.codeRec_of KX hcd) (hb _ _ _ _ ?_)
  refine wpAny_newFunctionEnv_cells S.kind hkind fun env he s1 x => ?_
  subst he
  refine ⟨lim.keeps x.toInCall.keep, codeAny_func ?_⟩
  refine L2.ob_ea (hbody A outer s H vs Q E (hr.deeper _) hsp) fun t ht hq => ?_
  have I : Inv (cxOf CX P w K mg base N qual scope f cdv A outer s H E) [] (start N vs) H s1 := inv_start S hr.hd e0 hl r x
  refine wpAny_mono (ht [] s1 (start N vs) H _ I hq) (fun fl s' hs => ?_) fun e s' hs => hs
  have fin : ∀ {σ' : St} {H' : Hp} {v : V} {u : Value}, Inv (cxOf CX P w K mg base N qual scope f cdv A outer s H E) [] σ' H' s' → RelV v u → Q v H' → CE outer P w H s Q u s' :=
    fun {σ' H' v u} J rv q => ⟨v, H', J.os, J.bare, J.base, J.hok, rv, q⟩
  cases fl with
  | ret u =>
    obtain ⟨v, σ', H', J, rv, q⟩ := hs
    exact fin J rv q
  | next =>
    obtain ⟨σ', H', J, q⟩ := hs
    exact fin (v := V.non) (u := Value.none) J rfl q
  | brk =>
    obtain ⟨_, _, _, q⟩ := hs
    exact False.elim q
  | cont =>
    obtain ⟨_, _, _, q⟩ := hs
    exact False.elim q
end L2

namespace L2
open PySem PySem.Spec PyProof.Rows
section
variable {X : Cx} {x : Str} {p pos : Pos} {e : Expr} {es : List Expr} {t : TA} {id T : String} {r : List V → Hp → VK → Prop}
noncomputable def tCB (r : List V → Hp → VK → Prop) (t : TA) : TE := fun σ H Q => t σ H fun vs H1 => r vs H1 Q
theorem pe_callB (hc : CallR X (.builtin id) r) (hg : Gl X x) (hm : X.mg x = none) (hv : bootBuiltins x = some (.builtin id)) (ha : PA X (e :: es) t) (hn : x ≠ "__name__" := by decide) (hdb : (x == ("__debug__" : Str)) = false := by decide)
    (he : starEach (e :: es) X.env = (false, eval e X.env) :: starEach es X.env := by rfl) (hpl : (backTo pos (starEach es X.env)).any (·.1) = false := by rfl) : PE X (.Call (.Name x p) (e :: es) [] pos) (tCB r t) := by
  intro pins s σ H Q I h
  refine wpAny_Call_Name_kw (ld_blt I hg hm hv ?_ hn hdb)
  exact PyProof.Rows.callWith_builtin1 (thn (ha pos pins s σ H _ I h) fun us s1 ⟨vs, H1, I1, r1, q1⟩ => hc pins s1 σ H1 vs us Q I1 r1 q1) he hpl
theorem pe_callTy (hc : CallR X (.type T) r) (hg : Gl X x) (hm : X.mg x = none) (hv : bootBuiltins x = some (.type T)) (ha : PA X (e :: es) t) (hn : x ≠ "__name__" := by decide) (hdb : (x == ("__debug__" : Str)) = false := by decide)
    (he : starEach (e :: es) X.env = (false, eval e X.env) :: starEach es X.env := by rfl) (hpl : (backTo pos (starEach es X.env)).any (·.1) = false := by rfl) : PE X (.Call (.Name x p) (e :: es) [] pos) (tCB r t) := by
  intro pins s σ H Q I h
  refine wpAny_Call_Name_kw (ld_blt I hg hm hv ?_ hn hdb)
  exact PyProof.Rows.callWith_type1 (thn (ha pos pins s σ H _ I h) fun us s1 ⟨vs, H1, I1, r1, q1⟩ => hc pins s1 σ H1 vs us Q I1 r1 q1) he hpl
end
end L2

namespace HT
open PySem PyProof.Rows
section
open PySem.SeqAt
open PySem.AutoSeq1 (wpAny_loadPart')
open PySem.MeetsSeq PySem.MeetsSeq2 PySem.MeetsSeq3
end

section
variable {prog : Program} {w : World} {A : Around} {E : Value → Shared → Prop} {s : Shared}
noncomputable def sIx (n d : Nat) : Option Int → Nat
  | none => d
  | some v => if v < 0 then (v + (n : Int)).toNat else min v.toNat n
theorem sIx_nat (n d k : Nat) : sIx n d (some (k : Int)) = min k n := by
  show (if (k : Int) < 0 then ((k : Int) + (n : Int)).toNat else min (k : Int).toNat n) = min k n
  rw [if_neg (by simp), Int.toNat_natCast]
end
end HT

namespace L2
open PySem PySem.Spec PyProof.Rows
noncomputable abbrev TO := St → Hp → (Option Int → Hp → Prop) → Prop
inductive POk (X : Cx) (pins : List (Addr × Obj)) (σ : St) (Q : Option Int → Hp → Prop) (u : Value) (s' : Shared) : Prop
  | mk : ∀ o H', Inv X pins σ H' s' → IsPart u o → Q o H' → POk X pins σ Q u s'
noncomputable def PO (X : Cx) (e : Option Expr) (t : TO) : Prop :=
  ∀ (pins : List (Addr × Obj)) (s : Shared) (σ : St) (H : Hp) (Q : Option Int → Hp → Prop), Inv X pins σ H s → t σ H Q →
    wpAny (model X.prog X.w) X.A (evalPart e X.env) (fun u s' => POk X pins σ Q u s') X.xe s
noncomputable def tNoPart : TO := fun _ H Q => Q none H
noncomputable def tPart_b (Q : Option Int → Hp → Prop) (x : V) (H1 : Hp) : Prop := onI x fun i => Q (some i) H1
theorem tPart_b.ex {Q : Option Int → Hp → Prop} {x : V} {H1 : Hp} (h : tPart_b Q x H1) : ∃ i, x = .int i ∧ Q (some i) H1 := onI.ex h
noncomputable def tPart (t : TE) : TO := fun σ H Q => t σ H (tPart_b Q)
section
variable {X : Cx} {e : Expr} {te : TE} {lo hi : Option Expr} {tl th : TO} {pos p2 : Pos}
theorem po_none : PO X none tNoPart := by
  intro pins s σ H Q I h
  rw [evalPart_none]
  exact wpAny_pure ⟨none, H, I, .none, h⟩
theorem po_some (h : PE X e te) : PO X (some e) (tPart te) := by
  intro pins s σ H Q I hw
  rw [evalPart_some]
  refine thn (h pins s σ H _ I hw) fun u s1 ⟨x, H1, I1, r1, q1⟩ => ?_
  obtain ⟨i, rfl, q⟩ := tPart_b.ex q1
  obtain ⟨t, rfl⟩ := r1
  exact ⟨some i, H1, I1, .int i t, q⟩
noncomputable def SlR (X : Cx) (r : V → Option Int → Option Int → Hp → VK → Prop) : Prop :=
  ∀ (pins : List (Addr × Obj)) (s : Shared) (σ : St) (H : Hp) (x : V) (v vl vu : Value) (lo hi : Option Int) (sl : Addr) (Q : VK), Inv X pins σ H s → RelV x v → s.heap.IsSliceOf sl vl vu .none → IsPart vl lo → IsPart vu hi → r x lo hi H Q →
    ∃ T id, typeLookup (.type T) "__getitem__" = pure (some (.builtin id)) ∧ s.TypeIs v T ∧ wpAny (model X.prog X.w) X.A (getItem v (.ref sl)) (EP X pins σ Q) X.xe s
noncomputable def tSl (r : V → Option Int → Option Int → Hp → VK → Prop) (te : TE) (tl th : TO) : TE := fun σ H Q => te σ H fun x H1 => tl σ H1 fun l H2 => th σ H2 fun u H3 => r x l u H3 Q
theorem pe_slice {r : V → Option Int → Option Int → Hp → VK → Prop} (hr : SlR X r) (he : PE X e te) (hl : PO X lo tl) (hu : PO X hi th) : PE X (.Subscript e (.Slice lo hi none p2) pos) (tSl r te tl th) := by
  intro pins s σ H Q I h
  refine Subscript_ (thn (he pins s σ H _ I h) fun v s1 ⟨x, H1, I1, r1, q1⟩ => ?_)
  refine wpAny_Slice (thn (hl pins s1 σ H1 _ I1 q1) fun vl s2 ⟨l, H2, I2, pl, q2⟩ => thn (hu pins s2 σ H2 _ I2 q2) fun vu s3 ⟨u, H3, I3, pu, q3⟩ => ?_)
  rw [evalPart_none]
  refine wpAny_pure ?_
  have I4 : Inv X pins σ H3 { s3 with heap := s3.heap.push { cls := .type "slice", data := .fields #[vl, vu, .none] } } := I3.kept (t' := s3.toks) fun b ob q => Heap.get?_push_of_some _ q
  refine L2.ob_eeaa (hr pins { s3 with heap := s3.heap.push { cls := .type "slice", data := .fields #[vl, vu, .none] } } σ H3 x v vl vu l u s3.heap.objs.size Q I4 r1 (Heap.IsSliceOf.new ..) pl pu q3) fun T id hT ht hg => ?_
  show wpAny (model X.prog X.w) X.A (subscriptTail e (.Slice lo hi none p2) v (.ref s3.heap.objs.size)) (EP X pins σ Q) X.xe { s3 with heap := s3.heap.push { cls := .type "slice", data := .fields #[vl, vu, .none] } }
  exact tail_any (ops := [.ref s3.heap.objs.size, v]) ht hT hg (by with_unfolding_all rfl)
noncomputable def cutV (xs : List V) (lo hi : Option Int) : List V := (xs.drop (HT.sIx xs.length 0 lo)).take (HT.sIx xs.length xs.length hi - HT.sIx xs.length 0 lo)
theorem cutV_length (xs : List V) (lo hi : Option Int) : (cutV xs lo hi).length ≤ xs.length := by
  unfold cutV
  rw [List.length_take, List.length_drop]
  lia
end
end L2

namespace L2
open PySem PySem.Spec PyProof.Rows
noncomputable def ixN (n : Nat) (i : Int) : Option Nat := if 0 ≤ i then (if i < n then some i.toNat else none) else if -(n : Int) ≤ i then some (i + n).toNat else none
noncomputable def atI {α : Type} (xs : List α) (i : Int) : Option α := (ixN xs.length i).bind fun j => xs[j]?
theorem ixN_seq {n : Nat} {i : Int} {j : Nat} (h : ixN n i = some j) : seqIndex? i n = some j ∧ j < n ∧ -(n : Int) ≤ i ∧ i < n := by
  unfold ixN at h
  by_cases h0 : 0 ≤ i
  · rw [if_pos h0] at h
    by_cases h1 : i < n
    · rw [if_pos h1] at h
      have e : i.toNat = j := Option.some.inj h
      exact ⟨by rw [seqIndex_of h0 h1, e], by lia, by lia, h1⟩
    · rw [if_neg h1] at h; cases h
  · rw [if_neg h0] at h
    by_cases h1 : -(n : Int) ≤ i
    · rw [if_pos h1] at h
      have e : (i + n).toNat = j := Option.some.inj h
      exact ⟨by rw [seqIndex_neg (by lia) h1, e], by lia, h1, by lia⟩
    · rw [if_neg h1] at h; cases h
theorem atI_get {α : Type} {xs : List α} {i : Int} {v : α} (h : atI xs i = some v) : ∃ j, seqIndex? i xs.length = some j ∧ xs[j]? = some v ∧ j < xs.length ∧ -(xs.length : Int) ≤ i ∧ i < xs.length := by
  unfold atI at h
  cases e : ixN xs.length i with
  | none => rw [e] at h; cases h
  | some j =>
    rw [e] at h
    refine L2.ob_aaa (ixN_seq e) fun h1 h2 h3 h4 => ?_
    exact ⟨j, h1, h, h2, h3, h4⟩
theorem atI_nat {α : Type} {xs : List α} {j : Nat} {v : α} (h : xs[j]? = some v) : atI xs (j : Int) = some v := by
  have hj : j < xs.length := (List.getElem?_eq_some_iff.mp h).1
  have e : ixN xs.length (j : Int) = some j := by
    unfold ixN
    rw [if_pos (by exact Int.natCast_nonneg _), if_pos (by lia)]; simp
  unfold atI; rw [e]; exact h
noncomputable def PlainIx (b : Expr) : Prop := ∀ o i, subscripted b false o i = operate [o, i] (getItem o i)
noncomputable def IxR (X : Cx) (r : R2) : Prop :=
  ∀ (value slice : Expr) (pins : List (Addr × Obj)) (s : Shared) (σ : St) (H : Hp) (x y : V) (v u : Value) (Q : VK), Inv X pins σ H s → RelV x v → RelV y u → r x y H Q →
    subscripted slice false v u = operate [v, u] (getItem v u) → wpAny (model X.prog X.w) X.A (subscriptTail value slice v u) (EP X pins σ Q) X.xe s
noncomputable def MtR (X : Cx) (id : String) (r : V → List V → Hp → VK → Prop) : Prop :=
  ∀ (pins : List (Addr × Obj)) (s : Shared) (σ : St) (H : Hp) (x : V) (xs : List V) (v : Value) (us : List Value) (Q : VK), Inv X pins σ H s → RelV x v → Vals xs us → r x xs H Q →
    wpAny (model X.prog X.w) X.A (call (.builtin id) (v :: us)) (EP X pins σ Q) X.xe s
section
variable {X : Cx} {a b : Expr} {ta tb : TE} {pos : Pos}
theorem pe_ix {r : R2} (hr : IxR X r) (ha : PE X a ta) (hb : PE X b tb) (hs : PlainIx b) : PE X (.Subscript a b pos) (tOp r ta tb) := by
  intro pins s σ H Q I h
  exact Subscript_ (binT ha hb I h fun v u s2 x y H2 I2 rx ry q => hr a b pins s2 σ H2 x y v u Q I2 rx ry q (hs _ _))
inductive rIxL (K : PySem.W.Frag) (x : V) (y : V) (H : Hp) (Q : VK) : Prop
  | mk : ∀ p xs i v, (x = .ref p) → (y = .int i) → (SqL K H p xs) → (atI xs i = some v) → (Q v H) → rIxL K x y H Q
inductive rIxT (K : PySem.W.Frag) (x : V) (y : V) (H : Hp) (Q : VK) : Prop
  | mk : ∀ p xs i v, (x = .ref p) → (y = .int i) → (SqT K H p xs) → (atI xs i = some v) → (Q v H) → rIxT K x y H Q
theorem ix_list : IxR X (rIxL X.K) := by
  intro value slice pins s σ H x y v u Q I rx ry h hs
  obtain ⟨p, xs, i, z, rfl, rfl, hq, he, q⟩ := h
  cases rx
  obtain ⟨t, rfl⟩ := ry
  refine L2.ob_eaa (I.list hq) fun its r pl hz => ?_
  refine L2.ob_eaaaa (atI_get he) fun j h1 h2 h3 h4 h5 => ?_
  refine L2.ob_ea (r.get h2) fun w ew rw' => ?_
  have hl := r.length
  have hn := line63
  have fin : EP X pins σ Q w s := ⟨z, H, I, rw', q⟩
  by_cases h0 : 0 ≤ i
  · have hj : i.toNat = j := by
      rw [seqIndex_of h0 h5] at h1
      exact Option.some.inj h1
    exact item_listR pl.isList h0 (by lia) (by rw [hj]; simpa using ew) fin hs
  · have hj : (i + (its.toArray.size : Int)).toNat = j := by
      rw [seqIndex_neg (by lia) h4] at h1
      rw [List.size_toArray, ← hl]
      exact Option.some.inj h1
    exact subscriptTail_builtinR (x := w) pl.isList.typeIs slot_list_getitem.lookup
      (wpAny_getItem_list_neg (Q := fun r s' => r = w ∧ EP X pins σ Q r s') pl.isList (by lia) (by rw [List.size_toArray] <;> lia) (by lia) (by rw [hj]; simpa using ew) ⟨rfl, fin⟩) hs
theorem ix_tup : IxR X (rIxT X.K) := by
  intro value slice pins s σ H x y v u Q I rx ry h hs
  obtain ⟨p, xs, i, z, rfl, rfl, hq, he, q⟩ := h
  cases rx
  obtain ⟨t, rfl⟩ := ry
  refine L2.ob_eaa (I.tuple hq) fun its r pl hz => ?_
  refine L2.ob_eaaaa (atI_get he) fun j h1 h2 h3 h4 h5 => ?_
  refine L2.ob_ea (r.get h2) fun w ew rw' => ?_
  have hl := r.length
  have hn := line63
  have fin : EP X pins σ Q w s := ⟨z, H, I, rw', q⟩
  exact subscriptTail_builtinR (x := w) pl.typeIs slot_tuple_getitem.lookup
    (getItem_tuple (j := j) (Q := fun r s' => r = w ∧ EP X pins σ Q r s') pl (by lia) (by lia) (by rw [List.size_toArray, ← hl]; exact h1) (by simpa using ew) ⟨rfl, fin⟩) hs
theorem mapSeq_set (its : List Value) (n j : Nat) (u : Value) : Obj.mapSeq (·.setIfInBounds j u) { cls := .type "list", data := .seq its.toArray n } = { cls := .type "list", data := .seq (its.set j u).toArray n } := by
  simp [Obj.mapSeq]
theorem Inv.lst {pins : List (Addr × Obj)} {σ : St} {H : Hp} {s : Shared} {p : Addr} {xs : List V} (I : Inv X pins σ H s) (h : H p = some (.lst xs)) :
    ∃ (its : List Value) (n : Nat), Vals xs its ∧ s.heap.get? p = some { cls := .type "list", data := .seq its.toArray n } ∧ xs.length ≤ sizeLine := by
  obtain ⟨z, its, n, r, e⟩ := I.hok p _ h
  exact ⟨its, n, r, e, z⟩
theorem Inv.lstUpd {pins : List (Addr × Obj)} {σ : St} {H : Hp} {s : Shared} {p : Addr} {xs ys : List V} {its its' : List Value} {n n' : Nat} {f : Obj → Obj} (I : Inv X pins σ H s) (h : H p = some (.lst xs))
    (ho : s.heap.get? p = some { cls := .type "list", data := .seq its.toArray n }) (hf : f { cls := .type "list", data := .seq its.toArray n } = { cls := .type "list", data := .seq its'.toArray n' }) (r : Vals ys its') (hz : ys.length ≤ sizeLine) (t : Nat) :
    Inv X pins σ (upd H p (.lst ys)) { s with heap := s.heap.update p f, toks := t } := by
  have e : (s.heap.update p f).get? p = some { cls := .type "list", data := .seq its'.toArray n' } := by
    rw [Heap.get?_update_self f ho (by rw [hf] <;> rfl), hf]
  refine I.write (x := p) (e := p) (by rw [h]; trivial) (.inl rfl) (fun b u hb q => (Heap.get?_update_other _ _ (Ne.symm hb)).trans q) ⟨_, e⟩ ?_
  exact ⟨hz, its', n', r, e⟩
inductive rSetL  (o : V) (i : V) (v : V) (H : Hp) (Q : Hp → Prop) : Prop
  | mk : ∀ p xs k j, (o = .ref p) → (i = .int k) → (H p = some (.lst xs)) → (ixN xs.length k = some j) → (Q (upd H p (.lst (xs.set j v)))) → rSetL o i v H Q
theorem set_list : PSet X rSetL := by
  intro pins s σ H o i v ov iv u Q I ro ri rv h
  obtain ⟨p, xs, k, j, rfl, rfl, hp, hj, q⟩ := h
  cases ro
  obtain ⟨t, rfl⟩ := ri
  refine L2.ob_eeaa (I.lst hp) fun its n r ho hz => ?_
  refine L2.ob_aaa (ixN_seq hj) fun h1 h2 h3 h4 => ?_
  have hl := r.length
  have hn := line63
  have I' : Inv X pins σ (upd H p (.lst (xs.set j v))) { s with heap := s.heap.update p (Obj.mapSeq (·.setIfInBounds j u)) } :=
    I.lstUpd hp ho (mapSeq_set its n j u) (r.set rv j) (by rw [List.length_set]; exact hz) s.toks
  by_cases h0 : 0 ≤ k
  · have hk : k.toNat = j := by
      rw [seqIndex_of h0 h4] at h1
      exact Option.some.inj h1
    exact PySem.W.ki_setAt ho h0 (by lia) (by rw [List.size_toArray, ← hl]; exact h4) (by rw [hk]; exact ⟨_, I', q⟩)
  · have hk : (k + (its.toArray.size : Int)).toNat = j := by
      rw [seqIndex_neg (by lia) h3] at h1
      rw [List.size_toArray, ← hl]
      exact Option.some.inj h1
    exact PySem.W.ki_setBack ho (by lia) (by rw [List.size_toArray, ← hl]; exact h3) (by lia) (by rw [hk]; exact ⟨_, I', q⟩)
theorem slice_bounds (lo hi : Option Int) (n : Nat) : (sliceBounds lo hi none n).1 = ((HT.sIx n 0 lo : Nat) : Int) ∧ (sliceBounds lo hi none n).2.1 = ((HT.sIx n n hi : Nat) : Int) ∧ (sliceBounds lo hi none n).2.2 = 1 := by
  refine ⟨?_, ?_, rfl⟩
  · cases lo with
    | none => simp [sliceBounds, HT.sIx]
    | some i =>
      simp only [sliceBounds, HT.sIx, Option.getD_none, show (1 : Int) > 0 by decide, if_true]
      by_cases h : i < 0
      · simp only [h, if_true] <;> lia
      · simp only [h, if_false] <;> lia
  · cases hi with
    | none => simp [sliceBounds, HT.sIx]
    | some i =>
      simp only [sliceBounds, HT.sIx, Option.getD_none, show (1 : Int) > 0 by decide, if_true]
      by_cases h : i < 0
      · simp only [h, if_true] <;> lia
      · simp only [h, if_false] <;> lia
theorem slicePick_cut (its : List Value) (lo hi : Option Int) : slicePick its.toArray lo hi none = ((its.drop (HT.sIx its.length 0 lo)).take (HT.sIx its.length its.length hi - HT.sIx its.length 0 lo)).toArray := by
  refine L2.ob_aa (slice_bounds lo hi its.toArray.size) fun h1 h2 h3 => ?_
  unfold slicePick
  rw [h1, h2, h3]
  simp only [sliceRange_one, pick_run, List.size_toArray] <;> rfl
inductive rSlL (K : PySem.W.Frag) (x : V) (lo : Option Int) (hi : Option Int) (H : Hp) (Q : VK) : Prop
  | mk : ∀ a xs, (x = .ref a) → (SqL K H a xs) → (∀ p, H p = none → Q (.ref p) (upd H p (.lst (cutV xs lo hi)))) → rSlL K x lo hi H Q
theorem sl_list : SlR X (rSlL X.K) := by
  intro pins s σ H x v vl vu lo hi sl Q I rx hs pl pu h
  obtain ⟨a, xs, rfl, hx, q⟩ := h
  cases rx
  refine L2.ob_eaa (I.list hx) fun its r ht hz => ?_
  have hlen := r.length
  refine ⟨"list", _, slot_list_getitem.lookup, ht.isList.typeIs, ?_⟩
  refine wpAny_getItem_list_slice ht.isList hs pl pu .none (by simp) ?_ (by rw [List.size_toArray] <;> lia)
  rw [slicePick_cut, ← hlen]
  refine ⟨.ref s.heap.objs.size, _, I.laid (t' := s.toks) (o := .lst (cutV xs lo hi)) (fun b ob q => Heap.get?_push_of_some _ q) (Nat.le_refl _) ?_, rfl, q _ (I.hok.fresh (Nat.le_refl _))⟩
  exact ⟨Nat.le_trans (cutV_length xs lo hi) hz, _, 0, (r.drop (HT.sIx xs.length 0 lo)).take (HT.sIx xs.length xs.length hi - HT.sIx xs.length 0 lo), Heap.get?_push_size _ rfl⟩
noncomputable def flatV : V → Bool
  | .non => true
  | .bl _ => true
  | .int _ => true
  | .str _ => true
  | _ => false
noncomputable def eqV : V → V → Bool
  | .non, .non => true
  | .bl a, .bl b => a == b
  | .bl a, .int b => (if a then 1 else 0) == b
  | .int a, .bl b => a == (if b then 1 else 0)
  | .int a, .int b => a == b
  | .str a, .str b => a == b
  | _, _ => false
theorem eqAt_V {A : Around} {s : Shared} {y x : V} {u v : Value} (ry : RelV y u) (rx : RelV x v) (fy : flatV y = true) (fx : flatV x = true) : SeqAt.EqAt A s u v (eqV y x) := by
  cases y with
  | non =>
    cases ry
    cases x with
    | non => cases rx; exact SeqAt.EqAt.same _
    | bl b => cases rx; exact SeqAt.EqAt.none_bool b
    | int b => obtain ⟨t, rfl⟩ := rx; exact SeqAt.EqAt.none_int b t
    | str b => obtain ⟨t, rfl⟩ := rx; exact SeqAt.EqAt.none_str b t
    | _ => exact absurd (show false = true from fx) Bool.false_ne_true
  | bl a =>
    cases ry
    cases x with
    | non => cases rx; exact SeqAt.EqAt.bool_none a
    | bl b => cases rx; exact SeqAt.EqAt.bool_bool a b
    | int b => obtain ⟨t, rfl⟩ := rx; exact SeqAt.EqAt.bool_int a b t
    | str b => obtain ⟨t, rfl⟩ := rx; exact SeqAt.EqAt.bool_str a b t
    | _ => exact absurd (show false = true from fx) Bool.false_ne_true
  | int a =>
    obtain ⟨t', rfl⟩ := ry
    cases x with
    | non => cases rx; exact SeqAt.EqAt.int_none a t'
    | bl b => cases rx; exact SeqAt.EqAt.int_bool a t' b
    | int b => obtain ⟨t, rfl⟩ := rx; exact SeqAt.EqAt.int_int a t' b t
    | str b => obtain ⟨t, rfl⟩ := rx; exact SeqAt.EqAt.int_str a t' b t
    | _ => exact absurd (show false = true from fx) Bool.false_ne_true
  | str a =>
    obtain ⟨t', rfl⟩ := ry
    cases x with
    | non => cases rx; exact SeqAt.EqAt.str_none a t'
    | bl b => cases rx; exact SeqAt.EqAt.str_bool a t' b
    | int b => obtain ⟨t, rfl⟩ := rx; exact SeqAt.EqAt.str_int a t' b t
    | str b => obtain ⟨t, rfl⟩ := rx; exact SeqAt.EqAt.str_str a t' b t
    | _ => exact absurd (show false = true from fx) Bool.false_ne_true
  | _ => exact absurd (show false = true from fy) Bool.false_ne_true
noncomputable def eqU (x : V) (u : Value) : Bool := match u with
  | .none => eqV .non x
  | .bool b => eqV (.bl b) x
  | .int i _ => eqV (.int i) x
  | .str z _ => eqV (.str z) x
  | _ => false
theorem eqU_of {x y : V} {u : Value} (r : RelV y u) (f : flatV y = true) : eqU x u = eqV y x := by
  cases y with
  | non => cases r; rfl
  | bl b => cases r; rfl
  | int i => obtain ⟨t, rfl⟩ := r; rfl
  | str z => obtain ⟨t, rfl⟩ := r; rfl
  | _ => exact absurd (show false = true from f) Bool.false_ne_true
theorem any_eqU {x : V} : ∀ {xs : List V} {us : List Value}, Vals xs us → xs.all flatV = true → us.any (eqU x) = xs.any fun y => eqV y x
  | _, _, .nil, _ => rfl
  | y :: xs, u :: us, .cons r t, f => by
    rw [List.all_cons, Bool.and_eq_true] at f
    rw [List.any_cons, List.any_cons, eqU_of r f.1, any_eqU t f.2]
theorem mem_eqAt {A : Around} {s : Shared} {x : V} {v : Value} (rx : RelV x v) (fx : flatV x = true) : ∀ {xs : List V} {us : List Value}, Vals xs us → xs.all flatV = true → ∀ u ∈ us, SeqAt.EqAt A s u v (eqU x u)
  | _, _, .nil, _ => fun u hu => by cases hu
  | y :: xs, u :: us, .cons r t, f => fun u' hu => by
    rw [List.all_cons, Bool.and_eq_true] at f
    rcases List.mem_cons.mp hu with rfl | hu
    · rw [eqU_of r f.1]; exact eqAt_V r rx f.1 fx
    · exact mem_eqAt rx fx t f.2 u' hu
noncomputable def inV (x : V) (xs : List V) : Bool := xs.any fun y => eqV y x
noncomputable def rIn (K : PySem.W.Frag) (neg : Bool) : R2 := fun x y H Q => ∃ p xs, y = .ref p ∧ (SqL K H p xs ∨ SqT K H p xs) ∧ flatV x = true ∧ xs.all flatV = true ∧ Q (.bl (if neg then !inV x xs else inV x xs)) H
theorem op_in_seq : OpR X (compareOp .In) (rIn X.K false) := by
  intro pins s σ H x y v u Q I rx ry h
  obtain ⟨p, xs, rfl, hq, fx, fs, q⟩ := h
  cases ry
  rcases hq with hq | hq
  · obtain ⟨its, r, pl, hz⟩ := I.list hq
    refine SeqAt.in_listAt (eqU x) pl.isList (fun w hw => mem_eqAt rx fx r fs w (by simpa using hw)) ⟨.bl _, H, I, rfl, ?_⟩
    rw [show its.toArray.any (eqU x) = its.any (eqU x) by simp, any_eqU r fs]
    exact q
  · obtain ⟨its, r, pl, hz⟩ := I.tuple hq
    refine SeqAt.in_tupleAt (eqU x) pl (fun w hw => mem_eqAt rx fx r fs w (by simpa using hw)) ⟨.bl _, H, I, rfl, ?_⟩
    rw [show its.toArray.any (eqU x) = its.any (eqU x) by simp, any_eqU r fs]
    exact q
theorem op_notIn_seq : OpR X (compareOp .NotIn) (rIn X.K true) := by
  intro pins s σ H x y v u Q I rx ry h
  obtain ⟨p, xs, rfl, hq, fx, fs, q⟩ := h
  cases ry
  rcases hq with hq | hq
  · obtain ⟨its, r, pl, hz⟩ := I.list hq
    refine SeqAt.notIn_listAt (eqU x) pl.isList (fun w hw => mem_eqAt rx fx r fs w (by simpa using hw)) ⟨.bl _, H, I, rfl, ?_⟩
    rw [show its.toArray.any (eqU x) = its.any (eqU x) by simp, any_eqU r fs]
    exact q
  · obtain ⟨its, r, pl, hz⟩ := I.tuple hq
    refine SeqAt.notIn_tupleAt (eqU x) pl (fun w hw => mem_eqAt rx fx r fs w (by simpa using hw)) ⟨.bl _, H, I, rfl, ?_⟩
    rw [show its.toArray.any (eqU x) = its.any (eqU x) by simp, any_eqU r fs]
    exact q
inductive r_call_len_seq (K : PySem.W.Frag) (xs : List V) (H : Hp) (Q : VK) : Prop
  | mk : ∀ p ys, (xs = [.ref p]) → ((SqL K H p ys ∨ SqT K H p ys)) → (Q (.int ys.length) H) → r_call_len_seq K xs H Q
theorem call_len_seq : CallR X (.builtin "len") (r_call_len_seq X.K) := by
  intro pins s σ H xs us Q I r h
  obtain ⟨p, ys, rfl, hq, q⟩ := h
  refine L2.ob_ea (vals1 r) fun u e_1 rx => ?_; subst e_1
  cases rx
  have hn := line63
  rcases hq with hq | hq
  · refine L2.ob_eaa (I.list hq) fun its r' pl hz => ?_
    have hlen := r'.length
    exact Calls.call_len_list pl.isList (by simp only [List.size_toArray] <;> lia) ⟨.int ys.length, H, I.tok _, ⟨s.toks + 1, by rw [List.size_toArray, hlen]⟩, q⟩
  · refine L2.ob_eaa (I.tuple hq) fun its r' pl hz => ?_
    have hlen := r'.length
    exact len_tuple pl (by simp only [List.size_toArray] <;> lia) ⟨.int ys.length, H, I.tok _, ⟨s.toks + 1, by rw [List.size_toArray, hlen]⟩, q⟩
inductive r_call_list_of (K : PySem.W.Frag) (xs : List V) (H : Hp) (Q : VK) : Prop
  | mk : ∀ p ys, (xs = [.ref p]) → ((SqL K H p ys ∨ SqT K H p ys)) → (∀ l, H l = none → Q (.ref l) (upd H l (.lst ys))) → r_call_list_of K xs H Q
theorem call_list_of : CallR X (.type "list") (r_call_list_of X.K) := by
  intro pins s σ H xs us Q I r h
  obtain ⟨p, ys, rfl, hq, q⟩ := h
  refine L2.ob_ea (vals1 r) fun u e_1 rx => ?_; subst e_1
  cases rx
  have fin : ∀ (its : List Value), Vals ys its → ys.length ≤ sizeLine → ∀ (h' : Heap) (c' : Nat), (∀ b o', s.heap.get? b = some o' → h'.get? b = some o') →
      h'.get? s.heap.objs.size = some { cls := .type "list", dict := none, data := .seq its.toArray c', slots := #[] } → EP X pins σ Q (.ref s.heap.objs.size) { s with heap := h' } := fun its r' hz h' c' kp e =>
    ⟨.ref s.heap.objs.size, _, I.laid (t' := s.toks) kp (Nat.le_refl _) (show ObjOk X.prog X.w _ h' _ (.lst ys) from ⟨hz, its, c', r', e⟩), rfl, q _ (I.hok.fresh (Nat.le_refl _))⟩
  rcases hq with hq | hq
  · refine L2.ob_eaa (I.list hq) fun its r' pl hz => ?_
    have hlen := r'.length
    obtain ⟨o, ho, hc, n, hd⟩ := pl.isList
    exact call_list_seq p (.inl rfl) ho hc hd (fun h' c' kp e => fin its r' hz h' c' kp e) (by simp only [List.size_toArray] <;> lia)
  · refine L2.ob_eaa (I.tuple hq) fun its r' pl hz => ?_
    have hlen := r'.length
    obtain ⟨o, ho, hc, n, hd⟩ := pl
    exact call_list_seq p (.inr rfl) ho hc hd (fun h' c' kp e => fin its r' hz h' c' kp e) (by simp only [List.size_toArray] <;> lia)
noncomputable def tyV (K : PySem.W.Frag) (T : String) (x : V) (H : Hp) : Prop := match x with
  | .str _ => T = "str"
  | .int _ => T = "int"
  | .ref p => (T = "list" ∧ ∃ xs, SqL K H p xs) ∨ (T = "tuple" ∧ ∃ o, K.lookup p = some o ∧ o.cls = .type "tuple" ∧ o.dict = none) ∨
      (T = "dict" ∧ ((∃ kvs, H p = some (.dK kvs)) ∨ ∃ kvs, H p = some (.dT kvs))) ∨ (T = "set" ∧ ∃ S n, H p = some (.set S n))
  | _ => False
theorem tyV_is {pins : List (Addr × Obj)} {σ : St} {H : Hp} {s : Shared} {T : String} {x : V} {v : Value} (I : Inv X pins σ H s) (r : RelV x v) (ty : tyV X.K T x H) :
    s.TypeIs v T ∧ ∀ a, v = .ref a → ∃ ob, s.heap.get? a = some ob ∧ ob.dict = none := by
  cases x with
  | str z =>
    obtain ⟨t, rfl⟩ := r
    cases (show T = "str" from ty)
    exact ⟨typeIs_str s z t, fun _ e => nomatch e⟩
  | int i =>
    obtain ⟨t, rfl⟩ := r
    cases (show T = "int" from ty)
    exact ⟨typeIs_int s i t, fun _ e => nomatch e⟩
  | ref p =>
    cases r
    rcases ty with ⟨rfl, xs, hq⟩ | ⟨rfl, o, hk, hc, hd⟩ | ⟨rfl, hk⟩ | ⟨rfl, S, n, hk⟩
    · refine L2.ob_eaa (I.list hq) fun its _ pl _ => ?_
      refine ⟨pl.isList.typeIs, fun a e => ?_⟩
      cases e
      obtain ⟨o, n, e, c, hd, _⟩ := pl
      exact ⟨o, e, hd⟩
    · refine ⟨⟨o, I.kIn p o hk, hc⟩, fun a e => ?_⟩
      cases e
      exact ⟨o, I.kIn _ o hk, hd⟩
    · have z : ∃ o, s.heap.get? p = some o ∧ o.ExactDict := by
        rcases hk with ⟨kvs, hk⟩ | ⟨kvs, hk⟩
        · obtain ⟨_, _, _, _, o, _, _, e, ex, _⟩ := I.hok p _ hk
          exact ⟨o, e, ex⟩
        · obtain ⟨_, _, _, _, o, _, _, e, ex, _⟩ := I.hok p _ hk
          exact ⟨o, e, ex⟩
      refine L2.ob_ea z fun o e ex => ?_
      refine ⟨⟨o, e, ex.1⟩, fun a e2 => ?_⟩
      cases e2
      exact ⟨o, e, ex.2.1⟩
    · obtain ⟨o, _, _, _, e, ex, _⟩ := I.hok p _ hk
      refine ⟨⟨o, e, ex.1⟩, fun a e2 => ?_⟩
      cases e2
      exact ⟨o, e, ex.2.1⟩
  | _ => exact False.elim ty
inductive tBM_b (K : PySem.W.Frag) (T : String) (r : V → List V → Hp → VK → Prop) (t : TA) (σ : St) (Q : VK) (x : V) (H1 : Hp) : Prop
  | mk : (tyV K T x H1) → (t σ H1 fun xs H2 => r x xs H2 Q) → tBM_b K T r t σ Q x H1
noncomputable def tBM (K : PySem.W.Frag) (T : String) (r : V → List V → Hp → VK → Prop) (to : TE) (t : TA) : TE := fun σ H Q => to σ H fun x H1 => tBM_b K T r t σ Q x H1
variable {o e : Expr} {es : List Expr} {to : TE} {t : TA} {name : Str} {apos cpos : Pos} {T id : String} {r : V → List V → Hp → VK → Prop}
theorem pe_bm (pa : PlainAttrs T) (slot : Slot T name id) (hty : typeOf (.builtin id) = pure (.type "method_descriptor")) (hm : MtR X id r) (ho : PE X o to) (ha : PA X (e :: es) t)
    (hbase : attributeBase o name X.env (eval o X.env) = eval o X.env := by rfl)
    (hfew : ((backTo cpos (starEach (e :: es) X.env)).all (fun x => !x.1) && (backToKw cpos (keywordEach [] X.env)).all (fun x => x.1.isSome)
      && decide ((e :: es).length + ([] : List Keyword).length + (if ([] : List Keyword).isEmpty then 0 else 1) < 30)) = true := by rfl)
    (hline : (apos.endLine == cpos.line) = true := by rfl) (hs : starEach (e :: es) X.env = (false, eval e X.env) :: starEach es X.env := by rfl) (hplain : (backTo cpos (starEach es X.env)).any (·.1) = false := by rfl) :
    PE X (.Call (.Attribute o name apos) (e :: es) [] cpos) (tBM X.K T r to t) := by
  intro pins s σ H Q I h
  refine wpAny_Call_method_late hbase hfew hline rfl (thn (ho pins s σ H _ I h) fun v s1 ⟨x, H1, I1, r1, ty, q1⟩ => ?_)
  obtain ⟨h1, h2⟩ := tyV_is I1 r1 ty
  refine ⟨T, id, pa, slot, hty, h1, h2, ?_⟩
  have hA := ha cpos pins s1 σ H1 _ I1 q1
  rw [hs] at hA ⊢
  refine Calls.callWith_builtin (by show (false || (backTo cpos (starEach es X.env)).any (·.1)) = false; rw [hplain] <;> rfl) (Calls.evalArgs_plain ?_)
  exact thn hA fun us s2 ⟨vs, H2, I2, r2, q2⟩ => hm pins s2 σ H2 x vs v us Q I2 r1 r2 q2
end
end L2

namespace L2
open PySem PySem.Spec PyProof.Rows
noncomputable def MtM (X : Cx) (id : String) (r : V → List V → Hp → VK → Prop) : Prop :=
  ∀ (pins : List (Addr × Obj)) (s : Shared) (σ : St) (H : Hp) (x : V) (xs : List V) (v : Value) (us : List Value) (Q : VK), Inv X pins σ H s → RelV x v → Vals xs us → r x xs H Q →
    wpAny (model X.prog X.w) X.A (call (.builtin id) (v :: us)) (EP X pins σ Q) X.xe s
theorem Vals.one {x : V} {us : List Value} (h : Vals [x] us) : ∃ u, us = [u] ∧ RelV x u := vals1 h
theorem Vals.zero : ∀ {us : List Value}, Vals [] us → us = []
  | _, .nil => rfl
theorem Vals.rep {xs : List V} {us : List Value} (h : Vals xs us) : ∀ k : Nat, Vals (List.replicate k xs).flatten (List.replicate k us).flatten
  | 0 => .nil
  | k + 1 => by
    rw [List.replicate_succ, List.replicate_succ, List.flatten_cons, List.flatten_cons]
    exact Vals.append h (Vals.rep h k)
theorem foldl_rep (its : List Value) : ∀ (k : Nat) (acc : List Value),
    List.foldl (fun x1 x2 => x1 ++ x2) acc.toArray (List.replicate k its.toArray) = (acc ++ (List.replicate k its).flatten).toArray
  | 0, acc => by simp
  | k + 1, acc => by
    have e : acc.toArray ++ its.toArray = (acc ++ its).toArray := by simp
    have e2 : (acc ++ its) ++ (List.replicate k its).flatten = acc ++ (List.replicate (k + 1) its).flatten := by
      rw [List.replicate_succ, List.flatten_cons, List.append_assoc]
    rw [← e2, ← foldl_rep its k (acc ++ its), ← e, List.replicate_succ, List.foldl_cons]
section
variable {X : Cx} {pins : List (Addr × Obj)} {σ : St} {H : Hp} {s : Shared} {l b : Addr} {xs ys zs : List V}
theorem Inv.lset {its its' : List Value} {n : Nat} {f : Array Value → Array Value} {t' : Nat} (I : Inv X pins σ H s) (hH : H l = some (.lst xs))
    (e : s.heap.get? l = some { cls := .type "list", data := .seq its.toArray n }) (hf : f its.toArray = its'.toArray) (hv : Vals ys its') (hz : ys.length ≤ sizeLine) :
    Inv X pins σ (upd H l (.lst ys)) { s with heap := s.heap.update l (Obj.mapSeq f), toks := t' } := by
  have q := PySem.IsL.update e f
  rw [hf] at q
  refine I.write (x := l) (e := l) (by rw [hH]; exact trivial) (.inl rfl) (fun b' u hb hu => (Heap.get?_update_other s.heap (Obj.mapSeq f) (Ne.symm hb)).trans hu) ⟨_, q⟩ ?_
  exact ⟨hz, its', _, hv, q⟩
theorem Inv.lnew {its : List Value} {t' : Nat} (I : Inv X pins σ H s) (hv : Vals ys its) (hz : ys.length ≤ sizeLine) :
    Inv X pins σ (upd H s.heap.objs.size (.lst ys)) { s with heap := s.heap.push { cls := .type "list", data := .seq its.toArray }, toks := t' } :=
  I.laid (fun _ _ q => Heap.get?_push_of_some _ q) (Nat.le_refl _) ⟨hz, its, 0, hv, Heap.get?_push_size _ rfl⟩
theorem Inv.fresh (I : Inv X pins σ H s) : H s.heap.objs.size = none := I.hok.fresh (Nat.le_refl _)
theorem Inv.lstM (I : Inv X pins σ H s) (hH : H l = some (.lst xs)) : xs.length ≤ sizeLine ∧ ∃ (its : List Value) (n : Nat), Vals xs its ∧ xs.length = its.length ∧ s.heap.get? l = some { cls := .type "list", data := .seq its.toArray n } := by
  obtain ⟨z, its, n, r, e⟩ := I.hok l _ hH
  exact ⟨z, its, n, r, r.length, e⟩
theorem notLongL {n : Nat} (h : n ≤ sizeLine) : Builtin.List.listTooLong n = false := by
  unfold Builtin.List.listTooLong
  exact decide_eq_false (by lia)
end

section
variable {X : Cx}
inductive rAppend  (x : V) (vs : List V) (H : Hp) (Q : VK) : Prop
  | mk : ∀ l xs y, (x = .ref l) → (vs = [y]) → (H l = some (.lst xs)) → (xs.length < sizeLine) → (Q .non (upd H l (.lst (xs ++ [y])))) → rAppend x vs H Q
theorem mt_append : MtM X "list.append" rAppend := by
  intro pins s σ H x vs v us Q I rx rv h
  obtain ⟨l, xs, y, rfl, rfl, hH, hz, q⟩ := h
  cases rx
  refine L2.ob_ea rv.one fun u e_1 ru => ?_; subst e_1
  refine L2.ob_aeeaa (I.lstM hH) fun z its n r hl e => ?_
  refine call_meets F.slot_list_append ⟨_, e, rfl⟩ F.entry_list_append (F.args_list_append_2 _ _) (PySem.list_append l its.toArray n u (by rw [List.size_toArray]; lia)) ⟨e, ?_⟩
  refine ⟨.non, _, I.lset (its' := its ++ [u]) hH e (by simp) (r.append (.cons ru .nil)) ?_, rfl, q⟩
  rw [List.length_append, List.length_singleton]
  lia
inductive rCat  (x : V) (y : V) (H : Hp) (Q : VK) : Prop
  | mk : ∀ l b xs zs, (x = .ref l) → (y = .ref b) → (H l = some (.lst xs)) → (H b = some (.lst zs)) → (xs.length + zs.length ≤ sizeLine) → (∀ p, H p = none → Q (.ref p) (upd H p (.lst (xs ++ zs)))) → rCat x y H Q
theorem op_cat : OpR X (binaryOp .Add) rCat := by
  intro pins s σ H x y v u Q I rx ry h
  obtain ⟨l, b, xs, zs, rfl, rfl, hH, hB, hz, q⟩ := h
  cases rx
  cases ry
  refine L2.ob_aeeaa (I.lstM hH) fun z its n r hl e => ?_
  refine L2.ob_aeeaa (I.lstM hB) fun z2 its2 n2 r2 hl2 e2 => ?_
  refine PySem.P.add_list e e2 ?_ (by rw [List.size_toArray, List.size_toArray]; lia)
  have ea : its.toArray ++ its2.toArray = (its ++ its2).toArray := by simp
  rw [ea]
  exact ⟨.ref _, _, I.lnew (t' := s.toks) (r.append r2) (by rw [List.length_append]; lia), rfl, q _ I.fresh⟩
inductive rRep  (x : V) (y : V) (H : Hp) (Q : VK) : Prop
  | mk : ∀ l k xs, (x = .ref l) → (y = .int k) → (H l = some (.lst xs)) → (-(2 ^ 63) ≤ k) → (k < 2 ^ 63) → (xs.length * k.toNat ≤ sizeLine) → (∀ p, H p = none → Q (.ref p) (upd H p (.lst (List.replicate k.toNat xs).flatten))) → rRep x y H Q
theorem len_rep {α : Type} (xs : List α) (k : Nat) : (List.replicate k xs).flatten.length = k * xs.length := by
  induction k with
  | zero => simp
  | succ k ih => rw [List.replicate_succ, List.flatten_cons, List.length_append, ih, Nat.succ_mul, Nat.add_comm]
theorem op_rep : OpR X (binaryOp .Mult) rRep := by
  intro pins s σ H x y v u Q I rx ry h
  obtain ⟨l, k, xs, rfl, rfl, hH, h1, h2, hz, q⟩ := h
  cases rx
  obtain ⟨t, rfl⟩ := ry
  refine L2.ob_aeeaa (I.lstM hH) fun z its n r hl e => ?_
  have hlen : its.toArray.size * k.toNat ≤ sizeLine := by rw [List.size_toArray, ← hl]; exact hz
  have hcap : ¬ its.toArray.size * k.toNat > (2 ^ 63 - 1) / 8 := by
    have : (sizeLine : Nat) ≤ (2 ^ 63 - 1) / 8 := by decide
    lia
  have hfit : ¬ (!Builtin.List.listFitsIndex k) = true := by
    rw [fitsIndex_both h1 h2]
    exact Bool.false_ne_true
  have hlong : ¬ Builtin.List.listTooLong (its.toArray.size * k.toNat) = true := by
    rw [notLongL hlen]
    exact Bool.false_ne_true
  have hnew : List.foldl (fun x1 x2 => x1 ++ x2) #[] (List.replicate (if its.toArray.isEmpty = true then 0 else k.toNat) its.toArray) = (List.replicate k.toNat its).flatten.toArray := by
    have f0 : ∀ m : Nat, List.foldl (fun x1 x2 => x1 ++ x2) #[] (List.replicate m its.toArray) = (List.replicate m its).flatten.toArray := fun m => by
      have := foldl_rep its m []
      rw [List.nil_append] at this
      exact this
    rw [f0]
    cases its with
    | nil => simp
    | cons a r' => rw [if_neg (by simp)]
  refine wpAny_binaryOp_repeat_ref (T := "list") (U := "int") (by decide) ⟨_, e, rfl⟩ (fun s' => typeIs_int s' k t) noFill_list_mul F.fills_int_mul F.slot_int_rmul repeat_list F.slot_int_index.lookup
    (call_meets F.slot_int_rmul (typeIs_int s k t) F.entry_int_rmul (F.args_int_rmul_2 _ _) (int___rmul___int_list k t l its.toArray n)
      ⟨e, rfl, ⟨_, e, rfl⟩, call_meets F.slot_list_mul ⟨_, e, rfl⟩ F.entry_list_mul (F.args_list_mul_2 _ _) (AutoListH.list___mul___list_int_3 l its.toArray n k t hfit hcap hlong) ⟨e, ?_⟩⟩)
  rw [hnew]
  exact ⟨.ref _, _, I.lnew (t' := s.toks) (r.rep k.toNat) (by rw [len_rep, Nat.mul_comm]; exact hz), rfl, q _ I.fresh⟩
end

section
variable {prog : Program} {w : World} {A : Around} {E : Value → Shared → Prop} {s : Shared}
set_option maxRecDepth 100000 in
end

section
variable {X : Cx}
end
end L2

namespace Att
open PySem PySem.W PySem.Calls PyProof.Rows
theorem ints_of_wellAll {P : Params} {h : Heap} : ∀ (ns : List Int) (vs : List Value), WellAll P h vs (ns.map WData.int) → IntsAre vs ns := by
  intro ns
  induction ns with
  | nil =>
    intro vs w
    rw [List.map_nil] at w
    cases w
    exact .nil
  | cons n ns ih =>
    intro vs w
    rw [List.map_cons] at w
    cases w with
    | cons a b =>
      cases a
      exact .cons _ _ (ih _ b)
theorem script_of {l : OpenLaw} {n : Nat} (hn : l.most = some n) {P : Params} {h : Heap} {args : List WData} {vals : List Value}
    (hpre : l.row.toRowW.claim.pre args = true) (hwl : WellAll P h vals args) :
    ∃ a vs ns, vals = [Value.ref a] ∧ args = [WData.list (ns.map WData.int)] ∧ h.get? a = some { cls := .type "list", data := .seq vs.toArray } ∧ IntsAre vs ns ∧ ns.length ≤ n := by
  have hsh : WShape.hasAll [] args [.list .int] = true := (pre_splitW hpre).1
  have hc : l.pre.holds [] { args := args } = true := (pre_splitW hpre).2
  refine L2.ob_eeaa (hasAllW_cons hsh) fun d r e_2 h1 h2 => ?_; subst e_2
  obtain rfl := hasAllW_nil h2
  refine L2.ob_ea (hasW_list h1) fun xs e_1 h3 => ?_; subst e_1
  obtain ⟨ns, rfl⟩ := items_int h3
  have hlen : ns.length ≤ n := by
    unfold OpenLaw.pre at hc
    have h4 : (WTm.not (.lt (.lit (.int (n : Int))) (.len (.arg 0)))).holds [] { args := [.list (ns.map .int)] } = true := by
      have h4 := (holds_andW hc).1
      rw [hn] at h4
      exact h4
    have h5 := condW_of h4 (w_not (w_lt w_lit (w_len_list (w_arg rfl))))
    rw [List.length_map] at h5
    refine Nat.le_of_not_lt fun q => ?_
    have q' : (n : Int) < ((ns.length : Nat) : Int) := by lia
    first
      | (rw [decide_eq_true q'] at h5; exact absurd h5 (by decide))
      | (simp at h5; lia)
  cases hwl with
  | cons w1 w2 =>
    cases w2
    cases w1 with
    | list ho hall => exact ⟨_, _, ns, rfl, rfl, ho, ints_of_wellAll ns _ hall, hlen⟩
theorem post_true (l : OpenLaw) (args : List WData) : l.row.toRowW.claim.post args (.bool true) args = true :=
  postW_of (r := l.row.toRowW) (X := (true == true))
    (show WShape.has [] (.bool true) .bool = true by first | rfl | decide | simp [WShape.has, WShape.arms, WShape.armsAll])
    (show (WTm.eq .res (.lit (.bool true))).value [] { args := args, res := some (.bool true), after := args } = some (.bool (true == true)) from w_eq_bool (w_res rfl) w_lit) rfl
theorem attach_call {l : OpenLaw} {n : Nat} {q : Program} {loose : List Str} {XP : (Str → Option Value) → Heap → Prop} {YP : World → Heap → Prop} {d : DefRec}
    (hn : l.most = some n) (hdf : d.params.defaults = [])
    (call : ∀ (w : World) (s₀ s₁ : Shared) (mg mb : Str → Option Value) (fa : Addr) (o : Obj) (pm cd doc : Value) (a : Addr) (vs : List Value) (ns : List Int),
      Ground q loose [] XP w s₀ mg mb s₁.heap → YP w s₁.heap →
      s₁.heap.get? fa = some o → o.data = .func (docDef d.name d.params d.body d.scope pm cd doc) → s₁.heap.CodeRec cd d.name → mg d.name = some (.ref fa) →
      s₁.heap.get? a = some { cls := .type "list", data := .seq vs.toArray } → IntsAre vs ns → ns.length ≤ n → s₁.gens = #[] →
      codeAny (model l.prog w) callerA (.call (.ref fa) ⟨[.ref a], []⟩) (fun r s' => r = .ok (.ret (.bool true)) ∧ OldK s₁.heap s'.heap ∧ s'.os = s₁.os ∧ AllBare s'.gens) s₁) :
    WalkO q loose XP YP l.row.toRowW d [] (fun f vs => PySem.call f vs) := by
  intro w s₀ s₁ mg mb G Y fa o pm cd doc dV kV ho hd hcd hD hmg hg args vals as hpre hlay hrd hwl hlo
  obtain rfl : dV = .none := Dflts.none hD hdf
  obtain rfl : kV = .none := Dflts.noKw hD
  refine L2.ob_eeeaaaa (script_of hn hpre hwl) fun a vs ns e_3 e_4 hobj hints hlen => ?_; subst e_3; subst e_4
  refine enter_call (codeAny_mono (call w s₀ s₁ mg mb fa o pm cd doc a vs ns G Y ho (fd_plain hd) hcd hmg hobj hints hlen hg) fun r s' hq => ?_)
  refine L2.ob_aaa hq fun e_0 h2 h3 h4 => ?_; subst e_0
  exact ⟨.inl ⟨.bool true, .bool true, [], rfl, fun _ => rfl, .bool true, post_true l _, fun _ => ⟨List.Pairwise.nil, fun _ hm => (nomatch hm)⟩⟩, h2, h3, h4⟩
section
variable {prog : Program} {w : World} {A : Around} {E : Value → Shared → Prop} {s : Shared} {K : Frag}
end
end Att

namespace L2
open PySem PySem.Spec PyProof.Rows
theorem vals_ints {vs : List Value} {ns : List Int} (h : IntsAre vs ns) : Vals (ns.map V.int) vs := by
  induction h with
  | nil => exact .nil
  | cons n t _ ih => exact .cons ⟨t, rfl⟩ ih
end L2

namespace L2
open PySem PySem.Spec PyProof.Rows
end L2

namespace L2
open PySem PySem.Spec PyProof.Rows
noncomputable def defArgs (s : Stmt) : Arguments := match s with
  | .FunctionDef _ a _ _ _ _ _ _ _ _ => a
  | _ => { posonlyargs := [], args := [], vararg := none, kwonlyargs := [], kw_defaults := [], kwarg := none, defaults := [] }
noncomputable def defBody (s : Stmt) : List Stmt := match s with
  | .FunctionDef _ _ b _ _ _ _ _ _ _ => b
  | _ => []
noncomputable def defScope (s : Stmt) : Scope := match s with
  | .FunctionDef _ _ _ _ _ _ sc _ _ _ => sc
  | _ => { kind := .function, names := [], isGenerator := false, isCoroutine := false }
noncomputable abbrev E0 : XK := fun _ _ _ => False
structure Fun (K : PySem.W.Frag) (x qual : Str) (st : Stmt) (f : Addr) (fd : FuncData) : Prop where
  ex : ∃ (oc : Value) (od : Option Addr) (kV doc pm : Value) (an : Option Addr) (cdv ct : Value) (osl : Array (Option Value)),
    fd = PySem.W.fnOf x qual (defArgs st) (defBody st) (defScope st) .none kV doc pm an cdv ct ∧ K.lookup f = some ⟨oc, od, .func fd, osl⟩ ∧ PySem.W.codeIn K cdv qual = true
  kp : PySem.W.keepIn K (.ref f) = true
section
variable {P : Program} {w : World} {K : PySem.W.Frag} {mg : Str → Option Value} {base : Heap}
theorem Fun.binds {x qual : Str} {st : Stmt} {f : Addr} {fd : FuncData} {ps : List Str} (F : Fun K x qual st f fd)
    (h : ∀ (kV doc pm : Value) (an : Option Addr) (cdv ct : Value) (us : List Value), us.length = ps.length → bindArgs (PySem.W.fnOf x qual (defArgs st) (defBody st) (defScope st) .none kV doc pm an cdv ct) ⟨us, []⟩ = pure (ps.zip us)) : Binds K fd ps [] := by
  refine L2.ob_eeeeeeeeeaa F.ex fun oc od kV doc pm an cdv ct osl e_9 lk hcd => ?_; subst e_9
  exact .all (h kV doc pm an cdv ct)
theorem fun_mk {x qual : Str} {st : Stmt} {f : Addr} {oc : Value} {od an : Option Addr} {osl : Array (Option Value)} {kV doc pm cdv ct : Value} (l : K.lookup f = some ⟨oc, od, .func (PySem.W.fnOf x qual (defArgs st) (defBody st) (defScope st) .none kV doc pm an cdv ct), osl⟩)
    (c : PySem.W.codeIn K cdv qual = true) (k : PySem.W.keepIn K (.ref f) = true) : Fun K x qual st f (PySem.W.fnOf x qual (defArgs st) (defBody st) (defScope st) .none kV doc pm an cdv ct) := ⟨⟨oc, od, kV, doc, pm, an, cdv, ct, osl, rfl, l, c⟩, k⟩
end
theorem hu_of {A : Around} {k : Nat} (hr : Room k A) : A.units + 1 < cLine := Nat.lt_of_le_of_lt (Nat.add_le_add_left (by decide : 1 ≤ 64) _) hr.units
section
variable {X : Cx}
theorem pv (i : Nat) {x : Str} {pos : Pos} (hN : X.N[i]? = some x := by rfl) (hv : Vis X.env.scope x := by first | exact Or.inl rfl | exact Or.inr (Or.inl rfl) | exact Or.inr (Or.inr rfl)) (hd : (x == ("__debug__" : Str)) = false := by decide)
    (hcd : (x == ("__classdict__" : Str)) = false := by decide) : PE X (.Name x pos) (tVar i) := pe_var hN hv hd hcd
end

theorem iteF {A B : Prop} (h : B) : if false = true then A else B := by
  rw [if_neg Bool.false_ne_true]
  exact h
theorem iteT {A B : Prop} (h : A) : if true = true then A else B := by
  rw [if_pos rfl]
  exact h
theorem iteNS {c A B : Prop} [Decidable c] (hc : c) (h : B) : if (!decide c) = true then A else B := by
  rw [decide_eq_true hc]
  exact iteF h
noncomputable def Same (H H' : Hp) : Prop := ∀ b o, H b = some o → H' b = some o
theorem Same.refl (H : Hp) : Same H H := fun _ _ h => h
theorem Same.trans {H H1 H2 : Hp} (a : Same H H1) (b : Same H1 H2) : Same H H2 := fun c o h => b c o (a c o h)
theorem Same.free {H H' : Hp} (e : Same H H') {l : Addr} (h : H' l = Option.none) : H l = Option.none := by
  cases q : H l with
  | none => rfl
  | some o =>
    rw [e l o q] at h
    exact L2.sn_ h
theorem Same.seq {K : PySem.W.Frag} {H H' : Hp} {a : Addr} {xs : List V} (e : Same H H') (h : SqL K H a xs) : SqL K H' a xs := by
  rcases h with (h | ⟨o, h⟩) | h
  · exact .inl (.inl (e _ _ h))
  · exact .inl (.inr ⟨o, e _ _ h⟩)
  · exact .inr h
end L2

namespace L2
open PySem PySem.Spec PyProof.Rows
noncomputable def fld2 (o : Obj) : Option Value := match o.data with
  | .fields vs => vs[2]?
  | _ => none
noncomputable def Ctx0 (h : Heap) (e : Addr) : Prop := ∃ o, h.get? e = some o ∧ fld2 o = some .none
inductive Kp2 {α : Type} : Sem α → Prop
  | pure (a : α) : Kp2 (.pure a)
  | raise (e : Value) : Kp2 (.raise e)
  | unsupported (w : String) : Kp2 (.unsupported w)
  | rule {t : String} {k : Unit → Sem α} : Kp2 (k ()) → Kp2 (.rule t k)
  | load {a : Addr} {q : Option Value} {k : Obj → Sem α} : (∀ o, Kp2 (k o)) → Kp2 (.load a q k)
  | update {a : Addr} {q : Option Value} {f : Obj → Obj} {k : Unit → Sem α} : (∀ o, fld2 (f o) = fld2 o) → Kp2 (k ()) → Kp2 (.update a q f k)
  | alloc {o : Obj} {k : Addr → Sem α} : (∀ a, Kp2 (k a)) → Kp2 (.alloc o k)
  | stack {k : List (Code × Pos) → Sem α} : (∀ x, Kp2 (k x)) → Kp2 (.stack k)
theorem Ctx0.update {h : Heap} {e a : Addr} {f : Obj → Obj} (c : Ctx0 h e) (hf : ∀ o, fld2 (f o) = fld2 o) : Ctx0 (h.update a f) e := by
  obtain ⟨o, ho, hc⟩ := c
  by_cases ha : a = e
  · subst ha
    have h2 : fld2 (f o) = some .none := (hf o).trans hc
    refine ⟨f o, Heap.get?_update_self f ho ?_, h2⟩
    unfold fld2 at h2
    split at h2
    · next vs hd => exact Obj.isFreed_of_fields hd
    · cases h2
  · exact ⟨o, (Heap.get?_update_other _ _ ha).trans ho, hc⟩
theorem wp_kp2 {α : Type} {M : Model} {Γ : PySem.Ctx} {e : Addr} {Q : α → Pos → Shared → Prop} {E : Value → Pos → Shared → Prop} {t : Sem α} (hk : Kp2 t) : ∀ (p : Pos) (s : Shared), Ctx0 s.heap e → Sem.wp M Γ t Q E p s → Sem.wp M Γ t (fun a p' s' => Q a p' s' ∧ Ctx0 s'.heap e) (fun x p' s' => E x p' s' ∧ Ctx0 s'.heap e) p s := by
  induction hk with
  | pure a => intro p s c h; rw [Sem.wp_pure] at h ⊢; exact ⟨h, c⟩
  | raise x => intro p s c h; rw [Sem.wp_raise] at h ⊢; exact ⟨h, c⟩
  | unsupported x => intro p s c h; rw [Sem.wp_unsupported] at h; exact h.elim
  | rule _ ih => intro p s c h; rw [Sem.wp_rule] at h ⊢; exact ih p s c h
  | load _ ih => intro p s c h; rw [Sem.wp_load] at h ⊢; obtain ⟨o, ho, h⟩ := h; exact ⟨o, ho, ih o p s c h⟩
  | update hf _ ih => intro p s c h; rw [Sem.wp_update] at h ⊢; exact ⟨h.1, ih p _ (c.update hf) h.2⟩
  | alloc _ ih => intro p s c h; rw [Sem.wp_alloc] at h ⊢; exact ih _ p _ (by obtain ⟨o, ho, hc⟩ := c; exact ⟨o, Heap.get?_push_of_some _ ho, hc⟩) h
  | stack _ ih => intro p s c h; rw [Sem.wp_stack] at h ⊢; exact ih _ p s c h
theorem kp2_any {α : Type} {M : Model} {A : Around} {e : Addr} {Q : α → Shared → Prop} {E : Value → Shared → Prop} {t : Sem α} {s : Shared} (hk : Kp2 t) (c : Ctx0 s.heap e) (h : wpAny M A t Q E s) : wpAny M A t (fun a s' => Q a s' ∧ Ctx0 s'.heap e) (fun x s' => E x s' ∧ Ctx0 s'.heap e) s :=
  fun Γ p hΓ => wp_kp2 hk p s c (h Γ p hΓ)
theorem kp2_bind {α β : Type} {f : α → Sem β} {m : Sem α} (hm : Kp2 m) (hf : ∀ a, Kp2 (f a)) : Kp2 (m >>= f) := by
  induction hm with
  | pure a => exact hf a
  | raise x => exact .raise x
  | unsupported x => exact .unsupported x
  | rule _ ih => exact .rule ih
  | load _ ih => exact .load ih
  | update h _ ih => exact .update h ih
  | alloc _ ih => exact .alloc ih
  | stack _ ih => exact .stack ih
theorem kp2_load (a : Addr) : Kp2 (load a) := .load fun o => .pure o
theorem kp2_stack : Kp2 stack := .stack fun x => .pure x
theorem kp2_un {α : Type} (w : String) : Kp2 (unsupported w : Sem α) := .unsupported w
theorem kp2_ret {α : Type} (a : α) : Kp2 (Pure.pure a : Sem α) := .pure a
theorem kp2_field (v : Value) (i : Nat) : Kp2 (field v i) := by
  unfold field
  refine kp2_bind ?_ fun vs => ?_
  · unfold fieldsOf
    cases v <;> first
      | exact kp2_un _
      | (refine kp2_bind (kp2_load _) fun o => ?_
         split
         · exact kp2_ret _
         · exact kp2_un _)
  · split
    · exact kp2_ret _
    · exact kp2_un _
theorem fld2_map {f : Array Value → Array Value} (hf : ∀ vs, (f vs)[2]? = vs[2]?) (o : Obj) : fld2 (Obj.mapFields f o) = fld2 o := by
  obtain ⟨c, d, dt, sl⟩ := o
  cases dt <;> first | rfl | exact hf _
theorem kp2_setField (v : Value) {i : Nat} (x : Value) (hi : i ≠ 2) : Kp2 (setField v i x) := by
  unfold setField
  cases v <;> first
    | exact kp2_un _
    | (show Kp2 (updateField _ _ _)
       unfold updateField
       refine kp2_bind (kp2_load _) fun o => ?_
       split
       · split
         · exact .update (fld2_map fun vs => Array.getElem?_setIfInBounds_ne hi) (.pure ())
         · exact kp2_un _
       · exact kp2_un _)
theorem kp2_flight (v : Value) (fr : Option Addr) : Kp2 (setFlight v fr) := by
  unfold setFlight
  refine kp2_bind (kp2_field v 1) fun tb => ?_
  split
  · exact kp2_setField _ _ (by decide)
  · exact kp2_ret _
theorem kp2_ready : ∀ l : List Env, Kp2 (readyFrames l)
  | [] => kp2_ret _
  | env :: outer => by
    unfold readyFrames
    split
    · next f hf =>
      refine kp2_bind (kp2_load _) fun o => ?_
      split
      · exact kp2_ret _
      · refine kp2_bind ?_ fun im => kp2_bind ?_ fun bk => kp2_bind (.update (fun o => rfl) (.pure ())) fun _ => kp2_ready outer
        · unfold behindIsImport
          split
          · exact kp2_ret _
          · split
            · exact kp2_ret _
            · exact kp2_bind (kp2_field _ _) fun _ => kp2_ret _
        · unfold keptBack
          split
          · split
            · exact kp2_ret _
            · unfold underTheClaimsCaller
              exact kp2_bind (kp2_bind kp2_stack fun _ => kp2_ret _) fun _ => kp2_ret _
          · exact kp2_ret _
    · exact kp2_un _
theorem kp2_frameOf (env : Env) : Kp2 (PySem.frameOf env) := by
  unfold PySem.frameOf
  refine kp2_bind (kp2_bind kp2_stack fun _ => kp2_ret _) fun es => kp2_bind ?_ fun r => ?_
  · unfold frameObject
    split
    · exact kp2_ret _
    · exact kp2_bind (kp2_ready _) fun _ => kp2_ret _
  · split
    · exact kp2_ret _
    · exact kp2_un _
theorem kp2_place (f : Addr) (b : Bool) : Kp2 (entryPlaceOf f b) := by
  unfold entryPlaceOf
  refine kp2_bind kp2_stack fun acts => ?_
  split
  · exact kp2_ret _
  · exact kp2_ret _
theorem kp2_asIs (ty : String) (vs : Array Value) : Kp2 (newObjAsIs (.type ty) (.fields vs)) := by
  unfold newObjAsIs
  exact kp2_bind (.alloc fun a => .pure a) fun a => kp2_ret _
theorem kp2_fields (ty : String) (vs : List Value) : Kp2 (newFields ty vs) := by
  unfold newFields newObj
  dsimp only
  split
  · exact kp2_bind (kp2_un _) fun _ => kp2_asIs _ _
  · exact kp2_asIs _ _
theorem kp2_entry (a b c d e : Value) (l : List Value) : Kp2 (EntryCells.newEntry a b c d e l) := kp2_fields _ _
theorem kp2_note (v : Value) (env : Env) : Kp2 (noteFrame v env) := by
  unfold noteFrame
  split
  · next f hf =>
    refine kp2_bind (kp2_field v 1) fun hd => ?_
    have last : ∀ u, Kp2 (do let a ← PySem.frameOf env; let pl ← entryPlaceOf f (hd != .none); let b ← EntryCells.newEntry hd a .none (rawInt f) .none pl; setField v 1 b : Sem Unit) := fun _ : Unit => kp2_bind (kp2_frameOf env) fun _ => kp2_bind (kp2_place _ _) fun _ => kp2_bind (kp2_entry _ _ _ _ _ _) fun _ => kp2_setField _ _ (by decide)
    split
    · refine kp2_bind (kp2_field hd 3) fun fl => ?_
      split
      · exact kp2_ret _
      · exact kp2_bind (kp2_setField _ _ (by decide)) last
    · exact last ()
  · exact kp2_un _
theorem kp2_leaving (env : Env) (v : Value) : Kp2 (leaving env v) := by
  unfold leaving
  exact kp2_bind (kp2_note v env) fun _ => kp2_flight v none
end L2

namespace L2
open PySem PySem.Spec PyProof.Rows
theorem ObjOk.there {P : Program} {w : World} {H : Hp} {h : Heap} {a : Addr} {o : HO} (x : ObjOk P w H h a o) : ∃ ob, h.get? a = some ob := by
  cases o with
  | lst xs => obtain ⟨_, _, _, _, e⟩ := x; exact ⟨_, e⟩
  | tup xs => obtain ⟨_, _, _, p⟩ := x; obtain ⟨o, e, _⟩ := p; exact ⟨_, e⟩
  | dK kvs => obtain ⟨_, _, _, _, o, _, _, e, _⟩ := x; exact ⟨_, e⟩
  | dT kvs => obtain ⟨_, _, _, _, o, _, _, e, _⟩ := x; exact ⟨_, e⟩
  | set S n => obtain ⟨o, _, _, _, e, _⟩ := x; exact ⟨_, e⟩
  | ins C dx fs => obtain ⟨_, _, _, e, _⟩ := x; exact ⟨_, e⟩
  | own y => obtain ⟨_, e⟩ := x; exact ⟨_, e⟩
  | xd fs => obtain ⟨_, ⟨_, _, _, e, _⟩, _⟩ := x; exact ⟨_, e⟩
  | rng lo hi => obtain ⟨_, _, _, e⟩ := x; exact ⟨_, e⟩
  | frz ob u => obtain ⟨e, _⟩ := x; exact ⟨_, e⟩
  | tbl ps => exact ⟨_, (show h.get? a = some _ from x)⟩
  | met f y => exact ⟨_, (show h.get? a = some _ from x)⟩
  | ext φ => obtain ⟨_, ⟨_, e⟩, _⟩ := x; exact ⟨_, e⟩
structure Fly (P : Program) (w : World) (outer : List Env) (H : Hp) (s : Shared) (C : Addr) (H' : Hp) (a : Addr) (s' : Shared) : Prop where
  os : s'.os = s.os
  bare : AllBare s'.gens
  body : ∃ B a0, Heap.FlyingW B outer a (.ref C) a0 s'.heap ∧ HOk P w H' B ∧
    (∀ b o, s.heap.get? b = some o → H b = none → b ∉ frs outer → B.get? b = some o) ∧ (∀ b o, s.heap.get? b = some o → b ∉ frs outer → ∃ o', B.get? b = some o')
  slot : ∀ b o, s.heap.get? b = some o → H b = none → b ∈ frs outer → ∃ sl, s'.heap.get? b = some { o with slots := sl }
  free : ∀ b o, s.heap.get? b = some o → H b = none → H' b = none
  tups : ∀ b xs, H b = some (.tup xs) → H' b = some (.tup xs)
  frzs : ∀ b o u, H b = some (.frz o u) → H' b = some (.frz o u)
  tbls : ∀ b ps, H b = some (.tbl ps) → ∃ more, H' b = some (.tbl (ps ++ more))
inductive CX1 (P : Program) (w : World) (outer : List Env) (H : Hp) (s : Shared) (E : XK) (e : Value) (s' : Shared) : Prop
  | mk : ∀ a C H' (y : Option Addr), (e = .ref a) → (Fly P w outer H s C H' a s') → (y = none → Ctx0 s'.heap a) → (E (.ref C) y H') → CX1 P w outer H s E e s'
structure Own (X : Cx) : Prop where
  stk : X.stack = X.env :: X.outer
  fr : X.env.frame = some X.env.locals
  ex : X.ex = []
section
variable {X : Cx} {pins : List (Addr × Obj)} {σ : St} {H : Hp} {s : Shared}
theorem Own.noex (O : Own X) (b : Addr) : b ∉ X.ex := by rw [O.ex]; simp
theorem Own.frs (O : Own X) : frs X.stack = X.env.locals :: frs X.outer := by rw [O.stk]; unfold L2.frs; rw [List.filterMap_cons, O.fr]
theorem Own.notStk (O : Own X) (I : Inv X pins σ H s) {b : Addr} {o : Obj} (e : X.s₀.heap.get? b = some o) (hb : b ∉ X.fs) : b ∉ L2.frs X.stack := by
  rw [O.frs]
  intro z
  rcases List.mem_cons.mp z with z | z
  · exact absurd (Nat.lt_of_lt_of_le (Heap.lt_size e) I.ok.above) (by rw [z]; exact Nat.lt_irrefl _)
  · exact hb z
theorem throw_ok {e C : Addr} {h1 : Heap} {vs : List Value} {tk : Nat} {Q : Unit → Shared → Prop} {E' : Value → Shared → Prop} (O : Own X) (I : Inv X pins σ H s) (hx : Heap.MadeExcOf s.heap h1 e (.ref C) vs)
    (hQ : ∀ s', Fly X.prog X.w X.outer X.H₀ X.s₀ C H e s' → Q () s') : wpAny (model X.prog X.w) X.A (leaving X.env (.ref e)) Q E' { s with heap := h1, toks := tk } := by
  have hin : ∀ env ∈ X.stack, ∀ b, env.frame = some b → b ∈ frs X.stack := fun env he b hb => List.mem_filterMap.mpr ⟨env, he, hb⟩
  have hst := PySem.W.funFrames_hide I.stack hin
  have hfr : X.A.frames = some (X.env :: X.outer) := by rw [I.ok.frames, O.stk]
  rw [O.stk] at hst
  refine wpAny_leaves_madeW (s := { s with heap := h1, toks := tk }) (base := PySem.W.hideAll s.heap (frs X.stack)) (h := s.heap) hfr O.fr (fun b o q => PySem.W.of_hideAll _ q) (by rw [O.stk]; exact hst) hx fun h' t x1 x2 x3 x4 => ?_
  refine hQ _ ⟨I.os, I.bare, ⟨_, _, x1, fun a o ha => ?_, fun b o q n hb => ?_, fun b o q hb => ?_⟩, fun b o q n hb => ?_, fun b o q n => I.base.free b o q n (O.noex b), I.base.tups, I.base.frzs, I.base.tbls⟩
  · refine (I.hok a o ha).stay (fun b u hb q => PySem.W.hideAll_get _ q fun z => ?_) (fun _ q => q) fun _ _ q => q
    have f := I.stkFree b z
    rcases hb with rfl | hb
    · rw [ha] at f; exact L2.sn_ f
    · rw [hb] at f; exact L2.sn_ f
  · exact PySem.W.hideAll_get _ (I.base.keep b o q n hb (O.noex b)) (O.notStk I q hb)
  · obtain ⟨o', e'⟩ := I.base.there b o q (O.noex b)
    exact ⟨o', PySem.W.hideAll_get _ e' (O.notStk I q hb)⟩
  · obtain ⟨sl, e1⟩ := I.base.slot b o q n hb (O.noex b)
    refine L2.ob_aea (I.ok.funs.mem hb) fun _ o2 ho2 hd => ?_
    rw [q] at ho2; obtain rfl := Option.some.inj ho2
    obtain ⟨sl', e2⟩ := x4 b _ (hx.keeps b _ e1) hd
    exact ⟨sl', e2⟩
theorem fly_on {e C : Addr} {H' : Hp} {s' : Shared} {Q : Unit → Shared → Prop} {E' : Value → Shared → Prop} (O : Own X) (I : Inv X pins σ H s) (F : Fly X.prog X.w X.stack H s C H' e s')
    (hQ : ∀ s', Fly X.prog X.w X.outer X.H₀ X.s₀ C H' e s' → Q () s') : wpAny (model X.prog X.w) X.A (leaving X.env (.ref e)) Q E' s' := by
  have hfr : X.A.frames = some (X.env :: X.outer) := by rw [I.ok.frames, O.stk]
  obtain ⟨B, a0, hfl, hok, hk, ht⟩ := F.body
  have hfl' := hfl
  rw [O.stk] at hfl'
  refine wpAny_leaves_onW hfr O.fr hfl' fun h' x1 x2 => ?_
  refine hQ _ ⟨F.os.trans I.os, F.bare, ⟨B, a0, x1, hok, fun b o q n hb => ?_, fun b o q hb => ?_⟩, fun b o q n hb => ?_, fun b o q n => ?_, fun b xs q => F.tups b xs (I.base.tups b xs q), fun b o u q => F.frzs b o u (I.base.frzs b o u q), fun b ps q => ?_⟩
  · exact hk b o (I.base.keep b o q n hb (O.noex b)) (I.base.free b o q n (O.noex b)) (O.notStk I q hb)
  · obtain ⟨o', e'⟩ := I.base.there b o q (O.noex b)
    exact ht b o' e' (O.notStk I q hb)
  · obtain ⟨sl, e1⟩ := I.base.slot b o q n hb (O.noex b)
    obtain ⟨sl', e2⟩ := F.slot b _ e1 (I.base.free b o q n (O.noex b)) (by rw [O.frs]; exact List.mem_cons_of_mem _ hb)
    refine L2.ob_aea (I.ok.funs.mem hb) fun _ o2 ho2 hd => ?_
    rw [q] at ho2; obtain rfl := Option.some.inj ho2
    obtain ⟨sl2, e3⟩ := x2 b _ e2 hd
    exact ⟨sl2, e3⟩
  · obtain ⟨o', e'⟩ := I.base.there b o q (O.noex b)
    exact F.free b o' e' (I.base.free b o q n (O.noex b))
  · obtain ⟨m1, e1⟩ := I.base.tbls b ps q
    obtain ⟨m2, e2⟩ := F.tbls b _ e1
    exact ⟨m1 ++ m2, by rw [e2, Array.append_assoc]⟩
end

noncomputable def Throws (X : Cx) (E : XK) : Prop := ∀ (pins : List (Addr × Obj)) (σ : St) (H : Hp) (s : Shared) (e C : Addr) (h1 : Heap) (vs : List Value), Inv X pins σ H s → Heap.MadeExcOf s.heap h1 e (.ref C) vs → E (.ref C) none H → X.xe (.ref e) { s with heap := h1 }
section
variable {P : Program} {w : World} {K : PySem.W.Frag} {mg : Str → Option Value} {base : Heap} {N : List Str} {qual : Str} {scope : Scope} {f : Addr} {cd : Value} {A : Around} {outer : List Env} {s : Shared} {H : Hp} {E : XK}
noncomputable abbrev cx1 (P : Program) (w : World) (K : PySem.W.Frag) (mg : Str → Option Value) (base : Heap) (N : List Str) (qual : Str) (scope : Scope) (f : Addr) (cd : Value) (A : Around) (outer : List Env) (s : Shared) (H : Hp) (E : XK) : Cx :=
  cxOf (CX1 P w) P w K mg base N qual scope f cd A outer s H E
theorem own1 : Own (cx1 P w K mg base N qual scope f cd A outer s H E) := ⟨rfl, rfl, rfl⟩
theorem pass1 : Passes (CX1 P w) (cx1 P w K mg base N qual scope f cd A outer s H E) E := by
  intro pins σ H2 s2 e s' I h
  obtain ⟨a, C, H', y, rfl, F, c, hE⟩ := h
  cases y with
  | none => exact wpAny_mono (kp2_any (kp2_leaving _ _) (c rfl) (fly_on (X := cx1 P w K mg base N qual scope f cd A outer s H E) (Q := fun _ s'' => Fly P w outer H s C H' a s'') own1 I F fun s'' F' => F')) (fun _ s'' q => ⟨a, C, H', none, rfl, q.1, fun _ => q.2, hE⟩) fun _ _ q => q.1
  | some z => exact fly_on (X := cx1 P w K mg base N qual scope f cd A outer s H E) own1 I F fun s'' F' => ⟨a, C, H', some z, rfl, F', (fun h => nomatch h), hE⟩
theorem throws1 : Throws (cx1 P w K mg base N qual scope f cd A outer s H E) E := by
  intro pins σ H2 s2 e C h1 vs I hx hE
  obtain ⟨t, ht, _, _⟩ := hx.there
  exact wpAny_mono (kp2_any (kp2_leaving _ _) ⟨_, ht, rfl⟩ (throw_ok (X := cx1 P w K mg base N qual scope f cd A outer s H E) (Q := fun _ s'' => Fly P w outer H s C H2 e s'') (tk := s2.toks) own1 I hx fun s'' F' => F')) (fun _ s'' q => ⟨e, C, H2, none, rfl, q.1, fun _ => q.2, hE⟩) fun _ _ q => q.1
theorem powns1 : PassesOwn (model (cx1 P w K mg base N qual scope f cd A outer s H E).prog (cx1 P w K mg base N qual scope f cd A outer s H E).w) (cx1 P w K mg base N qual scope f cd A outer s H E).A (cx1 P w K mg base N qual scope f cd A outer s H E).env (cx1 P w K mg base N qual scope f cd A outer s H E).xe := PassesOwn.leaving
end
theorem pass10 {P : Program} {w : World} {X : Cx} : Passes (CX1 P w) X E0 := by
  rintro pins σ H s e s' I ⟨a, C, H', _, _, _, _, h⟩
  exact h.elim
theorem Fun.ok1 {P : Program} {w : World} {K : PySem.W.Frag} {mg : Str → Option Value} {base : Heap} {x qual : Str} {st : Stmt} {f : Addr} {fd : FuncData} {N ps : List Str} {k : Nat} {sp : Sp} (F : Fun K x qual st f fd) (S : FnScope N ps (defScope st))
    (len : ∀ vs H Q E, sp vs H Q E → vs.length = ps.length)
    (hbody : ∀ (cdv : Value) (A : Around) (outer : List Env) (s : Shared) (H : Hp) (vs : List V) (Q : VK) (E : XK), Room k (A.deeper (envOfC qual (defScope st) s.heap.objs.size f cdv)) → sp vs H Q E →
      ∃ t, PSs (cx1 P w K mg base N qual (defScope st) f cdv A outer s H E) (defBody st) t ∧ t { nx := fun _ H' => Q .non H', rt := Q } (start N vs) H) : FnOk P w K mg base (CX1 P w) (k + 1) f fd ps sp := by
  refine L2.ob_eeeeeeeeeaa F.ex fun oc od kV doc pm an cdv ct osl e_9 lk hcd => ?_; subst e_9
  exact fn_of lk hcd S len fun A outer s H vs Q E hr hsp => hbody cdv A outer s H vs Q E hr hsp
noncomputable def bmV : List Value := [.type "ValueError", .type "Exception", .type "BaseException", .type "object"]
inductive ExK (K : PySem.W.Frag) (C : Addr) : Prop
  | mk : ∀ {bm N nm q bs hdct sn sub ab col dd k0 k1 k2 k3 k5}, K.lookup C = some (excClassObj nm q C N bs bm hdct sn sub ab col dd k0 k1 k2 k3 k5 "ValueError.__new__") → PySem.W.tailIn K bmV bm = true → PySem.W.nsOkIn K N = true → PySem.W.nsIn K N "__init__" = some none → ExK K C
structure ExC (K : PySem.W.Frag) (mg : Str → Option Value) (x : Str) (C : Addr) : Prop where
  mg : mg x = some (.ref C)
  ex : ExK K C
theorem own_of {K : PySem.W.Frag} {mg : Str → Option Value} {h : Heap} {x : Str} {C : Addr} (e : ExC K mg x C) (X : K.In h) : OwnCls x C bmV "ValueError.__new__" mg h := by
  obtain ⟨lk, ht, hok, hni⟩ := e.ex
  exact ⟨e.mg, _, _, _, _, _, _, _, _, _, _, _, _, _, _, _, _, _, X _ _ lk, .of_isNs (PySem.W.isNs_of_in X hok), PySem.W.nsMap_none_of_in X hok hni, PySem.W.tail_of_in X ht⟩
inductive tRaise_b (C : Addr) (E : XK) (vs : List V) (H1 : Hp) : Prop
  | mk : (vs.length ≤ sizeLine) → (E (.ref C) none H1) → tRaise_b C E vs H1
noncomputable def tRaise (C : Addr) (E : XK) (t : TA) : TS := fun _e0 σ H => t σ H fun vs H1 => tRaise_b C E vs H1
theorem ps_raise {X : Cx} {E : XK} {x : Str} {C : Addr} {np cpos pos : Pos} {e : Expr} {es : List Expr} {t : TA} (hc : X.calm = true) (ht : Throws X E) (hC : ExC X.K X.mg x C) (hg : Gl X x) (ha : PA X (e :: es) t)
    (he : starEach (e :: es) X.env = (false, eval e X.env) :: starEach es X.env := by rfl) (hplain : (backTo cpos (starEach es X.env)).any (·.1) = false := by rfl) (hd : (x == ("__debug__" : Str)) = false := by decide) :
    PS X (.Raise (some (.Call (.Name x np) (e :: es) [] cpos)) none pos) (tRaise C E t) := by
  intro pins s σ H D I h
  refine L2.ob_eeeeeeeeeeeeeeeeeaaa ((own_of hC I.mod.kin).obj) fun tl N nm q bs hdct sn sub ab col dd k0 k1 k2 k3 k5 mN hC' hN hni T => ?_
  have FB := PySem.F.excBase_ValueError
  refine wpAny_Raise_call_subT (C := C) (nm := nm) (q := q) (N := N) (bs := bs) (bm := tl) (hdct := hdct) (sn := sn) (sub := sub) (ab := ab) (col := col) (dd := dd) (k0 := k0) (k1 := k1) (k2 := k2) (k3 := k3) (k5 := k5)
    FB (mN := mN) (T.hasType FB.hasBase) (I.ok.hd hc) (by rw [he]; show (false || (backTo cpos (starEach es X.env)).any (·.1)) = false; rw [hplain]; rfl) hni (ld_glob I hg hC.mg ⟨rfl, ?_⟩ hd)
  have hA := ha cpos pins s σ H _ I h
  rw [he] at hA ⊢
  refine Calls.evalArgs_plain (thn hA fun us s2 ⟨vs, H2, I2, r, z, hE⟩ => ?_)
  exact ⟨rfl, by rw [← r.length]; exact z, I2.bk _ _ hC', hN.keeps I2.bk, T.keeps I2.bk, fun h' e hm => ht pins σ H2 s2 e C h' us I2 hm hE⟩
noncomputable def excO (a C : Addr) : HO := .ext fun h => ∃ o vs, h.get? a = some o ∧ o.cls = .ref C ∧ o.data = .fields vs
theorem excO_ok {P : Program} {w : World} {H : Hp} {h : Heap} {a C : Addr} {o : Obj} {vs : Array Value} (e : h.get? a = some o) (hc : o.cls = .ref C) (hd : o.data = .fields vs) : ObjOk P w H h a (excO a C) :=
  ⟨⟨o, vs, e, hc, hd⟩, ⟨o, e⟩, fun h1 h2 ⟨o1, vs1, e1, c1, d1⟩ k => ⟨o1, vs1, k o1 e1, c1, d1⟩⟩
theorem flying_excO {B h : Heap} {l : List Env} {e C : Addr} {a0 : Value} (x : Heap.FlyingW B l e (.ref C) a0 h) {P : Program} {w : World} (G : Hp) : ObjOk P w G h e (excO e C) := by
  obtain ⟨oe, vs, h1, h2, h3, _⟩ := x.first
  exact excO_ok h1 h2 h3
noncomputable def catchE (K : PySem.W.Frag) (c : Value) (n i : Nat) (ts : TS) (D : Ends) : XK := fun cls _ H' => ∃ C, cls = .ref C ∧ PySem.W.exmOne K (.ref C) c = some true ∧ ∀ a, H' a = none →
  ts { nx := fun σ' H2 => D.nx (σ'.set i none) H2, rt := D.rt, bk := fun σ' H2 => D.bk (σ'.set i none) H2, ct := fun σ' H2 => D.ct (σ'.set i none) H2 } ((List.replicate n none).set i (some (.ref a))) (upd H' a (excO a C))
noncomputable def tTry (K : PySem.W.Frag) (c : Value) (n i : Nat) (tb : XK → TS) (ts : TS) : TS := fun D σ H => tb (catchE K c n i ts D) D σ H
section
variable {X : Cx} {pins : List (Addr × Obj)} {σ : St} {H H' : Hp} {s s' : Shared}
theorem Inv.recx {A' : Around} {calm' : Bool} {pn' : List (Addr × Obj)} {xe' : Value → Shared → Prop} {pins' : List (Addr × Obj)} (I : Inv X pins σ H s) (hfr : A'.frames = some X.stack) (hd : calm' = true → A'.handled = none) (hp : ∀ p ∈ pn' ++ pins', p ∈ X.pn ++ pins) :
    Inv { X with A := A', calm := calm', pn := pn', xe := xe' } pins' σ H s :=
  ⟨⟨I.ok.mod, I.ok.kind, I.ok.glob, I.ok.blt, I.ok.above, I.ok.inj, I.ok.has, I.ok.cab, hd, hfr, I.ok.stk, I.ok.exf, I.ok.bs, I.ok.bsz, I.ok.noex, I.ok.exfs, I.ok.funs, I.ok.frf⟩,
    I.os, I.bare, I.base, I.loc, I.cell, I.free, I.freeC, fun p h => I.pin p (hp p h), I.hok, I.len⟩
theorem fly_landed {e C : Addr} {B : Heap} {a0 : Value} {h2 : Heap} {tk : Nat} (I : Inv X pins σ H s) (F : Fly X.prog X.w X.stack H s C H' e s')
    (hfl : Heap.FlyingW B X.stack e (.ref C) a0 h2) (hok : HOk X.prog X.w H' B) (hk : ∀ b o, s.heap.get? b = some o → H b = none → b ∉ frs X.stack → B.get? b = some o) (ht : ∀ b o, s.heap.get? b = some o → b ∉ frs X.stack → ∃ o', B.get? b = some o')
    (hsl : s'.heap.UpToSlots h2) {ob : HO} (hob : ∀ G : Hp, ObjOk X.prog X.w G h2 e ob) : H' e = none ∧ Inv X pins σ (upd H' e ob) { s' with heap := h2, toks := tk } := by
  obtain ⟨f1, f2, f3, f4⟩ := id hfl
  have hfree : H' e = none := by
    cases q : H' e with
    | none => rfl
    | some u =>
      obtain ⟨ob, z⟩ := (hok e u q).there
      rw [f2] at z; exact L2.ns_ z
  refine L2.ob_eeaaa hfl.first fun oe vs hoe hoc hod _ => ?_
  have hfresh : s.heap.get? e = none := by
    cases q : s.heap.get? e with
    | none => rfl
    | some o =>
      by_cases hb : e ∈ frs X.stack
      · obtain ⟨sl, z⟩ := F.slot e o q (I.stkFree e hb) hb
        obtain ⟨_, o2, ho2, hd⟩ := I.stack.mem hb
        rw [q] at ho2; obtain rfl := Option.some.inj ho2
        obtain ⟨sl', z2⟩ := hsl e _ z hd
        rw [hoe] at z2; obtain rfl := Option.some.inj z2
        exact absurd hod (hd vs)
      · obtain ⟨o', z⟩ := ht e o q hb
        rw [f2] at z; exact L2.ns_ z
  have kp : ∀ b u, B.get? b = some u → h2.get? b = some u := f1
  refine ⟨hfree, I.call' (s' := { s' with heap := h2, toks := tk }) (ch := []) F.os ⟨fun b o q n hb _ => kp b o (hk b o q n hb), fun b o q n hb _ => ?_, fun b o q n _ => ?_, fun b o q _ => ?_, fun b xs q => ?_, fun b o u q => ?_, fun b ps q => ?_⟩ ?_ F.bare (fun b z => absurd z (by simp))⟩
  · obtain ⟨sl, z⟩ := F.slot b o q n hb
    refine L2.ob_aea (I.stack.mem hb) fun _ o2 ho2 hd => ?_
    rw [q] at ho2; obtain rfl := Option.some.inj ho2
    obtain ⟨sl', z2⟩ := hsl b _ z hd
    exact ⟨sl', z2⟩
  · rw [upd_ne (fun z => by rw [z, hfresh] at q; exact L2.ns_ q)]
    exact F.free b o q n
  · by_cases hb : b ∈ frs X.stack
    · obtain ⟨sl, z⟩ := F.slot b o q (I.stkFree b hb) hb
      obtain ⟨_, o2, ho2, hd⟩ := I.stack.mem hb
      rw [q] at ho2; obtain rfl := Option.some.inj ho2
      obtain ⟨sl', z2⟩ := hsl b _ z hd
      exact ⟨_, z2⟩
    · obtain ⟨o', z⟩ := ht b o q hb
      exact ⟨o', kp _ _ z⟩
  · have z := F.tups b xs q
    rw [upd_ne (ne_of_none z hfree)]; exact z
  · have z := F.frzs b o u q
    rw [upd_ne (ne_of_none z hfree)]; exact z
  · obtain ⟨m, z⟩ := F.tbls b ps q
    exact ⟨m, by rw [upd_ne (ne_of_none z hfree)]; exact z⟩
  · intro b u q
    by_cases hb : b = e
    · subst hb
      rw [upd_same] at q; obtain rfl := Option.some.inj q
      exact hob _
    · rw [upd_ne hb] at q
      exact (hok b u q).stay (fun c v _ z => kp c v z) (fun c z => by rw [upd_ne (ne_of_none z hfree)]; exact z) fun c xs z => by rw [upd_ne (ne_of_none z hfree)]; exact z
theorem name_goes {n : Str} {i : Nat} {pos : Pos} {A' : Around} {E : Value → Shared → Prop} {Q : Unit → Shared → Prop} (I : Inv X pins σ H s) (hN : X.N.Nodup) (hi : X.N[i]? = some n) (hl : X.env.scope.names.lookup n = some .local)
    (h : ∀ s', Inv X pins (σ.set i none) H s' → Q () s') : wpAny (model X.prog X.w) A' (do bindName X.env n .none; unbindBehindTheSuite X.env n pos) Q E s := by
  refine L2.ob_ea (id I.loc) fun m hn hloc => ?_
  have hcls : (X.env.scope.kind == .class || (X.env.scope.kind == .module && X.env.locals != X.env.globals)) = false := by rw [I.ok.kind]; rfl
  refine wpAny_nameGoes_keeps hl hn hcls fun h' v hn' hs => h _ ?_
  obtain ⟨oL, _, _, hoL, _⟩ := id hn
  have ext : ∀ b o, b ≠ X.env.locals → s.heap.get? b = some o → h'.get? b = some o := fun b o hb e => (hs.2 b hb).trans e
  have tracked : HOk X.prog X.w H h' := fun b ob e => (I.hok b ob e).stay (fun c w' hc q => ext c w' (by
    rintro rfl
    rcases hc with rfl | hc
    · rw [I.free] at e; exact L2.ns_ e
    · rw [I.free] at hc; exact L2.ns_ hc) q) (fun _ q => q) fun _ _ q => q
  have neL : ∀ b o, X.s₀.heap.get? b = some o → b ≠ X.env.locals := fun b o e => Nat.ne_of_lt (Nat.lt_of_lt_of_le (Heap.lt_size e) I.ok.above)
  refine ⟨I.ok, I.os, I.bare, ⟨fun b o e n hb hx => ext b o (neL b o e) (I.base.keep b o e n hb hx), fun b o e n hb hx => ?_, I.base.free, fun b o e hx => ?_, I.base.tups, I.base.frzs, I.base.tbls⟩, ⟨_, hn', fun j y v' e1 e2 e3 => ?_⟩, fun y c e => ?_, I.free, I.freeC, fun p hp => ?_, tracked, by rw [List.length_set]; exact I.len⟩
  · obtain ⟨sl, e1⟩ := I.base.slot b o e n hb hx
    exact ⟨sl, ext b _ (neL b o e) e1⟩
  · obtain ⟨o', e1⟩ := I.base.there b o e hx
    exact ⟨o', ext b _ (neL b o e) e1⟩
  · have hj : j ≠ i := by
      rintro rfl
      rw [List.getElem?_set] at e2
      simp at e2
    rw [List.getElem?_set_ne (Ne.symm hj)] at e2
    refine L2.ob_ea (hloc j y v' e1 e2 e3) fun u' r' q => ?_
    have hy : y ≠ n := fun e => hj (nodup_ix hN e1 (e ▸ hi))
    refine ⟨u', r', ?_⟩
    rcases q with ⟨k, e⟩ | ⟨k, c, e, z⟩
    · exact .inl ⟨k, by simp [hy, e]⟩
    · obtain ⟨o, ho, hd⟩ := z
      exact .inr ⟨k, c, e, o, ext c o (I.cne y c e) ho, hd⟩
  · obtain ⟨v, o, ho, hd⟩ := I.cell y c e
    exact ⟨v, o, ext c o (I.cne y c e) ho, hd⟩
  · refine L2.ob_aaaa (I.pin p hp) fun e n ne nf d => ?_
    exact ⟨ext p.1 p.2 ne e, n, ne, nf, d⟩
theorem ps_try {n : Str} {i : Nat} {x : Str} {c : Value} {body : List Stmt} {b₀ : Stmt} {suite : List Stmt} {np hpos pos : Pos} {tb : XK → TS} {ts : TS} (O : Own X) (hc : X.calm = true)
    (hb : ∀ (xe' : Value → Shared → Prop) (pn' : List (Addr × Obj)) (E : XK), Passes (CX1 X.prog X.w) { X with xe := xe', pn := pn' } E → PSs { X with xe := xe', pn := pn' } body (tb E))
    (hs : ∀ (A' : Around), PSs { X with A := A', calm := false, xe := fun _ _ => False } (b₀ :: suite) ts)
    (hN : X.N.Nodup) (hi : X.N[i]? = some n) (hl : X.env.scope.names.lookup n = some .local) (hg : Gl X x) (hm : X.mg x = some c) (hd : (x == ("__debug__" : Str)) = false := by decide) :
    PS X (.Try body [.ExceptHandler (some (.Name x np)) (some n) (b₀ :: suite) hpos] [] [] pos) (tTry X.K c X.N.length i tb ts) := by
  intro pins s σ H D I h
  refine wpAny_Try_except ?_
  let xe' : Value → Shared → Prop := fun e s₁ => wpAny (model X.prog X.w) X.A (noteFrame e X.env) (fun _ s₂ => wpAny (model X.prog X.w) X.A (setFlight e none) (fun _ s₃ => wpAny (model X.prog X.w) X.A (handleBy e X.env [.ExceptHandler (some (.Name x np)) (some n) (b₀ :: suite) hpos]) (SP X pins D) X.xe s₃) X.xe s₂) X.xe s₁
  have hp : Passes (CX1 X.prog X.w) { X with xe := xe', pn := X.pn ++ pins } (catchE X.K c X.N.length i ts D) := by
    intro pins2 σ2 H2 s2 e s' I2 hcx
    obtain ⟨a, C, H', y, rfl, F, _, C', hC', hex, hts⟩ := hcx
    cases hC'
    have I2' : Inv X pins σ2 H2 s2 := I2.recx (X := { X with xe := xe', pn := X.pn ++ pins }) (A' := X.A) (calm' := X.calm) (pn' := X.pn) (xe' := X.xe) (pins' := pins) I.ok.frames I.ok.hd (fun p z => List.mem_append_left _ z)
    have F' : Fly X.prog X.w X.stack H2 s2 C H' a s' := F
    refine L2.ob_eeaaa F'.body fun B a0 hfl hok hk ht => ?_
    have hfr : X.A.frames = some (X.env :: X.outer) := by rw [I.ok.frames, O.stk]
    have hfl' := hfl
    rw [O.stk] at hfl'
    show wpAny _ _ _ _ _ _
    refine wpAny_looks_onW hfr O.fr hfl' fun h4 held4 sm4 => ?_
    refine wpAny_landsW held4 fun h5 fl5 sm5 => ?_
    have fl5' : Heap.FlyingW B X.stack a (.ref C) a0 h5 := by rw [O.stk]; exact fl5
    obtain ⟨hfree, I5⟩ := fly_landed (tk := s'.toks) I2' F' fl5' hok hk ht (sm4.trans sm5) (ob := excO a C) fun G => flying_excO fl5' G
    have LT : PySem.W.Looks (model X.prog X.w) h5 (typeOf (.ref a)) (.ref C) := by
      obtain ⟨ob, hob, hc⟩ := fl5.there
      exact hc ▸ (PySem.W.Looks.ld hob).andThen .now
    have I5m : Inv { X with A := X.A.mark (some (.ref a)), calm := false, xe := fun _ _ => False } pins (List.replicate X.N.length none) (upd H' a (excO a C)) { s' with heap := h5 } :=
      (I5.recx (A' := X.A.mark (some (.ref a))) (calm' := false) (pn' := X.pn) (xe' := fun _ _ => False) (pins' := pins) (by show (X.A.mark _).frames = _; exact I.ok.frames) (fun z => nomatch z) (fun p z => z)).weak
        (by rw [List.length_replicate]; exact I5.len.symm) (fun j v z => by
          rw [List.getElem?_replicate] at z
          split at z <;> cases z)
    refine wpAny_handleBy_cons (codeAny_handlers_test (ld_glob (X := { X with A := X.A.mark (some (.ref a)), calm := false, xe := fun _ _ => False }) I5m hg hm ?_ hd)) (by intro q; cases q)
    refine (PySem.W.exm_one I5.kIn LT hex).here ?_
    show codeAny _ _ (.handlers (.ref a) [.ExceptHandler none (some n) (b₀ :: suite) hpos] X.env) _ _
    refine codeAny_handlers_suite_as ?_
    refine lands_againW fl5 fun h6 fl6 sm6 => ?_
    have fl6' : Heap.FlyingW B X.stack a (.ref C) a0 h6 := by rw [O.stk]; exact fl6
    obtain ⟨_, I6⟩ := fly_landed (tk := s'.toks) I2' F' fl6' hok hk ht ((sm4.trans sm5).trans sm6) (ob := excO a C) fun G => flying_excO fl6' G
    have I6m : Inv { X with A := X.A.mark (some (.ref a)), calm := false, xe := fun _ _ => False } pins (List.replicate X.N.length none) (upd H' a (excO a C)) { s' with heap := h6 } :=
      (I6.recx (A' := X.A.mark (some (.ref a))) (calm' := false) (pn' := X.pn) (xe' := fun _ _ => False) (pins' := pins) (by show (X.A.mark _).frames = _; exact I.ok.frames) (fun z => nomatch z) (fun p z => z)).weak
        (by rw [List.length_replicate]; exact I6.len.symm) (fun j v z => by
          rw [List.getElem?_replicate] at z
          split at z <;> cases z)
    refine store_ok (X := { X with A := X.A.mark (some (.ref a)), calm := false, xe := fun _ _ => False }) (v := .ref a) I6m hN hi (Or.inl hl) rfl (fun s7 I7 => ?_) (.inr hl)
    refine wpAny_mono (hs (X.A.mark (some (.ref a))) pins s7 _ _ _ I7 (hts a hfree)) (fun f s8 q8 => ?_) fun _ _ z => False.elim z
    have back : ∀ {σ8 : St} {H8 : Hp}, Inv { X with A := X.A.mark (some (.ref a)), calm := false, xe := fun _ _ => False } pins σ8 H8 s8 → Inv X pins σ8 H8 s8 := fun {σ8 H8} J =>
      J.recx (X := { X with A := X.A.mark (some (.ref a)), calm := false, xe := fun _ _ => False }) (A' := X.A) (calm' := X.calm) (pn' := X.pn) (xe' := X.xe) (pins' := pins) I.ok.frames I.ok.hd (fun p z => z)
    cases f with
    | next => obtain ⟨σ8, H8, I8, q⟩ := q8; exact name_goes (back I8) hN hi hl fun s9 I9 => ⟨_, H8, I9, q⟩
    | brk => obtain ⟨σ8, H8, I8, q⟩ := q8; exact name_goes (back I8) hN hi hl fun s9 I9 => ⟨_, H8, I9, q⟩
    | cont => obtain ⟨σ8, H8, I8, q⟩ := q8; exact name_goes (back I8) hN hi hl fun s9 I9 => ⟨_, H8, I9, q⟩
    | ret u => obtain ⟨v8, σ8, H8, I8, r8, q⟩ := q8; exact name_goes (back I8) hN hi hl fun s9 I9 => ⟨v8, _, H8, I9, r8, q⟩
  have I0 : Inv { X with xe := xe', pn := X.pn ++ pins } [] σ H s := I.recx (A' := X.A) (calm' := X.calm) (pn' := X.pn ++ pins) (xe' := xe') (pins' := []) I.ok.frames I.ok.hd (fun p z => by simpa using z)
  refine wpAny_mono (hb xe' (X.pn ++ pins) _ hp [] s σ H D I0 h) (fun f s1 q1 => ?_) fun e s1 z => z
  have back : ∀ {σ8 : St} {H8 : Hp}, Inv { X with xe := xe', pn := X.pn ++ pins } [] σ8 H8 s1 → Inv X pins σ8 H8 s1 := fun {σ8 H8} J =>
    J.recx (X := { X with xe := xe', pn := X.pn ++ pins }) (A' := X.A) (calm' := X.calm) (pn' := X.pn) (xe' := X.xe) (pins' := pins) I.ok.frames I.ok.hd (fun p z => by simpa using z)
  cases f with
  | next => obtain ⟨σ8, H8, I8, q⟩ := q1; exact wpAny_execs_nil ⟨σ8, H8, back I8, q⟩
  | brk => obtain ⟨σ8, H8, I8, q⟩ := q1; exact ⟨σ8, H8, back I8, q⟩
  | cont => obtain ⟨σ8, H8, I8, q⟩ := q1; exact ⟨σ8, H8, back I8, q⟩
  | ret u => obtain ⟨v8, σ8, H8, I8, r8, q⟩ := q1; exact ⟨v8, σ8, H8, back I8, r8, q⟩
end
end L2

namespace L2
open PySem PySem.Spec PyProof.Rows
noncomputable def clOf (cells : List (Str × Addr)) : List (Str × NameKind) → List (Str × Addr) → List (Str × Addr)
  | [], cs => cs
  | (n, k) :: r, cs => if (k == .free) = true then (match cells.lookup n with | some c => clOf cells r ((n, c) :: cs) | none => clOf cells r cs) else clOf cells r cs
theorem closure_loop {env : Env} : ∀ (names : List (Str × NameKind)) (cs : List (Str × Addr)), (∀ y ∈ names, y.2 = .free → ∃ c, env.cells.lookup y.1 = some c) →
    (forIn names cs fun (x : Str × NameKind) (r : List (Str × Addr)) => (match x with
      | (name, kind) => (if (kind == NameKind.free) = true then do
          let a ← cellOf env name
          pure (ForInStep.yield ((name, a) :: r))
        else pure (ForInStep.yield r) : Sem (ForInStep (List (Str × Addr)))))) = (pure (clOf env.cells names cs) : Sem (List (Str × Addr)))
  | [], cs, _ => rfl
  | (n, k) :: r, cs, h => by
    rw [List.forIn_cons]
    have ih := fun cs => closure_loop r cs fun y hy => h y (List.mem_cons_of_mem _ hy)
    by_cases hk : (k == NameKind.free) = true
    · obtain ⟨c, hc⟩ := h (n, k) List.mem_cons_self (by simpa using hk)
      have e : cellOf env n = pure c := by unfold cellOf; rw [hc]
      simp only [hk, if_true, e]
      show _ = pure (clOf env.cells ((n, k) :: r) cs)
      rw [clOf, if_pos hk, hc]
      exact ih _
    · simp only [hk]
      show _ = pure (clOf env.cells ((n, k) :: r) cs)
      rw [clOf, if_neg hk]
      exact ih _
theorem closure_of {scope : Scope} {env : Env} (h : ∀ y ∈ scope.names, y.2 = .free → ∃ c, env.cells.lookup y.1 = some c) : closureFor scope env = pure (clOf env.cells scope.names []) := by
  have e := closure_loop (env := env) scope.names [] h
  unfold closureFor
  first
    | (simp only [bind_pure_comp] at e ⊢; rw [e]; rfl)
    | (rw [e]; rfl)
    | exact e
theorem clOf_sub {cells : List (Str × Addr)} : ∀ {names : List (Str × NameKind)} {cs : List (Str × Addr)}, (∀ y c, cs.lookup y = some c → cells.lookup y = some c) → ∀ y c, (clOf cells names cs).lookup y = some c → cells.lookup y = some c
  | [], _, h, y, c, e => h y c e
  | (n, k) :: r, cs, h, y, c, e => by
    rw [clOf] at e
    split at e
    · cases q : cells.lookup n with
      | none => rw [q] at e; exact clOf_sub h y c e
      | some a =>
        rw [q] at e
        refine clOf_sub (fun z d hz => ?_) y c e
        rw [List.lookup_cons] at hz
        by_cases b : (z == n) = true
        · rw [b] at hz
          have : z = n := by simpa using b
          obtain rfl := Option.some.inj hz
          rw [this]; exact q
        · have b' : (z == n) = false := by simpa using b
          rw [b'] at hz
          exact h z d hz
    · exact clOf_sub h y c e
theorem clOf_more {cells : List (Str × Addr)} : ∀ {names : List (Str × NameKind)} {cs : List (Str × Addr)} {y : Str}, (∃ c, cs.lookup y = some c) → ∃ c, (clOf cells names cs).lookup y = some c
  | [], _, _, h => h
  | (n, k) :: r, cs, y, h => by
    rw [clOf]
    split
    · cases q : cells.lookup n with
      | none => exact clOf_more h
      | some a =>
        refine clOf_more ?_
        rw [List.lookup_cons]
        cases (y == n) with
        | true => exact ⟨a, rfl⟩
        | false => exact h
    · exact clOf_more h
theorem clOf_has {cells : List (Str × Addr)} : ∀ {names : List (Str × NameKind)} {cs : List (Str × Addr)} {y : Str}, (y, NameKind.free) ∈ names → (∃ c, cells.lookup y = some c) → ∃ c, (clOf cells names cs).lookup y = some c
  | [], _, _, h, _ => nomatch h
  | (n, k) :: r, cs, y, h, hc => by
    rw [clOf]
    rcases List.mem_cons.mp h with e | h
    · cases e
      rw [if_pos (by decide)]
      obtain ⟨c, hc⟩ := hc
      rw [hc]
      refine clOf_more ⟨c, ?_⟩
      rw [List.lookup_cons]
      simp
    · split
      · cases q : cells.lookup n with
        | none => exact clOf_has h hc
        | some a => exact clOf_has h hc
      · exact clOf_has h hc
noncomputable def compN (x : Str) (N : List Str) (js : List Nat) : List Str := x :: js.map fun j => N.getD j Str.empty
noncomputable def compSt (v : Option V) (σ : St) (js : List Nat) : St := v :: js.map fun j => (σ[j]?).getD none
noncomputable def compOk (scope : Scope) (env : Env) (x : Str) (N : List Str) (js : List Nat) : Bool :=
  (scope.kind == .function) && (scope.names.lookup x == some .local) &&
  scope.names.all (fun y => y.2 != .cell && (y.2 != .local || scope.names.lookup y.1 == some .local) && (y.2 != .free || env.kindOf y.1 == some .cell || env.kindOf y.1 == some .free)) &&
  js.all (fun j => decide (j < N.length) && scope.names.lookup (N.getD j Str.empty) == some .free)
noncomputable def compCx (X : Cx) (scope : Scope) (x : Str) (js : List Nat) (C : Addr) (s₁ : Shared) (H₁ : Hp) (fp : List Addr) : Cx :=
  { X with N := compN x X.N js, s₀ := s₁, H₀ := H₁, env := compEnvC scope (clOf X.env.cells scope.names []) C X.env, outer := X.stack, stack := X.stack, ex := fp, fn := fun _ => false, pn := [], xe := fun _ _ => False }
theorem mem_of_lookup' {names : List (Str × NameKind)} {y : Str} {k : NameKind} (h : names.lookup y = some k) : (y, k) ∈ names := PySem.mem_of_lookup h
theorem relabel_kind {scope : Scope} {env : Env} {y : Str} {k : NameKind} (h : (relabel scope env).names.lookup y = some k) : ∃ k0, (y, k0) ∈ scope.names ∧ (k = k0 ∨ (k = .cell ∧ k0 = .free)) := by
  have m := mem_of_lookup' h
  unfold relabel at m
  refine L2.ob_ea (List.mem_map.mp m) fun q_0 hm e => ?_; obtain ⟨n, k0⟩ := q_0
  dsimp only at e
  split at e
  · rename_i hc
    cases e
    simp only [Bool.and_eq_true, beq_iff_eq] at hc
    exact ⟨k0, hm, .inr ⟨rfl, hc.1.1⟩⟩
  · cases e
    exact ⟨k, hm, .inl rfl⟩
theorem lookup_relabel_free {env : Env} : ∀ {names : List (Str × NameKind)} {x : Str}, names.lookup x = some .free →
    (names.map fun (n, k) => if (k == NameKind.free && env.scope.kind == .function && env.kindOf n == some .cell) then (n, NameKind.cell) else (n, k)).lookup x = some .cell ∨
    (names.map fun (n, k) => if (k == NameKind.free && env.scope.kind == .function && env.kindOf n == some .cell) then (n, NameKind.cell) else (n, k)).lookup x = some .free
  | [], _, h => by simp at h
  | (n, k) :: r, x, h => by
    have ih := @lookup_relabel_free env r x
    show List.lookup x ((if (k == NameKind.free && env.scope.kind == .function && env.kindOf n == some .cell) = true then (n, NameKind.cell) else (n, k)) :: _) = _ ∨ List.lookup x ((if (k == NameKind.free && env.scope.kind == .function && env.kindOf n == some .cell) = true then (n, NameKind.cell) else (n, k)) :: _) = _
    cases hx : x == n with
    | true =>
      simp only [List.lookup_cons, hx] at h
      obtain rfl := Option.some.inj h
      by_cases hc : (NameKind.free == NameKind.free && env.scope.kind == .function && env.kindOf n == some .cell) = true
      · rw [if_pos hc]; left; simp [List.lookup_cons, hx]
      · rw [if_neg hc]; right; simp [List.lookup_cons, hx]
    | false =>
      simp only [List.lookup_cons, hx] at h
      by_cases hc : (k == NameKind.free && env.scope.kind == .function && env.kindOf n == some .cell) = true
      · rw [if_pos hc]; simp only [List.lookup_cons, hx]; exact ih h
      · rw [if_neg hc]; simp only [List.lookup_cons, hx]; exact ih h
structure CompOk (scope : Scope) (env : Env) (x : Str) (N : List Str) (js : List Nat) : Prop where
  kind : scope.kind = .function
  x : scope.names.lookup x = some .local
  nocell : ∀ y ∈ scope.names, y.2 ≠ .cell
  loc : ∀ y ∈ scope.names, y.2 = .local → scope.names.lookup y.1 = some .local
  fr : ∀ y ∈ scope.names, y.2 = .free → env.kindOf y.1 = some .cell ∨ env.kindOf y.1 = some .free
  js : ∀ j ∈ js, j < N.length ∧ scope.names.lookup (N.getD j Str.empty) = some .free
theorem compOk_of {scope : Scope} {env : Env} {x : Str} {N : List Str} {js : List Nat} (h : compOk scope env x N js = true) : CompOk scope env x N js := by
  unfold compOk at h
  simp only [Bool.and_eq_true, List.all_eq_true, beq_iff_eq, Bool.or_eq_true, bne_iff_ne, decide_eq_true_eq] at h
  obtain ⟨⟨⟨h1, h2⟩, h3⟩, h4⟩ := h
  refine ⟨h1, h2, fun y hy => (h3 y hy).1.1, fun y hy e => ?_, fun y hy e => ?_, h4⟩
  · rcases (h3 y hy).1.2 with z | z
    · exact absurd e z
    · exact z
  · rcases (h3 y hy).2 with (z | z) | z
    · exact absurd e z
    · exact .inl z
    · exact .inr z
section
variable {X : Cx} {pins : List (Addr × Obj)} {σ : St} {H H₁ : Hp} {s s₁ : Shared} {scope : Scope} {x : Str} {js : List Nat} {C : Addr} {fp : List Addr}
theorem comp_cells (O : CompOk scope X.env x X.N js) (I : Inv X pins σ H s) : ∀ y ∈ scope.names, y.2 = .free → ∃ c, X.env.cells.lookup y.1 = some c := fun y hy e => I.ok.has y.1 (O.fr y hy e)
theorem cl_sub : ∀ y c, (clOf X.env.cells scope.names []).lookup y = some c → X.env.cells.lookup y = some c := clOf_sub fun y c e => by simp at e
theorem comp_ok (O : CompOk scope X.env x X.N js) (I : Inv X pins σ H₁ s₁) (hc : X.calm = true) (hC : s₁.heap.objs.size ≤ C) (hf : ∀ b ∈ fp, FpOk X pins H₁ b) (hfx : ∀ b ∈ fp, X.base.get? b = none) (hlt : ∀ b ∈ fp, b < s₁.heap.objs.size) : (compCx X scope x js C s₁ H₁ fp).Ok := by
  refine ⟨I.ok.mod, O.kind, I.ok.glob, I.ok.blt, hC, fun y z c h1 h2 => I.ok.inj y z c (cl_sub y c h1) (cl_sub z c h2), fun y hy => ?_, (fun y c h => nomatch h), I.ok.hd, I.ok.frames, .inl rfl, fun b hb => ⟨?_, fun y c e => ?_⟩, I.bs, Nat.le_trans I.ok.bsz I.sz, fun b o e hb => ?_, fun b hb hs => ?_, I.stack, I.stkFree⟩
  · have hy' : (relabel scope X.env).names.lookup y = some .cell ∨ (relabel scope X.env).names.lookup y = some .free := hy
    have : ∃ k0, (y, k0) ∈ scope.names ∧ k0 = .free := by
      rcases hy' with z | z
      · obtain ⟨k0, hm, h⟩ := relabel_kind z
        rcases h with h | h
        · exact absurd h.symm (O.nocell _ hm)
        · exact ⟨k0, hm, h.2⟩
      · obtain ⟨k0, hm, h⟩ := relabel_kind z
        rcases h with h | h
        · exact ⟨k0, hm, h.symm⟩
        · cases h.1
    refine L2.ob_ea this fun k0 hm e => ?_
    subst e
    exact clOf_has hm (comp_cells O I _ hm rfl)
  · exact Nat.ne_of_lt (Nat.lt_of_lt_of_le (hlt b hb) hC)
  · exact (hf b hb).2.2.2.2.1 y c (cl_sub y c e)
  · have e' : X.base.get? b = some o := e
    rw [hfx b hb] at e'; exact L2.ns_ e'
  · have hs' : b ∈ frs X.stack := hs
    rcases List.mem_cons.mp (I.stkSub b hs') with z | z
    · exact (hf b hb).2.1 z
    · exact (hf b hb).2.2.1 z
theorem fp_base (I : Inv X pins σ H s) {b : Addr} (f : FpOk X pins H b) : X.base.get? b = none := by
  rcases f.2.2.2.1 with z | z
  · cases q : X.base.get? b with
    | none => rfl
    | some o => exact absurd z (I.ok.noex b o q)
  · exact Heap.get?_none_of_le (Nat.le_trans I.ok.bsz z)
theorem comp_inv {s₃ : Shared} {m : Str → Option Value} (O : CompOk scope X.env x X.N js) (I : Inv X pins σ H₁ s₁) (hc : X.calm = true) (hC : s₁.heap.objs.size ≤ C) (hf : ∀ b ∈ fp, FpOk X pins H₁ b) (hlt : ∀ b ∈ fp, b < s₁.heap.objs.size)
    (hos : s₃.os = s₁.os) (hg : AllBare s₃.gens) (hk : ∀ b o, s₁.heap.get? b = some o → s₃.heap.get? b = some o) (hn : s₃.heap.Ns C m) : Inv (compCx X scope x js C s₁ H₁ fp) [] (compSt none σ js) H₁ s₃ := by
  refine ⟨comp_ok O I hc hC hf (fun b hb => fp_base I (hf b hb)) hlt, hos, hg, Un.kept hk, ⟨m, hn, fun i y v e1 e2 e3 => ?_⟩, fun y c e => ?_, I.hok.fresh hC, fun y c e => I.freeC y c (cl_sub y c e), fun p hp => ?_, I.hok.kept hk, ?_⟩
  · cases i with
    | zero =>
      have e2' : (some (none : Option V)) = some (some v) := e2
      cases e2'
    | succ k =>
      have e1' : (js.map fun j => X.N.getD j Str.empty)[k]? = some y := e1
      have e2' : (js.map fun j => (σ[j]?).getD none)[k]? = some (some v) := e2
      rw [List.getElem?_map] at e1' e2'
      cases q : js[k]? with
      | none => rw [q] at e1'; cases e1'
      | some j =>
        rw [q] at e1' e2'
        have ey : X.N.getD j Str.empty = y := Option.some.inj e1'
        have ev : (σ[j]?).getD none = some v := Option.some.inj e2'
        obtain ⟨hj, hfree⟩ := O.js j (List.mem_of_getElem? q)
        rw [ey] at hfree
        have hNj : X.N[j]? = some y := by
          rw [List.getD_eq_getElem?_getD, List.getElem?_eq_getElem hj] at ey
          rw [List.getElem?_eq_getElem hj]
          exact congrArg some ey
        have hσ : σ[j]? = some (some v) := by
          cases z : σ[j]? with
          | none => rw [z] at ev; cases ev
          | some o => rw [z] at ev; exact congrArg some ev
        have hkind := O.fr (y, .free) (mem_of_lookup' hfree) rfl
        refine L2.ob_ea I.loc fun mX hnX hl => ?_
        obtain ⟨u, r, l⟩ := hl j y v hNj hσ (by
          rcases hkind with z | z
          · exact .inr (.inl z)
          · exact .inr (.inr z))
        refine ⟨u, r, ?_⟩
        rcases l with ⟨z, _⟩ | ⟨_, c, hcell, hv⟩
        · rcases hkind with z2 | z2
          · rw [z] at z2; cases z2
          · rw [z] at z2; cases z2
        · obtain ⟨c', hc'⟩ := clOf_has (cells := X.env.cells) (cs := []) (mem_of_lookup' hfree) ⟨c, hcell⟩
          have : c' = c := by
            have z := cl_sub y c' hc'
            rw [hcell] at z; obtain rfl := Option.some.inj z; rfl
          subst this
          obtain ⟨o, ho, hd⟩ := hv
          exact .inr ⟨lookup_relabel_free hfree, c', hc', o, hk _ _ ho, hd⟩
  · obtain ⟨v, o, ho, hd⟩ := I.cell y c (cl_sub y c e)
    exact ⟨v, o, hk _ _ ho, hd⟩
  · exact absurd (show p ∈ ([] : List (Addr × Obj)) from hp) (by simp)
  · show (compSt none σ js).length = (compN x X.N js).length
    unfold compSt compN
    simp
end

theorem compLoop_any {prog : Program} {w : World} {A : Around} {R : Result → Shared → Prop} {s : Shared} {elt target iter : Expr} {ifs : List Expr} {scope : Scope} {pos : Pos} {it acc : Value} {env : Env} (I : Nat → Shared → Prop)
    (turn : ∀ n s, I n s → wpAny (model prog w) A (pyNext it) (fun r s₁ => match r with
      | none => R (.ok .next) s₁
      | some v => wpAny (model prog w) A (letOwnedTupleGo target it v) (fun _ s₁ => wpAny (model prog w) A (assign target env v) (fun _ s₂ =>
          wpAny (model prog w) A (forIn ifs true fun c r => if r = true then do let ok ← isTrue c env (eval c env); pure (ForInStep.yield ok) else pure (ForInStep.yield r)) (fun ok s₃ =>
            if ok = true then wpAny (model prog w) A (eval elt env) (fun x s₄ =>
              wpAny (model prog w) A (call (.builtin "list.append") [acc, x]) (fun _ s₅ => ∃ m, m < n ∧ I m s₅) (fun _ _ => False) s₄) (fun _ _ => False) s₃
            else ∃ m, m < n ∧ I m s₃) (fun _ _ => False) s₂) (fun _ _ => False) s₁) (fun _ _ => False) s₁) (fun _ _ => False) s)
    (n : Nat) (h : I n s) : codeAny (model prog w) A (.compLoop (.ListComp elt [⟨target, iter, ifs, 0⟩] scope pos) 0 it acc env) R s := by
  refine codeAny_loop rfl I (fun n s hI => ?_) n h
  show wpAny _ A ((compTurn (.ListComp elt [⟨target, iter, ifs, 0⟩] scope pos) 0 it acc env).onRaise (fun x => do noteFrame x env; theTreesLotGoes x)) _ _ s
  refine wpAny_noted ?_
  rw [compTurn_list]
  refine wpAny_bind (wpAny_standAt (wpAny_bind (wpAny_mono (turn n s hI) (fun r s₁ h₁ => ?_) fun _ _ h' => False.elim h')))
  cases r with
  | none => exact wpAny_pure h₁
  | some v =>
    refine wpAny_bind (wpAny_mono h₁ (fun _ s₁ h₁ => ?_) fun _ _ h' => False.elim h')
    refine wpAny_bind (wpAny_mono h₁ (fun _ s₂ h₂ => wpAny_bind (wpAny_mono h₂ (fun ok s₃ h₃ => ?_) fun _ _ h' => False.elim h')) fun _ _ h' => False.elim h')
    cases ok with
    | false => exact wpAny_pure ⟨rfl, h₃⟩
    | true =>
      exact wpAny_bind (wpAny_bind (wpAny_mono h₃ (fun x s₄ h₄ => wpAny_bind (wpAny_mono h₄ (fun _ s₅ h₅ => wpAny_pure (wpAny_pure ⟨rfl, h₅⟩)) fun _ _ h' => False.elim h')) fun _ _ h' => False.elim h'))
noncomputable def tests : Option TT → TT
  | none => fun _ H Q => Q true H
  | some t => t
noncomputable def PTests (Y : Cx) : List Expr → Option TT → Prop
  | [], none => True
  | [c], some t => PT Y c t
  | _, _ => False
theorem tests_ok {Y : Cx} {ifs : List Expr} {ot : Option TT} (h : PTests Y ifs ot) (hx : Y.xe = fun _ _ => False) {pins : List (Addr × Obj)} {s : Shared} {σ : St} {H : Hp} {Q : Bool → Hp → Prop} (I : Inv Y pins σ H s) (q : tests ot σ H Q) :
    wpAny (model Y.prog Y.w) Y.A (forIn ifs true fun c r => if r = true then do let ok ← isTrue c Y.env (eval c Y.env); pure (ForInStep.yield ok) else pure (ForInStep.yield r)) (TP Y pins σ Q) (fun _ _ => False) s := by
  match ifs, ot, h with
  | [], none, _ => exact wpAny_tests_nil ⟨H, I, q⟩
  | [c], some t, h =>
    have z := h pins s σ H Q I q
    rw [hx] at z
    exact wpAny_tests_one z
noncomputable def compGo (J : It) (js : List Nat) (ot : Option TT) (te : TE) (σ : St) (H1 : Hp) (Fin : List V → Hp → Prop) : Prop :=
  ∃ W : Nat → Nat → List V → Hp → Prop, (∃ m, W 0 m [] H1) ∧ ∀ i m ys H, W i m ys H →
    (J.stop i H ∧ Fin ys H) ∨ (J.go i H ∧ ys.length < sizeLine ∧ ∀ x H', J.yld i H x H' → tests ot (compSt (some x) σ js) H' fun b H2 =>
      if b = true then te (compSt (some x) σ js) H2 fun y H3 => ∃ m', m' < m ∧ W (i + 1) m' (ys ++ [y]) H3 else ∃ m', m' < m ∧ W (i + 1) m' ys H2)
section
variable {X : Cx} {pins : List (Addr × Obj)} {σ : St} {H₁ : Hp} {s₁ : Shared} {scope : Scope} {x : Str} {js : List Nat} {elt iter : Expr} {ifs : List Expr} {ot : Option TT} {te : TE} {px pos : Pos}
inductive Iv_comp_block (X : Cx) (σ : St) (H₁ : Hp) (s₁ : Shared) (scope : Scope) (x : Str) (js : List Nat) (fp : List Addr) (tn : Nat → Heap → Prop) (D : Nat) (C : Nat) (W : Nat → Nat → List V → Hp → Prop) (n : Nat) (s' : Shared) : Prop
  | mk : ∀ i ys its nn H' v0, (Inv (compCx X scope x js C s₁ H₁ fp) [] (compSt v0 σ js) H' s') → (tn i s'.heap) → ((∀ b ∈ fp, H' b = none)) → (H' D = none) → (s'.heap.get? D = some { cls := .type "list", data := .seq (its : List Value).toArray nn }) → (Vals ys its) → (ys.length ≤ sizeLine) → (W i n ys H') → Iv_comp_block X σ H₁ s₁ scope x js fp tn D C W n s'
theorem comp_block {it : Addr} {fp : List Addr} {tn : Nat → Heap → Prop} {J : It} {Fin : List V → Hp → Prop} {RR : Value → Addr → Result → Shared → Prop} {E : Value → Shared → Prop} (hok : compOk scope X.env x X.N js = true) (hnd : (compN x X.N js).Nodup) (hc : X.calm = true)
    (he : ∀ C s₁ H₁ fp, PE (compCx X scope x js C s₁ H₁ fp) elt te) (ht : ∀ C s₁ H₁ fp, PTests (compCx X scope x js C s₁ H₁ fp) ifs ot)
    (I : Inv X pins σ H₁ s₁) (T : Turn X.prog X.w X.K (.Name x px) J fp it tn) (st : tn 0 s₁.heap) (hf : ∀ b ∈ fp, FpOk X pins H₁ b) (go : compGo J js ot te σ H₁ Fin)
    (hRR : ∀ D C ys H' s' m, H' D = none → Inv X pins σ (upd H' D (.lst ys)) s' → s'.heap.Ns C m → s₁.heap.objs.size ≤ C → upd H' D (.lst ys) C = none → Fin ys H' → RR (.ref D) C (.ok .next) s') :
    wpAny (model X.prog X.w) X.A (newList []) (fun acc s₃ => wpAny (model X.prog X.w) X.A (newFunctionEnv scope X.env.globals (clOf X.env.cells scope.names []) [] X.env.qual none .none (some X.env)) (fun cenv s₄ =>
      codeAny (model X.prog X.w) X.A (.compStart (.ListComp elt [⟨.Name x px, iter, ifs, 0⟩] scope pos) 0 (.ref it) acc { cenv with scope := relabel scope X.env }) (RR acc cenv.locals) s₄) E s₃) E s₁ := by
  have O := compOk_of hok
  have hlt : ∀ b ∈ fp, b < s₁.heap.objs.size := fun b hb => by
    obtain ⟨o, e, _⟩ := T.obj _ _ st b hb
    exact Heap.lt_size e
  refine wpAny_newObj_type (wpAny_newFunctionEnv O.nocell (by intro y hy; simp at hy) (fun h₁ hns₁ hsb₁ => ?_) O.kind)
  dsimp only at hns₁ hsb₁ ⊢
  generalize hH2 : s₁.heap.push { cls := .type "list", dict := none, data := .seq ([] : List Value).toArray } = H2 at hns₁ hsb₁ ⊢
  have hC : H2.objs.size = s₁.heap.objs.size + 1 := by rw [← hH2, Heap.size_push]
  have hDC : s₁.heap.objs.size ≠ H2.objs.size := by rw [hC]; exact Nat.ne_of_lt (Nat.lt_succ_self _)
  have hCle : s₁.heap.objs.size ≤ H2.objs.size := by rw [hC]; exact Nat.le_succ _
  have below : ∀ b, b < s₁.heap.objs.size → b ≠ H2.objs.size ∧ b ≠ s₁.heap.objs.size := fun b hb => ⟨by rw [hC]; exact Nat.ne_of_lt (Nat.lt_succ_of_lt hb), Nat.ne_of_lt hb⟩
  have old : ∀ b o, s₁.heap.get? b = some o → h₁.get? b = some o := fun b o e => hsb₁.extBut b o (below b (Heap.lt_size e)).1 (Heap.get?_push_of_some _ (hH2 ▸ Heap.get?_push_of_some _ e))
  have hacc : h₁.get? s₁.heap.objs.size = some { cls := .type "list", data := .seq ([] : List Value).toArray } := hsb₁.extBut _ _ hDC (Heap.get?_push_of_some _ (hH2 ▸ Heap.get?_push_size _ rfl))
  have st₁ : tn 0 h₁ := T.keep _ _ _ st fun b _ o e => old b o e
  generalize hD : s₁.heap.objs.size = D at *
  generalize hCC : H2.objs.size = C at *
  have hDf : D ∉ fp := fun hb => absurd (hlt D hb) (by rw [← hD]; exact Nat.lt_irrefl _)
  have dcell : ∀ y c, X.env.cells.lookup y = some c → c ≠ D := fun y c e z => by
    obtain ⟨v, q⟩ := I.cell y c e
    exact absurd q.lt (by rw [z, ← hD]; exact Nat.lt_irrefl _)
  have dfs : D ∉ frs X.stack := fun hb => by
    obtain ⟨_, o, ho, _⟩ := I.stack.mem hb
    exact absurd (Heap.lt_size ho) (by rw [← hD]; exact Nat.lt_irrefl _)
  obtain ⟨W, ⟨m0, w0⟩, turn⟩ := go
  have I3 : Inv (compCx X scope x js C s₁ H₁ fp) [] (compSt none σ js) H₁ { s₁ with heap := h₁, toks := s₁.toks + ([] : List (Str × Value)).length } :=
    comp_inv O I hc (by first | exact hCle | (rw [hD]; exact hCle)) hf (fun b hb => by first | exact hlt b hb | (rw [hD]; exact hlt b hb)) rfl I.bare old hns₁
  have stat : ∀ {H' : Hp}, (∀ b ∈ fp, H' b = none) → ∀ b ∈ fp, FpOk (compCx X scope x js C s₁ H₁ fp) [] H' b := fun {H'} hn b hb => by
    have f := hf b hb
    refine ⟨hn b hb, (below b (hlt b hb)).1, fun z => ?_, .inl hb, fun y c e => f.2.2.2.2.1 y c (cl_sub y c e), fun p hp => absurd (show p ∈ ([] : List (Addr × Obj)) from hp) (by simp)⟩
    have z' : b ∈ frs X.stack := z
    rcases List.mem_cons.mp (I.stkSub b z') with q | q
    · exact f.2.1 q
    · exact f.2.2.1 q
  have loop : ∀ s₃ : Shared, s₃ = { s₁ with heap := h₁, toks := s₁.toks + ([] : List (Str × Value)).length } →
      codeAny (model X.prog X.w) X.A (.compLoop (.ListComp elt [⟨.Name x px, iter, ifs, 0⟩] scope pos) 0 (.ref it) (.ref D) (compEnvC scope (clOf X.env.cells scope.names []) C X.env)) (RR (.ref D) C) s₃ := by
    rintro s₃ rfl
    refine compLoop_any (Iv_comp_block X σ H₁ s₁ scope x js fp tn D C W) ?_ m0
      ⟨0, [], [], 0, H₁, none, I3, st₁, fun b hb => (hf b hb).1, I.hok.fresh (by rw [hD]; exact Nat.le_refl _), hacc, .nil, Nat.zero_le _, w0⟩
    rintro n s4 ⟨i, ys, its, nn, H4, v0, I4, st4, fr4, fD4, oD4, rv4, z4, w4⟩
    have I4' : Inv (compCx X scope x js C s₁ H₁ fp) [(D, { cls := .type "list", data := .seq its.toArray nn })] (compSt v0 σ js) H4 s4 := I4.pins_of fun p hp => by
      have e : p = (D, { cls := .type "list", data := .seq its.toArray nn }) := by simpa using hp
      subst e
      exact ⟨oD4, fD4, hDC, dfs, fun v z => by cases z⟩
    have statD : ∀ {H' : Hp}, (∀ b ∈ fp, H' b = none) → ∀ b ∈ fp, FpOk (compCx X scope x js C s₁ H₁ fp) [(D, { cls := .type "list", data := .seq its.toArray nn })] H' b := fun {H'} hn b hb => by
      obtain ⟨f0, f1, f2, f3, f4, _⟩ := stat hn b hb
      refine ⟨f0, f1, f2, f3, f4, fun p hp => ?_⟩
      have hp' : p ∈ [(D, ({ cls := .type "list", data := .seq its.toArray nn } : Obj))] := hp
      have e : p = (D, { cls := .type "list", data := .seq its.toArray nn }) := by simpa using hp'
      subst e
      exact fun z => hDf (by rw [show D = b from z]; exact hb)
    rcases turn i n ys H4 w4 with ⟨stop, fin⟩ | ⟨go, hlen, step⟩
    · refine thn (T.done (compCx X scope x js C s₁ H₁ fp) rfl rfl rfl hc i _ s4 _ H4 _ I4' (statD fr4) st4 stop) fun r s5 ⟨hr, I5⟩ => ?_
      subst hr
      show RR (.ref D) C (.ok .next) s5
      have oD5 : s5.heap.get? D = some { cls := .type "list", data := .seq its.toArray nn } := (I5.pin (D, _) (List.mem_append_right _ List.mem_cons_self)).1
      obtain ⟨m5, hn5, _⟩ := I5.loc
      have nD : ∀ b o, s₁.heap.get? b = some o → b ≠ D := fun b o e => by rw [← hD]; exact Nat.ne_of_lt (Heap.lt_size e)
      have U : Un (frs X.stack) fp H₁ H4 s₁.heap s5.heap := I5.base
      have IX : Inv X pins σ (upd H4 D (.lst ys)) s5 := I.call' (s' := s5) (ch := fp) I5.os
        ⟨U.keep, U.slot, fun b o e n hb => by rw [upd_ne (nD b o e)]; exact U.free b o e n hb, U.there, fun b xs e => by
          have z := U.tups b xs e
          rw [upd_ne (ne_of_none z fD4)]; exact z, fun b o u e => by
          have z := U.frzs b o u e
          rw [upd_ne (ne_of_none z fD4)]; exact z, fun b ps e => by
          obtain ⟨mr, z⟩ := U.tbls b ps e
          exact ⟨mr, by rw [upd_ne (ne_of_none z fD4)]; exact z⟩⟩ (fun b u e => by
            by_cases hb : b = D
            · subst hb
              rw [upd_same] at e; obtain rfl := Option.some.inj e
              exact ⟨z4, its, nn, rv4, oD5⟩
            · rw [upd_ne hb] at e
              exact (I5.hok b u e).stay (fun c v _ z => z) (fun c z => by rw [upd_ne (ne_of_none z fD4)]; exact z) fun c xs z => by rw [upd_ne (ne_of_none z fD4)]; exact z) I5.bare
        (fun b hb => ⟨(hf b hb).2.2.2.1, (hf b hb).2.1, (hf b hb).2.2.2.2.1, (hf b hb).2.2.2.2.2⟩)
      exact hRR D C ys H4 s5 m5 fD4 IX hn5 (by first | exact hCle | (rw [hD]; exact hCle)) (by rw [upd_ne (Ne.symm hDC)]; exact I5.free) fin
    · refine thn (T.item (compCx X scope x js C s₁ H₁ fp) rfl rfl rfl hc i _ s4 _ H4 _ I4' (statD fr4) st4 go) fun r s5 ⟨u, hr, h5⟩ => ?_
      subst hr
      refine thn h5 fun _ s6 ⟨xv, H6, I6, r6, y6, st6, fr6⟩ => ?_
      have I6' := I6.pinned (statD fr6) (T.obj _ _ st6)
      have hxl : (compCx X scope x js C s₁ H₁ fp).env.scope.names.lookup x = some .local := lookup_relabel_local O.x
      refine wpAny_assign_Name (store_ok (X := compCx X scope x js C s₁ H₁ fp) (i := 0) (x := x) I6' hnd rfl (Or.inl hxl) r6 (fun s7 I7 => ?_) (.inr hxl))
      have I7' : Inv (compCx X scope x js C s₁ H₁ fp) ([(D, { cls := .type "list", data := .seq its.toArray nn })] ++ pinsAt fp s6.heap) (compSt (some xv) σ js) H6 s7 := I7
      refine thn (tests_ok (ht C s₁ H₁ fp) rfl I7' (step xv H6 y6)) fun ok s8 ⟨H8, I8, q8⟩ => ?_
      have keepT : ∀ {s' : Shared} {H' : Hp}, Inv (compCx X scope x js C s₁ H₁ fp) ([(D, { cls := .type "list", data := .seq its.toArray nn })] ++ pinsAt fp s6.heap) (compSt (some xv) σ js) H' s' →
          s'.heap.get? D = some { cls := .type "list", data := .seq its.toArray nn } ∧ H' D = none ∧ (∀ b ∈ fp, ∀ o, s6.heap.get? b = some o → s'.heap.get? b = some o) ∧ ∀ b ∈ fp, H' b = none := fun {s' H'} J => by
        have pD := J.pin (D, { cls := .type "list", data := .seq its.toArray nn }) (List.mem_append_right _ (List.mem_append_left _ List.mem_cons_self))
        refine ⟨pD.1, pD.2.1, fun b hb o e => (J.pin (b, o) (List.mem_append_right _ (List.mem_append_right _ (mem_pinsAt hb e)))).1, fun b hb => ?_⟩
        obtain ⟨o, e, _⟩ := T.obj _ _ st6 b hb
        exact (J.pin (b, o) (List.mem_append_right _ (List.mem_append_right _ (mem_pinsAt hb e)))).2.1
      cases ok with
      | false =>
        rw [if_neg Bool.false_ne_true] at q8 ⊢
        refine L2.ob_ea q8 fun m' hm w8 => ?_
        refine L2.ob_aaa (keepT I8) fun k1 k2 k3 k4 => ?_
        exact ⟨m', hm, i + 1, ys, its, nn, H8, some xv, I8.pins_of (fun p hp => absurd hp (by simp)), T.keep _ _ _ st6 k3, k4, k2, k1, rv4, z4, w8⟩
      | true =>
        rw [if_pos rfl] at q8 ⊢
        refine thn (he C s₁ H₁ fp _ s8 _ H8 _ I8 q8) fun u9 s9 ⟨y, H9, I9, r9, m', hm, w9⟩ => ?_
        refine L2.ob_aaa (keepT I9) fun k1 k2 k3 k4 => ?_
        have hsz : its.toArray.size < sizeLine := by rw [List.size_toArray, ← rv4.length]; exact hlen
        refine call_meets F.slot_list_append ⟨_, k1, rfl⟩ F.entry_list_append (F.args_list_append_2 _ _) (PySem.list_append D its.toArray nn u9 (by solve_by_elim (maxDepth := 3) [Nat.le_of_lt, Nat.lt_of_lt_of_le, Nat.le_trans, Nat.lt_of_le_of_lt])) ⟨k1, ?_⟩
        have I9' : Inv (compCx X scope x js C s₁ H₁ fp) [] (compSt (some xv) σ js) H9 s9 := I9.pins_of (fun p hp => absurd hp (by simp))
        have q := PySem.IsL.update k1 (fun a => a.push u9)
        simp only [List.push_toArray] at q
        exact ⟨m', hm, i + 1, ys ++ [y], its ++ [u9], _, H9, some xv, I9'.turned (it := D) (fun b o hb e => (Heap.get?_update_other s9.heap _ (Ne.symm hb)).trans e) k2 hDC (.inr (by first | exact Nat.le_refl _ | (show s₁.heap.objs.size ≤ D; rw [hD]; exact Nat.le_refl _))) (fun yy c e => dcell yy c (cl_sub yy c e)) (fun p hp => absurd (show p ∈ ([] : List (Addr × Obj)) from hp) (by simp)),
          T.keep _ _ _ st6 (fun b hb o e => (Heap.get?_update_other s9.heap _ (fun z => hDf (by rw [z]; exact hb))).trans (k3 b hb o e)), k4, k2, q, rv4.append (.cons r9 .nil), (by rw [List.length_append, List.length_singleton]; exact hlen), w9⟩
  exact codeAny_compStart_list (loop _ rfl) (T.self _ 0 _ _ _ st₁ (loop _ rfl))
noncomputable def tComp (wi : TI) (js : List Nat) (ot : Option TT) (te : TE) : TE := fun σ H Q => wi σ H fun J H1 => compGo J js ot te σ H1 fun ys H' => ∀ p, H' p = none → Q (.ref p) (upd H' p (.lst ys))
theorem pe_comp {wi : TI} (js : List Nat) (hc : X.calm = true) (hi : PI X (.Name x px) iter wi) (he : ∀ C s₁ H₁ fp, PE (compCx X scope x js C s₁ H₁ fp) elt te) (ht : ∀ C s₁ H₁ fp, PTests (compCx X scope x js C s₁ H₁ fp) ifs ot)
    (hok : compOk scope X.env x X.N js = true) (hnd : (compN x X.N js).Nodup) (hs : ∀ x, foldedSetIterable iter X.env x = pure x := by intro _; rfl) :
    PE X (.ListComp elt [⟨.Name x px, iter, ifs, 0⟩] scope pos) (tComp wi js ot te) := by
  intro pins s σ H Q I h
  have O := compOk_of hok
  rw [eval_ListComp]
  refine wpAny_comprehension_free (use := none) rfl hs (closure_of (comp_cells O I)) O.kind O.loc (thn (hi pins s σ H _ I h) fun v s1 h1 => thn h1 fun itv s2 h2 => ?_)
  obtain ⟨it, fp, tn, J, H2, e, I2, T, st2, f2, go⟩ := h2
  subst e
  refine comp_block (RR := fun acc C => compPost (model X.prog X.w) X.A X.xe none (EP X pins σ Q) acc C) hok hnd hc he ht I2 T st2 f2 go ?_
  intro D C ys H' s' m hD I' hn hC hCn fin
  have f := I2.fpOk hC hCn
  exact ⟨m, hn, fun h'' hs'' => ⟨.ref D, _, I'.turned (it := C) (t' := s'.toks) (fun b o hb e => hs''.extBut b o hb e) hCn f.2.1 f.2.2.2.1 f.2.2.2.2.1 f.2.2.2.2.2, rfl, fin D hD⟩⟩
noncomputable def tSetComp (wi : TI) (js : List Nat) (ot : Option TT) (te : TE) (i : Nat) : TS := fun D σ H => wi σ H fun J H1 => compGo J js ot te σ H1 fun ys H' => ∀ p, H' p = none → D.nx (σ.set i (some (.ref p))) (upd H' p (.lst ys))
theorem ps_setcomp {wi : TI} {y : Str} {py spos : Pos} (i : Nat) (js : List Nat) (hc : X.calm = true) (hN : X.N.Nodup) (hy : X.N[i]? = some y) (hl : X.env.scope.names.lookup y = some .local) (hi : PI X (.Name x px) iter wi) (he : ∀ C s₁ H₁ fp, PE (compCx X scope x js C s₁ H₁ fp) elt te) (ht : ∀ C s₁ H₁ fp, PTests (compCx X scope x js C s₁ H₁ fp) ifs ot)
    (hok : compOk scope X.env x X.N js = true) (hnd : (compN x X.N js).Nodup)
    (hsw : swapsWith (.ListComp elt [⟨.Name x px, iter, ifs, 0⟩] scope pos) (some (.Name y py)) spos.line X.env = pure true := by rfl) (hs : ∀ x, foldedSetIterable iter X.env x = pure x := by intro _; rfl) :
    PS X (.Assign [.Name y py] (.ListComp elt [⟨.Name x px, iter, ifs, 0⟩] scope pos) spos) (tSetComp wi js ot te i) := by
  intro pins s σ H D I h
  have O := compOk_of hok
  rw [exec_Assign_Name_used _ _ _ _ hsw]
  refine wpAny_bind (wpAny_standAt (wpAny_bind ?_))
  show wpAny _ X.A (do let _ ← comprehension (.ListComp elt [⟨.Name x px, iter, ifs, 0⟩] scope pos) scope X.env _ (newList []) false (eval iter X.env) (some (assign (.Name y py) X.env))) _ _ s
  refine wpAny_bind (wpAny_mono (wpAny_comprehension_free (use := some (assign (.Name y py) X.env)) (Q := fun _ s' => SP X pins D .next s') rfl hs (closure_of (comp_cells O I)) O.kind O.loc
    (thn (hi pins s σ H _ I h) fun v s1 h1 => thn h1 fun itv s2 h2 => ?_)) (fun _ s' hq => wpAny_pure (wpAny_pure hq)) fun _ _ e => e)
  obtain ⟨it, fp, tn, J, H2, e, I2, T, st2, f2, go⟩ := h2
  subst e
  refine comp_block (RR := fun acc C => compPost (model X.prog X.w) X.A X.xe (some (assign (.Name y py) X.env)) (fun _ s' => SP X pins D .next s') acc C) hok hnd hc he ht I2 T st2 f2 go ?_
  intro D' C ys H' s' m hD I' hn hC hCn fin
  have f := I2.fpOk hC hCn
  show wpAny _ X.A (assign (.Name y py) X.env (.ref D')) _ _ _
  refine wpAny_assign_Name (store_ok2 (v := .ref D') I' hN hy (Or.inl hl) rfl (fun s'' I'' hch => ?_) (.inr hl))
  refine L2.ob_ea hch fun a sb ha => ?_
  have haC : C ≠ a := by
    rcases ha with z | z
    · rw [z]; exact f.2.1
    · exact Ne.symm (f.2.2.2.2.1 _ _ z)
  refine ⟨m, hn.at' (fun o e => sb.extBut _ o haC e), fun h'' hs'' => ⟨_, _, I''.turned (it := C) (t' := s''.toks) (fun b o hb e => hs''.extBut b o hb e) hCn f.2.1 f.2.2.2.1 f.2.2.2.2.1 f.2.2.2.2.2, fin D' hD⟩⟩
end
end L2

namespace L2
open PySem PySem.Spec PyProof.Rows
noncomputable def Ite (K : PySem.W.Frag) (a : Addr) : It :=
  ⟨fun i H => ∃ xs x, SqL K H a xs ∧ xs[i]? = some x, fun i H v H' => ∃ p x, v = .ref p ∧ H p = none ∧ H' = upd H p (.tup [.int i, x]) ∧ ∀ xs, SqL K H a xs → xs[i]? = some x, fun i H => ∃ xs, SqL K H a xs ∧ xs.length ≤ i⟩
theorem turn_enum {P : Program} {w : World} {K : PySem.W.Frag} {elts : List Expr} {x1 : Nat} {tpos : Pos} (a e it : Addr) (hne : e ≠ it) :
    Turn P w K (.Tuple elts x1 tpos) (Ite K a) [e, it] e (fun i h => ∃ old, IsEnum h e it (i : Int) old ∧ h.IsListIter it a i) where
  mem := by simp
  obj := fun i h st b hb => by
    obtain ⟨old, he, o, ho, c, d⟩ := st
    have hb' : b = e ∨ b = it := by simpa using hb
    rcases hb' with rfl | rfl
    · exact ⟨_, he, fun v z => by
        have z' : Data.fields _ = Data.cell v := z
        cases z'⟩
    · exact ⟨o, ho, fun v z => by rw [d] at z; cases z⟩
  keep := fun i h h' st k => by
    obtain ⟨old, he, hit⟩ := st
    exact ⟨old, k e (by simp) _ he, hit.at fun o q => k it (by simp) o q⟩
  item := by
    intro X hP hw hK hc i pins s σ H E I hf st hg
    subst hP hw hK
    obtain ⟨xs, x, hq, hx⟩ := hg
    refine L2.ob_ea st fun old he hit => ?_
    refine L2.ob_eaa (I.list hq) fun its rv p hz => ?_
    refine L2.ob_ea (rv.get hx) fun u hu ru => ?_
    obtain ⟨f0, f1, f2, f3, f4, f5⟩ := hf e (by simp)
    obtain ⟨g0, g1, g2, g3, g4, g5⟩ := hf it (by simp)
    refine wpAny_pyNext_enum_item he hit p.isList (x := u) (by simpa using hu) hne fun h' heo hit' ht hsz hk => ?_
    have hfr : H s.heap.objs.size = none := I.hok.fresh (Nat.le_refl _)
    have nP : ∀ b o, s.heap.get? b = some o → b ≠ s.heap.objs.size := fun b o q => Nat.ne_of_lt (Heap.lt_size q)
    have nE : ∀ b o, H b = some o → b ≠ e ∧ b ≠ it := fun b o q => ⟨(fun z => by rw [z, f0] at q; exact L2.ns_ q), (fun z => by rw [z, g0] at q; exact L2.ns_ q)⟩
    have kk : ∀ b o, b ∉ [e, it] → s.heap.get? b = some o → h'.get? b = some o := fun b o hb q => hk b o (fun z => hb (by simp [z])) (fun z => hb (by simp [z])) q
    have I1 : Inv X pins σ (upd H s.heap.objs.size (.tup [.int i, x])) { s with heap := h', toks := s.toks + 1 } := by
      refine I.step (g' := s.gens) (d' := s.drawn) (ch := [e, it]) (fun b hb => ?_) (fun b o _ _ hc q _ => kk b o hc q) (fun b o _ _ hc q _ => ⟨o.slots, kk b o hc q⟩) (fun b o _ q n => by rw [upd_ne (nP b o q)]; exact n)
        (fun b o hc q => ⟨o, kk b o hc q⟩) (fun b ys q => by rw [upd_ne (ne_of_none q hfr)]; exact q) (fun b o v q => by rw [upd_ne (ne_of_none q hfr)]; exact q) (fun b ps q => ⟨#[], by rw [upd_ne (ne_of_none q hfr), q]; simp⟩) (fun m hm => ?_) (fun b v q => ?_) I.bare
      · have hb' : b = e ∨ b = it := by simpa using hb
        rcases hb' with rfl | rfl
        · exact ⟨f3, f1, f4, f5⟩
        · exact ⟨g3, g1, g4, g5⟩
      · obtain ⟨o, es, ep, ho, r⟩ := hm
        exact ⟨o, es, ep, kk _ o (by simp; exact ⟨Ne.symm f1, Ne.symm g1⟩) ho, r⟩
      · by_cases hb : b = s.heap.objs.size
        · subst hb
          rw [upd_same] at q; obtain rfl := Option.some.inj q
          exact ⟨by show 2 ≤ sizeLine; decide, [.int i s.toks, u], .cons ⟨_, rfl⟩ (.cons ru .nil), ⟨_, ht, rfl, _, rfl⟩⟩
        · rw [upd_ne hb] at q
          refine (I.hok b v q).stay (fun c o hc z => hk c o ?_ ?_ z) (fun c z => by rw [upd_ne (ne_of_none z hfr)]; exact z) fun c ys z => by rw [upd_ne (ne_of_none z hfr)]; exact z
          · rcases hc with rfl | hc
            · exact (nE _ _ q).1
            · exact (nE _ _ hc).1
          · rcases hc with rfl | hc
            · exact (nE _ _ q).2
            · exact (nE _ _ hc).2
    refine ⟨_, rfl, ?_⟩
    have hep : e ≠ s.heap.objs.size := nP e _ he
    refine wpAny_letOwnedTupleGo_enum (s := { s with heap := h', toks := s.toks + 1 }) heo fun h2 he2 sb => ?_
    have I2 : Inv X pins σ (upd H s.heap.objs.size (.tup [.int i, x])) { s with heap := h2, toks := s.toks + 1 } := Inv.turned (s := { s with heap := h', toks := s.toks + 1 }) (t' := s.toks + 1) (it := e) I1 (fun b o hb q => (sb.2 b hb).trans q) (by rw [upd_ne hep]; exact f0) f1 f3 f4 f5
    have hi2 : (((i + 1 : Nat) : Int)) = (i : Int) + 1 := by rfl
    refine ⟨.ref s.heap.objs.size, _, I2, rfl, ⟨s.heap.objs.size, x, rfl, hfr, rfl, fun ys hy => by rw [I.list_inj hy hq]; exact hx⟩, ⟨u, by rw [hi2]; exact he2, hit'.at fun o q => (sb.2 it (Ne.symm hne)).trans q⟩, fun b hb => ?_⟩
    have hb' : b = e ∨ b = it := by simpa using hb
    obtain ⟨o2, ho2, _⟩ := id hit
    rcases hb' with rfl | rfl
    · rw [upd_ne hep]; exact f0
    · rw [upd_ne (nP _ _ ho2)]; exact g0
  done := by
    intro X hP hw hK hc i pins s σ H E I hf st hg
    subst hP hw hK
    obtain ⟨xs, hq, hx⟩ := hg
    refine L2.ob_ea st fun old he hit => ?_
    refine L2.ob_eaa (I.list hq) fun its rv p hz => ?_
    obtain ⟨g0, g1, g2, g3, g4, g5⟩ := hf it (by simp)
    have hl := rv.length
    exact wpAny_pyNext_enum_end (I.ok.hd hc) he hit p.isList (by simp; lia) fun h' eb => ⟨rfl, I.turned (t' := s.toks) (fun b o hb q => eb b o hb q) g0 g1 g3 g4 g5⟩
  self := fun _ _ _ _ _ st h => by
    obtain ⟨old, he, _⟩ := st
    exact wpAny_pyIter_enum he h
inductive iEnum_b (K : PySem.W.Frag) (R : It → Hp → Prop) (vs : List V) (H1 : Hp) : Prop
  | mk : ∀ a, (vs = [.ref a]) → ((∃ xs, SqL K H1 a xs)) → (R (Ite K a) H1) → iEnum_b K R vs H1
noncomputable def iEnum (K : PySem.W.Frag) (ta : TA) : TI := fun σ H R => ta σ H fun vs H1 => iEnum_b K R vs H1
theorem pi_enum {X : Cx} {elts : List Expr} {x1 : Nat} {tpos : Pos} {l : Expr} {ta : TA} {p pos : Pos} (hg : Gl X "enumerate") (hm : X.mg "enumerate" = none) (ha : PA X [l] ta) (hs : starEach [l] X.env = [(false, eval l X.env)] := by rfl) :
    PI X (.Tuple elts x1 tpos) (.Call (.Name "enumerate" p) [l] [] pos) (iEnum X.K ta) := by
  intro pins s σ H R I h
  refine Call_ (ld_blt I hg hm boot_enumerate (PyProof.Rows.callWith_type1 (thn (ha pos pins s σ H _ I h) fun us s1 ⟨vs, H1, I1, r1, q1⟩ => ?_) hs rfl))
  obtain ⟨a, e, ⟨xs, hq⟩, q⟩ := q1
  subst e
  refine L2.ob_ea r1.one fun u e_1 ru => ?_; subst e_1
  cases ru
  refine L2.ob_eaa (I1.list hq) fun its rv pl hz => ?_
  refine call_enumerate_list pl.isList fun h' he hit hsz hk => wpAny_pyIter_enum he ?_
  have I2 : Inv X pins σ H1 { s1 with heap := h' } := I1.kept (t' := s1.toks) hk
  refine ⟨s1.heap.objs.size + 1, [s1.heap.objs.size + 1, s1.heap.objs.size], _, _, H1, rfl, I2, turn_enum a _ _ (Nat.succ_ne_self _), ⟨.none, he, hit⟩, fun b hb => ?_, q⟩
  have hb' : b = s1.heap.objs.size + 1 ∨ b = s1.heap.objs.size := by simpa using hb
  have hle : s1.heap.objs.size ≤ b := by rcases hb' with rfl | rfl <;> lia
  exact I1.fpOk hle (I1.hok.fresh hle)
theorem for_enum {K : PySem.W.Frag} {a : Addr} {xs : List V} {g : TG} {tb : TS} {D : Ends} {σ : St} {H : Hp} (Pv : Nat → St → Hp → Prop) (h0 : Pv 0 σ H) (hl : ∀ i σ H, i ≤ xs.length → Pv i σ H → SqL K H a xs)
    (hs : ∀ i x σ H p, xs[i]? = some x → Pv i σ H → H p = none → g (.ref p) σ (upd H p (.tup [.int i, x])) fun σ2 H2 => tb (D.lp (Pv (i + 1))) σ2 H2) (hd : ∀ σ H, Pv xs.length σ H → D.nx σ H) :
    ∃ W : Nat → Nat → St → Hp → Prop, (∃ m, W 0 m σ H) ∧ ∀ i m σ H, W i m σ H →
      ((Ite K a).stop i H ∧ D.nx σ H) ∨ ((Ite K a).go i H ∧ ∃ N : St → Hp → Prop, (∀ σ' H', N σ' H' → ∃ m', m' < m ∧ W (i + 1) m' σ' H') ∧ ∀ x H', (Ite K a).yld i H x H' → g x σ H' fun σ2 H2 => tb (D.lp (N)) σ2 H2) := by
  refine ⟨fun i m σ H => m = xs.length - i ∧ i ≤ xs.length ∧ Pv i σ H, ⟨xs.length, by simp, Nat.zero_le _, h0⟩, ?_⟩
  rintro i m σ H ⟨rfl, hi, p⟩
  have q := hl i σ H hi p
  by_cases hlt : i < xs.length
  · refine .inr ⟨⟨xs, xs[i], q, by simp [hlt]⟩, Pv (i + 1), fun σ' H' p' => ⟨xs.length - (i + 1), by lia, rfl, hlt, p'⟩, fun x H' y => ?_⟩
    obtain ⟨pp, z, rfl, hn, rfl, y⟩ := y
    exact hs i z σ H pp (y xs q) p hn
  · have e : i = xs.length := by lia
    subst e
    exact .inl ⟨⟨xs, q, Nat.le_refl _⟩, hd σ H p⟩
noncomputable def Itd (lo : Int) (n : Nat) : It := ⟨fun i _ => i < n, fun i H x H' => H' = H ∧ x = .int (lo - i), fun i _ => n ≤ i⟩
theorem turn_down {P : Program} {w : World} {K : PySem.W.Frag} {tg : Expr} (it : Addr) (lo : Int) (n : Nat) : Turn P w K tg (Itd lo n) [it] it (fun i h => IsRangeIter h it (lo + (i : Nat) * (-1)) ((n : Int) - (i : Nat)) (-1)) where
  mem := by simp
  obj := fun i h st b hb => by
    have e : b = it := by simpa using hb
    subst e
    exact ⟨_, st, fun v z => by
      have z' : Data.fields _ = Data.cell v := z
      cases z'⟩
  keep := fun i h h' st k => k it (by simp) _ st
  item := by
    intro X hP hw hK hc i pins s σ H E I hf st hg
    subst hP hw hK
    obtain ⟨f0, f1, f2, f3, f4, f5⟩ := hf it (by simp)
    have W := Walks.range (prog := X.prog) (w := X.w) (I.ok.hd hc) it lo (-1) n
    refine W.item i s _ _ hg st fun v h' tk hv st' kk => ?_
    obtain ⟨t, rfl⟩ := hv
    have I1 : Inv X pins σ H { s with heap := h', toks := tk } := I.turned (fun b o hb e => kk b o (by simpa using hb) e) f0 f1 f3 f4 f5
    refine ⟨_, rfl, go_of (s := { s with heap := h', toks := tk }) (n := "range_iterator") st' rfl rfl (by decide) ⟨.int (lo - i), H, I1, ⟨t, ?_⟩, ⟨rfl, rfl⟩, st', fun b hb => (hf b hb).1⟩⟩
    rw [show lo + (i : Int) * (-1) = lo - i by lia]
  done := by
    intro X hP hw hK hc i pins s σ H E I hf st hg
    subst hP hw hK
    obtain ⟨f0, f1, f2, f3, f4, f5⟩ := hf it (by simp)
    exact wpAny_pyNext_range_end (I.ok.hd hc) st (by have : n ≤ i := hg; lia) fun h' eb => ⟨rfl, I.turned (t' := s.toks) (fun b o hb e => eb b o hb e) f0 f1 f3 f4 f5⟩
  self := fun _ _ _ _ _ st h => wpAny_pyIter_rangeiter st h
end L2
namespace L2
open PySem PySem.Spec PyProof.Rows
theorem rangeSize_down (a b : Int) : Builtin.Range.rangeSize a b (-1) = if a > b then a - b else 0 := by
  unfold Builtin.Range.rangeSize
  rw [if_neg (by decide)]
  split
  · rw [show -(-1 : Int) = 1 by decide, Int.ediv_one]; lia
  · rfl
theorem small_down {a b : Int} (ha : -(2 ^ 62) ≤ a) (ha' : a < 2 ^ 62) (hb : -(2 ^ 62) ≤ b) (hb' : b < 2 ^ 62) : Builtin.Range.small a b (-1) = true := by
  unfold Builtin.Range.small
  rw [rangeSize_down]
  simp only [Builtin.Range.rangeFitsLong, Bool.and_eq_true, Bool.or_eq_true, decide_eq_true_eq, beq_iff_eq, show ¬ ((-1 : Int) > 0) by decide, if_false]
  split <;> lia
inductive iRngD_b (R : It → Hp → Prop) (vs : List V) (H1 : Hp) : Prop
  | mk : ∀ i j : Int, (vs = [.int i, .int j, .int (-1)]) → ((-(2 ^ 62) ≤ i ∧ i < 2 ^ 62 ∧ -(2 ^ 62) ≤ j ∧ j < 2 ^ 62)) → (R (Itd i (i - j).toNat) H1) → iRngD_b R vs H1
noncomputable def iRngD (ta : TA) : TI := fun σ H R => ta σ H fun vs H1 => iRngD_b R vs H1
theorem pi_down {X : Cx} {tg : Expr} {a b c : Expr} {ta : TA} {p pos : Pos} (hg : Gl X "range") (hm : X.mg "range" = none) (ha : PA X [a, b, c] ta)
    (hs : starEach [a, b, c] X.env = (false, eval a X.env) :: starEach [b, c] X.env := by rfl) (hpl : (backTo pos (starEach [b, c] X.env)).any (·.1) = false := by rfl) :
    PI X tg (.Call (.Name "range" p) [a, b, c] [] pos) (iRngD ta) := by
  intro pins s σ H R I h
  refine Call_ (ld_blt I hg hm boot_range (PyProof.Rows.callWith_type1 (thn (ha pos pins s σ H _ I h) fun us s1 ⟨vs, H1, I1, r1, q1⟩ => ?_) hs hpl))
  obtain ⟨i, j, e, ⟨q1, q2, q3, q4⟩, q⟩ := q1
  subst e
  cases r1 with
  | cons r rr =>
    cases rr with
    | cons r' rr =>
      cases rr with
      | cons r'' rr =>
        cases rr
        obtain ⟨t, rfl⟩ := r
        obtain ⟨t', rfl⟩ := r'
        obtain ⟨t'', rfl⟩ := r''
        refine call_range_3 (by decide) ?_ (Or.inl (PyProof.noPylong_small (by decide)))
        refine wpAny_pyIter_range (IsRange.new ..) (small_down q1 q2 q3 q4) ?_
        have I2 : Inv X pins σ H1 { s1 with heap := s1.heap.push { cls := .type "range", data := .fields #[.int i t, .int j t', .int (-1) t''] } } := I1.kept (t' := s1.toks) fun b o e => Heap.get?_push_of_some _ e
        refine ⟨(s1.heap.push { cls := .type "range", data := .fields #[.int i t, .int j t', .int (-1) t''] }).objs.size, [(s1.heap.push { cls := .type "range", data := .fields #[.int i t, .int j t', .int (-1) t''] }).objs.size], _, _, H1, rfl,
          I2.kept (t' := s1.toks) fun b o e => Heap.get?_push_of_some _ e, turn_down _ i (i - j).toNat, ?_, fun b hb => ?_, q⟩
        · have e1 : i + ((0 : Nat) : Int) * (-1) = i := by simp
          have e2 : (((i - j).toNat : Nat) : Int) - ((0 : Nat) : Int) = Builtin.Range.rangeSize i j (-1) := by rw [rangeSize_down]; split <;> lia
          show IsRangeIter _ _ (i + ((0 : Nat) : Int) * (-1)) ((((i - j).toNat : Nat) : Int) - ((0 : Nat) : Int)) (-1)
          rw [e1, e2]
          exact Heap.get?_push_size _ rfl
        · have e : b = (s1.heap.push { cls := .type "range", data := .fields #[.int i t, .int j t', .int (-1) t''] }).objs.size := by simpa using hb
          subst e
          exact I2.fpOk (Nat.le_refl _) (I2.hok.fresh (Nat.le_refl _))
theorem for_down {lo : Int} {n : Nat} {g : TG} {tb : TS} {D : Ends} {σ : St} {H : Hp} (Pv : Nat → St → Hp → Prop) (h0 : Pv 0 σ H)
    (hs : ∀ i σ H, i < n → Pv i σ H → g (.int (lo - i)) σ H fun σ2 H2 => tb (D.lp (Pv (i + 1))) σ2 H2) (hd : ∀ σ H, Pv n σ H → D.nx σ H) :
    ∃ W : Nat → Nat → St → Hp → Prop, (∃ m, W 0 m σ H) ∧ ∀ i m σ H, W i m σ H →
      ((Itd lo n).stop i H ∧ D.nx σ H) ∨ ((Itd lo n).go i H ∧ ∃ N : St → Hp → Prop, (∀ σ' H', N σ' H' → ∃ m', m' < m ∧ W (i + 1) m' σ' H') ∧ ∀ x H', (Itd lo n).yld i H x H' → g x σ H' fun σ2 H2 => tb (D.lp (N)) σ2 H2) := by
  refine ⟨fun i m σ H => m = n - i ∧ i ≤ n ∧ Pv i σ H, ⟨n, by simp, Nat.zero_le _, h0⟩, ?_⟩
  rintro i m σ H ⟨rfl, hi, p⟩
  by_cases hlt : i < n
  · refine .inr ⟨hlt, Pv (i + 1), fun σ' H' p' => ⟨n - (i + 1), by lia, rfl, hlt, p'⟩, fun x H' y => ?_⟩
    obtain ⟨e, y⟩ := y
    subst e y
    exact hs i σ _ hlt p
  · have e : i = n := by lia
    subst e
    exact .inl ⟨Nat.le_refl _, hd σ H p⟩
end L2

namespace L2
open PySem PySem.Spec PyProof.Rows
section
variable {X : Cx}
noncomputable def clsV : V → Option Value
  | .ty n => some (.type n)
  | .ref C => some (.ref C)
  | _ => none
theorem clsV_rel {y : V} {c u : Value} (h : clsV y = some c) (r : RelV y u) : u = c := by
  cases y with
  | ty n => cases h; exact r
  | ref C => cases h; exact r
  | _ => cases h
inductive r_call_isi (K : PySem.W.Frag) (xs : List V) (H : Hp) (Q : VK) : Prop
  | mk : ∀ x y c t b, (xs = [x, y]) → (clsV y = some c) → (TyOf K H x t) → (PySem.W.kitOne K t c = some b) → (Q (.bl b) H) → r_call_isi K xs H Q
theorem call_isi : CallR X (.builtin "isinstance") (r_call_isi X.K) := by
  intro pins s σ H xs us Q I r h
  obtain ⟨x, y, c, t, b, rfl, hc, ty, hk, q⟩ := h
  refine L2.ob_eeaa (vals2 r) fun u w' e_2 rx ry => ?_; subst e_2
  obtain rfl := clsV_rel hc ry
  exact isinst_ok I rx ty hk fun tk => ⟨.bl b, H, I.tok tk, rfl, q⟩
inductive rBest (K : PySem.W.Frag) (better : Int → Int → Prop) (xs : List V) (H : Hp) (Q : VK) : Prop
  | mk : ∀ p ns, (xs = [.ref p]) → ((SqL K H p (ns.map V.int) ∨ SqT K H p (ns.map V.int))) → (ns ≠ []) → (∀ M, M ∈ ns → (∀ a ∈ ns, better a M) → Q (.int M) H) → rBest K better xs H Q
theorem countP_eqU {x : V} : ∀ {xs : List V} {us : List Value}, Vals xs us → xs.all flatV = true → us.countP (eqU x) = xs.countP fun y => eqV y x
  | _, _, .nil, _ => rfl
  | y :: xs, u :: us, .cons r t, f => by
    rw [List.all_cons, Bool.and_eq_true] at f
    rw [List.countP_cons, List.countP_cons, eqU_of r f.1, countP_eqU t f.2]
inductive rCount (K : PySem.W.Frag) (x : V) (vs : List V) (H : Hp) (Q : VK) : Prop
  | mk : ∀ p xs y, (x = .ref p) → (vs = [y]) → (SqL K H p xs) → (flatV y = true) → (xs.all flatV = true) → (Q (.int ((xs.countP fun z => eqV z y : Nat) : Int)) H) → rCount K x vs H Q
theorem mt_count : MtR X "list.count" (rCount X.K) := by
  intro pins s σ H x vs v us Q I rx rv h
  obtain ⟨p, xs, y, rfl, rfl, hq, fy, fx, q⟩ := h
  cases rx
  refine L2.ob_ea rv.one fun u e_1 ru => ?_; subst e_1
  refine L2.ob_eaa (I.list hq) fun its r pl hz => ?_
  obtain ⟨⟨cls, dd, data, sl⟩, ho, hc, n, hd⟩ := pl.isList
  simp only at hc hd
  subst hc hd
  refine call_meets F.slot_list_count ⟨_, ho, rfl⟩ F.entry_list_count (F.args_list_count_2 _ _) (SeqAt.list_countAt p its.toArray n dd sl u (eqU y)) ⟨ho, fun z hz => mem_eqAt ru fy r fx z (by simpa using hz), ?_⟩
  refine ⟨.int _, H, I.tok _, ⟨_, rfl⟩, ?_⟩
  rw [show its.toArray.toList = its from rfl, countP_eqU r fx]
  exact q
inductive rIndex (K : PySem.W.Frag) (x : V) (vs : List V) (H : Hp) (Q : VK) : Prop
  | mk : ∀ p xs y j, (x = .ref p) → (vs = [y]) → (SqL K H p xs) → (flatV y = true) → (xs.all flatV = true) → ((∃ z, xs[j]? = some z ∧ eqV z y = true)) → ((∀ (m : Nat) z, m < j → xs[m]? = some z → eqV z y = false)) → (Q (.int (j : Int)) H) → rIndex K x vs H Q
theorem mt_index : MtR X "list.index" (rIndex X.K) := by
  intro pins s σ H x vs v us Q I rx rv h
  obtain ⟨p, xs, y, j, rfl, rfl, hq, fy, fx, ⟨zj, hj, hit⟩, hno, q⟩ := h
  cases rx
  refine L2.ob_ea rv.one fun u e_1 ru => ?_; subst e_1
  refine L2.ob_eaa (I.list hq) fun its r pl hz => ?_
  obtain ⟨⟨cls, dd, data, sl⟩, ho, hc, n, hd⟩ := pl.isList
  simp only at hc hd
  subst hc hd
  refine L2.ob_ea (r.get hj) fun uj huj ruj => ?_
  have hjl : j < its.length := (List.getElem?_eq_some_iff.mp huj).1
  have hjs : j < its.toArray.size := by rw [List.size_toArray]; exact hjl
  have flat : ∀ {z : V} {k : Nat}, xs[k]? = some z → flatV z = true := fun {z k} e => List.all_eq_true.mp fx z (List.mem_of_getElem? e)
  have hsm : (j : Int) < 2 ^ 63 - 1 := by
    have h1 := r.length
    have h2 := line63
    have h3 : (sizeLine : Nat) < 2 ^ 62 := by rw [sizeLine_eq]; decide
    have : j < sizeLine := by lia
    have : (j : Int) < 2 ^ 62 := by exact_mod_cast Nat.lt_trans this h3
    lia
  refine call_meets F.slot_list_index ⟨_, ho, rfl⟩ F.entry_list_index (F.args_list_index_2 _ _) (SeqAt.list_indexAt p its.toArray n dd sl u (eqU y) j hjs hsm ?_ ?_) ⟨ho, fun z hz => mem_eqAt ru fy r fx z (by simpa using hz), ?_⟩
  · have e : its.toArray[j] = uj := by
      have := (List.getElem?_eq_some_iff.mp huj).2
      simpa using this
    rw [e, eqU_of ruj (flat hj)]; exact hit
  · intro m hm hmj
    have hml : m < its.length := by rw [List.size_toArray] at hm; exact hm
    have hmx : m < xs.length := by rw [r.length]; exact hml
    refine L2.ob_ea (r.get (List.getElem?_eq_getElem hmx)) fun um hum rum => ?_
    have e : its.toArray[m] = um := by
      have := (List.getElem?_eq_some_iff.mp hum).2
      simpa using this
    rw [e, eqU_of rum (flat (List.getElem?_eq_getElem hmx))]
    exact hno m _ hmj (List.getElem?_eq_getElem hmx)
  · exact ⟨.int _, H, I.tok _, ⟨_, rfl⟩, q⟩
end

inductive Dt where
  | non | bl (b : Bool) | int (i : Int) | str (x : Str) | lst (ds : List Dt) | tup (ds : List Dt)
mutual
noncomputable def Deep (K : PySem.W.Frag) (H : Hp) : Dt → V → Prop
  | .non, v => v = .non
  | .bl b, v => v = .bl b
  | .int i, v => v = .int i
  | .str x, v => v = .str x
  | .lst ds, v => ∃ a xs, v = .ref a ∧ SqL K H a xs ∧ Deeps K H ds xs
  | .tup ds, v => ∃ a xs, v = .ref a ∧ SqT K H a xs ∧ Deeps K H ds xs
noncomputable def Deeps (K : PySem.W.Frag) (H : Hp) : List Dt → List V → Prop
  | [], xs => xs = []
  | d :: ds, xs => ∃ x r, xs = x :: r ∧ Deep K H d x ∧ Deeps K H ds r
end
mutual
noncomputable def Dt.dp : Dt → Nat
  | .lst ds => 1 + Dt.dps ds
  | .tup ds => 1 + Dt.dps ds
  | _ => 0
noncomputable def Dt.dps : List Dt → Nat
  | [] => 0
  | d :: ds => max d.dp (Dt.dps ds)
end
section
variable {X : Cx} {pins : List (Addr × Obj)} {σ : St} {H : Hp} {s : Shared}
theorem all_true : ∀ l : List Nat, (l.all fun _ => true) = true
  | [] => rfl
  | _ :: r => by rw [List.all_cons, all_true r]; rfl
theorem in1_units (A : Around) : A.in1.units = A.units + 1 := rfl
end
end L2

namespace L2
open PySem PySem.Spec PyProof.Rows
section
variable {X : Cx} {pins : List (Addr × Obj)} {σ : St} {H : Hp} {s : Shared}
theorem deeps_strs {K : PySem.W.Frag} {H : Hp} : ∀ ns : List Str, Deeps K H (ns.map Dt.str) (ns.map V.str)
  | [] => by simp only [List.map_nil, Deeps]
  | n :: r => by
    simp only [List.map_cons, Deeps, Deep]
    exact ⟨_, _, rfl, rfl, deeps_strs r⟩
inductive rRange1  (xs : List V) (H : Hp) (Q : VK) : Prop
  | mk : ∀ j : Int, (xs = [.int j]) → (-(2 ^ 62) ≤ j) → (j < 2 ^ 62) → (∀ p, H p = none → Q (.ref p) (upd H p (.rng 0 j))) → rRange1 xs H Q
theorem call_range1 : CallR X (.type "range") rRange1 := by
  intro pins s σ H xs us Q I r h
  obtain ⟨j, rfl, h1, h2, q⟩ := h
  obtain ⟨u, rfl, t, rfl⟩ := vals1 r
  refine call_range_1 ?_
  have hf : H s.heap.objs.size = none := I.hok.fresh (Nat.le_refl _)
  exact ⟨.ref s.heap.objs.size, _, I.laid (o := .rng 0 j) (fun b o e => Heap.get?_push_of_some _ e) (Nat.le_refl _) ⟨_, _, _, Heap.get?_push_size _ rfl⟩, rfl, q _ hf⟩
structure Df (P : Program) (w : World) (K : PySem.W.Frag) (mg : Str → Option Value) (base : Heap) (x : Str) (k : Nat) (ps : List Str) (sp : Sp) : Prop where
  ex : ∃ f fd, mg x = some (.ref f) ∧ PySem.W.keepIn K (.ref f) = true ∧ Binds K fd ps [] ∧ FnOk P w K mg base (CX1 P w) k f fd ps sp
theorem pe_own {k : Nat} {x : Str} {ps : List Str} {sp : Sp} {E : XK} {p pos : Pos} {e : Expr} {es : List Expr} {t : TA} (D : Df X.prog X.w X.K X.mg X.base x k ps sp) (hr : Room k X.A) (hg : Gl X x) (hx : Passes (CX1 X.prog X.w) X E) (ha : PA X (e :: es) t)
    (hdb : (x == ("__debug__" : Str)) = false := by decide) (he : starEach (e :: es) X.env = (false, eval e X.env) :: starEach es X.env := by rfl) (hpl : (backTo pos (starEach es X.env)).any (·.1) = false := by rfl) :
    PE X (.Call (.Name x p) (e :: es) [] pos) (tCall sp [] E t) := by
  obtain ⟨f, fd, hm, hk, hb, F⟩ := D.ex
  exact pe_call F hr hg hm hk hb .nil hx ha hdb he hpl
noncomputable def PJ (X : Cx) (es : List Expr) (t : Str → TE) : Prop :=
  ∀ (out : Str) (pins : List (Addr × Obj)) (s : Shared) (σ : St) (H : Hp) (Q : VK), Inv X pins σ H s → t out σ H Q → wpAny (model X.prog X.w) X.A (joinParts out (evalEach es X.env)) (EP X pins σ Q) X.xe s
theorem pj_nil : PJ X [] (fun out _ H Q => out.length ≤ sizeLine ∧ Q (.str out) H) := by
  intro out pins s σ H Q I h
  exact joinParts_nil ⟨.str out, H, I.tok _, ⟨_, rfl⟩, h.2⟩ h.1
theorem pj_cons {e : Expr} {es : List Expr} {te : TE} {t : Str → TE} (he : PE X e te) (hr : PJ X es t) (hs : evalEach (e :: es) X.env = eval e X.env :: evalEach es X.env := by rfl) :
    PJ X (e :: es) (fun out σ H Q => te σ H fun v H1 => ∃ y, v = .str y ∧ (out ++ y).length ≤ sizeLine ∧ t (out ++ y) σ H1 Q) := by
  intro out pins s σ H Q I h
  rw [hs]
  refine joinParts_cons (thn (he pins s σ H _ I h) fun v s1 ⟨x, H1, I1, r1, y, e1, z, q⟩ => ?_)
  subst e1
  obtain ⟨tk, rfl⟩ := r1
  exact ⟨z, hr (out ++ y) pins s1 σ H1 Q I1 q⟩
theorem pe_fstr {e1 e2 : Expr} {es : List Expr} {t : Str → TE} {pos : Pos} (h : PJ X (e1 :: e2 :: es) t) : PE X (.JoinedStr (e1 :: e2 :: es) pos) (t Str.empty) := by
  intro pins s σ H Q I hq
  exact JoinedStr_many (h Str.empty pins s σ H Q I hq)
theorem pe_fv {e : Expr} {te : TE} {pos : Pos} (he : PE X e te) : PE X (.FormattedValue e (-1) none pos) (fun σ H Q => te σ H fun v H1 => ∃ i : Int, v = .int i ∧ i.natAbs.log2 < 1920 ∧ Q (.str (toString i)) H1) := by
  intro pins s σ H Q I h
  refine FormattedValue_plain (thn (he pins s σ H _ I h) fun v s1 ⟨x, H1, I1, r1, i, e1, z, q⟩ => ?_)
  subst e1
  obtain ⟨tk, rfl⟩ := r1
  exact formatField_int_small z ⟨.str _, H1, I1.tok _, ⟨_, rfl⟩, q⟩
end
end L2

namespace L2
open PySem PySem.Spec PyProof.Rows
structure ExTy (K : PySem.W.Frag) (C : Addr) : Prop where
  ga : PySem.W.findIn K (.ref C) "__getattribute__" = some (some (.builtin "BaseException.__getattribute__"))
  gx : PySem.W.findIn K (.ref C) "__getattr__" = some none
  cl : PySem.W.findIn K (.ref C) "__class__" = some (some (.builtin "object.__class__"))
  ob : PySem.W.subIn K (.ref C) (.type "object") = some true
  be : PySem.W.subIn K (.ref C) (.type "BaseException") = some true
  ty : PySem.W.kitCls K (.ref C) (.ref C) = some true
section
variable {K : PySem.W.Frag} {C : Addr} {prog : Program} {w : World} {A : Around} {E : Value → Shared → Prop} {h : Heap} {g : Array GenState} {d : Drawn} {t : Nat} {os : OsState} {a : Addr} {o : Obj}
theorem exc_get {R : Result → Shared → Prop} (T : ExTy K C) (X : K.In h) (hx : h.get? a = some o) (hc : o.cls = .ref C) (hq : R (.ok (.ret (.ref C))) ⟨h, g, d, t, os⟩) :
    codeAny (model prog w) A (.call (.builtin "getset_descriptor.__get__") ⟨[.builtin "object.__class__", .ref a, .ref C], []⟩) R ⟨h, g, d, t, os⟩ := by
  have hT5 : (⟨h, g, d, t, os⟩ : Shared).TypeIs (.builtin "object.__class__") "getset_descriptor" := F.typeOf_object_class
  have LS : PySem.W.Looks (model prog w) h (isSubtype (.ref C) (.type (".".intercalate ("object.__class__".cutAt '.').dropLast))) true := by
    rw [F.owner_object_class]; exact PySem.W.looks_subIn X T.ob
  refine codeAny_call_builtin F.slot_gs_get.plain F.entry_gs_get (F.slot_gs_get.check _ _ _ _ _ _ _ _ hT5 (F.args_gs_get _ _ _) ?_)
  repeat (any_goals (first | assumption | (with_reducible refine wpAny_loadPart_at hx ?_; rw [hc]) | (with_reducible refine LS.at ?_) | wp_step))
  refine ⟨Code.quiet_builtin _ (by decide +kernel), codeAny_builtin F.entry_object_class ?_⟩
  repeat (any_goals (first | assumption | (with_reducible refine wpAny_loadPart_at hx ?_; rw [hc]) | wp_step))
theorem exc_entry {tk : Tok} {Q : Fin → Shared → Prop} (T : ExTy K C) (X : K.In h) (hx : h.get? a = some o) (hc : o.cls = .ref C) (hq : Q (.done (.ret (.ref C))) ⟨h, g, d, t, os⟩) :
    wpAny (model prog w) A (Builtin.«object.__getattribute__» ⟨[.ref a, .str "__class__" tk], []⟩) Q E ⟨h, g, d, t, os⟩ := by
  have hT5 : (⟨h, g, d, t, os⟩ : Shared).TypeIs (.builtin "object.__class__") "getset_descriptor" := F.typeOf_object_class
  have f5 := F.typeOf_object_class
  have f6 := F.slot_gs_get.lookup
  have f7 := F.slot_gs_set.lookup
  have L1 := PySem.W.looks_findIn (M := model prog w) X T.cl
  repeat (any_goals (first | assumption | (with_reducible refine wpAny_loadPart_at hx ?_; rw [hc]) | (with_reducible refine L1.at ?_) | wp_step))
  refine exc_get T X hx hc ?_
  repeat (any_goals (first | assumption | wp_step))
theorem exc_check {M : Model} {nameV : Value} {Q : Unit → Shared → Prop} (T : ExTy K C) (X : K.In h) (hx : h.get? a = some o) (hc : o.cls = .ref C) (hq : Q () ⟨h, g, d, t, os⟩) : wpAny M A (checkBuiltinCall "BaseException.__getattribute__" ⟨[.ref a, nameV], []⟩) Q E ⟨h, g, d, t, os⟩ := by
  have hk : builtinKind "BaseException.__getattribute__" = some .slot := by decide +kernel
  have hsplit : splitId "BaseException.__getattribute__" = some ("BaseException", "__getattribute__") := by decide +kernel
  have ha := F.args_bexc_ga (.ref a) nameV
  have LS := PySem.W.looks_subIn (M := M) X T.be
  simp only [checkBuiltinCall, hk, hsplit]
  refine wpAny_bind ?_
  · unfold isInstance
    repeat (first | (with_reducible refine wpAny_loadPart_at hx ?_; rw [hc]) | (with_reducible refine LS.at ?_) | wp_step)
    exact hq
theorem exc_call {tk : Tok} {R : Result → Shared → Prop} (T : ExTy K C) (X : K.In h) (hx : h.get? a = some o) (hc : o.cls = .ref C) (hq : R (.ok (.ret (.ref C))) ⟨h, g, d, t, os⟩) :
    codeAny (model prog w) A (.call (.builtin "BaseException.__getattribute__") ⟨[.ref a, .str "__class__" tk], []⟩) R ⟨h, g, d, t, os⟩ :=
  codeAny_call_builtin (by decide +kernel) F.entry_bexc_ga (exc_check T X hx hc (exc_entry T X hx hc hq))
theorem exc_by {tk : Tok} {Q : Value → Shared → Prop} (T : ExTy K C) (X : K.In h) (hx : h.get? a = some o) (hc : o.cls = .ref C) (hq : Q (.ref C) ⟨h, g, d, t, os⟩) : wpAny (model prog w) A (getAttrBy (.ref a) (.str "__class__" tk) false) Q E ⟨h, g, d, t, os⟩ := by
  have f3 : bindSpecial (.builtin "BaseException.__getattribute__") (.ref a) = pure (.builtin "BaseException.__getattribute__", [.ref a]) := PySem.F.excAttr_ValueError.ga.bind (.ref a)
  have L1 := PySem.W.looks_findIn (M := model prog w) X T.ga
  have L2 := PySem.W.looks_findIn (M := model prog w) X T.gx
  have hx0 : (false && onTheHeap (Value.builtin "BaseException.__getattribute__")) = false := rfl
  have hx2 : (Value.builtin "BaseException.__getattribute__" == Value.builtin "object.__getattribute__") = false := by decide +kernel
  have hx1 : (onTheHeap (Value.ref C) && Value.builtin "BaseException.__getattribute__" == Value.builtin "object.__getattribute__") = false := by rw [hx2]; rfl
  repeat (any_goals (first | assumption | (with_reducible refine wpAny_loadPart_at hx ?_; rw [hc]) | (with_reducible refine L1.at ?_) | (with_reducible refine L2.at ?_) | wp_step))
  refine exc_call T X hx hc ?_
  repeat (any_goals (first | assumption | wp_step))
theorem exc_attr {Q : Option Value → Shared → Prop} (T : ExTy K C) (X : K.In h) (hx : h.get? a = some o) (hc : o.cls = .ref C) (hq : Q (some (.ref C)) ⟨h, g, d, t + 1, os⟩) : wpAny (model prog w) A (getAttr? (.ref a) "__class__") Q E ⟨h, g, d, t, os⟩ := by
  unfold getAttr? getAttrBy?
  repeat (any_goals (first | assumption | with_reducible apply exc_by T X hx hc | wp_step))
theorem kitx_exc (T : ExTy K C) : PySem.W.KitX K (.ref a) (.ref C) (fun h => ∃ o vs, h.get? a = some o ∧ o.cls = .ref C ∧ o.data = .fields vs) where
  ty := fun _ _ _ ⟨o, _, h1, h2, _⟩ => h2 ▸ (PySem.W.Looks.ld h1).andThen .now
  it := fun _ _ X _ => (PySem.W.kit_cls X T.ty).2.1
  ne := fun h tp dd its n sl X htp => by
    refine Bool.eq_false_iff.mpr fun q => ?_
    have e : C = tp := Value.ref.inj (beq_iff_eq.mp q)
    subst e
    have z : (if ((PySem.W.clsIn K C).isSome && PySem.W.typeIn K (.ref C) == some (.type "type")) = true then PySem.W.subIn K (.ref C) (.ref C) else none) = some true := T.ty
    by_cases hC : ((PySem.W.clsIn K C).isSome && PySem.W.typeIn K (.ref C) == some (.type "type")) = true
    · rw [Bool.and_eq_true] at hC
      have z0 := hC.1
      unfold PySem.W.clsIn at z0
      split at z0
      · rename_i c' d' cd' sl' ho
        have z2 := (X _ _ ho).symm.trans htp
        cases z2
      · cases z0
    · rw [if_neg hC] at z; exact L2.ns_ z
  ca := fun {_ _ _ _ _ s} X ⟨o, _, h1, h2, _⟩ k => by
    obtain ⟨hh, gg, dd, tt, oo⟩ := s
    exact exc_attr T X h1 h2 k
end
section
variable {X : Cx}
inductive r_call_isiX (K : PySem.W.Frag) (xs : List V) (H : Hp) (Q : VK) : Prop
  | mk : ∀ a y c C b, (xs = [.ref a, y]) → (clsV y = some c) → (H a = some (excO a C)) → (ExTy K C) → (PySem.W.kitOne K (.ref C) c = some b) → (Q (.bl b) H) → r_call_isiX K xs H Q
theorem call_isiX : CallR X (.builtin "isinstance") (r_call_isiX X.K) := by
  intro pins s σ H xs us Q I r h
  obtain ⟨a, y, c, C, b, rfl, hc, ha, T, hk, q⟩ := h
  refine L2.ob_eeaa (vals2 r) fun u w' e_2 rx ry => ?_; subst e_2
  obtain rfl := clsV_rel hc ry
  cases rx
  obtain ⟨p, _, _⟩ := I.hok a _ ha
  exact PySem.W.kia_one (kitx_exc T) I.kIn p hk (fun z => nomatch z) fun tk => ⟨.bl b, H, I.tok tk, rfl, q⟩
theorem ints_at {ns : List Int} {its : List Value} (r : Vals (ns.map V.int) its) {i : Nat} {v : Value} (e : its.toArray[i]? = some v) : i < ns.length ∧ ∃ t, v = .int (ns.getD i 0) t := by
  have e' : its[i]? = some v := by simpa using e
  have hl := r.length
  rw [List.length_map] at hl
  have hi : i < ns.length := by rw [hl]; exact (List.getElem?_eq_some_iff.mp e').1
  refine ⟨hi, ?_⟩
  obtain ⟨u, hu, ru⟩ := r.get (i := i) (x := .int (ns.getD i 0)) (by rw [List.getElem?_map, List.getD_eq_getElem?_getD, List.getElem?_eq_getElem hi]; rfl)
  rw [e'] at hu; obtain rfl := Option.some.inj hu
  exact ru
theorem getD_in {ns : List Int} {i : Nat} (h : i < ns.length) : ns.getD i 0 ∈ ns := by
  rw [List.getD_eq_getElem?_getD, List.getElem?_eq_getElem h]
  exact List.getElem_mem h
theorem in_getD {ns : List Int} {a : Int} (h : a ∈ ns) : ∃ j, j < ns.length ∧ ns.getD j 0 = a := by
  obtain ⟨j, hj⟩ := List.getElem?_of_mem h
  have hl := (List.getElem?_eq_some_iff.mp hj).1
  exact ⟨j, hl, by rw [List.getD_eq_getElem?_getD, hj]; rfl⟩
theorem pos_of_ne {α : Type} {l : List α} (h : l ≠ []) : 0 < l.length := by cases l with
  | nil => exact absurd rfl h
  | cons a r => simp
theorem kept_of_push {h : Heap} {ob : Obj} {h' : Heap} (k : ∀ b o, b ∉ [h.objs.size] → (h.push ob).get? b = some o → h'.get? b = some o) : ∀ b o, h.get? b = some o → h'.get? b = some o := fun b o e =>
  k b o (by simp; exact Nat.ne_of_lt (Heap.lt_size e)) (Heap.get?_push_of_some _ e)
theorem call_maxL (hc : X.calm = true) : CallR X (.builtin "max") (rBest X.K fun a M => a ≤ M) := by
  intro pins s σ H xs us Q I r h
  obtain ⟨p, ns, rfl, hq, hne, q⟩ := h
  refine L2.ob_ea (vals1 r) fun u e_1 rx => ?_; subst e_1
  cases rx
  have hpos := pos_of_ne hne
  obtain ⟨b1, b2⟩ := argBest_gt (fun i => ns.getD i 0) (ns.length - 1)
  have fin : ∀ {its : List Value} {v : Value} {h' : Heap} {tk : Nat}, Vals (ns.map V.int) its → its.toArray[argBest (fun i j => decide (ns.getD i 0 > ns.getD j 0)) (its.toArray.size - 1)]? = some v → (∀ b o, s.heap.get? b = some o → h'.get? b = some o) → EP X pins σ Q v { s with heap := h', toks := tk } := fun {its v h' tk} rv e k => by
    have hl := rv.length
    rw [List.length_map] at hl
    rw [List.size_toArray, ← hl] at e
    obtain ⟨_, t, rfl⟩ := ints_at rv e
    refine ⟨.int _, H, I.kept k, ⟨t, rfl⟩, q _ (getD_in (by lia)) fun a ha => ?_⟩
    refine L2.ob_ea (in_getD ha) fun j hj e_2 => ?_; subst e_2
    exact b2 j (by lia)
  rcases hq with hq | hq
  · refine L2.ob_eaa (I.list hq) fun its rv pl hz => ?_
    have hl := rv.length
    rw [List.length_map] at hl
    refine call_max_walk (wpAny_pyIter_list pl.isList ?_)
    have hpl : p < s.heap.objs.size := by obtain ⟨o, e, _⟩ := pl.isList; exact Heap.lt_size e
    refine ⟨_, _, _, _, _, _, _, rfl, Walks.list (A := X.A.in1) (I.ok.hd hc) s.heap.objs.size p (Nat.ne_of_lt hpl) its.toArray, ⟨⟨_, Heap.get?_push_size _ rfl, rfl, rfl⟩, pl.isList.push _⟩, fun b hb => ?_, by rw [List.size_toArray]; lia, CmpOf.ints_gt (fun i => ns.getD i 0) (fun i v e => (ints_at rv e).2), fun v h' tk hP hk => fin rv hP (kept_of_push hk)⟩
    have hb' : b = s.heap.objs.size ∨ b = p := by simpa using hb
    show b < (s.heap.push _).objs.size
    rw [Heap.size_push]
    rcases hb' with rfl | rfl
    · exact Nat.lt_succ_self _
    · exact Nat.lt_succ_of_lt hpl
  · refine L2.ob_eaa (I.tuple hq) fun its rv pl hz => ?_
    have hl := rv.length
    rw [List.length_map] at hl
    refine call_max_walk (wpAny_pyIter_tuple (show s.heap.IsTuple p its.toArray from pl) ?_)
    have hpl : p < s.heap.objs.size := by obtain ⟨o, e, _⟩ := pl; exact Heap.lt_size e
    obtain ⟨o, e, c1, n1, d1⟩ := id pl
    refine ⟨_, _, _, _, _, _, _, rfl, Walks.tuple (A := X.A.in1) (I.ok.hd hc) s.heap.objs.size p (Nat.ne_of_lt hpl) its.toArray, ⟨⟨_, Heap.get?_push_size _ rfl, rfl, rfl⟩, ⟨o, Heap.get?_push_of_some _ e, c1, n1, d1⟩⟩, fun b hb => ?_, by rw [List.size_toArray]; lia, CmpOf.ints_gt (fun i => ns.getD i 0) (fun i v e => (ints_at rv e).2), fun v h' tk hP hk => fin rv hP (kept_of_push hk)⟩
    have hb' : b = s.heap.objs.size ∨ b = p := by simpa using hb
    show b < (s.heap.push _).objs.size
    rw [Heap.size_push]
    rcases hb' with rfl | rfl
    · exact Nat.lt_succ_self _
    · exact Nat.lt_succ_of_lt hpl
theorem bls_at {bs : List Bool} {its : List Value} (r : Vals (bs.map V.bl) its) {i : Nat} {v : Value} (e : its.toArray[i]? = some v) : v = .bool (bs.getD i true) := by
  have e' : its[i]? = some v := by simpa using e
  have hl := r.length
  rw [List.length_map] at hl
  have hi : i < bs.length := by rw [hl]; exact (List.getElem?_eq_some_iff.mp e').1
  obtain ⟨u, hu, ru⟩ := r.get (i := i) (x := .bl (bs.getD i true)) (by rw [List.getElem?_map, List.getD_eq_getElem?_getD, List.getElem?_eq_getElem hi]; rfl)
  rw [e'] at hu; obtain rfl := Option.some.inj hu
  exact ru
noncomputable def rangeL (lo : Int) (n : Nat) : List Int := (List.range n).map fun (i : Nat) => lo + (i : Int)
inductive rListRng  (xs : List V) (H : Hp) (Q : VK) : Prop
  | mk : ∀ p lo hi, (xs = [.ref p]) → (H p = some (.rng lo hi)) → ((-(2 ^ 62) ≤ lo ∧ lo < 2 ^ 62 ∧ -(2 ^ 62) ≤ hi ∧ hi < 2 ^ 62)) → ((hi - lo).toNat ≤ sizeLine) → ((hi - lo).toNat ≤ 2 ^ 24) → (∀ l, H l = none → Q (.ref l) (upd H l (.lst ((rangeL lo (hi - lo).toNat).map V.int)))) → rListRng xs H Q
theorem vals_of_items {lo : Int} : ∀ {n : Nat} {acc : List Value}, acc.length = n → (∀ (j : Nat) v, acc[j]? = some v → ∃ t, v = .int (lo + j) t) → Vals ((rangeL lo n).map V.int) acc := by
  intro n acc hl ha
  unfold rangeL
  rw [List.map_map]
  induction n generalizing acc lo with
  | zero =>
    cases acc with
    | nil => exact .nil
    | cons a r => simp at hl
  | succ n ih =>
    cases acc with
    | nil => simp at hl
    | cons a r =>
      rw [List.range_succ_eq_map, List.map_cons, List.map_map]
      obtain ⟨t, rfl⟩ := ha 0 a rfl
      refine .cons ⟨t, by simp⟩ ?_
      have := ih (lo := lo + 1) (acc := r) (by simpa using hl) (fun j v e => by
        obtain ⟨t, rfl⟩ := ha (j + 1) v (by simpa using e)
        exact ⟨t, by congr 1; push_cast; lia⟩)
      refine cast ?_ this
      congr 1
      refine List.map_congr_left fun i _ => ?_
      simp only [Function.comp]
      congr 1
      push_cast
      lia
theorem call_list_rng (hc : X.calm = true) : CallR X (.type "list") rListRng := by
  intro pins s σ H xs us Q I r h
  obtain ⟨p, lo, hi, rfl, hp, ⟨h1, h2, h3, h4⟩, hz, hz2, q⟩ := h
  refine L2.ob_ea (vals1 r) fun u e_1 rx => ?_; subst e_1
  cases rx
  obtain ⟨t, u, v, e⟩ := I.hok p _ hp
  have hf : H s.heap.objs.size = none := I.hok.fresh (Nat.le_refl _)
  have hsz : Builtin.Range.rangeSize lo hi 1 = ((hi - lo).toNat : Nat) := by rw [rangeSize_one]; split <;> lia
  refine call_list_range (I.ok.hd hc) (r := p) e (small_one h1 h2 h3 h4) hsz hz2 fun h' tk acc' c' hk hl hit => ?_
  refine ⟨.ref s.heap.objs.size, _, I.laid (o := .lst ((rangeL lo (hi - lo).toNat).map V.int)) hk (Nat.le_refl _) ?_, rfl, q _ hf⟩
  refine ⟨by rw [List.length_map, rangeL, List.length_map, List.length_range]; exact hz, acc'.toList, c', vals_of_items (by rw [Array.length_toList]; exact hit.1) (fun j v e => ?_), by simpa using hl⟩
  obtain ⟨t, rfl⟩ := hit.2 j v (by simpa using e)
  exact ⟨t, by rw [Int.mul_one]⟩
end
end L2

namespace NM
theorem foldl_take {α β : Type} (f : β → α → β) (b : β) (xs : List α) (i : Nat) (x : α) (h : xs[i]? = some x) :
    (xs.take (i+1)).foldl f b = f ((xs.take i).foldl f b) x := by
  rw [List.take_succ, h]
  simp [List.foldl_append]
noncomputable def stepOk (ahead : Int) (l : List Int) : Bool := decide (l.length = 2) && l.all (fun v => decide (0 ≤ v) && decide (v < ahead))
noncomputable def stepsOk (wide : Int) (steps : List (List Int)) : Prop := ∀ (k : Nat) l, steps[k]? = some l → stepOk (wide + k) l = true
noncomputable def outsOk (lim : Int) (outs : List Int) : Prop := ∀ v ∈ outs, 0 ≤ v ∧ v < lim
structure Good (wide : Int) (steps : List (List Int)) (outs : List Int) : Prop where
  lo : 1 ≤ wide
  hi : wide ≤ 64
  len : steps.length ≤ 500
  st : stepsOk wide steps
  ol : (outs.length : Int) = wide
  ou : outsOk (wide + steps.length) outs
noncomputable instance (wide : Int) (steps : List (List Int)) : Decidable (stepsOk wide steps) :=
  decidable_of_iff (∀ k, k < steps.length → ∀ l, steps[k]? = some l → stepOk (wide + k) l = true)
    ⟨fun h k l e => h k (List.getElem?_eq_some_iff.mp e).1 l e, fun h k _ l e => h k l e⟩
noncomputable instance (lim : Int) (outs : List Int) : Decidable (outsOk lim outs) := by unfold outsOk; exact inferInstance
noncomputable instance (wide : Int) (steps : List (List Int)) (outs : List Int) : Decidable (Good wide steps outs) :=
  decidable_of_iff (1 ≤ wide ∧ wide ≤ 64 ∧ steps.length ≤ 500 ∧ stepsOk wide steps ∧ (outs.length : Int) = wide ∧ outsOk (wide + steps.length) outs)
    ⟨fun ⟨a, b, c, d, e, f⟩ => ⟨a, b, c, d, e, f⟩, fun ⟨a, b, c, d, e, f⟩ => ⟨a, b, c, d, e, f⟩⟩
structure NetN where
  w : Nat
  st : List (Nat × Nat)
  ou : List Nat
structure NetN.Ok (N : NetN) : Prop where
  lo : 1 ≤ N.w
  hi : N.w ≤ 64
  len : N.st.length ≤ 500
  s1 : ∀ k p, N.st[k]? = some p → p.1 < N.w + k ∧ p.2 < N.w + k
  ol : N.ou.length = N.w
  ob : ∀ v ∈ N.ou, v < N.w + N.st.length
noncomputable def pairI (p : Nat × Nat) : List Int := [(p.1 : Int), (p.2 : Int)]
noncomputable def NetN.steps (N : NetN) : List (List Int) := N.st.map pairI
noncomputable def NetN.outs (N : NetN) : List Int := N.ou.map Int.ofNat
theorem pair_of {ahead : Int} {l : List Int} (h : stepOk ahead l = true) : ∃ a b : Nat, l = pairI (a, b) ∧ (a : Int) < ahead ∧ (b : Int) < ahead := by
  unfold stepOk at h
  simp only [Bool.and_eq_true, decide_eq_true_eq, List.all_eq_true] at h
  obtain ⟨hl, ha⟩ := h
  match l, hl with
  | [x, y], _ =>
    obtain ⟨x0, x1⟩ := ha x (by simp)
    obtain ⟨y0, y1⟩ := ha y (by simp)
    exact ⟨x.toNat, y.toNat, by simp only [pairI]; rw [Int.toNat_of_nonneg x0, Int.toNat_of_nonneg y0], by rw [Int.toNat_of_nonneg x0]; exact x1, by rw [Int.toNat_of_nonneg y0]; exact y1⟩
theorem steps_of {wide : Int} : ∀ {steps : List (List Int)} {k0 : Nat}, (∀ (k : Nat) l, steps[k]? = some l → stepOk (wide + (k0 + k : Nat)) l = true) →
    ∃ st : List (Nat × Nat), steps = st.map pairI ∧ ∀ (k : Nat) p, st[k]? = some p → (p.1 : Int) < wide + (k0 + k : Nat) ∧ (p.2 : Int) < wide + (k0 + k : Nat)
  | [], _, _ => ⟨[], rfl, fun k p h => by simp at h⟩
  | l :: r, k0, h => by
    refine L2.ob_eeaa (pair_of (h 0 l rfl)) fun a b e h1 h2 => ?_
    obtain ⟨st, e2, h3⟩ := steps_of (steps := r) (k0 := k0 + 1) (fun k l hl => by
      have := h (k+1) l (by simpa using hl)
      rw [show k0 + 1 + k = k0 + (k + 1) by lia]; exact this)
    refine ⟨(a, b) :: st, by rw [e, e2]; rfl, fun k p hp => ?_⟩
    cases k with
    | zero =>
      simp at hp; subst hp
      exact ⟨by simpa using h1, by simpa using h2⟩
    | succ k =>
      have := h3 k p (by simpa using hp)
      rw [show k0 + (k + 1) = k0 + 1 + k by lia]; exact this
theorem outs_of : ∀ {outs : List Int} {lim : Int}, outsOk lim outs → ∃ ou : List Nat, outs = ou.map Int.ofNat ∧ ∀ v ∈ ou, (v : Int) < lim
  | [], _, _ => ⟨[], rfl, fun v h => by simp at h⟩
  | x :: r, lim, h => by
    obtain ⟨x0, x1⟩ := h x (by simp)
    refine L2.ob_ea (outs_of (outs := r) (lim := lim) (fun v hv => h v (by simp [hv]))) fun ou e h2 => ?_
    refine ⟨x.toNat :: ou, by rw [e]; simp [Int.toNat_of_nonneg x0], fun v hv => ?_⟩
    rcases List.mem_cons.mp hv with rfl | hv
    · lia
    · exact h2 v hv
theorem Good.net {wide : Int} {steps : List (List Int)} {outs : List Int} (g : Good wide steps outs) :
    ∃ N : NetN, N.Ok ∧ wide = (N.w : Int) ∧ steps = N.steps ∧ outs = N.outs := by
  refine L2.ob_ea (steps_of (wide := wide) (steps := steps) (k0 := 0) (fun k l hl => by rw [Nat.zero_add]; exact g.st k l hl)) fun st e1 h1 => ?_
  refine L2.ob_ea (outs_of g.ou) fun ou e2 h2 => ?_
  have lo := g.lo
  have hi := g.hi
  have ol := g.ol
  have hw : ((wide.toNat : Nat) : Int) = wide := Int.toNat_of_nonneg (by solve_by_elim (maxDepth := 3) [Int.le_of_lt, Int.natCast_nonneg, Int.add_nonneg, Int.le_trans, Int.lt_of_lt_of_le, Int.lt_of_le_of_lt])
  refine ⟨⟨wide.toNat, st, ou⟩, ⟨?_, ?_, ?_, fun k p hp => ?_, ?_, fun v hv => ?_⟩, hw.symm, e1, e2⟩
  · show 1 ≤ wide.toNat; lia
  · show wide.toNat ≤ 64; lia
  · have := g.len; rw [e1] at this; simpa using this
  · have := h1 k p hp
    show p.1 < wide.toNat + k ∧ p.2 < wide.toNat + k
    constructor <;> lia
  · show ou.length = wide.toNat
    have : outs.length = ou.length := by rw [e2]; simp
    lia
  · have := h2 v hv
    show v < wide.toNat + st.length
    have : steps.length = st.length := by rw [e1]; simp
    lia
theorem NetN.Ok.good {N : NetN} (o : N.Ok) : Good (N.w : Int) N.steps N.outs where
  lo := by have := o.lo; lia
  hi := by have := o.hi; lia
  len := by unfold NetN.steps; simpa using o.len
  st := fun k l hl => by
    unfold NetN.steps at hl
    rw [List.getElem?_map] at hl
    cases e : N.st[k]? with
    | none => rw [e] at hl; cases hl
    | some p =>
      rw [e] at hl
      obtain ⟨h1, h2⟩ := o.s1 k p e
      cases (Option.some.inj hl)
      simp only [stepOk, pairI, List.length_cons, List.length_nil, List.all_cons, List.all_nil]
      simp
      lia
  ol := by unfold NetN.outs; simp [o.ol]
  ou := fun v hv => by
    unfold NetN.outs at hv
    refine L2.ob_ea (List.mem_map.mp hv) fun u hu e_2 => ?_; subst e_2
    have := o.ob u hu
    unfold NetN.steps
    simp only [List.length_map]
    constructor
    · simp
    · show (u : Int) < _; lia
noncomputable def deeper (a b : Int) : Int := if b > a then b else a
noncomputable def dstep (f : List Int) (p : Nat × Nat) : List Int := f ++ [1 + deeper (f.getD p.1 0) (f.getD p.2 0)]
noncomputable def NetN.depths (N : NetN) : List Int := N.st.foldl dstep (List.replicate N.w 0)
noncomputable def NetN.depthsTo (N : NetN) (i : Nat) : List Int := (N.st.take i).foldl dstep (List.replicate N.w 0)
theorem len_foldl_dstep : ∀ (st : List (Nat × Nat)) (f : List Int), (st.foldl dstep f).length = f.length + st.length
  | [], f => by simp
  | p :: r, f => by
    rw [List.foldl_cons, len_foldl_dstep r]; simp [dstep]; lia
theorem NetN.depthsTo_len (N : NetN) (i : Nat) : (N.depthsTo i).length = N.w + (N.st.take i).length := by
  unfold NetN.depthsTo; rw [len_foldl_dstep]; simp
theorem NetN.depthsTo_zero (N : NetN) : N.depthsTo 0 = List.replicate N.w 0 := by simp [NetN.depthsTo]
theorem NetN.depthsTo_succ (N : NetN) {i : Nat} {p : Nat × Nat} (h : N.st[i]? = some p) : N.depthsTo (i+1) = dstep (N.depthsTo i) p := foldl_take _ _ _ _ _ h
theorem NetN.depthsTo_all (N : NetN) : N.depthsTo N.st.length = N.depths := by simp [NetN.depthsTo, NetN.depths]
end NM
namespace NM
end NM

namespace L2
open PySem NM
theorem iteNT {c A B : Prop} [Decidable c] (hc : ¬ c) (h : A) : if (!decide c) = true then A else B := by
  rw [decide_eq_false hc]
  exact iteT h
theorem Same.upd {H H' : Hp} {l : Addr} {o : HO} (s : Same H H') (n : H l = Option.none) : Same H (upd H' l o) := fun b u e => by
  rw [upd_ne (ne_of_none e n)]
  exact s b u e
theorem Same.new {H : Hp} {l : Addr} {o : HO} (n : H l = Option.none) : Same H (L2.upd H l o) := (Same.refl H).upd n
inductive StepsAt (H : Hp) : List V → List (List Int) → Prop
  | nil : StepsAt H [] []
  | cons {r : Addr} {l : List Int} {rs : List V} {ls : List (List Int)} : H r = some (.tup (l.map V.int)) → StepsAt H rs ls → StepsAt H (.ref r :: rs) (l :: ls)
theorem StepsAt.mono {H H' : Hp} (s : Same H H') {rs : List V} {ls : List (List Int)} (h : StepsAt H rs ls) : StepsAt H' rs ls := by
  induction h with
  | nil => exact .nil
  | cons h _ ih => exact .cons (s _ _ h) ih
theorem StepsAt.length {H : Hp} {rs : List V} {ls : List (List Int)} (h : StepsAt H rs ls) : rs.length = ls.length := by
  induction h with
  | nil => rfl
  | cons _ _ ih => exact congrArg Nat.succ ih
theorem StepsAt.get {H : Hp} {rs : List V} {ls : List (List Int)} (s : StepsAt H rs ls) {i : Nat} {v : V} (e : rs[i]? = some v) : ∃ r l, v = .ref r ∧ ls[i]? = some l ∧ H r = some (.tup (l.map V.int)) := by
  induction s generalizing i with
  | nil => exact L2.ns_ e
  | cons h t ih => cases i with
    | zero => exact ⟨_, _, (Option.some.inj e).symm, rfl, h⟩
    | succ i => exact ih e
theorem StepsAt.snoc {H : Hp} {r : Addr} {l : List Int} {rs : List V} {ls : List (List Int)} (s : StepsAt H rs ls) (h' : H r = some (.tup (l.map V.int))) : StepsAt H (rs ++ [.ref r]) (ls ++ [l]) := by
  induction s with
  | nil => exact .cons h' .nil
  | cons h _ ih => exact .cons h ih
structure NetAt (H : Hp) (a : Addr) (wide : Int) (steps : List (List Int)) (outs : List Int) (sa oa : Addr) (rs : List V) : Prop where
  net : H a = some (.tup [.int wide, .ref sa, .ref oa])
  sts : H sa = some (.lst rs)
  st : StepsAt H rs steps
  ots : H oa = some (.lst (outs.map V.int))
theorem NetAt.mono {H H' : Hp} {a sa oa : Addr} {wide : Int} {steps : List (List Int)} {outs : List Int} {rs : List V} (n : NetAt H a wide steps outs sa oa rs) (s : Same H H') : NetAt H' a wide steps outs sa oa rs :=
  ⟨s _ _ n.net, s _ _ n.sts, n.st.mono s, s _ _ n.ots⟩
inductive spWhole  (vs : List V) (H : Hp) (Q : VK) (_e3 : XK) : Prop
  | mk : ∀ i : Int, (vs = [.int i]) → (Q (.bl true) H) → spWhole vs H Q _e3
inductive spWithin  (vs : List V) (H : Hp) (Q : VK) (_e3 : XK) : Prop
  | mk : ∀ v lo hi : Int, (vs = [.int v, .int lo, .int hi]) → (Q (.bl (decide (lo ≤ v) && decide (v ≤ hi))) H) → spWithin vs H Q _e3
noncomputable def nodeB (v ahead : Int) : Bool := decide (0 ≤ v) && decide (v < ahead)
inductive spNode  (vs : List V) (H : Hp) (Q : VK) (_e3 : XK) : Prop
  | mk : ∀ v ahead : Int, (vs = [.int v, .int ahead]) → (Q (.bl (nodeB v ahead)) H) → spNode vs H Q _e3
inductive spStep  (vs : List V) (H : Hp) (Q : VK) (_e3 : XK) : Prop
  | mk : ∀ (r : Addr) (l : List Int) (ahead : Int), (vs = [.ref r, .int ahead]) → (H r = some (.tup (l.map V.int))) → (Q (.bl (stepOk ahead l)) H) → spStep vs H Q _e3
inductive spWide (CB : Addr) (vs : List V) (H : Hp) (Q : VK) (E : XK) : Prop
  | mk : ∀ i : Int, (vs = [.int i]) → (((1 ≤ i ∧ i ≤ 64) → Q .non H)) → ((¬ (1 ≤ i ∧ i ≤ 64) → E (.ref CB) none H)) → spWide CB vs H Q E
inductive spSteps (CB : Addr) (vs : List V) (H : Hp) (Q : VK) (E : XK) : Prop
  | mk : ∀ (i : Int) (sa : Addr) (rs : List V) (ls : List (List Int)), (vs = [.int i, .ref sa]) → (H sa = some (.lst rs)) → (StepsAt H rs ls) → (∀ H', Same H H' → ((ls.length ≤ 500 ∧ stepsOk i ls) → Q .non H') ∧ (¬ (ls.length ≤ 500 ∧ stepsOk i ls) → E (.ref CB) none H')) → spSteps CB vs H Q E
inductive spOuts (CB : Addr) (vs : List V) (H : Hp) (Q : VK) (E : XK) : Prop
  | mk : ∀ (i : Int) (sa oa : Addr) (rs : List V) (outs : List Int), (vs = [.int i, .ref sa, .ref oa]) → (outs.length ≤ 10000) → (H sa = some (.lst rs)) → (H oa = some (.lst (outs.map V.int))) → (∀ H', Same H H' → (((outs.length : Int) = i ∧ outsOk (i + rs.length) outs) → Q .non H') ∧ (¬ ((outs.length : Int) = i ∧ outsOk (i + rs.length) outs) → E (.ref CB) none H')) → spOuts CB vs H Q E
inductive spLook (CB : Addr) (vs : List V) (H : Hp) (Q : VK) (E : XK) : Prop
  | mk : ∀ (a sa oa : Addr) (rs : List V) (wide : Int) (steps : List (List Int)) (outs : List Int), (vs = [.ref a]) → (outs.length ≤ 10000) → (NetAt H a wide steps outs sa oa rs) → (∀ H', Same H H' → (Good wide steps outs → Q .non H') ∧ (¬ Good wide steps outs → E (.ref CB) none H')) → spLook CB vs H Q E
inductive spNetFn (CB : Addr) (R : NetN → Hp → VK → Prop) (vs : List V) (H : Hp) (Q : VK) (E : XK) : Prop
  | mk : ∀ (a sa oa : Addr) (rs : List V) (wide : Int) (steps : List (List Int)) (outs : List Int), (vs = [.ref a]) → (outs.length ≤ 10000) → (NetAt H a wide steps outs sa oa rs) → (∀ H', Same H H' → (∀ N : NetN, N.Ok → wide = N.w → steps = N.steps → outs = N.outs → R N H' Q) ∧ (¬ Good wide steps outs → E (.ref CB) none H')) → spNetFn CB R vs H Q E
noncomputable def tellInts (f : NetN → List Int) : NetN → Hp → VK → Prop := fun N H Q => ∀ l, H l = some (.lst ((f N).map V.int)) → Q (.ref l) H
end L2
namespace L2
open PySem NM PyProof.Rows
theorem fA (p : Str) (hp : p.length ≤ 1000) : (Str.empty ++ p).length ≤ sizeLine := by
  rw [strLen_append, sizeLine_eq]; show 0 + p.length ≤ _; lia
theorem fI {i : Int} (h : i.natAbs.log2 < 1920) : (Str.ofString (toString i)).length ≤ 1921 := by
  have e := int_text_length_le (k := 1920) (by decide) h
  rw [PySem.ofString_length]; lia
theorem fB (p : Str) (hp : p.length ≤ 1000) {i : Int} (h : i.natAbs.log2 < 1920) : (Str.empty ++ p ++ Str.ofString (toString i)).length ≤ sizeLine := by
  have := fI h
  rw [strLen_append, strLen_append, sizeLine_eq]; show 0 + p.length + _ ≤ _; lia
theorem fC (p q : Str) (hp : p.length ≤ 1000) (hq : q.length ≤ 1000) {i : Int} (h : i.natAbs.log2 < 1920) : (Str.empty ++ p ++ Str.ofString (toString i) ++ q).length ≤ sizeLine := by
  have := fI h
  rw [strLen_append, strLen_append, strLen_append, sizeLine_eq]; show 0 + p.length + _ + _ ≤ _; lia
theorem log2_small {i : Nat} (h : i ≤ 16777216) : ((i : Int).natAbs).log2 < 1920 := by
  rw [Int.natAbs_natCast]
  have h1 : i.log2 ≤ i := Nat.log2_le_self i
  by_cases hi : i = 0
  · subst hi; decide
  · exact Nat.lt_of_lt_of_le (Nat.log2_lt hi |>.mpr (Nat.lt_of_le_of_lt h (by decide : 16777216 < 2 ^ 25))) (by decide)
theorem iteB {b : Bool} {A B : Prop} (h1 : b = true → A) (h2 : b = false → B) : if b = true then A else B := by
  cases b with
  | true => exact iteT (h1 rfl)
  | false => exact iteF (h2 rfl)
theorem iteN {b : Bool} {A B : Prop} (h1 : b = false → A) (h2 : b = true → B) : if (!b) = true then A else B := by
  cases b with
  | true => exact iteF (h2 rfl)
  | false => exact iteT (h1 rfl)
end L2
namespace L2
open PySem NM PyProof.Rows
theorem atI_ints {xs : List Int} {j : Nat} (h : j < xs.length) : atI (xs.map V.int) (j : Int) = some (.int (xs.getD j 0)) :=
  atI_nat (by rw [List.getElem?_map, List.getElem?_eq_getElem h, List.getD_eq_getElem?_getD, List.getElem?_eq_getElem h]; rfl)
theorem ixN_nat {n j : Nat} (h : j < n) : ixN n (j : Int) = some j := by
  unfold ixN
  rw [if_pos (by exact Int.natCast_nonneg _), if_pos (by lia)]
  simp
theorem rep_one {α : Type} (x : α) : ∀ n : Nat, (List.replicate n [x]).flatten = List.replicate n x
  | 0 => rfl
  | n + 1 => by rw [List.replicate_succ, List.flatten_cons, rep_one x n]; rfl
theorem rep_int (n : Nat) : (List.replicate n [V.int 0]).flatten = (List.replicate n (0 : Int)).map V.int := by rw [rep_one, List.map_replicate]
theorem rep_bl (n : Nat) : (List.replicate n [V.bl false]).flatten = (List.replicate n false).map V.bl := by rw [rep_one, List.map_replicate]
theorem fits {n : Nat} (h : n ≤ 10000) : n ≤ sizeLine := by rw [sizeLine_eq]; lia
theorem fitsL {n : Nat} (h : n ≤ 10000) : n < sizeLine := by rw [sizeLine_eq]; lia
theorem NetN.Ok.steps_get {N : NetN} {H : Hp} {rs : List V} (st : StepsAt H rs N.steps) {i : Nat} {x : V} (hx : rs[i]? = some x) : ∃ r p, x = .ref r ∧ N.st[i]? = some p ∧ H r = some (.tup [.int p.1, .int p.2]) := by
  refine L2.ob_eeaa (st.get hx) fun r l e hl hr => ?_
  unfold NetN.steps at hl
  rw [List.getElem?_map] at hl
  refine L2.ob_ea (Option.map_eq_some_iff.mp hl) fun p hp e_2 => ?_; subst e_2
  exact ⟨r, p, e, hp, hr⟩
theorem steps_len {N : NetN} : N.steps.length = N.st.length := by unfold NetN.steps; simp
theorem outs_len {N : NetN} : N.outs.length = N.ou.length := by unfold NetN.outs; simp
end L2
namespace L2
end L2
namespace L2
open PySem PyProof.Rows
theorem comp_list {K : PySem.W.Frag} {a : Addr} {xs : List V} {js : List Nat} {te : TE} {σ : St} {H : Hp} {Fin : List V → Hp → Prop} (Pv : Nat → List V → Hp → Prop) (h0 : Pv 0 [] H) (hl : ∀ i ys H, i ≤ xs.length → Pv i ys H → SqL K H a xs) (hz : ∀ i ys H, i < xs.length → Pv i ys H → ys.length < sizeLine)
    (hs : ∀ i x ys H (T : V → Hp → Prop), xs[i]? = some x → Pv i ys H → (∀ y H2, Pv (i + 1) (ys ++ [y]) H2 → T y H2) → te (compSt (some x) σ js) H T) (hd : ∀ ys H, Pv xs.length ys H → Fin ys H) : compGo (Itl K a) js none te σ H Fin := by
  refine ⟨fun i m ys H => m = xs.length - i ∧ i ≤ xs.length ∧ Pv i ys H, ⟨xs.length, by simp, Nat.zero_le _, h0⟩, ?_⟩
  rintro i m ys H ⟨rfl, hi, p⟩
  have q := hl i ys H hi p
  by_cases hlt : i < xs.length
  · refine .inr ⟨⟨xs, xs[i], q, by simp [hlt]⟩, hz i ys H hlt p, fun x H' y => ?_⟩
    obtain ⟨e, y⟩ := y
    subst e
    unfold tests
    simp only [if_true]
    exact hs i x ys _ _ (y xs q) p fun y H2 p2 => ⟨xs.length - (i + 1), by lia, rfl, hlt, p2⟩
  · have e : i = xs.length := by lia
    subst e
    exact .inl ⟨⟨xs, q, Nat.le_refl _⟩, hd ys H p⟩
theorem comp_range {lo : Int} {n : Nat} {js : List Nat} {te : TE} {σ : St} {H : Hp} {Fin : List V → Hp → Prop} (Pv : Nat → List V → Hp → Prop) (h0 : Pv 0 [] H) (hz : ∀ i ys H, i < n → Pv i ys H → ys.length < sizeLine)
    (hs : ∀ i ys H (T : V → Hp → Prop), i < n → Pv i ys H → (∀ y H2, Pv (i + 1) (ys ++ [y]) H2 → T y H2) → te (compSt (some (.int (lo + i))) σ js) H T) (hd : ∀ ys H, Pv n ys H → Fin ys H) : compGo (Itr lo n) js none te σ H Fin := by
  refine ⟨fun i m ys H => m = n - i ∧ i ≤ n ∧ Pv i ys H, ⟨n, by simp, Nat.zero_le _, h0⟩, ?_⟩
  rintro i m ys H ⟨rfl, hi, p⟩
  by_cases hlt : i < n
  · refine .inr ⟨hlt, hz i ys H hlt p, fun x H' y => ?_⟩
    obtain ⟨e, y⟩ := y
    subst e y
    unfold tests
    simp only [if_true]
    exact hs i ys _ _ hlt p fun y H2 p2 => ⟨n - (i + 1), by lia, rfl, hlt, p2⟩
  · have e : i = n := by lia
    subst e
    exact .inl ⟨Nat.le_refl _, hd ys H p⟩
end L2

namespace L2
open PySem PyProof.Rows
noncomputable abbrev rLenS := r_call_len_seq
theorem call_lenS {X : Cx} : CallR X (.builtin "len") (rLenS X.K) := call_len_seq
noncomputable def nodupS : List Str → Bool
  | [] => true
  | a :: r => !(r.contains a) && nodupS r
theorem nodupS_of : ∀ {l : List Str}, nodupS l = true → l.Nodup
  | [], _ => List.nodup_nil
  | a :: r, h => by
    unfold nodupS at h
    rw [Bool.and_eq_true] at h
    refine List.nodup_cons.mpr ⟨fun z => ?_, nodupS_of h.2⟩
    have : r.contains a = true := List.contains_iff_mem.mpr z
    rw [this] at h
    exact absurd h.1 (by decide)
end L2
namespace L2
open PySem NM PyProof.Rows
inductive spCell (K : PySem.W.Frag) (vs : List V) (H : Hp) (Q : VK) (_e3 : XK) : Prop
  | mk : ∀ (a : Addr) (ns : List Int) (k : Int), (vs = [.ref a, .int k]) → (SqL K H a (ns.map V.int)) → (∀ i : Int, Q (.int i) H) → spCell K vs H Q _e3
inductive spMix (K : PySem.W.Frag) (vs : List V) (H : Hp) (Q : VK) (_e3 : XK) : Prop
  | mk : ∀ (a : Addr) (ns : List Int) (k : Int), (vs = [.ref a, .int k]) → (SqL K H a (ns.map V.int)) → (∀ i : Int, 0 ≤ i → Q (.int i) H) → spMix K vs H Q _e3
theorem mod_at {ns : List Int} {k : Int} (h : ns ≠ []) : ∃ z, atI (ns.map V.int) (k % (((ns.map V.int).length : Nat) : Int)) = some (.int z) := by
  have hp := pos_of_ne h
  rw [List.length_map]
  have h0 := Int.emod_nonneg k (show ((ns.length : Nat) : Int) ≠ 0 by lia)
  have h1 := Int.emod_lt_of_pos k (show 0 < ((ns.length : Nat) : Int) by lia)
  have e : k % ((ns.length : Nat) : Int) = (((k % ((ns.length : Nat) : Int)).toNat : Nat) : Int) := by lia
  rw [e]
  exact ⟨_, atI_ints (by lia)⟩
end L2

namespace L2
theorem StepsAt.keep {H H' : Hp} {rs : List V} {ls : List (List Int)} (s : StepsAt H rs ls) (k : ∀ r u, H r = some (.tup u) → H' r = some (.tup u)) : StepsAt H' rs ls := by
  induction s with
  | nil => exact .nil
  | cons h _ ih => exact .cons (k _ _ h) ih
end L2
namespace L2
open PySem NM PyProof.Rows
end L2
namespace L2
open PySem NM PyProof.Rows
theorem boot_ValueError : bootBuiltins "ValueError" = some (.type "ValueError") := by decide +kernel
theorem iteDF {c A B : Prop} [Decidable c] (hc : ¬ c) (h : B) : if decide c = true then A else B := by
  rw [decide_eq_false hc]; exact iteF h
theorem iteDT {c A B : Prop} [Decidable c] (hc : c) (h : A) : if decide c = true then A else B := by
  rw [decide_eq_true hc]; exact iteT h
end L2
namespace L2
open PySem NM PyProof.Rows
theorem new_at {H : Hp} {t x : Addr} {o u : HO} (hn : H t = Option.none) (h : H x = some u) : L2.upd H t o x = some u := (Same.new hn) _ _ h
noncomputable def cutL {α : Type} (xs : List α) (lo hi : Option Int) : List α := (xs.drop (HT.sIx xs.length 0 lo)).take (HT.sIx xs.length xs.length hi - HT.sIx xs.length 0 lo)
theorem pick4 {α : Type} {a b c d : α} {i : Int} (h0 : 0 ≤ i) (h1 : i < 4) {R : α → Prop} (ha : R a) (hb : R b) (hc : R c) (hd : R d) : ∃ z, atI [a, b, c, d] i = some z ∧ R z := by
  have : i = 0 ∨ i = 1 ∨ i = 2 ∨ i = 3 := by lia
  rcases this with rfl | rfl | rfl | rfl
  · exact ⟨a, rfl, ha⟩
  · exact ⟨b, rfl, hb⟩
  · exact ⟨c, rfl, hc⟩
  · exact ⟨d, rfl, hd⟩
theorem pick3 {α : Type} {a b c : α} {i : Int} (h0 : 0 ≤ i) (h1 : i < 3) {R : α → Prop} (ha : R a) (hb : R b) (hc : R c) : ∃ z, atI [a, b, c] i = some z ∧ R z := by
  have : i = 0 ∨ i = 1 ∨ i = 2 := by lia
  rcases this with rfl | rfl | rfl
  · exact ⟨a, rfl, ha⟩
  · exact ⟨b, rfl, hb⟩
  · exact ⟨c, rfl, hc⟩
theorem netAt_new {H : Hp} {n sa oa : Addr} {wide : Int} {steps : List (List Int)} {outs : List Int} {rs : List V} (hn : H n = Option.none) (h1 : H sa = some (.lst rs)) (h2 : StepsAt H rs steps) (h3 : H oa = some (.lst (outs.map V.int))) :
    NetAt (L2.upd H n (.tup [.int wide, .ref sa, .ref oa])) n wide steps outs sa oa rs := ⟨upd_same, new_at hn h1, h2.mono (Same.new hn), new_at hn h3⟩
end L2

namespace L2
open PySem NM PyProof.Rows
theorem pairI_inj : ∀ {a b : List (Nat × Nat)}, a.map pairI = b.map pairI → a = b
  | [], [], _ => rfl
  | [], _ :: _, h => by simp at h
  | _ :: _, [], h => by simp at h
  | p :: r, q :: t, h => by
    rw [List.map_cons, List.map_cons] at h
    obtain ⟨h1, h2⟩ := List.cons.inj h
    unfold pairI at h1
    simp only [List.cons.injEq, and_true] at h1
    have e1 : p.1 = q.1 := by lia
    have e2 : p.2 = q.2 := by lia
    rw [pairI_inj h2, show p = q from Prod.ext e1 e2]
theorem ofNat_inj : ∀ {a b : List Nat}, a.map Int.ofNat = b.map Int.ofNat → a = b
  | [], [], _ => rfl
  | [], _ :: _, h => by simp at h
  | _ :: _, [], h => by simp at h
  | p :: r, q :: t, h => by
    rw [List.map_cons, List.map_cons] at h
    obtain ⟨h1, h2⟩ := List.cons.inj h
    rw [ofNat_inj h2, show p = q from Int.ofNat.inj h1]
theorem net_inj {N M : NetN} (h1 : (N.w : Int) = M.w) (h2 : N.steps = M.steps) (h3 : N.outs = M.outs) : N = M := by
  obtain ⟨w, st, ou⟩ := N
  obtain ⟨w', st', ou'⟩ := M
  have e1 : w = w' := by
    have : (w : Int) = (w' : Int) := h1
    lia
  have e2 : st = st' := pairI_inj h2
  have e3 : ou = ou' := ofNat_inj h3
  rw [e1, e2, e3]
section
variable {N : NetN} {H : Hp} {Q : VK}
end
end L2

namespace L2
open PySem PySem.Spec PyProof.Rows
mutual
noncomputable def Dt.eqB : Dt → Dt → Bool
  | .non, .non => true
  | .bl a, .bl b => a == b
  | .bl a, .int i => (if a then 1 else 0) == i
  | .int i, .bl b => i == (if b then 1 else 0)
  | .int i, .int j => i == j
  | .str x, .str y => x == y
  | .lst a, .lst b => Dt.eqBs a b
  | .tup a, .tup b => Dt.eqBs a b
  | _, _ => false
noncomputable def Dt.eqBs : List Dt → List Dt → Bool
  | [], [] => true
  | a :: r, b :: t => Dt.eqB a b && Dt.eqBs r t
  | _, _ => false
end
theorem eqBs_len : ∀ {ds es : List Dt}, ds.length ≠ es.length → Dt.eqBs ds es = false
  | [], [], h => absurd rfl h
  | [], _ :: _, _ => rfl
  | _ :: _, [], _ => rfl
  | a :: r, b :: t, h => by
    show (Dt.eqB a b && Dt.eqBs r t) = false
    rw [eqBs_len (ds := r) (es := t) (fun z => h (congrArg Nat.succ z))]
    exact Bool.and_false _
theorem eqBs_range : ∀ {ds es : List Dt}, ds.length = es.length → ((List.range ds.length).all fun j => (ds.getD j .non).eqB (es.getD j .non)) = Dt.eqBs ds es
  | [], [], _ => rfl
  | [], _ :: _, h => by simp at h
  | _ :: _, [], h => by simp at h
  | a :: r, b :: t, h => by
    have ih := eqBs_range (ds := r) (es := t) (by simpa using h)
    show _ = (Dt.eqB a b && Dt.eqBs r t)
    rw [List.length_cons, List.range_succ_eq_map, List.all_cons, List.all_map, ← ih]
    rfl
mutual
theorem eqB_refl : ∀ d : Dt, d.eqB d = true
  | .non => rfl
  | .bl b => beq_self_eq_true b
  | .int i => beq_self_eq_true i
  | .str x => beq_self_eq_true x
  | .lst ds => eqBs_refl ds
  | .tup ds => eqBs_refl ds
theorem eqBs_refl : ∀ ds : List Dt, Dt.eqBs ds ds = true
  | [] => rfl
  | d :: r => by
    show (Dt.eqB d d && Dt.eqBs r r) = true
    rw [eqB_refl d, eqBs_refl r]; rfl
end
theorem deeps_len {K : PySem.W.Frag} {H : Hp} : ∀ {ds : List Dt} {xs : List V}, Deeps K H ds xs → ds.length = xs.length
  | [], xs, h => by
    have h : xs = [] := h
    subst h; rfl
  | d :: ds, xs, h => by
    obtain ⟨x, r, rfl, _, h2⟩ : ∃ x r, xs = x :: r ∧ Deep K H d x ∧ Deeps K H ds r := h
    simp [deeps_len h2]
section
variable {X : Cx} {pins : List (Addr × Obj)} {σ : St} {H : Hp} {s : Shared}
inductive Vw (X : Cx) (H : Hp) (s : Shared) : Dt → V → Value → Prop
  | non : Vw X H s .non .non .none
  | bl (b : Bool) : Vw X H s (.bl b) (.bl b) (.bool b)
  | int (i : Int) (t : Tok) : Vw X H s (.int i) (.int i) (.int i t)
  | str (x : Str) (t : Tok) : Vw X H s (.str x) (.str x) (.str x t)
  | lst {ds : List Dt} {a : Addr} {xs : List V} {its : List Value} (q : SqL X.K H a xs) (d : Deeps X.K H ds xs) (r : Vals xs its) (p : s.heap.IsList a its.toArray) : Vw X H s (.lst ds) (.ref a) (.ref a)
  | tup {ds : List Dt} {a : Addr} {xs : List V} {its : List Value} (q : SqT X.K H a xs) (d : Deeps X.K H ds xs) (r : Vals xs its) (p : s.heap.IsTuple a its.toArray) : Vw X H s (.tup ds) (.ref a) (.ref a)
theorem vw_of (I : Inv X pins σ H s) : ∀ {d : Dt} {v : V} {u : Value}, Deep X.K H d v → RelV v u → Vw X H s d v u := by
  intro d v u h r
  cases d with
  | non => have h : v = .non := h
           subst h; cases r; exact .non
  | bl b => have h : v = .bl b := h
            subst h; cases r; exact .bl b
  | int i => have h : v = .int i := h
             subst h; obtain ⟨t, rfl⟩ := r; exact .int i t
  | str x => have h : v = .str x := h
             subst h; obtain ⟨t, rfl⟩ := r; exact .str x t
  | lst ds =>
    obtain ⟨a, xs, rfl, q, d⟩ : ∃ a xs, v = .ref a ∧ SqL X.K H a xs ∧ Deeps X.K H ds xs := h
    cases r
    obtain ⟨its, rv, p, _⟩ := I.list q
    exact .lst q d rv p.isList
  | tup ds =>
    obtain ⟨a, xs, rfl, q, d⟩ : ∃ a xs, v = .ref a ∧ SqT X.K H a xs ∧ Deeps X.K H ds xs := h
    cases r
    obtain ⟨its, rv, p, _⟩ := I.tuple q
    exact .tup q d rv p
mutual
theorem deep_inj (I : Inv X pins σ H s) : ∀ (d e : Dt) {v : V}, Deep X.K H d v → Deep X.K H e v → d = e
  | .lst ds, e, v, h1, h2 => by
    obtain ⟨a, xs, rfl, q, d1⟩ : ∃ a xs, v = .ref a ∧ SqL X.K H a xs ∧ Deeps X.K H ds xs := h1
    cases e with
    | lst es =>
      obtain ⟨b, ys, e1, q2, d2⟩ : ∃ a' xs, V.ref a = .ref a' ∧ SqL X.K H a' xs ∧ Deeps X.K H es xs := h2
      cases e1
      obtain rfl := I.list_inj q q2
      rw [deeps_inj I ds es d1 d2]
    | tup es =>
      obtain ⟨b, ys, e1, q2, d2⟩ : ∃ a' xs, V.ref a = .ref a' ∧ SqT X.K H a' xs ∧ Deeps X.K H es xs := h2
      cases e1
      obtain ⟨_, _, p, _⟩ := I.list q
      obtain ⟨_, _, p2, _⟩ := I.tuple q2
      exact absurd rfl (SeqAt.ne_of_list_tuple p.isList p2)
    | _ => cases h2
  | .tup ds, e, v, h1, h2 => by
    obtain ⟨a, xs, rfl, q, d1⟩ : ∃ a xs, v = .ref a ∧ SqT X.K H a xs ∧ Deeps X.K H ds xs := h1
    cases e with
    | tup es =>
      obtain ⟨b, ys, e1, q2, d2⟩ : ∃ a' xs, V.ref a = .ref a' ∧ SqT X.K H a' xs ∧ Deeps X.K H es xs := h2
      cases e1
      obtain rfl := I.tuple_inj q q2
      rw [deeps_inj I ds es d1 d2]
    | lst es =>
      obtain ⟨b, ys, e1, q2, d2⟩ : ∃ a' xs, V.ref a = .ref a' ∧ SqL X.K H a' xs ∧ Deeps X.K H es xs := h2
      cases e1
      obtain ⟨_, _, p, _⟩ := I.list q2
      obtain ⟨_, _, p2, _⟩ := I.tuple q
      exact absurd rfl (SeqAt.ne_of_list_tuple p.isList p2)
    | _ => cases h2
  | .non, e, v, h1, h2 => by
    cases h1
    cases e with
    | non => rfl
    | lst _ => obtain ⟨_, _, z, _⟩ := h2; cases z
    | tup _ => obtain ⟨_, _, z, _⟩ := h2; cases z
    | _ => cases h2
  | .bl b, e, v, h1, h2 => by
    cases h1
    cases e with
    | bl _ => cases h2; rfl
    | lst _ => obtain ⟨_, _, z, _⟩ := h2; cases z
    | tup _ => obtain ⟨_, _, z, _⟩ := h2; cases z
    | _ => cases h2
  | .int i, e, v, h1, h2 => by
    cases h1
    cases e with
    | int _ => cases h2; rfl
    | lst _ => obtain ⟨_, _, z, _⟩ := h2; cases z
    | tup _ => obtain ⟨_, _, z, _⟩ := h2; cases z
    | _ => cases h2
  | .str x, e, v, h1, h2 => by
    cases h1
    cases e with
    | str _ => cases h2; rfl
    | lst _ => obtain ⟨_, _, z, _⟩ := h2; cases z
    | tup _ => obtain ⟨_, _, z, _⟩ := h2; cases z
    | _ => cases h2
theorem deeps_inj (I : Inv X pins σ H s) : ∀ (ds es : List Dt) {xs : List V}, Deeps X.K H ds xs → Deeps X.K H es xs → ds = es
  | [], [], _, _, _ => rfl
  | [], e :: es, xs, h1, h2 => by
    cases h1
    obtain ⟨_, _, z, _⟩ := h2; cases z
  | d :: ds, [], xs, h1, h2 => by
    cases h2
    obtain ⟨_, _, z, _⟩ := h1; cases z
  | d :: ds, e :: es, xs, h1, h2 => by
    obtain ⟨x, r, rfl, a1, a2⟩ : ∃ x r, xs = x :: r ∧ Deep X.K H d x ∧ Deeps X.K H ds r := h1
    obtain ⟨x', r', z, b1, b2⟩ : ∃ x' r', x :: r = x' :: r' ∧ Deep X.K H e x' ∧ Deeps X.K H es r' := h2
    cases z
    rw [deep_inj I d e a1 b1, deeps_inj I ds es a2 b2]
end
noncomputable def eJ (ds es : List Dt) : Nat → Bool := fun j => (ds.getD j .non).eqB (es.getD j .non)
theorem all_lists {ds es : List Dt} {us ws : List Value} (h1 : ds.length = us.length) (h2 : es.length = ws.length) (h : us.toArray.size = ws.toArray.size) : ((List.range us.toArray.size).all (eJ ds es)) = Dt.eqBs ds es := by
  rw [List.size_toArray, List.size_toArray] at h
  rw [List.size_toArray, ← h1]
  exact eqBs_range (by lia)
theorem all_tups {ds es : List Dt} {us ws : List Value} (h1 : ds.length = us.length) (h2 : es.length = ws.length) : ((List.range (min us.toArray.size ws.toArray.size)).all (eJ ds es) && us.toArray.size == ws.toArray.size) = Dt.eqBs ds es := by
  rw [List.size_toArray, List.size_toArray]
  by_cases h : us.length = ws.length
  · rw [h, Nat.min_self, beq_self_eq_true, Bool.and_true, ← h2, ← eqBs_range (ds := ds) (es := es) (by lia), show es.length = ds.length by lia]
    rfl
  · rw [beq_eq_false_iff_ne.mpr h, Bool.and_false, eqBs_len (by lia)]
mutual
theorem eq_at (I : Inv X pins σ H s) : ∀ (d e : Dt) {v z : V} {u1 u2 : Value} {A : Around}, Deep X.K H d v → Deep X.K H e z → RelV v u1 → RelV z u2 → A.units + d.dp < cLine → SeqAt.EqAt A s u1 u2 (d.eqB e)
  | .lst ds, e, v, z, u1, u2, A, h1, h2, r1, r2, hu => by
    have w2 := vw_of I h2 r2
    have w1 := vw_of I h1 r1
    cases w1 with | lst q d1 rv p =>
    have hu' : A.units + (1 + Dt.dps ds) < cLine := hu
    cases w2 with
    | non => exact .list_none p (by lia)
    | bl b => exact .list_bool b p (by lia)
    | int i t => exact .list_int i t p (by lia)
    | str x t => exact .list_str x t p (by lia)
    | tup q2 d2 rv2 p2 => exact .list_tuple p p2 (by lia)
    | @lst es b ys its2 q2 d2 rv2 p2 =>
      rename_i a xs its
      by_cases hab : a = b
      · subst hab
        have := deep_inj I (.lst ds) (.lst es) h1 h2
        rw [this, eqB_refl]
        exact .same _
      · refine .of_refs hab ?_
        show SeqAt.RcAt _ _ _ _ (Dt.eqBs ds es)
        have l1 : ds.length = its.length := (deeps_len d1).trans rv.length
        have l2 : es.length = its2.length := (deeps_len d2).trans rv2.length
        by_cases hl : its.toArray.size = its2.toArray.size
        · rw [← all_lists l1 l2 hl]
          exact .lists p p2 hl (by lia) fun j g1 g2 => eq_ats I ds es d1 d2 rv rv2 (A := A.in1) (by rw [in1_units]; lia) j _ _ (by simpa using g1) (by simpa using g2)
        · rw [eqBs_len (by rw [l1, l2]; simpa using hl)]
          exact .lists_lengths p p2 (by simpa using hl) (by lia)
  | .tup ds, e, v, z, u1, u2, A, h1, h2, r1, r2, hu => by
    have w2 := vw_of I h2 r2
    have w1 := vw_of I h1 r1
    cases w1 with | tup q d1 rv p =>
    have hu' : A.units + (1 + Dt.dps ds) < cLine := hu
    cases w2 with
    | non => exact .tuple_none p (by lia)
    | bl b => exact .tuple_bool b p (by lia)
    | int i t => exact .tuple_int i t p (by lia)
    | str x t => exact .tuple_str x t p (by lia)
    | lst q2 d2 rv2 p2 => exact .tuple_list p p2 (by lia)
    | @tup es b ys its2 q2 d2 rv2 p2 =>
      rename_i a xs its
      by_cases hab : a = b
      · subst hab
        have := deep_inj I (.tup ds) (.tup es) h1 h2
        rw [this, eqB_refl]
        exact .same _
      · refine .of_refs hab ?_
        show SeqAt.RcAt _ _ _ _ (Dt.eqBs ds es)
        have l1 : ds.length = its.length := (deeps_len d1).trans rv.length
        have l2 : es.length = its2.length := (deeps_len d2).trans rv2.length
        rw [← all_tups l1 l2]
        exact .tuples p p2 (by lia) fun j g1 g2 => eq_ats I ds es d1 d2 rv rv2 (A := A.in1) (by rw [in1_units]; lia) j _ _ (by simpa using g1) (by simpa using g2)
  | .non, e, v, z, u1, u2, A, h1, h2, r1, r2, hu => by
    have w1 := vw_of I h1 r1
    cases w1
    have hu' : A.units < cLine := by simpa only [Dt.dp, Nat.add_zero] using hu
    cases vw_of I h2 r2 with
    | non => exact .same _
    | bl b => exact .none_bool b
    | int i t => exact .none_int i t
    | str x t => exact .none_str x t
    | lst _ _ _ p => exact .none_list p hu'
    | tup _ _ _ p => exact .none_tuple p hu'
  | .bl b', e, v, z, u1, u2, A, h1, h2, r1, r2, hu => by
    have w1 := vw_of I h1 r1
    cases w1
    have hu' : A.units < cLine := by simpa only [Dt.dp, Nat.add_zero] using hu
    cases vw_of I h2 r2 with
    | non => exact .bool_none b'
    | bl b => exact .bool_bool b' b
    | int i t => exact .bool_int b' i t
    | str x t => exact .bool_str b' x t
    | lst _ _ _ p => exact .bool_list b' p hu'
    | tup _ _ _ p => exact .bool_tuple b' p hu'
  | .int i', e, v, z, u1, u2, A, h1, h2, r1, r2, hu => by
    have w1 := vw_of I h1 r1
    cases w1
    have hu' : A.units < cLine := by simpa only [Dt.dp, Nat.add_zero] using hu
    cases vw_of I h2 r2 with
    | non => exact .int_none i' _
    | bl b => exact .int_bool i' _ b
    | int i t => exact .int_int i' _ i t
    | str x t => exact .int_str i' _ x t
    | lst _ _ _ p => exact .int_list i' _ p hu'
    | tup _ _ _ p => exact .int_tuple i' _ p hu'
  | .str x', e, v, z, u1, u2, A, h1, h2, r1, r2, hu => by
    have w1 := vw_of I h1 r1
    cases w1
    have hu' : A.units < cLine := by simpa only [Dt.dp, Nat.add_zero] using hu
    cases vw_of I h2 r2 with
    | non => exact .str_none x' _
    | bl b => exact .str_bool x' _ b
    | int i t => exact .str_int x' _ i t
    | str x t => exact .str_str x' _ x t
    | lst _ _ _ p => exact .str_list x' _ p hu'
    | tup _ _ _ p => exact .str_tuple x' _ p hu'
theorem eq_ats (I : Inv X pins σ H s) : ∀ (ds es : List Dt) {xs ys : List V} {us ws : List Value} {A : Around}, Deeps X.K H ds xs → Deeps X.K H es ys → Vals xs us → Vals ys ws → A.units + Dt.dps ds < cLine →
    ∀ (j : Nat) (u w' : Value), us[j]? = some u → ws[j]? = some w' → SeqAt.EqAt A s u w' (eJ ds es j)
  | [], es, xs, ys, us, ws, A, h1, h2, r1, r2, _, j, u, w', e1, _ => by
    have h1 : xs = [] := h1
    subst h1
    cases r1
    simp at e1
  | d :: ds, [], xs, ys, us, ws, A, h1, h2, r1, r2, _, j, u, w', _, e2 => by
    have h2 : ys = [] := h2
    subst h2
    cases r2
    simp at e2
  | d :: ds, e :: es, xs, ys, us, ws, A, h1, h2, r1, r2, hu, j, u, w', e1, e2 => by
    obtain ⟨x, xr, rfl, d1, f1⟩ : ∃ x r, xs = x :: r ∧ Deep X.K H d x ∧ Deeps X.K H ds r := h1
    obtain ⟨y, yr, rfl, d2, f2⟩ : ∃ x r, ys = x :: r ∧ Deep X.K H e x ∧ Deeps X.K H es r := h2
    have hu' : A.units + max d.dp (Dt.dps ds) < cLine := hu
    cases r1 with
    | cons ra rb =>
      cases r2 with
      | cons rc rd =>
        cases j with
        | zero =>
          simp at e1 e2
          subst e1 e2
          exact eq_at I d e d1 d2 ra rc (by lia)
        | succ j => exact eq_ats I ds es f1 f2 rb rd (by lia) j u w' (by simpa using e1) (by simpa using e2)
end
theorem rc_at (I : Inv X pins σ H s) {d e : Dt} {v z : V} {u1 u2 : Value} {A : Around} (h1 : Deep X.K H d v) (h2 : Deep X.K H e z) (r1 : RelV v u1) (r2 : RelV z u2) (hu : A.units + d.dp < cLine) : SeqAt.RcAt A s u1 u2 (d.eqB e) := by
  have hu0 : A.units < cLine := by lia
  cases vw_of I h1 r1 with
  | lst q d1 rv p =>
    rename_i ds a xs its
    have hu' : A.units + (1 + Dt.dps ds) < cLine := hu
    cases vw_of I h2 r2 with
    | non => exact .list_none p hu0
    | bl b => exact .list_bool b p hu0
    | int i t => exact .list_int i t p hu0
    | str x t => exact .list_str x t p hu0
    | tup q2 d2 rv2 p2 => exact .list_tuple p p2 hu0
    | @lst es b ys its2 q2 d2 rv2 p2 =>
      show SeqAt.RcAt _ _ _ _ (Dt.eqBs ds es)
      have l1 : ds.length = its.length := (deeps_len d1).trans rv.length
      have l2 : es.length = its2.length := (deeps_len d2).trans rv2.length
      by_cases hl : its.toArray.size = its2.toArray.size
      · rw [← all_lists l1 l2 hl]
        exact .lists p p2 hl hu0 fun j g1 g2 => eq_ats I ds es d1 d2 rv rv2 (A := A.in1) (by rw [in1_units]; lia) j _ _ (by simpa using g1) (by simpa using g2)
      · rw [eqBs_len (by rw [l1, l2]; simpa using hl)]
        exact .lists_lengths p p2 (by simpa using hl) hu0
  | tup q d1 rv p =>
    rename_i ds a xs its
    have hu' : A.units + (1 + Dt.dps ds) < cLine := hu
    cases vw_of I h2 r2 with
    | non => exact .tuple_none p hu0
    | bl b => exact .tuple_bool b p hu0
    | int i t => exact .tuple_int i t p hu0
    | str x t => exact .tuple_str x t p hu0
    | lst q2 d2 rv2 p2 => exact .tuple_list p p2 hu0
    | @tup es b ys its2 q2 d2 rv2 p2 =>
      show SeqAt.RcAt _ _ _ _ (Dt.eqBs ds es)
      have l1 : ds.length = its.length := (deeps_len d1).trans rv.length
      have l2 : es.length = its2.length := (deeps_len d2).trans rv2.length
      rw [← all_tups l1 l2]
      exact .tuples p p2 hu0 fun j g1 g2 => eq_ats I ds es d1 d2 rv rv2 (A := A.in1) (by rw [in1_units]; lia) j _ _ (by simpa using g1) (by simpa using g2)
  | non =>
    cases vw_of I h2 r2 with
    | non => exact .none_none
    | bl b => exact .none_bool b
    | int i t => exact .none_int i t
    | str x t => exact .none_str x t
    | lst _ _ _ p => exact .none_list p hu0
    | tup _ _ _ p => exact .none_tuple p hu0
  | bl b' =>
    cases vw_of I h2 r2 with
    | non => exact .bool_none b'
    | bl b => exact .bool_bool b' b
    | int i t => exact .bool_int b' i t
    | str x t => exact .bool_str b' x t
    | lst _ _ _ p => exact .bool_list b' p hu0
    | tup _ _ _ p => exact .bool_tuple b' p hu0
  | int i' t' =>
    cases vw_of I h2 r2 with
    | non => exact .int_none i' _
    | bl b => exact .int_bool i' _ b
    | int i t => exact .int_int i' _ i t
    | str x t => exact .int_str i' _ x t
    | lst _ _ _ p => exact .int_list i' _ p hu0
    | tup _ _ _ p => exact .int_tuple i' _ p hu0
  | str x' t' =>
    cases vw_of I h2 r2 with
    | non => exact .str_none x' _
    | bl b => exact .str_bool x' _ b
    | int i t => exact .str_int x' _ i t
    | str x t => exact .str_str x' _ x t
    | lst _ _ _ p => exact .str_list x' _ p hu0
    | tup _ _ _ p => exact .str_tuple x' _ p hu0
theorem rcne_at (I : Inv X pins σ H s) {d e : Dt} {v z : V} {u1 u2 : Value} {A : Around} (h1 : Deep X.K H d v) (h2 : Deep X.K H e z) (r1 : RelV v u1) (r2 : RelV z u2) (hu : A.units + d.dp < cLine) : SeqAt.RcNeAt A s u1 u2 (!(d.eqB e)) := by
  have hu0 : A.units < cLine := by lia
  cases vw_of I h1 r1 with
  | lst q d1 rv p =>
    rename_i ds a xs its
    have hu' : A.units + (1 + Dt.dps ds) < cLine := hu
    cases vw_of I h2 r2 with
    | non => exact .list_none p hu0
    | bl b => exact .list_bool b p hu0
    | int i t => exact .list_int i t p hu0
    | str x t => exact .list_str x t p hu0
    | tup q2 d2 rv2 p2 => exact .list_tuple p p2 hu0
    | @lst es b ys its2 q2 d2 rv2 p2 =>
      show SeqAt.RcNeAt _ _ _ _ (!(Dt.eqBs ds es))
      have l1 : ds.length = its.length := (deeps_len d1).trans rv.length
      have l2 : es.length = its2.length := (deeps_len d2).trans rv2.length
      by_cases hl : its.toArray.size = its2.toArray.size
      · rw [← all_lists l1 l2 hl]
        exact .lists p p2 hl hu0 fun j g1 g2 => eq_ats I ds es d1 d2 rv rv2 (A := A.in1) (by rw [in1_units]; lia) j _ _ (by simpa using g1) (by simpa using g2)
      · rw [eqBs_len (by rw [l1, l2]; simpa using hl)]
        exact .lists_lengths p p2 (by simpa using hl) hu0
  | tup q d1 rv p =>
    rename_i ds a xs its
    have hu' : A.units + (1 + Dt.dps ds) < cLine := hu
    cases vw_of I h2 r2 with
    | non => exact .tuple_none p hu0
    | bl b => exact .tuple_bool b p hu0
    | int i t => exact .tuple_int i t p hu0
    | str x t => exact .tuple_str x t p hu0
    | lst q2 d2 rv2 p2 => exact .tuple_list p p2 hu0
    | @tup es b ys its2 q2 d2 rv2 p2 =>
      show SeqAt.RcNeAt _ _ _ _ (!(Dt.eqBs ds es))
      have l1 : ds.length = its.length := (deeps_len d1).trans rv.length
      have l2 : es.length = its2.length := (deeps_len d2).trans rv2.length
      rw [← all_tups l1 l2]
      exact .tuples p p2 hu0 fun j g1 g2 => eq_ats I ds es d1 d2 rv rv2 (A := A.in1) (by rw [in1_units]; lia) j _ _ (by simpa using g1) (by simpa using g2)
  | non =>
    cases vw_of I h2 r2 with
    | non => exact .none_none
    | bl b => exact .none_bool b
    | int i t => exact .none_int i t
    | str x t => exact .none_str x t
    | lst _ _ _ p => exact .none_list p hu0
    | tup _ _ _ p => exact .none_tuple p hu0
  | bl b' =>
    cases vw_of I h2 r2 with
    | non => exact .bool_none b'
    | bl b => exact .bool_bool b' b
    | int i t => exact .bool_int b' i t
    | str x t => exact .bool_str b' x t
    | lst _ _ _ p => exact .bool_list b' p hu0
    | tup _ _ _ p => exact .bool_tuple b' p hu0
  | int i' t' =>
    cases vw_of I h2 r2 with
    | non => exact .int_none i' _
    | bl b => exact .int_bool i' _ b
    | int i t => exact .int_int i' _ i t
    | str x t => exact .int_str i' _ x t
    | lst _ _ _ p => exact .int_list i' _ p hu0
    | tup _ _ _ p => exact .int_tuple i' _ p hu0
  | str x' t' =>
    cases vw_of I h2 r2 with
    | non => exact .str_none x' _
    | bl b => exact .str_bool x' _ b
    | int i t => exact .str_int x' _ i t
    | str x t => exact .str_str x' _ x t
    | lst _ _ _ p => exact .str_list x' _ p hu0
    | tup _ _ _ p => exact .str_tuple x' _ p hu0
inductive rEqG (K : PySem.W.Frag) (x : V) (y : V) (H : Hp) (Q : VK) : Prop
  | mk : ∀ d e, (Deep K H d x) → (Deep K H e y) → (d.dp ≤ 8) → (Q (.bl (d.eqB e)) H) → rEqG K x y H Q
inductive rNeG (K : PySem.W.Frag) (x : V) (y : V) (H : Hp) (Q : VK) : Prop
  | mk : ∀ d e, (Deep K H d x) → (Deep K H e y) → (d.dp ≤ 8) → (Q (.bl (!(d.eqB e))) H) → rNeG K x y H Q
theorem op_eqG {k : Nat} (hr : Room k X.A) : OpR X (compareOp .Eq) (rEqG X.K) := by
  intro pins s σ H x y v u Q I rx ry h
  obtain ⟨d, e, h1, h2, hd, q⟩ := h
  have hu := hr.units
  exact rc_at I h1 h2 rx ry (by lia) X.prog X.w X.xe _ ⟨.bl _, H, I, rfl, q⟩
theorem op_neG {k : Nat} (hr : Room k X.A) : OpR X (compareOp .NotEq) (rNeG X.K) := by
  intro pins s σ H x y v u Q I rx ry h
  obtain ⟨d, e, h1, h2, hd, q⟩ := h
  have hu := hr.units
  exact rcne_at I h1 h2 rx ry (by lia) X.prog X.w X.xe _ ⟨.bl _, H, I, rfl, q⟩
end
end L2

namespace L2
open PySem PySem.Spec PyProof.Rows
section
variable {X : Cx} {pins : List (Addr × Obj)} {σ : St} {H : Hp} {s : Shared}
end
section
variable {prog : Program} {w : World} {A : Around} {E : Value → Shared → Prop} {s : Shared}
end
section
variable {X : Cx} {e : Expr} {te : TE} {pos p2 p3 p4 : Pos} {k1 : Nat}
end
end L2

namespace L2
open PySem PySem.Spec PyProof.Rows
section
variable {κ : Type} [DecidableEq κ]
noncomputable def valV (kvs : List (κ × V)) (k : κ) : Option V := (kvs.find? fun kv => decide (kv.1 = k)).map (·.2)
noncomputable def putK (kvs : List (κ × V)) (k : κ) (v : V) : List (κ × V) :=
  if (kvs.any fun kv => decide (kv.1 = k)) = true then kvs.map (fun kv => if kv.1 = k then (kv.1, v) else kv) else kvs ++ [(k, v)]
theorem valV_nil {k : κ} : valV ([] : List (κ × V)) k = none := rfl
theorem valV_pos {p : κ × V} {r : List (κ × V)} {k : κ} (e : p.1 = k) : valV (p :: r) k = some p.2 := by simp [valV, List.find?_cons, e]
theorem valV_neg {p : κ × V} {r : List (κ × V)} {k : κ} (e : ¬ p.1 = k) : valV (p :: r) k = valV r k := by simp [valV, List.find?_cons, e]
theorem valV_any (k : κ) : ∀ kvs : List (κ × V), (kvs.any fun kv => decide (kv.1 = k)) = (valV kvs k).isSome
  | [] => rfl
  | p :: r => by
    rw [List.any_cons]
    by_cases e : p.1 = k
    · simp only [valV_pos e, decide_eq_true e, Bool.true_or, Option.isSome_some]
    · rw [valV_neg e, decide_eq_false e, Bool.false_or]; exact valV_any k r
theorem valV_map (k j : κ) (y : V) : ∀ kvs : List (κ × V), valV (kvs.map fun kv => if kv.1 = k then (kv.1, y) else kv) j = (valV kvs j).map fun x => if j = k then y else x
  | [] => rfl
  | p :: r => by
    have ih := valV_map k j y r
    rw [List.map_cons]
    by_cases h : p.1 = k
    · rw [if_pos h]
      by_cases e : p.1 = j
      · rw [valV_pos (p := (p.1, y)) e, valV_pos e, Option.map_some, if_pos (e.symm.trans h)]
      · rw [valV_neg (p := (p.1, y)) e, valV_neg e, ih]
    · rw [if_neg h]
      by_cases e : p.1 = j
      · rw [valV_pos (p := p) e, valV_pos e, Option.map_some, if_neg (fun z => h (e.trans z))]
      · rw [valV_neg (p := p) e, valV_neg e, ih]
theorem valV_snoc (k j : κ) (y : V) : ∀ kvs : List (κ × V), valV kvs k = none → valV (kvs ++ [(k, y)]) j = if j = k then some y else valV kvs j
  | [], _ => by
    by_cases e : k = j
    · rw [if_pos e.symm]; exact valV_pos (p := (k, y)) e
    · rw [if_neg (fun z => e z.symm)]; exact valV_neg (p := (k, y)) e
  | p :: r, hn => by
    rw [List.cons_append]
    have hk : ¬ p.1 = k := fun z => by rw [valV_pos z] at hn; cases hn
    rw [valV_neg hk] at hn
    have ih := valV_snoc k j y r hn
    by_cases e : p.1 = j
    · rw [valV_pos e, valV_pos e, if_neg (fun z => hk (e.trans z))]
    · rw [valV_neg e, valV_neg e, ih]
theorem valV_put (kvs : List (κ × V)) (k j : κ) (y : V) : valV (putK kvs k y) j = if j = k then some y else valV kvs j := by
  unfold putK
  by_cases a : (kvs.any fun kv => decide (kv.1 = k)) = true
  · rw [if_pos a, valV_map]
    rw [valV_any] at a
    by_cases e : j = k
    · obtain ⟨x, hx⟩ := Option.isSome_iff_exists.mp a
      rw [if_pos e, e, hx, Option.map_some, if_pos rfl]
    · rw [if_neg e]
      cases valV kvs j with
      | none => rfl
      | some x => rw [Option.map_some, if_neg e]
  · rw [if_neg a]
    refine valV_snoc k j y kvs ?_
    rw [valV_any] at a
    cases q : valV kvs k with
    | none => rfl
    | some x => rw [q] at a; exact (a rfl).elim
theorem length_putK (kvs : List (κ × V)) (k : κ) (v : V) : (putK kvs k v).length ≤ kvs.length + 1 := by
  unfold putK
  split
  · rw [List.length_map]; lia
  · rw [List.length_append, List.length_cons, List.length_nil]; lia
theorem RelO.isSome_eq {o : Option V} {u : Option Value} (r : RelO o u) : o.isSome = u.isSome := by
  cases o with
  | none => cases u with
    | none => rfl
    | some _ => exact (show False from r).elim
  | some _ => cases u with
    | none => exact (show False from r).elim
    | some _ => rfl
theorem KV.val {kvs : List (κ × V)} {vs : List (κ × Value)} (r : KV kvs vs) (k : κ) : RelO (valV kvs k) (valueAt vs k) := by
  unfold KV at r
  induction r with
  | nil => exact True.intro
  | @cons p q ps qs h t ih =>
    obtain ⟨h1, h2⟩ := h
    by_cases e : p.1 = k
    · have e' : q.1 = k := h1.symm.trans e
      have b : valueAt (q :: qs) k = some q.2 := by simp [valueAt, List.find?_cons, e']
      rw [valV_pos e, b]; exact h2
    · have e' : ¬ q.1 = k := fun z => e (h1.trans z)
      have b : valueAt (q :: qs) k = valueAt qs k := by simp [valueAt, List.find?_cons, e']
      rw [valV_neg e, b]; exact ih
theorem KV.any {kvs : List (κ × V)} {vs : List (κ × Value)} (r : KV kvs vs) (k : κ) : (kvs.any fun kv => decide (kv.1 = k)) = vs.any fun kv => decide (kv.1 = k) := by
  unfold KV at r
  induction r with
  | nil => rfl
  | cons h t ih => rw [List.any_cons, List.any_cons, ih, h.1]
theorem KV.repl {kvs : List (κ × V)} {vs : List (κ × Value)} (r : KV kvs vs) (k : κ) {y : V} {u : Value} (ry : RelV y u) :
    KV (kvs.map fun kv => if kv.1 = k then (kv.1, y) else kv) (vs.map fun kv => if kv.1 = k then (kv.1, u) else kv) := by
  unfold KV at r ⊢
  induction r with
  | nil => exact .nil
  | @cons p q ps qs h t ih =>
    rw [List.map_cons, List.map_cons]
    refine .cons ?_ ih
    obtain ⟨h1, h2⟩ := h
    by_cases e : p.1 = k
    · rw [if_pos e, if_pos (h1.symm.trans e)]; exact ⟨h1, ry⟩
    · rw [if_neg e, if_neg (fun z => e (h1.trans z))]; exact ⟨h1, h2⟩
theorem KV.put {kvs : List (κ × V)} {vs : List (κ × Value)} (r : KV kvs vs) (k : κ) {y : V} {u : Value} (ry : RelV y u) : KV (putK kvs k y) (stored vs k u) := by
  unfold putK stored
  rw [r.any k]
  by_cases e : (vs.any fun kv => decide (kv.1 = k)) = true
  · rw [if_pos e, if_pos e]; exact r.repl k ry
  · rw [if_neg e, if_neg e]; exact Paired.snoc r ⟨rfl, ry⟩
theorem KV.length {kvs : List (κ × V)} {vs : List (κ × Value)} (r : KV kvs vs) : kvs.length = vs.length := Paired.length r
end


theorem kV_is {P : Program} {w : World} {k : Key} {u : Value} (r : RelV (kV k) u) : (mixKind P w).is k u = true := by
  cases k with
  | inl i => obtain ⟨t, e⟩ := (show ∃ t, u = Value.int i t from r); subst e; exact mixKind_int P w i t
  | inr x => obtain ⟨t, e⟩ := (show ∃ t, u = Value.str x t from r); subst e; exact mixKind_str P w x t
theorem items_are {P : Program} {w : World} : ∀ {ks : List Key} {us : List Value}, Vals (ks.map kV) us → ItemsAre (mixKind P w) ks us
  | [], _, r => by rw [List.map_nil] at r; cases r; exact .nil
  | k :: ks, _, r => by
    rw [List.map_cons] at r
    cases r with
    | cons h t => exact .cons (kV_is h) (items_are t)
noncomputable abbrev KT (H : Hp) : List (List Key × V) → List (List Key × Addr × Value) → Prop := Paired fun p q => p.1 = q.1 ∧ H q.2.1 = some (.tup (p.1.map kV)) ∧ RelV p.2 q.2.2
theorem KT.val {H : Hp} {kvs : List (List Key × V)} {xs : List (List Key × Addr × Value)} (r : KT H kvs xs) (k : List Key) : RelO (valV kvs k) ((atKey xs k).map (·.2)) := by
  induction r with
  | nil => exact True.intro
  | @cons p q ps qs h t ih =>
    obtain ⟨h1, _, h2⟩ := h
    by_cases e : p.1 = k
    · have e' : q.1 = k := h1.symm.trans e
      have b : atKey (q :: qs) k = some q.2 := by simp [atKey, List.find?_cons, e']
      rw [valV_pos e, b]; exact h2
    · have e' : ¬ q.1 = k := fun z => e (h1.trans z)
      have b : atKey (q :: qs) k = atKey qs k := by simp [atKey, List.find?_cons, e']
      rw [valV_neg e, b]; exact ih
theorem KT.repl {H : Hp} {kvs : List (List Key × V)} {xs : List (List Key × Addr × Value)} (r : KT H kvs xs) (k : List Key) {y : V} {u : Value} (ry : RelV y u) :
    KT H (kvs.map fun kv => if kv.1 = k then (kv.1, y) else kv) (xs.map (putAt k u)) := by
  induction r with
  | nil => exact .nil
  | @cons p q ps qs h t ih =>
    rw [List.map_cons, List.map_cons]
    refine .cons ?_ ih
    obtain ⟨h1, h2, h3⟩ := h
    unfold putAt
    by_cases e : p.1 = k
    · rw [if_pos e, if_pos (h1.symm.trans e)]; exact ⟨h1, h2, ry⟩
    · rw [if_neg e, if_neg (fun z => e (h1.trans z))]; exact ⟨h1, h2, h3⟩
theorem KT.put {H : Hp} {kvs : List (List Key × V)} {xs : List (List Key × Addr × Value)} (r : KT H kvs xs) (k : List Key) {b : Addr} {y : V} {u : Value} (hb : H b = some (.tup (k.map kV))) (ry : RelV y u) :
    KT H (putK kvs k y) (storedH xs k b u) := by
  have e : (kvs.any fun kv => decide (kv.1 = k)) = (atKey xs k).isSome := by
    rw [valV_any, (r.val k).isSome_eq, Option.isSome_map]
  unfold putK storedH
  rw [e]
  by_cases q : (atKey xs k).isSome = true
  · rw [if_pos q, if_pos q]; exact r.repl k ry
  · rw [if_neg q, if_neg q]; exact Paired.snoc r ⟨rfl, hb, ry⟩
theorem KT.keeps {H H' : Hp} {kvs : List (List Key × V)} {xs : List (List Key × Addr × Value)} (r : KT H kvs xs) (ht : ∀ b ys, H b = some (.tup ys) → H' b = some (.tup ys)) : KT H' kvs xs :=
  Paired.mapP r fun _ _ z => ⟨z.1, ht _ _ z.2.1, z.2.2⟩
section
variable {P : Program} {w : World} {H : Hp} {h : Heap} {a : Addr}
theorem rd_of {u : HO} (ok : HOk P w H h) (e : Rd H a u) : ObjOk P w H h a u := e.ok ok
theorem dk_rd {kvs : List (Key × V)} (ok : HOk P w H h) (e : Rd H a (.dK kvs)) : kvs.length ≤ sizeLine ∧ (a == sysModules) = false ∧ ∃ vs, KV kvs vs ∧ h.DictOf (mixKind P w) a vs :=
  show ObjOk P w H h a (.dK kvs) from rd_of ok e
theorem dk_of {kvs : List (Key × V)} (ok : HOk P w H h) (e : H a = some (.dK kvs)) : kvs.length ≤ sizeLine ∧ (a == sysModules) = false ∧ ∃ vs, KV kvs vs ∧ h.DictOf (mixKind P w) a vs := dk_rd ok (.inl e)
theorem key_of {ks : List Key} (ok : HOk P w H h) (e : H a = some (.tup (ks.map kV))) : (tupleKind (mixKind P w)).is h ks a := by
  obtain ⟨_, its, r, o, h1, h2, n, h3⟩ := (show ObjOk P w H h a (.tup (ks.map kV)) from ok a _ e)
  exact ⟨o, its.toArray, n, h1, h2, h3, by simpa using items_are r⟩
theorem dt_rd {kvs : List (List Key × V)} (ok : HOk P w H h) (e : Rd H a (.dT kvs)) : kvs.length ≤ sizeLine ∧ (a == sysModules) = false ∧
    ∃ xs, KT H kvs xs ∧ h.DictOfH (tupleKind (mixKind P w)) a xs := by
  obtain ⟨z, y, xs, r, o, es, ep, h1, h2, h3, h4, h5⟩ := (show ObjOk P w H h a (.dT kvs) from rd_of ok e)
  refine ⟨z, y, xs, r, o, es, ep, h1, h2, h3, h4, fun x hx => ?_, h5⟩
  have all : ∀ {l : List (List Key × V)} {m : List (List Key × Addr × Value)}, KT H l m → ∀ x ∈ m, (tupleKind (mixKind P w)).is h x.1 x.2.1 := by
    intro l m q
    induction q with
    | nil => intro x hx; exact nomatch hx
    | @cons p q ps qs hq t ih =>
      intro x hx
      rcases List.mem_cons.mp hx with e | hx
      · subst e
        exact key_of ok (by rw [← hq.1]; exact hq.2.1)
      · exact ih x hx
  exact all r x hx
theorem dt_of {kvs : List (List Key × V)} (ok : HOk P w H h) (e : H a = some (.dT kvs)) : kvs.length ≤ sizeLine ∧ (a == sysModules) = false ∧
    ∃ xs, KT H kvs xs ∧ h.DictOfH (tupleKind (mixKind P w)) a xs := dt_rd ok (.inl e)
end

noncomputable def DGet (H : Hp) (a : Addr) (y : V) (r : Option V) : Prop :=
  (∃ kvs k, Rd H a (.dK kvs) ∧ y = kV k ∧ r = valV kvs k) ∨ ∃ kvs k b, Rd H a (.dT kvs) ∧ y = .ref b ∧ H b = some (.tup (k.map kV)) ∧ r = valV kvs k
noncomputable def DPut (H : Hp) (a : Addr) (y v : V) (H' : Hp) : Prop :=
  (∃ kvs k, H a = some (.dK kvs) ∧ y = kV k ∧ kvs.length < sizeLine ∧ H' = upd H a (.dK (putK kvs k v))) ∨
  ∃ kvs k b, H a = some (.dT kvs) ∧ y = .ref b ∧ H b = some (.tup (k.map kV)) ∧ kvs.length < sizeLine ∧ H' = upd H a (.dT (putK kvs k v))
theorem DGet.t {H : Hp} {a b : Addr} {kvs : List (List Key × V)} {k : List Key} (e : H a = some (.dT kvs)) (eb : H b = some (.tup (k.map kV))) : DGet H a (.ref b) (valV kvs k) := .inr ⟨kvs, k, b, .inl e, rfl, eb, rfl⟩
theorem DPut.t {H : Hp} {a b : Addr} {kvs : List (List Key × V)} {k : List Key} {v : V} (e : H a = some (.dT kvs)) (eb : H b = some (.tup (k.map kV))) (hl : kvs.length < sizeLine) :
    DPut H a (.ref b) v (upd H a (.dT (putK kvs k v))) := .inr ⟨kvs, k, b, e, rfl, eb, hl, rfl⟩
section
variable {X : Cx} {pins : List (Addr × Obj)} {σ : St} {H : Hp} {s : Shared} {a : Addr} {y v : V} {u r : Value} {o : Option V} {A : Around} {E : Value → Shared → Prop}
theorem Inv.big (I : Inv X pins σ H s) : sysModules < s.heap.objs.size := by
  have h : mainGlobals < s.heap.objs.size := (I.mod.glob.keeps I.bk).lt
  exact Nat.lt_trans (by decide) h
theorem d_getItem {Q : Value → Shared → Prop} (hu : A.units + 1 < cLine) (I : Inv X pins σ H s) (g : DGet H a y (some v)) (ry : RelV y u) (h : ∀ w' s', Inv X pins σ H s' → RelV v w' → Q w' s') :
    wpAny (model X.prog X.w) A (getItem (.ref a) u) Q E s := by
  rcases g with ⟨kvs, k, e, ey, l⟩ | ⟨kvs, k, b, e, ey, eb, l⟩
  · subst ey
    obtain ⟨z, hd, vs, rel, dd⟩ := dk_rd I.hok e
    obtain ⟨w', hw, rw'⟩ := RelO.some_of (v := v) (o := valueAt vs k) (by rw [l]; exact rel.val k)
    exact wpAny_getItem_of (kV_is ry) dd.mapOf hw (h w' _ (I.tok _) rw')
  · subst ey
    cases (show u = Value.ref b from ry)
    obtain ⟨z, hd, xs, rel, dd⟩ := dt_rd I.hok e
    obtain ⟨w', hw, rw'⟩ := RelO.some_of (v := v) (o := (atKey xs k).map (·.2)) (by rw [l]; exact rel.val k)
    obtain ⟨p, hp, hp2⟩ := Option.map_eq_some_iff.mp hw
    refine wpAny_getItem_heap (tupleKind_room_in1 hu) (key_of I.hok eb) dd hp ?_
    rw [hp2]
    exact h w' _ (I.tok _) rw'
theorem d_notIn {Q : Value → Shared → Prop} (hu : A.units + 1 < cLine) (I : Inv X pins σ H s) (g : DGet H a y o) (ry : RelV y u) (h : ∀ s', Inv X pins σ H s' → Q (.bool (!o.isSome)) s') :
    wpAny (model X.prog X.w) A (compareOp .NotIn u (.ref a)) Q E s := by
  rcases g with ⟨kvs, k, e, ey, l⟩ | ⟨kvs, k, b, e, ey, eb, l⟩
  · subst ey
    obtain ⟨z, hd, vs, rel, dd⟩ := dk_rd I.hok e
    refine wpAny_notIn_of (kV_is ry) hd dd.mapOf ?_
    rw [← (rel.val k).isSome_eq, ← l]
    exact h _ (I.tok _)
  · subst ey
    cases (show u = Value.ref b from ry)
    obtain ⟨z, hd, xs, rel, dd⟩ := dt_rd I.hok e
    refine wpAny_notIn_heap (tupleKind_room_in1 hu) (key_of I.hok eb) hd dd ?_
    have q := (rel.val k).isSome_eq
    rw [Option.isSome_map] at q
    rw [← q, ← l]
    exact h _ (I.tok _)
theorem d_write {h' : Heap} {t' : Nat} {ob : HO} (I : Inv X pins σ H s) (mu : Mut (H a)) (hs : Heap.SameBut a s.heap h') (he : ∃ q, h'.get? a = some q) (new : ObjOk X.prog X.w (upd H a ob) h' a ob) :
    Inv X pins σ (upd H a ob) { s with heap := h', toks := t' } :=
  I.write (x := a) (e := a) mu (.inl rfl) (fun b q hb z => (hs.2 b hb).trans z) he new
theorem dk_new {P : Program} {w : World} {H' : Hp} {h' : Heap} {kvs : List (Key × V)} {vs : List (Key × Value)} (z : kvs.length ≤ sizeLine) (hd : (a == sysModules) = false) (rel : KV kvs vs) (dd : h'.DictOf (mixKind P w) a vs) :
    ObjOk P w H' h' a (.dK kvs) := ⟨z, hd, vs, rel, dd⟩
theorem d_setItem {H' : Hp} {Q : Unit → Shared → Prop} (hu : A.units + 1 < cLine) (I : Inv X pins σ H s) (g : DPut H a y v H') (ry : RelV y u) (rv : RelV v r) (h : ∀ s', Inv X pins σ H' s' → Q () s') :
    wpAny (model X.prog X.w) A (setItem (.ref a) u r) Q E s := by
  rcases g with ⟨kvs, k, e, ey, l, eH⟩ | ⟨kvs, k, b, e, ey, eb, l, eH⟩
  · subst ey eH
    obtain ⟨z, hd, vs, rel, dd⟩ := dk_of I.hok e
    have hz : vs.length ≤ sizeLine := by rw [← rel.length]; exact z
    have hl : (putK kvs k v).length ≤ sizeLine := by have := length_putK kvs k v; lia
    refine wpAny_setItem_pairs (hsz := hz) (kV_is ry) dd fun h' dd' hs => h _ ?_
    have he : ∃ q, h'.get? a = some q := let ⟨q, _, _, hq, _⟩ := dd'; ⟨q, hq⟩
    exact d_write I (by rw [e]; exact True.intro) hs he (dk_new hl hd (rel.put k rv) dd')
  · subst ey eH
    cases (show u = Value.ref b from ry)
    obtain ⟨z, hd, xs, rel, dd⟩ := dt_of I.hok e
    have hz : xs.length ≤ sizeLine := by rw [← Paired.length rel]; exact z
    have hl : (putK kvs k v).length ≤ sizeLine := by have := length_putK kvs k v; lia
    refine wpAny_setItem_heap (hsz := hz) (tupleKind_room_in1 hu) (key_of I.hok eb) dd fun h' dd' hs => h _ ?_
    obtain ⟨q, es, ep, hq, h2, h3, h4, _, h5⟩ := dd'
    refine d_write I (by rw [e]; exact True.intro) hs ⟨q, hq⟩ ⟨hl, hd, _, (rel.put k eb rv).keeps fun c ys ec => ?_, q, es, ep, hq, h2, h3, h4, h5⟩
    rw [upd_ne (ne_of ec e (fun z => nomatch z))]
    exact ec
end

section
variable {X : Cx} {pins : List (Addr × Obj)} {σ : St} {H : Hp} {s : Shared} {a : Addr} {kvs : List (Key × V)} {k : Key} {u : Value} {A : Around} {E : Value → Shared → Prop}
end


noncomputable def NoSl (i : Expr) : Prop := ∀ ov iv, subscripted i false ov iv = operate [ov, iv] (getItem ov iv)
theorem subD_of {prog : Program} {w : World} {A : Around} {E : Value → Shared → Prop} {s : Shared} {env : Env} {value slice : Expr} {pos : Pos} {T id : String} {Q : Value → Shared → Prop}
    (hl : typeLookup (.type T) "__getitem__" = pure (some (.builtin id))) (hs : NoSl slice)
    (h : wpAny (model prog w) A (eval value env) (fun o s₁ => wpAny (model prog w) A (eval slice env) (fun i s₂ => s₂.TypeIs o T ∧ wpAny (model prog w) A (getItem o i) Q E s₂) E s₁) E s) :
    wpAny (model prog w) A (eval (.Subscript value slice pos) env) Q E s := by
  refine Subscript_ (wpAny_mono h (fun o s₁ h₁ => wpAny_mono h₁ (fun i s₂ h₂ => ?_) fun _ _ x => x) fun _ _ x => x)
  obtain ⟨hT, h₂⟩ := h₂
  unfold subscriptTail
  refine wpAny_bind ?_
  rw [getitemInPython_of_ne hT.not_modules]
  refine wpAny_bind (wpAny_specialOf hT hl ?_)
  have fin : wpAny (model prog w) A (subscripted slice false o i) (fun r s₃ => wpAny (model prog w) A (letTemporaryGo value o r >>= fun _ => pure r) Q E s₃) E s₂ := by
    rw [hs o i]
    exact wpAny_operating (wpAny_mono h₂ (fun r s₃ h₃ => wpAny_bind (wpAny_letTemporaryGo (wpAny_pure h₃))) fun _ _ x => x)
  first
    | exact wpAny_pure (wpAny_bind fin)
    | exact wpAny_bind (wpAny_pure (wpAny_bind fin))
    | exact wpAny_bind fin
theorem dict_typeIs {X : Cx} {pins : List (Addr × Obj)} {σ : St} {H : Hp} {s : Shared} {a : Addr} {y : V} {o : Option V} (I : Inv X pins σ H s) (g : DGet H a y o) : s.TypeIs (.ref a) "dict" := by
  rcases g with ⟨kvs, k, e, _, _⟩ | ⟨kvs, k, b, e, _, _, _⟩
  · obtain ⟨_, _, vs, _, dd⟩ := dk_rd I.hok e
    exact dd.typeIs
  · obtain ⟨_, _, xs, _, dd⟩ := dt_rd I.hok e
    exact dd.typeIs
inductive tDGet_b (Q : VK) (x : V) (y : V) (H2 : Hp) : Prop
  | mk : ∀ a v, (x = .ref a) → (DGet H2 a y (some v)) → (Q v H2) → tDGet_b Q x y H2
noncomputable def tDGet (td ty : TE) : TE := fun σ H Q => td σ H fun x H1 => ty σ H1 fun y H2 => tDGet_b Q x y H2
inductive tDNotIn_b (Q : VK) (y : V) (x : V) (H2 : Hp) : Prop
  | mk : ∀ a o, (x = .ref a) → (DGet H2 a y o) → (Q (.bl (!o.isSome)) H2) → tDNotIn_b Q y x H2
noncomputable def tDNotIn (ty td : TE) : TE := fun σ H Q => ty σ H fun y H1 => td σ H1 fun x H2 => tDNotIn_b Q y x H2
inductive sDPut_b (D : Ends) (σ : St) (v : V) (x : V) (y : V) (H3 : Hp) : Prop
  | mk : ∀ a H4, (x = .ref a) → (DPut H3 a y v H4) → (D.nx σ H4) → sDPut_b D σ v x y H3
noncomputable def sDPut (td ty tv : TE) : TS := fun D σ H => tv σ H fun v H1 => td σ H1 fun x H2 => ty σ H2 fun y H3 => sDPut_b D σ v x y H3
section
variable {X : Cx} {o i e value : Expr} {pos pos' tpos : Pos} {td ty tv : TE}
theorem pe_dget (hu : X.A.units + 1 < cLine) (ho : PE X o td) (hi : PE X i ty) (hs : NoSl i) : PE X (.Subscript o i pos) (tDGet td ty) := by
  intro pins s σ H Q I h
  refine subD_of PySem.F.slot_dict_getitem.lookup hs (thn (ho pins s σ H _ I h) fun u s1 ⟨x, H1, I1, rx, q1⟩ => thn (hi pins s1 σ H1 _ I1 q1) fun iv s2 ⟨y, H2, I2, ry, a, v, ex, g, q2⟩ => ?_)
  subst ex
  obtain rfl : u = Value.ref a := rx
  exact ⟨dict_typeIs I2 g, d_getItem hu I2 g ry fun w' s3 I3 rw' => ⟨v, H2, I3, rw', q2⟩⟩
theorem pc_dnotin (hu : X.A.units + 1 < cLine) (hi : PE X i ty) (ho : PE X o td) : PC X .NotIn i o (tDNotIn ty td) := by
  intro pins s σ H Q I h
  refine thn (hi pins s σ H _ I h) fun iv s1 ⟨y, H1, I1, ry, q1⟩ => thn (ho pins s1 σ H1 _ I1 q1) fun u s2 ⟨x, H2, I2, rx, a, ov, ex, g, q2⟩ => ?_
  subst ex
  obtain rfl : u = Value.ref a := rx
  exact d_notIn hu I2 g ry fun s3 I3 => ⟨.bl (!ov.isSome), H2, I3, rfl, q2⟩
theorem ps_dput (hu : X.A.units + 1 < cLine) (ho : PE X o td) (hi : PE X i ty) (hv : PE X value tv) (hs : swapsWith value (some (.Subscript o i pos')) pos.line X.env = pure false) :
    PS X (.Assign [.Subscript o i pos'] value pos) (sDPut td ty tv) := by
  intro pins s σ H D I h
  refine wpAny_Assign_Subscript (thn (hv pins s σ H _ I h) fun r s1 ⟨v, H1, I1, rv, q1⟩ => thn (ho pins s1 σ H1 _ I1 q1) fun u s2 ⟨x, H2, I2, rx, q2⟩ => thn (hi pins s2 σ H2 _ I2 q2) fun iv s3 ⟨y, H3, I3, ry, a, H4, ex, g, q3⟩ => ?_) hs
  subst ex
  obtain rfl : u = Value.ref a := rx
  exact d_setItem hu I3 g ry rv fun s4 I4 => ⟨σ, H4, I4, q3⟩
end


theorem dt_empty {P : Program} {w : World} {H : Hp} (h : Heap) (hb : sysModules < h.objs.size) : ObjOk P w H (h.push { cls := .type "dict", data := .dict #[] }) h.objs.size (.dT []) :=
  ⟨Nat.zero_le _, beq_eq_false_iff_ne.mpr (Ne.symm (Nat.ne_of_lt hb)), [], .nil, _, #[], 0, Heap.get?_push_size _ rfl, ⟨rfl, rfl, rfl⟩, rfl, rfl, List.nodup_nil⟩
noncomputable def tDNewT : TE := fun _ H Q => ∀ p, H p = none → Q (.ref p) (upd H p (.dT []))
section
variable {X : Cx} {pos : Pos}
theorem pe_dnewT : PE X (.Dict [] [] pos) tDNewT := fun pins s σ H Q I h =>
  wpAny_Dict_empty ⟨.ref s.heap.objs.size, _, I.laid (a := s.heap.objs.size) (o := .dT []) (t' := s.toks) (fun _ _ q => Heap.get?_push_of_some _ q) (Nat.le_refl _) (dt_empty s.heap I.big), rfl, h _ (I.hok.fresh (Nat.le_refl _))⟩
end

end L2
namespace L2
open PySem PySem.Spec PyProof.Rows
section
variable {κ : Type} [DecidableEq κ]
end
end L2

namespace L2
open PySem NM PyProof.Rows
structure CutAt (H : Hp) (dn sa : Addr) (w : Nat) (kvs : List (List Key × V)) (rs : List V) (st : List (Nat × Nat)) : Prop where
  hd : H dn = some (.dT kvs)
  hs : H sa = some (.lst rs)
  sp : StepsAt H rs (st.map pairI)
  ok : ∀ (k : Nat) p, st[k]? = some p → p.1 < w + k ∧ p.2 < w + k
  kv : ∀ k v, valV kvs k = some v → ∃ u : Nat, v = .int (u : Nat) ∧ u < w + st.length
  ln : kvs.length ≤ st.length
noncomputable def But (dn sa : Addr) (H H' : Hp) : Prop := ∀ b o, b ≠ dn → b ≠ sa → H b = some o → H' b = some o
theorem But.refl {dn sa : Addr} (H : Hp) : But dn sa H H := fun _ _ _ _ h => h
theorem But.trans {dn sa : Addr} {H H1 H2 : Hp} (a : But dn sa H H1) (b : But dn sa H1 H2) : But dn sa H H2 := fun c o h1 h2 h => b c o h1 h2 (a c o h1 h2 h)
theorem But.same {dn sa : Addr} {H H' : Hp} (s : Same H H') : But dn sa H H' := fun c o _ _ h => s c o h
theorem But.dn {dn sa : Addr} {H : Hp} {o : HO} : But dn sa H (upd H dn o) := fun c u h1 _ h => by rw [upd_ne h1]; exact h
theorem But.sa {dn sa : Addr} {H : Hp} {o : HO} : But dn sa H (upd H sa o) := fun c u _ h1 h => by rw [upd_ne h1]; exact h
theorem CutAt.ne {H : Hp} {dn sa : Addr} {w : Nat} {kvs : List (List Key × V)} {rs : List V} {st : List (Nat × Nat)} (c : CutAt H dn sa w kvs rs st) : dn ≠ sa := ne_of c.hd c.hs (by intro z; cases z)
theorem CutAt.new {H : Hp} {dn sa t : Addr} {o : HO} {w : Nat} {kvs : List (List Key × V)} {rs : List V} {st : List (Nat × Nat)} (c : CutAt H dn sa w kvs rs st) (h : H t = Option.none) : CutAt (upd H t o) dn sa w kvs rs st :=
  ⟨new_at h c.hd, new_at h c.hs, c.sp.mono (Same.new h), c.ok, c.kv, c.ln⟩
theorem But.all {K : PySem.W.Frag} {dn sa a : Addr} {H : Hp} {xs : List V} (h : SqL K H a xs) (f1 : H dn = Option.none) (f2 : H sa = Option.none) {H2 : Hp} (s : Same H H2) : ∀ H1, But dn sa H2 H1 → SqL K H1 a xs := fun H1 b => by
  rcases h with (h | ⟨o, h⟩) | h
  · exact .inl (.inl (b _ _ (ne_of_none h f1) (ne_of_none h f2) (s _ _ h)))
  · exact .inl (.inr ⟨o, b _ _ (ne_of_none h f1) (ne_of_none h f2) (s _ _ h)⟩)
  · exact .inr h
inductive spCut (K : PySem.W.Frag) (n : Nat) (vs : List V) (H : Hp) (Q : VK) (_e3 : XK) : Prop
  | mk : ∀ (f l w : Nat) (a dn sa : Addr) (ns : List Int) (k : Int) (kvs : List (List Key × V)) (rs : List V) (st : List (Nat × Nat)), (vs = [.int (f : Nat), .int (l : Nat), .ref a, .int k, .ref dn, .ref sa, .int (w : Nat)]) → (f ≤ l) → (l < w) → (l < f + n) → (st.length + (l - f) ≤ 5000) → ((∀ H1, But dn sa H H1 → SqL K H1 a (ns.map V.int))) → (CutAt H dn sa w kvs rs st) → (∀ (H' : Hp) (v : Nat) (kvs' : List (List Key × V)) (rs' : List V) (st' : List (Nat × Nat)), But dn sa H H' → CutAt H' dn sa w kvs' rs' st' → st.length ≤ st'.length → st'.length ≤ st.length + (l - f) → v < w + st'.length → Q (.int (v : Nat)) H') → spCut K n vs H Q _e3
inductive spRight (K : PySem.W.Frag) (vs : List V) (H : Hp) (Q : VK) (_e3 : XK) : Prop
  | mk : ∀ (a : Addr) (ns : List Int) (k : Int) (most : Nat), (vs = [.ref a, .int k, .int (most : Nat)]) → (1 ≤ most) → (most ≤ 12) → (SqL K H a (ns.map V.int)) → (∀ (H' : Hp) (n sa oa : Addr) (rs : List V) (N : NetN), Same H H' → NetAt H' n N.w N.steps N.outs sa oa rs → N.Ok → N.w ≤ most → 2 * N.st.length ≤ N.w * (N.w - 1) → Q (.ref n) H') → spRight K vs H Q _e3
inductive spDrawnN (K : PySem.W.Frag) (vs : List V) (H : Hp) (Q : VK) (_e3 : XK) : Prop
  | mk : ∀ (a : Addr) (ns : List Int) (k : Int) (most : Nat), (vs = [.ref a, .int k, .int (most : Nat)]) → (1 ≤ most) → (most ≤ 64) → (SqL K H a (ns.map V.int)) → (∀ (H' : Hp) (n sa oa : Addr) (rs : List V) (N : NetN), Same H H' → NetAt H' n N.w N.steps N.outs sa oa rs → N.Ok → N.w ≤ most → N.st.length ≤ 8 → Q (.ref n) H') → spDrawnN K vs H Q _e3
theorem steps_snoc_ok {w : Nat} {st : List (Nat × Nat)} {q : Nat × Nat} (ok : ∀ (k : Nat) p, st[k]? = some p → p.1 < w + k ∧ p.2 < w + k) (h1 : q.1 < w + st.length) (h2 : q.2 < w + st.length) : ∀ (k : Nat) p, (st ++ [q])[k]? = some p → p.1 < w + k ∧ p.2 < w + k := by
  intro k p e
  by_cases hk : k < st.length
  · rw [List.getElem?_append_left hk] at e; exact ok k p e
  · rw [List.getElem?_append_right (by lia)] at e
    have h0 : k - st.length = 0 := by
      have := (List.getElem?_eq_some_iff.mp e).1
      simp at this; lia
    rw [h0] at e
    simp at e
    subst e
    exact ⟨by lia, by lia⟩
theorem cutL_take {α : Type} (xs : List α) (n : Nat) : cutL xs none (some (n : Int)) = xs.take n := by
  unfold cutL
  rw [HT.sIx_nat]
  show (xs.drop 0).take (min n xs.length - 0) = xs.take n
  rw [List.drop_zero, Nat.sub_zero]
  by_cases h : n ≤ xs.length
  · rw [Nat.min_eq_left h]
  · rw [Nat.min_eq_right (by lia), List.take_of_length_le (Nat.le_refl _), List.take_of_length_le (by lia)]
theorem cutL_drop {α : Type} (xs : List α) (n : Nat) : cutL xs (some (n : Int)) none = xs.drop n := by
  unfold cutL
  rw [HT.sIx_nat]
  show (xs.drop (min n xs.length)).take (xs.length - min n xs.length) = xs.drop n
  by_cases h : n ≤ xs.length
  · rw [Nat.min_eq_left h, List.take_of_length_le (by rw [List.length_drop]; solve_by_elim)]
  · rw [Nat.min_eq_right (by lia), Nat.sub_self, List.take_zero, List.drop_of_length_le (by lia)]
end L2

namespace NM
end NM

namespace L2
open PySem NM PyProof.Rows
end L2

namespace L2
open PySem
namespace ST
end ST
end L2

namespace L2
open PySem PySem.Spec PyProof.Rows
open ST
section
variable {prog : Program} {w : World} {A : Around} {E : Value → Shared → Prop} {s : Shared}
end
end L2

namespace L2
open PySem PySem.Spec PyProof.Rows
namespace ST
end ST
open ST
section
variable {prog : Program} {w : World} {A : Around} {E : Value → Shared → Prop} {s : Shared}
end
end L2

namespace L2
open PySem PySem.Spec PyProof.Rows
open ST
section
variable {X : Cx}
end
end L2

namespace L2
open PySem NM PyProof.Rows
theorem comp_tup {K : PySem.W.Frag} {a : Addr} {xs : List V} {js : List Nat} {te : TE} {σ : St} {H : Hp} {Fin : List V → Hp → Prop} (Pv : Nat → List V → Hp → Prop) (h0 : Pv 0 [] H) (hl : ∀ i ys H, i ≤ xs.length → Pv i ys H → SqT K H a xs) (hz : ∀ i ys H, i < xs.length → Pv i ys H → ys.length < sizeLine)
    (hs : ∀ i x ys H (T : V → Hp → Prop), xs[i]? = some x → Pv i ys H → (∀ y H2, Pv (i + 1) (ys ++ [y]) H2 → T y H2) → te (compSt (some x) σ js) H T) (hd : ∀ ys H, Pv xs.length ys H → Fin ys H) : compGo (Itt K a) js none te σ H Fin := by
  refine ⟨fun i m ys H => m = xs.length - i ∧ i ≤ xs.length ∧ Pv i ys H, ⟨xs.length, by simp, Nat.zero_le _, h0⟩, ?_⟩
  rintro i m ys H ⟨rfl, hi, p⟩
  have q := hl i ys H hi p
  by_cases hlt : i < xs.length
  · refine .inr ⟨⟨xs, xs[i], q, by simp [hlt]⟩, hz i ys H hlt p, fun x H' y => ?_⟩
    obtain ⟨e, y⟩ := y
    subst e
    unfold tests
    simp only [if_true]
    exact hs i x ys _ _ (y xs q) p fun y H2 p2 => ⟨xs.length - (i + 1), by lia, rfl, hlt, p2⟩
  · have e : i = xs.length := by lia
    subst e
    exact .inl ⟨⟨xs, q, Nat.le_refl _⟩, hd ys H p⟩
theorem ixN_last (n : Nat) : ixN (n + 1) (-1) = some n := by
  unfold ixN
  rw [if_neg (by decide), if_pos (by lia)]
  congr 1
  lia
end L2

namespace L2
open PySem PySem.Spec PyProof.Rows
structure Dv (P : Program) (w : World) (K : PySem.W.Frag) (mg : Str → Option Value) (base : Heap) (f : Addr) (k : Nat) (sp : Sp) : Prop where
  ex : ∃ fd ps, PySem.W.keepIn K (.ref f) = true ∧ Binds K fd ps [] ∧ FnOk P w K mg base (CX1 P w) k f fd ps sp
section
variable {X : Cx}
structure KDict (P : Program) (w : World) (K : PySem.W.Frag) (D : Addr) (kvs : List (Key × V)) : Prop where
  ns : (D == sysModules) = false
  ex : ∃ vs, KV kvs vs ∧ ∀ h : Heap, K.In h → h.DictOf (mixKind P w) D vs
inductive rNotInKD (P : Program) (w : World) (K : PySem.W.Frag) (x : V) (y : V) (H : Hp) (Q : VK) : Prop
  | mk : ∀ D kvs k, (y = .ref D) → (KDict P w K D kvs) → (x = kV k) → (Q (.bl (!(valV kvs k).isSome)) H) → rNotInKD P w K x y H Q
theorem op_notInKD : OpR X (compareOp .NotIn) (rNotInKD X.prog X.w X.K) := by
  intro pins s σ H x y v u Q I rx ry h
  obtain ⟨D, kvs, k, rfl, kd, rfl, q⟩ := h
  cases ry
  obtain ⟨vs, rel, dd⟩ := kd.ex
  refine wpAny_notIn_of (kV_is rx) kd.ns (dd _ I.kIn).mapOf ?_
  rw [← (rel.val k).isSome_eq]
  exact ⟨.bl _, H, I.tok _, rfl, q⟩
inductive rIxKD (P : Program) (w : World) (K : PySem.W.Frag) (x : V) (y : V) (H : Hp) (Q : VK) : Prop
  | mk : ∀ D kvs k v, (x = .ref D) → (KDict P w K D kvs) → (y = kV k) → (valV kvs k = some v) → (Q v H) → rIxKD P w K x y H Q
theorem ix_kd : IxR X (rIxKD X.prog X.w X.K) := by
  intro value slice pins s σ H x y v u Q I rx ry h hs
  obtain ⟨D, kvs, k, z, rfl, kd, rfl, hz, q⟩ := h
  cases rx
  refine L2.ob_ea kd.ex fun vs rel dd => ?_
  refine L2.ob_ea (RelO.some_of (v := z) (o := valueAt vs k) (by rw [← hz]; exact rel.val k)) fun w' hw rw' => ?_
  exact tail_any (dd _ I.kIn).typeIs PySem.F.slot_dict_getitem.lookup (wpAny_getItem_of (kV_is ry) (dd _ I.kIn).mapOf hw ⟨z, H, I.tok _, rw', q⟩) hs
end
end L2

namespace L2
open PySem PySem.Spec PyProof.Rows PySem.Calls
section
variable {X : Cx} {pins : List (Addr × Obj)} {σ : St} {H : Hp} {s : Shared} {scope : Scope} {x : Str} {js : List Nat}
noncomputable abbrev lamEnv (X : Cx) (scope : Scope) (qual : Str) (f : Addr) (cd : Value) (s : Shared) : Env := PySem.W.envX qual scope s.heap.objs.size f cd (clOf X.env.cells scope.names [])
noncomputable def lamCx (X : Cx) (scope : Scope) (x : Str) (js : List Nat) (qual : Str) (f : Addr) (cd : Value) (A : Around) (s : Shared) (H : Hp) : Cx :=
  { X with A := A.deeper (lamEnv X scope qual f cd s), N := compN x X.N js, s₀ := s, H₀ := H, env := lamEnv X scope qual f cd s, outer := X.stack, stack := lamEnv X scope qual f cd s :: X.stack, ex := [], fn := fun _ => false, calm := true, pn := [], xe := fun _ _ => False }
theorem lam_inv {qual : Str} {f : Addr} {cd : Value} {A : Around} {s₃ : Shared} {v : V} {u : Value} {m : Str → Option Value} (O : CompOk scope X.env x X.N js) (I : Inv X pins σ H s) (hd : A.handled = none) (hA : A.frames = X.A.frames)
    (hos : s₃.os = s.os) (hg : AllBare s₃.gens) (hk : ∀ b o, s.heap.get? b = some o → s₃.heap.get? b = some o) (hn : s₃.heap.Ns s.heap.objs.size m) (hm : m x = some u) (hv : RelV v u) :
    Inv (lamCx X scope x js qual f cd A s H) [] (compSt (some v) σ js) H s₃ := by
  have no : ∀ b : Addr, b ∉ (lamCx X scope x js qual f cd A s H).ex := fun b z => absurd (show b ∈ ([] : List Addr) from z) (by simp)
  refine ⟨⟨I.ok.mod, O.kind, rfl, rfl, Nat.le_refl _, fun y z c h1 h2 => I.ok.inj y z c (cl_sub y c h1) (cl_sub z c h2), fun y hy => ?_, (fun y c h => nomatch h), fun _ => hd, Around.frames_deeper (hA.trans I.ok.frames), .inr ⟨rfl, rfl⟩, fun b z => absurd z (no b), I.bs, Nat.le_trans I.ok.bsz I.sz, fun b _ _ => no b, fun b z => absurd z (no b), I.stack, I.stkFree⟩,
    hos, hg, Un.kept hk, ⟨m, hn, fun i y v' e1 e2 e3 => ?_⟩, fun y c e => ?_, I.hok.fresh (Nat.le_refl _), fun y c e => I.freeC y c (cl_sub y c e), fun p hp => ?_, I.hok.kept hk, ?_⟩
  · have hy' : scope.names.lookup y = some .cell ∨ scope.names.lookup y = some .free := hy
    rcases hy' with z | z
    · exact absurd rfl (O.nocell _ (mem_of_lookup' z))
    · exact clOf_has (mem_of_lookup' z) (comp_cells O I _ (mem_of_lookup' z) rfl)
  · cases i with
    | zero =>
      have e2' : (some (some v)) = some (some v') := e2
      have e1' : some x = some y := e1
      cases e2'
      obtain rfl := Option.some.inj e1'
      exact ⟨u, hv, .inl ⟨O.x, hm⟩⟩
    | succ k =>
      have e1' : (js.map fun j => X.N.getD j Str.empty)[k]? = some y := e1
      have e2' : (js.map fun j => (σ[j]?).getD none)[k]? = some (some v') := e2
      rw [List.getElem?_map] at e1' e2'
      cases q : js[k]? with
      | none => rw [q] at e1'; cases e1'
      | some j =>
        rw [q] at e1' e2'
        have ey : X.N.getD j Str.empty = y := Option.some.inj e1'
        have ev : (σ[j]?).getD none = some v' := Option.some.inj e2'
        obtain ⟨hj, hfree⟩ := O.js j (List.mem_of_getElem? q)
        rw [ey] at hfree
        have hNj : X.N[j]? = some y := by
          rw [List.getD_eq_getElem?_getD, List.getElem?_eq_getElem hj] at ey
          rw [List.getElem?_eq_getElem hj]
          exact congrArg some ey
        have hσ : σ[j]? = some (some v') := by
          cases z : σ[j]? with
          | none => rw [z] at ev; cases ev
          | some o => rw [z] at ev; exact congrArg some ev
        have hkind := O.fr (y, .free) (mem_of_lookup' hfree) rfl
        refine L2.ob_ea I.loc fun mX hnX hl => ?_
        obtain ⟨u', r, l⟩ := hl j y v' hNj hσ (by
          rcases hkind with z | z
          · exact .inr (.inl z)
          · exact .inr (.inr z))
        refine ⟨u', r, ?_⟩
        rcases l with ⟨z, _⟩ | ⟨_, c, hcell, hv'⟩
        · rcases hkind with z2 | z2
          · rw [z] at z2; cases z2
          · rw [z] at z2; cases z2
        · obtain ⟨c', hc'⟩ := clOf_has (cells := X.env.cells) (cs := []) (mem_of_lookup' hfree) ⟨c, hcell⟩
          have : c' = c := by
            have z := cl_sub y c' hc'
            rw [hcell] at z; obtain rfl := Option.some.inj z; rfl
          subst this
          obtain ⟨o, ho, hd⟩ := hv'
          exact .inr ⟨.inr hfree, c', hc', o, hk _ _ ho, hd⟩
  · obtain ⟨v, o, ho, hd⟩ := I.cell y c (cl_sub y c e)
    exact ⟨v, o, hk _ _ ho, hd⟩
  · exact absurd (show p ∈ ([] : List (Addr × Obj)) from hp) (by simp)
  · show (compSt (some v) σ js).length = (compN x X.N js).length
    unfold compSt compN
    simp
theorem lam_run {k : Nat} {qual : Str} {params : Arguments} {body : Expr} {pm ctv : Value} {c' f : Addr} {A : Around} {v : V} {u : Value} {Q : VK} {t : TE} {E : Value → Shared → Prop}
    (hok : compOk scope X.env x X.N js = true) (hbind : ∀ (cl : List (Str × Addr)) (cd ctv w : Value), bindArgs (PySem.W.kla_fn "<lambda>" qual params body scope cl pm cd ctv) ⟨[w], []⟩ = pure [(x, w)])
    (hco : scope.isCoroutine = false) (hgen : scope.isGenerator = false)
    (hbody : ∀ (cd : Value) (A : Around) (s : Shared) (H : Hp), Room k A → PE (lamCx X scope x js qual f cd A s H) body t)
    (hr : Room k A) (hA : A.frames = X.A.frames) (I : Inv X pins σ H s) (hf : s.heap.get? f = some (PySem.W.kla_obj "<lambda>" qual params body scope (clOf X.env.cells scope.names []) pm c' ctv)) (hcd : s.heap.CodeRec (.ref c') qual)
    (hv : RelV v u) (ht : t (compSt (some v) σ js) H Q) : wpAny (model X.prog X.w) A (call (.ref f) [u]) (EP X pins σ Q) E s := by
  have O := compOk_of hok
  refine wpAny_call ?_
  refine PySem.W.kla_callFunE hr.depth hf rfl hco hgen rfl hcd ?_
  rw [hbind]
  refine wpAny_pure (wpAny_newFunctionEnv O.nocell (fun y hy => ?_) (fun h₁ hns hsb => ⟨(I.nolimit).fresh _ hsb, ?_⟩) O.kind)
  · obtain rfl : y = (x, u) := List.mem_singleton.mp hy
    exact O.x
  show codeAny _ _ (.expr body (lamEnv X scope qual f (.ref c') s)) _ _
  have hk₁ : ∀ b o, s.heap.get? b = some o → h₁.get? b = some o := fun b o e => hsb.extBut b o (Nat.ne_of_lt (Heap.lt_size e)) (Heap.get?_push_of_some _ e)
  have I1 : Inv (lamCx X scope x js qual f (.ref c') A s H) [] (compSt (some v) σ js) H { s with heap := h₁, toks := s.toks + 1 } := lam_inv (m := fun y => ([(x, u)] : List (Str × Value)).reverse.lookup y) O I hr.hd hA rfl I.bare hk₁ hns (by simp) hv
  refine PySem.W.kla_codeExpr (wpAny_mono (hbody (.ref c') A s H hr [] _ _ H Q I1 ht) (fun u' s' ⟨v', H', I', r, q⟩ => ?_) fun _ _ z => z.elim)
  exact I.after ⟨v', H', I'.os, I'.bare, I'.base, I'.hok, r, q⟩
end
end L2

namespace L2
open PySem PySem.Spec PyProof.Rows PySem.Calls
section
variable {X : Cx} {σ : St} {H : Hp} {s : Shared}
theorem Inv.turn1 {pins pl : List (Addr × Obj)} {a : Addr} {o o' : Obj} {h' : Heap} {t' : Nat} (I : Inv X (pins ++ (a, o) :: pl) σ H s) (hs : X.s₀.heap.objs.size ≤ a) (hn : ∀ p ∈ X.pn ++ pins, p.1 ≠ a) (hl : ∀ p ∈ pl, p.1 ≠ a)
    (k : ∀ b u, b ≠ a → s.heap.get? b = some u → h'.get? b = some u) (ho' : h'.get? a = some o') (hd : ∀ v, o'.data ≠ .cell v) : Inv X (pins ++ (a, o') :: pl) σ H { s with heap := h', toks := t' } := by
  have hp := I.pin (a, o) (List.mem_append_right _ (List.mem_append_right _ (.head _)))
  have I1 : Inv X (pins ++ pl) σ H s := I.pins_of fun p hp => I.pin p (List.mem_append_right _ ((List.mem_append.mp hp).elim (fun z => List.mem_append_left _ z) fun z => List.mem_append_right _ (.tail _ z)))
  have I2 : Inv X (pins ++ pl) σ H { s with heap := h', toks := t' } := I1.turned k hp.2.1 hp.2.2.1 (.inr hs) (fun x c e z => by
    obtain ⟨v, oc, h1, h2⟩ := I.cell x c e
    rw [z, hp.1] at h1
    obtain rfl := Option.some.inj h1
    exact hp.2.2.2.2 _ h2) fun p q => by
      rcases List.mem_append.mp q with z | z
      · exact hn p (List.mem_append_left _ z)
      · rcases List.mem_append.mp z with z | z
        · exact hn p (List.mem_append_right _ z)
        · exact hl p z
  refine I2.pins_of fun p q => ?_
  rcases List.mem_append.mp q with z | z
  · exact I2.pin p (List.mem_append_right _ (List.mem_append_left _ z))
  · rcases List.mem_cons.mp z with rfl | z
    · exact ⟨ho', hp.2.1, hp.2.2.1, hp.2.2.2.1, hd⟩
    · exact I2.pin p (List.mem_append_right _ (List.mem_append_right _ z))
theorem Inv.pin1 {pins : List (Addr × Obj)} {o : Obj} (I : Inv X pins σ H s) (hd : ∀ v, o.data ≠ .cell v) (hf : o.isFreed = false := by rfl) : Inv X (pins ++ [(s.heap.objs.size, o)]) σ H { s with heap := s.heap.push o } := by
  have f := I.fpOk (b := s.heap.objs.size) (Nat.le_refl _) I.fresh
  have I1 : Inv X pins σ H { s with heap := s.heap.push o } := I.kept (t' := s.toks) fun b u e => Heap.get?_push_of_some _ e
  refine I1.pins_of fun p q => ?_
  rcases List.mem_append.mp q with z | z
  · exact I1.pin p (List.mem_append_right _ z)
  · obtain rfl := List.mem_singleton.mp z
    exact ⟨Heap.get?_push_size _ hf, f.1, f.2.1, f.2.2.1, hd⟩
theorem Inv.apart {pins : List (Addr × Obj)} (I : Inv X pins σ H s) : ∀ p ∈ X.pn ++ pins, p.1 ≠ s.heap.objs.size := (I.fpOk (b := s.heap.objs.size) (Nat.le_refl _) I.fresh).2.2.2.2.2
end
end L2

namespace L2
open PySem PySem.Spec PyProof.Rows PySem.Calls
structure Lt (K : PySem.W.Frag) (mg : Str → Option Value) (base : Heap) (c P : Addr) : Prop where
  hd : PySem.W.codeHdIn K c P = true
  bl : base.BuiltinsAt mg P
noncomputable def CodeO (c' : Addr) (qual : Str) : HO := .ext fun h => h.CodeRec (.ref c') qual
noncomputable def lamT (pos : Pos) (c' : Addr) : Array Value := #[rawInt pos.line, rawInt pos.col, .ref c']
noncomputable def LamOk (qual : Str) (pos : Pos) (P : Addr) (H : Hp) : Prop := H P = some (.tbl #[]) ∨ ∃ c', H P = some (.tbl (lamT pos c')) ∧ H c' = some (CodeO c' qual)
noncomputable def SameB (P : Addr) (H H' : Hp) : Prop := ∀ b o, b ≠ P → H b = some o → H' b = some o
theorem SameB.refl (P : Addr) (H : Hp) : SameB P H H := fun _ _ _ h => h
theorem SameB.trans {P : Addr} {H H1 H2 : Hp} (a : SameB P H H1) (b : SameB P H1 H2) : SameB P H H2 := fun c o n h => b c o n (a c o n h)
theorem Same.toB {P : Addr} {H H' : Hp} (a : Same H H') : SameB P H H' := fun c o _ h => a c o h
theorem LamOk.same {qual : Str} {pos : Pos} {P : Addr} {H H' : Hp} (a : LamOk qual pos P H) (e : Same H H') : LamOk qual pos P H' := by
  rcases a with a | ⟨c', a, b⟩
  · exact .inl (e _ _ a)
  · exact .inr ⟨c', e _ _ a, e _ _ b⟩
theorem codeO_stay {c' : Addr} {qual : Str} {h1 h2 : Heap} (x : h1.CodeRec (.ref c') qual) (k : ∀ o, h1.get? c' = some o → h2.get? c' = some o) : h2.CodeRec (.ref c') qual := by
  obtain ⟨c, oc, vs, t, e, ho, r⟩ := x
  cases e
  exact ⟨c', oc, vs, t, rfl, k _ ho, r⟩
theorem CodeO.rec {P : Program} {w : World} {H : Hp} {h : Heap} {c' : Addr} {qual : Str} (x : HOk P w H h) (e : H c' = some (CodeO c' qual)) : h.CodeRec (.ref c') qual := (x c' _ e).1
section
variable {X : Cx} {pins : List (Addr × Obj)} {σ : St} {H : Hp} {s : Shared} {scope : Scope} {x : Str} {js : List Nat}
theorem lam_make {c P : Addr} {params : Arguments} {body : Expr} {pos : Pos} {E : Value → Shared → Prop} (O : CompOk scope X.env x X.N js) (L : Lt X.K X.mg X.base c P) (hcode : X.env.code = .ref c) (hdef : defaultsOf params X.env = ([], []))
    (I : Inv X pins σ H s) (hT : LamOk (X.env.qual ++ "<lambda>") pos P H) :
    wpAny (model X.prog X.w) X.A (eval (.Lambda params body scope pos) X.env) (fun u s' => ∃ f c' ctv H', u = .ref f ∧ SameB P H H' ∧ H' P = some (.tbl (lamT pos c')) ∧ H' c' = some (CodeO c' (X.env.qual ++ "<lambda>")) ∧
      Inv X (pins ++ [(f, PySem.W.kla_obj "<lambda>" (X.env.qual ++ "<lambda>") params body scope (clOf X.env.cells scope.names []) ((X.mg "__name__").getD .none) c' ctv)]) σ H' s') E s := by
  have hcl : closureFor scope X.env = pure (clOf X.env.cells scope.names []) := closure_of (comp_cells O I)
  have hg : s.heap.Ns mainGlobals X.mg := I.ok.mod.glob.keeps I.bk
  have C : PySem.W.CodeHd s.heap c P := PySem.W.codeHd_of_K I.kIn L.hd
  obtain ⟨bm, ob, b1, b2, b3, b4, b5, b6⟩ := L.bl
  have hb : s.heap.BuiltinsAt X.mg P := ⟨bm, ob, b1, b2, b3, b4, I.bk _ _ b5, b6⟩
  have gP : ∀ ps, H P = some (.tbl ps) → s.heap.get? P = some (PySem.W.tabObj ps) := fun ps e => I.hok P _ e
  have hgP : mainGlobals ≠ P := fun q => by
    obtain ⟨o, es, ep, e, _⟩ := I.ok.mod.glob
    have := (I.bs _ _ e).2
    rw [q] at this
    rcases hT with z | ⟨_, z, _⟩ <;> (rw [this] at z; exact L2.ns_ z)
  have htr : ∀ c', TriplesOk (lamT pos c').toList := fun c' => trivial
  refine PySem.W.kla_eval hdef ?_
  rcases hT with hT | ⟨c', hT, hc'⟩
  · refine PySem.W.kla_makeFunction (mg := X.mg) hcl I.ok.glob hg hcode C (gP _ hT) trivial rfl hgP hb fun c' ctv h' tk hx hge hlt hrec htb => ?_
    have hne : c' ≠ P := fun q => absurd (Nat.lt_of_lt_of_le (Heap.lt_size (gP _ hT)) (by rw [← q]; exact hge)) (Nat.lt_irrefl _)
    have hfc : H c' = none := I.hok.fresh hge
    have ext2 : ∀ b o, b ≠ P → s.heap.get? b = some o → (h'.push (PySem.W.kla_obj "<lambda>" (X.env.qual ++ "<lambda>") params body scope (clOf X.env.cells scope.names []) ((X.mg "__name__").getD .none) c' ctv)).get? b = some o := fun b o n e => Heap.get?_push_of_some _ (hx b o n e)
    have htb' : (#[] : Array Value) ++ #[rawInt pos.line, rawInt pos.col, .ref c'] = lamT pos c' := by unfold lamT; simp
    rw [htb'] at htb
    have nP : ∀ b u, H b = some u → u ≠ .tbl #[] → b ≠ P := fun b u e d z => by rw [z, hT] at e; obtain rfl := Option.some.inj e; exact d rfl
    have up : ∀ b u, b ≠ P → H b = some u → (upd (upd H P (.tbl (lamT pos c'))) c' (CodeO c' (X.env.qual ++ "<lambda>"))) b = some u := fun b u n e => by
      rw [upd_ne (ne_of_none e hfc), upd_ne n]; exact e
    have hU : Un X.fs [] H (upd (upd H P (.tbl (lamT pos c'))) c' (CodeO c' (X.env.qual ++ "<lambda>"))) s.heap (h'.push (PySem.W.kla_obj "<lambda>" (X.env.qual ++ "<lambda>") params body scope (clOf X.env.cells scope.names []) ((X.mg "__name__").getD .none) c' ctv)) := by
      have nb : ∀ b, H b = none → b ≠ P := fun b n z => by rw [z, hT] at n; exact L2.sn_ n
      refine ⟨fun b o e n _ _ => ext2 b o (nb b n) e, fun b o e n _ _ => ⟨o.slots, ext2 b o (nb b n) e⟩, fun b o e n _ => ?_, fun b o e _ => ?_, fun b xs e => up _ _ (nP _ _ e (by first | (rintro _ _ ⟨⟩; done) | (rintro _ ⟨⟩; done) | (rintro ⟨⟩; done) | nofun)) e, fun b o u e => up _ _ (nP _ _ e (by first | (rintro _ _ ⟨⟩; done) | (rintro _ ⟨⟩; done) | (rintro ⟨⟩; done) | nofun)) e, fun b ps e => ?_⟩
      · rw [upd_ne (Nat.ne_of_lt (Nat.lt_of_lt_of_le (Heap.lt_size e) hge)), upd_ne (nb b n)]; exact n
      · by_cases hbP : b = P
        · rw [hbP]; exact ⟨_, Heap.get?_push_of_some _ htb⟩
        · exact ⟨o, ext2 b o hbP e⟩
      · by_cases hbP : b = P
        · rw [hbP, hT] at e
          cases e
          exact ⟨lamT pos c', by rw [hbP, upd_ne hne.symm, upd_same]; simp⟩
        · exact ⟨#[], by rw [up b _ hbP e]; simp⟩
    have hO : HOk X.prog X.w (upd (upd H P (.tbl (lamT pos c'))) c' (CodeO c' (X.env.qual ++ "<lambda>"))) (h'.push (PySem.W.kla_obj "<lambda>" (X.env.qual ++ "<lambda>") params body scope (clOf X.env.cells scope.names []) ((X.mg "__name__").getD .none) c' ctv)) := fun b u e => by
      by_cases hbc : b = c'
      · rw [hbc, upd_same] at e
        obtain rfl := Option.some.inj e
        rw [hbc]
        have hr2 := codeO_stay hrec (h2 := h'.push (PySem.W.kla_obj "<lambda>" (X.env.qual ++ "<lambda>") params body scope (clOf X.env.cells scope.names []) ((X.mg "__name__").getD .none) c' ctv)) fun o q => Heap.get?_push_of_some _ q
        refine ⟨hr2, ?_, fun h1 h2 x k => codeO_stay x k⟩
        obtain ⟨_, oc, _, _, e1, e2, _⟩ := hr2
        cases e1
        exact ⟨oc, e2⟩
      · rw [upd_ne hbc] at e
        by_cases hbP : b = P
        · rw [hbP, upd_same] at e
          obtain rfl := Option.some.inj e
          rw [hbP]
          exact Heap.get?_push_of_some _ htb
        · rw [upd_ne hbP] at e
          refine (I.hok b u e).stay (fun d v hd q => ext2 d v ?_ q) (fun d q => up d _ (nP _ _ q (by first | (rintro _ _ ⟨⟩; done) | (rintro _ ⟨⟩; done) | (rintro ⟨⟩; done) | nofun)) q) fun d xs q => up d _ (nP _ _ q (by first | (rintro _ _ ⟨⟩; done) | (rintro _ ⟨⟩; done) | (rintro ⟨⟩; done) | nofun)) q
          rcases hd with z | z
          · rw [z]; exact hbP
          · exact nP _ _ z (by first | (rintro _ _ ⟨⟩; done) | (rintro _ ⟨⟩; done) | (rintro ⟨⟩; done) | nofun)
    have I1 : Inv X pins σ _ { s with heap := h'.push (PySem.W.kla_obj "<lambda>" (X.env.qual ++ "<lambda>") params body scope (clOf X.env.cells scope.names []) ((X.mg "__name__").getD .none) c' ctv), toks := tk } := I.un hU hO
    have hsz : s.heap.objs.size ≤ h'.objs.size := Nat.le_trans hge (Nat.le_of_lt hlt)
    refine ⟨h'.objs.size, c', ctv, _, rfl, fun b o n e => up b o n e, by rw [upd_ne hne.symm, upd_same], upd_same, I1.pins_of fun p q => ?_⟩
    rcases List.mem_append.mp q with z | z
    · exact I1.pin p (List.mem_append_right _ z)
    · obtain rfl := List.mem_singleton.mp z
      have hfree : (upd (upd H P (.tbl (lamT pos c'))) c' (CodeO c' (X.env.qual ++ "<lambda>"))) h'.objs.size = none := by
        rw [upd_ne (Nat.ne_of_gt hlt), upd_ne (Nat.ne_of_gt (Nat.lt_of_lt_of_le (Heap.lt_size (gP _ hT)) hsz))]
        exact I.hok.fresh hsz
      have f := I.fpOk (b := h'.objs.size) hsz hfree
      exact ⟨Heap.get?_push_size _ rfl, f.1, f.2.1, f.2.2.1, by first | (rintro _ _ ⟨⟩; done) | (rintro _ ⟨⟩; done) | (rintro ⟨⟩; done) | nofun⟩
  · refine PySem.W.kla_makeFunctionHit (mg := X.mg) (cv := .ref c') hcl I.ok.glob hg hcode C (gP _ hT) (htr c') ?_ hb fun ctv h' tk hk hsz => ?_
    · show codeAmong pos [rawInt pos.line, rawInt pos.col, .ref c'] = _
      simp [codeAmong, rawInt]
    · have I1 : Inv X pins σ H { s with heap := h'.push (PySem.W.kla_obj "<lambda>" (X.env.qual ++ "<lambda>") params body scope (clOf X.env.cells scope.names []) ((X.mg "__name__").getD .none) c' ctv), toks := tk } := I.kept fun b u e => Heap.get?_push_of_some _ (hk b u e)
      refine ⟨h'.objs.size, c', ctv, H, rfl, SameB.refl _ _, hT, hc', I1.pins_of fun p q => ?_⟩
      rcases List.mem_append.mp q with z | z
      · exact I1.pin p (List.mem_append_right _ z)
      · obtain rfl := List.mem_singleton.mp z
        have f := I.fpOk (b := h'.objs.size) (H' := H) hsz (I.hok.fresh hsz)
        exact ⟨Heap.get?_push_size _ rfl, f.1, f.2.1, f.2.2.1, by first | (rintro _ _ ⟨⟩; done) | (rintro _ ⟨⟩; done) | (rintro ⟨⟩; done) | nofun⟩
end
end L2

namespace L2
open PySem PySem.Spec PyProof.Rows PySem.Calls
section
variable {prog : Program} {w : World} {A : Around} {E : Value → Shared → Prop} {s : Shared}
end

section
variable {prog : Program} {w : World} {A : Around} {E : Value → Shared → Prop} {s : Shared}
end
end L2

namespace L2
open PySem PySem.Spec PyProof.Rows PySem.Calls
section
variable {X : Cx}
end
end L2

namespace L2
open PySem PySem.Spec PyProof.Rows NM
theorem Df.dv {P : Program} {w : World} {K : PySem.W.Frag} {mg : Str → Option Value} {base : Heap} {x : Str} {k : Nat} {ps : List Str} {sp sp' : Sp} {f : Addr} (D : Df P w K mg base x k ps sp) (hm : mg x = some (.ref f)) (h : ∀ vs H Q E, sp' vs H Q E → sp vs H Q E) : Dv P w K mg base f k sp' := by
  obtain ⟨f', fd, hm', hk, hb, F⟩ := D.ex
  rw [hm] at hm'
  cases hm'
  exact ⟨fd, ps, hk, hb, F.imp h⟩
noncomputable def wordV (u : List Nat) : List V := u.map fun v => V.int (v : Nat)
end L2

namespace L2
open PySem PySem.Spec PyProof.Rows NM
theorem comp_listIf {K : PySem.W.Frag} {a : Addr} {xs : List V} {js : List Nat} {tt : TT} {te : TE} {σ : St} {H : Hp} {Fin : List V → Hp → Prop} (Pv : Nat → List V → Hp → Prop) (h0 : Pv 0 [] H) (hl : ∀ i ys H, i ≤ xs.length → Pv i ys H → SqL K H a xs) (hz : ∀ i ys H, i < xs.length → Pv i ys H → ys.length < sizeLine)
    (hs : ∀ i x ys H (T : V → Hp → Prop) (T0 : Hp → Prop), xs[i]? = some x → Pv i ys H → (∀ y H2, Pv (i + 1) (ys ++ [y]) H2 → T y H2) → (∀ H2, Pv (i + 1) ys H2 → T0 H2) → tt (compSt (some x) σ js) H fun b H2 => if b = true then te (compSt (some x) σ js) H2 T else T0 H2) (hd : ∀ ys H, Pv xs.length ys H → Fin ys H) : compGo (Itl K a) js (some tt) te σ H Fin := by
  refine ⟨fun i m ys H => m = xs.length - i ∧ i ≤ xs.length ∧ Pv i ys H, ⟨xs.length, by simp, Nat.zero_le _, h0⟩, ?_⟩
  rintro i m ys H ⟨rfl, hi, p⟩
  have q := hl i ys H hi p
  by_cases hlt : i < xs.length
  · refine .inr ⟨⟨xs, xs[i], q, by simp [hlt]⟩, hz i ys H hlt p, fun x H' y => ?_⟩
    obtain ⟨e, y⟩ := y
    subst e
    exact hs i x ys _ _ _ (y xs q) p (fun y H2 p2 => ⟨xs.length - (i + 1), by lia, rfl, hlt, p2⟩) fun H2 p2 => ⟨xs.length - (i + 1), by lia, rfl, hlt, p2⟩
  · have e : i = xs.length := by lia
    subst e
    exact .inl ⟨⟨xs, q, Nat.le_refl _⟩, hd ys H p⟩
theorem wordV_get {u : List Nat} {i : Nat} {x : V} (h : (wordV u)[i]? = some x) : ∃ a : Nat, u[i]? = some a ∧ x = .int (a : Nat) := by
  unfold wordV at h
  rw [List.getElem?_map] at h
  refine L2.ob_ea (Option.map_eq_some_iff.mp h) fun a h1 h2 => ?_
  exact ⟨a, h1, h2.symm⟩
end L2

namespace L2
open PySem PySem.Spec PyProof.Rows NM
theorem Fun.ok1c {P : Program} {w : World} {K : PySem.W.Frag} {mg : Str → Option Value} {base : Heap} {x qual : Str} {st : Stmt} {f c : Addr} {fd : FuncData} {N ps : List Str} {k : Nat} {sp : Sp} (F : Fun K x qual st f fd) (hc : fd.code = .ref c) (S : FnScope N ps (defScope st))
    (len : ∀ vs H Q E, sp vs H Q E → vs.length = ps.length)
    (hbody : ∀ (A : Around) (outer : List Env) (s : Shared) (H : Hp) (vs : List V) (Q : VK) (E : XK), Room k (A.deeper (envOfC qual (defScope st) s.heap.objs.size f (.ref c))) → sp vs H Q E →
      ∃ t, PSs (cx1 P w K mg base N qual (defScope st) f (.ref c) A outer s H E) (defBody st) t ∧ t { nx := fun _ H' => Q .non H', rt := Q } (start N vs) H) : FnOk P w K mg base (CX1 P w) (k + 1) f fd ps sp := by
  refine L2.ob_eeeeeeeeeaa F.ex fun oc od kV doc pm an cdv ct osl e_9 lk hcd => ?_; subst e_9
  have hc' : cdv = .ref c := hc
  subst hc'
  exact fn_of lk hcd S len fun A outer s H vs Q E hr hsp => hbody A outer s H vs Q E hr hsp
theorem SameB.lst {qual : Str} {lp : Pos} {P : Addr} {H H' : Hp} {a : Addr} {xs : List V} (s : SameB P H H') (l : LamOk qual lp P H) (h : H a = some (.lst xs)) : H' a = some (.lst xs) := by
  refine s a _ (fun e => ?_) h
  rw [e] at h
  rcases l with l | ⟨_, l, _⟩ <;> (rw [l] at h; cases h)
end L2

namespace L2
open PySem PySem.Spec PyProof.Rows NM
end L2

namespace L2
open PySem PySem.Spec PyProof.Rows NM
end L2

namespace L2
open PySem PySem.Spec PyProof.Rows NM
end L2

namespace L2
open PySem PySem.Spec PyProof.Rows NM
end L2

namespace L2
open PySem PySem.Spec PyProof.Rows
theorem law_callT {P : Program} {w : World} {K : PySem.W.Frag} {mg mb : Str → Option Value} {CX : CXT} {k : Nat} {fa a c PT : Addr} {fd : FuncData} {x : Str} {sp : Sp} {s₁ : Shared} {vs : List Value} {ns : List Int}
    (KX : K.In s₁.heap) (hns : s₁.heap.Ns mainGlobals mg) (hb : s₁.heap.Ns builtinsNs mb) (hbb : ∀ x : Str, x ≠ "__name__" → mb x = bootBuiltins x) (hlim : s₁.heap.NoLimit) (hg : s₁.gens = #[])
    (hT : s₁.heap.get? PT = some (PySem.W.tabObj #[])) (hC : PySem.W.codeHdIn K c PT = true) (hKP : K.lookup PT = none) (hbl : s₁.heap.BuiltinsAt mg PT)
    (ha : s₁.heap.get? a = some { cls := .type "list", data := .seq vs.toArray }) (hi : IntsAre vs ns) (hl : ns.length ≤ sizeLine) (hr : Room k callerA)
    (F : ∀ base : Heap, K.In base → base.Ns mainGlobals mg → Lt K mg base c PT → FnOk P w K mg base CX k fa fd [x] sp) (hbind : ∀ (s : Shared) (u : Value), BindsTo s fd ⟨[u], []⟩ [(x, u)])
    (hsp : ∀ H : Hp, H PT = some (.tbl #[]) → SqL K H a (ns.map V.int) → sp [.ref a] H (fun v _ => v = .bl true) fun _ _ _ => False)
    (hCX : ∀ H e s', CX [] H s₁ (fun _ _ _ => False) e s' → False) :
    codeAny (model P w) callerA (.call (.ref fa) ⟨[.ref a], []⟩) (fun r s' => r = .ok (.ret (.bool true)) ∧ OldK s₁.heap s'.heap ∧ s'.os = s₁.os ∧ AllBare s'.gens) s₁ := by
  have rv := vals_ints hi
  have lenV := hi.length
  have hne : a ≠ PT := fun e => by rw [e, hT] at ha; cases ha
  have hct : isCodeTable s₁.heap PT := ((PySem.W.codeHd_of_K KX hC).tab hT).isCodeTable
  have core : ∀ H : Hp, (∀ b, b = PT ∨ H b = none ∨ ∃ o xs, H b = some (.frz o (.lst xs))) → H PT = some (.tbl #[]) → SqL K H a (ns.map V.int) → HOk P w H s₁.heap → (∀ b, H b ≠ none → b = a ∨ b = PT) → (H a ≠ none → K.lookup a = none) →
      codeAny (model P w) callerA (.call (.ref fa) ⟨[.ref a], []⟩) (fun r s' => r = .ok (.ret (.bool true)) ∧ OldK s₁.heap s'.heap ∧ s'.os = s₁.os ∧ AllBare s'.gens) s₁ := by
    intro H hO hP hS hok hA hK
    have base_of : ∀ {b : Addr} {o : Obj}, s₁.heap.get? b = some o → H b = none → (hidT s₁.heap H).get? b = some o := fun e n => hidT_get e n
    have free : ∀ {b : Addr} {o : Obj}, s₁.heap.get? b = some o → (∀ n, o.data ≠ .seq vs.toArray n) → (∀ ps, o.data ≠ .fields ps) → H b = none := fun {b o} e d1 d2 => by
      cases q : H b with
      | none => rfl
      | some u =>
        rcases hA b (by rw [q]; simp) with e' | e'
        · subst e'
          rw [ha] at e; obtain rfl := Option.some.inj e
          exact absurd rfl (d1 _)
        · subst e'
          rw [hT] at e; obtain rfl := Option.some.inj e
          exact absurd rfl (d2 _)
    have nsK : ∀ {b : Addr} {m : Str → Option Value}, s₁.heap.Ns b m → (hidT s₁.heap H).Ns b m := fun {b m} ⟨o, es, ep, e, d, r⟩ => ⟨o, es, ep, base_of e (free e (fun n z => by rw [d] at z; cases z) fun n z => by rw [d] at z; cases z), d, r⟩
    have hKb : K.In (hidT s₁.heap H) := fun b o e => base_of (KX b o e) (by
      cases q : H b with
      | none => rfl
      | some u =>
        rcases hA b (by rw [q]; simp) with e' | e'
        · subst e'
          rw [hK (by rw [q]; simp)] at e; exact L2.ns_ e
        · subst e'
          rw [hKP] at e; exact L2.ns_ e)
    have hM : Mod K mg (hidT s₁.heap H) := ⟨hKb, nsK hns, ⟨mb, nsK hb, hbb⟩, let ⟨mc, h1, h2⟩ := hlim; ⟨mc, nsK h1, h2⟩⟩
    have e0 : Env0 P w K mg (hidT s₁.heap H) callerA [] s₁ H := ⟨rfl, hM, fun b o e => of_hidT e, Nat.le_of_eq (hidT_size _ _), trivial, fun b hb => absurd (show b ∈ ([] : List Addr) from hb) (by simp), hok, .of_eq hg⟩
    have hLt : Lt K mg (hidT s₁.heap H) c PT := by
      obtain ⟨bm, ob, b1, b2, b3, b4, b5, b6, b7, b8⟩ := hbl
      exact ⟨hC, bm, ob, b1, b2, b3, b4, base_of b5 (free b5 (fun n z => by rw [b8] at z; cases z) fun n z => by rw [b8] at z; cases z), b6, b7, b8⟩
    refine codeAny_mono ((F _ hKb (nsK hns) hLt).run callerA [] s₁ H ⟨[.ref a], []⟩ [.ref a] [.ref a] _ _ hr e0 (hbind s₁ (.ref a)) (.cons rfl .nil) (hsp H hP hS)) fun r s' h => ?_
    cases r with
    | error e => exact (hCX H e s' h).elim
    | ok fl =>
      cases fl with
      | next => exact False.elim h
      | brk => exact False.elim h
      | cont => exact False.elim h
      | ret u =>
        obtain ⟨v, H', os, bare, un, hok', r', q⟩ := h
        have q' : v = .bl true := q
        subst q'
        obtain rfl : u = Value.bool true := r'
        have kp : ∀ b o, b ≠ PT → s₁.heap.get? b = some o → s'.heap.get? b = some o := fun b o hbP e => by
          cases q : H b with
          | none => exact un.keep b o e q (by intro z; exact absurd (show b ∈ ([] : List Addr) from z) (by simp)) (by simp)
          | some u =>
            rcases hO b with z | z | ⟨ob, xs, z⟩
            · exact absurd z hbP
            · rw [q] at z; exact L2.sn_ z
            · have z2 := un.frzs b ob _ z
              obtain ⟨e1, _⟩ := hok b _ z
              obtain ⟨e2, _⟩ := hok' b _ z2
              rw [e] at e1; obtain rfl := Option.some.inj e1
              exact e2
        obtain ⟨more, hm⟩ := un.tbls PT _ hP
        have hP' : s'.heap.get? PT = some (PySem.W.tabObj (#[] ++ more)) := hok' PT _ hm
        refine ⟨rfl, ⟨fun b o e => ?_, fun b o e => ?_⟩, os, bare⟩
        · by_cases hbP : b = PT
          · subst hbP
            rw [hT] at e; obtain rfl := Option.some.inj e
            exact .inr (.inl ⟨hct, rfl, #[], more, rfl, hP'⟩)
          · exact .inl (kp b o hbP e)
        · by_cases hbP : b = PT
          · rw [hbP]; exact ⟨_, hP'⟩
          · exact ⟨o, kp b o hbP e⟩
  cases hk : K.lookup a with
  | some o =>
    have e := KX a o hk
    rw [ha] at e
    obtain rfl := Option.some.inj e
    refine core (upd (fun _ => none) PT (.tbl #[])) (fun b => ?_) upd_same (.inr ⟨_, vs.toArray, _, hk, rfl, rfl, rfl, by rw [List.size_toArray, lenV]; exact hl, by simpa using rv⟩) (fun b u z => ?_) (fun b z => ?_) fun z => absurd (upd_ne hne) z
    · by_cases hb : b = PT
      · exact .inl hb
      · exact .inr (.inl (upd_ne hb))
    · by_cases hb : b = PT
      · rw [hb, upd_same] at z; obtain rfl := Option.some.inj z
        rw [hb]
        exact hT
      · rw [upd_ne hb] at z; exact L2.ns_ z
    · by_cases hb : b = PT
      · exact .inr hb
      · exact absurd (upd_ne hb) z
  | none =>
    have hsc : (upd (upd (fun _ => none) a (.frz { cls := .type "list", data := .seq vs.toArray } (.lst (ns.map V.int)))) PT (.tbl #[])) a = some (.frz { cls := .type "list", data := .seq vs.toArray } (.lst (ns.map V.int))) := by rw [upd_ne hne, upd_same]
    refine core (upd (upd (fun _ => none) a (.frz { cls := .type "list", data := .seq vs.toArray } (.lst (ns.map V.int)))) PT (.tbl #[])) (fun b => ?_) upd_same (.inl (.inr ⟨{ cls := .type "list", data := .seq vs.toArray }, hsc⟩)) (fun b u z => ?_) (fun b z => ?_) fun _ => hk
    · by_cases hb : b = PT
      · exact .inl hb
      · by_cases hb2 : b = a
        · exact .inr (.inr ⟨_, _, by rw [hb2]; exact hsc⟩)
        · exact .inr (.inl (by rw [upd_ne hb, upd_ne hb2]))
    · by_cases hb : b = PT
      · rw [hb, upd_same] at z; obtain rfl := Option.some.inj z
        rw [hb]
        exact hT
      · by_cases hb2 : b = a
        · rw [hb2, hsc] at z
          obtain rfl := Option.some.inj z
          rw [hb2]
          exact ⟨ha, by rw [List.length_map]; exact hl, vs, _, rv, ha⟩
        · rw [upd_ne hb, upd_ne hb2] at z; exact L2.ns_ z
    · by_cases hb : b = PT
      · exact .inr hb
      · by_cases hb2 : b = a
        · exact .inl hb2
        · exact absurd (by rw [upd_ne hb, upd_ne hb2]) z
theorem walk_ofT {l : PySem.W.OpenLaw} {n k : Nat} {q : Program} {loose : List Str} {XP : (Str → Option Value) → Heap → Prop} {YP : World → Heap → Prop} {d : DefRec} {K : Params → PySem.W.Frag} {CX : World → CXT} {sp : World → Sp} {x : Str} {c PT : Addr}
    (hn : l.most = some n) (hn2 : n ≤ sizeLine) (hdf : d.params.defaults = []) (hr : Room k callerA)
    (hY : ∀ (w : World) (h : Heap), YP w h → (K w.params).In h) (hP : ∀ (w : World) (h : Heap), YP w h → h.get? PT = some (PySem.W.tabObj #[])) (hC : ∀ w : World, PySem.W.codeHdIn (K w.params) c PT = true) (hKP : ∀ w : World, (K w.params).lookup PT = none)
    (F : ∀ (w : World) (mg : Str → Option Value) (fa : Addr) (h : Heap), (K w.params).In h → h.Ns mainGlobals mg → mg d.name = some (.ref fa) →
      ∃ fd : FuncData, (∀ (s : Shared) (u : Value), BindsTo s fd ⟨[u], []⟩ [(x, u)]) ∧
        ∀ base : Heap, (K w.params).In base → base.Ns mainGlobals mg → Lt (K w.params) mg base c PT → FnOk l.prog w (K w.params) mg base (CX w) k fa fd [x] (sp w))
    (hsp : ∀ (w : World) (H : Hp) (a : Addr) (ns : List Int), ns.length ≤ n → H PT = some (.tbl #[]) → SqL (K w.params) H a (ns.map V.int) → sp w [.ref a] H (fun v _ => v = .bl true) fun _ _ _ => False)
    (hCX : ∀ (w : World) (H : Hp) (s : Shared) (e : Value) (s' : Shared), CX w [] H s (fun _ _ _ => False) e s' → False) :
    PySem.W.WalkO q loose XP YP l.row.toRowW d [] (fun f vs => PySem.call f vs) := by
  refine Att.attach_call hn hdf fun w s₀ s₁ mg mb fa o pm cd doc a vs ns G Y ho hd hcd hmg hobj hints hlen hg => ?_
  have KX := hY w _ Y
  have hT := hP w _ Y
  refine L2.ob_ea (F w mg fa _ KX G.T.g hmg) fun fd hb hF => ?_
  have hbl : s₁.heap.BuiltinsAt mg PT := by
    obtain ⟨bm, ob, b1, b2, b3, b4, b5, b6⟩ := G.T.bmain
    refine ⟨bm, ob, b1, b2, fun e => ?_, fun e => ?_, b3, b4, b5, b6⟩
    · obtain ⟨o, es, ep, e', hd, _⟩ := G.T.g
      rw [← e, b3] at e'; obtain rfl := Option.some.inj e'; rw [hd] at b6; cases b6
    · rw [e, hT] at b3; obtain rfl := Option.some.inj b3; cases b4
  exact law_callT KX G.T.g G.T.b G.T.builtins G.T.nolimit hg hT (hC w) (hKP w) hbl hobj hints (Nat.le_trans hlen hn2) hr hF hb (fun H hH hS => hsp w H a ns hlen hH hS) fun H e s' => hCX w H s₁ e s'
end L2

namespace L2
open PySem PySem.Spec PyProof.Rows PySem.Calls
section
variable {prog : Program} {w : World} {A : Around} {E : Value → Shared → Prop} {s : Shared}
end
section
variable {X : Cx}
end
end L2

namespace L2
open PySem PySem.Spec PyProof.Rows NM
theorem wordV_len {u : List Nat} : (wordV u).length = u.length := by unfold wordV; rw [List.length_map]
end L2

namespace L2
open PySem PySem.Spec PyProof.Rows
section
variable {X : Cx} {pins : List (Addr × Obj)} {σ : St} {H H₁ : Hp} {s s₁ : Shared} {scope : Scope} {x : Str} {js : List Nat} {C : Addr} {fp : List Addr}
end
section
variable {X : Cx} {pins : List (Addr × Obj)} {σ : St} {H₁ : Hp} {s₁ : Shared} {scope : Scope} {x : Str} {js : List Nat} {elt iter : Expr} {ifs : List Expr} {ot : Option TT} {te : TE} {px pos : Pos}
end
end L2

namespace L2
open PySem PySem.Spec PyProof.Rows NM
end L2

namespace L2
open PySem PySem.Spec PyProof.Rows NM
noncomputable def SameX (H H' : Hp) : Prop := ∀ b o, (∀ ps, o ≠ .tbl ps) → H b = some o → H' b = some o
theorem SameB.toX {qual : Str} {lp : Pos} {P : Addr} {H H' : Hp} (s : SameB P H H') (l : LamOk qual lp P H) : SameX H H' := fun b o n h => by
  refine s b o (fun e => ?_) h
  rw [e] at h
  rcases l with l | ⟨_, l, _⟩ <;> (rw [l] at h; obtain rfl := Option.some.inj h; exact n _ rfl)
theorem SameX.seq {K : PySem.W.Frag} {H H' : Hp} {a : Addr} {xs : List V} (e : SameX H H') (h : SqL K H a xs) : SqL K H' a xs := by
  rcases h with (h | ⟨o, h⟩) | h
  · exact .inl (.inl (e _ _ (by first | (rintro _ _ ⟨⟩; done) | (rintro _ ⟨⟩; done) | (rintro ⟨⟩; done) | nofun) h))
  · exact .inl (.inr ⟨o, e _ _ (by first | (rintro _ _ ⟨⟩; done) | (rintro _ ⟨⟩; done) | (rintro ⟨⟩; done) | nofun) h⟩)
  · exact .inr h
theorem NetAt.monoX {H H' : Hp} {a sa oa : Addr} {wide : Int} {steps : List (List Int)} {outs : List Int} {rs : List V} (n : NetAt H a wide steps outs sa oa rs) (s : SameX H H') : NetAt H' a wide steps outs sa oa rs :=
  ⟨s _ _ (by first | (rintro _ _ ⟨⟩; done) | (rintro _ ⟨⟩; done) | (rintro ⟨⟩; done) | nofun) n.net, s _ _ (by first | (rintro _ _ ⟨⟩; done) | (rintro _ ⟨⟩; done) | (rintro ⟨⟩; done) | nofun) n.sts, n.st.keep fun r u h => s _ _ (by first | (rintro _ _ ⟨⟩; done) | (rintro _ ⟨⟩; done) | (rintro ⟨⟩; done) | nofun) h, s _ _ (by first | (rintro _ _ ⟨⟩; done) | (rintro _ ⟨⟩; done) | (rintro ⟨⟩; done) | nofun) n.ots⟩
theorem dps_strs3 : ∀ ss : List Str, Dt.dps (ss.map Dt.str) = 0
  | [] => by simp [Dt.dps]
  | s :: r => by simp [Dt.dps, Dt.dp, dps_strs3 r]
end L2

namespace L2
open PySem PySem.Spec PyProof.Rows
noncomputable def It2 (lo : Int) (n : Nat) : It := ⟨fun i _ => i < n, fun i H x H' => H' = H ∧ x = .int (lo + 2 * i), fun i _ => n ≤ i⟩
theorem turn_two {P : Program} {w : World} {K : PySem.W.Frag} {tg : Expr} (it : Addr) (lo : Int) (n : Nat) : Turn P w K tg (It2 lo n) [it] it (fun i h => IsRangeIter h it (lo + (i : Nat) * 2) ((n : Int) - (i : Nat)) 2) where
  mem := by simp
  obj := fun i h st b hb => by
    have e : b = it := by simpa using hb
    subst e
    exact ⟨_, st, fun v z => by
      have z' : Data.fields _ = Data.cell v := z
      cases z'⟩
  keep := fun i h h' st k => k it (by simp) _ st
  item := by
    intro X hP hw hK hc i pins s σ H E I hf st hg
    subst hP hw hK
    obtain ⟨f0, f1, f2, f3, f4, f5⟩ := hf it (by simp)
    have W := Walks.range (prog := X.prog) (w := X.w) (I.ok.hd hc) it lo 2 n
    refine W.item i s _ _ hg st fun v h' tk hv st' kk => ?_
    obtain ⟨t, rfl⟩ := hv
    have I1 : Inv X pins σ H { s with heap := h', toks := tk } := I.turned (fun b o hb e => kk b o (by simpa using hb) e) f0 f1 f3 f4 f5
    refine ⟨_, rfl, go_of (s := { s with heap := h', toks := tk }) (n := "range_iterator") st' rfl rfl (by decide) ⟨.int (lo + 2 * i), H, I1, ⟨t, ?_⟩, ⟨rfl, rfl⟩, st', fun b hb => (hf b hb).1⟩⟩
    rw [show lo + (i : Int) * 2 = lo + 2 * i by lia]
  done := by
    intro X hP hw hK hc i pins s σ H E I hf st hg
    subst hP hw hK
    obtain ⟨f0, f1, f2, f3, f4, f5⟩ := hf it (by simp)
    exact wpAny_pyNext_range_end (I.ok.hd hc) st (by have : n ≤ i := hg; lia) fun h' eb => ⟨rfl, I.turned (t' := s.toks) (fun b o hb e => eb b o hb e) f0 f1 f3 f4 f5⟩
  self := fun _ _ _ _ _ st h => wpAny_pyIter_rangeiter st h
theorem rangeSize_two (a b : Int) : Builtin.Range.rangeSize a b 2 = if a < b then (b - a - 1) / 2 + 1 else 0 := by
  unfold Builtin.Range.rangeSize
  rw [if_pos (by decide)]
theorem small_two {a b : Int} (ha : -(2 ^ 61) ≤ a) (ha' : a < 2 ^ 61) (hb : -(2 ^ 61) ≤ b) (hb' : b < 2 ^ 61) : Builtin.Range.small a b 2 = true := by
  unfold Builtin.Range.small
  rw [rangeSize_two]
  simp only [Builtin.Range.rangeFitsLong, Bool.and_eq_true, Bool.or_eq_true, decide_eq_true_eq, beq_iff_eq, show ((2 : Int) > 0) by decide, if_true]
  split <;> lia
inductive iRng3_b (R : It → Hp → Prop) (vs : List V) (H1 : Hp) : Prop
  | mk : ∀ i j : Int, (vs = [.int i, .int j, .int 2]) → ((-(2 ^ 61) ≤ i ∧ i < 2 ^ 61 ∧ -(2 ^ 61) ≤ j ∧ j < 2 ^ 61)) → (R (It2 i ((j - i + 1) / 2).toNat) H1) → iRng3_b R vs H1
noncomputable def iRng3 (ta : TA) : TI := fun σ H R => ta σ H fun vs H1 => iRng3_b R vs H1
theorem pi_two {X : Cx} {tg : Expr} {a b c : Expr} {ta : TA} {p pos : Pos} (hg : Gl X "range") (hm : X.mg "range" = none) (ha : PA X [a, b, c] ta)
    (hs : starEach [a, b, c] X.env = (false, eval a X.env) :: starEach [b, c] X.env := by rfl) (hpl : (backTo pos (starEach [b, c] X.env)).any (·.1) = false := by rfl) :
    PI X tg (.Call (.Name "range" p) [a, b, c] [] pos) (iRng3 ta) := by
  intro pins s σ H R I h
  refine Call_ (ld_blt I hg hm boot_range (PyProof.Rows.callWith_type1 (thn (ha pos pins s σ H _ I h) fun us s1 ⟨vs, H1, I1, r1, q1⟩ => ?_) hs hpl))
  obtain ⟨i, j, e, ⟨q1, q2, q3, q4⟩, q⟩ := q1
  subst e
  cases r1 with
  | cons r rr =>
    cases rr with
    | cons r' rr =>
      cases rr with
      | cons r'' rr =>
        cases rr
        obtain ⟨t, rfl⟩ := r
        obtain ⟨t', rfl⟩ := r'
        obtain ⟨t'', rfl⟩ := r''
        refine call_range_3 (by decide) ?_ (Or.inl (PyProof.noPylong_small (by decide)))
        refine wpAny_pyIter_range (IsRange.new ..) (small_two q1 q2 q3 q4) ?_
        have I2 : Inv X pins σ H1 { s1 with heap := s1.heap.push { cls := .type "range", data := .fields #[.int i t, .int j t', .int 2 t''] } } := I1.kept (t' := s1.toks) fun b o e => Heap.get?_push_of_some _ e
        refine ⟨(s1.heap.push { cls := .type "range", data := .fields #[.int i t, .int j t', .int 2 t''] }).objs.size, [(s1.heap.push { cls := .type "range", data := .fields #[.int i t, .int j t', .int 2 t''] }).objs.size], _, _, H1, rfl,
          I2.kept (t' := s1.toks) fun b o e => Heap.get?_push_of_some _ e, turn_two _ i ((j - i + 1) / 2).toNat, ?_, fun b hb => ?_, q⟩
        · have e1 : i + ((0 : Nat) : Int) * 2 = i := by simp
          have e2 : ((((j - i + 1) / 2).toNat : Nat) : Int) - ((0 : Nat) : Int) = Builtin.Range.rangeSize i j 2 := by rw [rangeSize_two]; split <;> lia
          show IsRangeIter _ _ (i + ((0 : Nat) : Int) * 2) (((((j - i + 1) / 2).toNat : Nat) : Int) - ((0 : Nat) : Int)) 2
          rw [e1, e2]
          exact Heap.get?_push_size _ rfl
        · have e : b = (s1.heap.push { cls := .type "range", data := .fields #[.int i t, .int j t', .int 2 t''] }).objs.size := by simpa using hb
          subst e
          exact I2.fpOk (Nat.le_refl _) (I2.hok.fresh (Nat.le_refl _))
theorem comp_two {lo : Int} {n : Nat} {js : List Nat} {te : TE} {σ : St} {H : Hp} {Fin : List V → Hp → Prop} (Pv : Nat → List V → Hp → Prop) (h0 : Pv 0 [] H) (hz : ∀ i ys H, i < n → Pv i ys H → ys.length < sizeLine)
    (hs : ∀ i ys H (T : V → Hp → Prop), i < n → Pv i ys H → (∀ y H2, Pv (i + 1) (ys ++ [y]) H2 → T y H2) → te (compSt (some (.int (lo + 2 * i))) σ js) H T) (hd : ∀ ys H, Pv n ys H → Fin ys H) : compGo (It2 lo n) js none te σ H Fin := by
  refine ⟨fun i m ys H => m = n - i ∧ i ≤ n ∧ Pv i ys H, ⟨n, by simp, Nat.zero_le _, h0⟩, ?_⟩
  rintro i m ys H ⟨rfl, hi, p⟩
  by_cases hlt : i < n
  · refine .inr ⟨hlt, hz i ys H hlt p, fun x H' y => ?_⟩
    obtain ⟨e, y⟩ := y
    subst e y
    unfold tests
    simp only [if_true]
    exact hs i ys _ _ hlt p fun y H2 p2 => ⟨n - (i + 1), by lia, rfl, hlt, p2⟩
  · have e : i = n := by lia
    subst e
    exact .inl ⟨Nat.le_refl _, hd ys H p⟩
theorem arm_call_sub (v s : Expr) (p : Pos) (args : List Expr) (pos : Pos) (env : Env) : eval (.Call (.Subscript v s p) args [] pos) env = (do
    callWith pos (← eval (.Subscript v s p) env) [] (backTo pos (starEach args env)) (backToKw pos (keywordEach [] env))) := rfl
inductive tCallE_b (P : Program) (w : World) (K : PySem.W.Frag) (mg : Str → Option Value) (base : Heap) (k : Nat) (E : XK) (t : TA) (σ : St) (Q : VK) (v : V) (H0 : Hp) : Prop
  | mk : ∀ f, (v = .ref f) → ∀ sp, (Dv P w K mg base f k sp) → (t σ H0 fun vs H1 => sp vs H1 Q E) → tCallE_b P w K mg base k E t σ Q v H0
noncomputable def tCallE (P : Program) (w : World) (K : PySem.W.Frag) (mg : Str → Option Value) (base : Heap) (k : Nat) (tf : TE) (E : XK) (t : TA) : TE := fun σ H Q => tf σ H fun v H0 => tCallE_b P w K mg base k E t σ Q v H0
theorem pe_callE {X : Cx} {k : Nat} {v sl : Expr} {E : XK} {p pos : Pos} {e : Expr} {es : List Expr} {tf : TE} {t : TA} (hr : Room k X.A) (hx : Passes (CX1 X.prog X.w) X E) (hf : PE X (.Subscript v sl p) tf) (ha : PA X (e :: es) t)
    (he : starEach (e :: es) X.env = (false, eval e X.env) :: starEach es X.env := by rfl) (hpl : (backTo pos (starEach es X.env)).any (·.1) = false := by rfl) : PE X (.Call (.Subscript v sl p) (e :: es) [] pos) (tCallE X.prog X.w X.K X.mg X.base k tf E t) := by
  intro pins s σ H Q I h
  rw [arm_call_sub]
  refine wpAny_bind (thn (hf pins s σ H _ I h) fun u s0 ⟨v, H0, I0, r0, q0⟩ => ?_)
  obtain ⟨f, rfl, sp, D, h⟩ := q0
  refine L2.ob_eeaa D.ex fun fd ps hk hb F => ?_
  cases r0
  refine PySem.W.callWith_K (h₀ := X.base) I0.ok.mod.kin hk (thn (ha pos pins s0 σ H0 _ I0 h) fun us s1 ⟨vs, H1, I1, r, q⟩ => ⟨I1.kIn, ?_⟩) he hpl
  exact run_fn F hr hb (dvs := []) .nil hx I1 r (by rw [List.append_nil]; exact q)
end L2

namespace NM
end NM

namespace NM
noncomputable abbrev SO := List (Nat × Nat) × List Nat
noncomputable def addAll (w : Nat) (st : List (Nat × Nat)) (ps : List (Nat × Nat)) : SO := (st ++ ps, List.range' (w + st.length) ps.length)
noncomputable def lineF (w : Nat) (s : SO) (v : Nat) : SO := (s.1 ++ [(s.2.getLastD 0, v)], s.2 ++ [w + s.1.length])
noncomputable def lineN (w : Nat) (st : List (Nat × Nat)) (ns : List Nat) : SO := (ns.drop 1).foldl (lineF w) (st, ns.take 1)
noncomputable def halvesN (w : Nat) : Nat → List (Nat × Nat) → List Nat → SO
  | 0, st, ns => (st, ns)
  | n+1, st, ns =>
    if ns.length = 1 then (st, ns) else
    let m := (ns.length + 1) / 2
    let a := halvesN w n st (ns.take m)
    let b := halvesN w n a.1 (ns.drop m)
    let c := addAll w b.1 (b.2.map fun o => (a.2.getLastD 0, o))
    (c.1, a.2 ++ c.2)
noncomputable def stridePairs (outs : List Nat) (s : Nat) : List (Nat × Nat) := (outs.zip (outs.drop s))
noncomputable def stridesN (w : Nat) : Nat → Nat → List (Nat × Nat) → List Nat → SO
  | 0, _, st, ns => (st, ns)
  | n+1, s, st, ns => if s < ns.length then
      let c := addAll w st (stridePairs ns s)
      stridesN w n (s * 2) c.1 (ns.take s ++ c.2)
    else (st, ns)
noncomputable def pairsOf : List Nat → List (Nat × Nat)
  | a :: b :: r => (a, b) :: pairsOf r
  | _ => []
noncomputable def upF (w : Nat) (ns po : List Nat) (s : SO) (p : Nat) : SO :=
  if p % 2 = 1 then (s.1, s.2 ++ [po.getD (p / 2) 0]) else (s.1 ++ [(po.getD (p / 2 - 1) 0, ns.getD p 0)], s.2 ++ [w + s.1.length])
noncomputable def updownN (w : Nat) : Nat → List (Nat × Nat) → List Nat → SO
  | 0, st, ns => (st, ns)
  | n+1, st, ns =>
    if ns.length = 1 then (st, ns) else
    let c := addAll w st (pairsOf ns)
    let d := updownN w n c.1 c.2
    (List.range' 1 (ns.length - 1)).foldl (upF w ns d.2) (d.1, ns.take 1)
noncomputable def knownSO (k w : Nat) : SO := match k with
  | 0 => lineN w [] (List.range w)
  | 1 => halvesN w 7 [] (List.range w)
  | 2 => stridesN w 7 1 [] (List.range w)
  | _ => updownN w 7 [] (List.range w)
noncomputable def knownN (k w : Nat) : NetN := ⟨w, (knownSO k w).1, (knownSO k w).2⟩
end NM

namespace NM
inductive Wd (w : Nat) (st : List (Nat × Nat)) : Nat → List Nat → Nat → Prop
  | thing {v d : Nat} : v < w → Wd w st v [v] d
  | step {k a b d : Nat} {ua ub : List Nat} : st[k]? = some (a, b) → Wd w st a ua d → Wd w st b ub d → Wd w st (w + k) (ua ++ ub) (d + 1)
theorem Wd.up {w : Nat} {st : List (Nat × Nat)} {v : Nat} {u : List Nat} {d : Nat} (h : Wd w st v u d) : ∀ {d' : Nat}, d ≤ d' → Wd w st v u d' := by
  induction h with
  | thing h => intro d' _; exact .thing h
  | step e _ _ ia ib =>
    intro d' hd
    cases d' with
    | zero => lia
    | succ d' => exact .step e (ia (by lia)) (ib (by lia))
theorem Wd.ext {w : Nat} {st st' : List (Nat × Nat)} {v : Nat} {u : List Nat} {d : Nat} (h : Wd w st v u d) (p : st <+: st') : Wd w st' v u d := by
  induction h with
  | thing h => exact .thing h
  | step e _ _ ia ib =>
    refine .step ?_ ia ib
    obtain ⟨r, rfl⟩ := p
    rw [List.getElem?_append_left (List.getElem?_eq_some_iff.mp e).1]
    exact e
theorem Wd.lt {w : Nat} {st : List (Nat × Nat)} {v : Nat} {u : List Nat} {d : Nat} (h : Wd w st v u d) : v < w + st.length := by
  cases h with
  | thing h => lia
  | step e _ _ => have := (List.getElem?_eq_some_iff.mp e).1; lia
noncomputable def SOk (w : Nat) (st : List (Nat × Nat)) : Prop := ∀ k p, st[k]? = some p → p.1 < w + k ∧ p.2 < w + k
theorem SOk.nil (w : Nat) : SOk w [] := fun k p h => by simp at h
theorem SOk.append {w : Nat} {st ps : List (Nat × Nat)} (h : SOk w st) (hp : ∀ p ∈ ps, p.1 < w + st.length ∧ p.2 < w + st.length) : SOk w (st ++ ps) := fun k p e => by
  by_cases hk : k < st.length
  · rw [List.getElem?_append_left hk] at e; exact h k p e
  · rw [List.getElem?_append_right (by lia)] at e
    have := hp p (List.mem_of_getElem? e)
    lia
noncomputable def cat (u : Nat → List Nat) (a n : Nat) : List Nat := (List.range' a n).flatMap u
theorem cat_one (u : Nat → List Nat) (a : Nat) : cat u a 1 = u a := by simp [cat, List.range']
theorem cat_add (u : Nat → List Nat) (a n m : Nat) : cat u a (n + m) = cat u a n ++ cat u (a + n) m := by
  unfold cat
  rw [← List.flatMap_append, List.range'_append_1]
theorem cat_shift (u : Nat → List Nat) (m a n : Nat) : cat (fun i => u (m + i)) a n = cat u (m + a) n := by
  unfold cat
  induction n generalizing a with
  | zero => rfl
  | succ n ih => rw [List.range'_succ, List.range'_succ, List.flatMap_cons, List.flatMap_cons, ih]; rfl
structure WL (w : Nat) (st : List (Nat × Nat)) (ns : List Nat) (u : Nat → List Nat) (d : Nat) : Prop where
  at' : ∀ i n, ns[i]? = some n → Wd w st n (u i) d
structure Res (w : Nat) (st : List (Nat × Nat)) (ns : List Nat) (u : Nat → List Nat) (d : Nat) (r : SO) : Prop where
  pre : st <+: r.1
  ok : SOk w r.1
  len : r.2.length = ns.length
  at' : ∀ i o, r.2[i]? = some o → Wd w r.1 o (cat u 0 (i + 1)) d
theorem addAll_get {w : Nat} {st ps : List (Nat × Nat)} {i v : Nat} (h : (addAll w st ps).2[i]? = some v) : i < ps.length ∧ v = w + (st.length + i) := by
  unfold addAll at h
  rw [List.getElem?_eq_some_iff] at h
  obtain ⟨h1, h2⟩ := h
  rw [List.length_range'] at h1
  rw [List.getElem_range'] at h2
  lia
theorem addAll_wd {w : Nat} {st ps : List (Nat × Nat)} {i v a b d : Nat} {ua ub : List Nat} (h : (addAll w st ps).2[i]? = some v) (hp : ps[i]? = some (a, b)) (wa : Wd w st a ua d) (wb : Wd w st b ub d) : Wd w (addAll w st ps).1 v (ua ++ ub) (d + 1) := by
  obtain ⟨h1, rfl⟩ := addAll_get h
  refine .step ?_ (wa.ext ⟨ps, rfl⟩) (wb.ext ⟨ps, rfl⟩)
  show (st ++ ps)[st.length + i]? = _
  rw [List.getElem?_append_right (by simp), Nat.add_sub_cancel_left]
  exact hp
theorem line_go {w : Nat} {u : Nat → List Nat} {d : Nat} : ∀ (r : List Nat) (st : List (Nat × Nat)) (os : List Nat) (d' : Nat), SOk w st → (∀ i n, r[i]? = some n → Wd w st n (u (os.length + i)) d) → os ≠ [] → (∀ i o, os[i]? = some o → Wd w st o (cat u 0 (i + 1)) d') →
    ∃ d2, st <+: (r.foldl (lineF w) (st, os)).1 ∧ SOk w (r.foldl (lineF w) (st, os)).1 ∧ (r.foldl (lineF w) (st, os)).2.length = os.length + r.length ∧ (r.foldl (lineF w) (st, os)).1.length = st.length + r.length ∧ ∀ i o, (r.foldl (lineF w) (st, os)).2[i]? = some o → Wd w (r.foldl (lineF w) (st, os)).1 o (cat u 0 (i + 1)) d2
  | [], st, os, d', hs, _, _, ho => ⟨d', List.prefix_rfl, hs, rfl, rfl, ho⟩
  | n :: r, st, os, d', hs, hr, hne, ho => by
    have hl : os.length - 1 < os.length := by have := List.length_pos_iff.mpr hne; lia
    have e1 := List.getElem?_eq_getElem hl
    have eL : os.getLastD 0 = os[os.length - 1] := by
      rw [List.getLastD_eq_getLast?, List.getLast?_eq_getElem?, e1]; rfl
    have wl := ho _ _ e1
    rw [← eL, show os.length - 1 + 1 = os.length from by lia] at wl
    have wn := hr 0 n rfl
    rw [Nat.add_zero] at wn
    have M1 := wl.up (Nat.le_max_left d' d)
    have M2 := wn.up (Nat.le_max_right d' d)
    have P : st <+: st ++ [(os.getLastD 0, n)] := ⟨_, rfl⟩
    have hs2 : SOk w (st ++ [(os.getLastD 0, n)]) := hs.append fun p hp => by
      rw [List.mem_singleton] at hp
      subst hp
      exact ⟨wl.lt, wn.lt⟩
    have wx : Wd w (st ++ [(os.getLastD 0, n)]) (w + st.length) (cat u 0 (os.length + 1)) (max d' d + 1) := by
      have := Wd.step (k := st.length) (st := st ++ [(os.getLastD 0, n)]) (w := w) (by rw [List.getElem?_append_right (Nat.le_refl _), Nat.sub_self]; rfl) (M1.ext P) (M2.ext P)
      rw [cat_add, Nat.zero_add, cat_one]
      exact this
    obtain ⟨d2, h1, h2, h3, h4, h5⟩ := line_go r (st ++ [(os.getLastD 0, n)]) (os ++ [w + st.length]) (max d' d + 1) hs2 (fun i m hm => by
      have := hr (i + 1) m hm
      rw [List.length_append, List.length_singleton, Nat.add_assoc, Nat.add_comm 1 i]
      exact this.ext P) (by simp) (fun i o hi => by
        by_cases c : i < os.length
        · rw [List.getElem?_append_left c] at hi
          exact ((ho i o hi).ext P).up (by lia)
        · rw [List.getElem?_append_right (by lia)] at hi
          have : i = os.length := by
            have := (List.getElem?_eq_some_iff.mp hi).1
            simp at this
            lia
          subst this
          rw [Nat.sub_self] at hi
          cases hi
          exact wx)
    refine ⟨d2, P.trans h1, h2, ?_, ?_, h5⟩
    · rw [List.foldl_cons]
      show _ = _
      rw [List.length_cons]
      have : ((r.foldl (lineF w) (st ++ [(os.getLastD 0, n)], os ++ [w + st.length]))).2.length = (os ++ [w + st.length]).length + r.length := h3
      rw [List.length_append, List.length_singleton] at this
      show ((r.foldl (lineF w) (st ++ [(os.getLastD 0, n)], os ++ [w + st.length]))).2.length = _
      lia
    · have : ((r.foldl (lineF w) (st ++ [(os.getLastD 0, n)], os ++ [w + st.length]))).1.length = (st ++ [(os.getLastD 0, n)]).length + r.length := h4
      rw [List.length_append, List.length_singleton] at this
      show ((r.foldl (lineF w) (st ++ [(os.getLastD 0, n)], os ++ [w + st.length]))).1.length = _
      rw [List.length_cons]
      lia
theorem line_res {w : Nat} {st : List (Nat × Nat)} {ns : List Nat} {u : Nat → List Nat} {d : Nat} (hs : SOk w st) (hn : ns ≠ []) (h : WL w st ns u d) : (∃ d', Res w st ns u d' (lineN w st ns)) ∧ (lineN w st ns).1.length + 1 = st.length + ns.length := by
  match ns, hn with
  | n :: r, _ =>
    obtain ⟨d2, h1, h2, h3, h4, h5⟩ := line_go (w := w) (u := u) (d := d) r st [n] d hs (fun i m hm => by
      have := h.at' (i + 1) m hm
      rw [List.length_singleton, Nat.add_comm 1 i]; exact this) (by simp) (fun i o hi => by
        cases i with
        | zero => cases hi; rw [Nat.zero_add, cat_one]; exact h.at' 0 n rfl
        | succ i => cases hi)
    refine ⟨⟨d2, h1, h2, ?_, h5⟩, ?_⟩
    · show ((r.foldl (lineF w) (st, [n]))).2.length = _
      rw [h3, List.length_singleton, List.length_cons]; lia
    · show ((r.foldl (lineF w) (st, [n]))).1.length + 1 = _
      rw [h4, List.length_cons]; rfl
theorem halves_res {w : Nat} {u : Nat → List Nat} {d : Nat} : ∀ (n : Nat) (st : List (Nat × Nat)) (ns : List Nat) (u : Nat → List Nat), SOk w st → ns ≠ [] → ns.length ≤ 2 ^ n → WL w st ns u d → Res w st ns u (d + n) (halvesN w n st ns) ∧ (halvesN w n st ns).1.length ≤ st.length + n * ns.length
  | 0, st, ns, u, hs, hn, hl, h => by
    have h1 : ns.length = 1 := by have := List.length_pos_iff.mpr hn; lia
    refine ⟨⟨List.prefix_rfl, hs, rfl, fun i o hi => ?_⟩, by show st.length ≤ _; simp⟩
    have := (List.getElem?_eq_some_iff.mp hi).1
    have : i = 0 := by show i = 0; have : i < ns.length := this; lia
    subst this
    rw [Nat.zero_add, cat_one]
    exact h.at' 0 o hi
  | n+1, st, ns, u, hs, hn, hl, h => by
    by_cases h1 : ns.length = 1
    · have e : halvesN w (n+1) st ns = (st, ns) := by rw [halvesN, if_pos h1]
      rw [e]
      refine ⟨⟨List.prefix_rfl, hs, rfl, fun i o hi => ?_⟩, by show st.length ≤ _; simp⟩
      have := (List.getElem?_eq_some_iff.mp hi).1
      have : i = 0 := by show i = 0; have : i < ns.length := this; lia
      subst this
      rw [Nat.zero_add, cat_one]
      exact (h.at' 0 o hi).up (by simp)
    · have hp := List.length_pos_iff.mpr hn
      rw [Nat.pow_succ] at hl
      let m := (ns.length + 1) / 2
      have m1 : 1 ≤ m := by show 1 ≤ (ns.length + 1) / 2; lia
      have m2 : m < ns.length := by show (ns.length + 1) / 2 < _; lia
      have mp : m ≤ 2 ^ n := by show (ns.length + 1) / 2 ≤ _; lia
      have mq : ns.length - m ≤ 2 ^ n := by show _ - (ns.length + 1) / 2 ≤ _; lia
      obtain ⟨ra, la⟩ := halves_res (d := d) (u := u) n st (ns.take m) u hs (by rw [ne_eq, ← List.length_eq_zero_iff, List.length_take]; lia) (by rw [List.length_take]; lia) ⟨fun i v hi => h.at' i v (by
        rw [List.getElem?_take] at hi
        split at hi
        · exact hi
        · cases hi)⟩
      let a := halvesN w n st (ns.take m)
      obtain ⟨rb, lb⟩ := halves_res (d := d) (u := u) n a.1 (ns.drop m) (fun i => u (m + i)) ra.ok (by rw [ne_eq, ← List.length_eq_zero_iff, List.length_drop]; lia) (by rw [List.length_drop]; exact mq) ⟨fun i v hi => by
        rw [List.getElem?_drop] at hi
        exact (h.at' _ v hi).ext ra.pre⟩
      let b := halvesN w n a.1 (ns.drop m)
      let ps := b.2.map fun o => (a.2.getLastD 0, o)
      have e : halvesN w (n+1) st ns = ((addAll w b.1 ps).1, a.2 ++ (addAll w b.1 ps).2) := by rw [halvesN, if_neg h1]
      rw [e]
      have al : a.2.length = m := by have := ra.len; rw [List.length_take, Nat.min_eq_left (by solve_by_elim (maxDepth := 3) [Nat.le_of_lt, Nat.lt_of_lt_of_le, Nat.le_trans, Nat.lt_of_le_of_lt])] at this; exact this
      have bl : b.2.length = ns.length - m := by have := rb.len; rw [List.length_drop] at this; exact this
      have eL : a.2[m - 1]? = some (a.2.getLastD 0) := by
        rw [List.getLastD_eq_getLast?, List.getLast?_eq_getElem?, al, List.getElem?_eq_getElem (by lia)]; rfl
      have wl := (ra.at' _ _ eL).ext rb.pre
      rw [show m - 1 + 1 = m from by lia] at wl
      have pl : ps.length = ns.length - m := by show (b.2.map _).length = _; rw [List.length_map, bl]
      have P1 : b.1 <+: (addAll w b.1 ps).1 := ⟨ps, rfl⟩
      refine ⟨⟨(ra.pre.trans rb.pre).trans P1, rb.ok.append fun p hp => ?_, ?_, fun i o hi => ?_⟩, ?_⟩
      · refine L2.ob_ea (List.mem_map.mp hp) fun o ho e_2 => ?_; subst e_2
        obtain ⟨j, hj⟩ := List.getElem?_of_mem ho
        exact ⟨wl.lt, (rb.at' j o hj).lt⟩
      · show (a.2 ++ (List.range' (w + b.1.length) ps.length)).length = _
        rw [List.length_append, List.length_range', al, pl]; lia
      · have hi : (a.2 ++ (addAll w b.1 ps).2)[i]? = some o := hi
        by_cases c : i < m
        · rw [List.getElem?_append_left (by lia)] at hi
          exact (((ra.at' i o hi).ext rb.pre).ext P1).up (by solve_by_elim)
        · rw [List.getElem?_append_right (by lia), al] at hi
          have h2 := (addAll_get hi).1
          have h3 : i - m < b.2.length := by lia
          have h4 := List.getElem?_eq_getElem h3
          have := addAll_wd hi (by show (b.2.map _)[i - m]? = _; rw [List.getElem?_map, h4]; rfl) wl (rb.at' _ _ h4)
          rw [cat_shift, Nat.add_zero] at this
          have e2 : cat u 0 (i + 1) = cat u 0 m ++ cat u m (i - m + 1) := by
            rw [show i + 1 = m + (i - m + 1) from by lia, cat_add, Nat.zero_add]
          rw [e2]
          exact this
      · show (b.1 ++ ps).length ≤ _
        rw [List.length_append, pl]
        rw [List.length_take, Nat.min_eq_left (by solve_by_elim (maxDepth := 3) [Nat.le_of_lt, Nat.lt_of_lt_of_le, Nat.le_trans, Nat.lt_of_le_of_lt])] at la
        rw [List.length_drop] at lb
        have lb : b.1.length ≤ a.1.length + n * (ns.length - m) := lb
        have la : a.1.length ≤ st.length + n * m := la
        have : n * m + n * (ns.length - m) = n * ns.length := by rw [← Nat.mul_add]; congr 1; lia
        rw [Nat.add_mul, Nat.one_mul]
        lia
noncomputable def strideW (u : Nat → List Nat) (s i : Nat) : List Nat := if i < s then cat u 0 (i + 1) else cat u (i + 1 - s) s
theorem zip_drop_get {ns : List Nat} {s i : Nat} {p : Nat × Nat} (h : (stridePairs ns s)[i]? = some p) : ns[i]? = some p.1 ∧ ns[s + i]? = some p.2 := by
  unfold stridePairs at h
  rw [List.getElem?_zip_eq_some] at h
  rw [List.getElem?_drop] at h
  exact h
theorem strides_res {w : Nat} {u : Nat → List Nat} {d : Nat} {st0 : List (Nat × Nat)} : ∀ (n s t : Nat) (st : List (Nat × Nat)) (ns : List Nat), s = 2 ^ t → ns.length ≤ s * 2 ^ n → (ns.length ≤ 2 ^ (t + n)) → st0 <+: st → SOk w st → (∀ i v, ns[i]? = some v → Wd w st v (strideW u s i) (d + t)) →
    Res w st0 ns u (d + t + n) (stridesN w n s st ns) ∧ (stridesN w n s st ns).1.length ≤ st.length + n * ns.length
  | 0, s, t, st, ns, es, hl, _, hp, hs, h => by
    rw [Nat.pow_zero, Nat.mul_one] at hl
    refine ⟨⟨hp, hs, rfl, fun i o hi => ?_⟩, by show st.length ≤ _; simp⟩
    have hi : ns[i]? = some o := hi
    have := (List.getElem?_eq_some_iff.mp hi).1
    have := h i o hi
    rw [strideW, if_pos (by lia)] at this
    exact this
  | n+1, s, t, st, ns, es, hl, hl2, hp, hs, h => by
    by_cases c : s < ns.length
    · let ps := stridePairs ns s
      have pl : ps.length = ns.length - s := by
        show (ns.zip (ns.drop s)).length = _
        rw [List.length_zip, List.length_drop]; simp
      have e : stridesN w (n+1) s st ns = stridesN w n (s * 2) (addAll w st ps).1 (ns.take s ++ (addAll w st ps).2) := by rw [stridesN, if_pos c]
      have nl : (ns.take s ++ (addAll w st ps).2).length = ns.length := by
        show (ns.take s ++ List.range' _ ps.length).length = _
        rw [List.length_append, List.length_take, List.length_range', pl]; lia
      have P : st <+: (addAll w st ps).1 := ⟨ps, rfl⟩
      have s1 : 1 ≤ s := by rw [es]; exact Nat.one_le_two_pow
      obtain ⟨r, l⟩ := strides_res (w := w) (u := u) (d := d) (st0 := st0) n (s * 2) (t + 1) (addAll w st ps).1 (ns.take s ++ (addAll w st ps).2) (by rw [es, Nat.pow_succ]) (by rw [nl]; rw [Nat.pow_succ] at hl; rw [Nat.mul_assoc, Nat.mul_comm 2]; exact hl) (by rw [nl, Nat.add_assoc, Nat.add_comm 1]; exact hl2) (hp.trans P)
        (hs.append fun p hp => by
          obtain ⟨j, hj⟩ := List.getElem?_of_mem hp
          obtain ⟨h1, h2⟩ := zip_drop_get hj
          exact ⟨(h _ _ h1).lt, (h _ _ h2).lt⟩) (fun i v hi => by
          by_cases ci : i < s
          · rw [List.getElem?_append_left (by rw [List.length_take]; lia), List.getElem?_take, if_pos ci] at hi
            have := (h i v hi).ext P
            rw [strideW, if_pos ci] at this
            rw [strideW, if_pos (by lia)]
            exact this.up (by solve_by_elim)
          · rw [List.getElem?_append_right (by rw [List.length_take]; lia), List.length_take, Nat.min_eq_left (by solve_by_elim (maxDepth := 3) [Nat.le_of_lt, Nat.lt_of_lt_of_le, Nat.le_trans, Nat.lt_of_le_of_lt])] at hi
            have h2 := (addAll_get hi).1
            have h4 := List.getElem?_eq_getElem h2
            obtain ⟨h5, h6⟩ := zip_drop_get h4
            rw [show s + (i - s) = i from by lia] at h6
            have := addAll_wd hi (a := ps[i - s].1) (b := ps[i - s].2) h4 (h _ _ h5) (h _ _ h6)
            have e2 : strideW u (s * 2) i = strideW u s (i - s) ++ strideW u s i := by
              unfold strideW
              rw [if_neg (show ¬ i < s from ci)]
              by_cases c2 : i < s * 2
              · rw [if_pos c2, if_pos (by lia), show i + 1 = (i - s + 1) + s from by lia, cat_add, Nat.zero_add]
                congr 2; simp
              · rw [if_neg c2, if_neg (by lia), show s * 2 = s + s from by lia, cat_add]
                congr 2 <;> lia
            rw [e2]
            exact this)
      rw [e]
      refine ⟨⟨r.pre, r.ok, by rw [r.len, nl], fun i o hi => (r.at' i o hi).up (by lia)⟩, ?_⟩
      rw [nl] at l
      have : (addAll w st ps).1.length = st.length + (ns.length - s) := by show (st ++ ps).length = _; rw [List.length_append, pl]
      rw [Nat.add_mul, Nat.one_mul]
      lia
    · have e : stridesN w (n+1) s st ns = (st, ns) := by rw [stridesN, if_neg c]
      rw [e]
      refine ⟨⟨hp, hs, rfl, fun i o hi => ?_⟩, by show st.length ≤ _; simp⟩
      have hi : ns[i]? = some o := hi
      have := (List.getElem?_eq_some_iff.mp hi).1
      have := h i o hi
      rw [strideW, if_pos (by lia)] at this
      exact this.up (by simp)
theorem pairs_get : ∀ (ns : List Nat) (i : Nat) (p : Nat × Nat), (pairsOf ns)[i]? = some p → ns[2 * i]? = some p.1 ∧ ns[2 * i + 1]? = some p.2
  | [], i, p, h => by simp [pairsOf] at h
  | [_], i, p, h => by simp [pairsOf] at h
  | a :: b :: r, 0, p, h => by simp [pairsOf] at h; subst h; simp
  | a :: b :: r, i+1, p, h => by
    simp only [pairsOf, List.getElem?_cons_succ] at h
    have := pairs_get r i p h
    rw [show 2 * (i + 1) = 2 * i + 1 + 1 from by rfl]
    simpa using this
theorem pairs_len : ∀ ns : List Nat, (pairsOf ns).length = ns.length / 2
  | [] => rfl
  | [_] => by simp [pairsOf]
  | a :: b :: r => by simp only [pairsOf, List.length_cons, pairs_len r]; lia
theorem up_go {w : Nat} {u : Nat → List Nat} {d : Nat} {ns po : List Nat} (hpo : po.length = ns.length / 2) : ∀ (m p : Nat) (st : List (Nat × Nat)) (os : List Nat), 1 ≤ p → p + m = ns.length → SOk w st → (∀ i n, ns[i]? = some n → Wd w st n (u i) d) → (∀ i o, po[i]? = some o → Wd w st o (cat u 0 (2 * i + 2)) d) → os.length = p → (∀ i o, os[i]? = some o → Wd w st o (cat u 0 (i + 1)) (d + 1)) →
    let r := (List.range' p m).foldl (upF w ns po) (st, os)
    st <+: r.1 ∧ SOk w r.1 ∧ r.2.length = ns.length ∧ r.1.length ≤ st.length + m ∧ ∀ i o, r.2[i]? = some o → Wd w r.1 o (cat u 0 (i + 1)) (d + 1)
  | 0, p, st, os, _, hp, hs, _, _, hl, ho => ⟨List.prefix_rfl, hs, by show os.length = _; lia, Nat.le_refl _, ho⟩
  | m+1, p, st, os, p1, hp, hs, hn, hw, hl, ho => by
    rw [List.range'_succ, List.foldl_cons]
    by_cases c : p % 2 = 1
    · have hj : p / 2 < po.length := by lia
      have ej := List.getElem?_eq_getElem hj
      have eg : po.getD (p / 2) 0 = po[p / 2] := by rw [List.getD_eq_getElem?_getD, ej]; rfl
      have e : upF w ns po (st, os) p = (st, os ++ [po.getD (p / 2) 0]) := by rw [upF, if_pos c]
      rw [e]
      have := up_go hpo m (p + 1) st (os ++ [po.getD (p / 2) 0]) (by exact Nat.succ_pos _) (by lia) hs hn hw (by rw [List.length_append, hl]; rfl) (fun i o hi => by
        by_cases ci : i < os.length
        · rw [List.getElem?_append_left ci] at hi; exact ho i o hi
        · rw [List.getElem?_append_right (by lia)] at hi
          have : i = os.length := by
            have := (List.getElem?_eq_some_iff.mp hi).1
            simp at this
            lia
          subst this
          rw [Nat.sub_self] at hi
          cases hi
          rw [eg, hl, show p + 1 = 2 * (p / 2) + 2 from by lia]
          exact (hw _ _ ej).up (by solve_by_elim))
      refine L2.ob_aaaa this fun h1 h2 h3 h4 h5 => ?_
      exact ⟨h1, h2, h3, by solve_by_elim, h5⟩
    · have hj : p / 2 - 1 < po.length := by lia
      have ej := List.getElem?_eq_getElem hj
      have eg : po.getD (p / 2 - 1) 0 = po[p / 2 - 1] := by rw [List.getD_eq_getElem?_getD, ej]; rfl
      have hk : p < ns.length := by lia
      have ek := List.getElem?_eq_getElem hk
      have eh : ns.getD p 0 = ns[p] := by rw [List.getD_eq_getElem?_getD, ek]; rfl
      have e : upF w ns po (st, os) p = (st ++ [(po.getD (p / 2 - 1) 0, ns.getD p 0)], os ++ [w + st.length]) := by rw [upF, if_neg c]
      rw [e]
      have w1 := hw _ _ ej
      have w2 := hn _ _ ek
      rw [← eg] at w1
      rw [← eh] at w2
      have P : st <+: st ++ [(po.getD (p / 2 - 1) 0, ns.getD p 0)] := ⟨_, rfl⟩
      have := up_go hpo m (p + 1) (st ++ [(po.getD (p / 2 - 1) 0, ns.getD p 0)]) (os ++ [w + st.length]) (by exact Nat.succ_pos _) (by lia) (hs.append fun q hq => by
          rw [List.mem_singleton] at hq
          subst hq
          exact ⟨w1.lt, w2.lt⟩) (fun i n hi => (hn i n hi).ext P) (fun i o hi => (hw i o hi).ext P) (by rw [List.length_append, hl]; rfl) (fun i o hi => by
        by_cases ci : i < os.length
        · rw [List.getElem?_append_left ci] at hi; exact (ho i o hi).ext P
        · rw [List.getElem?_append_right (by lia)] at hi
          have : i = os.length := by
            have := (List.getElem?_eq_some_iff.mp hi).1
            simp at this
            lia
          subst this
          rw [Nat.sub_self] at hi
          cases hi
          have := Wd.step (k := st.length) (st := st ++ [(po.getD (p / 2 - 1) 0, ns.getD p 0)]) (w := w) (by rw [List.getElem?_append_right (Nat.le_refl _), Nat.sub_self]; rfl) (w1.ext P) (w2.ext P)
          rw [hl, cat_add, Nat.zero_add, cat_one]
          rw [show 2 * (p / 2 - 1) + 2 = p from by lia] at this
          exact this)
      refine L2.ob_aaaa this fun h1 h2 h3 h4 h5 => ?_
      refine ⟨P.trans h1, h2, h3, ?_, h5⟩
      rw [List.length_append, List.length_singleton] at h4
      lia
theorem cat_pairs (u : Nat → List Nat) : ∀ n, cat (fun i => u (2 * i) ++ u (2 * i + 1)) 0 n = cat u 0 (2 * n)
  | 0 => rfl
  | n+1 => by
    rw [cat_add, cat_pairs u n, cat_one, Nat.zero_add, show 2 * (n + 1) = 2 * n + 1 + 1 from by rfl, cat_add, cat_add, cat_one, cat_one, Nat.zero_add, Nat.zero_add, List.append_assoc]
theorem updown_res {w : Nat} : ∀ (n : Nat) (st : List (Nat × Nat)) (ns : List Nat) (u : Nat → List Nat) (d : Nat), SOk w st → ns ≠ [] → ns.length < 2 ^ (n + 1) → WL w st ns u d → (∃ d', Res w st ns u d' (updownN w n st ns)) ∧ (updownN w n st ns).1.length ≤ st.length + 3 * ns.length
  | 0, st, ns, u, d, hs, hn, hl, h => by
    have h1 : ns.length = 1 := by have := List.length_pos_iff.mpr hn; lia
    refine ⟨⟨d, List.prefix_rfl, hs, rfl, fun i o hi => ?_⟩, by show st.length ≤ _; simp⟩
    have := (List.getElem?_eq_some_iff.mp hi).1
    have : i = 0 := by show i = 0; have : i < ns.length := this; lia
    subst this
    rw [Nat.zero_add, cat_one]
    exact h.at' 0 o hi
  | n+1, st, ns, u, d, hs, hn, hl, h => by
    by_cases h1 : ns.length = 1
    · have e : updownN w (n+1) st ns = (st, ns) := by rw [updownN, if_pos h1]
      rw [e]
      refine ⟨⟨d, List.prefix_rfl, hs, rfl, fun i o hi => ?_⟩, by show st.length ≤ _; simp⟩
      have := (List.getElem?_eq_some_iff.mp hi).1
      have : i = 0 := by show i = 0; have : i < ns.length := this; lia
      subst this
      rw [Nat.zero_add, cat_one]
      exact h.at' 0 o hi
    · have hp := List.length_pos_iff.mpr hn
      rw [Nat.pow_succ] at hl
      let c := addAll w st (pairsOf ns)
      have P : st <+: c.1 := ⟨_, rfl⟩
      have cl : c.2.length = ns.length / 2 := by show (List.range' _ _).length = _; rw [List.length_range', pairs_len]
      obtain ⟨⟨d', r⟩, l⟩ := updown_res n c.1 c.2 (fun i => u (2 * i) ++ u (2 * i + 1)) (d + 1) (hs.append fun p hq => by
          obtain ⟨j, hj⟩ := List.getElem?_of_mem hq
          obtain ⟨a1, a2⟩ := pairs_get _ _ _ hj
          exact ⟨(h.at' _ _ a1).lt, (h.at' _ _ a2).lt⟩) (by rw [ne_eq, ← List.length_eq_zero_iff, cl]; lia) (by rw [cl]; lia) ⟨fun i v hi => by
          have h2 := (addAll_get hi).1
          have h4 := List.getElem?_eq_getElem h2
          obtain ⟨a1, a2⟩ := pairs_get _ _ _ h4
          exact addAll_wd hi h4 (h.at' _ _ a1) (h.at' _ _ a2)⟩
      let q := updownN w n c.1 c.2
      have e : updownN w (n+1) st ns = (List.range' 1 (ns.length - 1)).foldl (upF w ns q.2) (q.1, ns.take 1) := by rw [updownN, if_neg h1]
      have ql : q.2.length = ns.length / 2 := by rw [← cl]; exact r.len
      have := up_go (w := w) (u := u) (d := max d d') (ns := ns) (po := q.2) ql (ns.length - 1) 1 q.1 (ns.take 1) (Nat.le_refl _) (by lia) r.ok (fun i v hi => (((h.at' i v hi).ext P).ext r.pre).up (Nat.le_max_left _ _)) (fun i o hi => by
          have := r.at' i o hi
          rw [cat_pairs, show 2 * (i + 1) = 2 * i + 2 from by rfl] at this
          exact this.up (Nat.le_max_right _ _)) (by rw [List.length_take]; lia) (fun i o hi => by
          rw [List.getElem?_take] at hi
          split at hi
          · rename_i hi1
            have : i = 0 := by lia
            subst this
            rw [Nat.zero_add, cat_one]
            exact (((h.at' 0 o hi).ext P).ext r.pre).up (by lia)
          · cases hi)
      refine L2.ob_aaaa this fun g1 g2 g3 g4 g5 => ?_
      rw [e]
      refine ⟨⟨_, (P.trans r.pre).trans g1, g2, g3, g5⟩, ?_⟩
      have l : q.1.length ≤ c.1.length + 3 * c.2.length := l
      have : c.1.length = st.length + ns.length / 2 := by show (st ++ pairsOf ns).length = _; rw [List.length_append, pairs_len]
      rw [cl] at l
      lia
theorem known_res {k w : Nat} (h1 : 1 ≤ w) (h2 : w ≤ 64) : (∃ d, Res w [] (List.range w) (fun i => [i]) d (knownSO k w)) ∧ (knownSO k w).1.length ≤ 500 := by
  have ne : List.range w ≠ [] := by rw [ne_eq, ← List.length_eq_zero_iff, List.length_range]; lia
  have W : WL w [] (List.range w) (fun i => [i]) 0 := ⟨fun i n hi => by
    have := (List.getElem?_eq_some_iff.mp hi).1
    rw [List.length_range] at this
    rw [List.getElem?_range this] at hi
    cases hi
    exact .thing this⟩
  have rl : (List.range w).length = w := List.length_range
  match k with
  | 0 =>
    obtain ⟨r, l⟩ := line_res (SOk.nil w) ne W
    rw [rl] at l
    exact ⟨r, by show (lineN w [] (List.range w)).1.length ≤ _; simp only [List.length_nil] at l; lia⟩
  | 1 =>
    obtain ⟨r, l⟩ := halves_res (u := fun i => [i]) 7 [] (List.range w) (fun i => [i]) (SOk.nil w) ne (by rw [rl]; lia) W
    rw [rl] at l
    exact ⟨⟨_, r⟩, by show (halvesN w 7 [] (List.range w)).1.length ≤ _; simp only [List.length_nil] at l; lia⟩
  | 2 =>
    obtain ⟨r, l⟩ := strides_res (w := w) (u := fun i => [i]) (d := 0) (st0 := []) 7 1 0 [] (List.range w) rfl (by rw [rl]; lia) (by rw [rl]; lia) List.prefix_rfl (SOk.nil w) (fun i v hi => by
      have := W.at' i v hi
      have e : strideW (fun i => [i]) 1 i = [i] := by
        unfold strideW
        split
        · have : i = 0 := by lia
          subst this; rfl
        · rw [show i + 1 - 1 = i from by simp, cat_one]
      rw [e]; exact this)
    rw [rl] at l
    exact ⟨⟨_, r⟩, by show (stridesN w 7 1 [] (List.range w)).1.length ≤ _; simp only [List.length_nil] at l; lia⟩
  | k+3 =>
    obtain ⟨r, l⟩ := updown_res (w := w) 7 [] (List.range w) (fun i => [i]) 0 (SOk.nil w) ne (by rw [rl]; lia) W
    rw [rl] at l
    exact ⟨r, by show (updownN w 7 [] (List.range w)).1.length ≤ _; simp only [List.length_nil] at l; lia⟩
theorem known_ok {k w : Nat} (h1 : 1 ≤ w) (h2 : w ≤ 64) : (knownN k w).Ok := by
  obtain ⟨⟨d, r⟩, l⟩ := known_res (k := k) h1 h2
  refine ⟨h1, h2, l, r.ok, by show (knownSO k w).2.length = w; rw [r.len, List.length_range], fun v hv => ?_⟩
  obtain ⟨j, hj⟩ := List.getElem?_of_mem hv
  exact (r.at' j v hj).lt
end NM

namespace L2
open PySem PySem.Spec PyProof.Rows NM
section
variable {X : Cx}
theorem pe_fvs {e : Expr} {te : TE} {pos : Pos} (he : PE X e te) : PE X (.FormattedValue e (-1) none pos) (fun σ H Q => te σ H fun v H1 => ∃ x : Str, v = .str x ∧ x.length ≤ sizeLine ∧ Q (.str x) H1) := by
  intro pins s σ H Q I h
  refine FormattedValue_plain (thn (he pins s σ H _ I h) fun v s1 ⟨x, H1, I1, r1, i, e1, z, q⟩ => ?_)
  subst e1
  obtain ⟨tk, rfl⟩ := r1
  exact formatField_str (fun t' tk => ⟨.str _, H1, I1.tok _, ⟨_, rfl⟩, q⟩) z
end
theorem kdict4 {P : Program} {w : World} {K : PySem.W.Frag} {D : Addr} {k1 k2 k3 k4 : Str} {t1 t2 t3 t4 : Tok} {f1 f2 f3 f4 : Addr} {n : Nat} (hD : (D == sysModules) = false) (h12 : k1 ≠ k2) (h13 : k1 ≠ k3) (h14 : k1 ≠ k4) (h23 : k2 ≠ k3) (h24 : k2 ≠ k4) (h34 : k3 ≠ k4)
    (l : K.lookup D = some { cls := .type "dict", data := .dict #[{ hash := PyData.keyHash w.params k1, key := .str k1 t1, val := .ref f1 }, { hash := PyData.keyHash w.params k2, key := .str k2 t2, val := .ref f2 }, { hash := PyData.keyHash w.params k3, key := .str k3 t3, val := .ref f3 }, { hash := PyData.keyHash w.params k4, key := .str k4 t4, val := .ref f4 }] n }) :
    KDict P w K D [(Sum.inr k1, .ref f1), (Sum.inr k2, .ref f2), (Sum.inr k3, .ref f3), (Sum.inr k4, .ref f4)] := by
  refine ⟨hD, [(Sum.inr k1, .ref f1), (Sum.inr k2, .ref f2), (Sum.inr k3, .ref f3), (Sum.inr k4, .ref f4)], .cons ⟨rfl, rfl⟩ (.cons ⟨rfl, rfl⟩ (.cons ⟨rfl, rfl⟩ (.cons ⟨rfl, rfl⟩ .nil))), fun h X => ?_⟩
  refine ⟨_, _, _, X _ _ l, ⟨rfl, rfl, rfl⟩, rfl, ?_, ?_, ?_⟩
  · intro e he
    simp only [List.mem_toArray, List.mem_cons, List.not_mem_nil, or_false] at he
    rcases he with rfl | rfl | rfl | rfl
    · exact ⟨.inr k1, keyIs_str k1 t1, rfl⟩
    · exact ⟨.inr k2, keyIs_str k2 t2, rfl⟩
    · exact ⟨.inr k3, keyIs_str k3 t3, rfl⟩
    · exact ⟨.inr k4, keyIs_str k4 t4, rfl⟩
  · exact .cons (keyIs_str k1 t1) rfl (.cons (keyIs_str k2 t2) rfl (.cons (keyIs_str k3 t3) rfl (.cons (keyIs_str k4 t4) rfl .nil)))
  · simp [h12, h13, h14, h23, h24, h34]
noncomputable def Bt (sa : Addr) (H H' : Hp) : Prop := ∀ b o, b ≠ sa → H b = some o → H' b = some o
theorem Bt.refl {sa : Addr} (H : Hp) : Bt sa H H := fun _ _ _ e => e
theorem Bt.trans {sa : Addr} {H H1 H2 : Hp} (a : Bt sa H H1) (b : Bt sa H1 H2) : Bt sa H H2 := fun p o n e => b p o n (a p o n e)
theorem Bt.same {sa : Addr} {H H' : Hp} (s : Same H H') : Bt sa H H' := fun b o _ e => s b o e
theorem Bt.sa {sa : Addr} {H : Hp} {o : HO} : Bt sa H (upd H sa o) := fun b o' n e => by rw [upd_ne n]; exact e
structure StAt (H : Hp) (sa : Addr) (st : List (Nat × Nat)) : Prop where
  ex : ∃ rs, H sa = some (.lst rs) ∧ StepsAt H rs (st.map pairI)
theorem StAt.mono {H H' : Hp} {sa : Addr} {st : List (Nat × Nat)} (h : StAt H sa st) (s : Same H H') : StAt H' sa st := by
  obtain ⟨rs, h1, h2⟩ := h.ex
  exact ⟨rs, s _ _ h1, h2.mono s⟩
theorem Bt.free {sa : Addr} {H H' : Hp} (b : Bt sa H H') {p : Addr} (n : p ≠ sa) (h : H' p = none) : H p = none := by
  cases e : H p with
  | none => rfl
  | some o => rw [b p o n e] at h; exact L2.sn_ h
inductive spAdd  (vs : List V) (H : Hp) (Q : VK) (_e3 : XK) : Prop
  | mk : ∀ (w a b : Nat) (sa : Addr) (st : List (Nat × Nat)), (vs = [.int (w : Nat), .ref sa, .int (a : Nat), .int (b : Nat)]) → (StAt H sa st) → (st.length < 5000) → (∀ H', Bt sa H H' → StAt H' sa (st ++ [(a, b)]) → Q (.int ((w + st.length : Nat) : Int)) H') → spAdd vs H Q _e3
inductive spMk (F : Nat → List (Nat × Nat) → List Nat → SO) (ok : List (Nat × Nat) → List Nat → Prop) (vs : List V) (H : Hp) (Q : VK) (_e3 : XK) : Prop
  | mk : ∀ (w : Nat) (sa na : Addr) (st : List (Nat × Nat)) (ns : List Nat), (vs = [.int (w : Nat), .ref sa, .ref na]) → (StAt H sa st) → (H na = some (.lst (wordV ns))) → (na ≠ sa) → (ns ≠ []) → (ns.length ≤ 64) → (ok st ns) → (∀ (H' : Hp) (oa : Addr), Bt sa H H' → StAt H' sa (F w st ns).1 → H' oa = some (.lst (wordV (F w st ns).2)) → oa ≠ sa → Q (.ref oa) H') → spMk F ok vs H Q _e3
theorem wordV_app (u v : List Nat) : wordV (u ++ v) = wordV u ++ wordV v := by unfold wordV; rw [List.map_append]
theorem wordV_at {u : List Nat} {i : Nat} (h : i < u.length) : (wordV u)[i]? = some (.int ((u.getD i 0 : Nat) : Int)) := by
  unfold wordV; rw [List.getElem?_map, List.getElem?_eq_getElem h, List.getD_eq_getElem?_getD, List.getElem?_eq_getElem h]; rfl
theorem wordV_take (u : List Nat) (n : Nat) : (wordV u).take n = wordV (u.take n) := by unfold wordV; rw [List.map_take]
theorem wordV_drop (u : List Nat) (n : Nat) : (wordV u).drop n = wordV (u.drop n) := by unfold wordV; rw [List.map_drop]
end L2
namespace L2
open PySem PySem.Spec PyProof.Rows NM
inductive spBound (CK : Addr) (vs : List V) (H : Hp) (Q : VK) (E : XK) : Prop
  | mk : ∀ (x : Str) (v lo hi : Int), (vs = [.str x, .int v, .int lo, .int hi]) → (x.length ≤ 1000) → (lo.natAbs.log2 < 1920) → (hi.natAbs.log2 < 1920) → (((lo ≤ v ∧ v ≤ hi) → Q .non H)) → ((¬ (lo ≤ v ∧ v ≤ hi) → E (.ref CK) none H)) → spBound CK vs H Q E
end L2
namespace L2
open PySem PySem.Spec PyProof.Rows NM
theorem emptyLen : Str.empty.length = 0 := rfl
theorem StAt.put {H : Hp} {sa t : Addr} {st : List (Nat × Nat)} {rs : List V} {a b : Nat} (h1 : H sa = some (.lst rs)) (h2 : StepsAt H rs (st.map pairI)) (ht : H t = some (.tup [.int (a : Nat), .int (b : Nat)])) : StAt (upd H sa (.lst (rs ++ [.ref t]))) sa (st ++ [(a, b)]) := by
  have keep : ∀ r u, H r = some (.tup u) → (upd H sa (.lst (rs ++ [.ref t]))) r = some (.tup u) := fun r u e => by
    rw [upd_ne (ne_of e h1 (by intro z; cases z))]; exact e
  exact ⟨_, upd_same, by rw [List.map_append]; exact (h2.keep keep).snoc (keep _ _ ht)⟩
end L2
namespace L2
open PySem PySem.Spec PyProof.Rows NM
theorem getLastD_getD {os : List Nat} {j : Nat} (h : os.length = j + 1) : os.getLastD 0 = os.getD j 0 := by
  rw [List.getLastD_eq_getLast?, List.getLast?_eq_getElem?, List.getD_eq_getElem?_getD, h]; rfl
end L2
namespace L2
open PySem PySem.Spec PyProof.Rows NM
theorem StAt.other {H : Hp} {sa oa : Addr} {st : List (Nat × Nat)} {xs ys : List V} (S : StAt H sa st) (n : oa ≠ sa) (h : H oa = some (.lst xs)) : StAt (upd H oa (.lst ys)) sa st := by
  obtain ⟨rs, h1, h2⟩ := S.ex
  refine ⟨rs, by rw [upd_ne (Ne.symm n)]; exact h1, h2.keep fun r u e => ?_⟩
  rw [upd_ne (ne_of e h (by intro z; cases z))]; exact e
end L2
namespace L2
open PySem PySem.Spec PyProof.Rows NM
theorem halves_len {w : Nat} : ∀ (n : Nat) (st : List (Nat × Nat)) (ns : List Nat), (halvesN w n st ns).2.length = ns.length ∧ (halvesN w n st ns).1.length ≤ st.length + n * ns.length
  | 0, st, ns => ⟨rfl, by show st.length ≤ _; simp⟩
  | n+1, st, ns => by
    unfold halvesN
    split
    · exact ⟨rfl, by show st.length ≤ _; simp⟩
    · obtain ⟨a1, a2⟩ := halves_len (w := w) n st (ns.take ((ns.length + 1) / 2))
      obtain ⟨b1, b2⟩ := halves_len (w := w) n (halvesN w n st (ns.take ((ns.length + 1) / 2))).1 (ns.drop ((ns.length + 1) / 2))
      rw [List.length_take] at a1 a2
      rw [List.length_drop] at b1 b2
      have hm : (ns.length + 1) / 2 ≤ ns.length := by
        by_cases h : ns.length = 0
        · rw [h]; decide
        · lia
      rw [Nat.min_eq_left hm] at a1 a2
      have : n * ((ns.length + 1) / 2) + n * (ns.length - (ns.length + 1) / 2) = n * ns.length := by rw [← Nat.mul_add]; congr 1; lia
      refine ⟨?_, ?_⟩
      · simp only [addAll, List.length_append, List.length_range', List.length_map]; lia
      · simp only [addAll, List.length_append, List.length_map]; rw [Nat.add_mul, Nat.one_mul]; lia
noncomputable def spHalves (n : Nat) : Sp := spMk (fun w => halvesN w (n - 1)) (fun st ns => 1 ≤ n ∧ ns.length ≤ 2 ^ (n - 1) ∧ st.length + (n - 1) * ns.length ≤ 4000)
end L2
namespace L2
open PySem PySem.Spec PyProof.Rows NM
structure AddI (w : Nat) (sa : Addr) (st ps : List (Nat × Nat)) (H H' : Hp) (i : Nat) (ys : List V) : Prop where
  bt : Bt sa H H'
  st' : StAt H' sa (st ++ ps.take i)
  ys' : ys = wordV (List.range' (w + st.length) i)
theorem AddI.zero {w : Nat} {sa : Addr} {st ps : List (Nat × Nat)} {H : Hp} (S : StAt H sa st) : AddI w sa st ps H H 0 [] := ⟨Bt.refl _, by rw [List.take_zero, List.append_nil]; exact S, rfl⟩
theorem AddI.len {w : Nat} {sa : Addr} {st ps : List (Nat × Nat)} {H H' : Hp} {i : Nat} {ys : List V} (a : AddI w sa st ps H H' i ys) : ys.length = i := by rw [a.ys', wordV_len, List.length_range']
theorem AddI.lenS {st ps : List (Nat × Nat)} {i : Nat} (hi : i < ps.length) : (st ++ ps.take i).length = st.length + i := by rw [List.length_append, List.length_take]; lia
theorem AddI.succ {w : Nat} {sa : Addr} {st ps : List (Nat × Nat)} {H H' H2 : Hp} {i : Nat} {ys : List V} {a b : Nat} (h : AddI w sa st ps H H' i ys) (hp : ps[i]? = some (a, b)) (bt : Bt sa H' H2) (S : StAt H2 sa (st ++ ps.take i ++ [(a, b)])) :
    AddI w sa st ps H H2 (i + 1) (ys ++ [.int ((w + (st ++ ps.take i).length : Nat) : Int)]) := by
  refine ⟨h.bt.trans bt, ?_, ?_⟩
  · rw [List.take_succ, hp, ← List.append_assoc]; exact S
  · have hi := (List.getElem?_eq_some_iff.mp hp).1
    rw [h.ys', AddI.lenS hi, List.range'_concat, wordV_app, Nat.one_mul, Nat.add_assoc]; rfl
theorem AddI.all {w : Nat} {sa : Addr} {st ps : List (Nat × Nat)} {H H' : Hp} {i : Nat} {ys : List V} (a : AddI w sa st ps H H' i ys) (hi : i = ps.length) : StAt H' sa (addAll w st ps).1 ∧ ys = wordV (addAll w st ps).2 := by
  subst hi
  have := a.st'
  rw [List.take_length] at this
  exact ⟨this, a.ys'⟩
end L2
namespace L2
open PySem PySem.Spec PyProof.Rows NM
theorem atI_word {os : List Nat} {j : Nat} (h : j < os.length) : atI (wordV os) (j : Int) = some (.int ((os.getD j 0 : Nat) : Int)) := atI_nat (wordV_at h)
theorem stride_at {os : List Nat} {s i : Nat} (h : s + i < os.length) : (stridePairs os s)[i]? = some (os.getD i 0, os.getD (s + i) 0) := by
  unfold stridePairs
  rw [List.getElem?_zip_eq_some, List.getElem?_drop, List.getElem?_eq_getElem (by lia : i < os.length), List.getElem?_eq_getElem h]
  simp [List.getD_eq_getElem?_getD, List.getElem?_eq_getElem (by lia : i < os.length), List.getElem?_eq_getElem h]
theorem stride_len {os : List Nat} {s : Nat} : (stridePairs os s).length = os.length - s := by
  unfold stridePairs
  rw [List.length_zip, List.length_drop]; simp
noncomputable def okStr : List (Nat × Nat) → List Nat → Prop := fun st ns => st.length ≤ 3000
end L2
namespace L2
open PySem PySem.Spec PyProof.Rows NM
theorem upF_len {w : Nat} {ns po : List Nat} : ∀ (l : List Nat) (s : SO), (l.foldl (upF w ns po) s).2.length = s.2.length + l.length ∧ (l.foldl (upF w ns po) s).1.length ≤ s.1.length + l.length
  | [], s => ⟨rfl, Nat.le_refl _⟩
  | p :: r, s => by
    rw [List.foldl_cons]
    obtain ⟨h1, h2⟩ := upF_len (w := w) (ns := ns) (po := po) r (upF w ns po s p)
    have e : (upF w ns po s p).2.length = s.2.length + 1 ∧ (upF w ns po s p).1.length ≤ s.1.length + 1 := by
      unfold upF
      split
      · exact ⟨by rw [List.length_append]; rfl, Nat.le_succ _⟩
      · exact ⟨by rw [List.length_append]; rfl, by rw [List.length_append]; exact Nat.le_refl _⟩
    rw [List.length_cons]
    lia
theorem updown_len {w : Nat} : ∀ (n : Nat) (st : List (Nat × Nat)) (ns : List Nat), (updownN w n st ns).2.length = ns.length ∧ (updownN w n st ns).1.length ≤ st.length + 3 * ns.length
  | 0, st, ns => ⟨rfl, by show st.length ≤ _; simp⟩
  | n+1, st, ns => by
    unfold updownN
    split
    · exact ⟨rfl, by show st.length ≤ _; simp⟩
    · obtain ⟨a1, a2⟩ := updown_len (w := w) n (addAll w st (pairsOf ns)).1 (addAll w st (pairsOf ns)).2
      obtain ⟨b1, b2⟩ := upF_len (w := w) (ns := ns) (po := (updownN w n (addAll w st (pairsOf ns)).1 (addAll w st (pairsOf ns)).2).2) (List.range' 1 (ns.length - 1)) ((updownN w n (addAll w st (pairsOf ns)).1 (addAll w st (pairsOf ns)).2).1, ns.take 1)
      rw [List.length_range'] at b1 b2
      have c1 : (addAll w st (pairsOf ns)).1.length = st.length + ns.length / 2 := by show (st ++ _).length = _; rw [List.length_append, NM.pairs_len]
      have c2 : (addAll w st (pairsOf ns)).2.length = ns.length / 2 := by show (List.range' _ _).length = _; rw [List.length_range', NM.pairs_len]
      have c3 : (ns.take 1).length + (ns.length - 1) = ns.length := by rw [List.length_take]; lia
      rw [c2] at a1 a2
      have b1' : (List.foldl (upF w ns (updownN w n (addAll w st (pairsOf ns)).1 (addAll w st (pairsOf ns)).2).2) ((updownN w n (addAll w st (pairsOf ns)).1 (addAll w st (pairsOf ns)).2).1, ns.take 1) (List.range' 1 (ns.length - 1))).2.length = (ns.take 1).length + (ns.length - 1) := b1
      have b2' : (List.foldl (upF w ns (updownN w n (addAll w st (pairsOf ns)).1 (addAll w st (pairsOf ns)).2).2) ((updownN w n (addAll w st (pairsOf ns)).1 (addAll w st (pairsOf ns)).2).1, ns.take 1) (List.range' 1 (ns.length - 1))).1.length ≤ (updownN w n (addAll w st (pairsOf ns)).1 (addAll w st (pairsOf ns)).2).1.length + (ns.length - 1) := b2
      exact ⟨b1'.trans c3, Nat.le_trans b2' (by lia)⟩
theorem pairs_at {ns : List Nat} {i : Nat} (h : i < ns.length / 2) : (pairsOf ns)[i]? = some (ns.getD (2 * i) 0, ns.getD (2 * i + 1) 0) := by
  have hl := NM.pairs_len ns
  have e := List.getElem?_eq_getElem (l := pairsOf ns) (i := i) (by lia)
  obtain ⟨h1, h2⟩ := pairs_get ns i _ e
  rw [e, List.getD_eq_getElem?_getD, List.getD_eq_getElem?_getD, h1, h2]; rfl
noncomputable def spUpdown (n : Nat) : Sp := spMk (fun w => updownN w (n - 1)) (fun st ns => 1 ≤ n ∧ ns.length < 2 ^ n ∧ st.length + 3 * ns.length ≤ 4000)
end L2
namespace L2
open PySem PySem.Spec PyProof.Rows NM
noncomputable def kwords : List Str := [Str.ofString "line", Str.ofString "halves", Str.ofString "strides", Str.ofString "updown"]
noncomputable def wordIx (x : Str) : Nat := kwords.idxOf x
inductive spKnown (CK : Addr) (vs : List V) (H : Hp) (Q : VK) (E : XK) : Prop
  | mk : ∀ (x : Str) (wi : Int), (vs = [.str x, .int wi]) → (x.length ≤ 1000) → (wi.natAbs.log2 < 1920) → (((x ∈ kwords ∧ 1 ≤ wi ∧ wi ≤ 64) → ∀ (H' : Hp) (n sa oa : Addr) (rs : List V), Same H H' → NetAt H' n (knownN (wordIx x) wi.toNat).w (knownN (wordIx x) wi.toNat).steps (knownN (wordIx x) wi.toNat).outs sa oa rs → Q (.ref n) H')) → ((¬ (x ∈ kwords ∧ 1 ≤ wi ∧ wi ≤ 64) → ∀ H', Same H H' → E (.ref CK) none H')) → spKnown CK vs H Q E
theorem kwords_val {x : Str} {v1 v2 v3 v4 : V} : (valV [((Sum.inr (Str.ofString "line") : Key), v1), (Sum.inr (Str.ofString "halves"), v2), (Sum.inr (Str.ofString "strides"), v3), (Sum.inr (Str.ofString "updown"), v4)] (Sum.inr x)).isSome = decide (x ∈ kwords) := by
  unfold kwords
  by_cases h1 : x = Str.ofString "line"
  · rw [valV_pos (by rw [h1])]; simp [h1]
  · rw [valV_neg (fun e => h1 (Sum.inr.inj e).symm)]
    by_cases h2 : x = Str.ofString "halves"
    · rw [valV_pos (by rw [h2])]; simp [h2]
    · rw [valV_neg (fun e => h2 (Sum.inr.inj e).symm)]
      by_cases h3 : x = Str.ofString "strides"
      · rw [valV_pos (by rw [h3])]; simp [h3]
      · rw [valV_neg (fun e => h3 (Sum.inr.inj e).symm)]
        by_cases h4 : x = Str.ofString "updown"
        · rw [valV_pos (by rw [h4])]; simp [h4]
        · rw [valV_neg (fun e => h4 (Sum.inr.inj e).symm), valV_nil]; simp [h1, h2, h3, h4]
end L2
namespace L2
open PySem PySem.Spec PyProof.Rows NM
theorem range_word (w : Nat) : (rangeL 0 ((w : Int) - 0).toNat).map V.int = wordV (List.range w) := by
  unfold rangeL wordV
  rw [Int.sub_zero, Int.toNat_natCast, List.map_map]
  refine List.map_congr_left fun v _ => ?_
  show V.int (0 + (v : Int)) = V.int (v : Nat)
  rw [Int.zero_add]
theorem wordV_outs (u : List Nat) : wordV u = (u.map Int.ofNat).map V.int := by unfold wordV; rw [List.map_map]; rfl
end L2

namespace NM
end NM
namespace L2
open PySem PySem.Spec PyProof.Rows NM
theorem pickW4 (i : Int) : ∃ x, x ∈ kwords ∧ x.length ≤ 1000 ∧ atI [V.str (Str.ofString "line"), V.str (Str.ofString "halves"), V.str (Str.ofString "strides"), V.str (Str.ofString "updown")] (i % 4) = some (.str x) := by
  have h1 := Int.emod_nonneg i (show (4 : Int) ≠ 0 by decide)
  have h2 := Int.emod_lt_of_pos i (show (0 : Int) < 4 by decide)
  generalize i % 4 = j at h1 h2
  obtain ⟨m, rfl⟩ : ∃ m : Nat, j = (m : Int) := ⟨j.toNat, by lia⟩
  match m with
  | 0 => exact ⟨_, by simp [kwords], by decide, rfl⟩
  | 1 => exact ⟨Str.ofString "halves", by simp [kwords], by decide, rfl⟩
  | 2 => exact ⟨Str.ofString "strides", by simp [kwords], by decide, rfl⟩
  | 3 => exact ⟨Str.ofString "updown", by simp [kwords], by decide, rfl⟩
  | m+4 => contradiction
end L2

namespace L2
open PySem PySem.Spec PyProof.Rows
end L2

namespace L2
open PySem PyProof.Rows
inductive KFn (K : PySem.W.Frag) (x : Str) (st : Stmt) : Prop
  | mk : ∀ {f : Addr} {oc : Value} {od an : Option Addr} {osl : Array (Option Value)} {kV doc pm cdv ct : Value}, PySem.W.nsIn K mainGlobals x = some (some (.ref f)) →
      K.lookup f = some ⟨oc, od, .func (PySem.W.fnOf x x (defArgs st) (defBody st) (defScope st) .none kV doc pm an cdv ct), osl⟩ → PySem.W.codeIn K cdv x = true → PySem.W.keepIn K (.ref f) = true → KFn K x st
inductive KFnC (K : PySem.W.Frag) (x : Str) (st : Stmt) (c : Addr) : Prop
  | mk : ∀ {f : Addr} {oc : Value} {od an : Option Addr} {osl : Array (Option Value)} {kV doc pm ct : Value}, PySem.W.nsIn K mainGlobals x = some (some (.ref f)) →
      K.lookup f = some ⟨oc, od, .func (PySem.W.fnOf x x (defArgs st) (defBody st) (defScope st) .none kV doc pm an (.ref c) ct), osl⟩ → PySem.W.codeIn K (.ref c) x = true → PySem.W.keepIn K (.ref f) = true → KFnC K x st c
noncomputable def BindQ (x : Str) (st : Stmt) (ps : List Str) (kV doc pm : Value) (an : Option Addr) (cdv ct : Value) (us : List Value) : Prop := bindArgs (PySem.W.fnOf x x (defArgs st) (defBody st) (defScope st) .none kV doc pm an cdv ct) ⟨us, []⟩ = pure (ps.zip us)
noncomputable abbrev BindP (x : Str) (st : Stmt) (ps : List Str) : Prop := ∀ (kV doc pm : Value) (an : Option Addr) (cdv ct : Value) (us : List Value), us.length = ps.length → BindQ x st ps kV doc pm an cdv ct us
section
variable {P : Program} {w : World} {K : PySem.W.Frag} {mg : Str → Option Value} {base h : Heap} {x : Str} {st : Stmt} {k : Nat} {ps : List Str} {sp : Sp}
theorem KFn.df (X : K.In h) (G : h.Ns mainGlobals mg) (a : KFn K x st) (hb : BindP x st ps)
    (ok : ∀ f fd, Fun K x x st f fd → mg x = some (.ref f) → PySem.W.keepIn K (.ref f) = true → Binds K fd ps [] → FnOk P w K mg base (CX1 P w) k f fd ps sp) : Df P w K mg base x k ps sp := by
  obtain ⟨a1, a2, a3, a4⟩ := a
  have F := fun_mk a2 a3 a4
  exact ⟨_, _, PySem.W.mg_of X G a1, a4, F.binds hb, ok _ _ F (PySem.W.mg_of X G a1) a4 (F.binds hb)⟩
theorem KFnC.df {c : Addr} (X : K.In h) (G : h.Ns mainGlobals mg) (a : KFnC K x st c) (hb : BindP x st ps)
    (ok : ∀ f fd, Fun K x x st f fd → fd.code = .ref c → FnOk P w K mg base (CX1 P w) k f fd ps sp) : Df P w K mg base x k ps sp := by
  obtain ⟨a1, a2, a3, a4⟩ := a
  have F := fun_mk a2 a3 a4
  exact ⟨_, _, PySem.W.mg_of X G a1, a4, F.binds hb, ok _ _ F rfl⟩
theorem KFn.last {fa : Addr} (X : K.In h) (G : h.Ns mainGlobals mg) (a : KFn K x st) (hfa : mg x = some (.ref fa)) {C : FuncData → Prop} (ok : ∀ kV doc pm an cdv ct, Fun K x x st fa (PySem.W.fnOf x x (defArgs st) (defBody st) (defScope st) .none kV doc pm an cdv ct) → C (PySem.W.fnOf x x (defArgs st) (defBody st) (defScope st) .none kV doc pm an cdv ct)) : ∃ fd : FuncData, C fd := by
  obtain ⟨a1, a2, a3, a4⟩ := a
  have e := hfa.symm.trans (PySem.W.mg_of X G a1)
  cases e
  exact ⟨_, ok _ _ _ _ _ _ (fun_mk a2 a3 a4)⟩
end
theorem lenC {α : Type} {C : List α → Prop} {n : Nat} {us : List α} (h : us.length = n + 1) (k : ∀ a r, r.length = n → C (a :: r)) : C us := by
  cases us with
  | nil => exact absurd h.symm (Nat.succ_ne_zero n)
  | cons a r => exact k a r (Nat.succ.inj h)
theorem len0 {α : Type} {C : List α → Prop} {us : List α} (h : us.length = 0) (k : C []) : C us := by
  cases us with
  | nil => exact k
  | cons a r => exact absurd h (Nat.succ_ne_zero _)
theorem len1 {α : Type} {C : List α → Prop} {us : List α} (h : us.length = 1) (k : ∀ a, C [a]) : C us := lenC h fun a _ h => len0 (C := fun r => C (a :: r)) h (k a)
theorem len2 {α : Type} {C : List α → Prop} {us : List α} (h : us.length = 2) (k : ∀ a b, C [a, b]) : C us := lenC h fun a _ h => len1 (C := fun r => C (a :: r)) h (k a)
theorem len3 {α : Type} {C : List α → Prop} {us : List α} (h : us.length = 3) (k : ∀ a b c, C [a, b, c]) : C us := lenC h fun a _ h => len2 (C := fun r => C (a :: r)) h (k a)
theorem len4 {α : Type} {C : List α → Prop} {us : List α} (h : us.length = 4) (k : ∀ a b c d, C [a, b, c, d]) : C us := lenC h fun a _ h => len3 (C := fun r => C (a :: r)) h (k a)
theorem len5 {α : Type} {C : List α → Prop} {us : List α} (h : us.length = 5) (k : ∀ a b c d e, C [a, b, c, d, e]) : C us := lenC h fun a _ h => len4 (C := fun r => C (a :: r)) h (k a)
theorem len6 {α : Type} {C : List α → Prop} {us : List α} (h : us.length = 6) (k : ∀ a b c d e f, C [a, b, c, d, e, f]) : C us := lenC h fun a _ h => len5 (C := fun r => C (a :: r)) h (k a)
theorem len7 {α : Type} {C : List α → Prop} {us : List α} (h : us.length = 7) (k : ∀ a b c d e f g, C [a, b, c, d, e, f, g]) : C us := lenC h fun a _ h => len6 (C := fun r => C (a :: r)) h (k a)
end L2

namespace L2
open PySem PySem.Spec PyProof.Rows NM
end L2
namespace L2
open PySem PySem.Spec PyProof.Rows NM
noncomputable def dStrs (ss : List Str) : Dt := .lst (ss.map Dt.str)
theorem deep_strs {K : PySem.W.Frag} {H : Hp} {l : Addr} {ss : List Str} (h : H l = some (.lst (ss.map V.str))) : Deep K H (dStrs ss) (.ref l) := by
  simp only [dStrs, Deep]
  exact ⟨l, _, rfl, SqL.of h, deeps_strs ss⟩
theorem dp_strs {ss : List Str} : (dStrs ss).dp ≤ 8 := by
  simp [dStrs, Dt.dp, dps_strs3]
end L2

namespace L2
open PySem PySem.Spec PyProof.Rows
section
variable {X : Cx} {pins : List (Addr × Obj)} {σ : St} {H H₁ : Hp} {s s₁ : Shared} {scope : Scope} {xs : List Str} {js : List Nat} {C : Addr} {fp : List Addr}
end

section
variable {X : Cx} {pins : List (Addr × Obj)} {σ : St} {H₁ : Hp} {s₁ : Shared} {scope : Scope} {xs : List Str} {tgt : Expr} {tg : TG} {js : List Nat} {elt iter : Expr} {ifs : List Expr} {ot : Option TT} {te : TE} {px pos : Pos}
end
end L2

namespace L2
open PySem PySem.Spec PyProof.Rows PySem.Calls
section
variable {prog : Program} {w : World} {A : Around} {E : Value → Shared → Prop} {s : Shared}
end
section
variable {prog : Program} {w : World} {A : Around} {E : Value → Shared → Prop} {s : Shared}
end
section
variable {prog : Program} {w : World} {A : Around} {E : Value → Shared → Prop} {s : Shared}
end
section
variable {prog : Program} {w : World} {A : Around} {E : Value → Shared → Prop} {s : Shared}
end
section
variable {prog : Program} {w : World} {A : Around} {E : Value → Shared → Prop} {s : Shared}
end
end L2

namespace L2
open PySem PySem.Spec PyProof.Rows NM
structure Kd5 (K : PySem.W.Frag) (C CK CB CR CT CW : Addr) (b0 b1 b2 b3 b4 : Bool) : Prop where
  e : ExTy K C
  k0 : PySem.W.kitOne K (.ref C) (.ref CK) = some b0
  k1 : PySem.W.kitOne K (.ref C) (.ref CB) = some b1
  k2 : PySem.W.kitOne K (.ref C) (.ref CR) = some b2
  k3 : PySem.W.kitOne K (.ref C) (.ref CT) = some b3
  k4 : PySem.W.kitOne K (.ref C) (.ref CW) = some b4
  kv : PySem.W.kitOne K (.ref C) (.type "ValueError") = some true
end L2

namespace L2
open PySem PySem.W PyProof.Rows
noncomputable def kW {α : Type} (lt : Nat → Nat → Bool) (n : Nat) : KasT α → (α → Prop) → Prop
  | .ret a, Q => Q a
  | .ask i j k, Q => i < n ∧ j < n ∧ kW lt n (k (lt i j)) Q
theorem kW_bind {α β : Type} {lt : Nat → Nat → Bool} {n : Nat} {f : α → KasT β} {Q : β → Prop} : ∀ {t : KasT α}, kW lt n t (fun a => kW lt n (f a) Q) → kW lt n (t.bind f) Q
  | .ret _, h => h
  | .ask _ _ _, h => ⟨h.1, h.2.1, kW_bind h.2.2⟩
theorem kW_mono {α : Type} {lt : Nat → Nat → Bool} {n : Nat} {Q Q' : α → Prop} (hq : ∀ a, Q a → Q' a) : ∀ {t : KasT α}, kW lt n t Q → kW lt n t Q'
  | .ret _, h => hq _ h
  | .ask _ _ _, h => ⟨h.1, h.2.1, kW_mono hq h.2.2⟩
theorem kW_wp {α : Type} {cmp : Nat → Nat → (Bool → Shared → Prop) → Shared → Prop} {lt : Nat → Nat → Bool} {n : Nat} {s : Shared} (hc : ∀ i j (C : Bool → Shared → Prop), i < n → j < n → C (lt i j) s → cmp i j C s) {R : α → Prop} {Q : α → Shared → Prop} (hq : ∀ a, R a → Q a s) : ∀ {t : KasT α}, kW lt n t R → t.kasWp cmp Q s
  | .ret _, h => hq _ h
  | .ask i j _, h => hc i j _ h.1 h.2.1 (kW_wp hc hq h.2.2)
noncomputable abbrev gA (p : Array Nat) (x : Nat) : Nat := p.getD x 0
noncomputable def IsP (n : Nat) (p : Array Nat) : Prop := p.Perm (List.toArray (List.range n))
theorem IsP.size {n : Nat} {p : Array Nat} (h : IsP n p) : p.size = n := by rw [Array.Perm.size_eq h]; simp
theorem gA_eq {p : Array Nat} {x : Nat} (h : x < p.size) : gA p x = p[x] := by
  unfold gA
  rw [Array.getD_eq_getD_getElem?, Array.getElem?_eq_getElem h]; rfl
theorem gA_congr {p q : Array Nat} {x y : Nat} (h : p[x]? = q[y]?) : gA p x = gA q y := by
  unfold gA
  rw [Array.getD_eq_getD_getElem?, Array.getD_eq_getD_getElem?, h]
theorem IsP.list {n : Nat} {p : Array Nat} (h : IsP n p) : p.toList.Perm (List.range n) := by
  have := Array.perm_iff_toList_perm.mp h
  simpa using this
theorem IsP.lt {n : Nat} {p : Array Nat} (h : IsP n p) {x : Nat} (hx : x < n) : gA p x < n := by
  rw [gA_eq (by rw [h.size]; exact hx)]
  exact List.mem_range.mp (h.list.mem_iff.mp (by simp))
theorem IsP.ne {n : Nat} {p : Array Nat} (h : IsP n p) {x y : Nat} (hx : x < n) (hy : y < n) (hxy : x ≠ y) : gA p x ≠ gA p y := by
  have nd : p.toList.Nodup := h.list.nodup_iff.mpr List.nodup_range
  rw [gA_eq (by rw [h.size]; exact hx), gA_eq (by rw [h.size]; exact hy)]
  intro e
  refine hxy ((List.getElem_inj (h₀ := by simp [h.size, hx]) (h₁ := by simp [h.size, hy]) nd).mp ?_)
  simpa using e
section
variable {n : Nat} {rk : Nat → Int} (inj : ∀ i j, i < n → j < n → rk i = rk j → i = j)
include inj
noncomputable abbrev ltR (rk : Nat → Int) (i j : Nat) : Bool := decide (rk i < rk j)
noncomputable def Up (rk : Nat → Int) (p : Array Nat) (m : Nat) : Prop := ∀ x y, x < y → y < m → rk (gA p x) < rk (gA p y)
noncomputable def Down (rk : Nat → Int) (p : Array Nat) (m : Nat) : Prop := ∀ x y, x < y → y < m → rk (gA p y) < rk (gA p x)
theorem rk_ne {p : Array Nat} (h : IsP n p) {x y : Nat} (hx : x < n) (hy : y < n) (hxy : x ≠ y) : rk (gA p x) ≠ rk (gA p y) := fun e => h.ne hx hy hxy (inj _ _ (h.lt hx) (h.lt hy) e)
theorem asc_ok {p : Array Nat} (h : IsP n p) : ∀ f a, 1 ≤ a → a + f ≤ n → Up rk p a → kW (ltR rk) n (kas_asc p f a) (fun m => a ≤ m ∧ m ≤ a + f ∧ Up rk p m ∧ (m = a + f ∨ rk (gA p m) < rk (gA p (m - 1))))
  | 0, a, _, _, u => ⟨Nat.le_refl _, Nat.le_refl _, u, .inl rfl⟩
  | f + 1, a, h1, hn, u => by
    refine ⟨h.lt (by lia), h.lt (by lia), ?_⟩
    by_cases c : rk (gA p a) < rk (gA p (a - 1))
    · rw [show ltR rk (p.getD a 0) (p.getD (a - 1) 0) = true from decide_eq_true c]
      dsimp only
      try rw [if_pos rfl]
      exact ⟨Nat.le_refl _, by lia, u, .inr c⟩
    · rw [show ltR rk (p.getD a 0) (p.getD (a - 1) 0) = false from decide_eq_false c]
      dsimp only
      try rw [if_neg (by decide)]
      have c2 := rk_ne inj h (x := a) (y := a - 1) (by lia) (by lia) (by lia)
      refine kW_mono (fun m hm => ⟨by lia, by lia, hm.2.2.1, hm.2.2.2.imp (fun e => by lia) id⟩) (asc_ok h f (a + 1) (by lia) (by lia) fun x y hxy hy => ?_)
      by_cases e : y = a
      · subst e
        by_cases e2 : x = y - 1
        · subst e2; lia
        · have := u x (y - 1) (by lia) (by lia); lia
      · exact u x y hxy (by lia)
theorem desc_ok {p : Array Nat} (h : IsP n p) : ∀ f a, 1 ≤ a → a + f ≤ n → Down rk p a → kW (ltR rk) n (kas_desc f p a 0) (fun r => r.1 = p ∧ r.2.2 = 0 ∧ a ≤ r.2.1 ∧ r.2.1 ≤ a + f ∧ Down rk p r.2.1)
  | 0, a, _, _, u => ⟨rfl, rfl, Nat.le_refl _, Nat.le_refl _, u⟩
  | f + 1, a, h1, hn, u => by
    refine ⟨h.lt (by lia), h.lt (by lia), ?_⟩
    by_cases c : rk (gA p a) < rk (gA p (a - 1))
    · rw [show ltR rk (p.getD a 0) (p.getD (a - 1) 0) = true from decide_eq_true c]
      dsimp only
      try rw [if_pos rfl]
      try rw [if_neg (by decide)]
      refine kW_mono (fun m hm => ⟨hm.1, hm.2.1, by lia, by lia, hm.2.2.2.2⟩) (desc_ok h f (a + 1) (by lia) (by lia) fun x y hxy hy => ?_)
      by_cases e : y = a
      · subst e
        by_cases e2 : x = y - 1
        · subst e2; exact c
        · have := u x (y - 1) (by lia) (by lia); lia
      · exact u x y hxy (by lia)
    · rw [show ltR rk (p.getD a 0) (p.getD (a - 1) 0) = false from decide_eq_false c]
      dsimp only
      try rw [if_neg (by decide)]
      have c2 := rk_ne inj h (x := a) (y := a - 1) (by lia) (by lia) (by lia)
      refine ⟨h.lt (by lia), h.lt (by lia), ?_⟩
      have c3 : rk (gA p (a - 1)) < rk (gA p a) := by lia
      rw [show ltR rk (p.getD (a - 1) 0) (p.getD a 0) = true from decide_eq_true c3]
      dsimp only
      try rw [if_pos rfl]
      exact ⟨rfl, rfl, Nat.le_refl _, by lia, u⟩
theorem rev_ok {p : Array Nat} (h : IsP n p) {m : Nat} (hm : m ≤ n) (d : Down rk p m) : IsP n (kas_rev p 0 m) ∧ Up rk (kas_rev p 0 m) m := by
  refine ⟨(mirror_perm p 0 m _).trans h, fun x y hxy hy => ?_⟩
  have e : ∀ z, z < m → gA (kas_rev p 0 m) z = gA p (m - 1 - z) := fun z hz => by
    refine gA_congr ?_
    unfold kas_rev
    rw [getElem?_mirror_all (by rw [h.size]; exact hm), if_pos ⟨Nat.zero_le _, hz⟩]
    congr 1; lia
  rw [e x (by lia), e y hy]
  exact d (m - 1 - y) (m - 1 - x) (by lia) (by lia)
theorem count_ok {p : Array Nat} (h : IsP n p) (hn : 1 ≤ n) : kW (ltR rk) n (kas_count n p) (fun r => 1 ≤ r.1 ∧ r.1 ≤ n ∧ IsP n r.2 ∧ Up rk r.2 r.1) := by
  unfold kas_count
  refine kW_bind (kW_mono (fun m hm => ?_) (asc_ok inj h (n - 1) 1 (Nat.le_refl _) (by lia) fun x y hxy hy => by lia))
  obtain ⟨m1, m2, u, hs⟩ := hm
  by_cases e : m = n
  · rw [if_pos (by rw [e]; exact beq_self_eq_true n)]
    exact ⟨m1, by lia, h, u⟩
  · rw [if_neg (by simpa using e)]
    by_cases g : m > 1
    · rw [if_pos g]
      refine ⟨h.lt (by lia), h.lt (by lia), ?_⟩
      have c := u 0 (m - 1) (by lia) (by lia)
      rw [show ltR rk (p.getD 0 0) (p.getD (m - 1) 0) = true from decide_eq_true c]
      dsimp only
      try rw [if_pos rfl]
      exact ⟨m1, by lia, h, u⟩
    · rw [if_neg g]
      obtain rfl : m = 1 := by lia
      have c : rk (gA p 1) < rk (gA p 0) := hs.resolve_left (by lia)
      unfold kas_descPart
      refine kW_bind (kW_mono (fun r hr => ?_) (desc_ok inj h (n - (1 + 1)) (1 + 1) (by lia) (by lia) fun x y hxy hy => by
        obtain rfl : x = 0 := by lia
        obtain rfl : y = 1 := by lia
        exact c))
      obtain ⟨r1, r2, r3, r4, r5⟩ := hr
      rw [r2, if_neg (by decide), r1]
      unfold kas_tail3
      obtain ⟨hp', hu'⟩ := rev_ok (rk := rk) inj h (m := r.2.1) (by lia) r5
      refine kW_bind (kW_mono (fun m3 hm3 => ?_) (asc_ok inj hp' (n - r.2.1) r.2.1 (by lia) (by lia) hu'))
      exact ⟨by lia, by lia, hp', hm3.2.2.1⟩
theorem place_ok {p : Array Nat} (h : IsP n p) {k : Nat} (hk : k < n) (u : Up rk p k) : ∀ f l r, l ≤ r → r ≤ k → r - l ≤ f → (∀ x, x < l → rk (gA p x) < rk (gA p k)) → (∀ x, r ≤ x → x < k → rk (gA p k) < rk (gA p x)) →
    kW (ltR rk) n (kas_place p k f l r) (fun m => m ≤ k ∧ (∀ x, x < m → rk (gA p x) < rk (gA p k)) ∧ (∀ x, m ≤ x → x < k → rk (gA p k) < rk (gA p x)))
  | 0, l, r, h1, h2, h3, a, b => ⟨by lia, a, fun x hx => b x (by lia)⟩
  | f + 1, l, r, h1, h2, h3, a, b => by
    show kW _ _ (if l ≥ r then _ else _) _
    by_cases e : l ≥ r
    · rw [if_pos e]
      exact ⟨by lia, a, fun x hx => b x (by lia)⟩
    · rw [if_neg e]
      refine ⟨h.lt hk, h.lt (by lia), ?_⟩
      by_cases c : rk (gA p k) < rk (gA p ((l + r) / 2))
      · rw [show ltR rk (p.getD k 0) (p.getD ((l + r) / 2) 0) = true from decide_eq_true c]
        dsimp only
        try rw [if_pos rfl]
        refine place_ok h hk u f l ((l + r) / 2) (by lia) (by lia) (by lia) a fun x hx hxk => ?_
        by_cases e2 : x = (l + r) / 2
        · rw [e2]; exact c
        · have := u ((l + r) / 2) x (by lia) hxk; lia
      · rw [show ltR rk (p.getD k 0) (p.getD ((l + r) / 2) 0) = false from decide_eq_false c]
        dsimp only
        try rw [if_neg (by decide)]
        have c2 := rk_ne inj h (x := k) (y := (l + r) / 2) hk (by lia) (by lia)
        refine place_ok h hk u f ((l + r) / 2 + 1) r (by lia) h2 (by lia) (fun x hx => ?_) b
        by_cases e2 : x = (l + r) / 2
        · rw [e2]; lia
        · have := u x ((l + r) / 2) (by lia) (by lia); lia
theorem bin_ok : ∀ f (p : Array Nat) k, IsP n p → k + f = n → Up rk p k → kW (ltR rk) n (kas_bin f p k) (fun q => IsP n q ∧ Up rk q n)
  | 0, p, k, h, hk, u => ⟨h, by rw [← hk]; exact u⟩
  | f + 1, p, k, h, hk, u => by
    unfold kas_bin
    refine kW_bind (kW_mono (fun l hl => ?_) (place_ok inj h (k := k) (by lia) u k 0 k (Nat.zero_le _) (Nat.le_refl _) (by lia) (fun x hx => by lia) (fun x hx hxk => by lia)))
    obtain ⟨l1, l2, l3⟩ := hl
    have hb : IsP n (bubble p k (k - l)) := (bubble_perm p k _).trans h
    refine bin_ok f _ (k + 1) hb (by lia) fun x y hxy hy => ?_
    have e : ∀ z, gA (bubble p k (k - l)) z = if z = l then gA p k else if l < z ∧ z ≤ k then gA p (z - 1) else gA p z := fun z => by
      have g := getElem?_bubble (xs := p) (src := k) (by rw [h.size]; lia) (k - l) (by lia) z
      rw [show k - (k - l) = l by lia] at g
      by_cases h1 : z = l
      · rw [if_pos h1] at g ⊢; exact gA_congr g
      · rw [if_neg h1] at g ⊢
        by_cases h2 : l < z ∧ z ≤ k
        · rw [if_pos h2] at g ⊢; exact gA_congr g
        · rw [if_neg h2] at g ⊢; exact gA_congr g
    rw [e x, e y]
    by_cases x1 : x = l
    · rw [if_pos x1, if_neg (by lia), if_pos (by lia)]
      exact l3 _ (by lia) (by lia)
    · rw [if_neg x1]
      by_cases x2 : l < x ∧ x ≤ k
      · rw [if_pos x2, if_neg (by lia), if_pos (by lia)]
        exact u _ _ (by lia) (by lia)
      · rw [if_neg x2]
        by_cases y1 : y = l
        · rw [if_pos y1]; exact l2 _ (by lia)
        · rw [if_neg y1]
          by_cases y2 : l < y ∧ y ≤ k
          · rw [if_pos y2]; exact u _ _ (by lia) (by lia)
          · rw [if_neg y2]; exact u _ _ hxy (by lia)
theorem sort_ok (hn : 1 ≤ n) : kW (ltR rk) n (kas_sort n) (fun q => IsP n q ∧ Up rk q n) := by
  unfold kas_sort
  refine kW_bind (kW_mono (fun r hr => ?_) (count_ok inj (show IsP n (List.toArray (List.range n)) from .refl _) hn))
  obtain ⟨r1, r2, r3, r4⟩ := hr
  by_cases e : r.1 < n
  · rw [if_pos e, Nat.max_eq_left r1]
    exact bin_ok inj _ _ _ r3 (by lia) r4
  · rw [if_neg e]
    obtain e2 : r.1 = n := by lia
    exact ⟨r3, by rw [← e2]; exact r4⟩
end
end L2

namespace L2
open PySem PySem.Spec PyProof.Rows PySem.W NM
noncomputable def rkK (ks : List Int) (i : Nat) : Int := ks.getD i 0 * 64 + i
theorem rk_inj {ks : List Int} {n : Nat} (hn : n < 64) : ∀ i j, i < n → j < n → rkK ks i = rkK ks j → i = j := fun i j hi hj e => by
  unfold rkK at e
  lia
section
variable {prog : Program} {w : World} {A : Around} {E : Value → Shared → Prop} {s : Shared}
noncomputable def PairAt (h : Heap) (a : Addr) (i j : Int) : Prop := ∃ o n t1 t2, h.get? a = some o ∧ o.cls = .type "tuple" ∧ o.data = .seq #[.int i t1, .int j t2] n
theorem lex_ask {ks : List Int} {as : List Addr} (hn : as.length < 64) (hh : ∀ i, i < as.length → PairAt s.heap (as.getD i 0) (ks.getD i 0) (i : Nat)) (i j : Nat) (C : Bool → Shared → Prop) (hi : i < as.length) (hj : j < as.length) (hC : C (ltR (rkK ks) i j) s) :
    kas_ask prog w A (tuples' true) (as.map Value.ref) i j C s := by
  obtain ⟨o1, n1, t1, t2, ho1, _, hd1⟩ := hh i hi
  obtain ⟨o2, n2, t3, t4, ho2, _, hd2⟩ := hh j hj
  have g : ∀ k, k < as.length → (as.map Value.ref).getD k Value.none = .ref (as.getD k 0) := fun k hk => by
    rw [List.getD_eq_getElem?_getD, List.getElem?_map, List.getElem?_eq_getElem hk, List.getD_eq_getElem?_getD, List.getElem?_eq_getElem hk]; rfl
  unfold kas_ask
  rw [g i hi, g j hj]
  refine kat_lt ho1 hd1 ho2 hd2 ?_
  show KatLex prog w A true _ C [(.int (ks.getD i 0) t1, .int (ks.getD j 0) t3), (.int (i : Nat) t2, .int (j : Nat) t4)] 0 s
  refine kat_cons (wpAny_eqBool_int (kat_go (fun e => kat_yes (kat_cons (wpAny_eqBool_int (kat_go (fun e2 => kat_yes (kat_nil ?_)) fun e2 => kat_no (kat_one _ _ (lt_int ?_)))))) fun e => kat_no ?_))
  · have h1 : (i : Int) = j := by simpa using e2
    have h2 : i = j := by lia
    subst h2
    rw [show ltR (rkK ks) i i = false from decide_eq_false (Int.lt_irrefl _)] at hC
    exact hC
  · have h1 : ks.getD i 0 = ks.getD j 0 := by simpa using e
    have : decide ((i : Int) < j) = ltR (rkK ks) i j := by
      unfold ltR rkK
      rw [h1]
      exact decide_eq_decide.mpr (by lia)
    show C (decide ((i : Int) < j)) _
    rw [this]
    exact hC
  · have h1 : ks.getD i 0 ≠ ks.getD j 0 := by simpa using e
    refine oneLt_int ?_
    have : decide (ks.getD i 0 < ks.getD j 0) = ltR (rkK ks) i j := by
      unfold ltR rkK
      exact decide_eq_decide.mpr (by lia)
    rw [this]
    exact hC
end
theorem tup_at {X : Cx} {pins : List (Addr × Obj)} {σ : St} {H : Hp} {s : Shared} (I : Inv X pins σ H s) {a : Addr} {i j : Int} (h : H a = some (.tup [.int i, .int j])) : PairAt s.heap a i j := by
  obtain ⟨_, us, r, o, ho, hc, n, hd⟩ := I.hok a _ h
  cases r with
  | cons e1 r1 =>
  cases r1 with
  | cons e2 r2 =>
  cases r2
  obtain ⟨t1, rfl⟩ := e1
  obtain ⟨t2, rfl⟩ := e2
  exact ⟨o, n, t1, t2, ho, hc, hd⟩
theorem pairs_tups {h : Heap} {as : List Addr} {fi : Nat → Int} : ∀ (l : List Nat), (∀ i ∈ l, PairAt h (as.getD i 0) (fi i) (i : Nat)) → ∃ fs : List Value, fs.length = l.length ∧ KatTups h (l.map fun i => Value.ref (as.getD i 0)) fs ∧ ∀ v ∈ fs, ∃ n t, v = Value.int n t
  | [], _ => ⟨[], rfl, .nil, fun _ h => nomatch h⟩
  | i :: r, hh => by
    obtain ⟨fs, e, k, z⟩ := pairs_tups r fun j hj => hh j (List.mem_cons_of_mem _ hj)
    obtain ⟨o, n, t1, t2, ho, hc, hd⟩ := hh i (List.mem_cons_self ..)
    refine ⟨.int (fi i) t1 :: fs, by rw [List.length_cons, e]; rfl, .cons ho hc hd rfl k, fun v hv => ?_⟩
    rcases List.mem_cons.mp hv with rfl | hv
    · exact ⟨_, _, rfl⟩
    · exact z v hv
theorem refs_range (as : List Addr) : (List.range as.length).map (fun i => Value.ref (as.getD i 0)) = as.map Value.ref := by
  refine List.ext_getElem? fun i => ?_
  by_cases h : i < as.length
  · rw [List.getElem?_map, List.getElem?_range h, List.getElem?_map, List.getElem?_eq_getElem h]
    show some (Value.ref (as.getD i 0)) = _
    rw [List.getD_eq_getElem?_getD, List.getElem?_eq_getElem h]; rfl
  · rw [List.getElem?_eq_none (by simp; lia), List.getElem?_eq_none (by simp; lia)]
end L2

namespace L2
open PySem PySem.Spec PyProof.Rows PySem.W
section
variable {X : Cx}
theorem range_any (bs : List Bool) : ((List.range bs.length).any fun i => bs.getD i true) = bs.any id := by
  induction bs with
  | nil => rfl
  | cons b r ih =>
    rw [List.length_cons, List.range_succ_eq_map, List.any_cons, List.any_map, List.any_cons, ← ih]
    rfl
inductive rAny (K : PySem.W.Frag) (xs : List V) (H : Hp) (Q : VK) : Prop
  | mk : ∀ (p : Addr) (bs : List Bool), (xs = [.ref p]) → (SqL K H p (bs.map V.bl)) → (Q (.bl (bs.any id)) H) → rAny K xs H Q
theorem call_any (hc : X.calm = true) : CallR X (.builtin "any") (rAny X.K) := by
  intro pins s σ H xs us Q I r h
  obtain ⟨p, bs, rfl, hq, q⟩ := h
  refine L2.ob_ea (vals1 r) fun u e_1 rx => ?_; subst e_1
  cases rx
  refine L2.ob_eaa (I.list hq) fun its rv pl hz => ?_
  have hl := rv.length
  rw [List.length_map] at hl
  refine call_any_walk (wpAny_pyIter_list pl.isList ?_)
  have hpl : p < s.heap.objs.size := by obtain ⟨o, e, _⟩ := pl.isList; exact Heap.lt_size e
  refine ⟨_, _, _, _, _, _, fun i => bs.getD i true, rfl, Walks.list (A := X.A.in1) (I.ok.hd hc) s.heap.objs.size p (Nat.ne_of_lt hpl) its.toArray, ⟨⟨_, Heap.get?_push_size _ rfl, rfl, rfl⟩, pl.isList.push _⟩, fun i v s' Q' E' hP hQ => ?_, fun h' tk hk => ?_⟩
  · obtain rfl := bls_at rv hP
    exact wpAny_truthy_bool hQ
  · refine ⟨.bl _, H, I.kept (kept_of_push hk), rfl, ?_⟩
    rw [List.size_toArray, ← hl, range_any]
    exact q
theorem vals_kf : ∀ {ns : List Int} {us : List Value}, Vals (ns.map V.int) us → kf_ints us = true
  | [], _, .nil => rfl
  | n :: r, _ :: us, .cons ⟨t, e⟩ h => by
    subst e
    show kf_ints us = true
    exact vals_kf (ns := r) (us := us) h
theorem vals_ia : ∀ {ns : List Int} {us : List Value}, Vals (ns.map V.int) us → IntsAre us ns
  | [], _, .nil => .nil
  | n :: r, _, .cons ⟨t, e⟩ h => by subst e; exact .cons n t (vals_ia h)
theorem vals_erase : ∀ {xs : List V} {us : List Value} (j : Nat), Vals xs us → Vals (xs.eraseIdx j) (us.eraseIdx j)
  | [], _, _, .nil => .nil
  | _ :: _, _ :: _, 0, .cons _ h => h
  | _ :: _, _ :: _, j + 1, .cons e h => .cons e (vals_erase j h)
theorem erase_map {α β : Type} (f : α → β) : ∀ (l : List α) (j : Nat), (l.map f).eraseIdx j = (l.eraseIdx j).map f
  | [], _ => rfl
  | _ :: _, 0 => rfl
  | a :: r, j + 1 => by
    show f a :: (r.map f).eraseIdx j = f a :: (r.eraseIdx j).map f
    rw [erase_map f r j]
inductive rRemove (x : V) (vs : List V) (H : Hp) (Q : VK) : Prop
  | mk : ∀ (l : Addr) (ns : List Int) (k : Int) (j : Nat), (x = .ref l) → (vs = [.int k]) → (H l = some (.lst (ns.map V.int))) → (ns[j]? = some k) → (∀ (m : Nat) z, m < j → ns[m]? = some z → z ≠ k) → (Q .non (upd H l (.lst ((ns.eraseIdx j).map V.int)))) → rRemove x vs H Q
theorem isInt_iff {k n : Int} {t : Tok} : isInt k (.int n t) = decide (n = k) := by
  unfold isInt
  first | rfl | (simp [eq_comm]) | (cases h : decide (n = k) <;> simp_all)
theorem mt_remove : MtM X "list.remove" rRemove := by
  intro pins s σ H x vs v us Q I rx rv h
  obtain ⟨l, ns, k, j, rfl, rfl, hH, hj, hno, q⟩ := h
  cases rx
  obtain ⟨u, rfl, t, rfl⟩ := rv.one
  obtain ⟨z, its, n, r, hl, e⟩ := I.lstM hH
  rw [List.length_map] at z hl
  have hi := vals_kf r
  have hjl := (List.getElem?_eq_some_iff.mp hj).1
  have at1 : ∀ (m : Nat) (hm : m < its.length), ∃ t, its[m] = .int (ns[m]'(by lia)) t := fun m hm => by
    obtain ⟨w, hw, t, e⟩ := r.get (i := m) (x := .int (ns[m]'(by lia))) (by rw [List.getElem?_map, List.getElem?_eq_getElem (by lia)]; rfl)
    rw [List.getElem?_eq_getElem hm] at hw
    exact ⟨t, (Option.some.inj hw).trans e⟩
  have hjk : ns[j] = k := by rw [List.getElem?_eq_getElem hjl] at hj; exact Option.some.inj hj
  refine call_meets PySem.F.slot_list_remove ⟨_, e, rfl⟩ PySem.F.entry_list_remove (PySem.F.args_list_remove_2 _ _)
    (MeetsSeq.list_remove l its.toArray n (.int k t) (isInt k) (fun y hy => kf_eq hi y (by simpa using hy)) j (by rw [List.size_toArray]; lia) ?_ (fun m hm hlt => ?_) (by rw [List.size_toArray]; lia)) ⟨e, ?_⟩
  · obtain ⟨t, e⟩ := at1 j (by lia)
    rw [List.getElem_toArray, e, isInt_iff, hjk]
    exact decide_eq_true rfl
  · have hm' : m < its.length := by rw [List.size_toArray] at hm; exact hm
    obtain ⟨t, e⟩ := at1 m hm'
    rw [List.getElem_toArray, e, isInt_iff]
    exact decide_eq_false (hno m _ hlt (List.getElem?_eq_getElem (by lia)))
  · refine ⟨.non, _, I.lset (its' := its.eraseIdx j) hH e ?_ (ys := (ns.eraseIdx j).map V.int) ?_ ?_, rfl, q⟩
    · rw [List.eraseIdxIfInBounds_toArray]
    · have := vals_erase j r
      rw [erase_map] at this
      exact this
    · rw [List.length_map]
      have := List.length_eraseIdx_le ns j
      lia
inductive rSortI (K : PySem.W.Frag) (xs : List V) (H : Hp) (Q : VK) : Prop
  | mk : ∀ (p : Addr) (ns : List Int), (xs = [.ref p]) → (SqL K H p (ns.map V.int)) → (ns.length < 64) → (∀ (q : Addr) (ns' : List Int), H q = none → ns'.Perm ns → ns'.Pairwise (· ≤ ·) → Q (.ref q) (upd H q (.lst (ns'.map V.int)))) → rSortI K xs H Q
theorem call_sortI : CallR X (.builtin "sorted") (rSortI X.K) := by
  intro pins s σ H xs us Q I r h
  obtain ⟨p, ns, rfl, hq, h64, q⟩ := h
  obtain ⟨u, rfl, ru⟩ := vals1 r
  cases ru
  obtain ⟨its, rv, pl, hz⟩ := I.list hq
  have hl := rv.length
  rw [List.length_map] at hl
  refine sorted_ints pl.isList (vals_ia rv) (by lia) fun out ns' hia pm pw => ?_
  obtain ⟨c, hc⟩ := sortedAll_at s.heap its out
  have hf : H (s.heap.objs.size + 1) = none := I.hok.fresh (Nat.le_succ _)
  refine ⟨.ref _, _, I.laid (t' := s.toks) (o := .lst (ns'.map V.int)) (fun b o e => sortedAll_old e) (Nat.le_succ _) ⟨?_, out.toList, c, vals_ints hia, ?_⟩, rfl, q _ ns' hf pm pw⟩
  · rw [List.length_map, pm.length_eq, sizeLine_eq]; lia
  · rw [show out.toList.toArray = out from by simp]; exact hc
end
end L2

namespace L2
open PySem PySem.Spec PyProof.Rows PySem.Calls PySem.W NM
section
variable {prog : Program} {w : World} {A : Around} {E : Value → Shared → Prop} {s : Shared}
theorem code_collect {r : Addr} {a b c : Int} {t u v : Tok} {n : Nat} {R : Result → Shared → Prop} (hh : A.handled = none) (hr : IsRange s.heap r a b c t u v) (hsmall : Builtin.Range.small a b c = true)
    (hn : Builtin.Range.rangeSize a b c = n) (hlen : n ≤ 2 ^ 24) (hR : ∀ h' tk (acc : Array Value) c', (∀ b o, s.heap.get? b = some o → h'.get? b = some o) → h'.get? s.heap.objs.size = some { cls := .type "list", dict := none, data := .seq acc c', slots := #[] } → ItemsOf (fun i v => ∃ t, v = .int (a + i * c) t) acc n → R (.ok (.ret (.ref s.heap.objs.size))) { s with heap := h', toks := tk }) :
    codeAny (model prog w) A (.builtin "proto.collect" ⟨[.ref r], []⟩) R s := by
  refine codeAny_builtin F.entry_proto_collect ?_
  rw [Around.under_plainId F.plain_proto_collect _]
  show wpAny _ A.in1 (newList [] >>= fun l => again (.builtin "list.__iadd__" ⟨[l, .ref r], []⟩)) _ _ s
  refine wpAny_bind (wpAny_newObj_type ?_)
  refine wpAny_pure ⟨plainId_quiet F.plain_list_iadd _, codeAny_builtin F.entry_list_iadd ?_⟩
  rw [Around.under_plainId F.plain_list_iadd _]
  have hS0 : (s.heap.push { cls := .type "list", data := .seq ([] : List Value).toArray }).get? s.heap.objs.size = some { cls := .type "list", data := .seq #[] 0 } := Heap.get?_push_size _ rfl
  show wpAny _ A.in1 (Builtin.List.listExtendWith (.ref s.heap.objs.size) (.ref r) (.ref s.heap.objs.size)) _ _ _
  refine wpAny_extend_range (s := { s with heap := s.heap.push { cls := .type "list", data := .seq ([] : List Value).toArray } }) hh (Heap.get?_push_of_some _ hr) hsmall hn hlen s.heap.objs.size (.ref s.heap.objs.size) 0 hS0 fun h' tk acc' c' hk hS hit => ?_
  exact hR h' tk acc' c' (fun b o e => hk b o (Nat.ne_of_lt (Heap.lt_size e)) (Heap.get?_push_of_some _ e)) hS hit
theorem collect_rng {r : Addr} {a b c : Int} {t u v : Tok} {n : Nat} {Q : List Value → Shared → Prop} (hh : A.handled = none) (hr : IsRange s.heap r a b c t u v) (hsmall : Builtin.Range.small a b c = true)
    (hn : Builtin.Range.rangeSize a b c = n) (hlen : n ≤ 2 ^ 24) (hQ : ∀ h' tk (acc : Array Value), (∀ b o, s.heap.get? b = some o → h'.get? b = some o) → ItemsOf (fun i v => ∃ t, v = .int (a + i * c) t) acc n → Q acc.toList { s with heap := h', toks := tk }) :
    wpAny (model prog w) A (collect (.ref r)) Q E s := by
  unfold collect
  refine wpAny_bind (wpAny_runValue (code_collect hh hr hsmall hn hlen fun h' tk acc' c' hk hS hit => ?_))
  show wpAny _ A (load s.heap.objs.size >>= _) _ _ _
  refine wpAny_bind (wpAny_load hS ?_)
  exact wpAny_pure (hQ h' tk acc' hk hit)
theorem tail_own {D kS : Addr} {st : SortSt} {e e1 : Nat} {ks out : List Value} {R : PySem.Fin → Shared → Prop} (hout : (arrOf st).map (·.2) = List.toArray out) (hz : out.length < 64) (hkz : ks.length < 64) (hf : failedOf st = none)
    (hk : s.heap.get? kS = some (seqObj "list" (List.toArray ks) e)) (hD : s.heap.get? D = some (seqObj "list" #[] e1)) (hne : D ≠ kS)
    (h : ∀ h' c2, (∀ b, b ≠ D → b ≠ kS → h'.get? b = s.heap.get? b) → h'.get? D = some (seqObj "list" (List.toArray out) c2) → R (.done (.ret .none)) { s with heap := h' }) :
    wpAny (model prog w) A (ksk_tail D false e1 (.ref kS) st) R E s := by
  have s1 := Heap.SameBut.update s.heap kS (Obj.mapSeq fun _ => (#[] : Array Value))
  have hD1 : (s.heap.update kS (Obj.mapSeq fun _ => (#[] : Array Value))).get? D = some (seqObj "list" #[] e1) := (s1.2 D hne).trans hD
  have s2 := Heap.SameBut.update (s.heap.update kS (Obj.mapSeq fun _ => (#[] : Array Value))) D (Obj.mapSeq fun _ => List.toArray out)
  obtain ⟨c2, hc2⟩ : ∃ c2, ((s.heap.update kS (Obj.mapSeq fun _ => (#[] : Array Value))).update D (Obj.mapSeq fun _ => List.toArray out)).get? D = some (seqObj "list" (List.toArray out) c2) := ⟨_, get?_update_seq hD1 fun _ => List.toArray out⟩
  unfold ksk_tail
  try dsimp only
  rw [hout]
  simp only [Bool.false_eq_true, if_false]
  refine wpAny_bind (listUpdate_at hk rfl ?_ (by rw [List.size_toArray, sizeLine_eq]; lia) (Nat.zero_le _))
  refine wpAny_bind (wpAny_letGo ?_)
  refine wpAny_bind (seqEpoch_at hD1 rfl ?_)
  refine wpAny_bind (listUpdate_at hD1 rfl ?_ (Nat.zero_le _) (by rw [List.size_toArray, sizeLine_eq]; lia))
  rw [hf]
  simp only [bne_self_eq_false, Bool.false_eq_true, if_false]
  exact wpAny_pure (h _ c2 (fun b h1 h2 => (s2.2 b h1).trans (s1.2 b h2)) hc2)
end
section
variable {X : Cx} {σ : St} {H : Hp} {s : Shared}
theorem keys_fold {pins : List (Addr × Obj)} {A : Around} {E : Value → Shared → Prop} {f kS D : Addr} {n e1 : Nat} {ks : List Int} {G : Hp → Prop} {body : Value → PUnit → Sem (ForInStep PUnit)} (hn : n < 64) (hkD : D ≠ kS)
    (hS : X.s₀.heap.objs.size ≤ kS) (nS : ∀ p ∈ X.pn ++ pins, p.1 ≠ kS)
    (turn : ∀ (pl : List (Addr × Obj)) (H' : Hp) (s' : Shared) (i : Nat) (u : Value), Inv X (pins ++ pl) σ H' s' → G H' → i < n → RelV (.int (i : Nat)) u →
      wpAny (model X.prog X.w) A (call (.ref f) [u]) (EP X (pins ++ pl) σ fun r H'' => (∃ q, r = .ref q ∧ H'' q = some (.tup [.int (ks.getD i 0), .int (i : Nat)])) ∧ Same H' H'' ∧ G H'') (fun _ _ => False) s')
    (hb : ∀ x (s' : Shared) (C : Value → Shared → Prop), wpAny (model X.prog X.w) A (call (.ref f) [x]) (fun k s'' => ∃ vs e, s''.heap.get? kS = some (seqObj "list" (List.toArray vs) e) ∧ vs.length < 64 ∧ C k { s'' with heap := s''.heap.update kS (Obj.mapSeq (·.push k)) }) (fun _ _ => False) s' →
      wpAny (model X.prog X.w) A (body x ⟨⟩) (fun r s'' => r = .yield ⟨⟩ ∧ ∃ k, C k s'') E s') :
    ∀ (r : List Value) (as : List Addr) (e : Nat) (H' : Hp) (s' : Shared), as.length + r.length = n → (∀ (j : Nat) v, r[j]? = some v → ∃ t, v = .int ((as.length + j : Nat) : Int) t) →
      Inv X (pins ++ [(kS, seqObj "list" (List.toArray (as.map Value.ref)) e), (D, seqObj "list" #[] e1)]) σ H' s' → G H' → (∀ (j : Nat) a, as[j]? = some a → H' a = some (.tup [.int (ks.getD j 0), .int (j : Nat)])) →
      wpAny (model X.prog X.w) A (forIn r PUnit.unit body) (fun _ s'' => ∃ (as : List Addr) (e : Nat) (H'' : Hp), as.length = n ∧ Inv X (pins ++ [(kS, seqObj "list" (List.toArray (as.map Value.ref)) e), (D, seqObj "list" #[] e1)]) σ H'' s'' ∧ G H'' ∧ ∀ (j : Nat) a, as[j]? = some a → H'' a = some (.tup [.int (ks.getD j 0), .int (j : Nat)])) E s'
  | [], as, e, H', s', hl, _, I, g, ht => by
    rw [List.forIn_nil]
    exact wpAny_pure ⟨as, e, H', by simpa using hl, I, g, ht⟩
  | x :: r, as, e, H', s', hl, hx, I, g, ht => by
    rw [List.length_cons] at hl
    rw [List.forIn_cons]
    obtain ⟨t, rfl⟩ := hx 0 x rfl
    refine wpAny_bind (wpAny_mono (hb _ s' (fun k s'' => ∃ q e2 H'', k = .ref q ∧ Inv X (pins ++ [(kS, seqObj "list" (List.toArray ((as ++ [q]).map Value.ref)) e2), (D, seqObj "list" #[] e1)]) σ H'' s'' ∧ G H'' ∧ ∀ (j : Nat) a, (as ++ [q])[j]? = some a → H'' a = some (.tup [.int (ks.getD j 0), .int (j : Nat)])) (wpAny_mono (turn _ H' s' as.length _ I g (by lia) ⟨t, by simp⟩) (fun k s'' hk => ?_) fun _ _ z => z)) (fun q s'' hq => ?_) fun _ _ z => z)
    · obtain ⟨v, H'', I2, rv, ⟨q, rfl, hq⟩, sm, g2⟩ := hk
      cases rv
      have pk := I2.pin (kS, _) (List.mem_append_right _ (List.mem_append_right _ (.head _)))
      refine ⟨as.map Value.ref, e, pk.1, by rw [List.length_map]; lia, ?_⟩
      have s1 := Heap.SameBut.update s''.heap kS (Obj.mapSeq (·.push (Value.ref q)))
      have ea : (List.toArray (as.map Value.ref)).push (Value.ref q) = List.toArray ((as ++ [q]).map Value.ref) := by simp
      obtain ⟨c2, hc2⟩ : ∃ c2, (s''.heap.update kS (Obj.mapSeq (·.push (Value.ref q)))).get? kS = some (seqObj "list" (List.toArray ((as ++ [q]).map Value.ref)) c2) := ⟨_, by rw [← ea]; exact get?_update_seq pk.1 (·.push (Value.ref q))⟩
      refine ⟨q, c2, H'', rfl, ?_, g2, fun j a hj => ?_⟩
      · exact I2.turn1 (t' := s''.toks) hS nS (fun p hp => by obtain rfl := List.mem_singleton.mp hp; exact hkD) (fun b o hb e => (s1.2 b hb).trans e) hc2 (by nofun)
      · by_cases hlt : j < as.length
        · rw [List.getElem?_append_left hlt] at hj
          exact sm _ _ (ht j a hj)
        · rw [List.getElem?_append_right (by lia)] at hj
          have : j - as.length = 0 := by
            have := (List.getElem?_eq_some_iff.mp hj).1
            simp at this
            lia
          rw [this] at hj
          obtain rfl : q = a := Option.some.inj hj
          obtain rfl : j = as.length := by lia
          exact hq
    · obtain ⟨rfl, k, q, e2, H'', rfl, I2, g2, ht2⟩ := hq
      show wpAny _ A (forIn r PUnit.unit body) _ E s''
      exact keys_fold hn hkD hS nS turn hb r (as ++ [q]) e2 H'' s'' (by rw [List.length_append, List.length_singleton]; lia) (fun j v hj => by
        obtain ⟨t, rfl⟩ := hx (j + 1) v hj
        exact ⟨t, by rw [List.length_append, List.length_singleton]; congr 2; lia⟩) I2 g2 ht2
end
end L2

namespace L2
open PySem PySem.Spec PyProof.Rows PySem.Calls PySem.W NM
section
variable {X : Cx} {σ : St} {H : Hp} {s : Shared}
theorem vals_ats {items : List Value} {n : Nat} (hi : ∀ i, i < n → ∃ t, items.getD i Value.none = .int ((i : Nat) : Int) t) : ∀ π : List Nat, (∀ i ∈ π, i < n) → Vals (π.map fun i => V.int ((i : Nat) : Int)) (π.map fun i => items.getD i Value.none)
  | [], _ => .nil
  | i :: r, h => .cons (hi i (h i (List.mem_cons_self ..))) (vals_ats hi r fun j hj => h j (List.mem_cons_of_mem _ hj))
theorem sort_key {pins : List (Addr × Obj)} {l f : Addr} {n : Nat} {ks : List Int} {G : Hp → Prop} {Q : VK} (hh : X.A.handled = none) (I : Inv X pins σ H s) (g : G H) (hl : H l = some (.rng 0 (n : Int))) (h64 : n < 64)
    (turn : ∀ (pl : List (Addr × Obj)) (H' : Hp) (s' : Shared) (i : Nat) (u : Value), Inv X (pins ++ pl) σ H' s' → G H' → i < n → RelV (.int (i : Nat)) u →
      wpAny (model X.prog X.w) X.A.in1.in1 (call (.ref f) [u]) (EP X (pins ++ pl) σ fun r H'' => (∃ q, r = .ref q ∧ H'' q = some (.tup [.int (ks.getD i 0), .int (i : Nat)])) ∧ Same H' H'' ∧ G H'') (fun _ _ => False) s')
    (hQ : ∀ q (π : List Nat) H', G H' → H' q = none → π.Perm (List.range n) → π.Pairwise (fun i j => rkK ks i < rkK ks j) → Q (.ref q) (upd H' q (.lst (π.map fun i => V.int ((i : Nat) : Int))))) :
    wpAny (model X.prog X.w) X.A (call (.builtin "sorted") [.ref l] [(Str.ofString "key", .ref f)]) (EP X pins σ Q) X.xe s := by
  obtain ⟨t, u, v, e⟩ := I.hok l _ hl
  have hsz : Builtin.Range.rangeSize 0 (n : Int) 1 = (n : Nat) := by rw [rangeSize_one]; split <;> lia
  refine call_function_entry_kw kind_sorted plain_sorted entry_sorted (ksk_s1 _ _) ?_
  unfold Builtin.«sorted»
  refine wpAny_bind (m := checkCount "sorted" 1 1 _) (wpAny_pure ?_)
  refine wpAny_bind (collect_rng (A := X.A.in1) hh e (small_one (by lia) (by lia) (by lia) (by lia)) hsz (by lia) fun h1 tk acc hk hit => ?_)
  have I1 : Inv X pins σ H { s with heap := h1, toks := tk } := I.kept hk
  have hal : acc.toList.length = n := by rw [Array.length_toList]; exact hit.1
  have hai : ∀ i, i < n → ∃ t, acc.toList.getD i Value.none = .int ((i : Nat) : Int) t := fun i hi => by
    obtain ⟨t, ht⟩ := hit.2 i acc.toList[i] (by rw [← Array.getElem?_toList]; exact List.getElem?_eq_getElem (by lia))
    refine ⟨t, ?_⟩
    rw [List.getD_eq_getElem?_getD, List.getElem?_eq_getElem (by lia)]
    show acc.toList[i] = _
    rw [ht]
    simp
  generalize acc.toList = its at hal hai ⊢
  refine wpAny_bind (wpAny_newList ?_ (by rw [sizeLine_eq]; lia))
  have I2 := I1.pin1 (o := seqObj "list" its.toArray 0) (by nofun)
  have hD : (h1.push (seqObj "list" its.toArray 0)).get? h1.objs.size = some (seqObj "list" its.toArray 0) := Heap.get?_push_size _ rfl
  have nD := I1.apart
  have hDs : X.s₀.heap.objs.size ≤ h1.objs.size := I1.sz
  show wpAny _ _ _ _ _ { s with heap := h1.push (seqObj "list" its.toArray 0), toks := tk }
  replace I2 : Inv X (pins ++ [(h1.objs.size, seqObj "list" its.toArray 0)]) σ H { s with heap := h1.push (seqObj "list" its.toArray 0), toks := tk } := I2
  replace nD : ∀ p ∈ X.pn ++ pins, p.1 ≠ h1.objs.size := nD
  generalize h1.push (seqObj "list" its.toArray 0) = h2 at I2 hD ⊢
  generalize h1.objs.size = D at I2 hD nD hDs ⊢
  refine wpAny_bind (wpAny_holding (wpAny_call_entry_kw slot_list_sort ⟨_, hD, rfl⟩ entry_list_sort ?body (ksk_l1 _ _)))
  case body =>
    show wpAny (model X.prog X.w) X.A.in1.in1 (Builtin.«list.sort» ⟨[.ref D], [(Str.ofString "key", .ref f)]⟩) _ _ _
    rw [ksk_t1]
    obtain ⟨e1, ho1⟩ : ∃ e1, (h2.update D (Obj.mapSeq fun _ => (#[] : Array Value))).get? D = some (seqObj "list" #[] e1) := ⟨_, get?_update_seq hD fun _ => #[]⟩
    have s1 := Heap.SameBut.update h2 D (Obj.mapSeq fun _ => (#[] : Array Value))
    have I3 : Inv X (pins ++ [(D, seqObj "list" #[] e1)]) σ H { s with heap := h2.update D (Obj.mapSeq fun _ => (#[] : Array Value)), toks := tk } :=
      I2.turn1 (pl := []) (t' := tk) hDs nD (fun p q => nomatch q) (fun b o hb e => (s1.2 b hb).trans e) ho1 (by nofun)
    unfold ksk_tree
    refine wpAny_bind (listItems_at hD rfl ?_)
    refine wpAny_bind (listUpdate_at hD rfl ?_ (by rw [List.size_toArray, sizeLine_eq]; lia) (Nat.zero_le _))
    refine wpAny_bind (seqEpoch_at ho1 rfl ?_)
    refine wpAny_bind (wpAny_newTuple ?_ (by show its.length ≤ _; rw [sizeLine_eq]; lia))
    have I4 : Inv X (pins ++ [(D, seqObj "list" #[] e1)]) σ H { s with heap := (h2.update D (Obj.mapSeq fun _ => (#[] : Array Value))).push (seqObj "tuple" its.toArray 0), toks := tk } := I3.kept (t' := tk) fun b o e => Heap.get?_push_of_some _ e
    refine wpAny_bind (wpAny_newList ?_ (Nat.zero_le _))
    refine wpAny_holding ?_
    show wpAny _ _ _ _ _ { s with heap := ((h2.update D (Obj.mapSeq fun _ => (#[] : Array Value))).push (seqObj "tuple" its.toArray 0)).push (seqObj "list" #[] 0), toks := tk }
    generalize (h2.update D (Obj.mapSeq fun _ => (#[] : Array Value))).push (seqObj "tuple" its.toArray 0) = h4 at I4 ⊢
    have I5 : Inv X ((pins ++ [(D, seqObj "list" #[] e1)]) ++ [(h4.objs.size, seqObj "list" #[] 0)]) σ H { s with heap := h4.push (seqObj "list" #[] 0), toks := tk } := I4.pin1 (o := seqObj "list" #[] 0) (by nofun)
    have hkS : X.s₀.heap.objs.size ≤ h4.objs.size := I4.sz
    have nK : ∀ p ∈ X.pn ++ (pins ++ [(D, seqObj "list" #[] e1)]), p.1 ≠ h4.objs.size := I4.apart
    have hDk : D ≠ h4.objs.size := nK (D, seqObj "list" #[] e1) (List.mem_append_right _ (List.mem_append_right _ (.head _)))
    have nS : ∀ p ∈ X.pn ++ pins, p.1 ≠ h4.objs.size := fun p hp => nK p ((List.mem_append.mp hp).elim (fun z => List.mem_append_left _ z) fun z => List.mem_append_right _ (List.mem_append_left _ z))
    generalize h4.push (seqObj "list" #[] 0) = h5 at I5 ⊢
    generalize h4.objs.size = kS at I5 hkS hDk nS ⊢
    have I5' : Inv X (pins ++ [(kS, seqObj "list" (List.toArray (([] : List Addr).map Value.ref)) 0), (D, seqObj "list" #[] e1)]) σ H { s with heap := h5, toks := tk } := I5.pins_of fun p q => I5.pin p (List.mem_append_right _ ((List.mem_append.mp q).elim (fun z => List.mem_append_left _ (List.mem_append_left _ z)) fun z => by
      rcases List.mem_cons.mp z with rfl | z
      · exact List.mem_append_right _ (.head _)
      · exact List.mem_append_left _ (List.mem_append_right _ z)))
    unfold ksk_rest
    refine wpAny_bind (wpAny_rule ?_)
    first
      | rw [List.forIn_toArray]
      | (rw [← Array.forIn_toList]; simp only [List.toList_toArray])
      | rw [← Array.forIn_toList]
    refine wpAny_bind (wpAny_mono (keys_fold (D := D) (kS := kS) (f := f) (n := n) (e1 := e1) (ks := ks) (G := G) h64 hDk hkS nS turn (fun x s' C hx => ?_) its [] 0 H _ (by simpa using hal) (fun j v hj => ?_) I5' g (fun j a hj => by simp at hj)) (fun _ s6 hd => ?_) fun _ _ z => z)
    · refine wpAny_bind (wpAny_attempt (wpAny_mono hx (fun k s'' hk => ?_) fun _ _ hF => hF.elim))
      obtain ⟨vs, e, hk1, hk2, hC⟩ := hk
      try dsimp only
      refine wpAny_bind (listUpdate_at hk1 rfl ?_ (by rw [List.size_toArray, sizeLine_eq]; lia) (Nat.le_trans (Nat.le_of_eq (Array.size_push ..)) (by rw [List.size_toArray, sizeLine_eq]; lia)))
      exact wpAny_pure ⟨rfl, k, hC⟩
    · have hj' := (List.getElem?_eq_some_iff.mp hj).1
      obtain ⟨t, ht⟩ := hai j (by lia)
      refine ⟨t, ?_⟩
      rw [List.getD_eq_getElem?_getD, hj] at ht
      rw [show v = _ from ht]
      simp
    · obtain ⟨as, e, H2, hal2, I6, g2, htup⟩ := hd
      have pK := I6.pin (kS, seqObj "list" (List.toArray (as.map Value.ref)) e) (List.mem_append_right _ (List.mem_append_right _ (.head _)))
      have pD := I6.pin (D, seqObj "list" #[] e1) (List.mem_append_right _ (List.mem_append_right _ (.tail _ (.head _))))
      have I7 : Inv X pins σ H2 s6 := I6.unpinned
      have cI : ∀ (a : Addr) (o : Obj), s6.heap.get? a = some o → (∀ v, o.data ≠ .cell v) → ∀ x c, X.env.cells.lookup x = some c → c ≠ a := fun a o q d x c e z => by
        obtain ⟨v, oc, h1, h2⟩ := I6.cell x c e
        rw [z, q] at h1
        obtain rfl := Option.some.inj h1
        exact d _ h2
      have at1 : ∀ i, i < as.length → H2 (as.getD i 0) = some (.tup [.int (ks.getD i 0), .int (i : Nat)]) := fun i hi => htup i _ (by rw [List.getD_eq_getElem?_getD, List.getElem?_eq_getElem hi]; rfl)
      have hp1 : ∀ i, i < as.length → PairAt s6.heap (as.getD i 0) (ks.getD i 0) (i : Nat) := fun i hi => tup_at I7 (at1 i hi)
      obtain ⟨m0, hns, _⟩ := id I7.loc
      have fin : ∀ (π : List Nat) (h' : Heap) (c2 : Nat), (∀ b, b ≠ D → b ≠ kS → h'.get? b = s6.heap.get? b) → h'.get? D = some (seqObj "list" (List.toArray (π.map fun i => its.getD i Value.none)) c2) → π.Perm (List.range n) → π.Pairwise (fun i j => rkK ks i < rkK ks j) → EP X pins σ Q (.ref D) { s6 with heap := h' } := fun π h' c2 kp hDo pm pw => by
        refine ⟨.ref D, _, ?_, rfl, hQ D π H2 g2 pD.2.1 pm pw⟩
        have ltn : ∀ i ∈ π, i < n := fun i hi => List.mem_range.mp (pm.mem_iff.mp hi)
        have nn : ∀ b v, H2 b = some v → b ≠ D ∧ b ≠ kS := fun b v e => ⟨ne_of_none e pD.2.1, ne_of_none e pK.2.1⟩
        refine I7.step (t' := s6.toks) (g' := s6.gens) (d' := s6.drawn) (ch := [D, kS]) (fun b hb => ?_) (fun b o _ _ hc e _ => ?_) (fun b o _ _ hc e _ => ⟨o.slots, ?_⟩) (fun b o hc e n => ?_) (fun b o hc e => ⟨o, ?_⟩) (fun b ys e => by rw [upd_ne (nn _ _ e).1]; exact e) (fun b o v e => by rw [upd_ne (nn _ _ e).1]; exact e) (fun b ps e => ⟨#[], by rw [upd_ne (nn _ _ e).1, e]; simp⟩) (fun m hm => ?_) (fun b v e => ?_) I7.bare
        · rcases List.mem_cons.mp hb with rfl | hb
          · exact ⟨.inr hDs, pD.2.2.1, cI _ _ pD.1 pD.2.2.2.2, nD⟩
          · obtain rfl := List.mem_singleton.mp hb
            exact ⟨.inr hkS, pK.2.2.1, cI _ _ pK.1 pK.2.2.2.2, nS⟩
        · rw [kp b (fun z => hc (by simp [z])) (fun z => hc (by simp [z]))]; exact e
        · rw [kp b (fun z => hc (by simp [z])) (fun z => hc (by simp [z]))]; exact e
        · rw [upd_ne (fun z => hc (by simp [z]))]; exact n
        · rw [kp b (fun z => hc (by simp [z])) (fun z => hc (by simp [z]))]; exact e
        · obtain ⟨o, es, ep, ho, r⟩ := hm
          exact ⟨o, es, ep, by rw [kp _ (Ne.symm pD.2.2.1) (Ne.symm pK.2.2.1)]; exact ho, r⟩
        · by_cases hb : b = D
          · subst hb
            rw [upd_same] at e
            obtain rfl := Option.some.inj e
            refine ⟨?_, _, c2, vals_ats hai π ltn, hDo⟩
            rw [List.length_map, pm.length_eq, List.length_range, sizeLine_eq]; lia
          · rw [upd_ne hb] at e
            refine (I7.hok b v e).stay (fun c o hc z => ?_) (fun c z => by rw [upd_ne (nn _ _ z).1]; exact z) fun c ys z => by rw [upd_ne (nn _ _ z).1]; exact z
            have : c ≠ D ∧ c ≠ kS := by
              rcases hc with rfl | hc
              · exact nn _ _ e
              · exact nn _ _ hc
            rw [kp c this.1 this.2]; exact z
      refine wpAny_bind (listItems_at pK.1 rfl ?_)
      unfold ksk_end
      try dsimp only
      simp only [Bool.false_eq_true, if_false]
      have lks : (as.map Value.ref).length = its.length := by rw [List.length_map]; lia
      by_cases h2 : n < 2
      · have hn2 : its.toArray.size < 2 := by rw [List.size_toArray]; lia
        rw [if_pos hn2, if_pos hn2]
        refine wpAny_bind (wpAny_pure ?_)
        rw [StateT.run_pure]
        refine wpAny_bind (wpAny_pure ?_)
        try dsimp only
        have eo : (arrOf (SortSt.mk' general' ((List.toArray (as.map Value.ref)).zip its.toArray) #[] 7 none)).map (·.2) = its.toArray := by
          show ((List.toArray (as.map Value.ref)).zip its.toArray).map (·.2) = its.toArray
          apply Array.toList_inj.mp
          simp [List.map_snd_zip, lks]
        have er : (List.range n).map (fun i => its.getD i Value.none) = its := by
          refine List.ext_getElem? fun i => ?_
          by_cases h : i < n
          · rw [List.getElem?_map, List.getElem?_range h, List.getElem?_eq_getElem (by lia)]
            show some (its.getD i _) = _
            rw [List.getD_eq_getElem?_getD, List.getElem?_eq_getElem (by lia)]; rfl
          · rw [List.getElem?_eq_none (by simp; lia), List.getElem?_eq_none (by lia)]
        refine tail_own (ks := as.map Value.ref) (out := its) eo (by lia) (by lia) rfl pK.1 pD.1 hDk fun h' c2 kp hDo => ⟨_, rfl, wpAny_pure ⟨_, rfl, fin (List.range n) h' c2 kp (by rw [er]; exact hDo) (.refl _) ?_⟩⟩
        match n, h2 with
        | 0, _ => exact .nil
        | 1, _ => exact List.pairwise_singleton _ _
      · have hn2 : ¬ its.toArray.size < 2 := by rw [List.size_toArray]; lia
        rw [if_neg hn2, if_neg hn2]
        obtain ⟨fs, ef, kt, hfs⟩ := pairs_tups (h := s6.heap) (as := as) (fi := fun i => ks.getD i 0) (List.range as.length) fun i hi => hp1 i (List.mem_range.mp hi)
        rw [refs_range] at kt
        rw [List.length_range] at ef
        refine wpAny_bind (kat_kind (T := .type "int") kt (by rw [ef]; lia) (fun v hv => by obtain ⟨n, t, rfl⟩ := hfs v hv; exact .now) (by decide) ?_)
        refine wpAny_bind (wpAny_mono (kat_run (Q := fun st' s' => s' = s6 ∧ ∃ p : Array Nat, arrOf st' = p.map (kas_item ((List.toArray (as.map Value.ref)).zip its.toArray)) ∧ failedOf st' = none ∧ IsP as.length p ∧ Up (rkK ks) p as.length) (G := fun p s' => s' = s6 ∧ IsP as.length p ∧ Up (rkK ks) p as.length)
          (by rw [List.length_map]; lia) (by lia) (by lia) (fun p st' s' a1 a2 a3 a4 => ⟨a4.1, p, a2, a3, a4.2⟩) ?_) ?_ fun _ _ z => z)
        · rw [hal, ← hal2]
          show (kas_sort as.length).kasWp (kas_ask X.prog X.w X.A.in1.in1 (tuples' true) (as.map Value.ref)) _ _
          exact kW_wp (n := as.length) (lt := ltR (rkK ks)) (fun i j C hi hj hC => lex_ask (by lia) hp1 i j C hi hj hC) (fun π hπ => ⟨rfl, hπ⟩) (sort_ok (rk := rkK ks) (rk_inj (by lia)) (by lia))
        · rintro ⟨⟨⟩, st'⟩ s' ⟨rfl, p, har, hf, ip, up⟩
          try dsimp only
          have lp : p.toList.length = n := by rw [Array.length_toList, ip.size, hal2]
          refine tail_own (ks := as.map Value.ref) (out := p.toList.map fun i => its.getD i Value.none) (kat_snds lks har) (by rw [List.length_map]; lia) (by rw [List.length_map]; lia) hf pK.1 pD.1 hDk fun h' c2 kp hDo => ⟨_, rfl, wpAny_pure ⟨_, rfl, fin p.toList h' c2 kp hDo (by rw [← hal2]; exact ip.list) ?_⟩⟩
          refine List.pairwise_iff_getElem.mpr fun i j hi hj hij => ?_
          have hj' : j < as.length := by rw [← ip.size]; simpa using hj
          have := up i j hij hj'
          rw [gA_eq (by rw [ip.size]; lia), gA_eq (by rw [ip.size]; lia)] at this
          simpa using this
end
section
variable {X : Cx}
inductive tSortLam_b (qual : Str) (lpos : Pos) (P : Addr) (js : List Nat) (t : TE) (σ : St) (Q : VK) (ys : List V) (H1 : Hp) : Prop
  | mk : ∀ l (n : Nat) (ks : List Int), (ys = [.ref l]) → (H1 l = some (.rng 0 (n : Int))) → (n < 64) → (LamOk qual lpos P H1) → ((∀ (i : Nat) H2, i < n → SameB P H1 H2 → t (compSt (some (.int (i : Nat))) σ js) H2 fun r H3 => Same H2 H3 ∧ ∃ q, r = .ref q ∧ H3 q = some (.tup [.int (ks.getD i 0), .int (i : Nat)]))) →
      (∀ q (π : List Nat) H2, SameB P H1 H2 → LamOk qual lpos P H2 → H2 q = none → π.Perm (List.range n) → π.Pairwise (fun i j => rkK ks i < rkK ks j) → Q (.ref q) (upd H2 q (.lst (π.map fun i => V.int ((i : Nat) : Int))))) → tSortLam_b qual lpos P js t σ Q ys H1
noncomputable def tSortLam (qual : Str) (lpos : Pos) (P : Addr) (js : List Nat) (ta : TA) (t : TE) : TE := fun σ H Q => ta σ H fun ys H1 => tSortLam_b qual lpos P js t σ Q ys H1
theorem pe_sortLam {k : Nat} {c P : Addr} {params : Arguments} {body e : Expr} {scope : Scope} {x : Str} (js : List Nat) {p pos lpos kp : Pos} {ta : TA} {t : TE} (hc : X.calm = true) (hr : Room (k + 2) X.A) (hg : Gl X "sorted") (hm : X.mg "sorted" = none) (L : Lt X.K X.mg X.base c P) (hcode : X.env.code = .ref c)
    (hdef : defaultsOf params X.env = ([], [])) (hok : compOk scope X.env x X.N js = true)
    (hbind : ∀ (qual : Str) (cl : List (Str × Addr)) (pm cd ctv w : Value), bindArgs (PySem.W.kla_fn "<lambda>" qual params body scope cl pm cd ctv) ⟨[w], []⟩ = pure [(x, w)])
    (hco : scope.isCoroutine = false) (hgen : scope.isGenerator = false)
    (hbody : ∀ (f : Addr) (cd : Value) (A : Around) (s : Shared) (H : Hp), Room k A → PE (lamCx X scope x js (X.env.qual ++ "<lambda>") f cd A s H) body t)
    (ha : PA X [e] ta) (he : backTo pos (starEach [e] X.env) = [(false, eval e X.env)] := by rfl) :
    PE X (.Call (.Name "sorted" p) [e] [⟨some (Str.ofString "key"), .Lambda params body scope lpos, kp⟩] pos) (tSortLam (X.env.qual ++ "<lambda>") lpos P js ta t) := by
  intro pins s σ H Q I h
  refine wpAny_Call_Name_kw (ld_blt I hg hm (by rfl) ?_)
  refine callWith_kw (thn (ha pos pins s σ H _ I h) fun us s1 ⟨vs, H1, I1, r1, q1⟩ => ?_) (by rw [he]; rfl) (by rw [he]; rfl) rfl rfl
  obtain ⟨l, n, ks, rfl, hq, h64, hT, ht, q⟩ := q1
  refine L2.ob_ea (vals1 r1) fun u e_1 ru => ?_; subst e_1
  cases ru
  refine kws_cons (thn (lam_make (compOk_of hok) L hcode hdef I1 hT) fun v s2 ⟨f, c', ctv, H2, e, sb, hP, hc', I2⟩ => ?_)
  subst e
  refine kws_nil ?_
  show wpAny _ _ (call (.builtin "sorted") [.ref l] [(Str.ofString "key", .ref f)]) _ _ _
  have hlP : l ≠ P := fun z => by
    rw [z] at hq
    rcases hT with hT | ⟨_, hT, _⟩ <;> (rw [hT] at hq; cases hq)
  have G0 : (fun H' => SameB P H1 H' ∧ H' P = some (.tbl (lamT lpos c')) ∧ H' c' = some (CodeO c' (X.env.qual ++ "<lambda>"))) H2 := ⟨sb, hP, hc'⟩
  have fin := sort_key (f := f) (ks := ks) (G := fun H' => SameB P H1 H' ∧ H' P = some (.tbl (lamT lpos c')) ∧ H' c' = some (CodeO c' (X.env.qual ++ "<lambda>"))) (Q := Q) (I.ok.hd hc) I2 G0 (sb _ _ hlP hq) h64
    (fun pl H' s' i u I' g hi ru => ?_) (fun q' π H' g hn pm pw => q q' π H' g.1 (.inr ⟨c', g.2.1, g.2.2⟩) hn pm pw)
  · exact thn fin fun u s' ⟨v, H', I', r', q'⟩ => ⟨v, H', I'.unpinned, r', q'⟩
  · have hf := (I'.pin (f, _) (List.mem_append_right _ (List.mem_append_left _ (List.mem_append_right _ (.head _))))).1
    refine thn (lam_run (k := k) (x := x) (js := js) (A := X.A.in1.in1) (t := t) hok (fun cl cd ctv w => hbind _ cl _ cd ctv w) hco hgen (hbody f) hr.in1.in1 rfl I' hf (CodeO.rec I'.hok g.2.2) ru (ht i H' hi g.1)) fun u' s'' ⟨v', H'', I'', r', q1, q2⟩ => ⟨v', H'', I'', r', q2, q1, ?_⟩
    exact ⟨g.1.trans q1.toB, q1 _ _ g.2.1, q1 _ _ g.2.2⟩
end
end L2

namespace NM
noncomputable def chs (w : Nat) (st : List (Nat × Nat)) : Nat → Nat → Nat
  | 0, _ => 0
  | i + 1, v => if v = (st.getD (st.length - 1 - i) (0, 0)).1 ∨ v = (st.getD (st.length - 1 - i) (0, 0)).2 then max (chs w st i v) (chs w st i (w + (st.length - 1 - i)) + 1) else chs w st i v
noncomputable def chF (w : Nat) (st : List (Nat × Nat)) (v : Nat) : Nat := chs w st st.length v
section
variable {w : Nat} {st : List (Nat × Nat)} (hs : ∀ k p, st[k]? = some p → p.1 < w + k ∧ p.2 < w + k)
include hs
theorem st_get {k : Nat} (hk : k < st.length) : (st.getD k (0, 0)).1 < w + k ∧ (st.getD k (0, 0)).2 < w + k := by
  refine hs k _ ?_
  rw [List.getD_eq_getElem?_getD, List.getElem?_eq_getElem hk]; rfl
theorem chs_late {i v : Nat} (hi : i < st.length) (hv : w + (st.length - 1 - i) ≤ v) : chs w st (i + 1) v = chs w st i v := by
  have := st_get hs (k := st.length - 1 - i) (by omega)
  show (if _ then _ else _) = _
  rw [if_neg (by omega)]
theorem chs_end {v : Nat} : ∀ (d i : Nat), i + d = st.length → w + st.length ≤ v + i + 1 → chF w st v = chs w st i v
  | 0, i, h, _ => by unfold chF; rw [← h]; rfl
  | d + 1, i, h, hv => by
    rw [chs_end d (i + 1) (by omega) (by omega)]
    exact chs_late hs (by omega) (by omega)
theorem chs_mono {v : Nat} (i : Nat) : chs w st i v ≤ chs w st (i + 1) v := by
  show _ ≤ if _ then _ else _
  split
  · exact Nat.le_max_left _ _
  · exact Nat.le_refl _
theorem chs_upto {v : Nat} : ∀ d i, chs w st i v ≤ chs w st (i + d) v
  | 0, _ => Nat.le_refl _
  | d + 1, i => Nat.le_trans (chs_upto d i) (chs_mono hs (i + d))
theorem far_ge {k v : Nat} (hk : k < st.length) (hv : v = (st.getD k (0, 0)).1 ∨ v = (st.getD k (0, 0)).2) : chF w st (w + k) + 1 ≤ chF w st v := by
  have e1 : st.length - 1 - (st.length - 1 - k) = k := by omega
  have h1 : chs w st (st.length - 1 - k + 1) v = max (chs w st (st.length - 1 - k) v) (chs w st (st.length - 1 - k) (w + k) + 1) := by
    show (if _ then _ else _) = _
    rw [e1, if_pos hv]
  have h2 := chs_end hs (v := w + k) (k + 1) (st.length - 1 - k) (by omega) (by omega)
  have h3 := chs_upto hs (v := v) k (st.length - 1 - k + 1)
  rw [show st.length - 1 - k + 1 + k = st.length by omega] at h3
  have h4 : chs w st (st.length - 1 - k) (w + k) + 1 ≤ chs w st (st.length - 1 - k + 1) v := by rw [h1]; exact Nat.le_max_right _ _
  unfold chF at h2 ⊢
  omega
theorem far_some {v : Nat} : ∀ i, i ≤ st.length → chs w st i v = 0 ∨ ∃ k, k < st.length ∧ (v = (st.getD k (0, 0)).1 ∨ v = (st.getD k (0, 0)).2) ∧ chs w st i v = chF w st (w + k) + 1
  | 0, _ => .inl rfl
  | i + 1, h => by
    have ih := far_some (v := v) i (by omega)
    by_cases c : v = (st.getD (st.length - 1 - i) (0, 0)).1 ∨ v = (st.getD (st.length - 1 - i) (0, 0)).2
    · have e : chs w st (i + 1) v = max (chs w st i v) (chs w st i (w + (st.length - 1 - i)) + 1) := if_pos c
      by_cases m : chs w st i v ≤ chs w st i (w + (st.length - 1 - i)) + 1
      · refine .inr ⟨st.length - 1 - i, by omega, c, ?_⟩
        rw [e, Nat.max_eq_right m, chs_end hs (v := w + (st.length - 1 - i)) (st.length - i) i (by omega) (by omega)]
      · rw [e, Nat.max_eq_left (by omega)]; exact ih
    · have e : chs w st (i + 1) v = chs w st i v := if_neg c
      rw [e]; exact ih
theorem far_is (v : Nat) : chF w st v = 0 ∨ ∃ k, k < st.length ∧ (v = (st.getD k (0, 0)).1 ∨ v = (st.getD k (0, 0)).2) ∧ chF w st v = chF w st (w + k) + 1 := far_some hs _ (Nat.le_refl _)
theorem far_lt {v : Nat} : ∀ i, i ≤ st.length → chs w st i v ≤ i
  | 0, _ => Nat.le_refl _
  | i + 1, h => by
    have h1 := far_lt (v := v) i (by omega)
    have h2 := far_lt (v := w + (st.length - 1 - i)) i (by omega)
    show (if _ then _ else _) ≤ _
    split
    · exact Nat.max_le.mpr ⟨by omega, by omega⟩
    · omega
theorem far_le (v : Nat) : chF w st v ≤ st.length := far_lt hs _ (Nat.le_refl _)
end
noncomputable def redy (w : Nat) (st : List (Nat × Nat)) (dn : Nat → Bool) (k : Nat) : Bool :=
  (decide ((st.getD k (0, 0)).1 < w) || dn ((st.getD k (0, 0)).1 - w)) && (decide ((st.getD k (0, 0)).2 < w) || dn ((st.getD k (0, 0)).2 - w))
noncomputable def rdyL (w : Nat) (st : List (Nat × Nat)) (W : List Nat) (dn : Nat → Bool) : List Nat := W.filter fun k => !dn k && redy w st dn k
noncomputable def choL (w : Nat) (st : List (Nat × Nat)) (W : List Nat) (n : Nat) (dn : Nat → Bool) : List Nat := (rdyL w st W dn).take n
noncomputable def DnR (w : Nat) (st : List (Nat × Nat)) (W : List Nat) (n : Nat) : Nat → Nat → Bool
  | 0, _ => false
  | r + 1, k => DnR w st W n r k || (choL w st W n (DnR w st W n r)).contains k
noncomputable def cntF (L : Nat) (dn : Nat → Bool) : Nat := ((List.range L).filter dn).length
section
variable {w : Nat} {st : List (Nat × Nat)} {W : List Nat} {n : Nat}
theorem rdy_mem {dn : Nat → Bool} {k : Nat} : k ∈ rdyL w st W dn ↔ k ∈ W ∧ dn k = false ∧ redy w st dn k = true := by
  unfold rdyL
  rw [List.mem_filter]
  simp
theorem cho_mem {dn : Nat → Bool} {k : Nat} (h : k ∈ choL w st W n dn) : k ∈ W ∧ dn k = false ∧ redy w st dn k = true := rdy_mem.mp (List.mem_of_mem_take h)
theorem cho_len {dn : Nat → Bool} : (choL w st W n dn).length ≤ n := by
  unfold choL
  rw [List.length_take]
  exact Nat.min_le_left _ _
theorem cnt_add {L : Nat} {dn : Nat → Bool} {l : List Nat} (nd : l.Nodup) (hl : ∀ k ∈ l, k < L ∧ dn k = false) : cntF L (fun k => dn k || l.contains k) = cntF L dn + l.length := by
  have key : ∀ (xs : List Nat), (xs.filter (fun k => dn k || l.contains k)).length = (xs.filter dn).length + (xs.filter (fun k => !dn k && l.contains k)).length := by
    intro xs
    induction xs with
    | nil => rfl
    | cons x r ih =>
      rw [List.filter_cons, List.filter_cons, List.filter_cons]
      cases h1 : dn x <;> cases h2 : l.contains x <;> simp only [Bool.or_self, Bool.or_true, Bool.or_false, Bool.and_self, Bool.and_true, Bool.and_false, Bool.not_true, Bool.not_false, if_true, if_false, List.length_cons, Bool.false_eq_true] <;> omega
  unfold cntF
  rw [key]
  congr 1
  have : ((List.range L).filter (fun k => !dn k && l.contains k)).Perm l := by
    refine (List.perm_ext_iff_of_nodup (List.nodup_range.filter _) nd).mpr fun k => ?_
    rw [List.mem_filter]
    simp only [List.mem_range, Bool.and_eq_true, List.contains_iff_mem, Bool.not_eq_true']
    exact ⟨fun h => h.2.2, fun h => ⟨(hl k h).1, (hl k h).2, h⟩⟩
  exact this.length_eq
theorem cnt_le {L : Nat} {dn : Nat → Bool} : cntF L dn ≤ L := by
  have := List.length_filter_le dn (List.range L)
  rw [List.length_range] at this
  exact this
theorem cnt_all {L : Nat} {dn : Nat → Bool} (h : ∀ k, k < L → dn k = true) : cntF L dn = L := by
  unfold cntF
  rw [List.filter_eq_self.mpr fun k hk => h k (List.mem_range.mp hk), List.length_range]
variable (hs : ∀ k p, st[k]? = some p → p.1 < w + k ∧ p.2 < w + k) (hW : W.Perm (List.range st.length))
include hW
theorem W_lt : ∀ k ∈ W, k < st.length := fun k hk => List.mem_range.mp (hW.mem_iff.mp hk)
theorem W_nd : W.Nodup := hW.nodup_iff.mpr List.nodup_range
theorem cnt_step (r : Nat) : cntF st.length (DnR w st W n (r + 1)) = cntF st.length (DnR w st W n r) + (choL w st W n (DnR w st W n r)).length := by
  refine cnt_add (((W_nd hW).filter _).sublist (List.take_sublist _ _)) fun k hk => ?_
  have := cho_mem hk
  exact ⟨W_lt hW k this.1, this.2.1⟩
theorem cnt_most : ∀ r, cntF st.length (DnR w st W n r) ≤ r * n
  | 0 => by
    show ((List.range st.length).filter fun _ => false).length ≤ _
    rw [List.filter_eq_nil_iff.mpr (by simp)]
    exact Nat.zero_le _
  | r + 1 => by
    rw [cnt_step hW, Nat.add_mul, Nat.one_mul]
    exact Nat.add_le_add (cnt_most r) cho_len
include hs
theorem cho_some (hn : 1 ≤ n) (dn : Nat → Bool) (h : ∃ k, k < st.length ∧ dn k = false) : 1 ≤ (choL w st W n dn).length := by
  have : ∀ m, (∃ k, k < m ∧ dn k = false) → ∃ k, k < m ∧ dn k = false ∧ ∀ j, j < k → dn j = true := by
    intro m
    induction m with
    | zero => rintro ⟨k, h, _⟩; omega
    | succ m ih =>
      rintro ⟨k, hk, hd⟩
      by_cases c : ∃ k, k < m ∧ dn k = false
      · obtain ⟨k', a, b, d⟩ := ih c
        exact ⟨k', by omega, b, d⟩
      · refine ⟨k, hk, hd, fun j hj => ?_⟩
        cases e : dn j with
        | true => rfl
        | false => exact absurd ⟨j, by omega, e⟩ c
  obtain ⟨k, hk, hd, hj⟩ := this _ h
  have hg := st_get hs hk
  have hm : k ∈ rdyL w st W dn := by
    refine rdy_mem.mpr ⟨hW.mem_iff.mpr (List.mem_range.mpr hk), hd, ?_⟩
    unfold redy
    rw [Bool.and_eq_true, Bool.or_eq_true, Bool.or_eq_true, decide_eq_true_eq, decide_eq_true_eq]
    refine ⟨?_, ?_⟩
    · by_cases c : (st.getD k (0, 0)).1 < w
      · exact .inl c
      · exact .inr (hj _ (by omega))
    · by_cases c : (st.getD k (0, 0)).2 < w
      · exact .inl c
      · exact .inr (hj _ (by omega))
  unfold choL
  rw [List.length_take]
  have : 1 ≤ (rdyL w st W dn).length := List.length_pos_of_mem hm
  omega
theorem cnt_least (hn : 1 ≤ n) : ∀ r, (∀ i, i < r → ∃ k, k < st.length ∧ DnR w st W n i k = false) → r ≤ cntF st.length (DnR w st W n r)
  | 0, _ => Nat.zero_le _
  | r + 1, h => by
    rw [cnt_step hW]
    have h1 := cnt_least hn r fun i hi => h i (by omega)
    have h2 := cho_some hs hW hn _ (h r (by omega))
    omega
omit hs hW in
theorem redy_iff {dn : Nat → Bool} {k : Nat} : redy w st dn k = true ↔ ((st.getD k (0, 0)).1 < w ∨ dn ((st.getD k (0, 0)).1 - w) = true) ∧ ((st.getD k (0, 0)).2 < w ∨ dn ((st.getD k (0, 0)).2 - w) = true) := by
  unfold redy
  rw [Bool.and_eq_true, Bool.or_eq_true, Bool.or_eq_true, decide_eq_true_eq, decide_eq_true_eq]
variable {d : Nat → Int} (d0 : ∀ v, v < w → d v = 0) (d1 : ∀ k, k < st.length → d (w + k) = 1 + max (d (st.getD k (0, 0)).1) (d (st.getD k (0, 0)).2))
include d0 d1
omit hs in
theorem deep_dn : ∀ (r k : Nat), DnR w st W n r k = true → d (w + k) ≤ (r : Nat)
  | 0, _, h => nomatch h
  | r + 1, k, h => by
    have h : (DnR w st W n r k || (choL w st W n (DnR w st W n r)).contains k) = true := h
    rw [Bool.or_eq_true] at h
    rcases h with h | h
    · have := deep_dn r k h; omega
    · have hm := cho_mem (List.contains_iff_mem.mp h)
      have hk := W_lt hW k hm.1
      obtain ⟨a, b⟩ := redy_iff.mp hm.2.2
      have one : ∀ v, (v < w ∨ DnR w st W n r (v - w) = true) → d v ≤ r := fun v hv => by
        by_cases c : v < w
        · rw [d0 v c]; omega
        · have := deep_dn r _ (hv.resolve_left c)
          rw [show w + (v - w) = v by omega] at this
          exact this
      have h1 := one _ a
      have h2 := one _ b
      rw [d1 k hk]
      omega
theorem dn_deep (hn : st.length ≤ n) : ∀ (r k : Nat), k < st.length → d (w + k) ≤ (r : Nat) → DnR w st W n r k = true
  | 0, k, hk, h => by
    have : ∀ m v, v < m → v < w + st.length → 0 ≤ d v := by
      intro m
      induction m with
      | zero => intro v h; omega
      | succ m ih =>
        intro v hv hv2
        by_cases c : v < w
        · rw [d0 v c]; omega
        · have g := st_get hs (k := v - w) (by omega)
          have := d1 (v - w) (by omega)
          rw [show w + (v - w) = v by omega] at this
          have a := ih (st.getD (v - w) (0, 0)).1 (by omega) (by omega)
          omega
    have g := st_get hs hk
    have a := this (w + k) (st.getD k (0, 0)).1 (by omega) (by omega)
    rw [d1 k hk] at h
    omega
  | r + 1, k, hk, h => by
    show (DnR w st W n r k || (choL w st W n (DnR w st W n r)).contains k) = true
    cases e : DnR w st W n r k with
    | true => rfl
    | false =>
      rw [Bool.false_or, List.contains_iff_mem]
      have g := st_get hs hk
      have dk := d1 k hk
      have one : ∀ v, v < w + k → d v ≤ r → (v < w ∨ DnR w st W n r (v - w) = true) := fun v hv hd => by
        by_cases c : v < w
        · exact .inl c
        · refine .inr (dn_deep hn r _ (by omega) ?_)
          rw [show w + (v - w) = v by omega]
          exact hd
      have hm : k ∈ rdyL w st W (DnR w st W n r) := rdy_mem.mpr ⟨hW.mem_iff.mpr (List.mem_range.mpr hk), e, redy_iff.mpr ⟨one _ g.1 (by omega), one _ g.2 (by omega)⟩⟩
      unfold choL
      rw [List.take_of_length_le ?_]
      · exact hm
      · have h1 : (rdyL w st W (DnR w st W n r)).length ≤ W.length := List.length_filter_le _ _
        have h2 := hW.length_eq
        rw [List.length_range] at h2
        omega
end
end NM

namespace NM
noncomputable def rkC (c : Nat → Nat) (i : Nat) : Int := (i : Int) - 64 * (c i : Int)
noncomputable def remL (A B : List Nat) (i : Nat) : List Nat := A.filter fun k => !(B.take i).contains k
section
variable {A B : List Nat} (hp : B.Perm A) (ha : A.Pairwise (· < ·))
theorem rem_mem {i k : Nat} : k ∈ remL A B i ↔ k ∈ A ∧ k ∉ B.take i := by
  unfold remL
  rw [List.mem_filter]
  simp
include ha
theorem rem_up (i : Nat) : (remL A B i).Pairwise (· < ·) := ha.filter _
theorem A_nd : A.Nodup := ha.imp fun h => Nat.ne_of_lt h
include hp
theorem B_nd : B.Nodup := hp.nodup_iff.mpr (A_nd ha)
theorem rem_drop {i k : Nat} : k ∈ remL A B i ↔ k ∈ B.drop i := by
  rw [rem_mem, ← hp.mem_iff]
  have nd := B_nd hp ha
  rw [← List.take_append_drop i B, List.nodup_append] at nd
  constructor
  · rintro ⟨h1, h2⟩
    rw [← List.take_append_drop i B, List.mem_append] at h1
    exact h1.resolve_left h2
  · intro h
    refine ⟨List.mem_of_mem_drop h, fun z => ?_⟩
    exact nd.2.2 k z k h rfl
theorem rem_len (i : Nat) : (remL A B i).length = B.length - i := by
  have : (remL A B i).Perm (B.drop i) := (List.perm_ext_iff_of_nodup ((A_nd ha).filter _) ((B_nd hp ha).sublist (List.drop_sublist _ _))).mpr fun k => rem_drop hp ha
  rw [this.length_eq, List.length_drop]
theorem rem_next {i b : Nat} (hb : B[i]? = some b) : (remL A B i).filter (fun k => !(k == b)) = remL A B (i + 1) := by
  unfold remL
  rw [List.filter_filter]
  refine List.filter_congr fun k hk => ?_
  rw [List.take_succ, hb]
  show _ = !(List.take i B ++ [b]).contains k
  rw [Bool.eq_iff_iff]
  simp only [Bool.and_eq_true, Bool.not_eq_true', Bool.eq_false_iff, ne_eq, List.contains_iff_mem, List.mem_append, List.mem_singleton, beq_iff_eq]
  constructor
  · rintro ⟨a, b⟩ (z | z)
    · exact b z
    · exact a z
  · intro h
    exact ⟨fun z => h (.inr z), fun z => h (.inl z)⟩
theorem rem_best {rk : Nat → Int} (hB : B.Pairwise (fun x y => rk x < rk y)) {i b : Nat} (hb : b ∈ remL A B i) (hm : ∀ x ∈ remL A B i, rk b ≤ rk x) : B[i]? = some b := by
  have h1 := (rem_drop hp ha).mp hb
  have hi : i < B.length := by
    rcases Nat.lt_or_ge i B.length with h | h
    · exact h
    · rw [List.drop_eq_nil_of_le h] at h1; cases h1
  rw [List.drop_eq_getElem_cons hi] at h1
  rw [List.getElem?_eq_getElem hi]
  rcases List.mem_cons.mp h1 with h | h
  · rw [h]
  · have h2 := hm B[i] ((rem_drop hp ha).mpr (by rw [List.drop_eq_getElem_cons hi]; exact List.mem_cons_self ..))
    have h3 : (B.drop i).Pairwise (fun x y => rk x < rk y) := hB.sublist (List.drop_sublist _ _)
    rw [List.drop_eq_getElem_cons hi] at h3
    have := (List.pairwise_cons.mp h3).1 b h
    omega
end
structure BestI (c : Nat → Nat) (R : List Nat) (j b : Nat) : Prop where
  mem : b ∈ R
  le : ∀ x ∈ R.take j, rkC c b ≤ rkC c x
  ah : ∀ x ∈ R.drop j, b ≤ x
theorem best_0 {c : Nat → Nat} {R : List Nat} (hR : R.Pairwise (· < ·)) {b : Nat} (h : R[0]? = some b) : BestI c R 0 b := by
  rcases R with _ | ⟨x, r⟩
  · cases h
  · obtain rfl : x = b := Option.some.inj h
    refine ⟨List.mem_cons_self .., fun y hy => (nomatch hy), fun y hy => ?_⟩
    rcases List.mem_cons.mp hy with rfl | hy
    · exact Nat.le_refl _
    · exact Nat.le_of_lt ((List.pairwise_cons.mp hR).1 y hy)
theorem best_yes {c : Nat → Nat} {R : List Nat} (hR : R.Pairwise (· < ·)) (h64 : ∀ x ∈ R, x < 64) {j b k : Nat} (h : BestI c R j b) (hk : R[j]? = some k) (hc : c b < c k) : BestI c R (j + 1) k := by
  have hj := (List.getElem?_eq_some_iff.mp hk).1
  have hkm := List.mem_of_getElem? hk
  have k1 := h64 k hkm
  refine ⟨hkm, fun x hx => ?_, fun x hx => ?_⟩
  · rw [List.take_succ, hk] at hx
    rcases List.mem_append.mp hx with hx | hx
    · have h1 := h.le x hx
      unfold rkC at h1 ⊢
      omega
    · obtain rfl : x = k := List.mem_singleton.mp hx
      exact Int.le_refl _
  · have h3 : (R.drop j).Pairwise (· < ·) := hR.sublist (List.drop_sublist _ _)
    rw [List.drop_eq_getElem_cons hj] at h3
    have := (List.pairwise_cons.mp h3).1 x hx
    have e : R[j] = k := by rw [List.getElem?_eq_getElem hj] at hk; exact Option.some.inj hk
    omega
theorem best_no {c : Nat → Nat} {R : List Nat} {j b k : Nat} (h : BestI c R j b) (hk : R[j]? = some k) (hc : ¬ c b < c k) : BestI c R (j + 1) b := by
  have hj := (List.getElem?_eq_some_iff.mp hk).1
  have e : R[j] = k := by rw [List.getElem?_eq_getElem hj] at hk; exact Option.some.inj hk
  refine ⟨h.mem, fun x hx => ?_, fun x hx => h.ah x ?_⟩
  · rw [List.take_succ, hk] at hx
    rcases List.mem_append.mp hx with hx | hx
    · exact h.le x hx
    · obtain rfl : x = k := List.mem_singleton.mp hx
      have := h.ah x (by rw [List.drop_eq_getElem_cons hj, e]; exact List.mem_cons_self ..)
      unfold rkC
      omega
  · rw [List.drop_eq_getElem_cons hj]
    exact List.mem_cons_of_mem _ hx
theorem best_end {c : Nat → Nat} {R : List Nat} {b : Nat} (h : BestI c R R.length b) : ∀ x ∈ R, rkC c b ≤ rkC c x := fun x hx => h.le x (by rw [List.take_length]; exact hx)
theorem sort_uniq {a b : List Int} (h : a.Perm b) (ha : a.Pairwise (· ≤ ·)) (hb : b.Pairwise (· ≤ ·)) : a = b := h.eq_of_pairwise (fun _ _ _ _ h1 h2 => Int.le_antisymm h1 h2) ha hb
noncomputable def srtL (L : Nat) (l : List Nat) : List Nat := (List.range L).filter fun k => l.contains k
theorem srt_is {L : Nat} {l : List Nat} (nd : l.Nodup) (hl : ∀ k ∈ l, k < L) {a : List Int} (h : a.Perm (l.map Int.ofNat)) (ha : a.Pairwise (· ≤ ·)) : a = (srtL L l).map Int.ofNat := by
  refine sort_uniq (h.trans (List.Perm.map _ ?_)) ha ?_
  · refine (List.perm_ext_iff_of_nodup nd (List.nodup_range.filter _)).mpr fun k => ?_
    rw [List.mem_filter]
    simp only [List.mem_range, List.contains_iff_mem]
    exact ⟨fun h => ⟨hl k h, h⟩, fun h => h.2⟩
  · refine List.Pairwise.map _ (fun x y (h : x ≤ y) => ?_) ((List.pairwise_le_range (n := L)).filter _)
    exact Int.ofNat_le.mpr h
theorem srt_mem {L : Nat} {l : List Nat} {k : Nat} : k ∈ srtL L l ↔ k < L ∧ k ∈ l := by
  unfold srtL
  rw [List.mem_filter]
  simp
end NM

namespace NM
section
variable {w : Nat} {st : List (Nat × Nat)} {W : List Nat} {n : Nat}
noncomputable def EndR (w : Nat) (st : List (Nat × Nat)) (W : List Nat) (n R : Nat) : Prop := (∀ k, k < st.length → DnR w st W n R k = true) ∧ ∀ r, r < R → ∃ k, k < st.length ∧ DnR w st W n r k = false
theorem end_uniq {R R' : Nat} (h : EndR w st W n R) (h' : EndR w st W n R') : R = R' := by
  have one : ∀ {R R' : Nat}, EndR w st W n R → EndR w st W n R' → ¬ R < R' := fun h h' z => by
    obtain ⟨k, hk, e⟩ := h'.2 _ z
    rw [h.1 k hk] at e
    cases e
  have := one h h'
  have := one h' h
  omega
noncomputable def toldR (w : Nat) (st : List (Nat × Nat)) (W : List Nat) (n R : Nat) : List (List Nat) := (List.range R).map fun r => srtL st.length (choL w st W n (DnR w st W n r))
theorem told_len {R : Nat} : (toldR w st W n R).length = R := by unfold toldR; rw [List.length_map, List.length_range]
theorem told_succ (R : Nat) : toldR w st W n (R + 1) = toldR w st W n R ++ [srtL st.length (choL w st W n (DnR w st W n R))] := by
  unfold toldR
  rw [List.range_succ, List.map_append]; rfl
noncomputable def waitL (w : Nat) (st : List (Nat × Nat)) (W : List Nat) (n r : Nat) (U : List Nat) : List Nat := U.filter fun k => !DnR w st W n r k
theorem wait_mem {r k : Nat} {U : List Nat} : k ∈ waitL w st W n r U ↔ k ∈ U ∧ DnR w st W n r k = false := by
  unfold waitL
  rw [List.mem_filter]
  simp
theorem wait_0 (U : List Nat) : waitL w st W n 0 U = U := List.filter_eq_self.mpr fun _ _ => rfl
theorem dn_next {r k : Nat} : DnR w st W n (r + 1) k = (DnR w st W n r k || (choL w st W n (DnR w st W n r)).contains k) := rfl
theorem wait_next (r : Nat) (U : List Nat) : (waitL w st W n r U).filter (fun k => !DnR w st W n (r + 1) k) = waitL w st W n (r + 1) U := by
  unfold waitL
  rw [List.filter_filter]
  refine List.filter_congr fun k _ => ?_
  rw [dn_next]
  cases DnR w st W n r k <;> simp
theorem left_next (r : Nat) (U : List Nat) : (waitL w st W n r U).filter (fun k => !(choL w st W n (DnR w st W n r)).contains k) = waitL w st W n (r + 1) U := by
  unfold waitL
  rw [List.filter_filter]
  refine List.filter_congr fun k _ => ?_
  rw [dn_next]
  cases DnR w st W n r k <;> simp
theorem rdy_wait (r : Nat) (U : List Nat) : (waitL w st W n r U).filter (redy w st (DnR w st W n r)) = rdyL w st U (DnR w st W n r) := by
  unfold waitL rdyL
  rw [List.filter_filter]
  refine List.filter_congr fun k _ => ?_
  rw [Bool.and_comm]
theorem wait_nil {r : Nat} {U : List Nat} (hU : ∀ k, k < st.length → k ∈ U) (h : waitL w st W n r U = []) : ∀ k, k < st.length → DnR w st W n r k = true := fun k hk => by
  cases e : DnR w st W n r k with
  | true => rfl
  | false => have := wait_mem.mpr ⟨hU k hk, e⟩; rw [h] at this; cases this
theorem wait_some {r : Nat} {U : List Nat} (hU : ∀ k ∈ U, k < st.length) (h : waitL w st W n r U ≠ []) : ∃ k, k < st.length ∧ DnR w st W n r k = false := by
  rcases e : waitL w st W n r U with _ | ⟨k, l⟩
  · exact absurd e h
  · have : k ∈ waitL w st W n r U := by rw [e]; exact List.mem_cons_self ..
    have := wait_mem.mp this
    exact ⟨k, hU k this.1, this.2⟩
variable (hs : ∀ k p, st[k]? = some p → p.1 < w + k ∧ p.2 < w + k) (hW : W.Perm (List.range st.length))
include hW
theorem rdy_perm (dn : Nat → Bool) : (rdyL w st W dn).Perm (rdyL w st (List.range st.length) dn) := hW.filter _
omit hW in
theorem rdy_up (dn : Nat → Bool) : (rdyL w st (List.range st.length) dn).Pairwise (· < ·) := List.pairwise_lt_range.filter _
omit hW in
theorem rdy_rk {rk : Nat → Int} (h : W.Pairwise fun x y => rk x < rk y) (dn : Nat → Bool) : (rdyL w st W dn).Pairwise fun x y => rk x < rk y := h.filter _
theorem cho_nd (dn : Nat → Bool) : (choL w st W n dn).Nodup := ((W_nd hW).filter _).sublist (List.take_sublist _ _)
theorem cho_lt (dn : Nat → Bool) : ∀ k ∈ choL w st W n dn, k < st.length := fun k hk => W_lt hW k (cho_mem hk).1
theorem round_lt {r : Nat} (hs : ∀ k p, st[k]? = some p → p.1 < w + k ∧ p.2 < w + k) (hn : 1 ≤ n) (h : ∀ i, i ≤ r → ∃ k, k < st.length ∧ DnR w st W n i k = false) : r < st.length := by
  have h1 := cnt_least hs hW hn (r + 1) fun i hi => h i (by omega)
  have h2 := cnt_le (L := st.length) (dn := DnR w st W n (r + 1))
  omega
theorem end_few {R few : Nat} (h : EndR w st W n R) (hf : ∀ m, st.length ≤ m * n → few ≤ m) : few ≤ R := by
  refine hf R ?_
  have h1 := cnt_most (w := w) (n := n) hW R
  rw [cnt_all h.1] at h1
  exact h1
theorem end_one {R : Nat} (hs : ∀ k p, st[k]? = some p → p.1 < w + k ∧ p.2 < w + k) (hn : 1 ≤ n) (h : EndR w st W n R) : R ≤ st.length := by
  have h1 := cnt_least hs hW hn R h.2
  have h2 := cnt_le (L := st.length) (dn := DnR w st W n R)
  omega
variable {d : Nat → Int} (d0 : ∀ v, v < w → d v = 0) (d1 : ∀ k, k < st.length → d (w + k) = 1 + max (d (st.getD k (0, 0)).1) (d (st.getD k (0, 0)).2))
include d0 d1
theorem end_deep {R : Nat} (h : EndR w st W n R) : ∀ v, v < w + st.length → d v ≤ (R : Nat) := fun v hv => by
  by_cases c : v < w
  · rw [d0 v c]; omega
  · have := deep_dn hW d0 d1 R (v - w) (h.1 (v - w) (by omega))
    rw [show w + (v - w) = v by omega] at this
    exact this
include hs
theorem end_wide {R : Nat} (hn : st.length ≤ n) (h : EndR w st W n R) {M : Int} (hM : ∀ v, v < w + st.length → d v ≤ M) (h0 : 0 ≤ M) : (R : Nat) ≤ M := by
  rcases R with _ | R
  · exact h0
  · obtain ⟨k, hk, e⟩ := h.2 R (by omega)
    have h1 := hM (w + k) (by omega)
    by_cases c : d (w + k) ≤ (R : Nat)
    · rw [dn_deep hs hW d0 d1 hn R k hk c] at e; cases e
    · omega
end
end NM

namespace L2
open PySem PySem.Spec PyProof.Rows NM
noncomputable def lamR : Str := (Str.ofString "rounds" ++ ".<locals>.") ++ "<lambda>"
noncomputable def chI (N : NetN) (k : Nat) : Nat := chF N.w N.st (N.w + k)
structure IsOrd (N : NetN) (W : List Nat) : Prop where
  pm : W.Perm (List.range N.st.length)
  pw : W.Pairwise fun i j => rkC (chI N) i < rkC (chI N) j
inductive LstsAt (H : Hp) (x y : Addr) : List V → List (List Nat) → Prop
  | nil : LstsAt H x y [] []
  | cons {p : Addr} {l : List Nat} {r : List V} {ls : List (List Nat)} : (H p = some (.lst (wordV l))) → (p ≠ x) → (p ≠ y) → LstsAt H x y r ls → LstsAt H x y (.ref p :: r) (l :: ls)
theorem LstsAt.keep {H H' : Hp} {x y : Addr} (k : ∀ p l, p ≠ x → p ≠ y → H p = some (.lst l) → H' p = some (.lst l)) : ∀ {r : List V} {ls : List (List Nat)}, LstsAt H x y r ls → LstsAt H' x y r ls
  | _, _, .nil => .nil
  | _, _, .cons h a b t => .cons (k _ _ a b h) a b (t.keep k)
theorem LstsAt.snoc {H : Hp} {x y p : Addr} {l : List Nat} (h : H p = some (.lst (wordV l))) (a : p ≠ x) (b : p ≠ y) : ∀ {r : List V} {ls : List (List Nat)}, LstsAt H x y r ls → LstsAt H x y (r ++ [.ref p]) (ls ++ [l])
  | _, _, .nil => .cons h a b .nil
  | _, _, .cons h' a' b' t => .cons h' a' b' (t.snoc h a b)
theorem LstsAt.length {H : Hp} {x y : Addr} : ∀ {r : List V} {ls : List (List Nat)}, LstsAt H x y r ls → r.length = ls.length
  | _, _, .nil => rfl
  | _, _, .cons _ _ _ t => by rw [List.length_cons, List.length_cons, t.length]
noncomputable def dLsts (ls : List (List Nat)) : Dt := .lst (ls.map fun l => .lst (l.map fun i => .int ((i : Nat) : Int)))
inductive spChains (vs : List V) (H : Hp) (Q : VK) (_e3 : XK) : Prop
  | mk : ∀ (a sa oa : Addr) (rs : List V) (N : NetN), (vs = [.ref a]) → (NetAt H a N.w N.steps N.outs sa oa rs) → (N.Ok) → (∀ (H' : Hp) (l : Addr), Same H H' → H' l = some (.lst (wordV ((List.range N.st.length).map (chI N)))) → Q (.ref l) H') → spChains vs H Q _e3
noncomputable def tellRounds (N : NetN) (k : Nat) (PT : Addr) (lp : Pos) (H : Hp) (Q : VK) : Prop :=
  N.st.length < 64 ∧ LamOk lamR lp PT H ∧ ∀ (H' : Hp) (l x y : Addr) (qs : List V) (W : List Nat) (R : Nat), SameB PT H H' → LamOk lamR lp PT H' → IsOrd N W → EndR N.w N.st W k R → H' l = some (.lst qs) → LstsAt H' x y qs (toldR N.w N.st W k R) → Q (.ref l) H'
noncomputable def tellFew (N : NetN) (k : Nat) (H : Hp) (Q : VK) : Prop :=
  ∀ (H' : Hp) (M : Int), Same H H' → M ∈ N.depths → (∀ a ∈ N.depths, a ≤ M) → Q (.int (if M > ((N.st.length : Int) + (k : Int) - 1) / (k : Int) then M else ((N.st.length : Int) + (k : Int) - 1) / (k : Int))) H'
inductive spWork (CB CK : Addr) (R : NetN → Nat → Hp → VK → Prop) (vs : List V) (H : Hp) (Q : VK) (E : XK) : Prop
  | mk : ∀ (n sa oa : Addr) (rs : List V) (wide : Int) (steps : List (List Int)) (outs : List Int) (wk : Int), (vs = [.ref n, .int wk]) → (outs.length ≤ 10000) → (NetAt H n wide steps outs sa oa rs) → (∀ H', Same H H' → ¬ Good wide steps outs → E (.ref CB) none H') → (∀ H', Same H H' → Good wide steps outs → ¬ (1 ≤ wk ∧ wk ≤ 64) → E (.ref CK) none H') →
      (∀ N : NetN, N.Ok → wide = N.w → steps = N.steps → outs = N.outs → ∀ k : Nat, wk = (k : Int) → 1 ≤ k → k ≤ 64 → R N k H Q) → spWork CB CK R vs H Q E
inductive spBehind (n : Nat) (vs : List V) (H : Hp) (Q : VK) (_e3 : XK) : Prop
  | mk : ∀ (a sa oa : Addr) (rs : List V) (N : NetN) (v : Nat), (vs = [.ref a, .int (v : Nat)]) → (NetAt H a N.w N.steps N.outs sa oa rs) → (N.Ok) → (chF N.w N.st v < n) → (∀ H', Same H H' → Q (.int (chF N.w N.st v : Nat)) H') → spBehind n vs H Q _e3
inductive spRoundsL (vs : List V) (H : Hp) (Q : VK) (_e3 : XK) : Prop
  | mk : ∀ (a sa oa : Addr) (rs : List V) (N : NetN) (k : Nat) (W : List Nat), (vs = [.ref a, .int (k : Nat)]) → (NetAt H a N.w N.steps N.outs sa oa rs) → (N.Ok) → (1 ≤ k) → (N.st.length < 30) → (IsOrd N W) → (∀ (H' : Hp) (l x y : Addr) (qs : List V) (R : Nat), Same H H' → EndR N.w N.st W k R → H' l = some (.lst qs) → LstsAt H' x y qs (toldR N.w N.st W k R) → Q (.ref l) H') → spRoundsL vs H Q _e3
inductive spToldR (PT : Addr) (lp : Pos) (vs : List V) (H : Hp) (Q : VK) (_e3 : XK) : Prop
  | mk : ∀ (way : Int) (n sa oa : Addr) (rs : List V) (wide : Int) (steps : List (List Int)) (outs : List Int) (wk : Int), (vs = [.int way, .ref n, .int wk]) → (way = 0 ∨ way = 1) → (outs.length ≤ 10000) → (NetAt H n wide steps outs sa oa rs) → (∀ H', Same H H' → ¬ Good wide steps outs → Q (.str (Str.ofString "net")) H') → (∀ H', Same H H' → Good wide steps outs → ¬ (1 ≤ wk ∧ wk ≤ 64) → Q (.str (Str.ofString "kind")) H') →
      (∀ N : NetN, N.Ok → wide = N.w → steps = N.steps → outs = N.outs → ∀ k : Nat, wk = (k : Int) → 1 ≤ k → k ≤ 64 → (way = 0 → tellRounds N k PT lp H Q) ∧ (way = 1 → tellFew N k H Q)) → spToldR PT lp vs H Q _e3
inductive spRefusalR (CB CK : Addr) (vs : List V) (H : Hp) (Q : VK) (_e3 : XK) : Prop
  | mk : ∀ (e C : Addr) (x : Str), (vs = [.ref e]) → (H e = some (excO e C)) → (C = CB ∧ x = Str.ofString "net" ∨ C = CK ∧ x = Str.ofString "kind") → (∀ H', Same H H' → Q (.str x) H') → spRefusalR CB CK vs H Q _e3
inductive spLawR (K : PySem.W.Frag) (PT : Addr) (lp : Pos) (vs : List V) (H : Hp) (Q : VK) (_e3 : XK) : Prop
  | mk : ∀ (a : Addr) (ns : List Int), (vs = [.ref a]) → (SqL K H a (ns.map V.int)) → (LamOk lamR lp PT H) → (∀ H', Q (.bl true) H') → spLawR K PT lp vs H Q _e3
theorem wordF_len {n : Nat} (f : Nat → Nat) : (wordV ((List.range n).map f)).length = n := by unfold wordV; simp
theorem wordF_at {n : Nat} (f : Nat → Nat) {k : Nat} (h : k < n) : atI (wordV ((List.range n).map f)) ((k : Nat) : Int) = some (.int ((f k : Nat) : Int)) := by
  unfold atI
  rw [wordF_len, ixN_nat h]
  show (wordV ((List.range n).map f))[k]? = _
  unfold wordV
  rw [List.getElem?_map, List.getElem?_map, List.getElem?_range h]; rfl
theorem wordF_set {n : Nat} (f : Nat → Nat) {k : Nat} (h : k < n) (x : Nat) : (wordV ((List.range n).map f)).set k (.int ((x : Nat) : Int)) = wordV ((List.range n).map fun v => if v = k then x else f v) := by
  refine List.ext_getElem? fun i => ?_
  unfold wordV
  rw [List.getElem?_set]
  by_cases e : k = i
  · subst e
    rw [if_pos rfl, if_pos (by simp; exact h), List.getElem?_map, List.getElem?_map, List.getElem?_range h]
    show _ = some (V.int (((if k = k then x else f k : Nat)) : Int))
    rw [if_pos rfl]
  · rw [if_neg e, List.getElem?_map, List.getElem?_map, List.getElem?_map, List.getElem?_map]
    cases q : (List.range n)[i]? with
    | none => rfl
    | some j =>
      have : j = i := by
        have := List.getElem?_eq_some_iff.mp q
        obtain ⟨a, b⟩ := this
        simpa using b.symm
      subst this
      show _ = some (V.int (((if j = k then x else f j : Nat)) : Int))
      rw [if_neg (Ne.symm e)]; rfl
noncomputable def blF (n : Nat) (f : Nat → Bool) : List V := ((List.range n).map f).map V.bl
theorem blF_len {n : Nat} (f : Nat → Bool) : (blF n f).length = n := by unfold blF; simp
theorem blF_at {n : Nat} (f : Nat → Bool) {k : Nat} (h : k < n) : atI (blF n f) ((k : Nat) : Int) = some (.bl (f k)) := by
  unfold atI
  rw [blF_len, ixN_nat h]
  show (blF n f)[k]? = _
  unfold blF
  rw [List.getElem?_map, List.getElem?_map, List.getElem?_range h]; rfl
theorem blF_set {n : Nat} (f : Nat → Bool) {k : Nat} (h : k < n) (x : Bool) : (blF n f).set k (.bl x) = blF n fun v => if v = k then x else f v := by
  refine List.ext_getElem? fun i => ?_
  unfold blF
  rw [List.getElem?_set]
  by_cases e : k = i
  · subst e
    rw [if_pos rfl, if_pos (by simp; exact h), List.getElem?_map, List.getElem?_map, List.getElem?_range h]
    show _ = some (V.bl (if k = k then x else f k))
    rw [if_pos rfl]
  · rw [if_neg e, List.getElem?_map, List.getElem?_map, List.getElem?_map, List.getElem?_map]
    cases q : (List.range n)[i]? with
    | none => rfl
    | some j =>
      have : j = i := by
        have := List.getElem?_eq_some_iff.mp q
        obtain ⟨a, b⟩ := this
        simpa using b.symm
      subst this
      show _ = some (V.bl (if j = k then x else f j))
      rw [if_neg (Ne.symm e)]; rfl
end L2
namespace L2
open PySem PySem.Spec PyProof.Rows NM
noncomputable def chIn (w : Nat) (st : List (Nat × Nat)) (i : Nat) (p : Nat × Nat) : Nat → Nat → Nat
  | 0, v => chs w st i v
  | 1, v => if v = p.1 then max (chs w st i v) (chs w st i (w + (st.length - 1 - i)) + 1) else chs w st i v
  | _, v => chs w st (i + 1) v
theorem chIn_one {w : Nat} {st : List (Nat × Nat)} {i : Nat} {p : Nat × Nat} : (fun v => if v = p.1 then max (chIn w st i p 0 v) (chIn w st i p 0 (w + (st.length - 1 - i)) + 1) else chIn w st i p 0 v) = chIn w st i p 1 := rfl
theorem chIn_two {w : Nat} {st : List (Nat × Nat)} {i : Nat} {p : Nat × Nat} (hp : st.getD (st.length - 1 - i) (0, 0) = p) (h1 : p.1 < w + (st.length - 1 - i)) : (fun v => if v = p.2 then max (chIn w st i p 1 v) (chIn w st i p 1 (w + (st.length - 1 - i)) + 1) else chIn w st i p 1 v) = chIn w st i p 2 := by
  funext v
  show _ = chs w st (i + 1) v
  have e : chs w st (i + 1) v = if v = p.1 ∨ v = p.2 then max (chs w st i v) (chs w st i (w + (st.length - 1 - i)) + 1) else chs w st i v := by
    show (if _ then _ else _) = _
    rw [hp]
  have e1 : chIn w st i p 1 (w + (st.length - 1 - i)) = chs w st i (w + (st.length - 1 - i)) := if_neg (by lia)
  rw [e, e1]
  show (if v = p.2 then max (if v = p.1 then _ else _) _ else (if v = p.1 then _ else _)) = _
  by_cases a : v = p.1
  · by_cases b : v = p.2
    · rw [if_pos b, if_pos a, if_pos (.inl a)]; lia
    · rw [if_neg b, if_pos a, if_pos (.inl a)]
  · by_cases b : v = p.2
    · rw [if_pos b, if_neg a, if_pos (.inr b)]
    · rw [if_neg b, if_neg a, if_neg (fun z => z.elim a b)]
end L2
namespace L2
open PySem PySem.Spec PyProof.Rows NM
theorem rep_word {w : Nat} {st : List (Nat × Nat)} {n : Nat} : (List.replicate n (0 : Int)).map V.int = wordV ((List.range n).map (chs w st 0)) := by
  unfold wordV
  rw [List.map_map, List.map_replicate]
  refine (List.eq_replicate_iff.mpr ⟨by simp, fun b hb => ?_⟩).symm
  obtain ⟨i, _, rfl⟩ := List.mem_map.mp hb
  rfl
theorem wordF_drop {w n : Nat} (f : Nat → Nat) : (wordV ((List.range (w + n)).map f)).drop w = wordV ((List.range n).map fun k => f (w + k)) := by
  refine List.ext_getElem? fun i => ?_
  unfold wordV
  rw [List.getElem?_drop, List.getElem?_map, List.getElem?_map, List.getElem?_map, List.getElem?_map]
  by_cases h : i < n
  · rw [List.getElem?_range (show w + i < w + n by lia), List.getElem?_range h]; rfl
  · rw [List.getElem?_eq_none (by simp; lia), List.getElem?_eq_none (by simp; lia)]; rfl
end L2

namespace L2
open PySem PySem.Spec PyProof.Rows NM
theorem wordV_get' {u : List Nat} {i : Nat} {x : V} (h : (wordV u)[i]? = some x) : ∃ k, u[i]? = some k ∧ x = .int ((k : Nat) : Int) := by
  unfold wordV at h
  rw [List.getElem?_map] at h
  obtain ⟨k, hk, rfl⟩ := Option.map_eq_some_iff.mp h
  exact ⟨k, hk, rfl⟩
theorem wordV_len' (u : List Nat) : (wordV u).length = u.length := by unfold wordV; simp
theorem comp_wfilter {K : PySem.W.Frag} {a : Addr} {u : List Nat} {g : Nat → Bool} {js : List Nat} {tt : TT} {σ : St} {H : Hp} {Fin : List V → Hp → Prop} (hl : H a = some (.lst (wordV u))) (hz : u.length ≤ 10000)
    (ht : ∀ k H', k ∈ u → Same H H' → ∀ Q : Bool → Hp → Prop, (∀ H'', Same H' H'' → Q (g k) H'') → tt (compSt (some (.int ((k : Nat) : Int))) σ js) H' Q) (hd : ∀ H', Same H H' → Fin (wordV (u.filter g)) H') : compGo (Itl K a) js (some tt) (tVar 0) σ H Fin := by
  refine comp_listIf (K := K) (a := a) (xs := wordV u) (fun i ys H' => Same H H' ∧ ys = wordV ((u.take i).filter g)) ⟨Same.refl _, rfl⟩ (fun i ys H' _ h => SqL.of (h.1 _ _ hl)) (fun i ys H' _ h => ?_) ?_ ?_
  · rw [h.2, wordV_len']
    have h1 := List.length_filter_le g (u.take i)
    rw [List.length_take] at h1
    rw [sizeLine_eq]; lia
  · rintro i x ys H' T T0 hx ⟨s, rfl⟩ k1 k0
    obtain ⟨k, hk, rfl⟩ := wordV_get' hx
    refine ht k H' (List.mem_of_getElem? hk) s _ fun H'' s2 => ?_
    cases e : g k with
    | true =>
      rw [if_pos rfl]
      refine k1 _ _ ⟨s.trans s2, ?_⟩
      rw [List.take_succ, hk, List.filter_append]
      show _ = wordV (_ ++ [k].filter g)
      rw [List.filter_cons, if_pos e]
      unfold wordV
      rw [List.map_append]; rfl
    | false =>
      rw [if_neg (by decide)]
      refine k0 _ ⟨s.trans s2, ?_⟩
      rw [List.take_succ, hk, List.filter_append]
      show _ = wordV (_ ++ [k].filter g)
      rw [List.filter_cons, if_neg (by rw [e]; decide), List.filter_nil, List.append_nil]
  · rintro ys H' ⟨s, rfl⟩
    rw [wordV_len', List.take_length]
    exact hd H' s
theorem rk_eq {N : NetN} {i : Nat} (h : i < N.st.length) : rkK ((List.range N.st.length).map fun k => -(chI N k : Int)) i = rkC (chI N) i := by
  unfold rkK rkC
  rw [List.getD_eq_getElem?_getD, List.getElem?_map, List.getElem?_range h]
  show -(chI N i : Int) * 64 + _ = _
  lia
theorem ord_of {N : NetN} {π : List Nat} (pm : π.Perm (List.range N.st.length)) (pw : π.Pairwise fun i j => rkK ((List.range N.st.length).map fun k => -(chI N k : Int)) i < rkK ((List.range N.st.length).map fun k => -(chI N k : Int)) j) : IsOrd N π := by
  refine ⟨pm, pw.imp_of_mem fun {i j} hi hj h => ?_⟩
  rw [rk_eq (List.mem_range.mp (pm.mem_iff.mp hi)), rk_eq (List.mem_range.mp (pm.mem_iff.mp hj))] at h
  exact h
noncomputable def thF (w : Nat) (dn : Nat → Bool) (v : Nat) : Bool := decide (v < w) || dn (v - w)
theorem there0 {w n : Nat} : (List.replicate w true).map V.bl ++ (List.replicate n false).map V.bl = blF (w + n) (thF w fun _ => false) := by
  unfold blF
  refine List.ext_getElem? fun i => ?_
  rw [List.getElem?_map, List.getElem?_map]
  by_cases h : i < w
  · rw [List.getElem?_append_left (by simp; exact h), List.getElem?_map, List.getElem?_replicate, if_pos h, List.getElem?_range (by lia)]
    show _ = some (V.bl (thF w _ i))
    unfold thF
    rw [decide_eq_true h]; rfl
  · rw [List.getElem?_append_right (by simp; lia), List.length_map, List.length_replicate, List.getElem?_map, List.getElem?_replicate]
    by_cases h2 : i < w + n
    · rw [if_pos (by lia), List.getElem?_range h2]
      show _ = some (V.bl (thF w _ i))
      unfold thF
      rw [decide_eq_false h]; rfl
    · rw [if_neg (by lia), List.getElem?_eq_none (by simp; lia)]; rfl
theorem redy_th {w : Nat} {st : List (Nat × Nat)} {dn : Nat → Bool} {k : Nat} {p : Nat × Nat} (h : st[k]? = some p) : redy w st dn k = (thF w dn p.1 && thF w dn p.2) := by
  unfold redy thF
  rw [List.getD_eq_getElem?_getD, h]; rfl
end L2

namespace L2
open PySem PySem.Spec PyProof.Rows NM
theorem th_set {w k : Nat} {dn : Nat → Bool} : (fun v => if v = w + k then true else thF w dn v) = thF w (fun j => dn j || decide (j = k)) := by
  funext v
  show _ = (decide (v < w) || (dn (v - w) || decide (v - w = k)))
  show (if v = w + k then true else (decide (v < w) || dn (v - w))) = _
  by_cases h : v = w + k
  · rw [if_pos h, decide_eq_true (show v - w = k by lia)]
    simp
  · rw [if_neg h]
    by_cases h2 : v < w
    · rw [decide_eq_true h2]; simp
    · rw [decide_eq_false (show ¬ v - w = k by lia), Bool.or_false]
theorem th_take {w i k : Nat} {S : List Nat} {dn : Nat → Bool} (h : S[i]? = some k) : (fun v => if v = w + k then true else thF w (fun j => dn j || (S.take i).contains j) v) = thF w (fun j => dn j || (S.take (i + 1)).contains j) := by
  rw [th_set]
  congr 1
  funext j
  rw [List.take_succ, h]
  show _ = (dn j || (S.take i ++ [k]).contains j)
  rw [Bool.or_assoc]
  congr 1
  rw [Bool.eq_iff_iff]
  simp only [Bool.or_eq_true, List.contains_iff_mem, List.mem_append, List.mem_singleton, decide_eq_true_eq]
theorem th_dn {N : NetN} {W : List Nat} {n r : Nat} (hW : W.Perm (List.range N.st.length)) : (fun j => DnR N.w N.st W n r j || (srtL N.st.length (choL N.w N.st W n (DnR N.w N.st W n r))).contains j) = DnR N.w N.st W n (r + 1) := by
  funext j
  rw [dn_next]
  congr 1
  rw [Bool.eq_iff_iff, List.contains_iff_mem, List.contains_iff_mem, srt_mem]
  exact ⟨fun h => h.2, fun h => ⟨cho_lt hW _ j h, h⟩⟩
theorem wordV_ints (u : List Nat) : wordV u = (u.map Int.ofNat).map V.int := by
  unfold wordV
  rw [List.map_map]; rfl
theorem th_wait {w k : Nat} {dn : Nat → Bool} : thF w dn (w + k) = dn k := by
  unfold thF
  rw [decide_eq_false (show ¬ w + k < w by lia), show w + k - w = k by lia]; rfl
end L2
namespace L2
open PySem PySem.Spec PyProof.Rows NM
theorem inV_two (v a b : Nat) : inV (.int ((v : Nat) : Int)) [.int ((a : Nat) : Int), .int ((b : Nat) : Int)] = decide (v = a ∨ v = b) := by
  show (((a : Int) == (v : Int)) || (((b : Int) == (v : Int)) || false)) = _
  rw [Bool.or_false, Bool.eq_iff_iff, Bool.or_eq_true, beq_iff_eq, beq_iff_eq, decide_eq_true_eq]
  constructor
  · rintro (h | h)
    · exact .inl (by lia)
    · exact .inr (by lia)
  · rintro (h | h)
    · exact .inl (by lia)
    · exact .inr (by lia)
end L2
namespace L2
open PySem PySem.Spec PyProof.Rows NM
theorem inV_word (v : Int) (u : List Nat) : inV (.int v) (wordV u) = decide (∃ k ∈ u, v = (k : Int)) := by
  unfold inV wordV
  rw [List.any_map, Bool.eq_iff_iff, List.any_eq_true, decide_eq_true_eq]
  constructor
  · rintro ⟨k, hk, e⟩
    have e : ((k : Int) == v) = true := e
    exact ⟨k, hk, (by simpa using e : (k : Int) = v).symm⟩
  · rintro ⟨k, hk, e⟩
    refine ⟨k, hk, ?_⟩
    show ((k : Int) == v) = true
    rw [e]; simp
theorem flat_word (u : List Nat) : (wordV u).all flatV = true := by
  unfold wordV
  rw [List.all_map, List.all_eq_true]
  intro k _
  rfl
theorem left_th {N : NetN} {W : List Nat} {n r v : Nat} (hv : v < N.w + N.st.length) : inV (.int ((v : Int) - (N.w : Int))) (wordV (waitL N.w N.st W n r (List.range N.st.length))) = !thF N.w (DnR N.w N.st W n r) v := by
  rw [inV_word]
  unfold thF
  by_cases h : v < N.w
  · rw [decide_eq_true h]
    refine decide_eq_false ?_
    rintro ⟨k, _, e⟩
    lia
  · rw [decide_eq_false h, Bool.false_or]
    cases e : DnR N.w N.st W n r (v - N.w) with
    | true =>
      refine decide_eq_false ?_
      rintro ⟨k, hk, e2⟩
      have hk := wait_mem.mp hk
      rw [show v - N.w = k by lia, hk.2] at e
      cases e
    | false =>
      refine decide_eq_true ⟨v - N.w, wait_mem.mpr ⟨List.mem_range.mpr (by lia), e⟩, by lia⟩
end L2
namespace L2
open PySem PySem.Spec PyProof.Rows NM
theorem erase_filter {R : List Nat} {j b : Nat} (nd : R.Nodup) (h : R[j]? = some b) : R.eraseIdx j = R.filter fun k => !(k == b) := by
  induction R generalizing j with
  | nil => cases h
  | cons x r ih =>
    have nd' := List.nodup_cons.mp nd
    cases j with
    | zero =>
      obtain rfl : x = b := Option.some.inj h
      rw [List.filter_cons, if_neg (by simp)]
      show r = _
      refine (List.filter_eq_self.mpr fun k hk => ?_).symm
      have : k ≠ x := fun z => nd'.1 (z ▸ hk)
      simpa using this
    | succ j =>
      have hb : b ∈ r := List.mem_of_getElem? (show r[j]? = some b from h)
      have : x ≠ b := fun z => nd'.1 (z ▸ hb)
      rw [List.filter_cons, if_pos (by simpa using this)]
      show x :: r.eraseIdx j = _
      rw [ih nd'.2 h]
theorem rem_0 (A B : List Nat) : remL A B 0 = A := List.filter_eq_self.mpr fun k _ => by simp
theorem inV_cont (k : Nat) (u : List Nat) : inV (.int ((k : Nat) : Int)) (wordV u) = u.contains k := by
  rw [inV_word, Bool.eq_iff_iff, decide_eq_true_eq, List.contains_iff_mem]
  constructor
  · rintro ⟨j, hj, e⟩
    rw [show k = j by lia]; exact hj
  · intro h
    exact ⟨k, h, rfl⟩
end L2

namespace L2
open PySem PySem.Spec PyProof.Rows NM
theorem absorb {H : Hp} {G : Prop} {R : Addr → Hp → Prop} (use : (∀ (H5 : Hp) (n sa oa : Addr) (rs : List V) (N : NetN), Same H H5 → NetAt H5 n N.w N.steps N.outs sa oa rs → N.Ok → N.st.length < 30 → R n H5) → G)
    (tail : ∀ (H5 : Hp) (n sa oa : Addr) (rs : List V) (N : NetN), Same H H5 → NetAt H5 n N.w N.steps N.outs sa oa rs → N.Ok → N.st.length < 30 → R n H5) : G := use tail
theorem known_short : ∀ k, k < 4 → ∀ w, w < 8 → (knownN k w).st.length < 30 := by decide +kernel
theorem wordIx_lt {x : Str} (h : x ∈ kwords) : wordIx x < 4 := by
  have := List.idxOf_lt_length_of_mem h
  exact this
end L2
namespace L2
open PySem PySem.Spec PyProof.Rows NM
theorem deep_words {K : PySem.W.Frag} {H : Hp} : ∀ (u : List Nat), Deeps K H (u.map fun i => Dt.int ((i : Nat) : Int)) (wordV u)
  | [] => rfl
  | i :: r => ⟨.int ((i : Nat) : Int), wordV r, rfl, rfl, deep_words r⟩
theorem deeps_lsts {K : PySem.W.Frag} {H : Hp} {x y : Addr} : ∀ {qs : List V} {ls : List (List Nat)}, LstsAt H x y qs ls → Deeps K H (ls.map fun l => Dt.lst (l.map fun i => Dt.int ((i : Nat) : Int))) qs
  | _, _, .nil => rfl
  | _, _, .cons (p := p) (l := l) (r := r) h _ _ t => ⟨.ref p, r, rfl, ⟨p, wordV l, rfl, SqL.of h, deep_words l⟩, deeps_lsts t⟩
theorem deep_lsts {K : PySem.W.Frag} {H : Hp} {l x y : Addr} {qs : List V} {ls : List (List Nat)} (h : H l = some (.lst qs)) (t : LstsAt H x y qs ls) : Deep K H (dLsts ls) (.ref l) := ⟨l, qs, rfl, SqL.of h, deeps_lsts t⟩
theorem dps_word : ∀ u : List Nat, Dt.dps (u.map fun i => Dt.int ((i : Nat) : Int)) = 0
  | [] => rfl
  | n :: r => by simp only [List.map_cons, Dt.dps, Dt.dp, dps_word r]; rfl
theorem dps_lsts : ∀ ls : List (List Nat), Dt.dps (ls.map fun l => Dt.lst (l.map fun i => Dt.int ((i : Nat) : Int))) ≤ 1
  | [] => Nat.zero_le _
  | l :: r => by
    have := dps_lsts r
    simp only [List.map_cons, Dt.dps, Dt.dp, dps_word l]
    lia
theorem dp_lsts {ls : List (List Nat)} : (dLsts ls).dp ≤ 8 := by
  have := dps_lsts ls
  simp only [dLsts, Dt.dp]
  lia
theorem dep_len (N : NetN) : N.depths.length = N.w + N.st.length := by
  unfold NetN.depths
  rw [len_foldl_dstep, List.length_replicate]
theorem depTo_get (N : NetN) : ∀ i v, i ≤ N.st.length → v < N.w + i → N.depths.getD v 0 = (N.depthsTo i).getD v 0 := by
  have step : ∀ i v, i < N.st.length → v < N.w + i → (N.depthsTo (i + 1)).getD v 0 = (N.depthsTo i).getD v 0 := fun i v hi hv => by
    obtain ⟨p, hp⟩ : ∃ p, N.st[i]? = some p := ⟨_, List.getElem?_eq_getElem hi⟩
    have hl := N.depthsTo_len i
    rw [List.length_take, Nat.min_eq_left (by lia)] at hl
    rw [N.depthsTo_succ hp, dstep, List.getD_eq_getElem?_getD, List.getElem?_append_left (by lia), List.getD_eq_getElem?_getD]
  intro i v hi hv
  obtain ⟨d, hd⟩ : ∃ d, i + d = N.st.length := ⟨N.st.length - i, by lia⟩
  induction d generalizing i with
  | zero => rw [show i = N.st.length by lia, N.depthsTo_all]
  | succ d ih => rw [ih (i + 1) (by lia) (by lia) (by lia), step i v (by lia) hv]
theorem dep_0 (N : NetN) {v : Nat} (h : v < N.w) : N.depths.getD v 0 = 0 := by
  rw [depTo_get N 0 v (Nat.zero_le _) (by lia), N.depthsTo_zero, List.getD_eq_getElem?_getD, List.getElem?_replicate, if_pos h]; rfl
theorem dep_1 {N : NetN} (hN : N.Ok) {k : Nat} (h : k < N.st.length) : N.depths.getD (N.w + k) 0 = 1 + max (N.depths.getD (N.st.getD k (0, 0)).1 0) (N.depths.getD (N.st.getD k (0, 0)).2 0) := by
  obtain ⟨p, hp⟩ : ∃ p, N.st[k]? = some p := ⟨_, List.getElem?_eq_getElem h⟩
  have hD : N.st.getD k (0, 0) = p := by rw [List.getD_eq_getElem?_getD, hp]; rfl
  obtain ⟨p1, p2⟩ := hN.s1 k p hp
  have hl := N.depthsTo_len k
  rw [List.length_take, Nat.min_eq_left (by lia)] at hl
  rw [depTo_get N (k + 1) (N.w + k) (by lia) (by lia), hD, depTo_get N k p.1 (by lia) p1, depTo_get N k p.2 (by lia) p2, N.depthsTo_succ hp, dstep, List.getD_eq_getElem?_getD, List.getElem?_append_right (by lia), hl, Nat.sub_self]
  show 1 + deeper _ _ = _
  unfold deeper
  split <;> lia
theorem rounds_few {N : NetN} (hN : N.Ok) {W : List Nat} {kn R : Nat} (hO : IsOrd N W) (k1 : 1 ≤ kn) (hL : N.st.length < 64) (hE : EndR N.w N.st W kn R) {M few : Int} (hM : M ∈ N.depths) (hb : ∀ a ∈ N.depths, a ≤ M) (hf : few = ((N.st.length : Int) + (kn : Int) - 1) / (kn : Int)) :
    (if M > few then M else few) ≤ (R : Int) ∧ (kn = 1 ∨ kn = 64 → (R : Int) = if M > few then M else few) := by
  have mem : ∀ v, v < N.w + N.st.length → N.depths.getD v 0 ∈ N.depths := fun v hv => by
    rw [List.getD_eq_getElem?_getD, List.getElem?_eq_getElem (by rw [dep_len]; exact hv)]
    exact List.getElem_mem _
  have e1 := end_deep (d := fun v => N.depths.getD v 0) hO.pm (fun v hv => dep_0 N hv) (fun k hk => dep_1 hN hk) hE
  have hMR : M ≤ (R : Int) := by
    obtain ⟨v, hv⟩ := List.getElem?_of_mem hM
    have hl := (List.getElem?_eq_some_iff.mp hv).1
    rw [dep_len] at hl
    have := e1 v hl
    have e : N.depths.getD v 0 = M := by rw [List.getD_eq_getElem?_getD, hv]; rfl
    have this : N.depths.getD v 0 ≤ (R : Int) := this
    lia
  have h0 : (0 : Int) ≤ M := by
    have := hb _ (mem 0 (by have := hN.lo; lia))
    rw [dep_0 N (by have := hN.lo; lia)] at this
    exact this
  have hfn : few = (((N.st.length + kn - 1) / kn : Nat) : Int) := by
    rw [hf, Int.natCast_ediv]
    congr 1
    lia
  have hfR : (N.st.length + kn - 1) / kn ≤ R := end_few hO.pm hE fun m hm => by
    rw [Nat.div_le_iff_le_mul_add_pred (by lia), Nat.mul_comm]
    lia
  refine ⟨by rw [hfn]; split <;> lia, fun h => ?_⟩
  rcases h with rfl | rfl
  · have := end_one hO.pm hN.s1 (Nat.le_refl 1) hE
    rw [Nat.div_one] at hfn hfR
    rw [hfn]
    split <;> lia
  · have := end_wide (d := fun v => N.depths.getD v 0) hN.s1 hO.pm (fun v hv => dep_0 N hv) (fun k hk => dep_1 hN hk) (by lia) hE (fun v hv => hb _ (mem v hv)) h0
    rw [hfn]
    split <;> lia
theorem pick5 {α : Type} {a b c d e : α} {i : Int} (h0 : 0 ≤ i) (h1 : i < 5) {R : α → Prop} (ha : R a) (hb : R b) (hc : R c) (hd : R d) (he : R e) : ∃ z, atI [a, b, c, d, e] i = some z ∧ R z := by
  have : i = 0 ∨ i = 1 ∨ i = 2 ∨ i = 3 ∨ i = 4 := by lia
  rcases this with rfl | rfl | rfl | rfl | rfl
  · exact ⟨a, rfl, ha⟩
  · exact ⟨b, rfl, hb⟩
  · exact ⟨c, rfl, hc⟩
  · exact ⟨d, rfl, hd⟩
  · exact ⟨e, rfl, he⟩
theorem few_stop {L kn f : Nat} (k1 : 1 ≤ kn) (hf : f ≤ (L + kn - 1) / kn) (h : ¬ f * kn < L) : f = (L + kn - 1) / kn := by
  have : (L + kn - 1) / kn ≤ f := by
    rw [Nat.div_le_iff_le_mul_add_pred (by lia), Nat.mul_comm]
    lia
  lia
theorem few_go {L kn f : Nat} (k1 : 1 ≤ kn) (h : f * kn < L) : f + 1 ≤ (L + kn - 1) / kn := by
  rw [Nat.le_div_iff_mul_le (by lia), Nat.add_mul, Nat.one_mul]
  lia
end L2
namespace L2
open PySem PySem.Spec PyProof.Rows NM
theorem both {G R : Prop} (use : R → G) (tail : R) : G := use tail
theorem fewI {L k : Nat} (h : 1 ≤ k) : (((L + k - 1) / k : Nat) : Int) = ((L : Int) + (k : Int) - 1) / (k : Int) := by
  rw [Int.natCast_ediv]
  congr 1
  lia
end L2

namespace K42
open PySem L2 NM PyProof.Rows
noncomputable def top (i : Nat) : Stmt := PySem.Challenge.pw_sumspan_k42_whole_rounds.main.body.getD i (.Pass ⟨0, 0, 0, 0⟩)
structure Txt (K : PySem.W.Frag) (mg : Str → Option Value) (CB CK CR CT CW CS DM FL FH FT FU : Addr) (P : Program) (w : World) : Prop where
  x_BadNet : ExC K mg "BadNet" CB
  g_BadNet : mg "BadNet" = some (.ref CB)
  x_BadKind : ExC K mg "BadKind" CK
  g_BadKind : mg "BadKind" = some (.ref CK)
  g_BadRow : mg "BadRow" = some (.ref CR)
  g_BadText : mg "BadText" = some (.ref CT)
  g_Wrong : mg "Wrong" = some (.ref CW)
  g_SumError : mg "SumError" = some (.ref CS)
  q_BadNet : Kd5 K CB CK CB CR CT CW false true false false false
  q_BadKind : Kd5 K CK CK CB CR CT CW true false false false false
  m_BadNet : PySem.W.exmOne K (.ref CB) (.ref CS) = some true
  m_BadKind : PySem.W.exmOne K (.ref CK) (.ref CS) = some true
  z_ValueError : mg "ValueError" = none
  g_MOST_THINGS : ∃ t, mg "MOST_THINGS" = some (.int 64 t)
  g_MOST_STEPS : ∃ t, mg "MOST_STEPS" = some (.int 500 t)
  g_MOST_WORKERS : ∃ t, mg "MOST_WORKERS" = some (.int 64 t)
  g_MAKERS : mg "MAKERS" = some (.ref DM)
  k_MAKERS : KDict P w K DM [(Sum.inr "line", .ref FL), (Sum.inr "halves", .ref FH), (Sum.inr "strides", .ref FT), (Sum.inr "updown", .ref FU)]
  g_line_outs : mg "line_outs" = some (.ref FL)
  g_halves_outs : mg "halves_outs" = some (.ref FH)
  g_strides_outs : mg "strides_outs" = some (.ref FT)
  g_updown_outs : mg "updown_outs" = some (.ref FU)
  z_isinstance : mg "isinstance" = none
  z_int : mg "int" = none
  z_bool : mg "bool" = none
  z_tuple : mg "tuple" = none
  z_list : mg "list" = none
  z_len : mg "len" = none
  z_max : mg "max" = none
  z_range : mg "range" = none
  z_enumerate : mg "enumerate" = none
  z_sorted : mg "sorted" = none
  z_any : mg "any" = none
section
variable {P : Program} {w : World} {K : PySem.W.Frag} {mg : Str → Option Value} {base : Heap} {CB CK CR CT CW CS DM FL FH FT FU PT : Addr}
noncomputable abbrev s_add_step : Stmt := top 21
theorem sc_add_step : FnScope ["wide", "steps", "one", "other"] ["wide", "steps", "one", "other"] (defScope s_add_step) := ⟨rfl, rfl, rfl, by decide +kernel, rfl, by decide +kernel, by decide +kernel⟩
theorem ok_add_step {f : Addr} {fd : FuncData} (F : Fun K "add_step" "add_step" s_add_step f fd) (T : Txt K mg CB CK CR CT CW CS DM FL FH FT FU P w)  : FnOk P w K mg base (CX1 P w) 1 f fd ["wide", "steps", "one", "other"] (spAdd) := by
  refine F.ok1 sc_add_step (fun vs H Q E h => ?_) (fun cdv A outer s H vs Q E hr h => ?_)
  · obtain ⟨w, a, b, sa, st, rfl, S, hl, q⟩ := h; rfl
  · obtain ⟨w, a, b, sa, st, rfl, S, hl, q⟩ := h
    have nd := sc_add_step.nd
    refine ⟨_, (pss_cons (ps_expr (pe_bm PySem.F.plainAttrs_list PySem.F.slot_list_append PySem.F.type_list_append mt_append (pv 1) (pa_cons (pe_tup (pa_cons (pv 2) (pa_cons (pv 3) pa_nil))) pa_nil)))
       (pss_one (ps_ret (pe_op op_sub (pe_op op_add (pv 0) (pe_callB call_len_seq rfl T.z_len boot_len (pa_cons (pv 1) pa_nil))) pe_int)))), ?_⟩
    skip
    refine L2.ob_ea S.ex fun rs h1 h2 => ?_
    have hrl := h2.length
    rw [List.length_map] at hrl
    refine ⟨.inl ⟨rfl, _, SqL.of h1⟩, (show 2 ≤ sizeLine by decide), fun t ht => ?_⟩
    refine ⟨sa, _, _, rfl, rfl, new_at ht h1, fitsL (by lia), ?_⟩
    have S2 := StAt.put (t := t) (a := a) (b := b) (new_at ht h1) (h2.mono (Same.new ht)) upd_same
    refine ⟨_, _, rfl, .inl (SqL.of upd_same), ?_⟩
    have ev : (w : Int) + ((rs ++ [V.ref t]).length : Int) - 1 = ((w + st.length : Nat) : Int) := by
      rw [List.length_append, List.length_singleton]; lia
    dsimp only [rI0, onI, tC]
    rw [ev]
    exact q _ ((Bt.same (Same.new ht)).trans Bt.sa) S2
noncomputable abbrev s_line_outs : Stmt := top 28
theorem sc_line_outs : FnScope ["wide", "steps", "nodes", "outs", "node"] ["wide", "steps", "nodes"] (defScope s_line_outs) := ⟨rfl, rfl, rfl, by decide +kernel, rfl, by decide +kernel, by decide +kernel⟩
inductive Iv_line_outs_0 (H : Hp) (w : Nat) (sa : Addr) (na : Addr) (st : List (Nat × Nat)) (ns : List Nat) (oa : Addr) (p : Addr) (L : Nat → SO) (j : Nat) (σ3 : L2.St) (H3 : Hp) : Prop
  | mk : ∀ (v4 : Option V), (σ3 = [some (.int (w : Nat)), some (.ref sa), some (.ref na), some (.ref oa), v4]) → (Bt sa H H3) → (StAt H3 sa (L j).1) → (H3 oa = some (.lst (wordV (L j).2))) → (H3 p = some (.lst (wordV (ns.drop 1)))) → ((L j).2.length = j + 1) → ((L j).1.length = st.length + j) → Iv_line_outs_0 H w sa na st ns oa p L j σ3 H3
theorem ok_line_outs {f : Addr} {fd : FuncData} (F : Fun K "line_outs" "line_outs" s_line_outs f fd) (T : Txt K mg CB CK CR CT CW CS DM FL FH FT FU P w) (d_add_step : Df P w K mg base "add_step" 1 ["wide", "steps", "one", "other"] (spAdd)) : FnOk P w K mg base (CX1 P w) 11 f fd ["wide", "steps", "nodes"] (spMk lineN (fun st ns => st.length ≤ 4000)) := by
  refine F.ok1 sc_line_outs (fun vs H Q E h => ?_) (fun cdv A outer s H vs Q E hr h => ?_)
  · obtain ⟨w, sa, na, st, ns, rfl, S, hn, nsa, ne, nl, sl, q⟩ := h; rfl
  · obtain ⟨w, sa, na, st, ns, rfl, S, hn, nsa, ne, nl, sl, q⟩ := h
    have nd := sc_line_outs.nd
    refine ⟨_, (pss_cons (ps_set (i := 3) nd rfl (Or.inl rfl) (pe_slice sl_list (pv 2) po_none (po_some pe_int)))
       (pss_cons (ps_for powns1 rfl (pi_list (pe_slice sl_list (pv 2) (po_some pe_int) po_none)) (pg_name (i := 4) nd rfl (Or.inl rfl))
       (pss_one (ps_expr (pe_bm PySem.F.plainAttrs_list PySem.F.slot_list_append PySem.F.type_list_append mt_append (pv 3) (pa_cons (pe_own d_add_step (hr.mono (by first | decide | lia)) rfl pass1 (pa_cons (pv 0) (pa_cons (pv 1) (pa_cons (pe_ix ix_list (pv 3) (pe_un un_neg pe_int) (fun _ _ => rfl)) (pa_cons (pv 4) pa_nil))))) pa_nil)))))
       (pss_one (ps_ret (pv 3))))), ?_⟩
    skip
    have hpos : 0 < ns.length := List.length_pos_iff.mpr ne
    refine ⟨na, _, rfl, SqL.of hn, fun oa g1 => ?_⟩
    rw [show cutV (wordV ns) none (some 1) = wordV (ns.take 1) from (cutL_take (wordV ns) 1).trans (wordV_take ns 1)]
    have oas : oa ≠ sa := fun e => by obtain ⟨rs, h1, _⟩ := S.ex; rw [e, h1] at g1; exact L2.sn_ g1
    refine ⟨na, _, rfl, SqL.of (new_at g1 hn), fun p g2 => ?_⟩
    rw [show cutV (wordV ns) (some 1) none = wordV (ns.drop 1) from (cutL_drop (wordV ns) 1).trans (wordV_drop ns 1)]
    have f2 : H p = none := (Same.new g1).free g2
    have npo : p ≠ oa := fun z => by rw [z, upd_same] at g2; exact L2.sn_ g2
    have ps : p ≠ sa := fun e => by obtain ⟨rs, h1, _⟩ := S.ex; rw [e, h1] at f2; exact L2.sn_ f2
    let L : Nat → SO := fun j => ((ns.drop 1).take j).foldl (lineF w) (st, ns.take 1)
    have s0 : Same H (upd (upd H oa (.lst (wordV (ns.take 1)))) p (.lst (wordV (ns.drop 1)))) := (Same.new g1).trans (Same.new g2)
    refine ⟨p, rfl, ⟨_, SqL.of upd_same⟩, for_list (K := K) (a := p) (xs := wordV (ns.drop 1)) (Iv_line_outs_0 H w sa na st ns oa p L)
      ⟨_, rfl, Bt.same s0, S.mono s0, new_at g2 upd_same, upd_same, by show (ns.take 1).length = _; rw [List.length_take]; lia, rfl⟩ (fun j σ3 H3 _ ⟨_, _, _, _, _, hp, _, _⟩ => SqL.of hp) ?_ ?_⟩
    · rintro j x σ3 H3 hx ⟨v4, rfl, b3, S3, ho, hp, l2, l1⟩
      have hjl := (List.getElem?_eq_some_iff.mp hx).1
      rw [wordV_len, List.length_drop] at hjl
      refine L2.ob_ea (wordV_get hx) fun a ha e_2 => ?_; subst e_2
      have eL : L (j + 1) = lineF w (L j) a := foldl_take _ _ _ _ _ ha
      refine ⟨.inl ⟨rfl, _, SqL.of ho⟩, oa, wordV (L j).2, -1, .int (((L j).2.getD j 0 : Nat) : Int), rfl, rfl, SqL.of ho, ?_, ?_⟩
      · unfold atI
        rw [wordV_len, l2, ixN_last]
        exact wordV_at (by lia)
      refine ⟨w, (L j).2.getD j 0, a, sa, (L j).1, rfl, S3, by lia, fun H4 b4 S4 => ?_⟩
      refine ⟨oa, _, _, rfl, rfl, b4 _ _ oas ho, fitsL (by rw [wordV_len]; lia), ?_⟩
      have ne2 : ∀ {o : HO}, Bt sa H4 (upd H4 oa o) → True := fun _ => trivial
      have S5 : StAt (upd H4 oa (.lst (wordV (L j).2 ++ [.int ((w + (L j).1.length : Nat) : Int)]))) sa ((L j).1 ++ [((L j).2.getD j 0, a)]) := S4.other oas (b4 _ _ oas ho)
      refine ⟨_, rfl, fun b o nb hb => ?_, ?_, ?_, ?_, ?_, ?_⟩
      · rw [upd_ne (fun e => by rw [e, g1] at hb; exact L2.ns_ hb)]; exact b4 _ _ nb (b3 _ _ nb hb)
      · rw [eL]
        show StAt _ _ ((L j).1 ++ [((L j).2.getLastD 0, a)])
        rw [getLastD_getD l2]
        exact S5
      · rw [eL]
        show _ = some (HO.lst (wordV ((L j).2 ++ [w + (L j).1.length])))
        rw [wordV_app]
        exact upd_same
      · rw [upd_ne npo]; exact b4 _ _ ps hp
      · rw [eL]; show ((L j).2 ++ [_]).length = _; rw [List.length_append, l2]; rfl
      · rw [eL]; show ((L j).1 ++ [_]).length = _; rw [List.length_append, l1]; rfl
    · rintro σ3 H3 ⟨v4, rfl, b3, S3, ho, hp, l2, l1⟩
      have e : L (wordV (ns.drop 1)).length = lineN w st ns := by
        show ((ns.drop 1).take _).foldl (lineF w) (st, ns.take 1) = _
        rw [wordV_len, List.take_length]; rfl
      rw [e] at S3 ho
      exact (q H3 oa b3 S3 ho oas)
noncomputable abbrev s_look_within : Stmt := top 10
theorem sc_look_within : FnScope ["what", "value", "least", "most"] ["what", "value", "least", "most"] (defScope s_look_within) := ⟨rfl, rfl, rfl, by decide +kernel, rfl, by decide +kernel, by decide +kernel⟩
theorem ok_look_within {f : Addr} {fd : FuncData} (F : Fun K "look_within" "look_within" s_look_within f fd) (T : Txt K mg CB CK CR CT CW CS DM FL FH FT FU P w) (d_is_within : Df P w K mg base "is_within" 2 ["value", "least", "most"] (spWithin)) : FnOk P w K mg base (CX1 P w) 3 f fd ["what", "value", "least", "most"] (spBound CK) := by
  refine F.ok1 sc_look_within (fun vs H Q E h => ?_) (fun cdv A outer s H vs Q E hr h => ?_)
  · obtain ⟨x, v, lo, hi, rfl, xl, h1, h2, q1, q2⟩ := h; rfl
  · obtain ⟨x, v, lo, hi, rfl, xl, h1, h2, q1, q2⟩ := h
    have nd := sc_look_within.nd
    refine ⟨_, (pss_one (ps_if (pt_not (pt_truth (pe_own d_is_within (hr.mono (by first | decide | lia)) rfl pass1 (pa_cons (pv 1) (pa_cons (pv 2) (pa_cons (pv 3) pa_nil)))) (fun _ => rfl)))
       (pss_one (ps_raise rfl throws1 T.x_BadKind rfl (pa_cons (pe_fstr (pj_cons (pe_fvs (pv 0)) (pj_cons pe_str (pj_cons (pe_fv (pv 2)) (pj_cons pe_str (pj_cons (pe_fv (pv 3)) pj_nil)))))) pa_nil)))
       pss_nil)), ?_⟩
    skip
    refine ⟨v, lo, hi, rfl, ?_⟩
    refine ⟨_, rfl, ?_⟩
    have l1 := fI h1
    have l2 := fI h2
    have c1 : (Str.ofString " are a whole number from ").length ≤ 1000 := by decide
    have c2 : (Str.ofString " to ").length ≤ 1000 := by decide
    refine iteN (fun h => ?_) (fun h => ?_)
    · refine ⟨_, rfl, by rw [sizeLine_eq]; lia, _, rfl, ?_, _, rfl, ?_, lo, rfl, h1, _, rfl, ?_, _, rfl, ?_, hi, rfl, h2, _, rfl, ?_, ?_, (show 1 ≤ sizeLine by decide), q2 (fun z => by simp at h; lia)⟩
      all_goals (simp only [strLen_append, emptyLen, sizeLine_eq]; lia)
    · exact q1 (by simp at h; lia)
end
end K42

namespace K42
open PySem L2 NM PyProof.Rows
section
variable {P : Program} {w : World} {K : PySem.W.Frag} {mg : Str → Option Value} {base : Heap} {CB CK CR CT CW CS DM FL FH FT FU PT : Addr}
noncomputable abbrev s_halves_outs : Stmt := top 29
theorem sc_halves_outs : FnScope ["wide", "steps", "nodes", "middle", "first", "second"] ["wide", "steps", "nodes"] (defScope s_halves_outs) := ⟨rfl, rfl, rfl, by decide +kernel, rfl, by decide +kernel, by decide +kernel⟩
theorem step_halves_outs {n : Nat} {f : Addr} {fd : FuncData} (F : Fun K "halves_outs" "halves_outs" s_halves_outs f fd) (T : Txt K mg CB CK CR CT CW CS DM FL FH FT FU P w) (d_add_step : Df P w K mg base "add_step" 1 ["wide", "steps", "one", "other"] (spAdd)) (d_halves_outs : Df P w K mg base "halves_outs" (3 + n) ["wide", "steps", "nodes"] (spHalves n)) : FnOk P w K mg base (CX1 P w) (3 + n + 1) f fd ["wide", "steps", "nodes"] (spHalves (n + 1)) := by
  refine F.ok1 sc_halves_outs (fun vs H Q E h => ?_) (fun cdv A outer s H vs Q E hr h => ?_)
  · obtain ⟨w, sa, na, st, ns, rfl, _⟩ := h; rfl
  · obtain ⟨w, sa, na, st, ns, rfl, S, hn, nsa, ne, nl, ⟨_, hl, sl⟩, q⟩ := h
    have nd := sc_halves_outs.nd
    refine ⟨_, (pss_cons (ps_if (pt_cmpR op_eq (pe_callB call_len_seq rfl T.z_len boot_len (pa_cons (pv 2) pa_nil)) pe_int (nomark _))
 (pss_one (ps_ret (pe_callTy call_list_of rfl T.z_list boot_list (pa_cons (pv 2) pa_nil))))
 pss_nil)
 (pss_cons (ps_set (i := 3) nd rfl (Or.inl rfl) (pe_op op_fdiv (pe_op op_add (pe_callB call_len_seq rfl T.z_len boot_len (pa_cons (pv 2) pa_nil)) pe_int) pe_int))
 (pss_cons (ps_set (i := 4) nd rfl (Or.inr rfl) (pe_own d_halves_outs (hr.mono (by first | decide | lia)) rfl pass1 (pa_cons (pv 0) (pa_cons (pv 1) (pa_cons (pe_slice sl_list (pv 2) po_none (po_some (pv 3))) pa_nil)))))
 (pss_cons (ps_set (i := 5) nd rfl (Or.inl rfl) (pe_own d_halves_outs (hr.mono (by first | decide | lia)) rfl pass1 (pa_cons (pv 0) (pa_cons (pv 1) (pa_cons (pe_slice sl_list (pv 2) (po_some (pv 3)) po_none) pa_nil)))))
 (pss_one (ps_ret (pe_op op_cat (pv 4) (pe_comp (ot := none) [0, 1, 4] rfl (pi_list (pv 5)) (fun _ _ _ _ => (pe_own d_add_step (hr.mono (by first | decide | lia)) rfl pass10 (pa_cons (pv 1) (pa_cons (pv 2) (pa_cons (pe_ix (show IxR _ (rIxL K) from ix_list) (pv 3) (pe_un un_neg pe_int) (fun _ _ => rfl)) (pa_cons (pv 0) pa_nil)))))) (fun _ _ _ _ => trivial) rfl (nodupS_of rfl))))))))), ?_⟩
    skip
    have hpos : 0 < ns.length := List.length_pos_iff.mpr ne
    rw [Nat.add_sub_cancel] at hl sl q
    try dsimp only at q
    refine ⟨_, _, rfl, .inl (SqL.of hn), ?_⟩
    rw [wordV_len]
    by_cases e1 : ns.length = 1
    · refine iteDT (by rw [e1]; rfl) ?_
      have e : halvesN w n st ns = (st, ns) := by
        cases n with
        | zero => rfl
        | succ n => rw [halvesN, if_pos e1]
      rw [e] at q
      refine ⟨na, _, rfl, .inl (SqL.of hn), fun oa g1 => ?_⟩
      exact q _ oa (Bt.same (Same.new g1)) (S.mono (Same.new g1)) upd_same (fun e => by obtain ⟨rs, h1, _⟩ := S.ex; rw [e, h1] at g1; exact L2.sn_ g1)
    · refine iteDF (fun z => e1 (by have := V.int.inj z; lia)) ?_
      cases n with
      | zero => rw [Nat.pow_zero] at hl; lia
      | succ n =>
        have e : halvesN w (n+1) st ns = ((addAll w (halvesN w n (halvesN w n st (ns.take ((ns.length + 1) / 2))).1 (ns.drop ((ns.length + 1) / 2))).1 ((halvesN w n (halvesN w n st (ns.take ((ns.length + 1) / 2))).1 (ns.drop ((ns.length + 1) / 2))).2.map fun o => ((halvesN w n st (ns.take ((ns.length + 1) / 2))).2.getLastD 0, o))).1, (halvesN w n st (ns.take ((ns.length + 1) / 2))).2 ++ (addAll w (halvesN w n (halvesN w n st (ns.take ((ns.length + 1) / 2))).1 (ns.drop ((ns.length + 1) / 2))).1 ((halvesN w n (halvesN w n st (ns.take ((ns.length + 1) / 2))).1 (ns.drop ((ns.length + 1) / 2))).2.map fun o => ((halvesN w n st (ns.take ((ns.length + 1) / 2))).2.getLastD 0, o))).2) := by rw [halvesN, if_neg e1]
        rw [e] at q
        clear e
        rw [Nat.pow_succ] at hl
        rw [Nat.add_mul, Nat.one_mul] at sl
        obtain ⟨m, hm⟩ : ∃ m, m = (ns.length + 1) / 2 := ⟨_, rfl⟩
        rw [← hm] at q
        have hm1 : 1 ≤ m := by lia
        have hm2 : m < ns.length := by lia
        have hmul : n * m + n * (ns.length - m) = n * ns.length := by rw [← Nat.mul_add]; congr 1; lia
        have em : ((ns.length : Nat) : Int) + 1 = ((ns.length + 1 : Nat) : Int) := by rfl
        have em2 : (((ns.length + 1 : Nat) : Int)) / 2 = (m : Int) := by lia
        obtain ⟨la2, la1⟩ := halves_len (w := w) n st (ns.take m)
        obtain ⟨lb2, lb1⟩ := halves_len (w := w) n (halvesN w n st (ns.take m)).1 (ns.drop m)
        rw [List.length_take, Nat.min_eq_left (by solve_by_elim (maxDepth := 3) [Nat.le_of_lt, Nat.lt_of_lt_of_le, Nat.le_trans, Nat.lt_of_le_of_lt])] at la1 la2
        rw [List.length_drop] at lb1 lb2
        generalize hA : halvesN w n st (ns.take m) = A1 at q la1 la2 lb1 lb2
        generalize hB : halvesN w n A1.1 (ns.drop m) = B1 at q lb1 lb2
        refine ⟨_, _, rfl, .inl (SqL.of hn), ⟨by decide, by decide⟩, ?_⟩
        rw [wordV_len]
        dsimp only
        rw [em, em2]
        refine ⟨na, _, rfl, SqL.of hn, fun p1 g1 => ?_⟩
        rw [show cutV (wordV ns) none (some (m : Int)) = wordV (ns.take m) from (cutL_take (wordV ns) m).trans (wordV_take ns m)]
        refine ⟨w, sa, p1, st, ns.take m, rfl, S.mono (Same.new g1), upd_same, (fun e => by obtain ⟨rs, h1, _⟩ := S.ex; rw [e, h1] at g1; exact L2.sn_ g1), by rw [ne_eq, ← List.length_eq_zero_iff, List.length_take]; lia, by rw [List.length_take]; lia, ⟨by exact Nat.succ_pos _, by rw [List.length_take]; show _ ≤ 2 ^ n; lia, by rw [List.length_take, Nat.min_eq_left (by solve_by_elim (maxDepth := 3) [Nat.le_of_lt, Nat.lt_of_lt_of_le, Nat.le_trans, Nat.lt_of_le_of_lt])]; show _ + n * _ ≤ _; lia⟩, fun H2 a1 b2 S2 ha ane => ?_⟩
        have S2 : StAt H2 sa A1.1 := by rw [← hA]; exact S2
        have ha : H2 a1 = some (.lst (wordV A1.2)) := by rw [← hA]; exact ha
        have b2 : Bt sa H H2 := (Bt.same (Same.new g1)).trans b2
        have hn2 := b2 _ _ nsa hn
        refine ⟨na, _, rfl, SqL.of hn2, fun p1 g1 => ?_⟩
        rw [show cutV (wordV ns) (some (m : Int)) none = wordV (ns.drop m) from (cutL_drop (wordV ns) m).trans (wordV_drop ns m)]
        refine ⟨w, sa, p1, A1.1, ns.drop m, rfl, S2.mono (Same.new g1), upd_same, (fun e => by obtain ⟨rs, h1, _⟩ := S2.ex; rw [e, h1] at g1; exact L2.sn_ g1), by rw [ne_eq, ← List.length_eq_zero_iff, List.length_drop]; lia, by rw [List.length_drop]; lia, ⟨by exact Nat.succ_pos _, by rw [List.length_drop]; show _ ≤ 2 ^ n; lia, by rw [List.length_drop]; show _ + n * _ ≤ _; lia⟩, fun H3 c1 b3 S3 hc cne => ?_⟩
        have S3 : StAt H3 sa B1.1 := by rw [← hB]; exact S3
        have hc : H3 c1 = some (.lst (wordV B1.2)) := by rw [← hB]; exact hc
        have ha3 := b3 _ _ ane (new_at g1 ha)
        have b3 : Bt sa H H3 := (b2.trans (Bt.same (Same.new g1))).trans b3
        conv => whnf
        generalize hps : (B1.2.map fun o => (A1.2.getLastD 0, o)) = ps at q
        have pl : ps.length = B1.2.length := by rw [← hps, List.length_map]
        refine ⟨c1, rfl, ⟨_, SqL.of hc⟩, comp_list (K := K) (a := c1) (xs := wordV B1.2) (fun i ys H4 => AddI w sa B1.1 ps H3 H4 i ys) (AddI.zero S3) (fun i ys H4 _ a => SqL.of (a.bt _ _ cne hc)) (fun i ys H4 hi a => fits (by rw [wordV_len] at hi; rw [a.len]; lia)) ?_ ?_⟩
        · rintro i x ys H4 TT hx a kT
          have hi := (List.getElem?_eq_some_iff.mp hx).1
          rw [wordV_len] at hi
          refine L2.ob_ea (wordV_get hx) fun o ho e_2 => ?_; subst e_2
          have hpi : ps[i]? = some (A1.2.getLastD 0, o) := by rw [← hps, List.getElem?_map, ho]; rfl
          have ha4 := a.bt _ _ ane ha3
          have ll := AddI.lenS (st := B1.1) (i := i) (ps := ps) (by lia)
          refine ⟨a1, wordV A1.2, -1, .int ((A1.2.getLastD 0 : Nat) : Int), rfl, rfl, SqL.of ha4, ?_, w, A1.2.getLastD 0, o, sa, B1.1 ++ ps.take i, rfl, a.st', by lia, fun H5 b5 S5 => kT _ _ (a.succ hpi b5 S5)⟩
          unfold atI
          rw [wordV_len, la2, show m = (m - 1) + 1 from by lia, ixN_last, getLastD_getD (j := m - 1) (by lia)]
          exact wordV_at (by lia)
        · rintro ys H4 a
          obtain ⟨S4, ey⟩ := a.all (by rw [wordV_len, pl])
          rw [ey]
          intro c2 g2
          have ha4 := a.bt _ _ ane ha3
          refine ⟨a1, c2, _, _, rfl, rfl, new_at g2 ha4, upd_same, fits (by rw [wordV_len, wordV_len]; show _ + (List.range' _ _).length ≤ _; rw [List.length_range']; lia), fun r g3 => ?_⟩
          refine q _ r ((b3.trans a.bt).trans (Bt.same ((Same.new g2).trans (Same.new g3)))) (S4.mono ((Same.new g2).trans (Same.new g3))) (by rw [wordV_app]; exact upd_same) ?_
          intro e
          obtain ⟨rs, h1, _⟩ := (S4.mono (Same.new (o := .lst (wordV (addAll w B1.1 ps).2)) g2)).ex
          rw [e, h1] at g3; exact L2.sn_ g3
theorem ok_halves_outs {f : Addr} {fd : FuncData} (F : Fun K "halves_outs" "halves_outs" s_halves_outs f fd) (T : Txt K mg CB CK CR CT CW CS DM FL FH FT FU P w) (d_add_step : Df P w K mg base "add_step" 1 ["wide", "steps", "one", "other"] (spAdd)) (hm : mg "halves_outs" = some (.ref f)) (hk : PySem.W.keepIn K (.ref f) = true) (hb : Binds K fd ["wide", "steps", "nodes"] []) : FnOk P w K mg base (CX1 P w) 11 f fd ["wide", "steps", "nodes"] (spHalves 8) := by
  have all : ∀ n, FnOk P w K mg base (CX1 P w) (3 + n) f fd ["wide", "steps", "nodes"] (spHalves n) := by
    intro n
    induction n with
    | zero =>
      refine F.ok1 sc_halves_outs (fun vs H Q E h => ?_) (fun cdv A outer s H vs Q E hr h => ?_)
      · obtain ⟨w, sa, na, st, ns, rfl, _⟩ := h; rfl
      · obtain ⟨w, sa, na, st, ns, rfl, S, hn, nsa, ne, nl, ⟨h0, _⟩, q⟩ := h
        lia
    | succ n ih => exact step_halves_outs F T d_add_step ⟨f, fd, hm, hk, hb, ih⟩
  exact all 8
end
end K42

namespace K42
open PySem L2 NM PyProof.Rows
section
variable {P : Program} {w : World} {K : PySem.W.Frag} {mg : Str → Option Value} {base : Heap} {CB CK CR CT CW CS DM FL FH FT FU PT : Addr}
noncomputable abbrev s_strides_outs : Stmt := top 30
theorem sc_strides_outs : FnScope ["wide", "steps", "nodes", "outs", "stride", "behind"] ["wide", "steps", "nodes"] (defScope s_strides_outs) := ⟨rfl, rfl, rfl, by decide +kernel, rfl, by decide +kernel, by decide +kernel⟩
inductive Iv_strides_outs_0 (H : Hp) (w : Nat) (sa : Addr) (na : Addr) (st : List (Nat × Nat)) (ns : List Nat) (k : Nat) (σ2 : L2.St) (H2 : Hp) : Prop
  | mk : ∀ (o : Addr) (v5 : Option V) (s : Nat) (st2 : List (Nat × Nat)) (os : List Nat), (σ2 = [some (.int (w : Nat)), some (.ref sa), some (.ref na), some (.ref o), some (.int (s : Nat)), v5]) → (Bt sa H H2) → (StAt H2 sa st2) → (H2 o = some (.lst (wordV os))) → (o ≠ sa) → (stridesN w k s st2 os = stridesN w 7 1 st ns) → (os.length = ns.length) → (1 ≤ s) → (os.length ≤ s * 2 ^ k) → (st2.length + k * 64 ≤ 4000) → Iv_strides_outs_0 H w sa na st ns k σ2 H2
inductive Iv_strides_outs_1 (H : Hp) (w : Nat) (sa : Addr) (na : Addr) (s : Nat) (st2 : List (Nat × Nat)) (os : List Nat) (ps : List (Nat × Nat)) (σ3 : L2.St) (H3 : Hp) : Prop
  | mk : ∀ (o : Addr) (v5 : Option V), (σ3 = [some (.int (w : Nat)), some (.ref sa), some (.ref na), some (.ref o), some (.int ((s * 2 : Nat) : Int)), v5]) → (Bt sa H H3) → (StAt H3 sa (addAll w st2 ps).1) → (H3 o = some (.lst (wordV (os.take s ++ (addAll w st2 ps).2)))) → (o ≠ sa) → Iv_strides_outs_1 H w sa na s st2 os ps σ3 H3
theorem ok_strides_outs {f : Addr} {fd : FuncData} (F : Fun K "strides_outs" "strides_outs" s_strides_outs f fd) (T : Txt K mg CB CK CR CT CW CS DM FL FH FT FU P w) (d_add_step : Df P w K mg base "add_step" 1 ["wide", "steps", "one", "other"] (spAdd)) : FnOk P w K mg base (CX1 P w) 11 f fd ["wide", "steps", "nodes"] (spMk (fun w st ns => stridesN w 7 1 st ns) okStr) := by
  refine F.ok1 sc_strides_outs (fun vs H Q E h => ?_) (fun cdv A outer s H vs Q E hr h => ?_)
  · obtain ⟨w, sa, na, st, ns, rfl, S, hn, nsa, ne, nl, sl, q⟩ := h; rfl
  · obtain ⟨w, sa, na, st, ns, rfl, S, hn, nsa, ne, nl, sl, q⟩ := h
    have nd := sc_strides_outs.nd
    refine ⟨_, (pss_cons (ps_set (i := 3) nd rfl (Or.inr rfl) (pe_callTy call_list_of rfl T.z_list boot_list (pa_cons (pv 2) pa_nil)))
       (pss_cons (ps_set (i := 4) nd rfl (Or.inr rfl) pe_int)
       (pss_cons (ps_while powns1 (pt_cmpR op_lt (pv 4) (pe_callB call_len_seq rfl T.z_len boot_len (pa_cons (pv 2) pa_nil)) (nomark _))
       (pss_cons (ps_setcomp (ot := none) 5 [0, 1, 3, 4] rfl nd rfl rfl (pi_range2 rfl T.z_range (pa_cons (pv 4) (pa_cons (pe_callB call_len_seq rfl T.z_len boot_len (pa_cons (pv 3) pa_nil)) pa_nil))) (fun _ _ _ _ => (pe_own d_add_step (hr.mono (by first | decide | lia)) rfl pass10 (pa_cons (pv 1) (pa_cons (pv 2) (pa_cons (pe_ix (show IxR _ (rIxL K) from ix_list) (pv 3) (pe_op op_sub (pv 0) (pv 4)) (fun _ _ => rfl)) (pa_cons (pe_ix (show IxR _ (rIxL K) from ix_list) (pv 3) (pv 0) (fun _ _ => rfl)) pa_nil)))))) (fun _ _ _ _ => trivial) rfl (nodupS_of rfl))
       (pss_cons (ps_set (i := 3) nd rfl (Or.inr rfl) (pe_op op_cat (pe_slice sl_list (pv 3) po_none (po_some (pv 4))) (pv 5)))
       (pss_one (ps_set (i := 4) nd rfl (Or.inr rfl) (pe_op op_mul (pv 4) pe_int))))))
       (pss_one (ps_ret (pv 3)))))), ?_⟩
    skip
    have hpos : 0 < ns.length := List.length_pos_iff.mpr ne
    have sl : st.length ≤ 3000 := sl
    try dsimp only at q
    refine ⟨na, _, rfl, .inl (SqL.of hn), fun oa g1 => ?_⟩
    have oas : oa ≠ sa := fun e => by obtain ⟨rs, h1, _⟩ := S.ex; rw [e, h1] at g1; exact L2.sn_ g1
    refine ⟨Iv_strides_outs_0 H w sa na st ns,
      ⟨7, oa, _, 1, st, ns, rfl, Bt.same (Same.new g1), S.mono (Same.new g1), upd_same, oas, rfl, rfl, Nat.le_refl _, by lia, by lia⟩, ?_⟩
    rintro k σ2 H2 ⟨o, v5, s, st2, os, rfl, b2, S2, ho, one, eq, ol, s1, hk, hl2⟩
    have hn2 := b2 _ _ nsa hn
    refine ⟨_, _, rfl, .inl (SqL.of hn2), iteB (fun c1 => ?_) (fun c1 => ?_)⟩
    · have hs : s < ns.length := by rw [wordV_len] at c1; simp at c1; lia
      cases k with
      | zero => rw [Nat.pow_zero, Nat.mul_one] at hk; lia
      | succ k =>
        have hps := stride_len (os := os) (s := s)
        generalize ep : stridePairs os s = ps at hps
        have es : stridesN w (k + 1) s st2 os = stridesN w k (s * 2) (addAll w st2 ps).1 (os.take s ++ (addAll w st2 ps).2) := by rw [stridesN, if_pos (by lia), ep]
        refine ⟨Iv_strides_outs_1 H w sa na s st2 os ps, fun σ3 H3 ⟨o3, v3, e3, b3, S3, ho3, one3⟩ => ⟨k, by exact Nat.lt_succ_self _, o3, v3, s * 2, _, _, e3, b3, S3, ho3, one3, by rw [← es]; exact eq, ?_, by lia, ?_, ?_⟩, ?_⟩
        · rw [List.length_append, List.length_take]; show _ + (List.range' _ _).length = _; rw [List.length_range', hps]; lia
        · rw [List.length_append, List.length_take]; show _ + (List.range' _ _).length ≤ _; rw [List.length_range', hps]; rw [Nat.pow_succ] at hk; rw [Nat.mul_assoc, Nat.mul_comm 2]; lia
        · show (st2 ++ ps).length + _ ≤ _; rw [List.length_append, hps]; rw [Nat.add_mul, Nat.one_mul] at hl2; lia
        refine ⟨_, _, rfl, .inl (SqL.of ho), _, _, rfl, ⟨by solve_by_elim, by lia, by solve_by_elim, by rw [wordV_len]; lia⟩, ?_⟩
        have er : (((wordV os).length : Int) - (s : Int)).toNat = os.length - s := by rw [wordV_len]; simp
        rw [er]
        refine comp_range (lo := s) (n := os.length - s) (fun i ys H4 => AddI w sa st2 ps H2 H4 i ys) (AddI.zero S2) (fun i ys H4 hi a => fits (by rw [a.len]; lia)) ?_ ?_
        · rintro i ys H4 TT hi a kT
          have ho4 := a.bt _ _ one ho
          have hpi : ps[i]? = some (os.getD i 0, os.getD (s + i) 0) := by rw [← ep]; exact stride_at (by lia)
          have ll := AddI.lenS (st := st2) (i := i) (ps := ps) (by lia)
          have e1 : (s : Int) + (i : Int) - (s : Int) = ((i : Nat) : Int) := by lia
          have e2 : (s : Int) + (i : Int) = ((s + i : Nat) : Int) := by rfl
          refine ⟨o, wordV os, _, .int ((os.getD i 0 : Nat) : Int), rfl, rfl, SqL.of ho4, (by rw [e1]; exact atI_word (by lia)), o, wordV os, _, .int ((os.getD (s + i) 0 : Nat) : Int), rfl, rfl, SqL.of ho4, (by rw [e2]; exact atI_word (by lia)), w, os.getD i 0, os.getD (s + i) 0, sa, st2 ++ ps.take i, rfl, a.st', by lia, fun H5 b5 S5 => kT _ _ (a.succ hpi b5 S5)⟩
        · rintro ys H4 a
          obtain ⟨S4, ey⟩ := a.all (by rw [hps])
          rw [ey]
          intro c2 g2
          have ho4 := a.bt _ _ one ho
          refine ⟨o, _, rfl, SqL.of (new_at g2 ho4), fun p3 g3 => ?_⟩
          rw [show cutV (wordV os) none (some (s : Int)) = wordV (os.take s) from (cutL_take (wordV os) s).trans (wordV_take os s)]
          refine ⟨p3, c2, _, _, rfl, rfl, upd_same, new_at g3 upd_same, fits (by rw [wordV_len, wordV_len]; show _ + (List.range' _ _).length ≤ _; rw [List.length_range', List.length_take]; lia), fun r g4 => ?_⟩
          have sN := ((Same.new (o := .lst (wordV (addAll w st2 ps).2)) g2).trans (Same.new (o := .lst (wordV (os.take s))) g3)).trans (Same.new (o := .lst (wordV (os.take s) ++ wordV (addAll w st2 ps).2)) g4)
          refine ⟨.inr ⟨by decide, by decide⟩, ?_⟩
          refine ⟨r, _, rfl, (b2.trans a.bt).trans (Bt.same sN), S4.mono sN, by rw [wordV_app]; exact upd_same, ?_⟩
          intro e
          obtain ⟨rs, h1, _⟩ := S4.ex
          have := new_at (o := .lst (wordV (os.take s))) g3 (new_at (o := .lst (wordV (addAll w st2 ps).2)) g2 h1)
          rw [e, this] at g4; exact L2.sn_ g4
    · have hs : ¬ s < os.length := by rw [wordV_len] at c1; simp at c1; lia
      have e : stridesN w k s st2 os = (st2, os) := by
        cases k with
        | zero => rfl
        | succ k => rw [stridesN, if_neg hs]
      rw [e] at eq
      rw [← eq] at q
      exact (q H2 o b2 S2 ho one)
end
end K42

namespace K42
open PySem L2 NM PyProof.Rows
section
variable {P : Program} {w : World} {K : PySem.W.Frag} {mg : Str → Option Value} {base : Heap} {CB CK CR CT CW CS DM FL FH FT FU PT : Addr}
noncomputable abbrev s_updown_outs : Stmt := top 31
theorem sc_updown_outs : FnScope ["wide", "steps", "nodes", "pairs", "pair_outs", "outs", "place"] ["wide", "steps", "nodes"] (defScope s_updown_outs) := ⟨rfl, rfl, rfl, by decide +kernel, rfl, by decide +kernel, by decide +kernel⟩
inductive Iv_updown_outs_0 (H : Hp) (w : Nat) (sa : Addr) (na : Addr) (A1 : SO) (pa : Addr) (po : Addr) (oa : Addr) (U : Nat → SO) (j : Nat) (σ6 : L2.St) (H6 : Hp) : Prop
  | mk : ∀ v6, (σ6 = [some (.int (w : Nat)), some (.ref sa), some (.ref na), some (.ref pa), some (.ref po), some (.ref oa), v6]) → (Bt sa H H6) → (StAt H6 sa (U j).1) → (H6 oa = some (.lst (wordV (U j).2))) → (H6 po = some (.lst (wordV A1.2))) → Iv_updown_outs_0 H w sa na A1 pa po oa U j σ6 H6
theorem step_updown_outs {n : Nat} {f : Addr} {fd : FuncData} (F : Fun K "updown_outs" "updown_outs" s_updown_outs f fd) (T : Txt K mg CB CK CR CT CW CS DM FL FH FT FU P w) (d_add_step : Df P w K mg base "add_step" 1 ["wide", "steps", "one", "other"] (spAdd)) (d_updown_outs : Df P w K mg base "updown_outs" (3 + n) ["wide", "steps", "nodes"] (spUpdown n)) : FnOk P w K mg base (CX1 P w) (3 + n + 1) f fd ["wide", "steps", "nodes"] (spUpdown (n + 1)) := by
  refine F.ok1 sc_updown_outs (fun vs H Q E h => ?_) (fun cdv A outer s H vs Q E hr h => ?_)
  · obtain ⟨w, sa, na, st, ns, rfl, _⟩ := h; rfl
  · obtain ⟨w, sa, na, st, ns, rfl, S, hn, nsa, ne, nl, ⟨_, hl, sl⟩, q⟩ := h
    have nd := sc_updown_outs.nd
    refine ⟨_, (pss_cons (ps_if (pt_cmpR op_eq (pe_callB call_len_seq rfl T.z_len boot_len (pa_cons (pv 2) pa_nil)) pe_int (nomark _))
 (pss_one (ps_ret (pe_callTy call_list_of rfl T.z_list boot_list (pa_cons (pv 2) pa_nil))))
 pss_nil)
 (pss_cons (ps_setcomp (ot := none) 3 [0, 1, 2] rfl nd rfl rfl (pi_two rfl T.z_range (pa_cons pe_int (pa_cons (pe_callB call_len_seq rfl T.z_len boot_len (pa_cons (pv 2) pa_nil)) (pa_cons pe_int pa_nil)))) (fun _ _ _ _ => (pe_own d_add_step (hr.mono (by first | decide | lia)) rfl pass10 (pa_cons (pv 1) (pa_cons (pv 2) (pa_cons (pe_ix (show IxR _ (rIxL K) from ix_list) (pv 3) (pe_op op_sub (pv 0) pe_int) (fun _ _ => rfl)) (pa_cons (pe_ix (show IxR _ (rIxL K) from ix_list) (pv 3) (pv 0) (fun _ _ => rfl)) pa_nil)))))) (fun _ _ _ _ => trivial) rfl (nodupS_of rfl))
 (pss_cons (ps_set (i := 4) nd rfl (Or.inl rfl) (pe_own d_updown_outs (hr.mono (by first | decide | lia)) rfl pass1 (pa_cons (pv 0) (pa_cons (pv 1) (pa_cons (pv 3) pa_nil)))))
 (pss_cons (ps_set (i := 5) nd rfl (Or.inl rfl) (pe_slice sl_list (pv 2) po_none (po_some pe_int)))
 (pss_cons (ps_for powns1 rfl (pi_range2 rfl T.z_range (pa_cons pe_int (pa_cons (pe_callB call_len_seq rfl T.z_len boot_len (pa_cons (pv 2) pa_nil)) pa_nil))) (pg_name (i := 6) nd rfl (Or.inl rfl))
 (pss_one (ps_if (pt_cmpR op_eq (pe_op op_mod (pv 6) pe_int) pe_int (nomark _))
 (pss_one (ps_expr (pe_bm PySem.F.plainAttrs_list PySem.F.slot_list_append PySem.F.type_list_append mt_append (pv 5) (pa_cons (pe_ix ix_list (pv 4) (pe_op op_fdiv (pv 6) pe_int) (fun _ _ => rfl)) pa_nil))))
 (pss_one (ps_expr (pe_bm PySem.F.plainAttrs_list PySem.F.slot_list_append PySem.F.type_list_append mt_append (pv 5) (pa_cons (pe_own d_add_step (hr.mono (by first | decide | lia)) rfl pass1 (pa_cons (pv 0) (pa_cons (pv 1) (pa_cons (pe_ix ix_list (pv 4) (pe_op op_sub (pe_op op_fdiv (pv 6) pe_int) pe_int) (fun _ _ => rfl)) (pa_cons (pe_ix ix_list (pv 2) (pv 6) (fun _ _ => rfl)) pa_nil))))) pa_nil)))))))
 (pss_one (ps_ret (pv 5)))))))), ?_⟩
    skip
    have hpos : 0 < ns.length := List.length_pos_iff.mpr ne
    rw [Nat.add_sub_cancel] at q
    try dsimp only at q
    refine ⟨_, _, rfl, .inl (SqL.of hn), ?_⟩
    rw [wordV_len]
    by_cases e1 : ns.length = 1
    · refine iteDT (by rw [e1]; rfl) ?_
      have e : updownN w n st ns = (st, ns) := by
        cases n with
        | zero => rfl
        | succ n => rw [updownN, if_pos e1]
      rw [e] at q
      refine ⟨na, _, rfl, .inl (SqL.of hn), fun oa g1 => ?_⟩
      exact q _ oa (Bt.same (Same.new g1)) (S.mono (Same.new g1)) upd_same (fun e => by obtain ⟨rs, h1, _⟩ := S.ex; rw [e, h1] at g1; exact L2.sn_ g1)
    · refine iteDF (fun z => e1 (by have := V.int.inj z; lia)) ?_
      cases n with
      | zero => rw [Nat.zero_add, Nat.pow_one] at hl; lia
      | succ n =>
        rw [Nat.pow_succ] at hl
        have pl := NM.pairs_len ns
        have e : updownN w (n+1) st ns = (List.range' 1 (ns.length - 1)).foldl (upF w ns (updownN w n (addAll w st (pairsOf ns)).1 (addAll w st (pairsOf ns)).2).2) ((updownN w n (addAll w st (pairsOf ns)).1 (addAll w st (pairsOf ns)).2).1, ns.take 1) := by rw [updownN, if_neg e1]
        rw [e] at q
        clear e
        generalize hps : pairsOf ns = ps at q pl
        have cl1 : (addAll w st ps).1.length = st.length + ns.length / 2 := by show (st ++ ps).length = _; rw [List.length_append, pl]
        have cl2 : (addAll w st ps).2.length = ns.length / 2 := by show (List.range' _ _).length = _; rw [List.length_range', pl]
        obtain ⟨la2, la1⟩ := updown_len (w := w) n (addAll w st ps).1 (addAll w st ps).2
        rw [cl2] at la2
        rw [cl1, cl2] at la1
        generalize hA : updownN w n (addAll w st ps).1 (addAll w st ps).2 = A1 at q la1 la2
        refine ⟨_, _, rfl, .inl (SqL.of hn), _, _, rfl, ⟨by solve_by_elim, by exact Int.natCast_nonneg _, by solve_by_elim, by rw [wordV_len]; lia⟩, ?_⟩
        have er : (((wordV ns).length : Int) - 1 + 1) / 2 = ((ns.length / 2 : Nat) : Int) := by rw [wordV_len]; simp
        rw [er, Int.toNat_natCast]
        refine comp_two (lo := 1) (n := ns.length / 2) (fun i ys H4 => AddI w sa st ps H H4 i ys) (AddI.zero S) (fun i ys H4 hi a => fits (by rw [a.len]; lia)) ?_ ?_
        · rintro i ys H4 TT hi a kT
          have hn4 := a.bt _ _ nsa hn
          have hpi : ps[i]? = some (ns.getD (2 * i) 0, ns.getD (2 * i + 1) 0) := by rw [← hps]; exact pairs_at hi
          have ll := AddI.lenS (st := st) (i := i) (ps := ps) (by lia)
          have e1 : (1 : Int) + 2 * (i : Int) - 1 = ((2 * i : Nat) : Int) := by lia
          have e2 : (1 : Int) + 2 * (i : Int) = ((2 * i + 1 : Nat) : Int) := by lia
          refine ⟨na, wordV ns, _, .int ((ns.getD (2 * i) 0 : Nat) : Int), rfl, rfl, SqL.of hn4, (by rw [e1]; exact atI_word (by lia)), na, wordV ns, _, .int ((ns.getD (2 * i + 1) 0 : Nat) : Int), rfl, rfl, SqL.of hn4, (by rw [e2]; exact atI_word (by lia)), w, ns.getD (2 * i) 0, ns.getD (2 * i + 1) 0, sa, st ++ ps.take i, rfl, a.st', by lia, fun H5 b5 S5 => kT _ _ (a.succ hpi b5 S5)⟩
        · rintro ys H4 a
          obtain ⟨S4, ey⟩ := a.all (by rw [pl])
          rw [ey]
          intro pa g2
          have b4 := a.bt
          have pas : pa ≠ sa := fun e => by obtain ⟨rs, h1, _⟩ := S4.ex; rw [e, h1] at g2; exact L2.sn_ g2
          refine ⟨w, sa, pa, (addAll w st ps).1, (addAll w st ps).2, rfl, S4.mono (Same.new g2), upd_same, pas, by rw [ne_eq, ← List.length_eq_zero_iff, cl2]; lia, by rw [cl2]; lia, ⟨by exact Nat.succ_pos _, by rw [cl2]; lia, by rw [cl1, cl2]; lia⟩, fun H5 po b5 S5 hpo pos => ?_⟩
          have S5 : StAt H5 sa A1.1 := by rw [← hA]; exact S5
          have hpo : H5 po = some (.lst (wordV A1.2)) := by rw [← hA]; exact hpo
          have b5 : Bt sa H H5 := (b4.trans (Bt.same (Same.new g2))).trans b5
          have hn5 := b5 _ _ nsa hn
          refine ⟨na, _, rfl, SqL.of hn5, fun oa g6 => ?_⟩
          rw [show cutV (wordV ns) none (some 1) = wordV (ns.take 1) from (cutL_take (wordV ns) 1).trans (wordV_take ns 1)]
          have oas : oa ≠ sa := fun e => by obtain ⟨rs, h1, _⟩ := S5.ex; rw [e, h1] at g6; exact L2.sn_ g6
          have oap : oa ≠ po := fun e => by rw [e, hpo] at g6; exact L2.sn_ g6
          have fo : H oa = none := b5.free oas g6
          let U : Nat → SO := fun j => (List.range' 1 j).foldl (upF w ns A1.2) (A1.1, ns.take 1)
          have US : ∀ j, U (j + 1) = upF w ns A1.2 (U j) (1 + j) := fun j => by
            show (List.range' 1 (j + 1)).foldl _ _ = _
            rw [List.range'_concat, List.foldl_append, Nat.one_mul]; rfl
          have UL : ∀ j, (U j).2.length = 1 + j ∧ (U j).1.length ≤ A1.1.length + j := fun j => by
            obtain ⟨h1, h2⟩ := upF_len (w := w) (ns := ns) (po := A1.2) (List.range' 1 j) (A1.1, ns.take 1)
            rw [List.length_range'] at h1 h2
            have h1 : (U j).2.length = (ns.take 1).length + j := h1
            rw [List.length_take, Nat.min_eq_left (by assumption)] at h1
            exact ⟨h1, h2⟩
          refine ⟨_, _, rfl, .inl (SqL.of (new_at g6 hn5)), _, _, rfl, ⟨by solve_by_elim, by exact Int.natCast_nonneg _, by solve_by_elim, by rw [wordV_len]; lia⟩, ?_⟩
          have er2 : (((wordV ns).length : Int) - 1).toNat = ns.length - 1 := by rw [wordV_len]; simp
          rw [er2]
          refine for_range (lo := 1) (n := ns.length - 1) (Iv_updown_outs_0 H w sa na A1 pa po oa U) ⟨_, rfl, b5.trans (Bt.same (Same.new g6)), S5.mono (Same.new g6), upd_same, new_at g6 hpo⟩ ?_ ?_
          · rintro j σ6 H6 hj ⟨v6, rfl, b6, S6, ho6, hp6⟩
            obtain ⟨u2, u1⟩ := UL j
            have hn6 := b6 _ _ nsa hn
            refine ⟨(show (0 : Int) < 2 by decide), ?_⟩
            by_cases c : (1 + j) % 2 = 1
            · refine iteDT (show V.int ((1 + (j : Int)) % 2) = V.int 1 by rw [show (1 + (j : Int)) % 2 = 1 from by lia]) ?_
              refine ⟨.inl ⟨rfl, _, SqL.of ho6⟩, ⟨by decide, by decide⟩, po, wordV A1.2, _, .int ((A1.2.getD ((1 + j) / 2) 0 : Nat) : Int), rfl, rfl, SqL.of hp6, (by rw [show (1 + (j : Int)) / 2 = (((1 + j) / 2 : Nat) : Int) from by rfl]; exact atI_word (by lia)), oa, _, _, rfl, rfl, ho6, fitsL (by rw [wordV_len]; lia), ?_⟩
              have e : upF w ns A1.2 (U j) (1 + j) = ((U j).1, (U j).2 ++ [A1.2.getD ((1 + j) / 2) 0]) := by rw [upF, if_pos c]
              refine ⟨_, rfl, fun b o nb hb => ?_, ?_, ?_, ?_⟩
              · rw [upd_ne (fun e => by rw [e, fo] at hb; exact L2.ns_ hb)]; exact b6 _ _ nb hb
              · rw [US j, e]; exact S6.other oas ho6
              · rw [US j, e, wordV_app]; exact upd_same
              · rw [upd_ne (Ne.symm oap)]; exact hp6
            · refine iteDF (fun z => c (by have : (1 + (j : Int)) % 2 = 1 := V.int.inj z; lia)) ?_
              refine ⟨.inl ⟨rfl, _, SqL.of ho6⟩, ⟨by decide, by decide⟩, po, wordV A1.2, _, .int ((A1.2.getD ((1 + j) / 2 - 1) 0 : Nat) : Int), rfl, rfl, SqL.of hp6, (by rw [show (1 + (j : Int)) / 2 - 1 = (((1 + j) / 2 - 1 : Nat) : Int) from by lia]; exact atI_word (by lia)), na, wordV ns, _, .int ((ns.getD (1 + j) 0 : Nat) : Int), rfl, rfl, SqL.of hn6, (by rw [show (1 + (j : Int)) = ((1 + j : Nat) : Int) from by rfl]; exact atI_word (by lia)), ?_⟩
              refine ⟨w, A1.2.getD ((1 + j) / 2 - 1) 0, ns.getD (1 + j) 0, sa, (U j).1, rfl, S6, by lia, fun H7 b7 S7 => ?_⟩
              have ho7 := b7 _ _ oas ho6
              have hp7 := b7 _ _ pos hp6
              refine ⟨oa, _, _, rfl, rfl, ho7, fitsL (by rw [wordV_len]; lia), ?_⟩
              have e : upF w ns A1.2 (U j) (1 + j) = ((U j).1 ++ [(A1.2.getD ((1 + j) / 2 - 1) 0, ns.getD (1 + j) 0)], (U j).2 ++ [w + (U j).1.length]) := by rw [upF, if_neg c]
              refine ⟨_, rfl, fun b o nb hb => ?_, ?_, ?_, ?_⟩
              · rw [upd_ne (fun e => by rw [e, fo] at hb; exact L2.ns_ hb)]; exact b7 _ _ nb (b6 _ _ nb hb)
              · rw [US j, e]; exact S7.other oas ho7
              · rw [US j, e, wordV_app]; exact upd_same
              · rw [upd_ne (Ne.symm oap)]; exact hp7
          · rintro σ6 H6 ⟨v6, rfl, b6, S6, ho6, hp6⟩
            exact (q H6 oa b6 S6 ho6 oas)
theorem ok_updown_outs {f : Addr} {fd : FuncData} (F : Fun K "updown_outs" "updown_outs" s_updown_outs f fd) (T : Txt K mg CB CK CR CT CW CS DM FL FH FT FU P w) (d_add_step : Df P w K mg base "add_step" 1 ["wide", "steps", "one", "other"] (spAdd)) (hm : mg "updown_outs" = some (.ref f)) (hk : PySem.W.keepIn K (.ref f) = true) (hb : Binds K fd ["wide", "steps", "nodes"] []) : FnOk P w K mg base (CX1 P w) 11 f fd ["wide", "steps", "nodes"] (spUpdown 8) := by
  have all : ∀ n, FnOk P w K mg base (CX1 P w) (3 + n) f fd ["wide", "steps", "nodes"] (spUpdown n) := by
    intro n
    induction n with
    | zero =>
      refine F.ok1 sc_updown_outs (fun vs H Q E h => ?_) (fun cdv A outer s H vs Q E hr h => ?_)
      · obtain ⟨w, sa, na, st, ns, rfl, _⟩ := h; rfl
      · obtain ⟨w, sa, na, st, ns, rfl, S, hn, nsa, ne, nl, ⟨h0, _⟩, q⟩ := h
        lia
    | succ n ih => exact step_updown_outs F T d_add_step ⟨f, fd, hm, hk, hb, ih⟩
  exact all 8
end
end K42

namespace K42
open PySem L2 NM PyProof.Rows
section
variable {P : Program} {w : World} {K : PySem.W.Frag} {mg : Str → Option Value} {base : Heap} {CB CK CR CT CW CS DM FL FH FT FU PT : Addr}
noncomputable abbrev s_known : Stmt := top 33
theorem sc_known : FnScope ["word", "wide", "steps", "outs"] ["word", "wide"] (defScope s_known) := ⟨rfl, rfl, rfl, by decide +kernel, rfl, by decide +kernel, by decide +kernel⟩
theorem ok_known {f : Addr} {fd : FuncData} (F : Fun K "known" "known" s_known f fd) (T : Txt K mg CB CK CR CT CW CS DM FL FH FT FU P w) (d_look_within : Df P w K mg base "look_within" 3 ["what", "value", "least", "most"] (spBound CK)) (d_line_outs : Df P w K mg base "line_outs" 11 ["wide", "steps", "nodes"] (spMk lineN (fun st ns => st.length ≤ 4000))) (d_halves_outs : Df P w K mg base "halves_outs" 11 ["wide", "steps", "nodes"] (spHalves 8)) (d_strides_outs : Df P w K mg base "strides_outs" 11 ["wide", "steps", "nodes"] (spMk (fun w st ns => stridesN w 7 1 st ns) okStr)) (d_updown_outs : Df P w K mg base "updown_outs" 11 ["wide", "steps", "nodes"] (spUpdown 8)) : FnOk P w K mg base (CX1 P w) 12 f fd ["word", "wide"] (spKnown CK) := by
  refine F.ok1 sc_known (fun vs H Q E h => ?_) (fun cdv A outer s H vs Q E hr h => ?_)
  · obtain ⟨x, wi, rfl, xl, wl, q1, q2⟩ := h; rfl
  · obtain ⟨x, wi, rfl, xl, wl, q1, q2⟩ := h
    have nd := sc_known.nd
    refine ⟨_, (pss_cons (ps_if (pt_cmpR op_notInKD (pv 0) (pe_glob (v := .ref _) rfl T.g_MAKERS rfl) (by with_unfolding_all rfl))
       (pss_one (ps_raise rfl throws1 T.x_BadKind rfl (pa_cons pe_str pa_nil)))
       pss_nil)
       (pss_cons (ps_expr (pe_own d_look_within (hr.mono (by first | decide | lia)) rfl pass1 (pa_cons pe_str (pa_cons (pv 1) (pa_cons pe_int (pa_cons (pe_glob (v := .int 64) rfl T.g_MOST_THINGS.choose_spec ⟨_, rfl⟩) pa_nil))))))
       (pss_cons (ps_set (i := 2) nd rfl (Or.inl rfl) (pe_lst pa_nil))
       (pss_cons (ps_set (i := 3) nd rfl (Or.inl rfl) (pe_callE (k := 11) (hr.mono (by first | decide | lia)) pass1 (pe_ix ix_kd (pe_glob (v := .ref _) rfl T.g_MAKERS rfl) (pv 0) (fun _ _ => rfl)) (pa_cons (pv 1) (pa_cons (pv 2) (pa_cons (pe_callTy (call_list_rng rfl) rfl T.z_list boot_list (pa_cons (pe_callTy call_range1 rfl T.z_range boot_range (pa_cons (pv 1) pa_nil)) pa_nil)) pa_nil)))))
       (pss_one (ps_ret (pe_tup (pa_cons (pv 1) (pa_cons (pv 2) (pa_cons (pv 3) pa_nil)))))))))), ?_⟩
    skip
    refine ⟨DM, _, Sum.inr x, rfl, T.k_MAKERS, rfl, ?_⟩
    rw [kwords_val]
    by_cases hx : x ∈ kwords
    · refine iteN (fun h => by simp [hx] at h) (fun _ => ?_)
      refine ⟨_, wi, 1, 64, rfl, by decide, by decide, by decide, fun hw => ?_, fun hw => q2 (fun z => hw z.2) H (Same.refl H)⟩
      have q := q1 ⟨hx, hw⟩
      obtain ⟨wn, rfl⟩ : ∃ wn : Nat, wi = (wn : Int) := ⟨wi.toNat, by lia⟩
      rw [Int.toNat_natCast] at q
      have rl : (List.range wn).length = wn := List.length_range
      obtain ⟨fm, FF, okF, hv, D, eF, hok⟩ : ∃ (fm : Addr) (FF : Nat → List (Nat × Nat) → List Nat → SO) (okF : List (Nat × Nat) → List Nat → Prop), valV [((Sum.inr (Str.ofString "line") : Key), V.ref FL), (Sum.inr (Str.ofString "halves"), V.ref FH), (Sum.inr (Str.ofString "strides"), V.ref FT), (Sum.inr (Str.ofString "updown"), V.ref FU)] (Sum.inr x) = some (.ref fm) ∧ Dv P w K mg base fm 11 (spMk FF okF) ∧ FF wn [] (List.range wn) = knownSO (wordIx x) wn ∧ okF [] (List.range wn) := by
        simp only [kwords, List.mem_cons, List.not_mem_nil, or_false] at hx
        rcases hx with rfl | rfl | rfl | rfl
        · exact ⟨FL, _, _, rfl, d_line_outs.dv T.g_line_outs (fun _ _ _ _ h => h), rfl, by simp⟩
        · exact ⟨FH, _, _, rfl, d_halves_outs.dv T.g_halves_outs (fun _ _ _ _ h => h), rfl, by exact Nat.succ_pos _, by rw [rl]; show wn ≤ 2 ^ 7; lia, by rw [rl]; show 0 + 7 * wn ≤ _; lia⟩
        · exact ⟨FT, _, _, rfl, d_strides_outs.dv T.g_strides_outs (fun _ _ _ _ h => h), rfl, by simp [okStr]⟩
        · exact ⟨FU, _, _, rfl, d_updown_outs.dv T.g_updown_outs (fun _ _ _ _ h => h), rfl, by exact Nat.succ_pos _, by rw [rl]; show wn < 2 ^ 8; lia, by rw [rl]; show 0 + 3 * wn ≤ _; lia⟩
      refine ⟨(show 0 ≤ sizeLine by decide), fun sa g1 => ?_⟩
      refine ⟨DM, _, Sum.inr x, _, rfl, T.k_MAKERS, rfl, hv, fm, rfl, _, D, (wn : Int), rfl, by solve_by_elim, by lia, fun p2 g2 => ⟨p2, 0, wn, rfl, upd_same, ⟨by exact Int.natCast_nonneg _, by exact Int.natCast_nonneg _, by solve_by_elim, by lia⟩, fits (by lia), by lia, fun na g3 => ?_⟩⟩
      rw [range_word]
      have fsa : H sa = none := g1
      have nsa : na ≠ sa := fun e => by rw [e, new_at g2 (upd_same (H := H) (a := sa) (o := .lst []))] at g3; exact L2.sn_ g3
      have s3 : Same H (upd (upd (upd H sa (.lst [])) p2 (.rng 0 wn)) na (.lst (wordV (List.range wn)))) := ((Same.new g1).trans (Same.new g2)).trans (Same.new g3)
      have S3 : StAt (upd (upd (upd H sa (.lst [])) p2 (.rng 0 wn)) na (.lst (wordV (List.range wn)))) sa [] := ⟨[], new_at g3 (new_at g2 upd_same), .nil⟩
      refine ⟨wn, sa, na, [], List.range wn, rfl, S3, upd_same, nsa, by rw [ne_eq, ← List.length_eq_zero_iff, rl]; lia, by lia, hok, fun H4 oa b4 S4 ho one => ?_⟩
      rw [eF] at S4 ho
      refine L2.ob_ea S4.ex fun rs r1 r2 => ?_
      refine ⟨(show 3 ≤ sizeLine by decide), fun n hn => ?_⟩
      refine q _ n sa oa rs (fun b o e => new_at hn (b4 _ _ (fun z => by rw [z, fsa] at e; exact L2.ns_ e) (s3 _ _ e))) ?_
      exact netAt_new hn r1 r2 (by rw [ho, wordV_outs]; rfl)
    · refine iteN (fun _ => ?_) (fun h => by simp [hx] at h)
      exact ⟨(show 1 ≤ sizeLine by decide), q2 (fun z => hx z.1) H (Same.refl H)⟩
end
end K42

namespace K42
open PySem L2 NM PyProof.Rows
section
variable {P : Program} {w : World} {K : PySem.W.Frag} {mg : Str → Option Value} {base : Heap} {CB CK CR CT CW CS DM FL FH FT FU PT : Addr}
noncomputable abbrev s_is_whole : Stmt := top 8
theorem sc_is_whole : FnScope ["value"] ["value"] (defScope s_is_whole) := ⟨rfl, rfl, rfl, by decide +kernel, rfl, by decide +kernel, by decide +kernel⟩
theorem ok_is_whole {f : Addr} {fd : FuncData} (F : Fun K "is_whole" "is_whole" s_is_whole f fd) (T : Txt K mg CB CK CR CT CW CS DM FL FH FT FU P w)  : FnOk P w K mg base (CX1 P w) 1 f fd ["value"] (spWhole) := by
  refine F.ok1 sc_is_whole (fun vs H Q E h => ?_) (fun cdv A outer s H vs Q E hr h => ?_)
  · obtain ⟨i, rfl, q⟩ := h; rfl
  · obtain ⟨i, rfl, q⟩ := h
    have nd := sc_is_whole.nd
    refine ⟨_, (pss_one (ps_ret (pe_and (pe_callB call_isi rfl T.z_isinstance boot_isinstance (pa_cons (pv 0) (pa_cons (pe_bltn (v := .ty "int") rfl T.z_int boot_int rfl) pa_nil))) (pe_one (pe_not (pe_callB call_isi rfl T.z_isinstance boot_isinstance (pa_cons (pv 0) (pa_cons (pe_bltn (v := .ty "bool") rfl T.z_bool boot_bool rfl) pa_nil)))))))), ?_⟩
    skip
    refine ⟨_, _, _, _, true, rfl, rfl, .int i, rfl, ?_⟩
    exact ⟨_, _, _, _, false, rfl, rfl, .int i, (by kernel_rfl), q⟩
noncomputable abbrev s_is_within : Stmt := top 9
theorem sc_is_within : FnScope ["value", "least", "most"] ["value", "least", "most"] (defScope s_is_within) := ⟨rfl, rfl, rfl, by decide +kernel, rfl, by decide +kernel, by decide +kernel⟩
theorem ok_is_within {f : Addr} {fd : FuncData} (F : Fun K "is_within" "is_within" s_is_within f fd) (T : Txt K mg CB CK CR CT CW CS DM FL FH FT FU P w) (d_is_whole : Df P w K mg base "is_whole" 1 ["value"] (spWhole)) : FnOk P w K mg base (CX1 P w) 2 f fd ["value", "least", "most"] (spWithin) := by
  refine F.ok1 sc_is_within (fun vs H Q E h => ?_) (fun cdv A outer s H vs Q E hr h => ?_)
  · obtain ⟨v, lo, hi, rfl, q⟩ := h; rfl
  · obtain ⟨v, lo, hi, rfl, q⟩ := h
    have nd := sc_is_within.nd
    refine ⟨_, (pss_one (ps_ret (pe_and (pe_own d_is_whole (hr.mono (by first | decide | lia)) rfl pass1 (pa_cons (pv 0) pa_nil)) (pe_one (pe_chain op_le op_le (pv 1) (pv 0) (pv 2)))))), ?_⟩
    skip
    refine ⟨_, rfl, ?_⟩
    refine ⟨_, rfl, ?_⟩
    cases hv : decide (lo ≤ v) with
    | true =>
      rw [hv] at q
      exact (q)
    | false =>
      rw [hv] at q
      exact q
noncomputable abbrev s_is_node : Stmt := top 14
theorem sc_is_node : FnScope ["value", "ahead"] ["value", "ahead"] (defScope s_is_node) := ⟨rfl, rfl, rfl, by decide +kernel, rfl, by decide +kernel, by decide +kernel⟩
theorem ok_is_node {f : Addr} {fd : FuncData} (F : Fun K "is_node" "is_node" s_is_node f fd) (T : Txt K mg CB CK CR CT CW CS DM FL FH FT FU P w) (d_is_within : Df P w K mg base "is_within" 2 ["value", "least", "most"] (spWithin)) : FnOk P w K mg base (CX1 P w) 3 f fd ["value", "ahead"] (spNode) := by
  refine F.ok1 sc_is_node (fun vs H Q E h => ?_) (fun cdv A outer s H vs Q E hr h => ?_)
  · obtain ⟨v, ahead, rfl, q⟩ := h; rfl
  · obtain ⟨v, ahead, rfl, q⟩ := h
    have nd := sc_is_node.nd
    refine ⟨_, (pss_one (ps_ret (pe_own d_is_within (hr.mono (by first | decide | lia)) rfl pass1 (pa_cons (pv 0) (pa_cons pe_int (pa_cons (pe_op op_sub (pv 1) pe_int) pa_nil)))))), ?_⟩
    skip
    refine ⟨v, 0, ahead - 1, rfl, ?_⟩
    have e : (decide (0 ≤ v) && decide (v ≤ ahead - 1)) = nodeB v ahead := by
      unfold nodeB
      congr 1
      exact decide_eq_decide.mpr ⟨fun h => by lia, fun h => by lia⟩
    rw [e]
    exact q
noncomputable abbrev s_is_step : Stmt := top 15
theorem sc_is_step : FnScope ["value", "ahead"] ["value", "ahead"] (defScope s_is_step) := ⟨rfl, rfl, rfl, by decide +kernel, rfl, by decide +kernel, by decide +kernel⟩
theorem ok_is_step {f : Addr} {fd : FuncData} (F : Fun K "is_step" "is_step" s_is_step f fd) (T : Txt K mg CB CK CR CT CW CS DM FL FH FT FU P w) (d_is_node : Df P w K mg base "is_node" 3 ["value", "ahead"] (spNode)) : FnOk P w K mg base (CX1 P w) 4 f fd ["value", "ahead"] (spStep) := by
  refine F.ok1 sc_is_step (fun vs H Q E h => ?_) (fun cdv A outer s H vs Q E hr h => ?_)
  · obtain ⟨r, l, ahead, rfl, hr0, q⟩ := h; rfl
  · obtain ⟨r, l, ahead, rfl, hr0, q⟩ := h
    have nd := sc_is_step.nd
    refine ⟨_, (pss_cons (ps_if (PW.pt (pw_or (pt_not (pt_truth (pe_callB call_isi rfl T.z_isinstance boot_isinstance (pa_cons (pv 0) (pa_cons (pe_bltn (v := .ty "tuple") rfl T.z_tuple boot_tuple rfl) pa_nil))) (fun _ => rfl))) (pw_or1 (pt_cmpR op_ne (pe_callB call_len_seq rfl T.z_len boot_len (pa_cons (pv 0) pa_nil)) pe_int (nomark _)))))
       (pss_one (ps_ret pe_bl))
       pss_nil)
       (pss_one (ps_ret (pe_and (pe_own d_is_node (hr.mono (by first | decide | lia)) rfl pass1 (pa_cons (pe_ix ix_tup (pv 0) pe_int (fun _ _ => rfl)) (pa_cons (pv 1) pa_nil))) (pe_one (pe_own d_is_node (hr.mono (by first | decide | lia)) rfl pass1 (pa_cons (pe_ix ix_tup (pv 0) pe_int (fun _ _ => rfl)) (pa_cons (pv 1) pa_nil)))))))), ?_⟩
    skip
    refine ⟨_, _, _, _, true, rfl, rfl, .tup hr0, rfl, true, rfl, ?_⟩
    refine ⟨_, _, rfl, .inr (SqT.of hr0), ?_⟩
    by_cases hl : l.length = 2
    · refine iteNS (by rw [List.length_map, hl]; rfl) ?_
      match l, hl with
      | [x, y], _ =>
        refine ⟨_, _, _, _, rfl, rfl, SqT.of hr0, rfl, _, _, rfl, ?_⟩
        have e : stepOk ahead [x, y] = (nodeB x ahead && nodeB y ahead) := by
          simp [stepOk, nodeB]
        rw [e] at q
        cases hx : nodeB x ahead with
        | false =>
          rw [hx] at q
          exact q
        | true =>
          rw [hx] at q
          exact ⟨_, _, _, _, rfl, rfl, SqT.of hr0, rfl, _, _, rfl, q⟩
    · have e : stepOk ahead l = false := by simp [stepOk, hl]
      rw [e] at q
      refine iteNT (fun z => hl ?_) q
      rw [List.length_map] at z
      have := V.int.inj z
      lia
noncomputable abbrev s_look_wide : Stmt := top 17
theorem sc_look_wide : FnScope ["wide"] ["wide"] (defScope s_look_wide) := ⟨rfl, rfl, rfl, by decide +kernel, rfl, by decide +kernel, by decide +kernel⟩
theorem ok_look_wide {f : Addr} {fd : FuncData} (F : Fun K "look_wide" "look_wide" s_look_wide f fd) (T : Txt K mg CB CK CR CT CW CS DM FL FH FT FU P w) (d_is_within : Df P w K mg base "is_within" 2 ["value", "least", "most"] (spWithin)) : FnOk P w K mg base (CX1 P w) 3 f fd ["wide"] (spWide CB) := by
  refine F.ok1 sc_look_wide (fun vs H Q E h => ?_) (fun cdv A outer s H vs Q E hr h => ?_)
  · obtain ⟨i, rfl, q1, q2⟩ := h; rfl
  · obtain ⟨i, rfl, q1, q2⟩ := h
    have nd := sc_look_wide.nd
    refine ⟨_, (pss_one (ps_if (pt_not (pt_truth (pe_own d_is_within (hr.mono (by first | decide | lia)) rfl pass1 (pa_cons (pv 0) (pa_cons pe_int (pa_cons (pe_glob (v := .int 64) rfl T.g_MOST_THINGS.choose_spec ⟨_, rfl⟩) pa_nil)))) (fun _ => rfl)))
       (pss_one (ps_raise rfl throws1 T.x_BadNet rfl (pa_cons (pe_fstr (pj_cons pe_str (pj_cons (pe_fv (pe_glob (v := .int 64) rfl T.g_MOST_THINGS.choose_spec ⟨_, rfl⟩)) (pj_cons pe_str pj_nil)))) pa_nil)))
       pss_nil)), ?_⟩
    skip
    refine ⟨i, 1, 64, rfl, ?_⟩
    refine ⟨_, rfl, ?_⟩
    refine iteN (fun h2 => ?_) (fun h2 => ?_)
    · exact ⟨_, rfl, fA _ (by decide), _, rfl, (by decide), _, rfl, fB _ (by decide) (by decide), _, rfl, fC _ _ (by decide) (by decide) (by decide), fC _ _ (by decide) (by decide) (by decide), (by decide), q2 (fun z => by simp at h2; lia)⟩
    · exact q1 (by simp at h2; lia)
noncomputable abbrev s_look_steps : Stmt := top 18
theorem sc_look_steps : FnScope ["wide", "steps", "place", "step"] ["wide", "steps"] (defScope s_look_steps) := ⟨rfl, rfl, rfl, by decide +kernel, rfl, by decide +kernel, by decide +kernel⟩
inductive Iv_look_steps_0 (H : Hp) (i : Int) (sa : Addr) (ls : List (List Int)) (j : Nat) (σ2 : L2.St) (H2 : Hp) : Prop
  | mk : ∀ v2 v3, (σ2 = [some (.int i), some (.ref sa), v2, v3]) → (Same H H2) → (∀ (m : Nat) l, m < j → ls[m]? = some l → stepOk (i + m) l = true) → Iv_look_steps_0 H i sa ls j σ2 H2
theorem ok_look_steps {f : Addr} {fd : FuncData} (F : Fun K "look_steps" "look_steps" s_look_steps f fd) (T : Txt K mg CB CK CR CT CW CS DM FL FH FT FU P w) (d_is_step : Df P w K mg base "is_step" 4 ["value", "ahead"] (spStep)) : FnOk P w K mg base (CX1 P w) 5 f fd ["wide", "steps"] (spSteps CB) := by
  refine F.ok1 sc_look_steps (fun vs H Q E h => ?_) (fun cdv A outer s H vs Q E hr h => ?_)
  · obtain ⟨i, sa, rs, ls, rfl, hsa, hst, k⟩ := h; rfl
  · obtain ⟨i, sa, rs, ls, rfl, hsa, hst, k⟩ := h
    have nd := sc_look_steps.nd
    refine ⟨_, (pss_cons (ps_if (PW.pt (pw_or (pt_not (pt_truth (pe_callB call_isi rfl T.z_isinstance boot_isinstance (pa_cons (pv 1) (pa_cons (pe_bltn (v := .ty "list") rfl T.z_list boot_list rfl) pa_nil))) (fun _ => rfl))) (pw_or1 (pt_cmpR op_gt (pe_callB call_len_seq rfl T.z_len boot_len (pa_cons (pv 1) pa_nil)) (pe_glob (v := .int 500) rfl T.g_MOST_STEPS.choose_spec ⟨_, rfl⟩) (nomark _)))))
       (pss_one (ps_raise rfl throws1 T.x_BadNet rfl (pa_cons (pe_fstr (pj_cons pe_str (pj_cons (pe_fv (pe_glob (v := .int 500) rfl T.g_MOST_STEPS.choose_spec ⟨_, rfl⟩)) (pj_cons pe_str pj_nil)))) pa_nil)))
       pss_nil)
       (pss_one (ps_for powns1 rfl (pi_enum rfl T.z_enumerate (pa_cons (pv 1) pa_nil)) (pg_tup rfl (pgs_cons (pg_name (i := 2) nd rfl (Or.inl rfl)) (pgs_cons (pg_name (i := 3) nd rfl (Or.inl rfl)) pgs_nil)))
       (pss_one (ps_if (pt_not (pt_truth (pe_own d_is_step (hr.mono (by first | decide | lia)) rfl pass1 (pa_cons (pv 3) (pa_cons (pe_op op_add (pv 0) (pv 2)) pa_nil))) (fun _ => rfl)))
       (pss_one (ps_raise rfl throws1 T.x_BadNet rfl (pa_cons (pe_fstr (pj_cons pe_str (pj_cons (pe_fv (pv 2)) (pj_cons pe_str pj_nil)))) pa_nil)))
       pss_nil))))), ?_⟩
    skip
    have hll := hst.length
    refine ⟨_, _, _, _, true, rfl, rfl, .lst hsa, rfl, true, rfl, ?_⟩
    refine ⟨_, _, rfl, .inl (SqL.of hsa), ?_⟩
    refine iteB (fun h1 => ?_) (fun h1 => ?_)
    · refine ⟨_, rfl, fA _ (by decide), _, rfl, (by decide), _, rfl, fB _ (by decide) (by decide), _, rfl, fC _ _ (by decide) (by decide) (by decide), fC _ _ (by decide) (by decide) (by decide), (by decide), (k H (Same.refl H)).2 (fun z => by simp at h1; lia)⟩
    · refine ⟨sa, rfl, ⟨_, SqL.of hsa⟩, for_enum (K := K) (a := sa) (xs := rs) (Iv_look_steps_0 H i sa ls)
        ⟨_, _, rfl, Same.refl H, fun m l hm => absurd hm (Nat.not_lt_zero _)⟩ (fun j σ2 H2 _ ⟨_, _, _, s2, _⟩ => SqL.of (s2 _ _ hsa)) ?_ ?_⟩
      · rintro j x σ2 H2 p hx ⟨v2, v3, rfl, s2, hok⟩ hp
        refine L2.ob_eeaa (hst.get hx) fun r l e_2 hl hr0 => ?_; subst e_2
        have s3 : Same H (upd H2 p (.tup [.int j, .ref r])) := s2.upd (s2.free hp)
        refine ⟨p, _, rfl, SqT.of upd_same, rfl, ?_⟩
        refine ⟨r, l, _, rfl, s3 _ _ hr0, _, rfl, ?_⟩
        have hj : j ≤ 16777216 := by
          have := (List.getElem?_eq_some_iff.mp hx).1
          simp at h1
          lia
        refine iteN (fun h2 => ?_) (fun h2 => ?_)
        · refine ⟨_, rfl, fA _ (by decide), _, rfl, log2_small hj, _, rfl, fB _ (by decide) (log2_small hj), _, rfl, fC _ _ (by decide) (by decide) (log2_small hj), fC _ _ (by decide) (by decide) (log2_small hj), (show 1 ≤ sizeLine by decide), (k _ s3).2 (fun z => ?_)⟩
          have := z.2 j l hl
          rw [h2] at this; cases this
        · refine ⟨_, _, rfl, s3, fun m l' hm hl' => ?_⟩
          by_cases e : m = j
          · subst e
            rw [hl] at hl'; obtain rfl := Option.some.inj hl'
            exact h2
          · exact hok m l' (by lia) hl'
      · rintro σ2 H2 ⟨v2, v3, rfl, s2, hok⟩
        refine (k H2 s2).1 ⟨by simp at h1; lia, fun m l hl => hok m l ?_ hl⟩
        rw [hll]; exact (List.getElem?_eq_some_iff.mp hl).1
noncomputable abbrev s_look_outs : Stmt := top 19
theorem sc_look_outs : FnScope ["wide", "steps", "outs", "place", "out"] ["wide", "steps", "outs"] (defScope s_look_outs) := ⟨rfl, rfl, rfl, by decide +kernel, rfl, by decide +kernel, by decide +kernel⟩
inductive Iv_look_outs_0 (H : Hp) (i : Int) (sa : Addr) (oa : Addr) (rs : List V) (outs : List Int) (j : Nat) (σ2 : L2.St) (H2 : Hp) : Prop
  | mk : ∀ v2 v3, (σ2 = [some (.int i), some (.ref sa), some (.ref oa), v2, v3]) → (Same H H2) → (∀ (m : Nat) v, m < j → outs[m]? = some v → 0 ≤ v ∧ v < i + rs.length) → Iv_look_outs_0 H i sa oa rs outs j σ2 H2
theorem ok_look_outs {f : Addr} {fd : FuncData} (F : Fun K "look_outs" "look_outs" s_look_outs f fd) (T : Txt K mg CB CK CR CT CW CS DM FL FH FT FU P w) (d_is_node : Df P w K mg base "is_node" 3 ["value", "ahead"] (spNode)) : FnOk P w K mg base (CX1 P w) 4 f fd ["wide", "steps", "outs"] (spOuts CB) := by
  refine F.ok1 sc_look_outs (fun vs H Q E h => ?_) (fun cdv A outer s H vs Q E hr h => ?_)
  · obtain ⟨i, sa, oa, rs, outs, rfl, hol, hsa, hoa, k⟩ := h; rfl
  · obtain ⟨i, sa, oa, rs, outs, rfl, hol, hsa, hoa, k⟩ := h
    have nd := sc_look_outs.nd
    refine ⟨_, (pss_cons (ps_if (PW.pt (pw_or (pt_not (pt_truth (pe_callB call_isi rfl T.z_isinstance boot_isinstance (pa_cons (pv 2) (pa_cons (pe_bltn (v := .ty "list") rfl T.z_list boot_list rfl) pa_nil))) (fun _ => rfl))) (pw_or1 (pt_cmpR op_ne (pe_callB call_len_seq rfl T.z_len boot_len (pa_cons (pv 2) pa_nil)) (pv 0) (nomark _)))))
       (pss_one (ps_raise rfl throws1 T.x_BadNet rfl (pa_cons pe_str pa_nil)))
       pss_nil)
       (pss_one (ps_for powns1 rfl (pi_enum rfl T.z_enumerate (pa_cons (pv 2) pa_nil)) (pg_tup rfl (pgs_cons (pg_name (i := 3) nd rfl (Or.inl rfl)) (pgs_cons (pg_name (i := 4) nd rfl (Or.inl rfl)) pgs_nil)))
       (pss_one (ps_if (pt_not (pt_truth (pe_own d_is_node (hr.mono (by first | decide | lia)) rfl pass1 (pa_cons (pv 4) (pa_cons (pe_op op_add (pv 0) (pe_callB call_len_seq rfl T.z_len boot_len (pa_cons (pv 1) pa_nil))) pa_nil))) (fun _ => rfl)))
       (pss_one (ps_raise rfl throws1 T.x_BadNet rfl (pa_cons (pe_fstr (pj_cons pe_str (pj_cons (pe_fv (pv 3)) (pj_cons pe_str pj_nil)))) pa_nil)))
       pss_nil))))), ?_⟩
    skip
    refine ⟨_, _, _, _, true, rfl, rfl, .lst hoa, rfl, true, rfl, ?_⟩
    refine ⟨_, _, rfl, .inl (SqL.of hoa), ?_⟩
    by_cases h1 : (outs.length : Int) = i
    · refine iteNS (by rw [List.length_map, h1]) ?_
      refine ⟨oa, rfl, ⟨_, SqL.of hoa⟩, for_enum (K := K) (a := oa) (xs := outs.map V.int) (Iv_look_outs_0 H i sa oa rs outs)
        ⟨_, _, rfl, Same.refl H, fun m l hm => absurd hm (Nat.not_lt_zero _)⟩ (fun j σ2 H2 _ ⟨_, _, _, s2, _⟩ => SqL.of (s2 _ _ hoa)) ?_ ?_⟩
      · rintro j x σ2 H2 p hx ⟨v2, v3, rfl, s2, hok⟩ hp
        rw [List.getElem?_map] at hx
        refine L2.ob_ea (Option.map_eq_some_iff.mp hx) fun v hv e_2 => ?_; subst e_2
        have s3 : Same H (upd H2 p (.tup [.int j, .int v])) := s2.upd (s2.free hp)
        refine ⟨p, _, rfl, SqT.of upd_same, rfl, ?_⟩
        refine ⟨_, _, rfl, .inl (SqL.of (s3 _ _ hsa)), v, _, rfl, _, rfl, ?_⟩
        have hj : j ≤ 16777216 := by
          have h3 := (List.getElem?_eq_some_iff.mp hv).1
          lia
        refine iteN (fun h2 => ?_) (fun h2 => ?_)
        · refine ⟨_, rfl, fA _ (by decide), _, rfl, log2_small hj, _, rfl, fB _ (by decide) (log2_small hj), _, rfl, fC _ _ (by decide) (by decide) (log2_small hj), fC _ _ (by decide) (by decide) (log2_small hj), (show 1 ≤ sizeLine by decide), (k _ s3).2 (fun z => ?_)⟩
          have := z.2 v (List.mem_of_getElem? hv)
          unfold nodeB at h2
          simp at h2
          lia
        · refine ⟨_, _, rfl, s3, fun m v' hm hv' => ?_⟩
          by_cases e : m = j
          · subst e
            rw [hv] at hv'; obtain rfl := Option.some.inj hv'
            unfold nodeB at h2
            simp at h2
            lia
          · exact hok m v' (by lia) hv'
      · rintro σ2 H2 ⟨v2, v3, rfl, s2, hok⟩
        refine (k H2 s2).1 ⟨h1, fun v hv => ?_⟩
        obtain ⟨m, hm⟩ := List.getElem?_of_mem hv
        exact hok m v (by rw [List.length_map]; exact (List.getElem?_eq_some_iff.mp hm).1) hm
    · refine iteNT (fun z => h1 ?_) ⟨by decide, (k H (Same.refl H)).2 (fun z => h1 z.1)⟩
      rw [List.length_map] at z
      exact V.int.inj z
noncomputable abbrev s_look_net : Stmt := top 16
theorem sc_look_net : FnScope ["net"] ["net"] (defScope s_look_net) := ⟨rfl, rfl, rfl, by decide +kernel, rfl, by decide +kernel, by decide +kernel⟩
theorem ok_look_net {f : Addr} {fd : FuncData} (F : Fun K "look_net" "look_net" s_look_net f fd) (T : Txt K mg CB CK CR CT CW CS DM FL FH FT FU P w) (d_look_wide : Df P w K mg base "look_wide" 3 ["wide"] (spWide CB)) (d_look_steps : Df P w K mg base "look_steps" 5 ["wide", "steps"] (spSteps CB)) (d_look_outs : Df P w K mg base "look_outs" 4 ["wide", "steps", "outs"] (spOuts CB)) : FnOk P w K mg base (CX1 P w) 6 f fd ["net"] (spLook CB) := by
  refine F.ok1 sc_look_net (fun vs H Q E h => ?_) (fun cdv A outer s H vs Q E hr h => ?_)
  · obtain ⟨a, sa, oa, rs, wide, steps, outs, rfl, hol, n, k⟩ := h; rfl
  · obtain ⟨a, sa, oa, rs, wide, steps, outs, rfl, hol, n, k⟩ := h
    have nd := sc_look_net.nd
    refine ⟨_, (pss_cons (ps_if (PW.pt (pw_or (pt_not (pt_truth (pe_callB call_isi rfl T.z_isinstance boot_isinstance (pa_cons (pv 0) (pa_cons (pe_bltn (v := .ty "tuple") rfl T.z_tuple boot_tuple rfl) pa_nil))) (fun _ => rfl))) (pw_or1 (pt_cmpR op_ne (pe_callB call_len_seq rfl T.z_len boot_len (pa_cons (pv 0) pa_nil)) pe_int (nomark _)))))
       (pss_one (ps_raise rfl throws1 T.x_BadNet rfl (pa_cons pe_str pa_nil)))
       pss_nil)
       (pss_cons (ps_expr (pe_own d_look_wide (hr.mono (by first | decide | lia)) rfl pass1 (pa_cons (pe_ix ix_tup (pv 0) pe_int (fun _ _ => rfl)) pa_nil)))
       (pss_cons (ps_expr (pe_own d_look_steps (hr.mono (by first | decide | lia)) rfl pass1 (pa_cons (pe_ix ix_tup (pv 0) pe_int (fun _ _ => rfl)) (pa_cons (pe_ix ix_tup (pv 0) pe_int (fun _ _ => rfl)) pa_nil))))
       (pss_one (ps_expr (pe_own d_look_outs (hr.mono (by first | decide | lia)) rfl pass1 (pa_cons (pe_ix ix_tup (pv 0) pe_int (fun _ _ => rfl)) (pa_cons (pe_ix ix_tup (pv 0) pe_int (fun _ _ => rfl)) (pa_cons (pe_ix ix_tup (pv 0) pe_int (fun _ _ => rfl)) pa_nil))))))))), ?_⟩
    skip
    have hll := n.st.length
    refine ⟨_, _, _, _, true, rfl, rfl, .tup n.net, rfl, true, rfl, ?_⟩
    refine ⟨_, _, rfl, .inr (SqT.of n.net), ?_⟩
    refine ⟨_, _, _, _, rfl, rfl, SqT.of n.net, rfl, wide, rfl, fun h1 => ?_, fun h1 => (k H (Same.refl H)).2 (fun g => h1 ⟨g.lo, g.hi⟩)⟩
    refine ⟨_, _, _, _, rfl, rfl, SqT.of n.net, rfl, _, _, _, _, rfl, rfl, SqT.of n.net, rfl, wide, sa, rs, steps, rfl, n.sts, n.st, fun H2 s2 => ⟨fun h2 => ?_, fun h2 => (k H2 s2).2 (fun g => h2 ⟨g.len, g.st⟩)⟩⟩
    have n2 := n.mono s2
    refine ⟨_, _, _, _, rfl, rfl, SqT.of n2.net, rfl, _, _, _, _, rfl, rfl, SqT.of n2.net, rfl, _, _, _, _, rfl, rfl, SqT.of n2.net, rfl, wide, sa, oa, rs, outs, rfl, hol, n2.sts, n2.ots, fun H3 s3 => ⟨fun h3 => ?_, fun h3 => (k H3 (s2.trans s3)).2 (fun g => h3 ⟨g.ol, by rw [hll]; exact g.ou⟩)⟩⟩
    rw [hll] at h3
    exact (k H3 (s2.trans s3)).1 ⟨h1.1, h1.2, h2.1, h2.2, h3.1, h3.2⟩
noncomputable abbrev s_depths : Stmt := top 20
theorem sc_depths : FnScope ["net", "found", "step"] ["net"] (defScope s_depths) := ⟨rfl, rfl, rfl, by decide +kernel, rfl, by decide +kernel, by decide +kernel⟩
inductive Iv_depths_0 (a : Addr) (H2 : Hp) (N : NetN) (l : Addr) (i : Nat) (σ3 : L2.St) (H3 : Hp) : Prop
  | mk : ∀ v, (σ3 = [some (.ref a), some (.ref l), v]) → (Same H2 H3) → (H3 l = some (.lst ((N.depthsTo i).map V.int))) → Iv_depths_0 a H2 N l i σ3 H3
theorem ok_depths {f : Addr} {fd : FuncData} (F : Fun K "depths" "depths" s_depths f fd) (T : Txt K mg CB CK CR CT CW CS DM FL FH FT FU P w) (d_look_net : Df P w K mg base "look_net" 6 ["net"] (spLook CB)) : FnOk P w K mg base (CX1 P w) 7 f fd ["net"] (spNetFn CB (tellInts NetN.depths)) := by
  refine F.ok1 sc_depths (fun vs H Q E h => ?_) (fun cdv A outer s H vs Q E hr h => ?_)
  · obtain ⟨a, sa, oa, rs, wide, steps, outs, rfl, hol, n, k⟩ := h; rfl
  · obtain ⟨a, sa, oa, rs, wide, steps, outs, rfl, hol, n, k⟩ := h
    have nd := sc_depths.nd
    refine ⟨_, (pss_cons (ps_expr (pe_own d_look_net (hr.mono (by first | decide | lia)) rfl pass1 (pa_cons (pv 0) pa_nil)))
       (pss_cons (ps_set (i := 1) nd rfl (Or.inl rfl) (pe_op op_rep (pe_lst (pa_cons pe_int pa_nil)) (pe_ix ix_tup (pv 0) pe_int (fun _ _ => rfl))))
       (pss_cons (ps_for powns1 rfl (pi_list (pe_ix ix_tup (pv 0) pe_int (fun _ _ => rfl))) (pg_name (i := 2) nd rfl (Or.inl rfl))
       (pss_one (ps_expr (pe_bm PySem.F.plainAttrs_list PySem.F.slot_list_append PySem.F.type_list_append mt_append (pv 1) (pa_cons (pe_op op_add pe_int (pe_callB (call_max2 rfl) rfl T.z_max boot_max (pa_cons (pe_ix ix_list (pv 1) (pe_ix ix_tup (pv 2) pe_int (fun _ _ => rfl)) (fun _ _ => rfl)) (pa_cons (pe_ix ix_list (pv 1) (pe_ix ix_tup (pv 2) pe_int (fun _ _ => rfl)) (fun _ _ => rfl)) pa_nil)))) pa_nil)))))
       (pss_one (ps_ret (pv 1)))))), ?_⟩
    skip
    refine ⟨a, sa, oa, rs, wide, steps, outs, rfl, hol, n, fun H2 s2 => ⟨fun g => ?_, fun g => (k H2 s2).2 g⟩⟩
    refine L2.ob_eaaa g.net fun N hN e_2 e_3 e_4 => ?_; subst e_2; subst e_3; subst e_4
    have n2 := n.mono s2
    have hw := hN.hi
    have hln := hN.len
    refine ⟨(show 1 ≤ sizeLine by decide), fun q hq => ?_⟩
    have s3 : Same H2 (upd H2 q (.lst [.int 0])) := Same.new hq
    refine ⟨_, _, _, _, rfl, rfl, SqT.of (s3 _ _ n2.net), rfl, q, _, _, rfl, rfl, upd_same, by solve_by_elim, by lia, fits (by simp; lia), fun l hl => ?_⟩
    have hlH : H2 l = none := s3.free hl
    have s4 : ∀ o, Same H2 (upd (upd H2 q (.lst [.int 0])) l o) := fun o => s3.upd hlH
    rw [Int.toNat_natCast, rep_int]
    refine ⟨_, _, _, _, rfl, rfl, SqT.of (s4 _ _ _ n2.net), rfl, sa, rfl, ⟨_, SqL.of (s4 _ _ _ n2.sts)⟩, for_list (K := K) (a := sa) (xs := rs) (Iv_depths_0 a H2 N l)
      ⟨_, rfl, s4 _, by rw [upd_same, N.depthsTo_zero]⟩ (fun i σ3 H3 _ ⟨_, _, s5, _⟩ => SqL.of (s5 _ _ n2.sts)) ?_ ?_⟩
    · rintro i x σ3 H3 hx ⟨v, rfl, s5, hl3⟩
      refine L2.ob_eeaa (NetN.Ok.steps_get n2.st hx) fun r p e_2 hp hr0 => ?_; subst e_2
      obtain ⟨p1, p2⟩ := hN.s1 i p hp
      have hil := (List.getElem?_eq_some_iff.mp hp).1
      have hlen := N.depthsTo_len i
      rw [List.length_take] at hlen
      have hr3 := s5 _ _ hr0
      refine ⟨.inl ⟨rfl, _, SqL.of hl3⟩, r, _, _, _, rfl, rfl, SqT.of hr3, rfl, l, _, _, _, rfl, rfl, SqL.of hl3, atI_ints (by lia),
        r, _, _, _, rfl, rfl, SqT.of hr3, rfl, l, _, _, _, rfl, rfl, SqL.of hl3, atI_ints (by lia), _, _, rfl, l, _, _, rfl, rfl, hl3, fitsL (by rw [List.length_map]; lia), ?_⟩
      refine ⟨_, rfl, s5.upd hlH, ?_⟩
      rw [upd_same, N.depthsTo_succ hp, dstep, List.map_append]
      rfl
    · rintro σ3 H3 ⟨v, rfl, s5, hl3⟩
      conv => whnf
      have e : rs.length = N.st.length := by rw [n2.st.length, steps_len]
      rw [e, N.depthsTo_all] at hl3
      exact (k H3 (s2.trans s5)).1 N hN rfl rfl rfl l hl3
end
end K42

namespace K42
open PySem L2 NM PyProof.Rows
section
variable {P : Program} {w : World} {K : PySem.W.Frag} {mg : Str → Option Value} {base : Heap} {CB CK CR CT CW CS DM FL FH FT FU PT : Addr}
noncomputable abbrev s__law_cell : Stmt := top 35
theorem sc__law_cell : FnScope ["_law_script", "_law_k"] ["_law_script", "_law_k"] (defScope s__law_cell) := ⟨rfl, rfl, rfl, by decide +kernel, rfl, by decide +kernel, by decide +kernel⟩
theorem ok__law_cell {f : Addr} {fd : FuncData} (F : Fun K "_law_cell" "_law_cell" s__law_cell f fd) (T : Txt K mg CB CK CR CT CW CS DM FL FH FT FU P w)  : FnOk P w K mg base (CX1 P w) 1 f fd ["_law_script", "_law_k"] (spCell K) := by
  refine F.ok1 sc__law_cell (fun vs H Q E h => ?_) (fun cdv A outer s H vs Q E hr h => ?_)
  · obtain ⟨a, ns, k, rfl, S, q⟩ := h; rfl
  · obtain ⟨a, ns, k, rfl, S, q⟩ := h
    have nd := sc__law_cell.nd
    refine ⟨_, (pss_cons (ps_if (pt_truth (pv 0) (fun _ => rfl))
       (pss_one (ps_ret (pe_ix ix_list (pv 0) (pe_op op_mod (pv 1) (pe_callB call_len_seq rfl T.z_len boot_len (pa_cons (pv 0) pa_nil))) (fun _ _ => rfl))))
       pss_nil)
       (pss_one (ps_ret pe_int))), ?_⟩
    skip
    refine ⟨_, .inl ⟨_, S, rfl⟩, iteN (fun h1 => ?_) (fun h1 => q 0)⟩
    have hne : ns ≠ [] := fun z => by rw [z] at h1; cases h1
    obtain ⟨z, hz⟩ := mod_at (k := k) hne
    have hp := pos_of_ne hne
    exact ⟨_, _, rfl, .inl S, (by rw [List.length_map]; lia), a, _, _, _, rfl, rfl, S, hz, q _⟩
noncomputable abbrev s__law_mix : Stmt := top 36
theorem sc__law_mix : FnScope ["_law_script", "_law_k", "_law_number"] ["_law_script", "_law_k"] (defScope s__law_mix) := ⟨rfl, rfl, rfl, by decide +kernel, rfl, by decide +kernel, by decide +kernel⟩
theorem ok__law_mix {f : Addr} {fd : FuncData} (F : Fun K "_law_mix" "_law_mix" s__law_mix f fd) (T : Txt K mg CB CK CR CT CW CS DM FL FH FT FU P w) (d__law_cell : Df P w K mg base "_law_cell" 1 ["_law_script", "_law_k"] (spCell K)) : FnOk P w K mg base (CX1 P w) 2 f fd ["_law_script", "_law_k"] (spMix K) := by
  refine F.ok1 sc__law_mix (fun vs H Q E h => ?_) (fun cdv A outer s H vs Q E hr h => ?_)
  · obtain ⟨a, ns, k, rfl, S, q⟩ := h; rfl
  · obtain ⟨a, ns, k, rfl, S, q⟩ := h
    have nd := sc__law_mix.nd
    refine ⟨_, (pss_cons (ps_set (i := 2) nd rfl (Or.inl rfl) (pe_op op_mod (pe_op op_add (pe_own d__law_cell (hr.mono (by first | decide | lia)) rfl pass1 (pa_cons (pv 0) (pa_cons (pv 1) pa_nil))) (pe_op op_mul pe_int (pe_op op_add (pv 1) pe_int))) pe_int))
       (pss_cons (ps_set (i := 2) nd rfl (Or.inl rfl) (pe_op op_mod (pe_op op_mul (pv 2) pe_int) pe_int))
       (pss_one (ps_ret (pe_op op_mod (pe_op op_add (pe_op op_mul (pe_op op_fdiv (pv 2) pe_int) pe_int) (pv 2)) pe_int))))), ?_⟩
    skip
    refine ⟨a, ns, k, rfl, S, fun i => ?_⟩
    refine ⟨.inl ⟨by decide, by decide⟩, (show (0 : Int) < 4294967291 by decide), ?_⟩
    refine ⟨.inr ⟨by decide, by decide⟩, (show (0 : Int) < 4294967279 by decide), ?_⟩
    refine ⟨⟨by decide, by decide⟩, .inr ⟨by decide, by decide⟩, (show (0 : Int) < 4294967231 by decide), ?_⟩
    exact q _ (Int.emod_nonneg _ (by decide))
noncomputable abbrev s__law_whole : Stmt := top 37
theorem sc__law_whole : FnScope ["_law_found"] ["_law_found"] (defScope s__law_whole) := ⟨rfl, rfl, rfl, by decide +kernel, rfl, by decide +kernel, by decide +kernel⟩
theorem ok__law_whole {f : Addr} {fd : FuncData} (F : Fun K "_law_whole" "_law_whole" s__law_whole f fd) (T : Txt K mg CB CK CR CT CW CS DM FL FH FT FU P w)  : FnOk P w K mg base (CX1 P w) 1 f fd ["_law_found"] (spWhole) := by
  refine F.ok1 sc__law_whole (fun vs H Q E h => ?_) (fun cdv A outer s H vs Q E hr h => ?_)
  · obtain ⟨i, rfl, q⟩ := h; rfl
  · obtain ⟨i, rfl, q⟩ := h
    have nd := sc__law_whole.nd
    refine ⟨_, (pss_one (ps_ret (pe_and (pe_callB call_isi rfl T.z_isinstance boot_isinstance (pa_cons (pv 0) (pa_cons (pe_bltn (v := .ty "int") rfl T.z_int boot_int rfl) pa_nil))) (pe_one (pe_not (pe_callB call_isi rfl T.z_isinstance boot_isinstance (pa_cons (pv 0) (pa_cons (pe_bltn (v := .ty "bool") rfl T.z_bool boot_bool rfl) pa_nil)))))))), ?_⟩
    skip
    refine ⟨_, _, _, _, true, rfl, rfl, .int i, rfl, ?_⟩
    exact ⟨_, _, _, _, false, rfl, rfl, .int i, (by kernel_rfl), q⟩
noncomputable abbrev s__law_net : Stmt := top 38
theorem sc__law_net : FnScope ["_law_script", "_law_k", "_law_most", "_law_wide", "_law_steps", "_law_j", "_law_number", "_law_other", "_law_one", "_law_outs"] ["_law_script", "_law_k", "_law_most"] (defScope s__law_net) := ⟨rfl, rfl, rfl, by decide +kernel, rfl, by decide +kernel, by decide +kernel⟩
theorem ok__law_net {f : Addr} {fd : FuncData} (F : Fun K "_law_net" "_law_net" s__law_net f fd) (T : Txt K mg CB CK CR CT CW CS DM FL FH FT FU P w) (d__law_mix : Df P w K mg base "_law_mix" 2 ["_law_script", "_law_k"] (spMix K)) : FnOk P w K mg base (CX1 P w) 3 f fd ["_law_script", "_law_k", "_law_most"] (spDrawnN K) := by
  refine F.ok1 sc__law_net (fun vs H Q E h => ?_) (fun cdv A outer s H vs Q E hr h => ?_)
  · obtain ⟨a, ns, k, most, rfl, m1, m2, S, q⟩ := h; rfl
  · obtain ⟨a, ns, k, most, rfl, m1, m2, S, q⟩ := h
    have nd := sc__law_net.nd
    refine ⟨_, (pss_cons (ps_set (i := 3) nd rfl (Or.inr rfl) (pe_op op_add pe_int (pe_op op_mod (pe_own d__law_mix (hr.mono (by first | decide | lia)) rfl pass1 (pa_cons (pv 0) (pa_cons (pv 1) pa_nil))) (pv 2))))
       (pss_cons (ps_set (i := 4) nd rfl (Or.inr rfl) (pe_lst pa_nil))
       (pss_cons (ps_for powns1 rfl (pi_range1 rfl T.z_range (pa_cons (pe_op op_mod (pe_own d__law_mix (hr.mono (by first | decide | lia)) rfl pass1 (pa_cons (pv 0) (pa_cons (pe_op op_add (pv 1) pe_int) pa_nil))) pe_int) pa_nil)) (pg_name (i := 5) nd rfl (Or.inl rfl))
       (pss_cons (ps_set (i := 6) nd rfl (Or.inl rfl) (pe_own d__law_mix (hr.mono (by first | decide | lia)) rfl pass1 (pa_cons (pv 0) (pa_cons (pe_op op_add (pe_op op_add (pv 1) pe_int) (pv 5)) pa_nil))))
       (pss_cons (ps_set (i := 7) nd rfl (Or.inl rfl) (pe_op op_mod (pe_op op_fdiv (pv 6) pe_int) (pe_op op_add (pv 3) (pv 5))))
       (pss_cons (ps_set (i := 8) nd rfl (Or.inl rfl) (pe_ix ix_list (pe_lst (pa_cons (pe_callB (call_max2 rfl) rfl T.z_max boot_max (pa_cons pe_int (pa_cons (pe_op op_sub (pv 7) pe_int) pa_nil))) (pa_cons (pe_op op_mod (pv 6) (pe_op op_add (pv 3) (pv 5))) (pa_cons (pv 7) (pa_cons (pe_op op_sub (pe_op op_add (pv 3) (pv 5)) pe_int) pa_nil))))) (pe_op op_mod (pe_op op_fdiv (pv 6) pe_int) pe_int) (fun _ _ => rfl)))
       (pss_one (ps_expr (pe_bm PySem.F.plainAttrs_list PySem.F.slot_list_append PySem.F.type_list_append mt_append (pv 4) (pa_cons (pe_tup (pa_cons (pv 8) (pa_cons (pv 7) pa_nil))) pa_nil))))))))
       (pss_cons (ps_setcomp (ot := none) 9 [0, 1, 3, 4] rfl nd rfl rfl (pi_range1 rfl T.z_range (pa_cons (pv 3) pa_nil)) (fun _ _ _ _ => (pe_op op_mod (pe_own d__law_mix (hr.mono (by first | decide | lia)) rfl pass10 (pa_cons (pv 1) (pa_cons (pe_op op_add (pe_op op_add (pv 2) pe_int) (pv 0)) pa_nil))) (pe_op op_add (pv 3) (pe_callB (show CallR _ _ (rLenS K) from call_lenS) rfl T.z_len boot_len (pa_cons (pv 4) pa_nil))))) (fun _ _ _ _ => trivial) rfl (nodupS_of rfl))
       (pss_one (ps_ret (pe_tup (pa_cons (pv 3) (pa_cons (pv 4) (pa_cons (pv 9) pa_nil)))))))))), ?_⟩
    skip
    refine ⟨a, ns, k, rfl, S, fun i hi => ?_⟩
    refine ⟨(show (0 : Int) < (most : Int) by lia), ?_⟩
    have w0 := Int.emod_nonneg i (show (most : Int) ≠ 0 by lia)
    have w1 := Int.emod_lt_of_pos i (show 0 < (most : Int) by lia)
    try dsimp only [rI0, onI]
    generalize i % (most : Int) = w' at w0 w1 ⊢
    obtain ⟨w, hw⟩ : ∃ w : Nat, 1 + w' = (w : Int) := ⟨(1 + w').toNat, by lia⟩
    try dsimp only [rI0, onI]
    rw [hw]
    refine ⟨(show 0 ≤ sizeLine by decide), fun sa hsa => ?_⟩
    have s1 : ∀ o, Same H (upd H sa o) := fun o => Same.new hsa
    refine ⟨a, ns, _, rfl, (s1 _).seq S, fun i2 hi2 => ?_⟩
    have c0 := Int.emod_nonneg i2 (show (9 : Int) ≠ 0 by decide)
    have c1 := Int.emod_lt_of_pos i2 (show (0 : Int) < 9 by decide)
    refine ⟨(show (0 : Int) < 9 by decide), _, rfl, (by lia), (by lia), ?_⟩
    generalize i2 % 9 = c at c0 c1 ⊢
    refine for_range (lo := 0) (n := c.toNat) (fun j σ2 H2 => ∃ (rs : List V) (st : List (Nat × Nat)) (v5 v6 v7 v8 v9 : Option V), σ2 = [some (.ref a), some (.int k), some (.int (most : Nat)), some (.int (w : Nat)), some (.ref sa), v5, v6, v7, v8, v9] ∧ Same H H2 ∧ H2 sa = some (.lst rs) ∧ StepsAt H2 rs (st.map pairI) ∧ st.length = j ∧ ∀ (k : Nat) p, st[k]? = some p → p.1 < w + k ∧ p.2 < w + k)
      ⟨[], [], _, _, _, _, _, rfl, s1 _, upd_same, .nil, rfl, fun k p z => by simp at z⟩ ?_ ?_
    · rintro j σ2 H2 hj ⟨rs, st, v5, v6, v7, v8, v9, rfl, s2, hs2, st2, hll, hok⟩
      refine ⟨a, ns, _, rfl, s2.seq S, fun num hn => ?_⟩
      have pos : 0 < (w : Int) + (0 + (j : Int)) := by lia
      refine ⟨⟨by decide, by decide⟩, pos, ?_⟩
      have d0 := Int.emod_nonneg (num / 4096) (show (4 : Int) ≠ 0 by decide)
      have d1 := Int.emod_lt_of_pos (num / 4096) (show (0 : Int) < 4 by decide)
      have o0 := Int.emod_nonneg (num / 64) (show (w : Int) + (0 + (j : Int)) ≠ 0 by lia)
      have o1 := Int.emod_lt_of_pos (num / 64) pos
      have x0 := Int.emod_nonneg num (show (w : Int) + (0 + (j : Int)) ≠ 0 by lia)
      have x1 := Int.emod_lt_of_pos num pos
      dsimp only
      generalize num / 64 % ((w : Int) + (0 + (j : Int))) = ot at o0 o1 ⊢
      obtain ⟨o, rfl⟩ : ∃ o : Nat, ot = (o : Int) := ⟨ot.toNat, by lia⟩
      refine ⟨_, _, rfl, pos, (show 4 ≤ sizeLine by decide), fun q4 hq4 => ?_⟩
      obtain ⟨z, hone, one, rfl, ho⟩ := pick4 (a := V.int (if (o : Int) - 1 > 0 then (o : Int) - 1 else 0)) (b := V.int (num % ((w : Int) + (0 + (j : Int))))) (c := V.int (o : Int)) (d := V.int ((w : Int) + (0 + (j : Int)) - 1)) d0 d1 (R := fun z => ∃ u : Nat, z = V.int (u : Nat) ∧ u < w + j)
        ⟨(if (o : Int) - 1 > 0 then (o : Int) - 1 else 0).toNat, by congr 1; split <;> lia, by split <;> lia⟩ ⟨(num % ((w : Int) + (0 + (j : Int)))).toNat, by congr 1; lia, by lia⟩ ⟨o, rfl, by lia⟩ ⟨w + j - 1, by congr 1; lia, by lia⟩
      refine ⟨⟨by decide, by decide⟩, (show (0 : Int) < 4 by decide), q4, _, _, _, rfl, rfl, SqL.of upd_same, hone, ?_⟩
      have s3 : ∀ o, Same H2 (upd H2 q4 o) := fun o => Same.new hq4
      refine ⟨.inl ⟨rfl, _, SqL.of (s3 _ _ _ hs2)⟩, (show 2 ≤ sizeLine by decide), fun t ht => ?_⟩
      have s4 : ∀ o o', Same H2 (upd (upd H2 q4 o) t o') := fun o o' => (s3 o).upd ((s3 _).free ht)
      have hrl := st2.length
      rw [List.length_map] at hrl
      refine ⟨sa, _, _, rfl, rfl, s4 _ _ _ _ hs2, fitsL (by lia), ?_⟩
      have hsaH : ∀ o o' o2, Same H (upd (upd (upd H2 q4 o) t o') sa o2) := fun o o' o2 => ((s2.trans (s4 o o'))).upd hsa
      have ne : ∀ r u, H2 r = some (.tup u) → r ≠ sa := fun r u e => ne_of e hs2 (by intro z; cases z)
      have tne : t ≠ sa := fun z => by rw [z] at ht; rw [s3 _ _ _ hs2] at ht; cases ht
      refine ⟨rs ++ [.ref t], st ++ [(one, o)], _, _, _, _, _, rfl, hsaH _ _ _, upd_same, ?_, by rw [List.length_append, hll]; rfl, steps_snoc_ok hok (by rw [hll]; exact ho) (by rw [hll]; show o < w + j; lia)⟩
      rw [List.map_append]
      refine StepsAt.snoc (st2.keep fun r u e => ?_) ?_
      · rw [upd_ne (ne r u e)]
        exact s4 _ _ _ _ e
      · rw [upd_ne tne, upd_same]
        rfl
    · rintro σ2 H2 ⟨rs, st, v5, v6, v7, v8, v9, rfl, s2, hs2, st2, hll, hok⟩
      have hrl := st2.length
      rw [List.length_map] at hrl
      refine ⟨_, rfl, by exact Int.natCast_nonneg _, (by lia), ?_⟩
      rw [Int.toNat_natCast]
      refine comp_range (lo := 0) (n := w) (fun j ys H3 => ∃ os : List Nat, Same H2 H3 ∧ ys = (os.map Int.ofNat).map V.int ∧ os.length = j ∧ ∀ v ∈ os, v < w + st.length) ⟨[], Same.refl H2, rfl, rfl, fun v z => nomatch z⟩ (fun j ys H3 hj ⟨os, _, e, hl, _⟩ => ?_) ?_ ?_
      · rw [e, List.length_map, List.length_map, hl]
        exact fitsL (by lia)
      · rintro j ys H3 R hj ⟨os, s3, rfl, hl, hos⟩ kR
        refine ⟨a, ns, _, rfl, (s2.trans s3).seq S, fun num hn => ?_⟩
        have pos : 0 < (w : Int) + (rs.length : Int) := by lia
        have x0 := Int.emod_nonneg num (show (w : Int) + (rs.length : Int) ≠ 0 by lia)
        have x1 := Int.emod_lt_of_pos num pos
        refine ⟨_, _, rfl, .inl (SqL.of (s3 _ _ hs2)), pos, kR _ _ ⟨os ++ [(num % ((w : Int) + (rs.length : Int))).toNat], s3, ?_, by rw [List.length_append, hl]; rfl, fun v hv => ?_⟩⟩
        · rw [List.map_append, List.map_append]
          congr 1
          show [V.int _] = [V.int ((num % ((w : Int) + (rs.length : Int))).toNat : Int)]
          rw [Int.toNat_of_nonneg x0]
        · rcases List.mem_append.mp hv with z | z
          · exact hos v z
          · have : v = (num % ((w : Int) + (rs.length : Int))).toNat := by simpa using z
            lia
      · rintro ys H3 ⟨os, s3, rfl, hl, hos⟩
        intro oa hoa
        refine ⟨(show 3 ≤ sizeLine by decide), fun n hn => ?_⟩
        refine q _ n sa oa rs ⟨w, st, os⟩ ((s2.trans s3).trans ((Same.new hoa).trans (Same.new hn))) (netAt_new hn (new_at hoa (s3 _ _ hs2)) (st2.mono (s3.trans (Same.new hoa))) upd_same) ⟨by show 1 ≤ w; lia, by show w ≤ 64; lia, by show st.length ≤ 500; lia, hok, hl, hos⟩ (by show w ≤ most; lia) (by show st.length ≤ 8; lia)
noncomputable abbrev s__law_refusal : Stmt := top 41
theorem sc__law_refusal : FnScope ["_law_kept", "_law_kinds"] ["_law_kept"] (defScope s__law_refusal) := ⟨rfl, rfl, rfl, by decide +kernel, rfl, by decide +kernel, by decide +kernel⟩
theorem ok__law_refusal {f : Addr} {fd : FuncData} (F : Fun K "_law_refusal" "_law_refusal" s__law_refusal f fd) (T : Txt K mg CB CK CR CT CW CS DM FL FH FT FU P w)  : FnOk P w K mg base (CX1 P w) 1 f fd ["_law_kept"] (spRefusalR CB CK) := by
  refine F.ok1 sc__law_refusal (fun vs H Q E h => ?_) (fun cdv A outer s H vs Q E hr h => ?_)
  · obtain ⟨e, C, x, rfl, he, hC, k⟩ := h; rfl
  · obtain ⟨e, C, x, rfl, he, hC, k⟩ := h
    have nd := sc__law_refusal.nd
    refine ⟨_, (pss_cons (ps_if (pt_cmpR op_isN (pv 0) pe_non (nomark _))
       (pss_one (ps_ret pe_str))
       pss_nil)
       (pss_cons (ps_set (i := 1) nd rfl (Or.inl rfl) (pe_lst (pa_cons (pe_callB call_isiX rfl T.z_isinstance boot_isinstance (pa_cons (pv 0) (pa_cons (pe_glob (v := .ref _) rfl T.g_BadKind rfl) pa_nil))) (pa_cons (pe_callB call_isiX rfl T.z_isinstance boot_isinstance (pa_cons (pv 0) (pa_cons (pe_glob (v := .ref _) rfl T.g_BadNet rfl) pa_nil))) (pa_cons (pe_callB call_isiX rfl T.z_isinstance boot_isinstance (pa_cons (pv 0) (pa_cons (pe_glob (v := .ref _) rfl T.g_BadRow rfl) pa_nil))) pa_nil)))))
       (pss_cons (ps_set (i := 1) nd rfl (Or.inl rfl) (pe_op op_cat (pv 1) (pe_lst (pa_cons (pe_callB call_isiX rfl T.z_isinstance boot_isinstance (pa_cons (pv 0) (pa_cons (pe_glob (v := .ref _) rfl T.g_BadText rfl) pa_nil))) (pa_cons (pe_callB call_isiX rfl T.z_isinstance boot_isinstance (pa_cons (pv 0) (pa_cons (pe_glob (v := .ref _) rfl T.g_Wrong rfl) pa_nil))) pa_nil)))))
       (pss_cons (ps_if (PW.pt (pw_or (pt_cmpR op_ne (pe_bm PySem.F.plainAttrs_list PySem.F.slot_list_count PySem.F.type_list_count mt_count (pv 1) (pa_cons pe_bl pa_nil)) pe_int (nomark _)) (pw_or1 (pt_not (pt_truth (pe_callB call_isiX rfl T.z_isinstance boot_isinstance (pa_cons (pv 0) (pa_cons (pe_bltn (v := .ty "ValueError") rfl T.z_ValueError boot_ValueError rfl) pa_nil))) (fun _ => rfl))))))
       (pss_one (ps_ret pe_str))
       pss_nil)
       (pss_one (ps_ret (pe_ix ix_list (pe_lst (pa_cons pe_str (pa_cons pe_str (pa_cons pe_str (pa_cons pe_str (pa_cons pe_str pa_nil)))))) (pe_bm PySem.F.plainAttrs_list PySem.F.slot_list_index PySem.F.type_list_index mt_index (pv 1) (pa_cons pe_bl pa_nil)) (fun _ _ => rfl)))))))), ?_⟩
    skip
    refine ⟨rfl, ?_⟩
    rcases hC with ⟨rfl, rfl⟩ | ⟨rfl, rfl⟩
    case' inl => have T5 := T.q_BadNet
    case' inr => have T5 := T.q_BadKind
    all_goals
      refine ⟨e, _, _, _, _, rfl, rfl, he, T5.e, T5.k0, e, _, _, _, _, rfl, rfl, he, T5.e, T5.k1, e, _, _, _, _, rfl, rfl, he, T5.e, T5.k2, (show 3 ≤ sizeLine by decide), fun q1 h1 => ?_⟩
      have s1 : ∀ o, Same H (upd H q1 o) := fun o => Same.new h1
      refine ⟨e, _, _, _, _, rfl, rfl, s1 _ _ _ he, T5.e, T5.k3, e, _, _, _, _, rfl, rfl, s1 _ _ _ he, T5.e, T5.k4, (show 2 ≤ sizeLine by decide), fun q2 h2 => ?_⟩
      have n21 : q1 ≠ q2 := fun z => by rw [← z, upd_same] at h2; cases h2
      have s2 : ∀ o o', Same H (upd (upd H q1 o) q2 o') := fun o o' => (s1 o).upd ((s1 _).free h2)
      refine ⟨q1, q2, _, _, rfl, rfl, (by rw [upd_ne n21]; exact upd_same), upd_same, (by show 5 ≤ sizeLine; decide), fun q3 h3 => ?_⟩
      have s3 : ∀ o o' o'', Same H (upd (upd (upd H q1 o) q2 o') q3 o'') := fun o o' o'' => (s2 o o').upd ((s2 _ _).free h3)
      refine ⟨.inl ⟨rfl, _, SqL.of upd_same⟩, q3, _, _, rfl, rfl, SqL.of upd_same, rfl, rfl, ?_⟩
      refine ⟨e, _, _, _, _, rfl, rfl, s3 _ _ _ _ _ he, T5.e, T5.kv, _, rfl, ?_⟩
      refine ⟨(show 5 ≤ sizeLine by decide), fun q4 h4 => ?_⟩
      have n34 : q3 ≠ q4 := fun z => by rw [← z, upd_same] at h4; cases h4
      have kk := fun o1 o2 o3 o4 => k (upd (upd (upd (upd H q1 o1) q2 o2) q3 o3) q4 o4) ((s3 _ _ _).upd ((s3 _ _ _).free h4))
    all_goals first | refine ⟨.inl ⟨rfl, _, SqL.of (by rw [upd_ne n34]; exact upd_same)⟩, q3, _, _, 1, rfl, rfl, SqL.of (by rw [upd_ne n34]; exact upd_same), rfl, rfl, ⟨_, rfl, rfl⟩, fun m z hm hz => ?_, q4, _, _, _, rfl, rfl, SqL.of upd_same, rfl, kk _ _ _ _⟩ | refine ⟨.inl ⟨rfl, _, SqL.of (by rw [upd_ne n34]; exact upd_same)⟩, q3, _, _, 0, rfl, rfl, SqL.of (by rw [upd_ne n34]; exact upd_same), rfl, rfl, ⟨_, rfl, rfl⟩, fun m z hm hz => ?_, q4, _, _, _, rfl, rfl, SqL.of upd_same, rfl, kk _ _ _ _⟩
    all_goals
      rcases m with _ | _ | _ | _ | m
      all_goals first | (cases hz; rfl) | (exfalso; lia)
noncomputable abbrev s__law_cut : Stmt := top 39
theorem sc__law_cut : FnScope ["_law_first", "_law_last", "_law_script", "_law_k", "_law_nodes", "_law_steps", "_law_wide", "_law_cut_here", "_law_one", "_law_other"] ["_law_first", "_law_last", "_law_script", "_law_k", "_law_nodes", "_law_steps", "_law_wide"] (defScope s__law_cut) := ⟨rfl, rfl, rfl, by decide +kernel, rfl, by decide +kernel, by decide +kernel⟩
theorem step__law_cut {n : Nat} {f : Addr} {fd : FuncData} (F : Fun K "_law_cut" "_law_cut" s__law_cut f fd) (T : Txt K mg CB CK CR CT CW CS DM FL FH FT FU P w) (d__law_mix : Df P w K mg base "_law_mix" 2 ["_law_script", "_law_k"] (spMix K)) (d__law_cut : Df P w K mg base "_law_cut" (3 + n) ["_law_first", "_law_last", "_law_script", "_law_k", "_law_nodes", "_law_steps", "_law_wide"] (spCut K n)) : FnOk P w K mg base (CX1 P w) (3 + n + 1) f fd ["_law_first", "_law_last", "_law_script", "_law_k", "_law_nodes", "_law_steps", "_law_wide"] (spCut K (n + 1)) := by
  refine F.ok1 sc__law_cut (fun vs H Q E h => ?_) (fun cdv A outer s H vs Q E hr h => ?_)
  · obtain ⟨f, l, w, a, dn, sa, ns, k, kvs, rs, st, rfl, _⟩ := h; rfl
  · obtain ⟨f, l, w, a, dn, sa, ns, k, kvs, rs, st, rfl, hfl, hlw, hln, hb, S, C, q⟩ := h
    have nd := sc__law_cut.nd
    refine ⟨_, (pss_cons (ps_if (pt_cmpR op_eq (pv 0) (pv 1) (nomark _))
 (pss_one (ps_ret (pv 0)))
 pss_nil)
 (pss_cons (ps_if (pt_cmp (pc_dnotin (hu_of hr) (pe_tup (pa_cons (pv 0) (pa_cons (pv 1) pa_nil))) (pv 4)))
 (pss_cons (ps_set (i := 7) nd rfl (Or.inl rfl) (pe_op op_add (pv 0) (pe_op op_mod (pe_own d__law_mix (hr.mono (by first | decide | lia)) rfl pass1 (pa_cons (pv 2) (pa_cons (pe_op op_add (pe_op op_add (pv 3) (pe_op op_mul pe_int (pv 0))) (pv 1)) pa_nil))) (pe_op op_sub (pv 1) (pv 0)))))
 (pss_cons (ps_set (i := 8) nd rfl (Or.inl rfl) (pe_own d__law_cut (hr.mono (by first | decide | lia)) rfl pass1 (pa_cons (pv 0) (pa_cons (pv 7) (pa_cons (pv 2) (pa_cons (pv 3) (pa_cons (pv 4) (pa_cons (pv 5) (pa_cons (pv 6) pa_nil)))))))))
 (pss_cons (ps_set (i := 9) nd rfl (Or.inl rfl) (pe_own d__law_cut (hr.mono (by first | decide | lia)) rfl pass1 (pa_cons (pe_op op_add (pv 7) pe_int) (pa_cons (pv 1) (pa_cons (pv 2) (pa_cons (pv 3) (pa_cons (pv 4) (pa_cons (pv 5) (pa_cons (pv 6) pa_nil)))))))))
 (pss_cons (ps_expr (pe_bm PySem.F.plainAttrs_list PySem.F.slot_list_append PySem.F.type_list_append mt_append (pv 5) (pa_cons (pe_tup (pa_cons (pv 8) (pa_cons (pv 9) pa_nil))) pa_nil)))
 (pss_one (ps_dput (hu_of hr) (pv 4) (pe_tup (pa_cons (pv 0) (pa_cons (pv 1) pa_nil))) (pe_op op_sub (pe_op op_add (pv 6) (pe_callB call_len_seq rfl T.z_len boot_len (pa_cons (pv 5) pa_nil))) pe_int) rfl))))))
 pss_nil)
 (pss_one (ps_ret (pe_dget (hu_of hr) (pv 4) (pe_tup (pa_cons (pv 0) (pa_cons (pv 1) pa_nil))) (fun _ _ => rfl)))))), ?_⟩
    skip
    conv => whnf
    by_cases e : f = l
    · refine iteDT (by rw [e]) (q H f kvs rs st (But.refl H) C (Nat.le_refl _) (Nat.le_add_right _ _) (by lia))
    refine iteDF (fun z => e (by have := V.int.inj z; lia)) ?_
    refine ⟨(show 2 ≤ sizeLine by decide), fun t ht => ⟨dn, _, rfl, DGet.t (k := [Sum.inl (f : Int), Sum.inl (l : Int)]) (new_at ht C.hd) upd_same, ?_⟩⟩
    have C1 : CutAt (upd H t (.tup [.int (f : Nat), .int (l : Nat)])) dn sa w kvs rs st := C.new ht
    have B1 : But dn sa H (upd H t (.tup [.int (f : Nat), .int (l : Nat)])) := But.same (Same.new ht)
    generalize upd H t (.tup [.int (f : Nat), .int (l : Nat)]) = H1 at C1 B1 ⊢
    clear C ht
    cases ev : valV kvs ([Sum.inl (f : Int), Sum.inl (l : Int)] : List Key) with
    | some v0 =>
      refine ?_
      refine L2.ob_ea (C1.kv _ _ ev) fun u e_1 hu => ?_; subst e_1
      refine ⟨(show 2 ≤ sizeLine by decide), fun t2 ht2 => ⟨dn, .int (u : Nat), rfl, ?_, ?_⟩⟩
      · rw [← ev]
        exact DGet.t (k := [Sum.inl (f : Int), Sum.inl (l : Int)]) (new_at ht2 C1.hd) upd_same
      · exact q _ u kvs rs st (B1.trans (But.same (Same.new ht2))) (C1.new ht2) (Nat.le_refl _) (Nat.le_add_right _ _) hu
    | none =>
      refine ?_
      refine ⟨.inl ⟨by decide, by decide⟩, a, ns, _, rfl, S _ B1, fun i hi => ?_⟩
      have pos : 0 < (l : Int) - (f : Int) := by lia
      have x0 := Int.emod_nonneg i (show (l : Int) - (f : Int) ≠ 0 by lia)
      have x1 := Int.emod_lt_of_pos i pos
      refine ⟨pos, ?_⟩
      obtain ⟨c, hc⟩ : ∃ c : Nat, (f : Int) + i % ((l : Int) - (f : Int)) = (c : Int) := ⟨((f : Int) + i % ((l : Int) - (f : Int))).toNat, by lia⟩
      dsimp only [rI0, onI]
      rw [hc]
      have hc0 : f ≤ c := by lia
      have hc1 : c < l := by lia
      refine ⟨f, c, w, a, dn, sa, ns, k, kvs, rs, st, rfl, hc0, by lia, by lia, by lia, (fun H' b => S H' (B1.trans b)), C1, fun H2 v1 kvs1 rs1 st1 B2 C2 g1 g2 hv1 => ?_⟩
      have ec : (c : Int) + 1 = ((c + 1 : Nat) : Int) := by rfl
      refine ⟨c + 1, l, w, a, dn, sa, ns, k, kvs1, rs1, st1, congrArg (fun z => [V.int z, V.int (l : Nat), V.ref a, V.int k, V.ref dn, V.ref sa, V.int (w : Nat)]) ec, by assumption, by lia, by lia, by lia, (fun H' b => S H' ((B1.trans B2).trans b)), C2, fun H3 v2 kvs2 rs2 st2 B3 C3 g3 g4 hv2 => ?_⟩
      have ne := C3.ne
      have hrl := C3.sp.length
      rw [List.length_map] at hrl
      refine ⟨.inl ⟨rfl, _, SqL.of C3.hs⟩, (show 2 ≤ sizeLine by decide), fun t3 ht3 => ?_⟩
      have C4 : CutAt (upd H3 t3 (.tup [.int (v1 : Nat), .int (v2 : Nat)])) dn sa w kvs2 rs2 st2 := C3.new ht3
      have ht4 : upd H3 t3 (.tup [.int (v1 : Nat), .int (v2 : Nat)]) t3 = some (.tup [.int (v1 : Nat), .int (v2 : Nat)]) := upd_same
      have B4 : But dn sa H3 (upd H3 t3 (.tup [.int (v1 : Nat), .int (v2 : Nat)])) := But.same (Same.new ht3)
      generalize upd H3 t3 (.tup [.int (v1 : Nat), .int (v2 : Nat)]) = H4 at C4 ht4 B4 ⊢
      refine ⟨sa, _, _, rfl, rfl, C4.hs, fitsL (by lia), ?_⟩
      have tneS : t3 ≠ sa := ne_of ht4 C4.hs (by intro z; cases z)
      have keepS : ∀ r u, H4 r = some (.tup u) → (upd H4 sa (.lst (rs2 ++ [.ref t3]))) r = some (.tup u) := fun r u e => by
        rw [upd_ne (ne_of e C4.hs (by intro z; cases z))]; exact e
      have C5 : CutAt (upd H4 sa (.lst (rs2 ++ [.ref t3]))) dn sa w kvs2 (rs2 ++ [.ref t3]) (st2 ++ [(v1, v2)]) :=
        ⟨by rw [upd_ne ne]; exact C4.hd, upd_same, by rw [List.map_append]; exact (C4.sp.keep keepS).snoc (keepS _ _ ht4), steps_snoc_ok C4.ok (show v1 < w + st2.length by lia) hv2,
          fun kk vv e => by
            refine L2.ob_ea (C4.kv kk vv e) fun u e1 e2 => ?_
            exact ⟨u, e1, by rw [List.length_append]; solve_by_elim⟩, by have := C4.ln; rw [List.length_append]; solve_by_elim⟩
      have B5 : But dn sa H4 (upd H4 sa (.lst (rs2 ++ [.ref t3]))) := But.sa
      have hl5 : (st2 ++ [(v1, v2)]).length = st2.length + 1 := by rw [List.length_append]; rfl
      generalize upd H4 sa (.lst (rs2 ++ [.ref t3])) = H5 at C5 B5 ⊢
      generalize st2 ++ [(v1, v2)] = st5 at C5 hl5
      have hr5 : (rs2 ++ [V.ref t3]).length = st2.length + 1 := by rw [List.length_append, hrl]; rfl
      generalize rs2 ++ [V.ref t3] = rs5 at C5 hr5
      refine ⟨_, _, rfl, .inl (SqL.of C5.hs), (show 2 ≤ sizeLine by decide), fun t6 ht6 => ?_⟩
      have C6 : CutAt (upd H5 t6 (.tup [.int (f : Nat), .int (l : Nat)])) dn sa w kvs2 rs5 st5 := C5.new ht6
      have hle := C5.ln
      refine ⟨dn, _, rfl, DPut.t (k := [Sum.inl (f : Int), Sum.inl (l : Int)]) C6.hd upd_same (by rw [sizeLine_eq]; lia), ?_⟩
      have ev6 : (w : Int) + (rs5.length : Int) - 1 = ((w + st2.length : Nat) : Int) := by lia
      dsimp only
      rw [ev6]
      have B6 : But dn sa H5 (upd H5 t6 (.tup [.int (f : Nat), .int (l : Nat)])) := But.same (Same.new ht6)
      generalize upd H5 t6 (.tup [.int (f : Nat), .int (l : Nat)]) = H6 at C6 B6 ⊢
      have keepD : ∀ r u, H6 r = some (.tup u) → (upd H6 dn (.dT (putK kvs2 [Sum.inl (f : Int), Sum.inl (l : Int)] (.int ((w + st2.length : Nat) : Int))))) r = some (.tup u) := fun r u e => by
        rw [upd_ne (ne_of e C6.hd (by intro z; cases z))]; exact e
      have C7 : CutAt (upd H6 dn (.dT (putK kvs2 [Sum.inl (f : Int), Sum.inl (l : Int)] (.int ((w + st2.length : Nat) : Int))))) dn sa w (putK kvs2 [Sum.inl (f : Int), Sum.inl (l : Int)] (.int ((w + st2.length : Nat) : Int))) rs5 st5 :=
        ⟨upd_same, by rw [upd_ne ne.symm]; exact C6.hs, C6.sp.keep keepD, C6.ok, fun kk vv e => by
          rw [valV_put] at e
          by_cases c : kk = [Sum.inl (f : Int), Sum.inl (l : Int)]
          · rw [if_pos c] at e
            obtain rfl := Option.some.inj e
            exact ⟨w + st2.length, rfl, by lia⟩
          · rw [if_neg c] at e
            exact C6.kv kk vv e, by have := length_putK kvs2 [Sum.inl (f : Int), Sum.inl (l : Int)] (.int ((w + st2.length : Nat) : Int)); have := C4.ln; lia⟩
      have B7 : But dn sa H6 (upd H6 dn (.dT (putK kvs2 [Sum.inl (f : Int), Sum.inl (l : Int)] (.int ((w + st2.length : Nat) : Int))))) := But.dn
      have ev7 : valV (putK kvs2 [Sum.inl (f : Int), Sum.inl (l : Int)] (.int ((w + st2.length : Nat) : Int))) [Sum.inl (f : Int), Sum.inl (l : Int)] = some (.int ((w + st2.length : Nat) : Int)) := by rw [valV_put, if_pos rfl]
      generalize upd H6 dn (.dT (putK kvs2 [Sum.inl (f : Int), Sum.inl (l : Int)] (.int ((w + st2.length : Nat) : Int)))) = H7 at C7 B7 ⊢
      generalize putK kvs2 [Sum.inl (f : Int), Sum.inl (l : Int)] (.int ((w + st2.length : Nat) : Int)) = kvs7 at C7 ev7
      refine ⟨(show 2 ≤ sizeLine by decide), fun t8 ht8 => ⟨dn, .int ((w + st2.length : Nat) : Int), rfl, ?_, ?_⟩⟩
      · rw [← ev7]
        exact DGet.t (k := [Sum.inl (f : Int), Sum.inl (l : Int)]) (new_at ht8 C7.hd) upd_same
      · exact q _ (w + st2.length) kvs7 rs5 st5 ((((((B1.trans B2).trans B3).trans B4).trans B5).trans B6).trans (B7.trans (But.same (Same.new ht8)))) (C7.new ht8) (by lia) (by lia) (by lia)
theorem ok__law_cut {f : Addr} {fd : FuncData} (F : Fun K "_law_cut" "_law_cut" s__law_cut f fd) (T : Txt K mg CB CK CR CT CW CS DM FL FH FT FU P w) (d__law_mix : Df P w K mg base "_law_mix" 2 ["_law_script", "_law_k"] (spMix K)) (hm : mg "_law_cut" = some (.ref f)) (hk : PySem.W.keepIn K (.ref f) = true) (hb : Binds K fd ["_law_first", "_law_last", "_law_script", "_law_k", "_law_nodes", "_law_steps", "_law_wide"] []) : FnOk P w K mg base (CX1 P w) 16 f fd ["_law_first", "_law_last", "_law_script", "_law_k", "_law_nodes", "_law_steps", "_law_wide"] (spCut K 13) := by
  have all : ∀ n, FnOk P w K mg base (CX1 P w) (3 + n) f fd ["_law_first", "_law_last", "_law_script", "_law_k", "_law_nodes", "_law_steps", "_law_wide"] (spCut K n) := by
    intro n
    induction n with
    | zero =>
      refine F.ok1 sc__law_cut (fun vs H Q E h => ?_) (fun cdv A outer s H vs Q E hr h => ?_)
      · obtain ⟨f, l, w, a, dn, sa, ns, k, kvs, rs, st, rfl, _⟩ := h; rfl
      · obtain ⟨f, l, w, a, dn, sa, ns, k, kvs, rs, st, rfl, hfl, hlw, hln, _⟩ := h
        lia
    | succ n ih => exact step__law_cut F T d__law_mix ⟨f, fd, hm, hk, hb, ih⟩
  exact all 13
noncomputable abbrev s__law_right : Stmt := top 40
theorem sc__law_right : FnScope ["_law_script", "_law_k", "_law_most", "_law_wide", "_law_nodes", "_law_steps", "_law_outs"] ["_law_script", "_law_k", "_law_most"] (defScope s__law_right) := ⟨rfl, rfl, rfl, by decide +kernel, rfl, by decide +kernel, by decide +kernel⟩
inductive Iv_law_right_0 (w : Nat) (dn : Addr) (sa : Addr) (H2 : Hp) (j : Nat) (ys : List V) (H3 : Hp) : Prop
  | mk : ∀ (os : List Nat) (kvs : List (List Key × V)) (rs : List V) (st : List (Nat × Nat)), (But dn sa H2 H3) → (CutAt H3 dn sa w kvs rs st) → (ys = (os.map Int.ofNat).map V.int) → (os.length = j) → ((∀ v ∈ os, v < w + st.length)) → (2 * st.length ≤ j * (j - 1)) → (st.length ≤ j * 12) → Iv_law_right_0 w dn sa H2 j ys H3
theorem ok__law_right {f : Addr} {fd : FuncData} (F : Fun K "_law_right" "_law_right" s__law_right f fd) (T : Txt K mg CB CK CR CT CW CS DM FL FH FT FU P w) (d__law_mix : Df P w K mg base "_law_mix" 2 ["_law_script", "_law_k"] (spMix K)) (d__law_cut : Df P w K mg base "_law_cut" 16 ["_law_first", "_law_last", "_law_script", "_law_k", "_law_nodes", "_law_steps", "_law_wide"] (spCut K 13)) : FnOk P w K mg base (CX1 P w) 17 f fd ["_law_script", "_law_k", "_law_most"] (spRight K) := by
  refine F.ok1 sc__law_right (fun vs H Q E h => ?_) (fun cdv A outer s H vs Q E hr h => ?_)
  · obtain ⟨a, ns, k, most, rfl, m1, m2, S, q⟩ := h; rfl
  · obtain ⟨a, ns, k, most, rfl, m1, m2, S, q⟩ := h
    have nd := sc__law_right.nd
    refine ⟨_, (pss_cons (ps_set (i := 3) nd rfl (Or.inr rfl) (pe_op op_add pe_int (pe_op op_mod (pe_own d__law_mix (hr.mono (by first | decide | lia)) rfl pass1 (pa_cons (pv 0) (pa_cons (pv 1) pa_nil))) (pv 2))))
       (pss_cons (ps_set (i := 4) nd rfl (Or.inr rfl) pe_dnewT)
       (pss_cons (ps_set (i := 5) nd rfl (Or.inr rfl) (pe_lst pa_nil))
       (pss_cons (ps_setcomp (ot := none) 6 [0, 1, 3, 4, 5] rfl nd rfl rfl (pi_range1 rfl T.z_range (pa_cons (pv 3) pa_nil)) (fun _ _ _ _ => (pe_own d__law_cut (hr.mono (by first | decide | lia)) rfl pass10 (pa_cons pe_int (pa_cons (pv 0) (pa_cons (pv 1) (pa_cons (pe_op op_add (pv 2) pe_int) (pa_cons (pv 4) (pa_cons (pv 5) (pa_cons (pv 3) pa_nil))))))))) (fun _ _ _ _ => trivial) rfl (nodupS_of rfl))
       (pss_one (ps_ret (pe_tup (pa_cons (pv 3) (pa_cons (pv 5) (pa_cons (pv 6) pa_nil)))))))))), ?_⟩
    skip
    refine ⟨a, ns, k, rfl, S, fun i hi => ?_⟩
    refine ⟨(by lia), ?_⟩
    have w0 := Int.emod_nonneg i (show (most : Int) ≠ 0 by lia)
    have w1 := Int.emod_lt_of_pos i (show 0 < (most : Int) by lia)
    dsimp only [rI0, onI]
    generalize i % (most : Int) = w' at w0 w1 ⊢
    obtain ⟨w, hw⟩ : ∃ w : Nat, 1 + w' = (w : Int) := ⟨(1 + w').toNat, by lia⟩
    rw [hw]
    intro dn hdn
    refine ⟨(show 0 ≤ sizeLine by decide), fun sa hsa => ?_⟩
    have s2 : Same H (upd (upd H dn (.dT [])) sa (.lst [])) := (Same.new hdn).trans (Same.new hsa)
    have fdn : H dn = none := hdn
    have fsa : H sa = none := (Same.new hdn).free hsa
    have C0 : CutAt (upd (upd H dn (.dT [])) sa (.lst [])) dn sa w [] [] [] := ⟨new_at hsa upd_same, upd_same, .nil, (fun k p z => by simp at z), (fun k v z => by rw [valV_nil] at z; exact L2.ns_ z), Nat.le_refl _⟩
    have SS := But.all S fdn fsa s2
    generalize upd (upd H dn (.dT [])) sa (.lst []) = H2 at s2 C0 SS ⊢
    refine ⟨_, rfl, by solve_by_elim, by lia, ?_⟩
    rw [Int.toNat_natCast]
    refine comp_range (lo := 0) (n := w) (Iv_law_right_0 w dn sa H2) ⟨[], [], [], [], But.refl H2, C0, rfl, rfl, (fun v z => nomatch z), Nat.le_refl _, Nat.le_refl _⟩ (fun j ys H3 hj ⟨os, _, _, _, _, _, e, hl, _, _, _⟩ => ?_) ?_ ?_
    · rw [e, List.length_map, List.length_map, hl]
      exact fitsL (by lia)
    · rintro j ys H3 R hj ⟨os, kvs, rs, st, B, C, rfl, hl, hos, h2, h3⟩ kR
      refine ⟨0, j, w, a, dn, sa, ns, _, kvs, rs, st, by rw [Int.zero_add]; rfl, Nat.zero_le _, hj, by lia, by lia, (fun H' b => SS H' (B.trans b)), C, fun H4 v kvs4 rs4 st4 B4 C4 g1 g2 hv => kR _ _ ⟨os ++ [v], kvs4, rs4, st4, B.trans B4, C4, ?_, by rw [List.length_append, hl]; rfl, fun u hu => ?_, ?_, by lia⟩⟩
      · rw [List.map_append, List.map_append]; rfl
      · rcases List.mem_append.mp hu with z | z
        · have := hos u z
          lia
        · have : u = v := by simpa using z
          lia
      · have e : (j + 1) * (j + 1 - 1) = j * (j - 1) + 2 * j := by
          cases j with
          | zero => rfl
          | succ j =>
            show (j + 1 + 1) * (j + 1) = (j + 1) * j + 2 * (j + 1)
            rw [Nat.mul_comm, Nat.mul_add, Nat.mul_add, Nat.mul_one]
            lia
        rw [e]; lia
    · rintro ys H3 ⟨os, kvs, rs, st, B, C, rfl, hl, hos, h2, h3⟩
      intro oa hoa
      refine ⟨(show 3 ≤ sizeLine by decide), fun n hn => ?_⟩
      have s3 : Same H H3 := fun b o e => B b o (ne_of_none e fdn) (ne_of_none e fsa) (s2 b o e)
      refine q _ n sa oa rs ⟨w, st, os⟩ (s3.trans ((Same.new hoa).trans (Same.new hn))) (netAt_new hn (new_at hoa C.hs) (C.sp.mono (Same.new hoa)) upd_same) ⟨by show 1 ≤ w; lia, by show w ≤ 64; lia, by show st.length ≤ 500; lia, C.ok, hl, hos⟩ (by show w ≤ most; lia) h2
end
end K42

namespace K42
open PySem L2 NM PyProof.Rows
section
variable {P : Program} {w : World} {K : PySem.W.Frag} {mg : Str → Option Value} {base : Heap} {CB CK CR CT CW CS DM FL FH FT FU PT : Addr}
noncomputable abbrev s_chains_behind : Stmt := top 25
theorem sc_chains_behind : FnScope ["net", "wide", "steps", "chains", "place", "node"] ["net"] (defScope s_chains_behind) := ⟨rfl, rfl, rfl, by decide +kernel, rfl, by decide +kernel, by decide +kernel⟩
inductive Iv_cb0 (H : Hp) (a sa : Addr) (N : NetN) (l : Addr) (i : Nat) (σ3 : L2.St) (H3 : Hp) : Prop
  | mk : ∀ v v', (σ3 = [some (.ref a), some (.int N.w), some (.ref sa), some (.ref l), v, v']) → (Same H H3) → (H3 l = some (.lst (wordV ((List.range (N.w + N.st.length)).map (chs N.w N.st i))))) → Iv_cb0 H a sa N l i σ3 H3
inductive Iv_cb1 (H : Hp) (a sa : Addr) (N : NetN) (l : Addr) (i : Nat) (p : Nat × Nat) (j : Nat) (σ3 : L2.St) (H3 : Hp) : Prop
  | mk : ∀ v', (σ3 = [some (.ref a), some (.int N.w), some (.ref sa), some (.ref l), some (.int ((N.st.length - 1 - i : Nat) : Int)), v']) → (Same H H3) → (H3 l = some (.lst (wordV ((List.range (N.w + N.st.length)).map (chIn N.w N.st i p j))))) → Iv_cb1 H a sa N l i p j σ3 H3
theorem ok_chains_behind {f : Addr} {fd : FuncData} (F : Fun K "chains_behind" "chains_behind" s_chains_behind f fd) (T : Txt K mg CB CK CR CT CW CS DM FL FH FT FU P w)  : FnOk P w K mg base (CX1 P w) 1 f fd ["net"] (spChains) := by
  refine F.ok1 sc_chains_behind (fun vs H Q E h => ?_) (fun cdv A outer s H vs Q E hr h => ?_)
  · obtain ⟨a, sa, oa, rs, N, rfl, n, hN, k⟩ := h; rfl
  · obtain ⟨a, sa, oa, rs, N, rfl, n, hN, k⟩ := h
    have nd := sc_chains_behind.nd
    refine ⟨_, (pss_cons (ps_set (i := 1) nd rfl (Or.inl rfl) (pe_ix ix_tup (pv 0) pe_int (fun _ _ => rfl)))
       (pss_cons (ps_set (i := 2) nd rfl (Or.inl rfl) (pe_ix ix_tup (pv 0) pe_int (fun _ _ => rfl)))
       (pss_cons (ps_set (i := 3) nd rfl (Or.inl rfl) (pe_op op_rep (pe_lst (pa_cons pe_int pa_nil)) (pe_op op_add (pv 1) (pe_callB call_len_seq rfl T.z_len boot_len (pa_cons (pv 2) pa_nil)))))
       (pss_cons (ps_for powns1 rfl (pi_down rfl T.z_range (pa_cons (pe_op op_sub (pe_callB call_len_seq rfl T.z_len boot_len (pa_cons (pv 2) pa_nil)) pe_int) (pa_cons (pe_un un_neg pe_int) (pa_cons (pe_un un_neg pe_int) pa_nil)))) (pg_name (i := 4) nd rfl (Or.inl rfl))
       (pss_one (ps_for powns1 rfl (pi_tup (pe_ix ix_list (pv 2) (pv 4) (fun _ _ => rfl))) (pg_name (i := 5) nd rfl (Or.inl rfl))
       (pss_one (ps_asg (pe_callB (call_max2 rfl) rfl T.z_max boot_max (pa_cons (pe_ix ix_list (pv 3) (pv 5) (fun _ _ => rfl)) (pa_cons (pe_op op_add (pe_ix ix_list (pv 3) (pe_op op_add (pv 1) (pv 4)) (fun _ _ => rfl)) pe_int) pa_nil))) (pg_sub (pv 3) (pv 5) set_list))))))
       (pss_one (ps_ret (pe_slice sl_list (pv 3) (po_some (pv 1)) po_none))))))), ?_⟩
    skip
    have hw := hN.hi
    have hln := hN.len
    have hrl : rs.length = N.st.length := by rw [n.st.length, steps_len]
    refine ⟨_, _, _, _, rfl, rfl, SqT.of n.net, rfl, ?_⟩
    refine ⟨_, _, _, _, rfl, rfl, SqT.of n.net, rfl, ?_⟩
    refine ⟨(show 1 ≤ sizeLine by decide), fun q hq => ?_⟩
    have s3 : Same H (upd H q (.lst [.int 0])) := Same.new hq
    refine ⟨_, _, rfl, .inl (SqL.of (s3 _ _ n.sts)), q, _, _, rfl, rfl, upd_same, by solve_by_elim, by lia, fits (by simp; lia), fun l hl => ?_⟩
    have hlH : H l = none := s3.free hl
    have s4 : ∀ o, Same H (upd (upd H q (.lst [.int 0])) l o) := fun o => s3.upd hlH
    have e1 : ((N.w : Int) + (rs.length : Int)).toNat = N.w + N.st.length := by lia
    rw [e1, rep_int]
    refine ⟨_, _, rfl, .inl (SqL.of (s4 _ _ _ n.sts)), _, _, rfl, ⟨by lia, by lia, by exact Int.natCast_nonneg _, by exact Int.natCast_nonneg _⟩, ?_⟩
    have e2 : ((rs.length : Int) - 1 - -1).toNat = N.st.length := by lia
    rw [e2]
    refine for_down (lo := (rs.length : Int) - 1) (n := N.st.length) (Iv_cb0 H a sa N l) ⟨_, _, rfl, s4 _, by rw [upd_same, rep_word]⟩ ?_ ?_
    · rintro i σ3 H3 hi ⟨v, v', rfl, s5, hl3⟩
      have hk : N.st.length - 1 - i < N.st.length := by lia
      have e3 : (rs.length : Int) - 1 - (i : Int) = ((N.st.length - 1 - i : Nat) : Int) := by lia
      obtain ⟨p, hp⟩ : ∃ p, N.st[N.st.length - 1 - i]? = some p := ⟨_, List.getElem?_eq_getElem hk⟩
      obtain ⟨p1, p2⟩ := hN.s1 _ p hp
      rw [e3]
      obtain ⟨x, hx⟩ : ∃ x, rs[N.st.length - 1 - i]? = some x := ⟨_, List.getElem?_eq_getElem (by lia)⟩
      refine L2.ob_eeaa (NetN.Ok.steps_get n.st hx) fun r p' e_2 hp' hr0 => ?_; subst e_2
      rw [hp] at hp'; obtain rfl := Option.some.inj hp'
      have hD : N.st.getD (N.st.length - 1 - i) (0, 0) = p := by rw [List.getD_eq_getElem?_getD, hp]; rfl
      have e4 : (N.w : Int) + ((N.st.length - 1 - i : Nat) : Int) = ((N.w + (N.st.length - 1 - i) : Nat) : Int) := by rfl
      refine ⟨sa, _, _, _, rfl, rfl, SqL.of (s5 _ _ n.sts), atI_nat hx, r, rfl, ⟨_, SqT.of (s5 _ _ hr0)⟩, for_tup (K := K) (a := r) (xs := [.int p.1, .int p.2]) (Iv_cb1 H a sa N l i p) ⟨_, rfl, s5, hl3⟩ (fun _ _ _ _ ⟨_, _, s6, _⟩ => SqT.of (s6 _ _ hr0)) ?_ ?_⟩
      · rintro j y σ4 H4 hy ⟨v5, rfl, s6, hl4⟩
        obtain ⟨u, rfl, hu, hju⟩ : ∃ u : Nat, y = .int (u : Nat) ∧ u < N.w + (N.st.length - 1 - i) ∧ (fun v => if v = u then max (chIn N.w N.st i p j v) (chIn N.w N.st i p j (N.w + (N.st.length - 1 - i)) + 1) else chIn N.w N.st i p j v) = chIn N.w N.st i p (j + 1) := by
          rcases j with _ | _ | j
          · exact ⟨p.1, (Option.some.inj hy).symm, p1, chIn_one⟩
          · exact ⟨p.2, (Option.some.inj hy).symm, p2, chIn_two hD p1⟩
          · simp at hy
        refine ⟨l, _, _, _, rfl, rfl, SqL.of hl4, wordF_at _ (k := u) (by lia), l, _, _, _, rfl, rfl, SqL.of hl4, wordF_at _ (k := N.w + (N.st.length - 1 - i)) (by lia), _, _, rfl, l, _, _, u, rfl, rfl, hl4, ixN_nat (by rw [wordF_len]; lia), ?_⟩
        refine ⟨_, rfl, s6.upd hlH, ?_⟩
        have e5 : ∀ x y : Nat, (if (y : Int) + 1 > (x : Int) then (y : Int) + 1 else (x : Int)) = ((max x (y + 1) : Nat) : Int) := fun x y => by split <;> lia
        rw [upd_same, e5, wordF_set _ (by lia), ← hju]
        congr 4
        funext v
        by_cases e : v = u
        · subst e; rfl
        · rw [if_neg e, if_neg e]
      · rintro σ4 H4 ⟨v5, rfl, s6, hl4⟩
        exact ⟨_, _, rfl, s6, hl4⟩
    · rintro σ3 H3 ⟨v, v', rfl, s5, hl3⟩
      refine ⟨l, _, rfl, SqL.of hl3, fun m gm => k _ m (s5.trans (Same.new gm)) ?_⟩
      rw [upd_same, show cutV (wordV ((List.range (N.w + N.st.length)).map (chs N.w N.st N.st.length))) (some (N.w : Int)) none = _ from cutL_drop _ N.w, wordF_drop]
      rfl
end
end K42

namespace K42
open PySem L2 NM PyProof.Rows
section
variable {P : Program} {w : World} {K : PySem.W.Frag} {mg : Str → Option Value} {base : Heap} {CB CK CR CT CW CS DM FL FH FT FU : Addr}
noncomputable def lp : Pos := ⟨69, 44, 69, 84⟩
noncomputable abbrev s_rounds : Stmt := top 24
theorem sc_rounds : FnScope ["net", "workers", "wide", "steps", "chains", "waiting", "there", "told", "ready", "chosen", "number"] ["net", "workers"] (defScope s_rounds) := ⟨rfl, rfl, rfl, by decide +kernel, rfl, by decide +kernel, by decide +kernel⟩
inductive Iv_rd (H7 : Hp) (n sa cl th tl : Addr) (N : NetN) (kn : Nat) (W : List Nat) (m : Nat) (σ : L2.St) (H : Hp) : Prop
  | mk : ∀ (r : Nat) (wl : Addr) (qs : List V) (v8 v9 v10 : Option V), (σ = [some (.ref n), some (.int kn), some (.int N.w), some (.ref sa), some (.ref cl), some (.ref wl), some (.ref th), some (.ref tl), v8, v9, v10]) → (Same H7 H) → (H wl = some (.lst (wordV (waitL N.w N.st W kn r W)))) → (H th = some (.lst (blF (N.w + N.st.length) (thF N.w (DnR N.w N.st W kn r))))) → (H tl = some (.lst qs)) → (LstsAt H th tl qs (toldR N.w N.st W kn r)) → (wl ≠ th) → (wl ≠ tl) → (∀ i, i < r → ∃ k, k < N.st.length ∧ DnR N.w N.st W kn i k = false) → (m + r = N.st.length) → Iv_rd H7 n sa cl th tl N kn W m σ H
inductive Iv_mark (H9 H10 : Hp) (n sa cl wl th tl rl cl2 : Addr) (N : NetN) (kn : Nat) (dn : Nat → Bool) (S : List Nat) (i : Nat) (σ : L2.St) (H : Hp) : Prop
  | mk : ∀ v10 : Option V, (σ = [some (.ref n), some (.int kn), some (.int N.w), some (.ref sa), some (.ref cl), some (.ref wl), some (.ref th), some (.ref tl), some (.ref rl), some (.ref cl2), v10]) → (Same H9 H) → (Bt th H10 H) → (H th = some (.lst (blF (N.w + N.st.length) (thF N.w fun j => dn j || (S.take i).contains j)))) → Iv_mark H9 H10 n sa cl wl th tl rl cl2 N kn dn S i σ H
theorem ok_rounds {f c PT : Addr} {fd : FuncData} (F : Fun K "rounds" "rounds" s_rounds f fd) (hcode : fd.code = .ref c) (L : Lt K mg base c PT) (T : Txt K mg CB CK CR CT CW CS DM FL FH FT FU P w) (d_look_within : Df P w K mg base "look_within" 3 ["what", "value", "least", "most"] (spBound CK)) (d_look_net : Df P w K mg base "look_net" 6 ["net"] (spLook CB)) (d_chains_behind : Df P w K mg base "chains_behind" 1 ["net"] (spChains)) : FnOk P w K mg base (CX1 P w) 7 f fd ["net", "workers"] (spWork CB CK fun N k => tellRounds N k PT lp) := by
  refine F.ok1c hcode sc_rounds (fun vs H Q E h => ?_) (fun A outer s H vs Q E hr h => ?_)
  · obtain ⟨n, sa, oa, rs, wide, steps, outs, wk, rfl, _⟩ := h; rfl
  · obtain ⟨n, sa, oa, rs, wide, steps, outs, wk, rfl, hol, nt, bad, badk, k⟩ := h
    have nd := sc_rounds.nd
    refine ⟨_, (pss_cons (ps_expr (pe_own d_look_net (hr.mono (by first | decide | lia)) rfl pass1 (pa_cons (pv 0) pa_nil)))
 (pss_cons (ps_expr (pe_own d_look_within (hr.mono (by first | decide | lia)) rfl pass1 (pa_cons pe_str (pa_cons (pv 1) (pa_cons pe_int (pa_cons (pe_glob (v := .int 64) rfl T.g_MOST_WORKERS.choose_spec ⟨_, rfl⟩) pa_nil))))))
 (pss_cons (ps_set (i := 2) nd rfl (Or.inr rfl) (pe_ix ix_tup (pv 0) pe_int (fun _ _ => rfl)))
 (pss_cons (ps_set (i := 3) nd rfl (Or.inr rfl) (pe_ix ix_tup (pv 0) pe_int (fun _ _ => rfl)))
 (pss_cons (ps_set (i := 4) nd rfl (Or.inr rfl) (pe_own d_chains_behind (hr.mono (by first | decide | lia)) rfl pass1 (pa_cons (pv 0) pa_nil)))
 (pss_cons (ps_set (i := 5) nd rfl (Or.inl rfl) (pe_sortLam (k := 1) [4] rfl (hr.mono (by first | decide | lia)) rfl T.z_sorted L rfl rfl rfl (fun _ _ _ _ _ _ => rfl) rfl rfl (fun _ _ _ _ _ hr => (pe_tup (pa_cons (pe_un un_neg (pe_ix (show IxR _ (rIxL K) from ix_list) (pv 1) (pv 0) (fun _ _ => rfl))) (pa_cons (pv 0) pa_nil)))) (pa_cons (pe_callTy call_range1 rfl T.z_range boot_range (pa_cons (pe_callB call_len_seq rfl T.z_len boot_len (pa_cons (pv 3) pa_nil)) pa_nil)) pa_nil)))
 (pss_cons (ps_set (i := 6) nd rfl (Or.inr rfl) (pe_op op_cat (pe_op op_rep (pe_lst (pa_cons pe_bl pa_nil)) (pv 2)) (pe_op op_rep (pe_lst (pa_cons pe_bl pa_nil)) (pe_callB call_len_seq rfl T.z_len boot_len (pa_cons (pv 3) pa_nil)))))
 (pss_cons (ps_set (i := 7) nd rfl (Or.inl rfl) (pe_lst pa_nil))
 (pss_cons (ps_while powns1 (pt_truth (pv 5) (fun _ => rfl))
 (pss_cons (ps_setcomp (ot := some _) 8 [3, 6] rfl nd rfl rfl (pi_list (pv 5)) (fun _ _ _ _ => (pv 0)) (fun _ _ _ _ => (PW.pt (pw_and (pt_val (pe_ix (show IxR _ (rIxL K) from ix_list) (pv 2) (pe_ix (show IxR _ (rIxT K) from ix_tup) (pe_ix (show IxR _ (rIxL K) from ix_list) (pv 1) (pv 0) (fun _ _ => rfl)) pe_int (fun _ _ => rfl)) (fun _ _ => rfl))) (pw_and1 (pt_val (pe_ix (show IxR _ (rIxL K) from ix_list) (pv 2) (pe_ix (show IxR _ (rIxT K) from ix_tup) (pe_ix (show IxR _ (rIxL K) from ix_list) (pv 1) (pv 0) (fun _ _ => rfl)) pe_int (fun _ _ => rfl)) (fun _ _ => rfl))))))) rfl (nodupS_of rfl))
 (pss_cons (ps_set (i := 9) nd rfl (Or.inl rfl) (pe_callB call_sortI rfl T.z_sorted boot_sorted (pa_cons (pe_slice sl_list (pv 8) po_none (po_some (pv 1))) pa_nil)))
 (pss_cons (ps_for powns1 rfl (pi_list (pv 9)) (pg_name (i := 10) nd rfl (Or.inl rfl))
 (pss_one (ps_asg pe_bl (pg_sub (pv 6) (pe_op op_add (pv 2) (pv 10)) set_list))))
 (pss_cons (ps_setcomp (ot := some _) 5 [2, 6] rfl nd rfl rfl (pi_list (pv 5)) (fun _ _ _ _ => (pv 0)) (fun _ _ _ _ => (pt_not (pt_val (pe_ix (show IxR _ (rIxL K) from ix_list) (pv 2) (pe_op op_add (pv 1) (pv 0)) (fun _ _ => rfl))))) rfl (nodupS_of rfl))
 (pss_one (ps_expr (pe_bm PySem.F.plainAttrs_list PySem.F.slot_list_append PySem.F.type_list_append mt_append (pv 7) (pa_cons (pv 9) pa_nil)))))))))
 (pss_one (ps_ret (pv 7)))))))))))), ?_⟩
    skip
    refine ⟨n, sa, oa, rs, wide, steps, outs, rfl, hol, nt, fun H2 s2 => ⟨fun g => ?_, fun g => bad H2 s2 g⟩⟩
    obtain ⟨N, hN, rfl, rfl, rfl⟩ := g.net
    refine ⟨_, wk, 1, 64, rfl, by decide, by decide, by decide, fun hk => ?_, fun hk => badk H2 s2 hN.good hk⟩
    obtain ⟨kn, rfl⟩ : ∃ kn : Nat, wk = (kn : Int) := ⟨wk.toNat, by lia⟩
    obtain ⟨h64, hlam, kk⟩ := k N hN rfl rfl rfl kn rfl (by lia) (by lia)
    clear k bad badk
    have n2 := nt.mono s2
    have hw := hN.hi
    have hlo := hN.lo
    have hrl : rs.length = N.st.length := by rw [n2.st.length, steps_len]
    refine ⟨_, _, _, _, rfl, rfl, SqT.of n2.net, rfl, ?_⟩
    refine ⟨_, _, _, _, rfl, rfl, SqT.of n2.net, rfl, ?_⟩
    refine ⟨n, sa, oa, rs, N, rfl, n2, hN, fun H3 cl s3 hcl => ?_⟩
    have n3 := n2.mono s3
    refine ⟨_, _, rfl, .inl (SqL.of n3.sts), _, rfl, by exact Int.le_trans (by decide) (Int.natCast_nonneg _), by lia, fun p gp => ?_⟩
    rw [hrl]
    refine ⟨p, N.st.length, (List.range N.st.length).map fun k => -(chI N k : Int), rfl, upd_same, h64, ((hlam.same s2).same s3).same (Same.new gp), fun i H4 hi sB4 => ?_, fun q π H4 sB4 lam4 hq pm pw => ?_⟩
    · have hcl4 := sB4.lst (((hlam.same s2).same s3).same (Same.new gp)) (new_at gp hcl)
      refine ⟨cl, _, _, _, rfl, rfl, SqL.of hcl4, wordF_at _ hi, (show 2 ≤ sizeLine by decide), fun q gq => ⟨Same.new gq, q, rfl, ?_⟩⟩
      rw [upd_same, List.getD_eq_getElem?_getD, List.getElem?_map, List.getElem?_range hi]; rfl
    have hO := ord_of pm pw
    have sX := (s2.trans s3).trans (Same.new (o := .rng 0 (N.st.length : Int)) gp)
    have lam5 := lam4.same (Same.new (o := .lst (wordV π)) hq)
    have sB5 : SameB PT H (upd H4 q (.lst (wordV π))) := (sX.toB.trans sB4).trans (Same.new hq).toB
    have n5 : NetAt (upd H4 q (.lst (wordV π))) n N.w N.steps N.outs sa oa rs := ((n3.mono (Same.new gp)).monoX (sB4.toX (((hlam.same s2).same s3).same (Same.new gp)))).mono (Same.new hq)
    have hq5 : (upd H4 q (.lst (wordV π))) q = some (.lst (wordV π)) := upd_same
    clear pw pm sB4 lam4 hcl
    show gName 5 (V.ref q) _ (upd H4 q (.lst (wordV π))) _
    generalize upd H4 q (.lst (wordV π)) = H5 at lam5 sB5 n5 hq5 ⊢
    refine ⟨(show 1 ≤ sizeLine by decide), fun q1 g1 => ?_⟩
    have t1 := Same.new (o := .lst [.bl true]) g1
    refine ⟨q1, _, _, rfl, rfl, upd_same, by exact Int.natCast_nonneg _, by lia, fits (by simp; lia), fun l1 h1 => ?_⟩
    rw [Int.toNat_natCast, show (List.replicate N.w [V.bl true]).flatten = (List.replicate N.w true).map V.bl from by rw [rep_one, List.map_replicate]]
    have t2 := t1.trans (Same.new (o := .lst ((List.replicate N.w true).map V.bl)) h1)
    have hl1 : (upd (upd H5 q1 (.lst [.bl true])) l1 (.lst ((List.replicate N.w true).map V.bl))) l1 = some (.lst ((List.replicate N.w true).map V.bl)) := upd_same
    generalize upd (upd H5 q1 (.lst [.bl true])) l1 (.lst ((List.replicate N.w true).map V.bl)) = H6 at t2 hl1 ⊢
    refine ⟨(show 1 ≤ sizeLine by decide), fun q2 g2 => ?_⟩
    have t3 := t2.trans (Same.new (o := .lst [.bl false]) g2)
    refine ⟨_, _, rfl, .inl (SqL.of (t3 _ _ n5.sts)), q2, _, _, rfl, rfl, upd_same, by exact Int.natCast_nonneg _, by lia, fits (by simp; lia), fun l2 h2 => ?_⟩
    rw [Int.toNat_natCast, rep_bl]
    refine ⟨l1, l2, _, _, rfl, rfl, new_at h2 (new_at g2 hl1), upd_same, fits (by simp; lia), fun th gth => ?_⟩
    rw [hrl] at gth ⊢
    rw [there0]
    have t4 := t3.trans (Same.new (o := .lst ((List.replicate N.st.length false).map V.bl)) h2)
    generalize upd (upd H6 q2 (.lst [.bl false])) l2 (.lst ((List.replicate N.st.length false).map V.bl)) = H7 at t4 gth ⊢
    have n7 := n5.mono t4
    have hq7 := t4 _ _ hq5
    have lam7 := lam5.same t4
    have sB7 := sB5.trans t4.toB
    clear n5 hq5 lam5 sB5 t4 t3 t2 t1 hl1 g1 h1 g2 h2 s2 s3 n2 n3 hlam nt sX
    refine ⟨(show 0 ≤ sizeLine by decide), fun tl gtl => ?_⟩
    have hth0 : (upd H7 th (.lst (blF (N.w + N.st.length) (thF N.w fun _ => false)))) th = some (.lst (blF (N.w + N.st.length) (thF N.w fun _ => false))) := upd_same
    have ntl : th ≠ tl := ne_of_none hth0 gtl
    have gtl7 : H7 tl = none := (Same.new gth).free gtl
    refine ⟨Iv_rd H7 n sa cl th tl N kn π, ⟨N.st.length, 0, q, [], _, _, _, rfl, (Same.new gth).trans (Same.new gtl), by rw [wait_0]; exact new_at gtl (new_at gth hq7), new_at gtl hth0, upd_same, .nil, ne_of_none hq7 gth, ne_of_none hq7 gtl7, fun i hi => absurd hi (Nat.not_lt_zero i), rfl⟩, ?_⟩
    rintro m σ H8 ⟨r, wl, qs, v8, v9, v10, rfl, s8, hwl, hth, htl, hls, nw1, nw2, hun, hm⟩
    refine ⟨_, .inl ⟨_, SqL.of hwl, rfl⟩, ?_⟩
    have wlt := W_lt hO.pm
    by_cases hnil : waitL N.w N.st π kn r π = []
    · rw [hnil]
      exact kk H8 tl th tl qs π r (sB7.trans s8.toB) (lam7.same s8) hO ⟨wait_nil (fun k hk => hO.pm.mem_iff.mpr (List.mem_range.mpr hk)) hnil, hun⟩ htl hls
    have hsome := wait_some wlt hnil
    have hun1 : ∀ i, i < r + 1 → ∃ k, k < N.st.length ∧ DnR N.w N.st π kn i k = false := fun i hi => by
      by_cases e : i = r
      · rw [e]; exact hsome
      · exact hun i (by lia)
    have hrL := round_lt hO.pm (n := kn) (r := r) hN.s1 (by lia) fun i hi => hun1 i (by lia)
    rw [show (!(wordV (waitL N.w N.st π kn r π)).isEmpty) = true from by
      rcases hh : waitL N.w N.st π kn r π with _ | ⟨z, t⟩
      · exact absurd hh hnil
      · rfl]
    refine ⟨Iv_rd H7 n sa cl th tl N kn π (m - 1), fun σ' H' h => ⟨m - 1, by lia, h⟩, ?_⟩
    have n8 := n7.mono s8
    have wl_len : (waitL N.w N.st π kn r π).length ≤ 10000 := by
      have h1 := List.length_filter_le (fun k => !DnR N.w N.st π kn r k) π
      have h2 := hO.pm.length_eq
      rw [List.length_range] at h2
      unfold waitL
      lia
    refine ⟨wl, rfl, ⟨_, SqL.of hwl⟩, comp_wfilter (g := redy N.w N.st (DnR N.w N.st π kn r)) hwl wl_len (fun k H' hk s' Q' kQ => ?_) (fun H9 s9 => ?_)⟩
    · have hkL := wlt k (wait_mem.mp hk).1
      obtain ⟨x, hx⟩ : ∃ x, rs[k]? = some x := ⟨_, List.getElem?_eq_getElem (by lia)⟩
      obtain ⟨r0, pp, rfl, hp, hr0⟩ := NetN.Ok.steps_get n8.st hx
      obtain ⟨p1, p2⟩ := hN.s1 k pp hp
      rw [redy_th hp] at kQ
      refine ⟨sa, _, _, _, rfl, rfl, SqL.of (s' _ _ n8.sts), atI_nat hx, r0, _, _, _, rfl, rfl, SqT.of (s' _ _ hr0), rfl, th, _, _, _, rfl, rfl, SqL.of (s' _ _ hth), blF_at _ (k := pp.1) (by lia), ?_⟩
      cases e1 : thF N.w (DnR N.w N.st π kn r) pp.1 with
      | false => rw [e1] at kQ; exact kQ H' (Same.refl _)
      | true =>
        rw [e1, Bool.true_and] at kQ
        refine ⟨sa, _, _, _, rfl, rfl, SqL.of (s' _ _ n8.sts), atI_nat hx, r0, _, _, _, rfl, rfl, SqT.of (s' _ _ hr0), rfl, th, _, _, _, rfl, rfl, SqL.of (s' _ _ hth), blF_at _ (k := pp.2) (by lia), ?_⟩
        exact kQ H' (Same.refl _)
    rw [rdy_wait]
    intro rl grl
    have cnd := cho_nd (w := N.w) (n := kn) hO.pm (DnR N.w N.st π kn r)
    have clt := cho_lt (w := N.w) (n := kn) hO.pm (DnR N.w N.st π kn r)
    have clen : (choL N.w N.st π kn (DnR N.w N.st π kn r)).length < 64 := by
      have h1 := List.length_filter_le (fun k => !DnR N.w N.st π kn r k && redy N.w N.st (DnR N.w N.st π kn r) k) π
      have h2 := hO.pm.length_eq
      rw [List.length_range] at h2
      unfold choL rdyL
      rw [List.length_take]
      lia
    refine ⟨rl, _, rfl, SqL.of upd_same, fun m1 gm1 => ?_⟩
    rw [show cutV (wordV (rdyL N.w N.st π (DnR N.w N.st π kn r))) none (some (kn : Int)) = wordV (choL N.w N.st π kn (DnR N.w N.st π kn r)) from (cutL_take (wordV _) kn).trans (wordV_take _ kn)]
    refine ⟨m1, (choL N.w N.st π kn (DnR N.w N.st π kn r)).map Int.ofNat, rfl, SqL.of (by rw [upd_same, wordV_ints]), by rw [List.length_map]; exact clen, fun c1 ns' gc pm1 pw1 => ?_⟩
    obtain rfl := srt_is cnd clt pm1 pw1
    rw [← wordV_ints]
    have s10 := ((s9.trans (Same.new (o := .lst (wordV (rdyL N.w N.st π (DnR N.w N.st π kn r)))) grl)).trans (Same.new (o := .lst (wordV (choL N.w N.st π kn (DnR N.w N.st π kn r)))) gm1))
    have nc1 : ∀ b o, H8 b = some o → b ≠ c1 := fun b o e => ne_of_none (s10 _ _ e) gc
    have s11 := s10.trans (Same.new (o := .lst (wordV (srtL N.st.length (choL N.w N.st π kn (DnR N.w N.st π kn r))))) gc)
    have hc1 : (upd (upd (upd H9 rl (.lst (wordV (rdyL N.w N.st π (DnR N.w N.st π kn r))))) m1 (.lst (wordV (choL N.w N.st π kn (DnR N.w N.st π kn r))))) c1 (.lst (wordV (srtL N.st.length (choL N.w N.st π kn (DnR N.w N.st π kn r)))))) c1 = _ := upd_same
    generalize upd (upd (upd H9 rl (.lst (wordV (rdyL N.w N.st π (DnR N.w N.st π kn r))))) m1 (.lst (wordV (choL N.w N.st π kn (DnR N.w N.st π kn r))))) c1 (.lst (wordV (srtL N.st.length (choL N.w N.st π kn (DnR N.w N.st π kn r))))) = H10 at s11 hc1 ⊢
    have hcth := nc1 _ _ hth
    have hctl := nc1 _ _ htl
    clear s10 gc gm1 grl s9 pm1 pw1
    have hdn := th_dn (N := N) (n := kn) (r := r) hO.pm
    have told := told_succ (w := N.w) (st := N.st) (W := π) (n := kn) r
    have slt : ∀ k ∈ srtL N.st.length (choL N.w N.st π kn (DnR N.w N.st π kn r)), k < N.st.length := fun k hk => (srt_mem.mp hk).1
    generalize srtL N.st.length (choL N.w N.st π kn (DnR N.w N.st π kn r)) = S at hc1 hdn told slt
    refine ⟨c1, rfl, ⟨_, SqL.of hc1⟩, for_list (K := K) (a := c1) (xs := wordV S) (Iv_mark H7 H10 n sa cl wl th tl rl c1 N kn (DnR N.w N.st π kn r) S) ⟨_, rfl, s8.trans s11, Bt.refl H10, by rw [s11 _ _ hth]; congr 4; funext j; simp⟩ (fun _ _ _ _ ⟨_, _, _, B4, _⟩ => SqL.of (B4 _ _ (Ne.symm hcth) hc1)) ?_ ?_⟩
    · rintro i x σ4 H4 hx ⟨v, rfl, s4, B4, hth4⟩
      obtain ⟨k, hk, rfl⟩ := wordV_get' hx
      have hkL := slt k (List.mem_of_getElem? hk)
      refine ⟨th, _, _, N.w + k, rfl, rfl, hth4, ixN_nat (j := N.w + k) (by rw [blF_len]; lia), ⟨_, rfl, s4.upd gth, B4.trans Bt.sa, ?_⟩⟩
      rw [upd_same, blF_set _ (by lia), th_take hk]
    rintro σ4 H4 ⟨v, rfl, s4, B4, hth4⟩
    rw [show (fun j => DnR N.w N.st π kn r j || (S.take (wordV S).length).contains j) = DnR N.w N.st π kn (r + 1) from by rw [wordV_len', List.take_length]; exact hdn] at hth4
    have hwl4 := B4 _ _ nw1 (s11 _ _ hwl)
    refine ⟨wl, rfl, ⟨_, SqL.of hwl4⟩, comp_wfilter (g := fun k => !DnR N.w N.st π kn (r + 1) k) hwl4 wl_len (fun k H' hk s' Q' kQ => ?_) (fun H5 s5 => ?_)⟩
    · have hkL := wlt k (wait_mem.mp hk).1
      refine ⟨th, _, _, _, rfl, rfl, SqL.of (s' _ _ hth4), blF_at _ (k := N.w + k) (by lia), ?_⟩
      have := kQ H' (Same.refl _)
      rw [← th_wait (w := N.w) (dn := DnR N.w N.st π kn (r + 1))] at this
      exact this
    rw [wait_next]
    intro wl2 gwl2
    have s45 := s5.trans (Same.new (o := .lst (wordV (waitL N.w N.st π kn (r + 1) π))) gwl2)
    have htl5 := s45 _ _ (B4 _ _ (Ne.symm ntl) (s11 _ _ htl))
    have hlen := hls.length
    rw [told_len] at hlen
    have nw3 : wl2 ≠ th := Ne.symm (ne_of_none (s5 _ _ hth4) gwl2)
    have nw4 : wl2 ≠ tl := Ne.symm (ne_of_none (s5 _ _ (B4 _ _ (Ne.symm ntl) (s11 _ _ htl))) gwl2)
    refine ⟨.inl ⟨rfl, _, SqL.of htl5⟩, tl, qs, .ref c1, rfl, rfl, htl5, fitsL (by lia), ⟨r + 1, wl2, qs ++ [.ref c1], _, _, _, rfl, (s4.trans s45).upd gtl7, ?_, ?_, upd_same, ?_, nw3, nw4, hun1, by lia⟩⟩
    · rw [upd_ne nw4]; exact upd_same
    · rw [upd_ne ntl]; exact s45 _ _ hth4
    · rw [told]
      refine LstsAt.snoc ?_ (Ne.symm hcth) (Ne.symm hctl) (hls.keep fun p l h1 h2 e => ?_)
      · rw [upd_ne (Ne.symm hctl)]; exact s45 _ _ (B4 _ _ (Ne.symm hcth) hc1)
      · rw [upd_ne h2]; exact s45 _ _ (B4 _ _ h1 (s11 _ _ e))
end
end K42

namespace K42
open PySem L2 NM PyProof.Rows
section
variable {P : Program} {w : World} {K : PySem.W.Frag} {mg : Str → Option Value} {base : Heap} {CB CK CR CT CW CS DM FL FH FT FU PT : Addr}
noncomputable abbrev s_fewest_rounds : Stmt := top 26
theorem sc_fewest_rounds : FnScope ["net", "workers", "deepest"] ["net", "workers"] (defScope s_fewest_rounds) := ⟨rfl, rfl, rfl, by decide +kernel, rfl, by decide +kernel, by decide +kernel⟩
theorem ok_fewest_rounds {f : Addr} {fd : FuncData} (F : Fun K "fewest_rounds" "fewest_rounds" s_fewest_rounds f fd) (T : Txt K mg CB CK CR CT CW CS DM FL FH FT FU P w) (d_look_within : Df P w K mg base "look_within" 3 ["what", "value", "least", "most"] (spBound CK)) (d_depths : Df P w K mg base "depths" 7 ["net"] (spNetFn CB (tellInts NetN.depths))) : FnOk P w K mg base (CX1 P w) 8 f fd ["net", "workers"] (spWork CB CK tellFew) := by
  refine F.ok1 sc_fewest_rounds (fun vs H Q E h => ?_) (fun cdv A outer s H vs Q E hr h => ?_)
  · obtain ⟨n, sa, oa, rs, wide, steps, outs, wk, rfl, hol, nt, bad, badk, k⟩ := h; rfl
  · obtain ⟨n, sa, oa, rs, wide, steps, outs, wk, rfl, hol, nt, bad, badk, k⟩ := h
    have nd := sc_fewest_rounds.nd
    refine ⟨_, (pss_cons (ps_set (i := 2) nd rfl (Or.inl rfl) (pe_callB (call_maxL rfl) rfl T.z_max boot_max (pa_cons (pe_own d_depths (hr.mono (by first | decide | lia)) rfl pass1 (pa_cons (pv 0) pa_nil)) pa_nil)))
       (pss_cons (ps_expr (pe_own d_look_within (hr.mono (by first | decide | lia)) rfl pass1 (pa_cons pe_str (pa_cons (pv 1) (pa_cons pe_int (pa_cons (pe_glob (v := .int 64) rfl T.g_MOST_WORKERS.choose_spec ⟨_, rfl⟩) pa_nil))))))
       (pss_one (ps_ret (pe_callB (call_max2 rfl) rfl T.z_max boot_max (pa_cons (pe_op op_fdiv (pe_op op_sub (pe_op op_add (pe_callB call_len_seq rfl T.z_len boot_len (pa_cons (pe_ix ix_tup (pv 0) pe_int (fun _ _ => rfl)) pa_nil)) (pv 1)) pe_int) (pv 1)) (pa_cons (pv 2) pa_nil))))))), ?_⟩
    skip
    refine ⟨n, sa, oa, rs, wide, steps, outs, rfl, hol, nt, fun H2 s2 => ⟨fun N hN e1 e2 e3 l hl => ?_, fun g => bad H2 s2 g⟩⟩
    subst e1 e2 e3
    have n2 := nt.mono s2
    have hw := hN.hi
    have hlo := hN.lo
    have hrl : rs.length = N.st.length := by rw [n2.st.length, steps_len]
    have hdl : N.depths ≠ [] := fun z => by
      have := len_foldl_dstep N.st (List.replicate N.w 0)
      rw [show N.st.foldl dstep (List.replicate N.w 0) = N.depths from rfl, z] at this
      simp at this
      lia
    refine ⟨l, N.depths, rfl, .inl (SqL.of hl), hdl, fun M hM hb => ?_⟩
    refine ⟨_, wk, 1, 64, rfl, by decide, by decide, by decide, fun hk => ?_, fun hk => badk H2 s2 hN.good hk⟩
    obtain ⟨kn, rfl⟩ : ∃ kn : Nat, wk = (kn : Int) := ⟨wk.toNat, by lia⟩
    have kk := k N hN rfl rfl rfl kn rfl (by lia) (by lia) H2 M s2 hM hb
    refine ⟨_, _, _, _, rfl, rfl, SqT.of n2.net, rfl, _, _, rfl, .inl (SqL.of n2.sts), ?_⟩
    refine ⟨⟨by lia, by lia⟩, _, _, rfl, ?_⟩
    rw [hrl]
    exact kk
end
end K42

namespace K42
open PySem L2 NM PyProof.Rows
section
variable {P : Program} {w : World} {K : PySem.W.Frag} {mg : Str → Option Value} {base : Heap} {CB CK CR CT CW CS DM FL FH FT FU PT : Addr}
noncomputable abbrev s__law_told : Stmt := top 42
theorem sc__law_told : FnScope ["_law_way", "_law_net_here", "_law_workers", "_law_kept", "_law_found", "e"] ["_law_way", "_law_net_here", "_law_workers"] (defScope s__law_told) := ⟨rfl, rfl, rfl, by decide +kernel, rfl, by decide +kernel, by decide +kernel⟩
theorem ok__law_told {f : Addr} {fd : FuncData} (F : Fun K "_law_told" "_law_told" s__law_told f fd) (T : Txt K mg CB CK CR CT CW CS DM FL FH FT FU P w) (d_rounds : Df P w K mg base "rounds" 7 ["net", "workers"] (spWork CB CK (fun N k => tellRounds N k PT lp))) (d_fewest_rounds : Df P w K mg base "fewest_rounds" 8 ["net", "workers"] (spWork CB CK tellFew)) (d__law_refusal : Df P w K mg base "_law_refusal" 1 ["_law_kept"] (spRefusalR CB CK)) : FnOk P w K mg base (CX1 P w) 9 f fd ["_law_way", "_law_net_here", "_law_workers"] (spToldR PT lp) := by
  refine F.ok1 sc__law_told (fun vs H Q E h => ?_) (fun cdv A outer s H vs Q E hr h => ?_)
  · obtain ⟨way, n, sa, oa, rs, wide, steps, outs, wk, rfl, hway, hol, nt, bad, badk, k⟩ := h; rfl
  · obtain ⟨way, n, sa, oa, rs, wide, steps, outs, wk, rfl, hway, hol, nt, bad, badk, k⟩ := h
    have nd := sc__law_told.nd
    refine ⟨_, (pss_cons (ps_set (i := 3) nd rfl (Or.inl rfl) pe_non)
       (pss_cons (ps_set (i := 4) nd rfl (Or.inl rfl) pe_non)
       (pss_cons (ps_try (i := 5) own1 rfl (fun _ _ _ hp =>
       (pss_one (ps_set (i := 4) nd rfl (Or.inl rfl) (pe_ifExp (pt_cmpR op_eq (pv 0) pe_int (nomark _)) (pe_own d_rounds (hr.mono (by first | decide | lia)) rfl hp (pa_cons (pv 1) (pa_cons (pv 2) pa_nil))) (pe_own d_fewest_rounds (hr.mono (by first | decide | lia)) rfl hp (pa_cons (pv 1) (pa_cons (pv 2) pa_nil))))))) (fun _ => (pss_one (ps_set (i := 3) nd rfl (Or.inl rfl) (pv 5)))) nd rfl rfl rfl T.g_SumError)
       (pss_one (ps_ret (pe_ifExp (pt_cmpR op_isN (pv 3) pe_non (nomark _)) (pv 4) (pe_own d__law_refusal (hr.mono (by first | decide | lia)) rfl pass1 (pa_cons (pv 3) pa_nil)))))))), ?_⟩
    skip
    rcases hway with rfl | rfl
    case' inl => refine ⟨n, sa, oa, rs, wide, steps, outs, wk, rfl, hol, nt, fun H2 s2 g => ⟨CB, rfl, T.m_BadNet, fun e he => ?A⟩, fun H2 s2 g hk => ⟨CK, rfl, T.m_BadKind, fun e he => ?B⟩, fun N hN e1 e2 e3 kn hk k1 k2 => ?C⟩
    case' inr => refine ⟨n, sa, oa, rs, wide, steps, outs, wk, rfl, hol, nt, fun H2 s2 g => ⟨CB, rfl, T.m_BadNet, fun e he => ?D⟩, fun H2 s2 g hk => ⟨CK, rfl, T.m_BadKind, fun e he => ?F⟩, fun N hN e1 e2 e3 kn hk k1 k2 => ?G⟩
    case A => exact ⟨rfl, ⟨e, _, _, rfl, upd_same, .inl ⟨rfl, rfl⟩, fun H3 s3 => bad H3 ((s2.trans (Same.new he)).trans s3) g⟩⟩
    case B => exact ⟨rfl, ⟨e, _, _, rfl, upd_same, .inr ⟨rfl, rfl⟩, fun H3 s3 => badk H3 ((s2.trans (Same.new he)).trans s3) g hk⟩⟩
    case D => exact ⟨rfl, ⟨e, _, _, rfl, upd_same, .inl ⟨rfl, rfl⟩, fun H3 s3 => bad H3 ((s2.trans (Same.new he)).trans s3) g⟩⟩
    case F => exact ⟨rfl, ⟨e, _, _, rfl, upd_same, .inr ⟨rfl, rfl⟩, fun H3 s3 => badk H3 ((s2.trans (Same.new he)).trans s3) g hk⟩⟩
    case C =>
      obtain ⟨h64, hlam, kk⟩ := (k N hN e1 e2 e3 kn hk k1 k2).1 rfl
      exact ⟨h64, hlam, fun H2 l x y qs W R sB lam hO hE hl hls => ⟨rfl, kk H2 l x y qs W R sB lam hO hE hl hls⟩⟩
    case G =>
      have kk := (k N hN e1 e2 e3 kn hk k1 k2).2 rfl
      exact fun H2 M s2 hM hb => ⟨rfl, kk H2 M s2 hM hb⟩
end
end K42

namespace K42
open PySem L2 NM PyProof.Rows
section
variable {P : Program} {w : World} {K : PySem.W.Frag} {mg : Str → Option Value} {base : Heap} {CB CK CR CT CW CS DM FL FH FT FU PT : Addr}
noncomputable abbrev s__law_behind : Stmt := top 43
theorem sc__law_behind : FnScope ["_law_net_here", "_law_node", "_law_some", "_law_k"] ["_law_net_here", "_law_node"] (defScope s__law_behind) := ⟨rfl, rfl, rfl, by decide +kernel, rfl, by decide +kernel, by decide +kernel⟩
inductive Iv_bh (H : Hp) (a fl : Addr) (N : NetN) (v : Nat) (i : Nat) (σ : L2.St) (H3 : Hp) : Prop
  | mk : ∀ (ns : List Nat) (v3 : Option V), (σ = [some (.ref a), some (.int (v : Nat)), some (.ref fl), v3]) → (Same H H3) → (H3 fl = some (.lst (wordV ns))) → (0 ∈ ns) → (ns.length ≤ i + 1) → (∀ x ∈ ns, x ≤ chF N.w N.st v) → (∀ j, j < i → (v = (N.st.getD j (0, 0)).1 ∨ v = (N.st.getD j (0, 0)).2) → chF N.w N.st (N.w + j) + 1 ∈ ns) → Iv_bh H a fl N v i σ H3
theorem step__law_behind {n : Nat} {f : Addr} {fd : FuncData} (F : Fun K "_law_behind" "_law_behind" s__law_behind f fd) (T : Txt K mg CB CK CR CT CW CS DM FL FH FT FU P w)  (d__law_behind : Df P w K mg base "_law_behind" (2 + n) ["_law_net_here", "_law_node"] (spBehind n)) : FnOk P w K mg base (CX1 P w) (2 + n + 1) f fd ["_law_net_here", "_law_node"] (spBehind (n + 1)) := by
  refine F.ok1 sc__law_behind (fun vs H Q E h => ?_) (fun cdv A outer s H vs Q E hr h => ?_)
  · obtain ⟨a, sa, oa, rs, N, v, rfl, _⟩ := h; rfl
  · obtain ⟨a, sa, oa, rs, N, v, rfl, nt, hN, hv, k⟩ := h
    have nd := sc__law_behind.nd
    refine ⟨_, (pss_cons (ps_set (i := 2) nd rfl (Or.inl rfl) (pe_lst (pa_cons pe_int pa_nil)))
 (pss_cons (ps_for powns1 rfl (pi_range1 rfl T.z_range (pa_cons (pe_callB call_len_seq rfl T.z_len boot_len (pa_cons (pe_ix ix_tup (pv 0) pe_int (fun _ _ => rfl)) pa_nil)) pa_nil)) (pg_name (i := 3) nd rfl (Or.inl rfl))
 (pss_one (ps_if (pt_cmpR op_in_seq (pv 1) (pe_ix ix_list (pe_ix ix_tup (pv 0) pe_int (fun _ _ => rfl)) (pv 3) (fun _ _ => rfl)) (by with_unfolding_all rfl))
 (pss_one (ps_expr (pe_bm PySem.F.plainAttrs_list PySem.F.slot_list_append PySem.F.type_list_append mt_append (pv 2) (pa_cons (pe_op op_add pe_int (pe_own d__law_behind (hr.mono (by first | decide | lia)) rfl pass1 (pa_cons (pv 0) (pa_cons (pe_op op_add (pe_ix ix_tup (pv 0) pe_int (fun _ _ => rfl)) (pv 3)) pa_nil)))) pa_nil))))
 pss_nil)))
 (pss_one (ps_ret (pe_callB (call_maxL rfl) rfl T.z_max boot_max (pa_cons (pv 2) pa_nil)))))), ?_⟩
    skip
    have hw := hN.hi
    have hln := hN.len
    have hrl : rs.length = N.st.length := by rw [nt.st.length, steps_len]
    refine ⟨(show 1 ≤ sizeLine by decide), fun fl gf => ?_⟩
    have s1 := Same.new (o := .lst [.int 0]) gf
    refine ⟨_, _, _, _, rfl, rfl, SqT.of (s1 _ _ nt.net), rfl, _, _, rfl, .inl (SqL.of (s1 _ _ nt.sts)), _, rfl, by exact Int.natCast_nonneg _, by lia, ?_⟩
    rw [Int.toNat_natCast, hrl]
    refine for_range (lo := 0) (n := N.st.length) (Iv_bh H a fl N v) ⟨[0], _, rfl, s1, upd_same, by simp, by simp, fun x hx => by rw [List.mem_singleton.mp hx]; exact Nat.zero_le _, fun j hj => absurd hj (Nat.not_lt_zero j)⟩ ?_ ?_
    · rintro i σ3 H3 hi ⟨ns, v3, rfl, s3, hfl, h0, hl3, hle, hin⟩
      obtain ⟨x, hx⟩ : ∃ x, rs[i]? = some x := ⟨_, List.getElem?_eq_getElem (by lia)⟩
      obtain ⟨r0, pp, rfl, hp, hr0⟩ := NetN.Ok.steps_get nt.st hx
      have hD : N.st.getD i (0, 0) = pp := by rw [List.getD_eq_getElem?_getD, hp]; rfl
      have n3 := nt.mono s3
      refine ⟨_, _, _, _, rfl, rfl, SqT.of n3.net, rfl, sa, _, _, _, rfl, rfl, SqL.of n3.sts, by rw [Int.zero_add]; exact atI_nat hx, r0, _, rfl, .inr (SqT.of (s3 _ _ hr0)), rfl, rfl, ?_⟩
      show tTest_b _ (V.bl (inV (V.int ((v : Nat) : Int)) [V.int ((pp.1 : Nat) : Int), V.int ((pp.2 : Nat) : Int)])) _
      rw [inV_two]
      refine iteB (fun h => ?_) (fun h => ?_)
      · have h := of_decide_eq_true h
        have hge := far_ge (v := v) hN.s1 hi (by rw [hD]; exact h)
        refine ⟨.inl ⟨rfl, _, SqL.of hfl⟩, _, _, _, _, rfl, rfl, SqT.of n3.net, rfl, a, sa, oa, rs, N, N.w + i, by rw [Int.zero_add]; rfl, n3, hN, by lia, fun H4 s4 => ?_⟩
        refine ⟨fl, _, _, rfl, rfl, s4 _ _ hfl, fitsL (by rw [wordV_len']; lia), ⟨ns ++ [chF N.w N.st (N.w + i) + 1], _, rfl, (s3.trans s4).upd gf, ?_, by simp [h0], by simp; lia, fun x hx => ?_, fun j hj hjv => ?_⟩⟩
        · rw [upd_same]
          unfold wordV
          rw [List.map_append]
          congr 3
          show [V.int (1 + (chF N.w N.st (N.w + i) : Int))] = [V.int ((chF N.w N.st (N.w + i) + 1 : Nat) : Int)]
          congr 2
          lia
        · rcases List.mem_append.mp hx with hx | hx
          · exact hle x hx
          · rw [List.mem_singleton.mp hx]; exact hge
        · by_cases e : j = i
          · rw [e]; simp
          · exact List.mem_append_left _ (hin j (by lia) hjv)
      · have h := of_decide_eq_false h
        refine ⟨ns, _, rfl, s3, hfl, h0, by lia, hle, fun j hj hjv => ?_⟩
        by_cases e : j = i
        · rw [e, hD] at hjv; exact absurd hjv h
        · exact hin j (by lia) hjv
    · rintro σ3 H3 ⟨ns, v3, rfl, s3, hfl, h0, hl3, hle, hin⟩
      refine ⟨fl, ns.map Int.ofNat, rfl, .inl (SqL.of (by rw [hfl, wordV_ints])), (fun z => by rw [List.map_eq_nil_iff.mp z] at h0; cases h0), fun M hM hb => ?_⟩
      have e : M = (chF N.w N.st v : Nat) := by
        obtain ⟨m, hm, rfl⟩ := List.mem_map.mp hM
        have h1 := hle m hm
        have h2 : chF N.w N.st v ∈ ns := by
          rcases far_is hN.s1 v with e | ⟨j, hj, hjv, e⟩
          · rw [e]; exact h0
          · rw [e]; exact hin j hj hjv
        have h3 := hb _ (List.mem_map.mpr ⟨_, h2, rfl⟩)
        have h3 : (chF N.w N.st v : Int) ≤ (m : Int) := h3
        show (m : Int) = _
        lia
      rw [e]
      exact k H3 s3
theorem ok__law_behind {f : Addr} {fd : FuncData} (F : Fun K "_law_behind" "_law_behind" s__law_behind f fd) (T : Txt K mg CB CK CR CT CW CS DM FL FH FT FU P w)  (hm : mg "_law_behind" = some (.ref f)) (hk : PySem.W.keepIn K (.ref f) = true) (hb : Binds K fd ["_law_net_here", "_law_node"] []) : FnOk P w K mg base (CX1 P w) 32 f fd ["_law_net_here", "_law_node"] (spBehind 30) := by
  have all : ∀ n, FnOk P w K mg base (CX1 P w) (2 + n) f fd ["_law_net_here", "_law_node"] (spBehind n) := by
    intro n
    induction n with
    | zero =>
      refine F.ok1 sc__law_behind (fun vs H Q E h => ?_) (fun cdv A outer s H vs Q E hr h => ?_)
      · obtain ⟨a, sa, oa, rs, N, v, rfl, _⟩ := h; rfl
      · obtain ⟨a, sa, oa, rs, N, v, rfl, nt, hN, hv, k⟩ := h
        exact absurd hv (Nat.not_lt_zero _)
    | succ n ih => exact step__law_behind F T ⟨f, fd, hm, hk, hb, ih⟩
  exact all 30
end
end K42

namespace K42
open PySem L2 NM PyProof.Rows
section
variable {P : Program} {w : World} {K : PySem.W.Frag} {mg : Str → Option Value} {base : Heap} {CB CK CR CT CW CS DM FL FH FT FU PT : Addr}
noncomputable abbrev s__law_rounds : Stmt := top 44
theorem sc__law_rounds : FnScope ["_law_net_here", "_law_workers", "_law_far", "_law_left", "_law_found", "_law_ready", "_law_chosen", "_law_best", "_law_k"] ["_law_net_here", "_law_workers"] (defScope s__law_rounds) := ⟨rfl, rfl, rfl, by decide +kernel, rfl, by decide +kernel, by decide +kernel⟩
inductive Iv_far (H : Hp) (N : NetN) (i : Nat) (ys : List V) (H' : Hp) : Prop
  | mk : (Same H H') → (ys = wordV ((List.range i).map (chI N))) → Iv_far H N i ys H'
inductive Iv_two (H0 : Hp) (bs : List Bool) (i : Nat) (ys : List V) (H' : Hp) : Prop
  | mk : (H' = H0) → (ys = (bs.take i).map V.bl) → Iv_two H0 bs i ys H'
inductive Iv_in (H9 : Hp) (a fa ll fl rl cl : Addr) (kn : Nat) (A0 B0 : List Nat) (m : Nat) (σ : L2.St) (H : Hp) : Prop
  | mk : ∀ (i : Nat) (v7 v8 : Option V), (σ = [some (.ref a), some (.int kn), some (.ref fa), some (.ref ll), some (.ref fl), some (.ref rl), some (.ref cl), v7, v8]) → (Same H9 H) → (H rl = some (.lst (wordV (remL A0 B0 i)))) → (H cl = some (.lst (wordV (B0.take i)))) → (i ≤ B0.length) → (i ≤ kn) → (m + i = B0.length) → Iv_in H9 a fa ll fl rl cl kn A0 B0 m σ H
inductive Iv_best (a fa ll fl rl cl : Addr) (N : NetN) (kn : Nat) (R : List Nat) (H0 : Hp) (j : Nat) (σ : L2.St) (H : Hp) : Prop
  | mk : ∀ (b : Nat) (v8 : Option V), (σ = [some (.ref a), some (.int kn), some (.ref fa), some (.ref ll), some (.ref fl), some (.ref rl), some (.ref cl), some (.int (b : Nat)), v8]) → (H = H0) → (BestI (chI N) R j b) → Iv_best a fa ll fl rl cl N kn R H0 j σ H
inductive Iv_lr (H7 : Hp) (a fa fl : Addr) (N : NetN) (kn : Nat) (W : List Nat) (m : Nat) (σ : L2.St) (H : Hp) : Prop
  | mk : ∀ (r : Nat) (ll : Addr) (qs : List V) (v5 v6 v7 v8 : Option V), (σ = [some (.ref a), some (.int kn), some (.ref fa), some (.ref ll), some (.ref fl), v5, v6, v7, v8]) → (Same H7 H) → (H ll = some (.lst (wordV (waitL N.w N.st W kn r (List.range N.st.length))))) → (H fl = some (.lst qs)) → (LstsAt H fl fl qs (toldR N.w N.st W kn r)) → (ll ≠ fl) → (∀ i, i < r → ∃ k, k < N.st.length ∧ DnR N.w N.st W kn i k = false) → (m + r = N.st.length) → Iv_lr H7 a fa fl N kn W m σ H
theorem ok__law_rounds {f : Addr} {fd : FuncData} (F : Fun K "_law_rounds" "_law_rounds" s__law_rounds f fd) (T : Txt K mg CB CK CR CT CW CS DM FL FH FT FU P w) (d__law_behind : Df P w K mg base "_law_behind" 32 ["_law_net_here", "_law_node"] (spBehind 30)) : FnOk P w K mg base (CX1 P w) 33 f fd ["_law_net_here", "_law_workers"] (spRoundsL) := by
  refine F.ok1 sc__law_rounds (fun vs H Q E h => ?_) (fun cdv A outer s H vs Q E hr h => ?_)
  · obtain ⟨a, sa, oa, rs, N, kn, W, rfl, nt, hN, k1, h20, hO, k⟩ := h; rfl
  · obtain ⟨a, sa, oa, rs, N, kn, W, rfl, nt, hN, k1, h20, hO, k⟩ := h
    have nd := sc__law_rounds.nd
    refine ⟨_, (pss_cons (ps_setcomp (ot := none) 2 [0] rfl nd rfl rfl (pi_range1 rfl T.z_range (pa_cons (pe_callB call_len_seq rfl T.z_len boot_len (pa_cons (pe_ix ix_tup (pv 0) pe_int (fun _ _ => rfl)) pa_nil)) pa_nil)) (fun _ _ _ _ => (pe_own d__law_behind (hr.mono (by first | decide | lia)) rfl pass10 (pa_cons (pv 1) (pa_cons (pe_op op_add (pe_ix (show IxR _ (rIxT K) from ix_tup) (pv 1) pe_int (fun _ _ => rfl)) (pv 0)) pa_nil)))) (fun _ _ _ _ => trivial) rfl (nodupS_of rfl))
       (pss_cons (ps_set (i := 3) nd rfl (Or.inr rfl) (pe_callTy (call_list_rng rfl) rfl T.z_list boot_list (pa_cons (pe_callTy call_range1 rfl T.z_range boot_range (pa_cons (pe_callB call_len_seq rfl T.z_len boot_len (pa_cons (pe_ix ix_tup (pv 0) pe_int (fun _ _ => rfl)) pa_nil)) pa_nil)) pa_nil)))
       (pss_cons (ps_set (i := 4) nd rfl (Or.inl rfl) (pe_lst pa_nil))
       (pss_cons (ps_while powns1 (pt_truth (pv 3) (fun _ => rfl))
       (pss_cons (ps_setcomp (ot := some _) 5 [0, 3] rfl nd rfl rfl (pi_list (pv 3)) (fun _ _ _ _ => (pv 0)) (fun _ _ _ _ => (pt_not (pt_val (pe_callB (show CallR _ _ (rAny K) from call_any rfl) rfl T.z_any boot_any (pa_cons (pe_comp (ot := none) [1, 2] rfl (show PI _ _ _ (iTup K _) from pi_tup (pe_ix (show IxR _ (rIxL K) from ix_list) (pe_ix (show IxR _ (rIxT K) from ix_tup) (pv 1) pe_int (fun _ _ => rfl)) (pv 0) (fun _ _ => rfl))) (fun _ _ _ _ => (pe_cmpR (show OpR _ _ (rIn K false) from op_in_seq) (pe_op op_sub (pv 0) (pe_ix (show IxR _ (rIxT K) from ix_tup) (pv 1) pe_int (fun _ _ => rfl))) (pv 2) (by with_unfolding_all rfl))) (fun _ _ _ _ => trivial) rfl (nodupS_of rfl)) pa_nil))))) rfl (nodupS_of rfl))
       (pss_cons (ps_set (i := 6) nd rfl (Or.inr rfl) (pe_lst pa_nil))
       (pss_cons (ps_while powns1 (PW.pt (pw_and (pt_truth (pv 5) (fun _ => rfl)) (pw_and1 (pt_cmpR op_lt (pe_callB call_len_seq rfl T.z_len boot_len (pa_cons (pv 6) pa_nil)) (pv 1) (nomark _)))))
       (pss_cons (ps_set (i := 7) nd rfl (Or.inl rfl) (pe_ix ix_list (pv 5) pe_int (fun _ _ => rfl)))
       (pss_cons (ps_for powns1 rfl (pi_list (pv 5)) (pg_name (i := 8) nd rfl (Or.inl rfl))
       (pss_one (ps_if (pt_cmpR op_gt (pe_ix ix_list (pv 2) (pv 8) (fun _ _ => rfl)) (pe_ix ix_list (pv 2) (pv 7) (fun _ _ => rfl)) (nomark _))
       (pss_one (ps_set (i := 7) nd rfl (Or.inl rfl) (pv 8)))
       pss_nil)))
       (pss_cons (ps_expr (pe_bm PySem.F.plainAttrs_list PySem.F.slot_list_remove PySem.F.type_list_remove mt_remove (pv 5) (pa_cons (pv 7) pa_nil)))
       (pss_one (ps_expr (pe_bm PySem.F.plainAttrs_list PySem.F.slot_list_append PySem.F.type_list_append mt_append (pv 6) (pa_cons (pv 7) pa_nil))))))))
       (pss_cons (ps_expr (pe_bm PySem.F.plainAttrs_list PySem.F.slot_list_append PySem.F.type_list_append mt_append (pv 4) (pa_cons (pe_callB call_sortI rfl T.z_sorted boot_sorted (pa_cons (pv 6) pa_nil)) pa_nil)))
       (pss_one (ps_set (i := 3) nd rfl (Or.inr rfl) (pe_comp (ot := some _) [6] rfl (pi_list (pv 3)) (fun _ _ _ _ => (pv 0)) (fun _ _ _ _ => (pt_cmpR (show OpR _ _ (rIn K true) from op_notIn_seq) (pv 0) (pv 1) (by with_unfolding_all rfl))) rfl (nodupS_of rfl)))))))))
       (pss_one (ps_ret (pv 4))))))), ?_⟩
    skip
    have hw := hN.hi
    have hlo := hN.lo
    have hrl : rs.length = N.st.length := by rw [nt.st.length, steps_len]
    refine ⟨_, _, _, _, rfl, rfl, SqT.of nt.net, rfl, _, _, rfl, .inl (SqL.of nt.sts), _, rfl, by exact Int.natCast_nonneg _, by lia, ?_⟩
    rw [Int.toNat_natCast, hrl]
    refine comp_range (lo := 0) (n := N.st.length) (Iv_far H N) ⟨Same.refl _, rfl⟩ (fun j ys H3 hj ⟨_, e⟩ => fitsL (by rw [e, wordF_len]; lia)) ?_ ?_
    · rintro j ys H3 R hj ⟨s3, rfl⟩ kR
      have n3 := nt.mono s3
      have hch := far_le (v := N.w + j) hN.s1
      refine ⟨_, _, _, _, rfl, rfl, SqT.of n3.net, rfl, a, sa, oa, rs, N, N.w + j, by rw [Int.zero_add]; rfl, n3, hN, by lia, fun H4 s4 => kR _ _ ⟨s3.trans s4, ?_⟩⟩
      unfold wordV
      rw [List.range_succ, List.map_append, List.map_append]; rfl
    rintro ys H3 ⟨s3, rfl⟩ fa gfa
    have s4 := s3.trans (Same.new (o := .lst (wordV ((List.range N.st.length).map (chI N)))) gfa)
    have hfa : (upd H3 fa (.lst (wordV ((List.range N.st.length).map (chI N))))) fa = some (.lst (wordV ((List.range N.st.length).map (chI N)))) := upd_same
    generalize upd H3 fa (.lst (wordV ((List.range N.st.length).map (chI N)))) = H4 at s4 hfa ⊢
    have n4 := nt.mono s4
    refine ⟨_, _, _, _, rfl, rfl, SqT.of n4.net, rfl, _, _, rfl, .inl (SqL.of n4.sts), _, rfl, by exact Int.le_trans (by decide) (Int.natCast_nonneg _), by lia, fun p gp => ⟨p, 0, _, rfl, upd_same, ⟨by decide, by decide, by exact Int.le_trans (by decide) (Int.natCast_nonneg _), by lia⟩, fits (by lia), by lia, fun ll gl => ?_⟩⟩
    rw [hrl] at gl ⊢
    rw [range_word]
    have s5 := (s4.trans (Same.new (o := .rng 0 (N.st.length : Int)) gp))
    have hfa5 := new_at (o := .lst (wordV (List.range N.st.length))) gl (new_at (o := .rng 0 (N.st.length : Int)) gp hfa)
    have s6 := s5.trans (Same.new (o := .lst (wordV (List.range N.st.length))) gl)
    have hll : (upd (upd H4 p (.rng 0 (N.st.length : Int))) ll (.lst (wordV (List.range N.st.length)))) ll = some (.lst (wordV (List.range N.st.length))) := upd_same
    generalize upd (upd H4 p (.rng 0 (N.st.length : Int))) ll (.lst (wordV (List.range N.st.length))) = H7 at s6 hll hfa5 ⊢
    have n7 := nt.mono s6
    clear n4 s5 s4 s3 gl gp hfa gfa
    refine ⟨(show 0 ≤ sizeLine by decide), fun fl gf => ?_⟩
    have rlt : ∀ k ∈ List.range N.st.length, k < N.st.length := fun k hk => List.mem_range.mp hk
    refine ⟨Iv_lr H7 a fa fl N kn W, ⟨N.st.length, 0, ll, [], _, _, _, _, rfl, Same.new gf, by rw [wait_0]; exact new_at gf hll, upd_same, .nil, ne_of_none hll gf, fun i hi => absurd hi (Nat.not_lt_zero i), rfl⟩, ?_⟩
    rintro m σ H8 ⟨r, ll, qs, v5, v6, v7, v8, rfl, s8, hll, hfl, hls, nw, hun, hm⟩
    refine ⟨_, .inl ⟨_, SqL.of hll, rfl⟩, ?_⟩
    by_cases hnil : waitL N.w N.st W kn r (List.range N.st.length) = []
    · rw [hnil]
      exact k H8 fl fl fl qs r (s6.trans s8) ⟨wait_nil (fun k hk => List.mem_range.mpr hk) hnil, hun⟩ hfl hls
    have hsome := wait_some rlt hnil
    have hun1 : ∀ i, i < r + 1 → ∃ k, k < N.st.length ∧ DnR N.w N.st W kn i k = false := fun i hi => by
      by_cases e : i = r
      · rw [e]; exact hsome
      · exact hun i (by lia)
    have hrL := round_lt hO.pm (n := kn) (r := r) hN.s1 (by lia) fun i hi => hun1 i (by lia)
    rw [show (!(wordV (waitL N.w N.st W kn r (List.range N.st.length))).isEmpty) = true from by
      rcases hh : waitL N.w N.st W kn r (List.range N.st.length) with _ | ⟨z, t⟩
      · exact absurd hh hnil
      · rfl]
    refine ⟨Iv_lr H7 a fa fl N kn W (m - 1), fun σ' H' h => ⟨m - 1, by lia, h⟩, ?_⟩
    have n8 := n7.mono s8
    have ll_len : (waitL N.w N.st W kn r (List.range N.st.length)).length ≤ 10000 := by
      have h1 := List.length_filter_le (fun k => !DnR N.w N.st W kn r k) (List.range N.st.length)
      rw [List.length_range] at h1
      unfold waitL
      lia
    refine ⟨ll, rfl, ⟨_, SqL.of hll⟩, comp_wfilter (g := redy N.w N.st (DnR N.w N.st W kn r)) hll ll_len (fun k H' hk s' Q' kQ => ?_) (fun H9 s9 => ?_)⟩
    · have hkL := rlt k (wait_mem.mp hk).1
      obtain ⟨x, hx⟩ : ∃ x, rs[k]? = some x := ⟨_, List.getElem?_eq_getElem (by lia)⟩
      obtain ⟨r0, pp, rfl, hp, hr0⟩ := NetN.Ok.steps_get n8.st hx
      obtain ⟨p1, p2⟩ := hN.s1 k pp hp
      rw [redy_th hp] at kQ
      have n9 := n8.mono s'
      refine ⟨_, _, _, _, rfl, rfl, SqT.of n9.net, rfl, sa, _, _, _, rfl, rfl, SqL.of n9.sts, atI_nat hx, r0, rfl, ⟨_, SqT.of (s' _ _ hr0)⟩, comp_tup (K := K) (a := r0) (xs := [.int pp.1, .int pp.2]) (Iv_two H' [!thF N.w (DnR N.w N.st W kn r) pp.1, !thF N.w (DnR N.w N.st W kn r) pp.2]) ⟨rfl, rfl⟩ (fun i ys H9 _ ⟨e, _⟩ => by rw [e]; exact SqT.of (s' _ _ hr0)) (fun i ys H9 hi ⟨_, e⟩ => fitsL (by rw [e]; simp; lia)) ?_ ?_⟩
      · rintro i y ys H9 TT hy ⟨rfl, rfl⟩ ht
        obtain ⟨u, rfl, hu, hiu⟩ : ∃ u : Nat, y = .int (u : Nat) ∧ u < N.w + N.st.length ∧ ([!thF N.w (DnR N.w N.st W kn r) pp.1, !thF N.w (DnR N.w N.st W kn r) pp.2] : List Bool)[i]? = some (!thF N.w (DnR N.w N.st W kn r) u) := by
          rcases i with _ | _ | i
          · exact ⟨pp.1, (Option.some.inj hy).symm, by lia, rfl⟩
          · exact ⟨pp.2, (Option.some.inj hy).symm, by lia, rfl⟩
          · simp at hy
        refine ⟨_, _, _, _, rfl, rfl, SqT.of n9.net, rfl, ll, _, rfl, .inl (SqL.of (s' _ _ hll)), rfl, flat_word _, ?_⟩
        show TT (V.bl (inV (V.int ((u : Int) - (N.w : Int))) _)) H9
        rw [left_th hu]
        refine ht _ _ ⟨rfl, ?_⟩
        rw [List.take_succ, hiu, List.map_append]; rfl
      rintro ys H9 ⟨rfl, rfl⟩ p9 g9
      refine ⟨p9, _, rfl, SqL.of upd_same, ?_⟩
      have := kQ _ (Same.new (o := .lst (([!thF N.w (DnR N.w N.st W kn r) pp.1, !thF N.w (DnR N.w N.st W kn r) pp.2] : List Bool).map V.bl)) g9)
      cases e1 : thF N.w (DnR N.w N.st W kn r) pp.1 <;> cases e2 : thF N.w (DnR N.w N.st W kn r) pp.2 <;> (rw [e1, e2] at this; exact this)
    rw [rdy_wait]
    intro rl grl
    have hpm := rdy_perm (w := N.w) hO.pm (DnR N.w N.st W kn r)
    have hup := rdy_up (w := N.w) (st := N.st) (DnR N.w N.st W kn r)
    have hrk := rdy_rk (w := N.w) (st := N.st) hO.pw (DnR N.w N.st W kn r)
    have ech : choL N.w N.st W kn (DnR N.w N.st W kn r) = (rdyL N.w N.st W (DnR N.w N.st W kn r)).take kn := rfl
    have hAlt : ∀ k ∈ rdyL N.w N.st (List.range N.st.length) (DnR N.w N.st W kn r), k < N.st.length := fun k hk => rlt k (rdy_mem.mp hk).1
    have hBl : (rdyL N.w N.st W (DnR N.w N.st W kn r)).length ≤ N.st.length := by
      have h1 := List.length_filter_le (fun k => !DnR N.w N.st W kn r k && redy N.w N.st (DnR N.w N.st W kn r) k) W
      have h2 := hO.pm.length_eq
      rw [List.length_range] at h2
      unfold rdyL
      lia
    generalize rdyL N.w N.st (List.range N.st.length) (DnR N.w N.st W kn r) = A0 at hpm hup hAlt ⊢
    generalize rdyL N.w N.st W (DnR N.w N.st W kn r) = B0 at hpm hrk ech hBl
    refine ⟨(show 0 ≤ sizeLine by decide), fun cl gcl => ?_⟩
    have ncr : rl ≠ cl := ne_of_none (upd_same (H := H9) (a := rl) (o := .lst (wordV A0))) gcl
    have gcl9 : H9 cl = none := (Same.new grl).free gcl
    refine ⟨Iv_in H9 a fa ll fl rl cl kn A0 B0, ⟨B0.length, 0, _, _, rfl, (Same.new grl).trans (Same.new gcl), by rw [rem_0]; exact new_at gcl upd_same, upd_same, Nat.zero_le _, Nat.zero_le _, rfl⟩, ?_⟩
    rintro m2 σ2 H10 ⟨i, v7, v8, rfl, s10, hrl2, hcl, hiB, hik, hm2⟩
    have hrem := rem_len hpm hup i
    have rup := rem_up (B := B0) hup i
    have rmem : ∀ x ∈ remL A0 B0 i, x < N.st.length := fun x hx => hAlt x (rem_mem.mp hx).1
    refine ⟨_, .inl ⟨_, SqL.of hrl2, rfl⟩, ?_⟩
    have hne : ∀ R : List Nat, 0 < R.length → (!(wordV R).isEmpty) = true := fun R h => by
      rcases R with _ | ⟨z, t⟩
      · exact absurd h (Nat.lt_irrefl _)
      · rfl
    have s810 := s9.trans s10
    by_cases hgo : i < B0.length ∧ i < kn
    · rw [hne _ (by lia)]
      refine ⟨cl, _, rfl, .inl (SqL.of hcl), ?_⟩
      refine iteDT (show ((wordV (B0.take i)).length : Int) < (kn : Int) by rw [wordV_len', List.length_take]; lia) ?_
      refine ⟨Iv_in H9 a fa ll fl rl cl kn A0 B0 (m2 - 1), fun σ' H' h => ⟨m2 - 1, by lia, h⟩, ?_⟩
      have hnx := fun b hb => rem_next (b := b) hpm hup (i := i) hb
      have hbst := fun b hb hm => rem_best (b := b) hpm hup hrk (i := i) hb hm
      generalize remL A0 B0 i = R at hrem rup rmem hrl2 hnx hbst
      obtain ⟨b0, hb0⟩ : ∃ b0, R[0]? = some b0 := ⟨_, List.getElem?_eq_getElem (by lia)⟩
      have hfa10 := s810 _ _ (s8 _ _ hfa5)
      refine ⟨rl, _, _, .int (b0 : Nat), rfl, rfl, SqL.of hrl2, atI_nat (j := 0) (by unfold wordV; rw [List.getElem?_map, hb0]; rfl), ?_⟩
      refine ⟨rl, rfl, ⟨_, SqL.of hrl2⟩, for_list (K := K) (a := rl) (xs := wordV R) (Iv_best a fa ll fl rl cl N kn R H10) ⟨b0, _, rfl, rfl, best_0 rup hb0⟩ (fun _ _ _ _ ⟨_, _, _, e, _⟩ => by rw [e]; exact SqL.of hrl2) ?_ ?_⟩
      · rintro j x σ3 H3 hx ⟨b, v, rfl, rfl, hbest⟩
        obtain ⟨k', hk', rfl⟩ := wordV_get' hx
        have hkL := rmem k' (List.mem_of_getElem? hk')
        have hbL := rmem b hbest.mem
        refine ⟨fa, _, _, _, rfl, rfl, SqL.of hfa10, wordF_at _ (k := k') hkL, fa, _, _, _, rfl, rfl, SqL.of hfa10, wordF_at _ (k := b) hbL, iteB (fun h => ?_) (fun h => ?_)⟩
        · exact ⟨k', _, rfl, rfl, best_yes rup (fun x hx => by have := rmem x hx; lia) hbest hk' (by have := of_decide_eq_true h; lia)⟩
        · exact ⟨b, _, rfl, rfl, best_no hbest hk' (by have := of_decide_eq_false h; lia)⟩
      rintro σ3 H3 ⟨b, v, rfl, rfl, hbest⟩
      rw [wordV_len'] at hbest
      have hBb := hbst b hbest.mem (best_end hbest)
      obtain ⟨j, hj⟩ := List.getElem?_of_mem hbest.mem
      have hnd : R.Nodup := rup.imp fun h => Nat.ne_of_lt h
      have hcl3 : ∀ o, (upd H3 rl o) cl = some (.lst (wordV (B0.take i))) := fun o => by rw [upd_ne (Ne.symm ncr)]; exact hcl
      refine ⟨.inl ⟨rfl, _, SqL.of hrl2⟩, rl, R.map Int.ofNat, b, j, rfl, rfl, by rw [hrl2, wordV_ints], by rw [List.getElem?_map, hj]; rfl, fun m' z hm' hz => ?_, ?_⟩
      · rw [List.getElem?_map] at hz
        obtain ⟨y, hy, rfl⟩ := Option.map_eq_some_iff.mp hz
        intro e
        have e : (y : Int) = (b : Int) := e
        obtain rfl : y = b := by lia
        obtain ⟨l1, e1⟩ := List.getElem?_eq_some_iff.mp hy
        obtain ⟨l2, e2⟩ := List.getElem?_eq_some_iff.mp hj
        have := (List.getElem_inj (h₀ := l1) (h₁ := l2) hnd).mp (e1.trans e2.symm)
        lia
      refine ⟨.inl ⟨rfl, _, SqL.of (hcl3 _)⟩, cl, _, _, rfl, rfl, hcl3 _, fitsL (by rw [wordV_len', List.length_take]; lia), ⟨i + 1, _, _, rfl, (s10.upd grl).upd gcl9, ?_, ?_, by lia, by lia, by lia⟩⟩
      · rw [upd_ne ncr, upd_same, erase_map, erase_filter hnd hj, hnx b hBb, wordV_ints]
      · rw [upd_same, List.take_succ, hBb]
        unfold wordV
        rw [List.map_append]; rfl
    · have hch : B0.take i = choL N.w N.st W kn (DnR N.w N.st W kn r) := by
        rw [ech]
        by_cases hlt : i < B0.length
        · rw [show i = kn by lia]
        · rw [List.take_of_length_le (by lia), List.take_of_length_le (by lia)]
      by_cases hlt : i < B0.length
      case' pos =>
        rw [hne _ (by lia)]
        refine ⟨cl, _, rfl, .inl (SqL.of hcl), ?_⟩
        refine iteDF (show ¬ ((wordV (B0.take i)).length : Int) < (kn : Int) by rw [wordV_len', List.length_take]; lia) ?_
      case' neg =>
        rw [show (!(wordV (remL A0 B0 i)).isEmpty) = false from by
          rw [List.length_eq_zero_iff.mp (show (remL A0 B0 i).length = 0 by lia)]; rfl]
      all_goals
        have cnd := cho_nd (w := N.w) (n := kn) hO.pm (DnR N.w N.st W kn r)
        have clt := cho_lt (w := N.w) (n := kn) hO.pm (DnR N.w N.st W kn r)
        have clen : (choL N.w N.st W kn (DnR N.w N.st W kn r)).length < 64 := by rw [← hch, List.length_take]; lia
        have hfl10 := s810 _ _ hfl
        rw [hch] at hcl
        refine ⟨.inl ⟨rfl, _, SqL.of hfl10⟩, cl, (choL N.w N.st W kn (DnR N.w N.st W kn r)).map Int.ofNat, rfl, SqL.of (by rw [hcl, wordV_ints]), by rw [List.length_map]; exact clen, fun c1 ns' gc pm1 pw1 => ?_⟩
        obtain rfl := srt_is cnd clt pm1 pw1
        rw [← wordV_ints]
        have hlen := hls.length
        rw [told_len] at hlen
        refine ⟨fl, qs, .ref c1, rfl, rfl, new_at gc hfl10, fitsL (by lia), ?_⟩
        have ncf : fl ≠ cl := ne_of_none (s9 _ _ hfl) gcl9
        have nc1 : fl ≠ c1 := ne_of_none hfl10 gc
        have told := told_succ (w := N.w) (st := N.st) (W := W) (n := kn) r
        have s12 := ((s8.trans s810).trans (Same.new (o := .lst (wordV (srtL N.st.length (choL N.w N.st W kn (DnR N.w N.st W kn r))))) gc)).upd (o := .lst (qs ++ [.ref c1])) gf
        have hll12 : (upd (upd H10 c1 (.lst (wordV (srtL N.st.length (choL N.w N.st W kn (DnR N.w N.st W kn r)))))) fl (.lst (qs ++ [.ref c1]))) ll = _ := (upd_ne nw).trans (new_at gc (s810 _ _ hll))
        have hcl12 : (upd (upd H10 c1 (.lst (wordV (srtL N.st.length (choL N.w N.st W kn (DnR N.w N.st W kn r)))))) fl (.lst (qs ++ [.ref c1]))) cl = _ := (upd_ne (Ne.symm ncf)).trans (new_at gc hcl)
        have hfl12 : (upd (upd H10 c1 (.lst (wordV (srtL N.st.length (choL N.w N.st W kn (DnR N.w N.st W kn r)))))) fl (.lst (qs ++ [.ref c1]))) fl = _ := upd_same
        have hls12 : LstsAt (upd (upd H10 c1 (.lst (wordV (srtL N.st.length (choL N.w N.st W kn (DnR N.w N.st W kn r)))))) fl (.lst (qs ++ [.ref c1]))) fl fl (qs ++ [.ref c1]) (toldR N.w N.st W kn (r + 1)) := by
          rw [told]
          refine LstsAt.snoc ?_ (Ne.symm nc1) (Ne.symm nc1) (hls.keep fun p l h1 _ e => ?_)
          · rw [upd_ne (Ne.symm nc1)]; exact upd_same
          · rw [upd_ne h1]; exact new_at gc (s810 _ _ e)
        generalize upd (upd H10 c1 (.lst (wordV (srtL N.st.length (choL N.w N.st W kn (DnR N.w N.st W kn r)))))) fl (.lst (qs ++ [.ref c1])) = H12 at s12 hll12 hcl12 hfl12 hls12 ⊢
        refine ⟨ll, rfl, ⟨_, SqL.of hll12⟩, comp_wfilter (g := fun k => !(choL N.w N.st W kn (DnR N.w N.st W kn r)).contains k) hll12 ll_len (fun k H' hk s' Q' kQ => ?_) (fun H13 s13 => ?_)⟩
        · refine ⟨cl, _, rfl, .inl (SqL.of (s' _ _ hcl12)), rfl, flat_word _, ?_⟩
          have := kQ H' (Same.refl _)
          rw [← inV_cont] at this
          exact this
        rw [left_next]
        intro ll2 gl2
        have nl2 : ll2 ≠ fl := Ne.symm (ne_of_none (s13 _ _ hfl12) gl2)
        exact ⟨r + 1, ll2, qs ++ [.ref c1], _, _, _, _, rfl, (s12.trans s13).trans (Same.new gl2), upd_same, new_at gl2 (s13 _ _ hfl12), hls12.keep fun p l _ _ e => new_at gl2 (s13 _ _ e), nl2, hun1, by lia⟩
end
end K42

namespace K42
open PySem L2 NM PyProof.Rows
section
variable {P : Program} {w : World} {K : PySem.W.Frag} {mg : Str → Option Value} {base : Heap} {CB CK CR CT CW CS DM FL FH FT FU PT : Addr}
noncomputable abbrev s_law : Stmt := top 45
theorem sc_law : FnScope ["_law_script", "_law_net_here", "_law_workers", "_law_found", "_law_least", "_law_deep", "_law_one", "_law_other", "_law_few", "_law_bad"] ["_law_script"] (defScope s_law) := ⟨rfl, rfl, rfl, by decide +kernel, rfl, by decide +kernel, by decide +kernel⟩
inductive Iv_dp (H8 : Hp) (a n fl dl : Addr) (k : Nat) (lst : Int) (N : NetN) (i : Nat) (σ : L2.St) (H : Hp) : Prop
  | mk : ∀ v6 v7 : Option V, (σ = [some (.ref a), some (.ref n), some (.int (k : Nat)), some (.ref fl), some (.int lst), some (.ref dl), v6, v7, none, none]) → (Same H8 H) → (H dl = some (.lst ((N.depthsTo i).map V.int))) → Iv_dp H8 a n fl dl k lst N i σ H
inductive Iv_st (x : Str) (H0 : Hp) (i : Nat) (ys : List V) (H : Hp) : Prop
  | mk : (Same H0 H) → (ys = (List.replicate i x).map V.str) → Iv_st x H0 i ys H
inductive Iv_fw (H3 : Hp) (a n fl dl : Addr) (v6 v7 : Option V) (k : Nat) (lst : Int) (F : Nat) (m : Nat) (σ : L2.St) (H : Hp) : Prop
  | mk : ∀ f : Nat, (σ = [some (.ref a), some (.ref n), some (.int (k : Nat)), some (.ref fl), some (.int lst), some (.ref dl), v6, v7, some (.int (f : Nat)), none]) → (H = H3) → (f ≤ F) → (m + f = F) → Iv_fw H3 a n fl dl v6 v7 k lst F m σ H
theorem ok_law {f : Addr} {fd : FuncData} (F : Fun K "law" "law" s_law f fd) (T : Txt K mg CB CK CR CT CW CS DM FL FH FT FU P w) (d_known : Df P w K mg base "known" 12 ["word", "wide"] (spKnown CK)) (d__law_mix : Df P w K mg base "_law_mix" 2 ["_law_script", "_law_k"] (spMix K)) (d__law_whole : Df P w K mg base "_law_whole" 1 ["_law_found"] (spWhole)) (d__law_net : Df P w K mg base "_law_net" 3 ["_law_script", "_law_k", "_law_most"] (spDrawnN K)) (d__law_right : Df P w K mg base "_law_right" 17 ["_law_script", "_law_k", "_law_most"] (spRight K)) (d__law_told : Df P w K mg base "_law_told" 9 ["_law_way", "_law_net_here", "_law_workers"] (spToldR PT lp)) (d__law_rounds : Df P w K mg base "_law_rounds" 33 ["_law_net_here", "_law_workers"] (spRoundsL)) : FnOk P w K mg base (CX1 P w) 34 f fd ["_law_script"] (spLawR K PT lp) := by
  refine F.ok1 sc_law (fun vs H Q E h => ?_) (fun cdv A outer s H vs Q E hr h => ?_)
  · obtain ⟨a, ns, rfl, S, hlam, k⟩ := h; rfl
  · obtain ⟨a, ns, rfl, S, hlam, k⟩ := h
    have nd := sc_law.nd
    refine ⟨_, (pss_cons (ps_set (i := 1) nd rfl (Or.inr rfl) (pe_own d__law_net (hr.mono (by first | decide | lia)) rfl pass1 (pa_cons (pv 0) (pa_cons pe_int (pa_cons pe_int pa_nil)))))
       (pss_cons (ps_if (pt_cmpR op_eq (pe_op op_mod (pe_own d__law_mix (hr.mono (by first | decide | lia)) rfl pass1 (pa_cons (pv 0) (pa_cons pe_int pa_nil))) pe_int) pe_int (nomark _))
       (pss_one (ps_set (i := 1) nd rfl (Or.inr rfl) (pe_own d__law_right (hr.mono (by first | decide | lia)) rfl pass1 (pa_cons (pv 0) (pa_cons pe_int (pa_cons pe_int pa_nil))))))
       pss_nil)
       (pss_cons (ps_if (pt_cmpR op_eq (pe_op op_mod (pe_own d__law_mix (hr.mono (by first | decide | lia)) rfl pass1 (pa_cons (pv 0) (pa_cons pe_int pa_nil))) pe_int) pe_int (nomark _))
       (pss_one (ps_set (i := 1) nd rfl (Or.inr rfl) (pe_own d_known (hr.mono (by first | decide | lia)) rfl pass1 (pa_cons (pe_ix ix_list (pe_lst (pa_cons pe_str (pa_cons pe_str (pa_cons pe_str (pa_cons pe_str pa_nil))))) (pe_op op_mod (pe_own d__law_mix (hr.mono (by first | decide | lia)) rfl pass1 (pa_cons (pv 0) (pa_cons pe_int pa_nil))) pe_int) (fun _ _ => rfl)) (pa_cons (pe_op op_add pe_int (pe_op op_mod (pe_own d__law_mix (hr.mono (by first | decide | lia)) rfl pass1 (pa_cons (pv 0) (pa_cons pe_int pa_nil))) pe_int)) pa_nil)))))
       pss_nil)
       (pss_cons (ps_set (i := 2) nd rfl (Or.inl rfl) (pe_ix ix_list (pe_lst (pa_cons pe_int (pa_cons pe_int (pa_cons pe_int (pa_cons pe_int (pa_cons pe_int pa_nil)))))) (pe_op op_mod (pe_own d__law_mix (hr.mono (by first | decide | lia)) rfl pass1 (pa_cons (pv 0) (pa_cons pe_int pa_nil))) pe_int) (fun _ _ => rfl)))
       (pss_cons (ps_set (i := 3) nd rfl (Or.inl rfl) (pe_own d__law_told (hr.mono (by first | decide | lia)) rfl pass1 (pa_cons pe_int (pa_cons (pv 1) (pa_cons (pv 2) pa_nil)))))
       (pss_cons (ps_set (i := 4) nd rfl (Or.inl rfl) (pe_own d__law_told (hr.mono (by first | decide | lia)) rfl pass1 (pa_cons pe_int (pa_cons (pv 1) (pa_cons (pv 2) pa_nil)))))
       (pss_cons (ps_set (i := 5) nd rfl (Or.inl rfl) (pe_op op_rep (pe_lst (pa_cons pe_int pa_nil)) (pe_ix ix_tup (pv 1) pe_int (fun _ _ => rfl))))
       (pss_cons (ps_for powns1 rfl (pi_list (pe_ix ix_tup (pv 1) pe_int (fun _ _ => rfl))) (pg_tup rfl (pgs_cons (pg_name (i := 6) nd rfl (Or.inl rfl)) (pgs_cons (pg_name (i := 7) nd rfl (Or.inl rfl)) pgs_nil)))
       (pss_one (ps_expr (pe_bm PySem.F.plainAttrs_list PySem.F.slot_list_append PySem.F.type_list_append mt_append (pv 5) (pa_cons (pe_op op_add pe_int (pe_callB (call_max2 rfl) rfl T.z_max boot_max (pa_cons (pe_ix ix_list (pv 5) (pv 6) (fun _ _ => rfl)) (pa_cons (pe_ix ix_list (pv 5) (pv 7) (fun _ _ => rfl)) pa_nil)))) pa_nil)))))
       (pss_cons (ps_set (i := 8) nd rfl (Or.inl rfl) pe_int)
       (pss_cons (ps_while powns1 (pt_cmpR op_lt (pe_op op_mul (pv 8) (pv 2)) (pe_callB call_len_seq rfl T.z_len boot_len (pa_cons (pe_ix ix_tup (pv 1) pe_int (fun _ _ => rfl)) pa_nil)) (nomark _))
       (pss_one (ps_set (i := 8) nd rfl (Or.inl rfl) (pe_op op_add (pv 8) pe_int))))
       (pss_cons (ps_if (PW.pt (pw_or (pt_cmpR (op_neG hr) (pv 3) (pe_own d__law_rounds (hr.mono (by first | decide | lia)) rfl pass1 (pa_cons (pv 1) (pa_cons (pv 2) pa_nil))) (nomark _)) (pw_or (pt_not (pt_truth (pe_own d__law_whole (hr.mono (by first | decide | lia)) rfl pass1 (pa_cons (pv 4) pa_nil)) (fun _ => rfl))) (pw_or1 (pt_cmpR op_ne (pv 4) (pe_callB (call_max2 rfl) rfl T.z_max boot_max (pa_cons (pv 8) (pa_cons (pe_callB (call_maxL rfl) rfl T.z_max boot_max (pa_cons (pv 5) pa_nil)) pa_nil))) (nomark _))))))
       (pss_one (ps_ret pe_bl))
       pss_nil)
       (pss_cons (ps_if (PW.pt (pw_or (pt_cmpR op_lt (pe_callB call_len_seq rfl T.z_len boot_len (pa_cons (pv 3) pa_nil)) (pv 4) (nomark _)) (pw_or1 (PW.pt (pw_and (pt_cmpR op_in_seq (pv 2) (pe_tup (pa_cons pe_int (pa_cons pe_int pa_nil))) (by with_unfolding_all rfl)) (pw_and1 (pt_cmpR op_ne (pe_callB call_len_seq rfl T.z_len boot_len (pa_cons (pv 3) pa_nil)) (pv 4) (nomark _))))))))
       (pss_one (ps_ret pe_bl))
       pss_nil)
       (pss_cons (ps_set (i := 9) nd rfl (Or.inr rfl) (pe_ix ix_list (pe_lst (pa_cons pe_int (pa_cons pe_int (pa_cons (pe_un un_neg pe_int) pa_nil)))) (pe_op op_mod (pe_own d__law_mix (hr.mono (by first | decide | lia)) rfl pass1 (pa_cons (pv 0) (pa_cons pe_int pa_nil))) pe_int) (fun _ _ => rfl)))
       (pss_cons (ps_if (pt_cmpR (op_neG hr) (pe_comp (ot := none) [1, 9] rfl (pi_range1 rfl T.z_range (pa_cons pe_int pa_nil)) (fun _ _ _ _ => (pe_own d__law_told (hr.mono (by first | decide | lia)) rfl pass10 (pa_cons (pv 0) (pa_cons (pv 1) (pa_cons (pv 2) pa_nil))))) (fun _ _ _ _ => trivial) rfl (nodupS_of rfl)) (pe_op op_rep (pe_lst (pa_cons pe_str pa_nil)) pe_int) (nomark _))
       (pss_one (ps_ret pe_bl))
       pss_nil)
       (pss_one (ps_ret (pe_cmpR (op_eqG hr) (pe_comp (ot := none) [9] rfl (pi_range1 rfl T.z_range (pa_cons pe_int pa_nil)) (fun _ _ _ _ => (pe_own d__law_told (hr.mono (by first | decide | lia)) rfl pass10 (pa_cons (pv 0) (pa_cons (pe_tup (pa_cons pe_int (pa_cons (pe_lst pa_nil) (pa_cons (pe_lst pa_nil) pa_nil)))) (pa_cons (pv 1) pa_nil))))) (fun _ _ _ _ => trivial) rfl (nodupS_of rfl)) (pe_op op_rep (pe_lst (pa_cons pe_str pa_nil)) pe_int) (nomark _)))))))))))))))))), ?_⟩
    skip
    refine' absorb (H := H) ?use ?tail
    case use =>
      intro tail
      refine ⟨a, ns, 0, 6, rfl, by decide, by decide, S, fun H1 n sa oa rs N s1 nt hN w2 l2 => ?_⟩
      refine ⟨a, ns, 60, rfl, s1.seq S, fun num hnum => ⟨(show (0 : Int) < 2 by decide), iteB (fun c => ?A) (fun c => ?B)⟩⟩
      case' B =>
        refine ⟨a, ns, 60, rfl, s1.seq S, fun num2 hnum2 => ⟨(show (0 : Int) < 4 by decide), iteB (fun c2 => ?C) (fun c2 => ?D)⟩⟩
      case D => exact tail H1 n sa oa rs N s1 nt hN (by lia)
      case' A =>
        refine ⟨a, ns, 61, 5, rfl, by decide, by decide, s1.seq S, fun H2 n sa oa rs N s2 nt hN w3 l3 => ?_⟩
        have s1 : Same H H2 := s1.trans s2
        have l3' : N.w * (N.w - 1) ≤ 5 * 4 := Nat.mul_le_mul w3 (by lia)
        refine ⟨a, ns, 60, rfl, s1.seq S, fun num2 hnum2 => ⟨(show (0 : Int) < 4 by decide), iteB (fun c2 => ?C2) (fun c2 => ?D2)⟩⟩
      case D2 => exact tail H2 n sa oa rs N s1 nt hN (by lia)
      all_goals
        refine ⟨(show 4 ≤ sizeLine by decide), fun p g => ?_⟩
        refine ⟨a, ns, 62, rfl, (s1.trans (Same.new g)).seq S, fun num3 hnum3 => ?_⟩
        refine L2.ob_eaa (pickW4 num3) fun x hx xl hat => ?_
        refine ⟨(show (0 : Int) < 4 by decide), p, _, _, _, rfl, rfl, SqL.of upd_same, hat, ?_⟩
        refine ⟨a, ns, 63, rfl, (s1.trans (Same.new g)).seq S, fun num4 hnum4 => ?_⟩
        have h1 := Int.emod_nonneg num4 (show (7 : Int) ≠ 0 by decide)
        have h2 := Int.emod_lt_of_pos num4 (show (0 : Int) < 7 by decide)
        obtain ⟨wn, hwn⟩ : ∃ wn : Nat, 1 + num4 % 7 = (wn : Int) := ⟨(1 + num4 % 7).toNat, by lia⟩
        refine ⟨(show (0 : Int) < 7 by decide), x, (wn : Int), congrArg (fun z => [V.str x, V.int z]) hwn, xl, log2_small (by lia), fun _ => ?_, fun hh => absurd ⟨hx, by lia, by lia⟩ hh⟩
        rw [Int.toNat_natCast]
        have hO := known_ok (k := wordIx x) (w := wn) (by lia) (by lia)
        have hsh := known_short (wordIx x) (wordIx_lt hx) wn (by lia)
        exact fun H5 n sa oa rs s5 nt => tail H5 n sa oa rs _ ((s1.trans (Same.new g)).trans s5) nt hO hsh
    intro H5 n sa oa rs N s5 nt hN h30
    have hw := hN.hi
    have hlo := hN.lo
    have hrl : rs.length = N.st.length := by rw [nt.st.length, steps_len]
    have hoL : N.outs.length ≤ 10000 := by rw [outs_len]; have := hN.ol; lia
    refine ⟨(show 5 ≤ sizeLine by decide), fun p1 g1 => ⟨a, ns, 64, rfl, (s5.trans (Same.new g1)).seq S, fun num hnum => ?_⟩⟩
    obtain ⟨z, hz, kn, rfl, hkn⟩ := pick5 (a := V.int 1) (b := V.int 2) (c := V.int 3) (d := V.int 5) (e := V.int 64) (i := num % 5) (Int.emod_nonneg _ (by decide)) (Int.emod_lt_of_pos _ (by decide)) (R := fun z => ∃ kn : Nat, z = V.int (kn : Nat) ∧ (1 ≤ kn ∧ kn ≤ 64)) ⟨1, rfl, by decide, by decide⟩ ⟨2, rfl, by decide, by decide⟩ ⟨3, rfl, by decide, by decide⟩ ⟨5, rfl, by decide, by decide⟩ ⟨64, rfl, by decide, by decide⟩
    refine ⟨(show (0 : Int) < 5 by decide), p1, _, _, _, rfl, rfl, SqL.of upd_same, hz, ?_⟩
    have s6 := s5.trans (Same.new (o := .lst [.int 1, .int 2, .int 3, .int 5, .int 64]) g1)
    have nt6 := nt.mono (Same.new (o := .lst [.int 1, .int 2, .int 3, .int 5, .int 64]) g1)
    have lam6 := hlam.same s6
    generalize upd H5 p1 (.lst [.int 1, .int 2, .int 3, .int 5, .int 64]) = H6 at s6 nt6 lam6 ⊢
    refine ⟨0, n, sa, oa, rs, N.w, N.steps, N.outs, (kn : Int), rfl, .inl rfl, hoL, nt6, (fun _ _ g => absurd hN.good g), (fun _ _ _ h => absurd ⟨by lia, by lia⟩ h), fun N' hN' e1 e2 e3 k' ek _ _ => ⟨fun _ => ?_, fun h => absurd h (by decide)⟩⟩
    obtain rfl := net_inj e1 e2 e3
    obtain rfl : k' = kn := by lia
    refine ⟨by lia, lam6, fun H7 fl x7 y7 qs W R sB7 lam7 hO hE hfl hls => ?_⟩
    have X7 : SameX H6 H7 := sB7.toX lam6
    have nt7 := nt6.monoX X7
    have S7 : SqL K H7 a (ns.map V.int) := X7.seq (s6.seq S)
    refine ⟨1, n, sa, oa, rs, N.w, N.steps, N.outs, (k' : Int), rfl, .inr rfl, hoL, nt7, (fun _ _ g => absurd hN.good g), (fun _ _ _ h => absurd ⟨by lia, by lia⟩ h), fun N'' hN'' e1 e2 e3 k'' ek _ _ => ⟨fun h => absurd h (by decide), fun _ H8 M s8 hM hb => ?_⟩⟩
    obtain rfl := net_inj e1 e2 e3
    obtain rfl : k'' = k' := by lia
    clear ek e1 e2 e3
    have nt8 := nt7.mono s8
    have hfl8 := s8 _ _ hfl
    have hls8 := hls.keep (fun p l _ _ e => s8 p _ e)
    have S8 := s8.seq S7
    have lam8 := lam7.same s8
    clear hls hfl S7 nt7 X7 sB7 nt6 lam6 s6 s5 nt s8 lam7
    obtain ⟨hge, heq⟩ := rounds_few hN hO hkn.1 (by lia) hE hM hb rfl
    have hR := hls8.length
    rw [told_len] at hR
    generalize hlst : (if M > ((N.st.length : Int) + (k'' : Int) - 1) / (k'' : Int) then M else ((N.st.length : Int) + (k'' : Int) - 1) / (k'' : Int)) = lst at hge heq ⊢
    refine ⟨(show 1 ≤ sizeLine by decide), fun q hq => ?_⟩
    have s9 := Same.new (o := .lst [.int 0]) hq
    refine ⟨_, _, _, _, rfl, rfl, SqT.of (s9 _ _ nt8.net), rfl, q, _, _, rfl, rfl, upd_same, by exact Int.natCast_nonneg _, by lia, fits (by simp; lia), fun dl hdl => ?_⟩
    rw [Int.toNat_natCast, rep_int]
    have hdlH : H8 dl = none := s9.free hdl
    have s10 := s9.trans (Same.new (o := .lst ((List.replicate N.w (0 : Int)).map V.int)) hdl)
    refine ⟨_, _, _, _, rfl, rfl, SqT.of (s10 _ _ nt8.net), rfl, sa, rfl, ⟨_, SqL.of (s10 _ _ nt8.sts)⟩, for_list (K := K) (a := sa) (xs := rs) (Iv_dp H8 a n fl dl k'' lst N) ⟨_, _, rfl, s10, by rw [upd_same, N.depthsTo_zero]⟩ (fun i σ3 H3 _ ⟨_, _, _, s3, _⟩ => SqL.of (s3 _ _ nt8.sts)) ?_ ?_⟩
    · rintro i x σ3 H3 hx ⟨v6, v7, rfl, s3, hd3⟩
      obtain ⟨r, p, rfl, hp, hr0⟩ := NetN.Ok.steps_get nt8.st hx
      obtain ⟨p1, p2⟩ := hN.s1 i p hp
      have hil := (List.getElem?_eq_some_iff.mp hp).1
      have hlen := N.depthsTo_len i
      rw [List.length_take] at hlen
      refine ⟨r, _, rfl, SqT.of (s3 _ _ hr0), rfl, ?_⟩
      refine ⟨.inl ⟨rfl, _, SqL.of hd3⟩, dl, _, _, _, rfl, rfl, SqL.of hd3, atI_ints (by lia), dl, _, _, _, rfl, rfl, SqL.of hd3, atI_ints (by lia), _, _, rfl, dl, _, _, rfl, rfl, hd3, fitsL (by rw [List.length_map]; lia), ?_⟩
      refine ⟨_, _, rfl, s3.upd hdlH, ?_⟩
      rw [upd_same, N.depthsTo_succ hp, dstep, List.map_append]
      rfl
    rintro σ3 H3 ⟨v6, v7, rfl, s3, hd3⟩
    rw [hrl, N.depthsTo_all] at hd3
    have nt3 := nt8.mono s3
    have hfl3 := s3 _ _ hfl8
    have hls3 := hls8.keep (fun p l _ _ e => s3 p _ e)
    have S3 := s3.seq S8
    have lam3 := lam8.same s3
    clear hls8 hfl8 S8 lam8 nt8 s10 s9 s3 hdlH hdl hq
    have hF : (N.st.length + k'' - 1) / k'' ≤ N.st.length := by
      rw [Nat.div_le_iff_le_mul_add_pred (by lia)]
      have := Nat.le_mul_of_pos_left N.st.length (show 0 < k'' by lia)
      lia
    refine ⟨Iv_fw H3 a n fl dl v6 v7 k'' lst ((N.st.length + k'' - 1) / k''), ⟨_, 0, rfl, rfl, Nat.zero_le _, rfl⟩, ?_⟩
    rintro m σ4 H4 ⟨f0, rfl, rfl, hf0, hm⟩
    refine ⟨.inl ⟨by lia, by lia⟩, _, _, _, _, rfl, rfl, SqT.of nt3.net, rfl, _, _, rfl, .inl (SqL.of nt3.sts), iteB (fun h => ?_) (fun h => ?_)⟩
    · have h : f0 * k'' < N.st.length := by
        have h := of_decide_eq_true h
        rw [hrl] at h
        have e : ((f0 * k'' : Nat) : Int) = (f0 : Int) * (k'' : Int) := by push_cast; rfl
        lia
      have hg := few_go hkn.1 h
      exact ⟨Iv_fw H4 a n fl dl v6 v7 k'' lst ((N.st.length + k'' - 1) / k'') (m - 1), fun σ' H' hh => ⟨m - 1, by lia, hh⟩, ⟨f0 + 1, rfl, rfl, hg, by lia⟩⟩
    have h : ¬ f0 * k'' < N.st.length := by
      have h := of_decide_eq_false h
      rw [hrl] at h
      have e : ((f0 * k'' : Nat) : Int) = (f0 : Int) * (k'' : Int) := by push_cast; rfl
      lia
    obtain rfl := few_stop hkn.1 hf0 h
    refine ⟨n, sa, oa, rs, N, k'', W, rfl, nt3, hN, hkn.1, h30, hO, fun H5 l5 x5 y5 qs5 R5 s5 hE5 hl5 hls5 => ?_⟩
    obtain rfl := end_uniq hE hE5
    have hfl5 := s5 _ _ hfl3
    have hls5' := hls3.keep (fun p l _ _ e => s5 p _ e)
    have nt5 := nt3.mono s5
    have S5 := s5.seq S3
    have lam5 := lam3.same s5
    have hd5 := s5 _ _ hd3
    have hdl : N.depths ≠ [] := fun z => by rw [z] at hM; cases hM
    refine ⟨dLsts (toldR N.w N.st W k'' R), dLsts (toldR N.w N.st W k'' R), deep_lsts hfl5 hls5', deep_lsts hl5 hls5, dp_lsts, ?_⟩
    rw [eqB_refl]
    refine ⟨lst, rfl, true, rfl, dl, N.depths, rfl, .inl (SqL.of hd5), hdl, fun M2 hM2 hb2 => ⟨_, _, rfl, ?_⟩⟩
    have eM : M2 = M := by
      have h1 := hb M2 hM2
      have h2 := hb2 M hM
      have h2 : M ≤ M2 := h2
      lia
    refine iteNS (congrArg V.int (by rw [eM, fewI hkn.1]; exact hlst.symm)) ?_
    refine ⟨fl, _, rfl, .inl (SqL.of hfl5), iteDF (show ¬ ((qs.length : Int) < lst) by rw [hR]; lia) ?_⟩
    refine ⟨(show 2 ≤ sizeLine by decide), fun t gt => ⟨t, _, rfl, .inr (SqT.of upd_same), rfl, rfl, ?_⟩⟩
    show tTest_b _ (V.bl (inV (V.int ((k'' : Nat) : Int)) [V.int ((1 : Nat) : Int), V.int ((64 : Nat) : Int)])) _
    rw [inV_two]
    refine' both ?use2 ?tail2
    case use2 =>
      intro tl2
      refine iteB (fun h => ?T) (fun h => ?F)
      case F => exact tl2
      case T =>
        refine ⟨fl, _, rfl, .inl (SqL.of (new_at gt hfl5)), iteNS (congrArg V.int (by rw [hR]; exact heq (of_decide_eq_true h))) ?_⟩
        exact tl2
    have nt6 := nt5.mono (Same.new (o := .tup [.int 1, .int 64]) gt)
    have S6 := (Same.new (o := .tup [.int 1, .int 64]) gt).seq S5
    have lam6 := lam5.same (Same.new (o := .tup [.int 1, .int 64]) gt)
    clear nt5 S5 lam5 hd5 hfl5 hls5' hls5 hl5 nt3 S3 lam3 hd3 hfl3 hls3
    refine ⟨(show 3 ≤ sizeLine by decide), fun p6 g6 => ⟨a, ns, 65, rfl, (Same.new g6).seq S6, fun num2 hnum2 => ?_⟩⟩
    obtain ⟨z2, hz2, bd, rfl, hbd⟩ := pick3 (a := V.int 0) (b := V.int 65) (c := V.int (-1)) (i := num2 % 3) (Int.emod_nonneg _ (by decide)) (Int.emod_lt_of_pos _ (by decide)) (R := fun z => ∃ bd : Int, z = V.int bd ∧ ¬ (1 ≤ bd ∧ bd ≤ 64)) ⟨0, rfl, by decide⟩ ⟨65, rfl, by decide⟩ ⟨-1, rfl, by decide⟩
    refine ⟨(show (0 : Int) < 3 by decide), p6, _, _, _, rfl, rfl, SqL.of upd_same, hz2, ?_⟩
    have nt7 := nt6.mono (Same.new (o := .lst [.int 0, .int 65, .int (-1)]) g6)
    have lam7 := lam6.same (Same.new (o := .lst [.int 0, .int 65, .int (-1)]) g6)
    show gName 9 (V.int bd) _ (upd (upd H5 t (.tup [.int 1, .int 64])) p6 (.lst [.int 0, .int 65, .int (-1)])) _
    generalize upd (upd H5 t (.tup [.int 1, .int 64])) p6 (.lst [.int 0, .int 65, .int (-1)]) = H7 at nt7 lam7 ⊢
    refine ⟨_, rfl, by decide, by decide, ?_⟩
    refine comp_range (lo := 0) (n := 2) (Iv_st (Str.ofString "kind") H7) ⟨Same.refl _, rfl⟩ (fun j ys H8 hj ⟨_, e⟩ => fitsL (by rw [e, List.length_map, List.length_replicate]; lia)) ?_ ?_
    · rintro j ys H8 R8 hj ⟨s8, rfl⟩ kR
      exact ⟨0 + (j : Int), n, sa, oa, rs, N.w, N.steps, N.outs, bd, rfl, by lia, hoL, nt7.mono s8, (fun _ _ g => absurd hN.good g), (fun H9 s9 _ _ => kR _ _ ⟨s8.trans s9, by rw [List.replicate_succ', List.map_append]; rfl⟩), fun N' _ _ _ _ k' ek h1 h2 => absurd ⟨by lia, by lia⟩ hbd⟩
    rintro ys H8 ⟨s8, rfl⟩ p8 g8
    refine ⟨(show 1 ≤ sizeLine by decide), fun q hq => ⟨q, _, _, rfl, rfl, upd_same, by decide, by decide, fits (by decide), fun l hl => ?_⟩⟩
    refine ⟨dStrs (List.replicate 2 (Str.ofString "kind")), dStrs (List.replicate 2 (Str.ofString "kind")), deep_strs (new_at hl (new_at hq upd_same)), deep_strs (by rw [upd_same]; rfl), dp_strs, ?_⟩
    rw [eqB_refl]
    refine ⟨_, rfl, by decide, by decide, ?_⟩
    refine comp_range (lo := 0) (n := 2) (Iv_st (Str.ofString "net") _) ⟨Same.refl _, rfl⟩ (fun j ys H8 hj ⟨_, e⟩ => fitsL (by rw [e, List.length_map, List.length_replicate]; lia)) ?_ ?_
    · rintro j ys H9 R8 hj ⟨s9, rfl⟩ kR
      refine ⟨(show 0 ≤ sizeLine by decide), fun l1 g1 => ⟨(show 0 ≤ sizeLine by decide), fun l2 g2 => ⟨(show 3 ≤ sizeLine by decide), fun tt gt => ?_⟩⟩⟩
      refine ⟨0 + (j : Int), tt, l1, l2, [], 0, [], [], bd, rfl, by lia, by decide, netAt_new gt (new_at g2 upd_same) .nil upd_same, (fun H10 s10 _ => kR _ _ ⟨(((s9.trans (Same.new g1)).trans (Same.new g2)).trans (Same.new gt)).trans s10, by rw [List.replicate_succ', List.map_append]; rfl⟩), (fun _ _ g _ => absurd g.lo (by decide)), fun N' hN' e1 _ _ k' ek h1 h2 => absurd ⟨by lia, by lia⟩ hbd⟩
    rintro ys H9 ⟨s9, rfl⟩ p9 g9
    refine ⟨(show 1 ≤ sizeLine by decide), fun q2 hq2 => ⟨q2, _, _, rfl, rfl, upd_same, by decide, by decide, fits (by decide), fun l2 hl2 => ?_⟩⟩
    refine ⟨dStrs (List.replicate 2 (Str.ofString "net")), dStrs (List.replicate 2 (Str.ofString "net")), deep_strs (new_at hl2 (new_at hq2 upd_same)), deep_strs (by rw [upd_same]; rfl), dp_strs, ?_⟩
    rw [eqB_refl]
    exact k _
end
end K42

namespace K42
open PySem L2 NM PyProof.Rows
structure Kfs (K : PySem.W.Frag) (cT : Addr) : Prop where
  fis_whole : KFn K "is_whole" s_is_whole
  fis_within : KFn K "is_within" s_is_within
  flook_within : KFn K "look_within" s_look_within
  fis_node : KFn K "is_node" s_is_node
  fis_step : KFn K "is_step" s_is_step
  flook_net : KFn K "look_net" s_look_net
  flook_wide : KFn K "look_wide" s_look_wide
  flook_steps : KFn K "look_steps" s_look_steps
  flook_outs : KFn K "look_outs" s_look_outs
  fdepths : KFn K "depths" s_depths
  fadd_step : KFn K "add_step" s_add_step
  frounds : KFnC K "rounds" s_rounds cT
  fchains_behind : KFn K "chains_behind" s_chains_behind
  ffewest_rounds : KFn K "fewest_rounds" s_fewest_rounds
  fline_outs : KFn K "line_outs" s_line_outs
  fhalves_outs : KFn K "halves_outs" s_halves_outs
  fstrides_outs : KFn K "strides_outs" s_strides_outs
  fupdown_outs : KFn K "updown_outs" s_updown_outs
  fknown : KFn K "known" s_known
  f_law_cell : KFn K "_law_cell" s__law_cell
  f_law_mix : KFn K "_law_mix" s__law_mix
  f_law_whole : KFn K "_law_whole" s__law_whole
  f_law_net : KFn K "_law_net" s__law_net
  f_law_cut : KFn K "_law_cut" s__law_cut
  f_law_right : KFn K "_law_right" s__law_right
  f_law_refusal : KFn K "_law_refusal" s__law_refusal
  f_law_told : KFn K "_law_told" s__law_told
  f_law_behind : KFn K "_law_behind" s__law_behind
  f_law_rounds : KFn K "_law_rounds" s__law_rounds
  flaw : KFn K "law" s_law
theorem txt_mk {l : PySem.W.OpenLaw} {w : World} {K : PySem.W.Frag} {h : Heap} {mg : Str → Option Value} {CB CK CR CT CW CS DM FL FH FT FU : Addr} (X : K.In h) (G : h.Ns mainGlobals mg)
    {tg_MOST_THINGS : Tok}
    {tg_MOST_STEPS : Tok}
    {tg_MOST_WORKERS : Tok}
    {t1k_MAKERS t2k_MAKERS t3k_MAKERS t4k_MAKERS : Tok} {nk_MAKERS : Nat}
    (ag_BadNet : PySem.W.nsIn K mainGlobals "BadNet" = some (some (.ref CB)))
    (ag_BadKind : PySem.W.nsIn K mainGlobals "BadKind" = some (some (.ref CK)))
    (ag_BadRow : PySem.W.nsIn K mainGlobals "BadRow" = some (some (.ref CR)))
    (ag_BadText : PySem.W.nsIn K mainGlobals "BadText" = some (some (.ref CT)))
    (ag_Wrong : PySem.W.nsIn K mainGlobals "Wrong" = some (some (.ref CW)))
    (ag_SumError : PySem.W.nsIn K mainGlobals "SumError" = some (some (.ref CS)))
    (ag_MAKERS : PySem.W.nsIn K mainGlobals "MAKERS" = some (some (.ref DM)))
    (ag_line_outs : PySem.W.nsIn K mainGlobals "line_outs" = some (some (.ref FL)))
    (ag_halves_outs : PySem.W.nsIn K mainGlobals "halves_outs" = some (some (.ref FH)))
    (ag_strides_outs : PySem.W.nsIn K mainGlobals "strides_outs" = some (some (.ref FT)))
    (ag_updown_outs : PySem.W.nsIn K mainGlobals "updown_outs" = some (some (.ref FU)))
    (hx_BadNet : ExK K CB)
    (hx_BadKind : ExK K CK)
    (hq_BadNet0 : PySem.W.findIn K (.ref CB) "__getattribute__" = some (some (.builtin "BaseException.__getattribute__")))
    (hq_BadNet1 : PySem.W.findIn K (.ref CB) "__getattr__" = some none)
    (hq_BadNet2 : PySem.W.findIn K (.ref CB) "__class__" = some (some (.builtin "object.__class__")))
    (hq_BadNet3 : PySem.W.subIn K (.ref CB) (.type "object") = some true)
    (hq_BadNet4 : PySem.W.subIn K (.ref CB) (.type "BaseException") = some true)
    (hq_BadNet5 : PySem.W.kitCls K (.ref CB) (.ref CB) = some true)
    (hq_BadNetk0 : PySem.W.kitOne K (.ref CB) (.ref CK) = some false)
    (hq_BadNetk1 : PySem.W.kitOne K (.ref CB) (.ref CB) = some true)
    (hq_BadNetk2 : PySem.W.kitOne K (.ref CB) (.ref CR) = some false)
    (hq_BadNetk3 : PySem.W.kitOne K (.ref CB) (.ref CT) = some false)
    (hq_BadNetk4 : PySem.W.kitOne K (.ref CB) (.ref CW) = some false)
    (hq_BadNetkv : PySem.W.kitOne K (.ref CB) (.type "ValueError") = some true)
    (hq_BadKind0 : PySem.W.findIn K (.ref CK) "__getattribute__" = some (some (.builtin "BaseException.__getattribute__")))
    (hq_BadKind1 : PySem.W.findIn K (.ref CK) "__getattr__" = some none)
    (hq_BadKind2 : PySem.W.findIn K (.ref CK) "__class__" = some (some (.builtin "object.__class__")))
    (hq_BadKind3 : PySem.W.subIn K (.ref CK) (.type "object") = some true)
    (hq_BadKind4 : PySem.W.subIn K (.ref CK) (.type "BaseException") = some true)
    (hq_BadKind5 : PySem.W.kitCls K (.ref CK) (.ref CK) = some true)
    (hq_BadKindk0 : PySem.W.kitOne K (.ref CK) (.ref CK) = some true)
    (hq_BadKindk1 : PySem.W.kitOne K (.ref CK) (.ref CB) = some false)
    (hq_BadKindk2 : PySem.W.kitOne K (.ref CK) (.ref CR) = some false)
    (hq_BadKindk3 : PySem.W.kitOne K (.ref CK) (.ref CT) = some false)
    (hq_BadKindk4 : PySem.W.kitOne K (.ref CK) (.ref CW) = some false)
    (hq_BadKindkv : PySem.W.kitOne K (.ref CK) (.type "ValueError") = some true)
    (hm_BadNet : PySem.W.exmOne K (.ref CB) (.ref CS) = some true)
    (hm_BadKind : PySem.W.exmOne K (.ref CK) (.ref CS) = some true)
    (hz_ValueError : PySem.W.nsIn K mainGlobals "ValueError" = some none)
    (hg_MOST_THINGS : PySem.W.nsIn K mainGlobals "MOST_THINGS" = some (some (.int 64 tg_MOST_THINGS)))
    (hg_MOST_STEPS : PySem.W.nsIn K mainGlobals "MOST_STEPS" = some (some (.int 500 tg_MOST_STEPS)))
    (hg_MOST_WORKERS : PySem.W.nsIn K mainGlobals "MOST_WORKERS" = some (some (.int 64 tg_MOST_WORKERS)))
    (hk_MAKERS : K.lookup DM = some { cls := .type "dict", data := .dict #[{ hash := PyData.keyHash w.params "line", key := .str "line" t1k_MAKERS, val := .ref FL }, { hash := PyData.keyHash w.params "halves", key := .str "halves" t2k_MAKERS, val := .ref FH }, { hash := PyData.keyHash w.params "strides", key := .str "strides" t3k_MAKERS, val := .ref FT }, { hash := PyData.keyHash w.params "updown", key := .str "updown" t4k_MAKERS, val := .ref FU }] nk_MAKERS })
    (sk_MAKERS : (DM == sysModules) = false)
    (hz_isinstance : PySem.W.nsIn K mainGlobals "isinstance" = some none)
    (hz_int : PySem.W.nsIn K mainGlobals "int" = some none)
    (hz_bool : PySem.W.nsIn K mainGlobals "bool" = some none)
    (hz_tuple : PySem.W.nsIn K mainGlobals "tuple" = some none)
    (hz_list : PySem.W.nsIn K mainGlobals "list" = some none)
    (hz_len : PySem.W.nsIn K mainGlobals "len" = some none)
    (hz_max : PySem.W.nsIn K mainGlobals "max" = some none)
    (hz_range : PySem.W.nsIn K mainGlobals "range" = some none)
    (hz_enumerate : PySem.W.nsIn K mainGlobals "enumerate" = some none)
    (hz_sorted : PySem.W.nsIn K mainGlobals "sorted" = some none)
    (hz_any : PySem.W.nsIn K mainGlobals "any" = some none) : Txt K mg CB CK CR CT CW CS DM FL FH FT FU l.prog w := ⟨⟨PySem.W.mg_of X G ag_BadNet, hx_BadNet⟩,
    PySem.W.mg_of X G ag_BadNet,
    ⟨PySem.W.mg_of X G ag_BadKind, hx_BadKind⟩,
    PySem.W.mg_of X G ag_BadKind,
    PySem.W.mg_of X G ag_BadRow,
    PySem.W.mg_of X G ag_BadText,
    PySem.W.mg_of X G ag_Wrong,
    PySem.W.mg_of X G ag_SumError,
    ⟨⟨hq_BadNet0, hq_BadNet1, hq_BadNet2, hq_BadNet3, hq_BadNet4, hq_BadNet5⟩, hq_BadNetk0, hq_BadNetk1, hq_BadNetk2, hq_BadNetk3, hq_BadNetk4, hq_BadNetkv⟩,
    ⟨⟨hq_BadKind0, hq_BadKind1, hq_BadKind2, hq_BadKind3, hq_BadKind4, hq_BadKind5⟩, hq_BadKindk0, hq_BadKindk1, hq_BadKindk2, hq_BadKindk3, hq_BadKindk4, hq_BadKindkv⟩,
    hm_BadNet,
    hm_BadKind,
    PySem.W.mg_none_of X G hz_ValueError,
    ⟨_, PySem.W.mg_of X G hg_MOST_THINGS⟩,
    ⟨_, PySem.W.mg_of X G hg_MOST_STEPS⟩,
    ⟨_, PySem.W.mg_of X G hg_MOST_WORKERS⟩,
    PySem.W.mg_of X G ag_MAKERS,
    kdict4 sk_MAKERS (by decide) (by decide) (by decide) (by decide) (by decide) (by decide) hk_MAKERS,
    PySem.W.mg_of X G ag_line_outs,
    PySem.W.mg_of X G ag_halves_outs,
    PySem.W.mg_of X G ag_strides_outs,
    PySem.W.mg_of X G ag_updown_outs,
    PySem.W.mg_none_of X G hz_isinstance,
    PySem.W.mg_none_of X G hz_int,
    PySem.W.mg_none_of X G hz_bool,
    PySem.W.mg_none_of X G hz_tuple,
    PySem.W.mg_none_of X G hz_list,
    PySem.W.mg_none_of X G hz_len,
    PySem.W.mg_none_of X G hz_max,
    PySem.W.mg_none_of X G hz_range,
    PySem.W.mg_none_of X G hz_enumerate,
    PySem.W.mg_none_of X G hz_sorted,
    PySem.W.mg_none_of X G hz_any⟩
structure Al (l : PySem.W.OpenLaw) (w : World) (K : PySem.W.Frag) (h : Heap) (mg : Str → Option Value) (base : Heap) (CB CK CR CT CW CS DM FL FH FT FU cT PT : Addr) : Prop where
  X : K.In h
  G : h.Ns mainGlobals mg
  T : Txt K mg CB CK CR CT CW CS DM FL FH FT FU l.prog w
  F : Kfs K cT
  L : Lt K mg base cT PT
section
variable {l : PySem.W.OpenLaw} {w : World} {K : PySem.W.Frag} {h : Heap} {mg : Str → Option Value} {base : Heap} {CB CK CR CT CW CS DM FL FH FT FU cT PT : Addr} (A : Al l w K h mg base CB CK CR CT CW CS DM FL FH FT FU cT PT)
include A
theorem dm_is_whole : Df l.prog w K mg base "is_whole" 1 ["value"] (spWhole) := KFn.df A.X A.G A.F.fis_whole (fun _ _ _ _ _ _ _ hl => len1 (C := BindQ _ _ _ _ _ _ _ _ _) hl fun _ => rfl) fun _ _ F _ _ _ => ok_is_whole F A.T
theorem dm_add_step : Df l.prog w K mg base "add_step" 1 ["wide", "steps", "one", "other"] (spAdd) := KFn.df A.X A.G A.F.fadd_step (fun _ _ _ _ _ _ _ hl => len4 (C := BindQ _ _ _ _ _ _ _ _ _) hl fun _ _ _ _ => rfl) fun _ _ F _ _ _ => ok_add_step F A.T
theorem dm_chains_behind : Df l.prog w K mg base "chains_behind" 1 ["net"] (spChains) := KFn.df A.X A.G A.F.fchains_behind (fun _ _ _ _ _ _ _ hl => len1 (C := BindQ _ _ _ _ _ _ _ _ _) hl fun _ => rfl) fun _ _ F _ _ _ => ok_chains_behind F A.T
theorem dm__law_cell : Df l.prog w K mg base "_law_cell" 1 ["_law_script", "_law_k"] (spCell K) := KFn.df A.X A.G A.F.f_law_cell (fun _ _ _ _ _ _ _ hl => len2 (C := BindQ _ _ _ _ _ _ _ _ _) hl fun _ _ => rfl) fun _ _ F _ _ _ => ok__law_cell F A.T
theorem dm__law_whole : Df l.prog w K mg base "_law_whole" 1 ["_law_found"] (spWhole) := KFn.df A.X A.G A.F.f_law_whole (fun _ _ _ _ _ _ _ hl => len1 (C := BindQ _ _ _ _ _ _ _ _ _) hl fun _ => rfl) fun _ _ F _ _ _ => ok__law_whole F A.T
theorem dm__law_refusal : Df l.prog w K mg base "_law_refusal" 1 ["_law_kept"] (spRefusalR CB CK) := KFn.df A.X A.G A.F.f_law_refusal (fun _ _ _ _ _ _ _ hl => len1 (C := BindQ _ _ _ _ _ _ _ _ _) hl fun _ => rfl) fun _ _ F _ _ _ => ok__law_refusal F A.T
theorem dm_is_within : Df l.prog w K mg base "is_within" 2 ["value", "least", "most"] (spWithin) := KFn.df A.X A.G A.F.fis_within (fun _ _ _ _ _ _ _ hl => len3 (C := BindQ _ _ _ _ _ _ _ _ _) hl fun _ _ _ => rfl) fun _ _ F _ _ _ => ok_is_within F A.T (dm_is_whole A)
theorem dm__law_mix : Df l.prog w K mg base "_law_mix" 2 ["_law_script", "_law_k"] (spMix K) := KFn.df A.X A.G A.F.f_law_mix (fun _ _ _ _ _ _ _ hl => len2 (C := BindQ _ _ _ _ _ _ _ _ _) hl fun _ _ => rfl) fun _ _ F _ _ _ => ok__law_mix F A.T (dm__law_cell A)
theorem dm_look_within : Df l.prog w K mg base "look_within" 3 ["what", "value", "least", "most"] (spBound CK) := KFn.df A.X A.G A.F.flook_within (fun _ _ _ _ _ _ _ hl => len4 (C := BindQ _ _ _ _ _ _ _ _ _) hl fun _ _ _ _ => rfl) fun _ _ F _ _ _ => ok_look_within F A.T (dm_is_within A)
theorem dm_is_node : Df l.prog w K mg base "is_node" 3 ["value", "ahead"] (spNode) := KFn.df A.X A.G A.F.fis_node (fun _ _ _ _ _ _ _ hl => len2 (C := BindQ _ _ _ _ _ _ _ _ _) hl fun _ _ => rfl) fun _ _ F _ _ _ => ok_is_node F A.T (dm_is_within A)
theorem dm_look_wide : Df l.prog w K mg base "look_wide" 3 ["wide"] (spWide CB) := KFn.df A.X A.G A.F.flook_wide (fun _ _ _ _ _ _ _ hl => len1 (C := BindQ _ _ _ _ _ _ _ _ _) hl fun _ => rfl) fun _ _ F _ _ _ => ok_look_wide F A.T (dm_is_within A)
theorem dm__law_net : Df l.prog w K mg base "_law_net" 3 ["_law_script", "_law_k", "_law_most"] (spDrawnN K) := KFn.df A.X A.G A.F.f_law_net (fun _ _ _ _ _ _ _ hl => len3 (C := BindQ _ _ _ _ _ _ _ _ _) hl fun _ _ _ => rfl) fun _ _ F _ _ _ => ok__law_net F A.T (dm__law_mix A)
theorem dm_is_step : Df l.prog w K mg base "is_step" 4 ["value", "ahead"] (spStep) := KFn.df A.X A.G A.F.fis_step (fun _ _ _ _ _ _ _ hl => len2 (C := BindQ _ _ _ _ _ _ _ _ _) hl fun _ _ => rfl) fun _ _ F _ _ _ => ok_is_step F A.T (dm_is_node A)
theorem dm_look_outs : Df l.prog w K mg base "look_outs" 4 ["wide", "steps", "outs"] (spOuts CB) := KFn.df A.X A.G A.F.flook_outs (fun _ _ _ _ _ _ _ hl => len3 (C := BindQ _ _ _ _ _ _ _ _ _) hl fun _ _ _ => rfl) fun _ _ F _ _ _ => ok_look_outs F A.T (dm_is_node A)
theorem dm_look_steps : Df l.prog w K mg base "look_steps" 5 ["wide", "steps"] (spSteps CB) := KFn.df A.X A.G A.F.flook_steps (fun _ _ _ _ _ _ _ hl => len2 (C := BindQ _ _ _ _ _ _ _ _ _) hl fun _ _ => rfl) fun _ _ F _ _ _ => ok_look_steps F A.T (dm_is_step A)
theorem dm_look_net : Df l.prog w K mg base "look_net" 6 ["net"] (spLook CB) := KFn.df A.X A.G A.F.flook_net (fun _ _ _ _ _ _ _ hl => len1 (C := BindQ _ _ _ _ _ _ _ _ _) hl fun _ => rfl) fun _ _ F _ _ _ => ok_look_net F A.T (dm_look_wide A) (dm_look_steps A) (dm_look_outs A)
theorem dm_depths : Df l.prog w K mg base "depths" 7 ["net"] (spNetFn CB (tellInts NetN.depths)) := KFn.df A.X A.G A.F.fdepths (fun _ _ _ _ _ _ _ hl => len1 (C := BindQ _ _ _ _ _ _ _ _ _) hl fun _ => rfl) fun _ _ F _ _ _ => ok_depths F A.T (dm_look_net A)
theorem dm_rounds : Df l.prog w K mg base "rounds" 7 ["net", "workers"] (spWork CB CK (fun N k => tellRounds N k PT lp)) := KFnC.df A.X A.G A.F.frounds (fun _ _ _ _ _ _ _ hl => len2 (C := BindQ _ _ _ _ _ _ _ _ _) hl fun _ _ => rfl) fun _ _ F c => ok_rounds F c A.L A.T (dm_look_within A) (dm_look_net A) (dm_chains_behind A)
theorem dm_fewest_rounds : Df l.prog w K mg base "fewest_rounds" 8 ["net", "workers"] (spWork CB CK tellFew) := KFn.df A.X A.G A.F.ffewest_rounds (fun _ _ _ _ _ _ _ hl => len2 (C := BindQ _ _ _ _ _ _ _ _ _) hl fun _ _ => rfl) fun _ _ F _ _ _ => ok_fewest_rounds F A.T (dm_look_within A) (dm_depths A)
theorem dm__law_told : Df l.prog w K mg base "_law_told" 9 ["_law_way", "_law_net_here", "_law_workers"] (spToldR PT lp) := KFn.df A.X A.G A.F.f_law_told (fun _ _ _ _ _ _ _ hl => len3 (C := BindQ _ _ _ _ _ _ _ _ _) hl fun _ _ _ => rfl) fun _ _ F _ _ _ => ok__law_told F A.T (dm_rounds A) (dm_fewest_rounds A) (dm__law_refusal A)
theorem dm_line_outs : Df l.prog w K mg base "line_outs" 11 ["wide", "steps", "nodes"] (spMk lineN (fun st ns => st.length ≤ 4000)) := KFn.df A.X A.G A.F.fline_outs (fun _ _ _ _ _ _ _ hl => len3 (C := BindQ _ _ _ _ _ _ _ _ _) hl fun _ _ _ => rfl) fun _ _ F _ _ _ => ok_line_outs F A.T (dm_add_step A)
theorem dm_halves_outs : Df l.prog w K mg base "halves_outs" 11 ["wide", "steps", "nodes"] (spHalves 8) := KFn.df A.X A.G A.F.fhalves_outs (fun _ _ _ _ _ _ _ hl => len3 (C := BindQ _ _ _ _ _ _ _ _ _) hl fun _ _ _ => rfl) fun _ _ F m k b => ok_halves_outs F A.T (dm_add_step A) m k b
theorem dm_strides_outs : Df l.prog w K mg base "strides_outs" 11 ["wide", "steps", "nodes"] (spMk (fun w st ns => stridesN w 7 1 st ns) okStr) := KFn.df A.X A.G A.F.fstrides_outs (fun _ _ _ _ _ _ _ hl => len3 (C := BindQ _ _ _ _ _ _ _ _ _) hl fun _ _ _ => rfl) fun _ _ F _ _ _ => ok_strides_outs F A.T (dm_add_step A)
theorem dm_updown_outs : Df l.prog w K mg base "updown_outs" 11 ["wide", "steps", "nodes"] (spUpdown 8) := KFn.df A.X A.G A.F.fupdown_outs (fun _ _ _ _ _ _ _ hl => len3 (C := BindQ _ _ _ _ _ _ _ _ _) hl fun _ _ _ => rfl) fun _ _ F m k b => ok_updown_outs F A.T (dm_add_step A) m k b
theorem dm_known : Df l.prog w K mg base "known" 12 ["word", "wide"] (spKnown CK) := KFn.df A.X A.G A.F.fknown (fun _ _ _ _ _ _ _ hl => len2 (C := BindQ _ _ _ _ _ _ _ _ _) hl fun _ _ => rfl) fun _ _ F _ _ _ => ok_known F A.T (dm_look_within A) (dm_line_outs A) (dm_halves_outs A) (dm_strides_outs A) (dm_updown_outs A)
theorem dm__law_cut : Df l.prog w K mg base "_law_cut" 16 ["_law_first", "_law_last", "_law_script", "_law_k", "_law_nodes", "_law_steps", "_law_wide"] (spCut K 13) := KFn.df A.X A.G A.F.f_law_cut (fun _ _ _ _ _ _ _ hl => len7 (C := BindQ _ _ _ _ _ _ _ _ _) hl fun _ _ _ _ _ _ _ => rfl) fun _ _ F m k b => ok__law_cut F A.T (dm__law_mix A) m k b
theorem dm__law_right : Df l.prog w K mg base "_law_right" 17 ["_law_script", "_law_k", "_law_most"] (spRight K) := KFn.df A.X A.G A.F.f_law_right (fun _ _ _ _ _ _ _ hl => len3 (C := BindQ _ _ _ _ _ _ _ _ _) hl fun _ _ _ => rfl) fun _ _ F _ _ _ => ok__law_right F A.T (dm__law_mix A) (dm__law_cut A)
theorem dm__law_behind : Df l.prog w K mg base "_law_behind" 32 ["_law_net_here", "_law_node"] (spBehind 30) := KFn.df A.X A.G A.F.f_law_behind (fun _ _ _ _ _ _ _ hl => len2 (C := BindQ _ _ _ _ _ _ _ _ _) hl fun _ _ => rfl) fun _ _ F m k b => ok__law_behind F A.T m k b
theorem dm__law_rounds : Df l.prog w K mg base "_law_rounds" 33 ["_law_net_here", "_law_workers"] (spRoundsL) := KFn.df A.X A.G A.F.f_law_rounds (fun _ _ _ _ _ _ _ hl => len2 (C := BindQ _ _ _ _ _ _ _ _ _) hl fun _ _ => rfl) fun _ _ F _ _ _ => ok__law_rounds F A.T (dm__law_behind A)
end
theorem all_mk {l : PySem.W.OpenLaw} {w : World} {K : PySem.W.Frag} {h : Heap} {mg : Str → Option Value} {fa : Addr} {CB CK CR CT CW CS DM FL FH FT FU cT PT : Addr} (X : K.In h) (G : h.Ns mainGlobals mg) (hfa : mg "law" = some (.ref fa)) (T : Txt K mg CB CK CR CT CW CS DM FL FH FT FU l.prog w) (F : Kfs K cT) :
    ∃ fd : FuncData, (∀ (s : Shared) (v : Value), BindsTo s fd ⟨[v], []⟩ [("_law_script", v)]) ∧ ∀ base : Heap, K.In base → base.Ns mainGlobals mg → Lt K mg base cT PT → FnOk l.prog w K mg base (CX1 l.prog w) 34 fa fd ["_law_script"] (spLawR K PT lp) :=
  F.flaw.last X G hfa fun _ _ _ _ _ _ F0 => ⟨fun s v => .of_eq rfl, fun base _ _ L => have A : Al l w K h mg base CB CK CR CT CW CS DM FL FH FT FU cT PT := ⟨X, G, T, F, L⟩; ok_law F0 T (dm_known A) (dm__law_mix A) (dm__law_whole A) (dm__law_net A) (dm__law_right A) (dm__law_told A) (dm__law_rounds A)⟩
theorem walk {l : PySem.W.OpenLaw} {q : Program} {loose : List Str} {XP : (Str → Option Value) → Heap → Prop} {YP : World → Heap → Prop} {d : DefRec} {K : Params → PySem.W.Frag} {cT PT : Addr} (hn : l.most = some 63) (hdf : d.params.defaults = [])
    (hY : ∀ (w : World) (h : Heap), YP w h → (K w.params).In h) (hP : ∀ (w : World) (h : Heap), YP w h → h.get? PT = some (PySem.W.tabObj #[])) (hC : ∀ w : World, PySem.W.codeHdIn (K w.params) cT PT = true) (hKP : ∀ w : World, (K w.params).lookup PT = none)
    (F : ∀ (w : World) (mg : Str → Option Value) (fa : Addr) (h : Heap), (K w.params).In h → h.Ns mainGlobals mg → mg d.name = some (.ref fa) →
      ∃ fd : FuncData, (∀ (s : Shared) (u : Value), BindsTo s fd ⟨[u], []⟩ [("_law_script", u)]) ∧ ∀ base : Heap, (K w.params).In base → base.Ns mainGlobals mg → Lt (K w.params) mg base cT PT → FnOk l.prog w (K w.params) mg base (CX1 l.prog w) 34 fa fd ["_law_script"] (spLawR (K w.params) PT lp)) :
    PySem.W.WalkO q loose XP YP l.row.toRowW d [] (fun f vs => PySem.call f vs) :=
  L2.walk_ofT (n := 63) (k := 34) (x := "_law_script") (CX := fun w => CX1 l.prog w) (sp := fun w => spLawR (K w.params) PT lp) hn (by decide) hdf ⟨rfl, by decide, by decide⟩ hY hP hC hKP F (fun _ _ a ns hl hP hS => ⟨a, ns, rfl, hS, .inl hP, fun _ => rfl⟩) fun _ _ _ _ _ z => by
    obtain ⟨_, _, _, _, _, _, _, z⟩ := z
    exact z
end K42
open PySem PySem.W PyProof.Rows
set_option maxRecDepth 100000 in
set_option maxHeartbeats 0 in
theorem PySem.Challenge.cw_sumspan_k42_whole_rounds_holds : PySem.Challenge.rw_sumspan_k42_whole_rounds.Holds := by
  w_on; o_law; k_head; (case hw => w_witness2)
  k_fill
  refine' K42.walk (l := PySem.Challenge.rw_sumspan_k42_whole_rounds) (PT := 166) rfl rfl (fun w h Y => PySem.W.km_in_of Y) (fun w h Y => PySem.W.km_tabs_of Y 166 (by simp)) ?hC (fun w => by kernel_rfl) ?F
  case F =>
    intro w mg fa h KX G hmg
    refine' K42.all_mk KX G hmg (K42.txt_mk KX G ?ag_BadNet ?ag_BadKind ?ag_BadRow ?ag_BadText ?ag_Wrong ?ag_SumError ?ag_MAKERS ?ag_line_outs ?ag_halves_outs ?ag_strides_outs ?ag_updown_outs ?hx_BadNet ?hx_BadKind ?hq_BadNet0 ?hq_BadNet1 ?hq_BadNet2 ?hq_BadNet3 ?hq_BadNet4 ?hq_BadNet5 ?hq_BadNetk0 ?hq_BadNetk1 ?hq_BadNetk2 ?hq_BadNetk3 ?hq_BadNetk4 ?hq_BadNetkv ?hq_BadKind0 ?hq_BadKind1 ?hq_BadKind2 ?hq_BadKind3 ?hq_BadKind4 ?hq_BadKind5 ?hq_BadKindk0 ?hq_BadKindk1 ?hq_BadKindk2 ?hq_BadKindk3 ?hq_BadKindk4 ?hq_BadKindkv ?hm_BadNet ?hm_BadKind ?hz_ValueError ?hg_MOST_THINGS ?hg_MOST_STEPS ?hg_MOST_WORKERS ?hk_MAKERS ?sk_MAKERS ?hz_isinstance ?hz_int ?hz_bool ?hz_tuple ?hz_list ?hz_len ?hz_max ?hz_range ?hz_enumerate ?hz_sorted ?hz_any) (K42.Kfs.mk ?f_is_whole ?f_is_within ?f_look_within ?f_is_node ?f_is_step ?f_look_net ?f_look_wide ?f_look_steps ?f_look_outs ?f_depths ?f_add_step ?f_rounds ?f_chains_behind ?f_fewest_rounds ?f_line_outs ?f_halves_outs ?f_strides_outs ?f_updown_outs ?f_known ?f__law_cell ?f__law_mix ?f__law_whole ?f__law_net ?f__law_cut ?f__law_right ?f__law_refusal ?f__law_told ?f__law_behind ?f__law_rounds ?f_law)
    (case ag_BadNet => k_is)
    (case ag_BadKind => k_is)
    (case ag_BadRow => k_is)
    (case ag_BadText => k_is)
    (case ag_Wrong => k_is)
    (case ag_SumError => k_is)
    (case ag_MAKERS => k_is)
    (case ag_line_outs => k_is)
    (case ag_halves_outs => k_is)
    (case ag_strides_outs => k_is)
    (case ag_updown_outs => k_is)
    (case hx_BadNet => refine' L2.ExK.mk ?a ?b ?c ?d; (case a => k_is); (case b => first | kernel_rfl | rfl); (case c => first | kernel_rfl | rfl); (case d => k_is))
    (case hx_BadKind => refine' L2.ExK.mk ?a ?b ?c ?d; (case a => k_is); (case b => first | kernel_rfl | rfl); (case c => first | kernel_rfl | rfl); (case d => k_is))
    (case hq_BadNet0 => k_is)
    (case hq_BadNet1 => k_is)
    (case hq_BadNet2 => k_is)
    (case hq_BadNet3 => k_is)
    (case hq_BadNet4 => k_is)
    (case hq_BadNet5 => first | kernel_rfl | rfl)
    (case hq_BadNetk0 => first | kernel_rfl | rfl)
    (case hq_BadNetk1 => first | kernel_rfl | rfl)
    (case hq_BadNetk2 => first | kernel_rfl | rfl)
    (case hq_BadNetk3 => first | kernel_rfl | rfl)
    (case hq_BadNetk4 => first | kernel_rfl | rfl)
    (case hq_BadNetkv => first | kernel_rfl | rfl)
    (case hq_BadKind0 => k_is)
    (case hq_BadKind1 => k_is)
    (case hq_BadKind2 => k_is)
    (case hq_BadKind3 => k_is)
    (case hq_BadKind4 => k_is)
    (case hq_BadKind5 => first | kernel_rfl | rfl)
    (case hq_BadKindk0 => first | kernel_rfl | rfl)
    (case hq_BadKindk1 => first | kernel_rfl | rfl)
    (case hq_BadKindk2 => first | kernel_rfl | rfl)
    (case hq_BadKindk3 => first | kernel_rfl | rfl)
    (case hq_BadKindk4 => first | kernel_rfl | rfl)
    (case hq_BadKindkv => first | kernel_rfl | rfl)
    (case hm_BadNet => first | kernel_rfl | rfl)
    (case hm_BadKind => first | kernel_rfl | rfl)
    (case hz_ValueError => k_is)
    (case hg_MOST_THINGS => k_is)
    (case hg_MOST_STEPS => k_is)
    (case hg_MOST_WORKERS => k_is)
    (case hk_MAKERS => k_is)
    (case sk_MAKERS => rfl)
    (case hz_isinstance => k_is)
    (case hz_int => k_is)
    (case hz_bool => k_is)
    (case hz_tuple => k_is)
    (case hz_list => k_is)
    (case hz_len => k_is)
    (case hz_max => k_is)
    (case hz_range => k_is)
    (case hz_enumerate => k_is)
    (case hz_sorted => k_is)
    (case hz_any => k_is)
    (case f_is_whole => refine' L2.KFn.mk ?a ?l ?c ?k; (case a => k_is); (case l => k_is); (case c => k_is); (case k => k_is))
    (case f_is_within => refine' L2.KFn.mk ?a ?l ?c ?k; (case a => k_is); (case l => k_is); (case c => k_is); (case k => k_is))
    (case f_look_within => refine' L2.KFn.mk ?a ?l ?c ?k; (case a => k_is); (case l => k_is); (case c => k_is); (case k => k_is))
    (case f_is_node => refine' L2.KFn.mk ?a ?l ?c ?k; (case a => k_is); (case l => k_is); (case c => k_is); (case k => k_is))
    (case f_is_step => refine' L2.KFn.mk ?a ?l ?c ?k; (case a => k_is); (case l => k_is); (case c => k_is); (case k => k_is))
    (case f_look_net => refine' L2.KFn.mk ?a ?l ?c ?k; (case a => k_is); (case l => k_is); (case c => k_is); (case k => k_is))
    (case f_look_wide => refine' L2.KFn.mk ?a ?l ?c ?k; (case a => k_is); (case l => k_is); (case c => k_is); (case k => k_is))
    (case f_look_steps => refine' L2.KFn.mk ?a ?l ?c ?k; (case a => k_is); (case l => k_is); (case c => k_is); (case k => k_is))
    (case f_look_outs => refine' L2.KFn.mk ?a ?l ?c ?k; (case a => k_is); (case l => k_is); (case c => k_is); (case k => k_is))
    (case f_depths => refine' L2.KFn.mk ?a ?l ?c ?k; (case a => k_is); (case l => k_is); (case c => k_is); (case k => k_is))
    (case f_add_step => refine' L2.KFn.mk ?a ?l ?c ?k; (case a => k_is); (case l => k_is); (case c => k_is); (case k => k_is))
    (case f_rounds => refine' L2.KFnC.mk ?a ?l ?c ?k; (case a => k_is); (case l => k_is); (case c => k_is); (case k => k_is))
    (case f_chains_behind => refine' L2.KFn.mk ?a ?l ?c ?k; (case a => k_is); (case l => k_is); (case c => k_is); (case k => k_is))
    (case f_fewest_rounds => refine' L2.KFn.mk ?a ?l ?c ?k; (case a => k_is); (case l => k_is); (case c => k_is); (case k => k_is))
    (case f_line_outs => refine' L2.KFn.mk ?a ?l ?c ?k; (case a => k_is); (case l => k_is); (case c => k_is); (case k => k_is))
    (case f_halves_outs => refine' L2.KFn.mk ?a ?l ?c ?k; (case a => k_is); (case l => k_is); (case c => k_is); (case k => k_is))
    (case f_strides_outs => refine' L2.KFn.mk ?a ?l ?c ?k; (case a => k_is); (case l => k_is); (case c => k_is); (case k => k_is))
    (case f_updown_outs => refine' L2.KFn.mk ?a ?l ?c ?k; (case a => k_is); (case l => k_is); (case c => k_is); (case k => k_is))
    (case f_known => refine' L2.KFn.mk ?a ?l ?c ?k; (case a => k_is); (case l => k_is); (case c => k_is); (case k => k_is))
    (case f__law_cell => refine' L2.KFn.mk ?a ?l ?c ?k; (case a => k_is); (case l => k_is); (case c => k_is); (case k => k_is))
    (case f__law_mix => refine' L2.KFn.mk ?a ?l ?c ?k; (case a => k_is); (case l => k_is); (case c => k_is); (case k => k_is))
    (case f__law_whole => refine' L2.KFn.mk ?a ?l ?c ?k; (case a => k_is); (case l => k_is); (case c => k_is); (case k => k_is))
    (case f__law_net => refine' L2.KFn.mk ?a ?l ?c ?k; (case a => k_is); (case l => k_is); (case c => k_is); (case k => k_is))
    (case f__law_cut => refine' L2.KFn.mk ?a ?l ?c ?k; (case a => k_is); (case l => k_is); (case c => k_is); (case k => k_is))
    (case f__law_right => refine' L2.KFn.mk ?a ?l ?c ?k; (case a => k_is); (case l => k_is); (case c => k_is); (case k => k_is))
    (case f__law_refusal => refine' L2.KFn.mk ?a ?l ?c ?k; (case a => k_is); (case l => k_is); (case c => k_is); (case k => k_is))
    (case f__law_told => refine' L2.KFn.mk ?a ?l ?c ?k; (case a => k_is); (case l => k_is); (case c => k_is); (case k => k_is))
    (case f__law_behind => refine' L2.KFn.mk ?a ?l ?c ?k; (case a => k_is); (case l => k_is); (case c => k_is); (case k => k_is))
    (case f__law_rounds => refine' L2.KFn.mk ?a ?l ?c ?k; (case a => k_is); (case l => k_is); (case c => k_is); (case k => k_is))
    (case f_law => refine' L2.KFn.mk ?a ?l ?c ?k; (case a => k_is); (case l => k_is); (case c => k_is); (case k => k_is))
  case hC => exact fun w => by kernel_rfl
