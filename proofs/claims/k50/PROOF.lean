import PyProof.Rows.All
import Wide.All
import OpenK.AllK
import Wide.FinOn
import Lean
import PyProof.EqAt
import PyProof.EqKinds
import PyProof.TupleCall
import PySem.Challenge.RW_sumspan_k50_texts
import KE.KIntText
import KE.IntTextLaws
set_option Elab.async false
set_option linter.all false
set_option maxRecDepth 100000
set_option maxHeartbeats 4000000
set_option compiler.extract_closed false
set_option genSizeOf false
namespace L2
theorem ns_ {α : Type} {a : α} {C : Prop} (h : none = some a) : C := nomatch h
theorem sn_ {α : Type} {a : α} {C : Prop} (h : some a = none) : C := nomatch h
theorem ob_aa {P0 : Prop} {P1 : Prop} {P2 : Prop} {Z : Prop} (h : P0 ∧ P1 ∧ P2) (k : P0 → P1 → P2 → Z) : Z := by
  obtain ⟨h1, h2, h3⟩ := h
  exact k h1 h2 h3
theorem ob_aaa {P0 : Prop} {P1 : Prop} {P2 : Prop} {P3 : Prop} {Z : Prop} (h : P0 ∧ P1 ∧ P2 ∧ P3) (k : P0 → P1 → P2 → P3 → Z) : Z := by
  obtain ⟨h1, h2, h3, h4⟩ := h
  exact k h1 h2 h3 h4
theorem ob_aaaa {P0 : Prop} {P1 : Prop} {P2 : Prop} {P3 : Prop} {P4 : Prop} {Z : Prop} (h : P0 ∧ P1 ∧ P2 ∧ P3 ∧ P4) (k : P0 → P1 → P2 → P3 → P4 → Z) : Z := by
  obtain ⟨h1, h2, h3, h4, h5⟩ := h
  exact k h1 h2 h3 h4 h5
theorem ob_aea {P0 : Prop} {α1 : Type} {P1 : α1 → Prop} {P2 : α1 → Prop} {Z : Prop} (h : P0 ∧ ∃ x1, P1 x1 ∧ P2 x1) (k : P0 → ∀ x1, P1 x1 → P2 x1 → Z) : Z := by
  obtain ⟨h1, x1, h2, h3⟩ := h
  exact k h1 x1 h2 h3
theorem ob_aeeaa {P0 : Prop} {α1 : Type} {α2 : Type} {P1 : α1 → α2 → Prop} {P2 : α1 → α2 → Prop} {P3 : α1 → α2 → Prop} {Z : Prop} (h : P0 ∧ ∃ x1, ∃ x2, P1 x1 x2 ∧ P2 x1 x2 ∧ P3 x1 x2) (k : P0 → ∀ x1, ∀ x2, P1 x1 x2 → P2 x1 x2 → P3 x1 x2 → Z) : Z := by
  obtain ⟨h1, x1, x2, h2, h3, h4⟩ := h
  exact k h1 x1 x2 h2 h3 h4
theorem ob_ea {α1 : Type} {P0 : α1 → Prop} {P1 : α1 → Prop} {Z : Prop} (h : ∃ x1, P0 x1 ∧ P1 x1) (k : ∀ x1, P0 x1 → P1 x1 → Z) : Z := by
  obtain ⟨x1, h1, h2⟩ := h
  exact k x1 h1 h2
theorem ob_eaa {α1 : Type} {P0 : α1 → Prop} {P1 : α1 → Prop} {P2 : α1 → Prop} {Z : Prop} (h : ∃ x1, P0 x1 ∧ P1 x1 ∧ P2 x1) (k : ∀ x1, P0 x1 → P1 x1 → P2 x1 → Z) : Z := by
  obtain ⟨x1, h1, h2, h3⟩ := h
  exact k x1 h1 h2 h3
theorem ob_eaaaa {α1 : Type} {P0 : α1 → Prop} {P1 : α1 → Prop} {P2 : α1 → Prop} {P3 : α1 → Prop} {P4 : α1 → Prop} {Z : Prop} (h : ∃ x1, P0 x1 ∧ P1 x1 ∧ P2 x1 ∧ P3 x1 ∧ P4 x1) (k : ∀ x1, P0 x1 → P1 x1 → P2 x1 → P3 x1 → P4 x1 → Z) : Z := by
  obtain ⟨x1, h1, h2, h3, h4, h5⟩ := h
  exact k x1 h1 h2 h3 h4 h5
theorem ob_eea {α1 : Type} {α2 : Type} {P0 : α1 → α2 → Prop} {P1 : α1 → α2 → Prop} {Z : Prop} (h : ∃ x1, ∃ x2, P0 x1 x2 ∧ P1 x1 x2) (k : ∀ x1, ∀ x2, P0 x1 x2 → P1 x1 x2 → Z) : Z := by
  obtain ⟨x1, x2, h1, h2⟩ := h
  exact k x1 x2 h1 h2
theorem ob_eeaa {α1 : Type} {α2 : Type} {P0 : α1 → α2 → Prop} {P1 : α1 → α2 → Prop} {P2 : α1 → α2 → Prop} {Z : Prop} (h : ∃ x1, ∃ x2, P0 x1 x2 ∧ P1 x1 x2 ∧ P2 x1 x2) (k : ∀ x1, ∀ x2, P0 x1 x2 → P1 x1 x2 → P2 x1 x2 → Z) : Z := by
  obtain ⟨x1, x2, h1, h2, h3⟩ := h
  exact k x1 x2 h1 h2 h3
theorem ob_eeaaa {α1 : Type} {α2 : Type} {P0 : α1 → α2 → Prop} {P1 : α1 → α2 → Prop} {P2 : α1 → α2 → Prop} {P3 : α1 → α2 → Prop} {Z : Prop} (h : ∃ x1, ∃ x2, P0 x1 x2 ∧ P1 x1 x2 ∧ P2 x1 x2 ∧ P3 x1 x2) (k : ∀ x1, ∀ x2, P0 x1 x2 → P1 x1 x2 → P2 x1 x2 → P3 x1 x2 → Z) : Z := by
  obtain ⟨x1, x2, h1, h2, h3, h4⟩ := h
  exact k x1 x2 h1 h2 h3 h4
theorem ob_eeeaaaa {α1 : Type} {α2 : Type} {α3 : Type} {P0 : α1 → α2 → α3 → Prop} {P1 : α1 → α2 → α3 → Prop} {P2 : α1 → α2 → α3 → Prop} {P3 : α1 → α2 → α3 → Prop} {P4 : α1 → α2 → α3 → Prop} {Z : Prop} (h : ∃ x1, ∃ x2, ∃ x3, P0 x1 x2 x3 ∧ P1 x1 x2 x3 ∧ P2 x1 x2 x3 ∧ P3 x1 x2 x3 ∧ P4 x1 x2 x3) (k : ∀ x1, ∀ x2, ∀ x3, P0 x1 x2 x3 → P1 x1 x2 x3 → P2 x1 x2 x3 → P3 x1 x2 x3 → P4 x1 x2 x3 → Z) : Z := by
  obtain ⟨x1, x2, x3, h1, h2, h3, h4, h5⟩ := h
  exact k x1 x2 x3 h1 h2 h3 h4 h5
theorem ob_eeeeeeeeeaa {α1 : Type} {α2 : Type} {α3 : Type} {α4 : Type} {α5 : Type} {α6 : Type} {α7 : Type} {α8 : Type} {α9 : Type} {P0 : α1 → α2 → α3 → α4 → α5 → α6 → α7 → α8 → α9 → Prop} {P1 : α1 → α2 → α3 → α4 → α5 → α6 → α7 → α8 → α9 → Prop} {P2 : α1 → α2 → α3 → α4 → α5 → α6 → α7 → α8 → α9 → Prop} {Z : Prop} (h : ∃ x1, ∃ x2, ∃ x3, ∃ x4, ∃ x5, ∃ x6, ∃ x7, ∃ x8, ∃ x9, P0 x1 x2 x3 x4 x5 x6 x7 x8 x9 ∧ P1 x1 x2 x3 x4 x5 x6 x7 x8 x9 ∧ P2 x1 x2 x3 x4 x5 x6 x7 x8 x9) (k : ∀ x1, ∀ x2, ∀ x3, ∀ x4, ∀ x5, ∀ x6, ∀ x7, ∀ x8, ∀ x9, P0 x1 x2 x3 x4 x5 x6 x7 x8 x9 → P1 x1 x2 x3 x4 x5 x6 x7 x8 x9 → P2 x1 x2 x3 x4 x5 x6 x7 x8 x9 → Z) : Z := by
  obtain ⟨x1, x2, x3, x4, x5, x6, x7, x8, x9, h1, h2, h3⟩ := h
  exact k x1 x2 x3 x4 x5 x6 x7 x8 x9 h1 h2 h3
theorem ob_eeeeeeeeeeeeeeeeeaaa {α1 : Type} {α2 : Type} {α3 : Type} {α4 : Type} {α5 : Type} {α6 : Type} {α7 : Type} {α8 : Type} {α9 : Type} {α10 : Type} {α11 : Type} {α12 : Type} {α13 : Type} {α14 : Type} {α15 : Type} {α16 : Type} {α17 : Type} {P0 : α1 → α2 → α3 → α4 → α5 → α6 → α7 → α8 → α9 → α10 → α11 → α12 → α13 → α14 → α15 → α16 → α17 → Prop} {P1 : α1 → α2 → α3 → α4 → α5 → α6 → α7 → α8 → α9 → α10 → α11 → α12 → α13 → α14 → α15 → α16 → α17 → Prop} {P2 : α1 → α2 → α3 → α4 → α5 → α6 → α7 → α8 → α9 → α10 → α11 → α12 → α13 → α14 → α15 → α16 → α17 → Prop} {P3 : α1 → α2 → α3 → α4 → α5 → α6 → α7 → α8 → α9 → α10 → α11 → α12 → α13 → α14 → α15 → α16 → α17 → Prop} {Z : Prop} (h : ∃ x1, ∃ x2, ∃ x3, ∃ x4, ∃ x5, ∃ x6, ∃ x7, ∃ x8, ∃ x9, ∃ x10, ∃ x11, ∃ x12, ∃ x13, ∃ x14, ∃ x15, ∃ x16, ∃ x17, P0 x1 x2 x3 x4 x5 x6 x7 x8 x9 x10 x11 x12 x13 x14 x15 x16 x17 ∧ P1 x1 x2 x3 x4 x5 x6 x7 x8 x9 x10 x11 x12 x13 x14 x15 x16 x17 ∧ P2 x1 x2 x3 x4 x5 x6 x7 x8 x9 x10 x11 x12 x13 x14 x15 x16 x17 ∧ P3 x1 x2 x3 x4 x5 x6 x7 x8 x9 x10 x11 x12 x13 x14 x15 x16 x17) (k : ∀ x1, ∀ x2, ∀ x3, ∀ x4, ∀ x5, ∀ x6, ∀ x7, ∀ x8, ∀ x9, ∀ x10, ∀ x11, ∀ x12, ∀ x13, ∀ x14, ∀ x15, ∀ x16, ∀ x17, P0 x1 x2 x3 x4 x5 x6 x7 x8 x9 x10 x11 x12 x13 x14 x15 x16 x17 → P1 x1 x2 x3 x4 x5 x6 x7 x8 x9 x10 x11 x12 x13 x14 x15 x16 x17 → P2 x1 x2 x3 x4 x5 x6 x7 x8 x9 x10 x11 x12 x13 x14 x15 x16 x17 → P3 x1 x2 x3 x4 x5 x6 x7 x8 x9 x10 x11 x12 x13 x14 x15 x16 x17 → Z) : Z := by
  obtain ⟨x1, x2, x3, x4, x5, x6, x7, x8, x9, x10, x11, x12, x13, x14, x15, x16, x17, h1, h2, h3, h4⟩ := h
  exact k x1 x2 x3 x4 x5 x6 x7 x8 x9 x10 x11 x12 x13 x14 x15 x16 x17 h1 h2 h3 h4
open PySem PySem.Spec PyProof.Rows
noncomputable abbrev Key := Sum Int Str
noncomputable def keyIs : Key → Value → Bool
  | .inl k, v => Value.isInt k v
  | .inr x, v => Value.isStrOf x v
noncomputable def keyH (w : World) : Key → Int
  | .inl k => hashInt k
  | .inr x => hashStr w x
theorem keyIs_shape : ∀ {k : Key} {v : Value}, keyIs k v = true → (∃ i t, k = Sum.inl i ∧ v = Value.int i t) ∨ (∃ x t, k = Sum.inr x ∧ v = Value.str x t)
  | .inl i, v, h => by
    obtain ⟨t, e⟩ := Value.isInt_shape (k := i) (v := v) h
    exact .inl ⟨i, t, rfl, e⟩
  | .inr x, v, h => by
    obtain ⟨t, e⟩ := Value.isStrOf_shape (x := x) (v := v) h
    exact .inr ⟨x, t, rfl, e⟩
theorem key_ll (a b : Int) : decide ((Sum.inl a : Key) = Sum.inl b) = (a == b) := by
  by_cases e : a = b
  · subst e; simp
  · have h : ¬ (Sum.inl a : Key) = Sum.inl b := fun q => e (Sum.inl.inj q)
    rw [decide_eq_false h]
    exact (beq_eq_false_iff_ne.mpr e).symm
theorem key_rr (a b : Str) : decide ((Sum.inr a : Key) = Sum.inr b) = decide (a = b) := by
  by_cases e : a = b
  · subst e; simp
  · have h : ¬ (Sum.inr a : Key) = Sum.inr b := fun q => e (Sum.inr.inj q)
    rw [decide_eq_false h, decide_eq_false e]
theorem key_lr (a : Int) (b : Str) : decide ((Sum.inl a : Key) = Sum.inr b) = false := decide_eq_false (fun q => nomatch q)
theorem key_rl (a : Str) (b : Int) : decide ((Sum.inr a : Key) = Sum.inl b) = false := decide_eq_false (fun q => nomatch q)
noncomputable def mixKind (prog : Program) (w : World) : PySem.KeyKind prog w Key where
  is := keyIs
  hash := keyH w
  inj := fun v a b ha hb => by
    rcases keyIs_shape ha with ⟨i, t, rfl, rfl⟩ | ⟨x, t, rfl, rfl⟩
    · rcases keyIs_shape hb with ⟨j, u, rfl, e⟩ | ⟨y, u, rfl, e⟩
      · injection e with e1 _; rw [e1]
      · exact nomatch e
    · rcases keyIs_shape hb with ⟨j, u, rfl, e⟩ | ⟨y, u, rfl, e⟩
      · exact nomatch e
      · injection e with e1 _; rw [e1]
  byValue := fun k v h => by
    rcases keyIs_shape h with ⟨i, t, rfl, rfl⟩ | ⟨x, t, rfl, rfl⟩ <;> rfl
  pyHash := fun hv h => by
    rcases keyIs_shape hv with ⟨i, t, rfl, rfl⟩ | ⟨x, t, rfl, rfl⟩
    · exact wpAny_pyHash_int h
    · exact wpAny_pyHash_str h
  eqBool := fun hu hv h => by
    rcases keyIs_shape hu with ⟨i, t, rfl, rfl⟩ | ⟨x, t, rfl, rfl⟩
    · rcases keyIs_shape hv with ⟨j, u, rfl, rfl⟩ | ⟨y, u, rfl, rfl⟩
      · rw [key_ll] at h; exact wpAny_eqBool_int h
      · rw [key_lr] at h; exact SeqAt.EqAt.int_str i t y u _ _ _ _ h
    · rcases keyIs_shape hv with ⟨j, u, rfl, rfl⟩ | ⟨y, u, rfl, rfl⟩
      · rw [key_rl] at h; exact SeqAt.EqAt.str_int x t j u _ _ _ _ h
      · rw [key_rr] at h; exact wpAny_eqBool_str h
  «strs» := fun k x t v h => by
    rcases keyIs_shape h with ⟨i, u, rfl, e⟩ | ⟨y, u, rfl, e⟩
    · exact nomatch e
    · injection e with e1 _
      subst e1
      cases v <;> rfl
end L2

namespace L2
open PySem PySem.Spec PyProof.Rows
inductive V where
  | non | bl (b : Bool) | int (i : Int) | str (x : Str) | byt (b : Array UInt8) | flt (b : UInt64) | ref (a : Addr) | ty (n : String)
  deriving DecidableEq
noncomputable def RelV : V → Value → Prop
  | .non, u => u = Value.none
  | .bl b, u => u = Value.bool b
  | .int i, u => ∃ t, u = Value.int i t
  | .str x, u => ∃ t, u = Value.str x t
  | .byt b, u => ∃ t, u = Value.bytes b t
  | .flt b, u => ∃ t, u = Value.float b t
  | .ref a, u => u = Value.ref a
  | .ty n, u => u = Value.type n
noncomputable abbrev Vals : List V → List Value → Prop := Paired RelV
theorem Vals.length {xs : List V} {us : List Value} (r : Vals xs us) : xs.length = us.length := Paired.length r
theorem Vals.get {xs : List V} {us : List Value} {i : Nat} {x : V} (h : Vals xs us) (e : xs[i]? = some x) : ∃ u, us[i]? = some u ∧ RelV x u := by
  induction h generalizing i with
  | nil => exact L2.ns_ e
  | cons r t ih => cases i with
    | zero => exact ⟨_, rfl, Option.some.inj e ▸ r⟩
    | succ i => exact ih e
theorem Vals.append {xs ys : List V} {us ws : List Value} (h : Vals xs us) (s : Vals ys ws) : Vals (xs ++ ys) (us ++ ws) := by
  induction h with
  | nil => exact s
  | cons r _ ih => exact .cons r ih
theorem Vals.take {xs : List V} {us : List Value} (n : Nat) (h : Vals xs us) : Vals (xs.take n) (us.take n) := by
  induction h generalizing n with
  | nil => cases n <;> exact .nil
  | cons r t ih => cases n with
    | zero => exact .nil
    | succ n => exact .cons r (ih n)
theorem Vals.drop {xs : List V} {us : List Value} (n : Nat) (h : Vals xs us) : Vals (xs.drop n) (us.drop n) := by
  induction h generalizing n with
  | nil => cases n <;> exact .nil
  | cons r t ih => cases n with
    | zero => exact .cons r t
    | succ n => exact ih n
noncomputable def RelO : Option V → Option Value → Prop
  | some v, some u => RelV v u
  | none, none => True
  | _, _ => False
noncomputable def KV {κ : Type} : List (κ × V) → List (κ × Value) → Prop := Paired fun (p : κ × V) (q : κ × Value) => p.1 = q.1 ∧ RelV p.2 q.2
noncomputable def kV : Key → V
  | .inl i => .int i
  | .inr x => .str x
inductive HO where
  /-- a list -/
  | lst (xs : List V)
  /-- a tuple (never changes) -/
  | tup (xs : List V)
  /-- a dict whose keys are ints and texts; one whose keys are tuples of ints and texts (the empty one is both) -/
  | dK (kvs : List (Key × V)) | dT (kvs : List (List Key × V))
  /-- a set of ints: its members, its size -/
  | set (S : Int → Bool) (n : Nat)
  /-- an instance of the class at C, its dict at dx, its attributes -/
  | ins (C dx : Addr) (fs : List (Str × V))
  /-- the dict of the instance at x -/
  | own (x : Addr)
  /-- the dict of an exception -/
  | xd (fs : List (Str × V))
  /-- a bound method, f of x -/
  | met (f x : Addr)
  /-- a range object lo, lo + 1, .. below hi -/
  | rng (lo hi : Int)
  /-- a thing that is known to the object (the script; a dict while a loop walks it): read, never written while it is so -/
  | frz (o : Obj) (u : HO)
  /-- a code object's table -/
  | tbl (ps : Array Value)
  /-- any other thing, by what is true of its one object (a def of one's own: SetO a S n := HO.ext fun h => ..) -/
  | ext (φ : Heap → Prop)
noncomputable abbrev Hp := Addr → Option HO
noncomputable def upd (H : Hp) (a : Addr) (o : HO) : Hp := fun b => if b = a then some o else H b
theorem upd_same {H : Hp} {a : Addr} {o : HO} : upd H a o a = some o := by unfold upd; rw [if_pos rfl]
theorem upd_ne {H : Hp} {a b : Addr} {o : HO} (h : b ≠ a) : upd H a o b = H b := by unfold upd; rw [if_neg h]
theorem ne_of {H : Hp} {a b : Addr} {o u : HO} (h : H a = some o) (h' : H b = some u) (d : o ≠ u) : a ≠ b := by
  intro e; subst e; rw [h] at h'; exact d (Option.some.inj h')
theorem ne_of_none {H : Hp} {a b : Addr} {o : HO} (h : H a = some o) (h' : H b = none) : a ≠ b := by
  intro e; subst e; rw [h] at h'; exact L2.sn_ h'
section
variable (P : Program) (w : World)
noncomputable def ObjOk (H : Hp) (h : Heap) (a : Addr) : HO → Prop
  | .lst xs => xs.length ≤ sizeLine ∧ ∃ (its : List Value) (n : Nat), Vals xs its ∧ h.get? a = some { cls := .type "list", data := .seq its.toArray n }
  | .tup xs => xs.length ≤ sizeLine ∧ ∃ its : List Value, Vals xs its ∧ IsTup h a its.toArray
  | .dK kvs => kvs.length ≤ sizeLine ∧ (a == sysModules) = false ∧ ∃ vs, KV kvs vs ∧ h.DictOf (mixKind P w) a vs
  | .dT kvs => kvs.length ≤ sizeLine ∧ (a == sysModules) = false ∧ ∃ xs : List (List Key × Addr × Value),
      Paired (fun (p : List Key × V) (q : List Key × Addr × Value) => p.1 = q.1 ∧ H q.2.1 = some (.tup (p.1.map kV)) ∧ RelV p.2 q.2.2) kvs xs ∧
      ∃ o es ep, h.get? a = some o ∧ o.ExactDict ∧ o.data = .dict es ep ∧ es.toList = xs.map (entryOfKey (tupleKind (mixKind P w))) ∧ (xs.map (·.1)).Nodup
  | .set S n => h.SetOf (intKind P w) a S n
  | .ins C dx fs => H dx = some (.own a) ∧ fs.length ≤ 1000 ∧ dx ≠ a ∧ h.get? a = some (PySem.W.instObj C dx) ∧
      ∃ mA, h.Ns1 dx mA ∧ (∀ f, RelO (fs.lookup f) (mA f)) ∧ PySem.Within mA (fs.map (·.1))
  | .own _ => ∃ o, h.get? a = some o
  | .xd fs => ∃ mA, h.Ns1 a mA ∧ ∀ f, RelO (fs.lookup f) (mA f)
  | .rng lo hi => ∃ t u v, h.get? a = some { cls := .type "range", data := .fields #[.int lo t, .int hi u, .int 1 v] }
  | .frz o u => h.get? a = some o ∧ ObjOk H h a u
  | .tbl ps => h.get? a = some { cls := .none, data := .fields ps }
  | .met f x => h.get? a = some (PySem.W.methodObj (.ref f) (.ref x))
  | .ext φ => φ h ∧ (∃ o, h.get? a = some o) ∧ ∀ h1 h2 : Heap, φ h1 → (∀ o, h1.get? a = some o → h2.get? a = some o) → φ h2
noncomputable def HOk (H : Hp) (h : Heap) : Prop := ∀ a o, H a = some o → ObjOk P w H h a o
end

section
variable {P : Program} {w : World} {H H' : Hp} {h h' : Heap} {a : Addr} {o : HO}
theorem ObjOk.lt (x : ObjOk P w H h a o) : a < h.objs.size := by
  cases o with
  | lst xs => obtain ⟨_, _, _, _, e⟩ := x; exact Heap.lt_size e
  | tup xs => obtain ⟨_, _, _, p⟩ := x; exact p.lt
  | dK kvs => obtain ⟨_, _, _, _, o, _, _, e, _⟩ := x; exact Heap.lt_size e
  | dT kvs => obtain ⟨_, _, _, _, o, _, _, e, _⟩ := x; exact Heap.lt_size e
  | set S n => obtain ⟨o, _, _, _, e, _⟩ := x; exact Heap.lt_size e
  | ins C dx fs => obtain ⟨_, _, _, e, _⟩ := x; exact Heap.lt_size e
  | own y => obtain ⟨_, e⟩ := x; exact Heap.lt_size e
  | xd fs => obtain ⟨_, ⟨_, _, _, e, _⟩, _⟩ := x; exact Heap.lt_size e
  | rng lo hi => obtain ⟨_, _, _, e⟩ := x; exact Heap.lt_size e
  | frz ob u => obtain ⟨e, _⟩ := x; exact Heap.lt_size e
  | tbl ps => exact Heap.lt_size (show h.get? a = some _ from x)
  | met f y => exact Heap.lt_size (show h.get? a = some _ from x)
  | ext φ => obtain ⟨_, ⟨_, e⟩, _⟩ := x; exact Heap.lt_size e
theorem Paired.mapP {α β : Type} {F G : α → β → Prop} {l₁ : List α} {l₂ : List β} (r : Paired F l₁ l₂) (f : ∀ a b, F a b → G a b) : Paired G l₁ l₂ := by
  induction r with
  | nil => exact .nil
  | cons r _ ih => exact .cons (f _ _ r) ih
theorem ObjOk.stay (x : ObjOk P w H h a o) (k : ∀ b u, (b = a ∨ H b = some (.own a)) → h.get? b = some u → h'.get? b = some u)
    (ho : ∀ b, H b = some (.own a) → H' b = some (.own a)) (ht : ∀ b xs, H b = some (.tup xs) → H' b = some (.tup xs)) : ObjOk P w H' h' a o := by
  induction o with
  | lst xs => obtain ⟨z, its, n, r, e⟩ := x; exact ⟨z, its, n, r, k _ _ (.inl rfl) e⟩
  | tup xs => obtain ⟨z, its, r, ob, e, c⟩ := x; exact ⟨z, its, r, ob, k _ _ (.inl rfl) e, c⟩
  | dK kvs => obtain ⟨z, y, vs, r, ob, es, ep, e, c⟩ := x; exact ⟨z, y, vs, r, ob, es, ep, k _ _ (.inl rfl) e, c⟩
  | dT kvs =>
    obtain ⟨z, y, xs, r, ob, es, ep, e, c⟩ := x
    exact ⟨z, y, xs, Paired.mapP r fun p q z => ⟨z.1, ht _ _ z.2.1, z.2.2⟩, ob, es, ep, k _ _ (.inl rfl) e, c⟩
  | set S n => obtain ⟨ob, es, ep, t, e, c⟩ := x; exact ⟨ob, es, ep, t, k _ _ (.inl rfl) e, c⟩
  | ins C dx fs =>
    obtain ⟨d, z, ne, e, mA, ⟨od, es, ep, e2, c⟩, r⟩ := x
    exact ⟨ho _ d, z, ne, k _ _ (.inl rfl) e, mA, ⟨od, es, ep, k _ _ (.inr d) e2, c⟩, r⟩
  | own y => obtain ⟨ob, e⟩ := x; exact ⟨ob, k _ _ (.inl rfl) e⟩
  | xd fs => obtain ⟨mA, ⟨od, es, ep, e, c⟩, r⟩ := x; exact ⟨mA, ⟨od, es, ep, k _ _ (.inl rfl) e, c⟩, r⟩
  | rng lo hi => obtain ⟨t, u, v, e⟩ := x; exact ⟨t, u, v, k _ _ (.inl rfl) e⟩
  | frz ob u ih => obtain ⟨e, q⟩ := x; exact ⟨k _ _ (.inl rfl) e, ih q⟩
  | tbl ps =>
    have e : h.get? a = some { cls := .none, data := .fields ps } := x
    show h'.get? a = some { cls := .none, data := .fields ps }
    exact k a _ (.inl rfl) e
  | met f y =>
    have e : h.get? a = some (PySem.W.methodObj (.ref f) (.ref y)) := x
    show h'.get? a = some (PySem.W.methodObj (.ref f) (.ref y))
    exact k a _ (.inl rfl) e
  | ext φ => obtain ⟨p, ⟨o, e⟩, st⟩ := x; exact ⟨st _ _ p fun o q => k _ _ (.inl rfl) q, ⟨o, k _ _ (.inl rfl) e⟩, st⟩
theorem HOk.lt (x : HOk P w H h) (e : H a = some o) : a < h.objs.size := (x a o e).lt
theorem HOk.fresh (x : HOk P w H h) (e : h.objs.size ≤ a) : H a = none := by
  cases q : H a with
  | none => rfl
  | some u => exact absurd (Nat.lt_of_lt_of_le (x.lt q) e) (Nat.lt_irrefl _)
theorem HOk.kept (x : HOk P w H h) (k : ∀ b u, h.get? b = some u → h'.get? b = some u) : HOk P w H h' := fun a o e =>
  (x a o e).stay (fun b u _ q => k b u q) (fun _ q => q) fun _ _ q => q
theorem HOk.laid (x : HOk P w H h) (k : ∀ b u, h.get? b = some u → h'.get? b = some u) (hp : h.objs.size ≤ a) (new : ObjOk P w (upd H a o) h' a o) : HOk P w (upd H a o) h' := fun b u e => by
  have hn := x.fresh hp
  by_cases hb : b = a
  · subst hb; rw [upd_same] at e; obtain rfl := Option.some.inj e; exact new
  · rw [upd_ne hb] at e
    exact (x b u e).stay (fun c v _ q => k c v q) (fun c q => by rw [upd_ne (ne_of_none q hn)]; exact q) fun c xs q => by rw [upd_ne (ne_of_none q hn)]; exact q
end

noncomputable def Rd (H : Hp) (a : Addr) (u : HO) : Prop := H a = some u ∨ ∃ o, H a = some (.frz o u)
theorem Rd.ok {P : Program} {w : World} {H : Hp} {h : Heap} {a : Addr} {u : HO} (r : Rd H a u) (x : HOk P w H h) : ObjOk P w H h a u := by
  rcases r with r | ⟨o, r⟩
  · exact x a u r
  · obtain ⟨_, q⟩ := x a _ r
    exact q
noncomputable def Mut : Option HO → Prop
  | some (.lst _) => True
  | some (.dK _) => True
  | some (.dT _) => True
  | some (.set _ _) => True
  | some (.ins _ _ _) => True
  | some (.ext _) => True
  | _ => False
section
variable {P : Program} {w : World} {H : Hp} {h h' : Heap} {x e : Addr} {o' : HO}
theorem HOk.write (ok : HOk P w H h) (mu : Mut (H x)) (he : e = x ∨ H e = some (.own x)) (k : ∀ b u, b ≠ e → h.get? b = some u → h'.get? b = some u) (heo : ∃ u, h'.get? e = some u)
    (new : ObjOk P w (upd H x o') h' x o') : HOk P w (upd H x o') h' := fun b u q => by
  have nown : ∀ c y, H c = some (.own y) → c ≠ x := fun c y r z => by subst z; rw [r] at mu; exact mu
  have ntup : ∀ c xs, H c = some (.tup xs) → c ≠ x := fun c xs r z => by subst z; rw [r] at mu; exact mu
  by_cases hb : b = x
  · subst hb; rw [upd_same] at q; obtain rfl := Option.some.inj q; exact new
  · rw [upd_ne hb] at q
    by_cases hbe : b = e
    · have q' : H b = some (.own x) := by
        rcases he with z | z
        · exact absurd (hbe.trans z) hb
        · rw [hbe]; exact z
      rw [q] at q'; obtain rfl := Option.some.inj q'
      obtain ⟨v, hv⟩ := heo
      exact ⟨v, by rw [hbe]; exact hv⟩
    · refine (ok b u q).stay (fun c v hc r => k c v ?_ r) (fun c r => by rw [upd_ne (nown c b r)]; exact r) fun c xs r => by rw [upd_ne (ntup c xs r)]; exact r
      rcases hc with rfl | hc
      · exact hbe
      · rintro rfl
        rcases he with z | z
        · exact nown c b hc z
        · rw [hc] at z; cases z; exact hb rfl
end

structure Un (fs ex : List Addr) (H H' : Hp) (h h' : Heap) : Prop where
  keep : ∀ b o, h.get? b = some o → H b = none → b ∉ fs → b ∉ ex → h'.get? b = some o
  slot : ∀ b o, h.get? b = some o → H b = none → b ∈ fs → b ∉ ex → ∃ sl, h'.get? b = some { o with slots := sl }
  free : ∀ b o, h.get? b = some o → H b = none → b ∉ ex → H' b = none
  there : ∀ b o, h.get? b = some o → b ∉ ex → ∃ o', h'.get? b = some o'
  tups : ∀ b xs, H b = some (.tup xs) → H' b = some (.tup xs)
  frzs : ∀ b o u, H b = some (.frz o u) → H' b = some (.frz o u)
  tbls : ∀ b ps, H b = some (.tbl ps) → ∃ more, H' b = some (.tbl (ps ++ more))
section
variable {fs fs' ex ex' : List Addr} {H H1 H2 : Hp} {h h1 h2 h' : Heap} {a x e : Addr} {o : HO}
theorem Un.any (u : Un fs ex H H1 h h1) {b : Addr} {ob : Obj} (q : h.get? b = some ob) (n : H b = none) (hx : b ∉ ex) : ∃ sl, h1.get? b = some { ob with slots := sl } := by
  by_cases hb : b ∈ fs
  · exact u.slot b ob q n hb hx
  · exact ⟨ob.slots, u.keep b ob q n hb hx⟩
theorem Un.kept (k : ∀ b u, h.get? b = some u → h'.get? b = some u) : Un fs ex H H h h' :=
  ⟨fun b ob q _ _ _ => k b ob q, fun b ob q _ _ _ => ⟨ob.slots, k b ob q⟩, fun _ _ _ n _ => n, fun b ob q _ => ⟨ob, k b ob q⟩, fun _ _ q => q, fun _ _ _ q => q, fun _ ps q => ⟨#[], by rw [q]; simp⟩⟩
theorem Un.refl : Un fs ex H H h h := Un.kept fun _ _ q => q
theorem Un.laid (k : ∀ b u, h.get? b = some u → h'.get? b = some u) (hp : h.objs.size ≤ a) (hn : H a = none) : Un fs ex H (upd H a o) h h' where
  keep := fun b u q _ _ _ => k b u q
  slot := fun b u q _ _ _ => ⟨u.slots, k b u q⟩
  free := fun b u q n _ => by rw [upd_ne (Nat.ne_of_lt (Nat.lt_of_lt_of_le (Heap.lt_size q) hp))]; exact n
  there := fun b u q _ => ⟨u, k b u q⟩
  tups := fun b xs q => by rw [upd_ne (ne_of_none q hn)]; exact q
  frzs := fun b u xs q => by rw [upd_ne (ne_of_none q hn)]; exact q
  tbls := fun b ps q => ⟨#[], by rw [upd_ne (ne_of_none q hn), q]; simp⟩
theorem Un.write (mu : Mut (H x)) (he : e = x ∨ H e = some (.own x)) (k : ∀ b u, b ≠ e → h.get? b = some u → h'.get? b = some u) (heo : ∃ u, h'.get? e = some u) : Un fs ex H (upd H x o) h h' := by
  have hx : ∀ b, H b = none → b ≠ x := fun b n z => by subst z; rw [n] at mu; exact mu
  have hb : ∀ b, H b = none → b ≠ e := fun b n z => by
    subst z
    rcases he with r | r
    · exact hx b n r
    · rw [n] at r; exact L2.ns_ r
  have hm : ∀ b u, H b = some u → ¬ Mut (some u) → b ≠ x := fun b u q nm z => by subst z; rw [q] at mu; exact nm mu
  refine ⟨fun b u q n _ _ => k b u (hb b n) q, fun b u q n _ _ => ⟨u.slots, k b u (hb b n) q⟩, fun b u q n _ => by rw [upd_ne (hx b n)]; exact n, fun b u q _ => ?_,
    fun b xs q => by rw [upd_ne (hm b _ q fun z => z)]; exact q, fun b u xs q => by rw [upd_ne (hm b _ q fun z => z)]; exact q, fun b ps q => ⟨#[], by rw [upd_ne (hm b _ q fun z => z), q]; simp⟩⟩
  by_cases hbe : b = e
  · subst hbe; exact heo
  · exact ⟨u, k b u hbe q⟩
end

noncomputable def trk (h : Heap) (H : Hp) : List Addr := (List.range h.objs.size).filter fun a => (H a).isSome
noncomputable def hidT (h : Heap) (H : Hp) : Heap := PySem.W.hideAll h (trk h H)
theorem hidT_size (h : Heap) (H : Hp) : (hidT h H).objs.size = h.objs.size := PySem.W.hideAll_size _ _
theorem hidT_get {h : Heap} {H : Hp} {b : Addr} {o : Obj} (e : h.get? b = some o) (n : H b = none) : (hidT h H).get? b = some o :=
  PySem.W.hideAll_get _ e fun hm => by
    have q : (H b).isSome = true := (List.mem_filter.mp hm).2
    rw [n] at q; simp at q
theorem of_hidT {h : Heap} {H : Hp} {b : Addr} {o : Obj} (e : (hidT h H).get? b = some o) : h.get? b = some o ∧ H b = none := by
  have e' : h.get? b = some o := PySem.W.of_hideAll (trk h H) e
  refine ⟨e', ?_⟩
  cases q : H b with
  | none => rfl
  | some x =>
    have hm : b ∈ trk h H := List.mem_filter.mpr ⟨List.mem_range.mpr (Heap.lt_size e'), by simp [q]⟩
    have z : (hidT h H).get? b = none := PySem.W.hideAll_none (trk h H) hm
    rw [z] at e; exact L2.ns_ e
end L2

namespace L2
open PySem PySem.Spec PyProof.Rows
structure Mod (K : PySem.W.Frag) (mg : Str → Option Value) (base : Heap) : Prop where
  kin : K.In base
  glob : base.Ns mainGlobals mg
  blt : ∃ mb, base.Ns builtinsNs mb ∧ ∀ x : Str, x ≠ "__name__" → mb x = bootBuiltins x
  nolimit : base.NoLimit
structure Cx where
  prog : Program
  w : World
  K : PySem.W.Frag
  mg : Str → Option Value
  base : Heap
  A : Around
  N : List Str
  s₀ : Shared
  H₀ : Hp
  env : Env
  outer : List Env
  stack : List Env
  ex : List Addr
  fn : Str → Bool
  calm : Bool
  pn : List (Addr × Obj)
  xe : Value → Shared → Prop
noncomputable def frs (l : List Env) : List Addr := l.filterMap (·.frame)
noncomputable abbrev Cx.fs (X : Cx) : List Addr := frs X.outer
noncomputable def Vis (sc : Scope) (x : Str) : Prop := sc.names.lookup x = some .local ∨ sc.names.lookup x = some .cell ∨ sc.names.lookup x = some .free
noncomputable def Loc (sc : Scope) (x : Str) : Prop := sc.names.lookup x = some .local ∨ sc.names.lookup x = some .cell
noncomputable def Look (env : Env) (h : Heap) (m : Str → Option Value) (x : Str) (u : Value) : Prop :=
  (env.kindOf x = some .local ∧ m x = some u) ∨ ((env.kindOf x = some .cell ∨ env.kindOf x = some .free) ∧ ∃ c, env.cells.lookup x = some c ∧ h.IsCell c (some u))
structure Cx.Ok (X : Cx) : Prop where
  mod : Mod X.K X.mg X.base
  kind : X.env.scope.kind = .function
  glob : X.env.globals = mainGlobals
  blt : X.env.builtins = builtinsNs
  above : X.s₀.heap.objs.size ≤ X.env.locals
  inj : ∀ x y c, X.env.cells.lookup x = some c → X.env.cells.lookup y = some c → x = y
  has : ∀ x, (X.env.kindOf x = some .cell ∨ X.env.kindOf x = some .free) → ∃ c, X.env.cells.lookup x = some c
  cab : ∀ x c, X.fn x = true → X.env.cells.lookup x = some c → X.s₀.heap.objs.size ≤ c
  hd : X.calm = true → X.A.handled = none
  frames : X.A.frames = some X.stack
  stk : X.stack = X.outer ∨ (X.stack = X.env :: X.outer ∧ X.env.frame = some X.env.locals)
  exf : ∀ b ∈ X.ex, b ≠ X.env.locals ∧ ∀ x c, X.env.cells.lookup x = some c → c ≠ b
  bs : ∀ b o, X.base.get? b = some o → X.s₀.heap.get? b = some o ∧ X.H₀ b = none
  bsz : X.base.objs.size ≤ X.s₀.heap.objs.size
  noex : ∀ b o, X.base.get? b = some o → b ∉ X.ex
  exfs : ∀ b ∈ X.ex, b ∉ X.fs
  funs : X.s₀.heap.FunFrames X.base X.outer
  frf : ∀ b ∈ X.fs, X.H₀ b = none
structure Inv (X : Cx) (pins : List (Addr × Obj)) (σ : List (Option V)) (H : Hp) (s : Shared) : Prop where
  ok : X.Ok
  os : s.os = X.s₀.os
  bare : AllBare s.gens
  base : Un X.fs X.ex X.H₀ H X.s₀.heap s.heap
  loc : ∃ m, s.heap.Ns X.env.locals m ∧ ∀ (i : Nat) (x : Str) (v : V), X.N[i]? = some x → σ[i]? = some (some v) → Vis X.env.scope x → ∃ u, RelV v u ∧ Look X.env s.heap m x u
  cell : ∀ x c, X.env.cells.lookup x = some c → ∃ v, s.heap.IsCell c v
  free : H X.env.locals = none
  freeC : ∀ x c, X.env.cells.lookup x = some c → H c = none
  pin : ∀ p ∈ X.pn ++ pins, s.heap.get? p.1 = some p.2 ∧ H p.1 = none ∧ p.1 ≠ X.env.locals ∧ p.1 ∉ X.fs ∧ ∀ v, p.2.data ≠ .cell v
  hok : HOk X.prog X.w H s.heap
  len : σ.length = X.N.length
section
variable {X : Cx} {pins : List (Addr × Obj)} {σ : List (Option V)} {H H' : Hp} {s : Shared} {h' : Heap}
theorem Cx.Ok.nofr (ok : X.Ok) {b : Addr} {o : Obj} (e : X.base.get? b = some o) : b ∉ X.fs := fun hb => by
  have := (ok.funs.mem hb).1
  rw [e] at this; exact L2.sn_ this
theorem Inv.bs (I : Inv X pins σ H s) : ∀ b o, X.base.get? b = some o → s.heap.get? b = some o ∧ H b = none := fun b o e =>
  ⟨I.base.keep b o (I.ok.bs b o e).1 (I.ok.bs b o e).2 (I.ok.nofr e) (I.ok.noex b o e), I.base.free b o (I.ok.bs b o e).1 (I.ok.bs b o e).2 (I.ok.noex b o e)⟩
theorem Inv.bk (I : Inv X pins σ H s) : ∀ b o, X.base.get? b = some o → s.heap.get? b = some o := fun b o e => (I.bs b o e).1
theorem Inv.mod (I : Inv X pins σ H s) : Mod X.K X.mg X.base := I.ok.mod
theorem Inv.kIn (I : Inv X pins σ H s) : X.K.In s.heap := I.ok.mod.kin.keeps I.bk
theorem Inv.lt (I : Inv X pins σ H s) : X.env.locals < s.heap.objs.size := let ⟨_, hn, _⟩ := I.loc; hn.lt
theorem Inv.sz (I : Inv X pins σ H s) : X.s₀.heap.objs.size ≤ s.heap.objs.size := Nat.le_trans I.ok.above (Nat.le_of_lt I.lt)
theorem Inv.nofs (I : Inv X pins σ H s) {a : Addr} (h : s.heap.objs.size ≤ a) : a ∉ X.fs := fun hb => by
  obtain ⟨_, o, ho, _⟩ := I.ok.funs.mem hb
  exact absurd (Nat.lt_of_lt_of_le (Heap.lt_size ho) (Nat.le_trans I.sz h)) (Nat.lt_irrefl _)
theorem Inv.cne (I : Inv X pins σ H s) : ∀ x c, X.env.cells.lookup x = some c → c ≠ X.env.locals := fun x c e z => by
  obtain ⟨v, o, ho, hd⟩ := I.cell x c e
  obtain ⟨m, ⟨o', es, ep, ho', hd', _⟩, _⟩ := I.loc
  rw [z, ho'] at ho; obtain rfl := Option.some.inj ho; rw [hd'] at hd; cases hd
theorem Inv.funs (I : Inv X pins σ H s) : s.heap.FunFrames X.base X.outer := by
  have all : ∀ (l : List Env), (∀ b ∈ frs l, b ∈ X.fs) → X.s₀.heap.FunFrames X.base l → s.heap.FunFrames X.base l := by
    intro l
    induction l with
    | nil => intro _ _; trivial
    | cons env r ih =>
      intro hs hl
      obtain ⟨hk, ⟨L, o, hf, hn, ho, hd⟩, hr⟩ := hl
      have hL : L ∈ X.fs := hs L (by unfold frs; rw [List.filterMap_cons, hf]; exact List.mem_cons_self)
      obtain ⟨sl, e⟩ := I.base.slot L o ho (I.ok.frf L hL) hL fun z => I.ok.exfs L z hL
      exact ⟨hk, ⟨L, _, hf, hn, e, hd⟩, ih (fun b hb => hs b (by unfold frs; rw [List.filterMap_cons, hf]; exact List.mem_cons_of_mem _ hb)) hr⟩
  exact all X.outer (fun _ hb => hb) I.ok.funs
theorem Inv.stack (I : Inv X pins σ H s) : s.heap.FunFrames X.base X.stack := by
  rcases I.ok.stk with e | ⟨e, hf⟩
  · rw [e]; exact I.funs
  · rw [e]
    obtain ⟨m, hn, _⟩ := I.loc
    refine .cons (by rw [I.ok.kind]; decide) hf hn ?_ I.funs
    exact Heap.get?_none_of_le (Nat.le_trans I.ok.bsz I.ok.above)
theorem Inv.stkSub (I : Inv X pins σ H s) : ∀ b ∈ frs X.stack, b ∈ X.env.locals :: X.fs := fun b hb => by
  rcases I.ok.stk with e | ⟨e, hf⟩
  · rw [e] at hb; exact List.mem_cons_of_mem _ hb
  · rw [e] at hb
    unfold frs at hb
    rw [List.filterMap_cons, hf] at hb
    exact hb
theorem Inv.stkFree (I : Inv X pins σ H s) : ∀ b ∈ frs X.stack, H b = none := fun b hb => by
  rcases List.mem_cons.mp (I.stkSub b hb) with e | hb
  · rw [e]; exact I.free
  · obtain ⟨_, o, ho, _⟩ := I.ok.funs.mem hb
    exact I.base.free b o ho (I.ok.frf b hb) fun z => I.ok.exfs b z hb
theorem Inv.step {g' : Array GenState} {t' : Nat} {d' : Drawn} {ch : List Addr} (I : Inv X pins σ H s)
    (hch : ∀ b ∈ ch, (b ∈ X.ex ∨ X.s₀.heap.objs.size ≤ b) ∧ b ≠ X.env.locals ∧ (∀ x c, X.env.cells.lookup x = some c → c ≠ b) ∧ ∀ p ∈ X.pn ++ pins, p.1 ≠ b)
    (keep : ∀ b o, b ≠ X.env.locals → b ∉ X.fs → b ∉ ch → s.heap.get? b = some o → H b = none → h'.get? b = some o)
    (slot : ∀ b o, b ≠ X.env.locals → b ∈ X.fs → b ∉ ch → s.heap.get? b = some o → H b = none → ∃ sl, h'.get? b = some { o with slots := sl }) (free : ∀ b o, b ∉ ch → s.heap.get? b = some o → H b = none → H' b = none)
    (there : ∀ b o, b ∉ ch → s.heap.get? b = some o → ∃ o', h'.get? b = some o')
    (tups : ∀ b xs, H b = some (.tup xs) → H' b = some (.tup xs)) (frzs : ∀ b o u, H b = some (.frz o u) → H' b = some (.frz o u)) (tbls : ∀ b ps, H b = some (.tbl ps) → ∃ more, H' b = some (.tbl (ps ++ more)))
    (ns : ∀ m, s.heap.Ns X.env.locals m → h'.Ns X.env.locals m) (hok : HOk X.prog X.w H' h') (hg : AllBare g') :
    Inv X pins σ H' { s with heap := h', gens := g', drawn := d', toks := t' } := by
  have neL : ∀ b o, X.s₀.heap.get? b = some o → b ≠ X.env.locals := fun b o e => Nat.ne_of_lt (Nat.lt_of_lt_of_le (Heap.lt_size e) I.ok.above)
  have neC : ∀ b o, X.s₀.heap.get? b = some o → b ∉ X.ex → b ∉ ch := fun b o e hx hb => by
    rcases (hch b hb).1 with z | z
    · exact hx z
    · exact absurd (Nat.lt_of_lt_of_le (Heap.lt_size e) z) (Nat.lt_irrefl _)
  have cellK : ∀ x c, X.env.cells.lookup x = some c → ∀ v, s.heap.IsCell c v → h'.IsCell c v := fun x c e v ⟨o, ho, hd⟩ => by
    have nch : c ∉ ch := fun z => (hch c z).2.2.1 x c e rfl
    by_cases hc : c ∈ X.fs
    · obtain ⟨sl, q⟩ := slot c o (I.cne x c e) hc nch ho (I.freeC x c e)
      exact ⟨_, q, hd⟩
    · exact ⟨o, keep c o (I.cne x c e) hc nch ho (I.freeC x c e), hd⟩
  refine ⟨I.ok, I.os, hg, ⟨fun b o e n hb hx => ?_, fun b o e n hb hx => ?_, fun b o e n hx => ?_, fun b o e hx => ?_, fun b xs e => tups b xs (I.base.tups b xs e), fun b o xs e => frzs b o xs (I.base.frzs b o xs e), fun b ps e => ?_⟩, ?_, fun x c e => ?_, ?_, fun x c e => ?_, fun p hp => ?_, hok, I.len⟩
  · exact keep b o (neL b o e) hb (neC b o e hx) (I.base.keep b o e n hb hx) (I.base.free b o e n hx)
  · obtain ⟨sl, e1⟩ := I.base.slot b o e n hb hx
    obtain ⟨sl', e2⟩ := slot b _ (neL b o e) hb (neC b o e hx) e1 (I.base.free b o e n hx)
    exact ⟨sl', e2⟩
  · obtain ⟨o', e1⟩ := I.base.there b o e hx
    exact free b o' (neC b o e hx) e1 (I.base.free b o e n hx)
  · obtain ⟨o', e1⟩ := I.base.there b o e hx
    exact there b o' (neC b o e hx) e1
  · obtain ⟨m1, e1⟩ := I.base.tbls b ps e
    obtain ⟨m2, e2⟩ := tbls b _ e1
    exact ⟨m1 ++ m2, by rw [e2, Array.append_assoc]⟩
  · refine L2.ob_ea I.loc fun m hn hl => ?_
    refine ⟨m, ns m hn, fun i x v e1 e2 e3 => ?_⟩
    obtain ⟨u, r, l⟩ := hl i x v e1 e2 e3
    refine ⟨u, r, ?_⟩
    rcases l with l | ⟨k, c, e, z⟩
    · exact .inl l
    · exact .inr ⟨k, c, e, cellK x c e _ z⟩
  · obtain ⟨v, z⟩ := I.cell x c e
    exact ⟨v, cellK x c e v z⟩
  · obtain ⟨m, ⟨o, _, _, ho, _⟩, _⟩ := I.loc
    exact free _ o (fun z => (hch _ z).2.1 rfl) ho I.free
  · obtain ⟨v, o, ho, hd⟩ := I.cell x c e
    exact free c o (fun z => (hch c z).2.2.1 x c e rfl) ho (I.freeC x c e)
  · refine L2.ob_aaaa (I.pin p hp) fun e n ne nf d => ?_
    have nch : p.1 ∉ ch := fun z => (hch p.1 z).2.2.2 p hp rfl
    exact ⟨keep p.1 p.2 ne nf nch e n, free p.1 p.2 nch e n, ne, nf, d⟩
theorem Inv.un {t' : Nat} (I : Inv X pins σ H s) (u : Un X.fs [] H H' s.heap h') (hok : HOk X.prog X.w H' h') : Inv X pins σ H' { s with heap := h', toks := t' } := by
  obtain ⟨m, ⟨o, es, ep, ho, r⟩, _⟩ := id I.loc
  obtain ⟨sl, hL⟩ := u.any ho I.free (by simp)
  exact I.step (g' := s.gens) (d' := s.drawn) (ch := []) (fun _ z => nomatch z) (fun b o _ hb _ e n => u.keep b o e n hb (by simp)) (fun b o _ hb _ e n => u.slot b o e n hb (by simp)) (fun b o _ e n => u.free b o e n (by simp)) (fun b o _ e => u.there b o e (by simp)) u.tups u.frzs u.tbls (fun m' hm => by
    obtain ⟨o', es', ep', ho', r'⟩ := hm
    rw [ho] at ho'; cases ho'
    exact ⟨_, es', ep', hL, r'⟩) hok I.bare
theorem Inv.call {g' : Array GenState} {t' : Nat} {d' : Drawn} {ch : List Addr} (I : Inv X pins σ H s) (u : Un (frs X.stack) ch H H' s.heap h') (hok : HOk X.prog X.w H' h') (hg : AllBare g')
    (hch : ∀ b ∈ ch, (b ∈ X.ex ∨ X.s₀.heap.objs.size ≤ b) ∧ b ≠ X.env.locals ∧ (∀ x c, X.env.cells.lookup x = some c → c ≠ b) ∧ ∀ p ∈ X.pn ++ pins, p.1 ≠ b) :
    Inv X pins σ H' { s with heap := h', gens := g', drawn := d', toks := t' } := by
  obtain ⟨m, ⟨o, es, ep, ho, r⟩, _⟩ := id I.loc
  obtain ⟨sl, hL⟩ := u.any ho I.free fun z => (hch _ z).2.1 rfl
  exact I.step (ch := ch) hch (fun b o hL hb hc e n => u.keep b o e n (fun z => (List.mem_cons.mp (I.stkSub b z)).elim hL hb) hc) (fun b o _ _ hc e n => u.any e n hc) (fun b o hc e n => u.free b o e n hc) (fun b o hc e => u.there b o e hc) u.tups u.frzs u.tbls (fun m' hm => by
    obtain ⟨o', es', ep', ho', r'⟩ := hm
    rw [ho] at ho'; cases ho'
    exact ⟨_, es', ep', hL, r'⟩) hok hg
theorem Inv.turned {t' : Nat} {it : Addr} (I : Inv X pins σ H s) (k : ∀ b o, b ≠ it → s.heap.get? b = some o → h'.get? b = some o) (hn : H it = none) (hL : it ≠ X.env.locals)
    (h1 : it ∈ X.ex ∨ X.s₀.heap.objs.size ≤ it) (h2 : ∀ x c, X.env.cells.lookup x = some c → c ≠ it) (h3 : ∀ p ∈ X.pn ++ pins, p.1 ≠ it) : Inv X pins σ H { s with heap := h', toks := t' } := by
  have nit : ∀ b u, H b = some u → b ≠ it := fun b u e z => by rw [z, hn] at e; exact L2.ns_ e
  refine I.step (g' := s.gens) (d' := s.drawn) (ch := [it]) (fun b hb => ?_) (fun b o _ _ hc e _ => k b o (fun z => hc (by simp [z])) e) (fun b o _ _ hc e _ => ⟨o.slots, k b o (fun z => hc (by simp [z])) e⟩) (fun _ _ _ _ n => n)
    (fun b o hc e => ⟨o, k b o (fun z => hc (by simp [z])) e⟩) (fun _ _ e => e) (fun _ _ _ e => e) (fun b ps e => ⟨#[], by rw [e]; simp⟩) (fun m hm => ?_) (fun b u e => ?_) I.bare
  · have e : b = it := by simpa using hb
    subst e
    exact ⟨h1, hL, h2, h3⟩
  · obtain ⟨o, es, ep, ho, r⟩ := hm
    exact ⟨o, es, ep, k _ o (Ne.symm hL) ho, r⟩
  · refine (I.hok b u e).stay (fun c v hc q => k c v ?_ q) (fun _ q => q) fun _ _ q => q
    rcases hc with z | z
    · rw [z]; exact nit b u e
    · exact nit c _ z
theorem Inv.tok (I : Inv X pins σ H s) (t : Nat) : Inv X pins σ H { s with toks := t } := I.un (h' := s.heap) (t' := t) Un.refl I.hok
theorem Inv.kept {t' : Nat} (I : Inv X pins σ H s) (k : ∀ b u, s.heap.get? b = some u → h'.get? b = some u) : Inv X pins σ H { s with heap := h', toks := t' } := I.un (Un.kept k) (I.hok.kept k)
theorem Inv.laid {a : Addr} {o : HO} {t' : Nat} (I : Inv X pins σ H s) (k : ∀ b u, s.heap.get? b = some u → h'.get? b = some u) (hp : s.heap.objs.size ≤ a) (new : ObjOk X.prog X.w (upd H a o) h' a o) :
    Inv X pins σ (upd H a o) { s with heap := h', toks := t' } := I.un (Un.laid k hp (I.hok.fresh hp)) (I.hok.laid k hp new)
theorem Inv.write {x e : Addr} {o : HO} {t' : Nat} (I : Inv X pins σ H s) (mu : Mut (H x)) (he : e = x ∨ H e = some (.own x)) (k : ∀ b u, b ≠ e → s.heap.get? b = some u → h'.get? b = some u) (heo : ∃ u, h'.get? e = some u)
    (new : ObjOk X.prog X.w (upd H x o) h' x o) : Inv X pins σ (upd H x o) { s with heap := h', toks := t' } := I.un (Un.write mu he k heo) (I.hok.write mu he k heo new)
theorem Inv.weak {σ' : List (Option V)} (I : Inv X pins σ H s) (hl : σ'.length = σ.length) (w : ∀ (i : Nat) v, σ'[i]? = some (some v) → σ[i]? = some (some v)) : Inv X pins σ' H s :=
  ⟨I.ok, I.os, I.bare, I.base, let ⟨m, hn, hl'⟩ := I.loc; ⟨m, hn, fun i x v e1 e2 e3 => hl' i x v e1 (w i v e2) e3⟩, I.cell, I.free, I.freeC, I.pin, I.hok, hl.trans I.len⟩
theorem Inv.pins_of {pins' : List (Addr × Obj)} (I : Inv X pins σ H s) (h : ∀ p ∈ pins', s.heap.get? p.1 = some p.2 ∧ H p.1 = none ∧ p.1 ≠ X.env.locals ∧ p.1 ∉ X.fs ∧ ∀ v, p.2.data ≠ .cell v) : Inv X pins' σ H s :=
  ⟨I.ok, I.os, I.bare, I.base, I.loc, I.cell, I.free, I.freeC, fun p hp => (List.mem_append.mp hp).elim (fun z => I.pin p (List.mem_append_left _ z)) (h p), I.hok, I.len⟩
theorem nodup_ix {N : List Str} (hN : N.Nodup) {i j : Nat} {x : Str} (a : N[i]? = some x) (b : N[j]? = some x) : i = j := by
  obtain ⟨h1, e1⟩ := List.getElem?_eq_some_iff.mp a
  obtain ⟨h2, e2⟩ := List.getElem?_eq_some_iff.mp b
  exact (List.getElem_inj hN).mp (e1.trans e2.symm)
theorem store_ok2 {M : Model} {A : Around} {E : Value → Shared → Prop} {i : Nat} {x : Str} {v : V} {u : Value} {Q : Unit → Shared → Prop} (I : Inv X pins σ H s) (hN : X.N.Nodup) (hi : X.N[i]? = some x) (hx : Loc X.env.scope x) (r : RelV v u)
    (h : ∀ s', Inv X pins (σ.set i (some v)) H s' → (∃ a, Heap.SameBut a s.heap s'.heap ∧ (a = X.env.locals ∨ X.env.cells.lookup x = some a)) → Q () s') (hf : X.fn x = true ∨ X.env.scope.names.lookup x = some .local := by first | exact .inl rfl | exact .inr rfl | assumption) : wpAny M A (storeName X.env x u) Q E s := by
  obtain ⟨m, hn, hl⟩ := id I.loc
  have hcls : (X.env.scope.kind == .class || (X.env.scope.kind == .module && X.env.locals != X.env.globals)) = false := by rw [I.ok.kind]; rfl
  have hiσ : i < σ.length := by rw [I.len]; exact (List.getElem?_eq_some_iff.mp hi).1
  have cne := I.cne
  have tracked : ∀ {a : Addr} {h' : Heap}, (∃ o, s.heap.get? a = some o ∧ H a = none) → Heap.SameBut a s.heap h' → HOk X.prog X.w H h' := fun {a h'} ha hs b ob e => by
    obtain ⟨_, _, hfree⟩ := ha
    refine (I.hok b ob e).stay (fun c w' hc q => (hs.2 c ?_).trans q) (fun _ q => q) fun _ _ q => q
    rintro rfl
    rcases hc with rfl | hc
    · rw [hfree] at e; exact L2.ns_ e
    · rw [hfree] at hc; exact L2.ns_ hc
  rcases hx with hk | hk
  · refine wpAny_storeName_local hk hn (fun h' hn' hs => ?_) hcls
    obtain ⟨oL, _, _, hoL, _⟩ := id hn
    refine h _ ⟨I.ok, I.os, I.bare, ⟨fun b o e n hb hx => ?_, fun b o e n hb hx => ?_, I.base.free, fun b o e hx => ?_, I.base.tups, I.base.frzs, I.base.tbls⟩, ⟨_, hn', fun j y v' e1 e2 e3 => ?_⟩, fun y c e => ?_, I.free, I.freeC, fun p hp => ?_, tracked ⟨oL, hoL, I.free⟩ hs, by simpa using I.len⟩ ⟨_, hs, .inl rfl⟩
    · exact (hs.2 b (Nat.ne_of_lt (Nat.lt_of_lt_of_le (Heap.lt_size e) I.ok.above))).trans (I.base.keep b o e n hb hx)
    · obtain ⟨sl, e1⟩ := I.base.slot b o e n hb hx
      exact ⟨sl, (hs.2 b (Nat.ne_of_lt (Nat.lt_of_lt_of_le (Heap.lt_size e) I.ok.above))).trans e1⟩
    · obtain ⟨o', e1⟩ := I.base.there b o e hx
      exact ⟨o', (hs.2 b (Nat.ne_of_lt (Nat.lt_of_lt_of_le (Heap.lt_size e) I.ok.above))).trans e1⟩
    · by_cases hj : j = i
      · subst hj
        rw [hi] at e1; cases e1
        rw [List.getElem?_set_self hiσ] at e2
        cases e2
        exact ⟨u, r, .inl ⟨hk, by simp⟩⟩
      · rw [List.getElem?_set_ne (Ne.symm hj)] at e2
        refine L2.ob_ea (hl j y v' e1 e2 e3) fun u' r' q => ?_
        refine ⟨u', r', ?_⟩
        rcases q with ⟨k, e⟩ | ⟨k, c, e, z⟩
        · refine .inl ⟨k, ?_⟩
          have : y ≠ x := fun e => hj (nodup_ix hN e1 (e ▸ hi))
          simp [this, e]
        · exact .inr ⟨k, c, e, z.sameBut hs (cne y c e)⟩
    · obtain ⟨w', z⟩ := I.cell y c e
      exact ⟨w', z.sameBut hs (cne y c e)⟩
    · refine L2.ob_aaaa (I.pin p hp) fun e n ne nf d => ?_
      exact ⟨(hs.2 p.1 ne).trans e, n, ne, nf, d⟩
  · have hfn : X.fn x = true := by
      rcases hf with z | z
      · exact z
      · rw [z] at hk; cases hk
    obtain ⟨c, hc⟩ := I.ok.has x (.inl hk)
    obtain ⟨w', z⟩ := I.cell x c hc
    refine wpAny_storeName_cell I.ok.kind hk hc z (fun h' hc' hs => ?_)
    obtain ⟨oc, hoc, hocd⟩ := id z
    refine h { s with heap := h' } ⟨I.ok, I.os, I.bare, ⟨fun b o e n hb hx => ?_, fun b o e n hb hx => ?_, I.base.free, fun b o e hx => ?_, I.base.tups, I.base.frzs, I.base.tbls⟩, ⟨m, hn.sameBut hs (Ne.symm (cne x c hc)), fun j y v' e1 e2 e3 => ?_⟩, fun y c' e => ?_, I.free, I.freeC, fun p hp => ?_, tracked ⟨oc, hoc, I.freeC x c hc⟩ hs, by simpa using I.len⟩ ⟨c, hs, .inr hc⟩
    · exact (hs.2 b (Nat.ne_of_lt (Nat.lt_of_lt_of_le (Heap.lt_size e) (I.ok.cab x c hfn hc)))).trans (I.base.keep b o e n hb hx)
    · obtain ⟨sl, e1⟩ := I.base.slot b o e n hb hx
      exact ⟨sl, (hs.2 b (Nat.ne_of_lt (Nat.lt_of_lt_of_le (Heap.lt_size e) (I.ok.cab x c hfn hc)))).trans e1⟩
    · obtain ⟨o', e1⟩ := I.base.there b o e hx
      exact ⟨o', (hs.2 b (Nat.ne_of_lt (Nat.lt_of_lt_of_le (Heap.lt_size e) (I.ok.cab x c hfn hc)))).trans e1⟩
    · by_cases hj : j = i
      · subst hj
        rw [hi] at e1; cases e1
        rw [List.getElem?_set_self hiσ] at e2
        cases e2
        exact ⟨u, r, .inr ⟨.inl hk, c, hc, hc'⟩⟩
      · rw [List.getElem?_set_ne (Ne.symm hj)] at e2
        refine L2.ob_ea (hl j y v' e1 e2 e3) fun u' r' q => ?_
        refine ⟨u', r', ?_⟩
        rcases q with q | ⟨k, c', e, z'⟩
        · exact .inl q
        · refine .inr ⟨k, c', e, z'.sameBut hs ?_⟩
          rintro rfl
          exact hj (nodup_ix hN e1 (I.ok.inj _ _ _ e hc ▸ hi))
    · by_cases hcc : c' = c
      · subst hcc; exact ⟨_, hc'⟩
      · obtain ⟨w2, z2⟩ := I.cell y c' e
        exact ⟨w2, z2.sameBut hs hcc⟩
    · refine L2.ob_aaaa (I.pin p hp) fun e n ne nf d => ?_
      refine ⟨(hs.2 p.1 ?_).trans e, n, ne, nf, d⟩
      intro q
      rw [q, hoc] at e
      have q' : oc = p.2 := Option.some.inj e
      exact d w' (by rw [← q']; exact hocd)
theorem store_ok {M : Model} {A : Around} {E : Value → Shared → Prop} {i : Nat} {x : Str} {v : V} {u : Value} {Q : Unit → Shared → Prop} (I : Inv X pins σ H s) (hN : X.N.Nodup) (hi : X.N[i]? = some x) (hx : Loc X.env.scope x) (r : RelV v u)
    (h : ∀ s', Inv X pins (σ.set i (some v)) H s' → Q () s') (hf : X.fn x = true ∨ X.env.scope.names.lookup x = some .local := by first | exact .inl rfl | exact .inr rfl | assumption) : wpAny M A (storeName X.env x u) Q E s :=
  store_ok2 I hN hi hx r (fun s' I' _ => h s' I') hf
theorem Inv.call' {s' : Shared} {ch : List Addr} (I : Inv X pins σ H s) (ho : s'.os = s.os) (u : Un (frs X.stack) ch H H' s.heap s'.heap) (hok : HOk X.prog X.w H' s'.heap) (hg : AllBare s'.gens)
    (hch : ∀ b ∈ ch, (b ∈ X.ex ∨ X.s₀.heap.objs.size ≤ b) ∧ b ≠ X.env.locals ∧ (∀ x c, X.env.cells.lookup x = some c → c ≠ b) ∧ ∀ p ∈ X.pn ++ pins, p.1 ≠ b) : Inv X pins σ H' s' := by
  obtain ⟨h', g', d', t', o'⟩ := s'
  have e : o' = s.os := ho
  subst e
  exact I.call (g' := g') (t' := t') (d' := d') u hok hg hch
end

noncomputable abbrev XK := Value → Option Addr → Hp → Prop
noncomputable abbrev St := List (Option V)
noncomputable abbrev VK := V → Hp → Prop
noncomputable abbrev TE := St → Hp → VK → Prop
noncomputable abbrev TT := St → Hp → (Bool → Hp → Prop) → Prop
noncomputable abbrev TA := St → Hp → (List V → Hp → Prop) → Prop
structure Ends where
  nx : St → Hp → Prop
  rt : VK
  bk : St → Hp → Prop := fun _ _ => False
  ct : St → Hp → Prop := fun _ _ => False
noncomputable abbrev TS := Ends → St → Hp → Prop
noncomputable def Ends.nxt (D : Ends) (k : St → Hp → Prop) : Ends := { D with nx := k }
noncomputable def Ends.lp (D : Ends) (N : St → Hp → Prop) : Ends := { D with nx := N, ct := N, bk := D.nx }
noncomputable def onI (x : V) (k : Int → Prop) : Prop := match x with
  | .int i => k i
  | _ => False
noncomputable def onB (x : V) (k : Bool → Prop) : Prop := match x with
  | .bl i => k i
  | _ => False
noncomputable def onO (o : Option (Option V)) (k : V → Prop) : Prop := match o with
  | some (some v) => k v
  | _ => False
noncomputable def onT (b : Bool) (q : Prop) : Prop := match b with
  | true => q
  | false => False
noncomputable def onL (vs : List V) (k : V → List V → Prop) : Prop := match vs with
  | v :: r => k v r
  | [] => False
noncomputable def onN (vs : List V) (q : Prop) : Prop := match vs with
  | [] => q
  | _ :: _ => False
theorem onI.ex {x : V} {k : Int → Prop} (h : onI x k) : ∃ i, x = .int i ∧ k i := by
  cases x with
  | int i => exact ⟨i, rfl, h⟩
  | _ => exact h.elim
theorem onB.ex {x : V} {k : Bool → Prop} (h : onB x k) : ∃ i, x = .bl i ∧ k i := by
  cases x with
  | bl i => exact ⟨i, rfl, h⟩
  | _ => exact h.elim
theorem onO.ex {o : Option (Option V)} {k : V → Prop} (h : onO o k) : ∃ v, o = some (some v) ∧ k v := by
  cases o with
  | none => exact h.elim
  | some o => cases o with
    | none => exact h.elim
    | some v => exact ⟨v, rfl, h⟩
theorem onT.ex {b : Bool} {q : Prop} (h : onT b q) : b = true ∧ q := by
  cases b with
  | true => exact ⟨rfl, h⟩
  | false => exact h.elim
theorem onL.ex {vs : List V} {k : V → List V → Prop} (h : onL vs k) : ∃ v r, vs = v :: r ∧ k v r := by
  cases vs with
  | nil => exact h.elim
  | cons v r => exact ⟨v, r, rfl, h⟩
theorem onN.ex {vs : List V} {q : Prop} (h : onN vs q) : vs = [] ∧ q := by
  cases vs with
  | nil => exact ⟨rfl, h⟩
  | cons v r => exact h.elim
inductive EP (X : Cx) (pins : List (Addr × Obj)) (σ : St) (Q : VK) (u : Value) (s' : Shared)  : Prop
  | mk : ∀ v H', (Inv X pins σ H' s') → (RelV v u) → (Q v H') → EP X pins σ Q u s'
inductive TP (X : Cx) (pins : List (Addr × Obj)) (σ : St) (Q : Bool → Hp → Prop) (b : Bool) (s' : Shared)  : Prop
  | mk : ∀ H', (Inv X pins σ H' s') → (Q b H') → TP X pins σ Q b s'
inductive AP (X : Cx) (pins : List (Addr × Obj)) (σ : St) (Q : List V → Hp → Prop) (us : List Value) (s' : Shared)  : Prop
  | mk : ∀ vs H', (Inv X pins σ H' s') → (Vals vs us) → (Q vs H') → AP X pins σ Q us s'
inductive SN (X : Cx) (pins : List (Addr × Obj)) (N : St → Hp → Prop) (s' : Shared) : Prop
  | mk : ∀ σ' H', Inv X pins σ' H' s' → N σ' H' → SN X pins N s'
inductive SR (X : Cx) (pins : List (Addr × Obj)) (R : VK) (u : Value) (s' : Shared) : Prop
  | mk : ∀ v σ' H', Inv X pins σ' H' s' → RelV v u → R v H' → SR X pins R u s'
noncomputable def SP (X : Cx) (pins : List (Addr × Obj)) (D : Ends) (f : Flow) (s' : Shared) : Prop :=
  match f with
  | .next => SN X pins D.nx s'
  | .brk => SN X pins D.bk s'
  | .cont => SN X pins D.ct s'
  | .ret u => SR X pins D.rt u s'
noncomputable def PE (X : Cx) (e : Expr) (t : TE) : Prop :=
  ∀ (pins : List (Addr × Obj)) (s : Shared) (σ : St) (H : Hp) (Q : VK), Inv X pins σ H s → t σ H Q → wpAny (model X.prog X.w) X.A (eval e X.env) (EP X pins σ Q) X.xe s
noncomputable def PT (X : Cx) (e : Expr) (t : TT) : Prop :=
  ∀ (pins : List (Addr × Obj)) (s : Shared) (σ : St) (H : Hp) (Q : Bool → Hp → Prop), Inv X pins σ H s → t σ H Q → wpAny (model X.prog X.w) X.A (isTrue e X.env (eval e X.env)) (TP X pins σ Q) X.xe s
noncomputable def PW (X : Cx) (e : Expr) (t : TT) : Prop :=
  ∀ (whole : Sem Value) (pins : List (Addr × Obj)) (s : Shared) (σ : St) (H : Hp) (Q : Bool → Hp → Prop), Inv X pins σ H s → t σ H Q → wpAny (model X.prog X.w) X.A (isTrue e X.env whole) (TP X pins σ Q) X.xe s
theorem PW.pt {X : Cx} {e : Expr} {t : TT} (h : PW X e t) : PT X e t := h _
noncomputable def PA (X : Cx) (es : List Expr) (t : TA) : Prop :=
  ∀ (pos : Pos) (pins : List (Addr × Obj)) (s : Shared) (σ : St) (H : Hp) (Q : List V → Hp → Prop), Inv X pins σ H s → t σ H Q → wpAny (model X.prog X.w) X.A (spliced (backTo pos (starEach es X.env))) (AP X pins σ Q) X.xe s
noncomputable def PS (X : Cx) (st : Stmt) (t : TS) : Prop :=
  ∀ (pins : List (Addr × Obj)) (s : Shared) (σ : St) (H : Hp) (D : Ends), Inv X pins σ H s → t D σ H → wpAny (model X.prog X.w) X.A (exec st X.env) (SP X pins D) X.xe s
noncomputable def PSs (X : Cx) (st : List Stmt) (t : TS) : Prop :=
  ∀ (pins : List (Addr × Obj)) (s : Shared) (σ : St) (H : Hp) (D : Ends), Inv X pins σ H s → t D σ H → wpAny (model X.prog X.w) X.A (execs st X.env) (SP X pins D) X.xe s
theorem thn {α : Type} {t : Sem α} {Q Q' : α → Shared → Prop} {M : Model} {A : Around} {E : Value → Shared → Prop} {s : Shared} (h : wpAny M A t Q E s) (hQ : ∀ a s, Q a s → Q' a s) : wpAny M A t Q' E s := wpAny_mono h hQ fun _ _ x => x
end L2

namespace L2
open PySem PySem.Spec PyProof.Rows
section
variable {X : Cx}
noncomputable def tVar (i : Nat) : TE := fun σ H Q => onO σ[i]? fun v => Q v H
theorem tVar.ex {i : Nat} {σ : St} {H : Hp} {Q : VK} (h : tVar i σ H Q) : ∃ v, σ[i]? = some (some v) ∧ Q v H := onO.ex h
noncomputable def tC (v : V) : TE := fun _ H Q => Q v H
theorem pe_var {i : Nat} {x : Str} {pos : Pos} (hN : X.N[i]? = some x) (hv : Vis X.env.scope x) (hd : (x == ("__debug__" : Str)) = false := by decide) (hcd : (x == ("__classdict__" : Str)) = false := by decide) : PE X (.Name x pos) (tVar i) := by
  intro pins s σ H Q I h
  refine L2.ob_ea (tVar.ex h) fun v e h => ?_
  refine L2.ob_ea I.loc fun m hn hl => ?_
  refine L2.ob_ea (hl i x v hN e hv) fun u r l => ?_
  have fin : EP X pins σ Q u s := ⟨v, H, I, r, h⟩
  rcases l with ⟨hk, hm⟩ | ⟨hk, c, hc, hcell⟩
  · exact wpAny_Name (wpAny_loadName_local I.ok.kind hk hn hm fin) hd
  · rcases hk with hk | hk
    · exact wpAny_Name (wpAny_loadName_cell I.ok.kind hk hc hcell fin) hd
    · exact wpAny_Name (wpAny_loadName_free I.ok.kind hk hc hcell fin hcd) hd
theorem pe_int {i j pos} : PE X (.Constant (.int i) j pos) (tC (.int i)) := fun _ _ _ H _ I h => wpAny_Constant_int ⟨.int i, H, I.tok _, ⟨_, rfl⟩, h⟩
theorem pe_bl {b j pos} : PE X (.Constant (.bool b) j pos) (tC (.bl b)) := fun _ _ _ H _ I h => Constant_bool ⟨.bl b, H, I, rfl, h⟩
theorem pe_non {j pos} : PE X (.Constant .none j pos) (tC .non) := fun _ _ _ H _ I h => Constant_none ⟨.non, H, I, rfl, h⟩
theorem pe_str {x j pos} : PE X (.Constant (.str x) j pos) (tC (.str x)) := fun _ _ _ H _ I h => Calls.Constant_str ⟨.str x, H, I.tok _, ⟨_, rfl⟩, h⟩
noncomputable def Gl (X : Cx) (x : Str) : Prop := X.env.kindOf x = some .globalImplicit
theorem ld_glob {E : Value → Shared → Prop} {pins : List (Addr × Obj)} {s : Shared} {σ : St} {H : Hp} {x : Str} {u : Value} {pos : Pos} {Q : Value → Shared → Prop} (I : Inv X pins σ H s) (hg : Gl X x) (hm : X.mg x = some u) (h : Q u s)
    (hd : (x == ("__debug__" : Str)) = false := by decide) : wpAny (model X.prog X.w) X.A (eval (.Name x pos) X.env) Q E s :=
  Calls.Name_function_global I.ok.kind hg (Calls.loadGlobal_global (by rw [I.ok.glob]; exact I.mod.glob.keeps I.bk) hm h) hd
theorem ld_blt {E : Value → Shared → Prop} {pins : List (Addr × Obj)} {s : Shared} {σ : St} {H : Hp} {x : Str} {u : Value} {pos : Pos} {Q : Value → Shared → Prop} (I : Inv X pins σ H s) (hg : Gl X x) (hm : X.mg x = none) (hv : bootBuiltins x = some u) (h : Q u s)
    (hn : x ≠ "__name__" := by decide) (hd : (x == ("__debug__" : Str)) = false := by decide) : wpAny (model X.prog X.w) X.A (eval (.Name x pos) X.env) Q E s := by
  obtain ⟨mb, h1, h2⟩ := I.mod.blt
  exact Calls.Name_function_global I.ok.kind hg (Calls.loadGlobal_builtin (by rw [I.ok.glob]; exact I.mod.glob.keeps I.bk) hm (by rw [I.ok.blt]; exact h1.keeps I.bk) ((h2 x hn).trans hv) h) hd
theorem pe_glob {x : Str} {v : V} {u : Value} {pos : Pos} (hg : Gl X x) (hm : X.mg x = some u) (r : RelV v u) (hd : (x == ("__debug__" : Str)) = false := by decide) : PE X (.Name x pos) (tC v) :=
  fun _ _ _ H _ I h => ld_glob I hg hm ⟨v, H, I, r, h⟩ hd
theorem pe_bltn {x : Str} {v : V} {u : Value} {pos : Pos} (hg : Gl X x) (hm : X.mg x = none) (hv : bootBuiltins x = some u) (r : RelV v u) (hn : x ≠ "__name__" := by decide) (hd : (x == ("__debug__" : Str)) = false := by decide) : PE X (.Name x pos) (tC v) :=
  fun _ _ _ H _ I h => ld_blt I hg hm hv ⟨v, H, I, r, h⟩ hn hd
variable {a b : Expr} {ta tb : TE} {pos : Pos}
variable {tA tB' : TT} {rest : List Expr}
noncomputable def tAnd (t u : TT) : TT := fun σ H Q => t σ H fun c H1 => if c = true then u σ H1 Q else Q false H1
noncomputable def tOr (t u : TT) : TT := fun σ H Q => t σ H fun c H1 => if c = true then Q true H1 else u σ H1 Q
noncomputable def tNot (t : TT) : TT := fun σ H Q => t σ H fun c H1 => Q (!c) H1
theorem pw_and1 (ha : PT X a tA) : PW X (.BoolOp .And [a] pos) tA := by
  intro wh pins s σ H Q I h
  refine isTrue_and (thn (ha pins s σ H Q I h) fun c s1 e => ?_)
  cases c with
  | true => exact isTrue_and_nil e
  | false => exact e
theorem pw_or1 (ha : PT X a tA) : PW X (.BoolOp .Or [a] pos) tA := by
  intro wh pins s σ H Q I h
  refine isTrue_or (thn (ha pins s σ H Q I h) fun c s1 e => ?_)
  cases c with
  | false => exact isTrue_or_nil e
  | true => exact e
theorem pw_and (ha : PT X a tA) (hb : PW X (.BoolOp .And (b :: rest) pos) tB') : PW X (.BoolOp .And (a :: b :: rest) pos) (tAnd tA tB') := by
  intro wh pins s σ H Q I h
  refine isTrue_and (thn (ha pins s σ H _ I h) fun c s1 ⟨H1, I1, q1⟩ => ?_)
  cases c with
  | true => exact hb wh pins s1 σ H1 Q I1 q1
  | false => exact ⟨H1, I1, q1⟩
theorem pw_or (ha : PT X a tA) (hb : PW X (.BoolOp .Or (b :: rest) pos) tB') : PW X (.BoolOp .Or (a :: b :: rest) pos) (tOr tA tB') := by
  intro wh pins s σ H Q I h
  refine isTrue_or (thn (ha pins s σ H _ I h) fun c s1 ⟨H1, I1, q1⟩ => ?_)
  cases c with
  | true => exact ⟨H1, I1, q1⟩
  | false => exact hb wh pins s1 σ H1 Q I1 q1
theorem pt_not (ha : PT X a tA) : PT X (.UnaryOp .Not a pos) (tNot tA) := by
  intro pins s σ H Q I h
  exact isTrue_not (thn (ha pins s σ H (fun c H1 => Q (!c) H1) I h) fun _ _ ⟨H1, I1, q1⟩ => ⟨H1, I1, q1⟩)
noncomputable def tAndV_b (tb : TE) (σ : St) (Q : VK) (x : V) (H1 : Hp) : Prop := onB x fun c => if c = true then tb σ H1 Q else Q (.bl false) H1
theorem tAndV_b.ex {tb : TE} {σ : St} {Q : VK} {x : V} {H1 : Hp} (h : tAndV_b tb σ Q x H1) : ∃ c, x = .bl c ∧ if c = true then tb σ H1 Q else Q (.bl false) H1 := onB.ex h
noncomputable def tAndV (ta tb : TE) : TE := fun σ H Q => ta σ H (tAndV_b tb σ Q)
noncomputable def tNotV_b (Q : VK) (x : V) (H1 : Hp) : Prop := onB x fun c => Q (.bl (!c)) H1
theorem tNotV_b.ex {Q : VK} {x : V} {H1 : Hp} (h : tNotV_b Q x H1) : ∃ c, x = .bl c ∧ Q (.bl (!c)) H1 := onB.ex h
noncomputable def tNotV (ta : TE) : TE := fun σ H Q => ta σ H (tNotV_b Q)
theorem pe_one {op} {t : TE} (h : PE X a t) : PE X (.BoolOp op [a] pos) t := fun pins s σ H Q I hw => BoolOp_one (h pins s σ H Q I hw)
theorem pe_and (ha : PE X a ta) (hb : PE X (.BoolOp .And (b :: rest) pos) tb) : PE X (.BoolOp .And (a :: b :: rest) pos) (tAndV ta tb) := by
  intro pins s σ H Q I h
  refine BoolOp_and (thn (ha pins s σ H _ I h) fun v s1 ⟨x, H1, I1, r1, q1⟩ => ?_)
  refine L2.ob_ea (tAndV_b.ex q1) fun c e_1 q1 => ?_; subst e_1
  cases r1
  refine wpAny_truthy_bool ?_
  cases c with
  | true => exact hb pins s1 σ H1 Q I1 q1
  | false => exact ⟨.bl false, H1, I1, rfl, q1⟩
theorem pe_not (ha : PE X a ta) : PE X (.UnaryOp .Not a pos) (tNotV ta) := by
  intro pins s σ H Q I h
  refine UnaryOp_ (thn (ha pins s σ H _ I h) fun v s1 ⟨x, H1, I1, r1, q1⟩ => ?_)
  obtain ⟨c, rfl, q1⟩ := tNotV_b.ex q1
  cases r1
  exact not_of (wpAny_truthy_bool ⟨.bl (!c), H1, I1, rfl, q1⟩)
end
end L2

namespace L2
open PySem PySem.Spec PyProof.Rows
noncomputable def SqL (K : PySem.W.Frag) (H : Hp) (a : Addr) (xs : List V) : Prop :=
  Rd H a (.lst xs) ∨
    ∃ (o : Obj) (its : Array Value) (n : Nat), K.lookup a = some o ∧ o.cls = .type "list" ∧ o.dict = none ∧ o.data = .seq its n ∧ its.size ≤ sizeLine ∧ Vals xs its.toList
noncomputable def SqT (K : PySem.W.Frag) (H : Hp) (a : Addr) (xs : List V) : Prop :=
  Rd H a (.tup xs) ∨
    ∃ (o : Obj) (its : Array Value) (n : Nat), K.lookup a = some o ∧ o.cls = .type "tuple" ∧ o.data = .seq its n ∧ its.size ≤ sizeLine ∧ Vals xs its.toList
noncomputable def absV : Value → Option V
  | .none => some .non
  | .bool b => some (.bl b)
  | .int i _ => some (.int i)
  | .str x _ => some (.str x)
  | .bytes b _ => some (.byt b)
  | .float b _ => some (.flt b)
  | .ref a => some (.ref a)
  | .type n => some (.ty n)
  | _ => none
theorem RelV.abs {x : V} {u : Value} (r : RelV x u) : absV u = some x := by
  cases x with
  | non => cases r; rfl
  | bl _ => cases r; rfl
  | int _ => obtain ⟨t, rfl⟩ := r; rfl
  | str _ => obtain ⟨t, rfl⟩ := r; rfl
  | byt _ => obtain ⟨t, rfl⟩ := r; rfl
  | flt _ => obtain ⟨t, rfl⟩ := r; rfl
  | ref _ => cases r; rfl
  | ty _ => cases r; rfl
theorem RelV.inj {x y : V} {u : Value} (r : RelV x u) (q : RelV y u) : x = y := Option.some.inj (r.abs.symm.trans q.abs)
theorem Vals.inj {xs ys : List V} {us : List Value} (h : Vals xs us) (h' : Vals ys us) : xs = ys := by
  induction h generalizing ys with
  | nil => cases h'; rfl
  | cons r t ih => cases h' with
    | cons r' t' => rw [r.inj r', ih t']
section
variable {X : Cx} {pins : List (Addr × Obj)} {σ : St} {H : Hp} {s : Shared} {a : Addr} {xs ys : List V}
theorem SqL.of {K : PySem.W.Frag} (h : H a = some (.lst xs)) : SqL K H a xs := .inl (.inl h)
theorem SqT.of {K : PySem.W.Frag} (h : H a = some (.tup xs)) : SqT K H a xs := .inl (.inl h)
theorem Inv.list (I : Inv X pins σ H s) (h : SqL X.K H a xs) : ∃ its : List Value, Vals xs its ∧ PlainL s.heap a its.toArray ∧ xs.length ≤ sizeLine := by
  rcases h with h | ⟨o, its, n, hk, hc, hd, hs, hz, r⟩
  · obtain ⟨z, its, n, r, e⟩ := h.ok I.hok
    exact ⟨its, r, ⟨_, n, e, rfl, rfl, rfl⟩, z⟩
  · refine ⟨its.toList, r, ⟨o, n, I.kIn a o hk, hc, hd, by simpa using hs⟩, ?_⟩
    have e := r.length
    simp only [Array.length_toList] at e
    lia
theorem Inv.tuple (I : Inv X pins σ H s) (h : SqT X.K H a xs) : ∃ its : List Value, Vals xs its ∧ IsTup s.heap a its.toArray ∧ xs.length ≤ sizeLine := by
  rcases h with h | ⟨o, its, n, hk, hc, hs, hz, r⟩
  · obtain ⟨z, its, r, p⟩ := h.ok I.hok
    exact ⟨its, r, p, z⟩
  · refine ⟨its.toList, r, ⟨o, I.kIn a o hk, hc, n, by simpa using hs⟩, ?_⟩
    have e := r.length
    simp only [Array.length_toList] at e
    lia
theorem Inv.list_inj (I : Inv X pins σ H s) (h : SqL X.K H a xs) (h' : SqL X.K H a ys) : xs = ys := by
  obtain ⟨its, r, ⟨o, n, e, _, _, d⟩, _⟩ := I.list h
  obtain ⟨its', r', ⟨o', n', e', _, _, d'⟩, _⟩ := I.list h'
  rw [e] at e'; cases e'
  rw [d] at d'
  injection d' with d1 _
  have : its = its' := by simpa using congrArg Array.toList d1
  subst this
  exact r.inj r'
end

section
variable {X : Cx} {pins : List (Addr × Obj)} {σ : St} {H : Hp} {s : Shared} {E : Value → Shared → Prop}
end

section
variable {X : Cx} {st : Stmt} {rest : List Stmt} {t u : TS} {e : Expr} {te : TE} {pos : Pos}
noncomputable def tNext : TS := fun D σ H => D.nx σ H
noncomputable def tSeq (t u : TS) : TS := fun D σ H => t (D.nxt (u D)) σ H
theorem pss_nil : PSs X [] tNext := fun _ _ σ H _ I h => wpAny_execs_nil ⟨σ, H, I, h⟩
theorem pss_cons (h1 : PS X st t) (h2 : PSs X rest u) : PSs X (st :: rest) (tSeq t u) := by
  intro pins s σ H D I h
  refine wpAny_execs_cons (thn (h1 pins s σ H (D.nxt (u D)) I h) fun f s1 q => ?_)
  cases f with
  | next =>
    obtain ⟨σ', H', I', q⟩ := q
    exact h2 pins s1 σ' H' D I' q
  | ret v => exact q
  | brk => exact q
  | cont => exact q
theorem pss_one (h1 : PS X st t) : PSs X [st] t := by
  intro pins s σ H D I h
  refine wpAny_execs_cons (thn (h1 pins s σ H D I h) fun f s1 q => ?_)
  cases f with
  | next => exact wpAny_execs_nil q
  | ret v => exact q
  | brk => exact q
  | cont => exact q
theorem Inv.quiet {pins : List (Addr × Obj)} {σ : St} {H : Hp} {s : Shared} (I : Inv X pins σ H s) : interactive X.env = false := by simp [interactive, I.ok.kind]
noncomputable def tDrop (te : TE) : TS := fun D σ H => te σ H fun _ H1 => D.nx σ H1
theorem ps_expr (he : PE X e te) (hs : swapsWith e none pos.line X.env = pure false := by rfl) : PS X (.Expr e pos) (tDrop te) := by
  intro pins s σ H D I h
  exact wpAny_Expr_any (thn (he pins s σ H _ I h) fun v s1 ⟨x, H1, I1, r1, q1⟩ => ⟨σ, H1, I1, q1⟩) I.quiet hs
noncomputable def tRet (te : TE) : TS := fun D σ H => te σ H D.rt
theorem ps_ret (he : PE X e te) : PS X (.Return (some e) pos) (tRet te) := by
  intro pins s σ H D I h
  exact wpAny_Return_some (thn (he pins s σ H _ I h) fun v s1 ⟨x, H1, I1, r1, q1⟩ => ⟨x, σ, H1, I1, r1, q1⟩)
noncomputable def tIfS (c : TT) (t u : TS) : TS := fun D σ H => c σ H fun b H1 => if b = true then t D σ H1 else u D σ H1
theorem ps_if {c : Expr} {a b : List Stmt} {tc : TT} (hc : PT X c tc) (ha : PSs X a t) (hb : PSs X b u) : PS X (.If c a b pos) (tIfS tc t u) := by
  intro pins s σ H D I h
  refine wpAny_If (thn (hc pins s σ H _ I h) fun d s1 ⟨H1, I1, q1⟩ => ?_)
  cases d with
  | true => exact ha pins s1 σ H1 D I1 q1
  | false => exact hb pins s1 σ H1 D I1 q1
end

noncomputable abbrev TG := V → St → Hp → (St → Hp → Prop) → Prop
noncomputable abbrev TGs := List V → St → Hp → (St → Hp → Prop) → Prop
noncomputable def PG (X : Cx) (target : Expr) (t : TG) : Prop :=
  ∀ (pins : List (Addr × Obj)) (s : Shared) (σ : St) (H : Hp) (v : V) (u : Value) (Q : St → Hp → Prop), Inv X pins σ H s → RelV v u → t v σ H Q →
    wpAny (model X.prog X.w) X.A (assign target X.env u) (fun _ s' => SN X pins (Q) s') X.xe s
noncomputable def PGs (X : Cx) (ts : List Expr) (t : TGs) : Prop :=
  ∀ (pins : List (Addr × Obj)) (s : Shared) (σ : St) (H : Hp) (vs : List V) (us : List Value) (Q : St → Hp → Prop), Inv X pins σ H s → Vals vs us → t vs σ H Q →
    wpAny (model X.prog X.w) X.A (assignInOrder ((assignEach ts X.env).map (·.2)) us) (fun _ s' => SN X pins (Q) s') X.xe s
section
variable {X : Cx} {pos : Pos}
noncomputable def gName (i : Nat) : TG := fun v σ H Q => Q (σ.set i (some v)) H
theorem pg_name {i : Nat} {x : Str} (hN : X.N.Nodup) (hi : X.N[i]? = some x) (hx : Loc X.env.scope x) (hf : X.fn x = true ∨ X.env.scope.names.lookup x = some .local := by first | exact .inl rfl | exact .inr rfl | assumption) : PG X (.Name x pos) (gName i) := by
  intro pins s σ H v u Q I r h
  exact wpAny_assign_Name (store_ok I hN hi hx r (fun s' I' => ⟨_, H, I', h⟩) hf)
noncomputable def gNil : TGs := fun vs σ H Q => onN vs (Q σ H)
theorem gNil.ex {vs : List V} {σ : St} {H : Hp} {Q : St → Hp → Prop} (h : gNil vs σ H Q) : vs = [] ∧ Q σ H := onN.ex h
noncomputable def gCons (t : TG) (u : TGs) : TGs := fun vs σ H Q => onL vs fun v r => t v σ H fun σ' H' => u r σ' H' Q
theorem gCons.ex {t : TG} {u : TGs} {vs : List V} {σ : St} {H : Hp} {Q : St → Hp → Prop} (h : gCons t u vs σ H Q) : ∃ v r, vs = v :: r ∧ t v σ H fun σ' H' => u r σ' H' Q := onL.ex h
theorem pgs_nil : PGs X [] gNil := by
  intro pins s σ H vs us Q I r h
  obtain ⟨e, h⟩ := gNil.ex h
  subst e
  cases r
  exact assignInOrder_nil ⟨σ, H, I, h⟩
theorem pgs_cons {e : Expr} {es : List Expr} {t : TG} {u : TGs} (h1 : PG X e t) (h2 : PGs X es u)
    (hs : (assignEach (e :: es) X.env).map (·.2) = assign e X.env :: (assignEach es X.env).map (·.2) := by rfl) : PGs X (e :: es) (gCons t u) := by
  intro pins s σ H vs us Q I r h
  refine L2.ob_eea (gCons.ex h) fun v vr e1 h => ?_
  subst e1
  cases r with
  | cons r rr =>
    rw [hs]
    refine assignInOrder_cons (thn (h1 pins s σ H _ _ _ I r h) fun _ s1 ⟨σ1, H1, I1, q1⟩ => ?_)
    exact h2 pins s1 σ1 H1 _ _ Q I1 rr q1
inductive gTup (K : PySem.W.Frag) (n : Nat) (t : TGs) (v : V) (σ : St) (H : Hp) (Q : St → Hp → Prop) : Prop
  | mk : ∀ a xs, (v = .ref a) → (SqT K H a xs) → (xs.length = n) → (t xs σ H Q) → gTup K n t v σ H Q
theorem pg_tup {es : List Expr} {k : Nat} {t : TGs} {n : Nat} (hc : X.calm = true) (h : PGs X es t)
    (hn : (assignEach es X.env).length = n := by rfl) (hst : (assignEach es X.env).findIdx? (·.1) = none := by rfl) : PG X (.Tuple es k pos) (gTup X.K n t) := by
  intro pins s σ H v u Q I r hw
  obtain ⟨a, xs, e1, hq, hl, hw⟩ := hw
  subst e1
  cases r
  refine L2.ob_eaa (I.tuple hq) fun its rv ht hz => ?_
  refine assign_Tuple_tuple (I.ok.hd hc) ht (by simp [hn, ← hl, rv.length]) hst fun h' hx => ?_
  have I1 : Inv X pins σ H { s with heap := h' } := I.kept (t' := s.toks) fun b o e => hx b o (Nat.ne_of_lt (Heap.lt_size e)) e
  exact h pins _ σ H xs _ Q I1 (by simpa using rv) hw
noncomputable def tAsg (te : TE) (g : TG) : TS := fun D σ H => te σ H fun x H1 => g x σ H1 D.nx
theorem ps_set {i : Nat} {x : Str} {e : Expr} {te : TE} {pos' : Pos} (hN : X.N.Nodup) (hi : X.N[i]? = some x) (hx : Loc X.env.scope x) (he : PE X e te) (hs : swapsWith e (some (.Name x pos')) pos.line X.env = pure false := by rfl) (hf : X.fn x = true ∨ X.env.scope.names.lookup x = some .local := by first | exact .inl rfl | exact .inr rfl | assumption) :
    PS X (.Assign [.Name x pos'] e pos) (tAsg te (gName i)) := by
  intro pins s σ H D I h
  refine wpAny_Assign_Name (thn (he pins s σ H _ I h) fun v s1 ⟨y, H1, I1, r1, q1⟩ => ?_) hs
  exact store_ok I1 hN hi hx r1 (fun s2 I2 => ⟨_, H1, I2, q1⟩) hf
end

section
variable {X : Cx} {pos : Pos}
end

structure It where
  go : Nat → Hp → Prop
  yld : Nat → Hp → V → Hp → Prop
  stop : Nat → Hp → Prop
noncomputable def FpOk (X : Cx) (pins : List (Addr × Obj)) (H : Hp) (b : Addr) : Prop :=
  H b = none ∧ b ≠ X.env.locals ∧ b ∉ X.fs ∧ (b ∈ X.ex ∨ X.s₀.heap.objs.size ≤ b) ∧ (∀ x c, X.env.cells.lookup x = some c → c ≠ b) ∧ ∀ p ∈ X.pn ++ pins, p.1 ≠ b
theorem Inv.fpOk {X : Cx} {pins : List (Addr × Obj)} {σ : St} {H H' : Hp} {s : Shared} {b : Addr} (I : Inv X pins σ H s) (hb : s.heap.objs.size ≤ b) (hn : H' b = none) : FpOk X pins H' b := by
  refine ⟨hn, Nat.ne_of_gt (Nat.lt_of_lt_of_le I.lt hb), I.nofs hb, .inr (Nat.le_trans I.sz hb), fun x c e z => ?_, fun p hp z => ?_⟩
  · obtain ⟨v, q⟩ := I.cell x c e
    exact absurd (Nat.lt_of_lt_of_le q.lt (by rw [z]; exact hb)) (Nat.lt_irrefl _)
  · exact absurd (Nat.lt_of_lt_of_le (Heap.lt_size (I.pin p hp).1) (by rw [z]; exact hb)) (Nat.lt_irrefl _)
inductive TIt (X : Cx) (pins : List (Addr × Obj)) (σ : St) (u : Value) (J : It) (i : Nat) (H : Hp) (fp : List Addr) (tn : Nat → Heap → Prop) (s2 : Shared) : Prop
  | mk : ∀ x H', Inv X pins σ H' s2 → RelV x u → J.yld i H x H' → tn (i + 1) s2.heap → (∀ b ∈ fp, H' b = none) → TIt X pins σ u J i H fp tn s2
structure Turn (P : Program) (w : World) (K : PySem.W.Frag) (tg : Expr) (J : It) (fp : List Addr) (it : Addr) (tn : Nat → Heap → Prop) : Prop where
  mem : it ∈ fp
  obj : ∀ i h, tn i h → ∀ b ∈ fp, ∃ o, h.get? b = some o ∧ ∀ v, o.data ≠ .cell v
  keep : ∀ i h h', tn i h → (∀ b ∈ fp, ∀ o, h.get? b = some o → h'.get? b = some o) → tn i h'
  item : ∀ (X : Cx), X.prog = P → X.w = w → X.K = K → X.calm = true → ∀ (i : Nat) (pins : List (Addr × Obj)) (s : Shared) (σ : St) (H : Hp) (E : Value → Shared → Prop), Inv X pins σ H s → (∀ b ∈ fp, FpOk X pins H b) → tn i s.heap → J.go i H →
    wpAny (model P w) X.A (pyNext (.ref it)) (fun r s1 => ∃ u, r = some u ∧
      wpAny (model P w) X.A (letOwnedTupleGo tg (.ref it) u) (fun _ s2 => TIt X pins σ u J i H fp tn s2) E s1) E s
  done : ∀ (X : Cx), X.prog = P → X.w = w → X.K = K → X.calm = true → ∀ (i : Nat) (pins : List (Addr × Obj)) (s : Shared) (σ : St) (H : Hp) (E : Value → Shared → Prop), Inv X pins σ H s → (∀ b ∈ fp, FpOk X pins H b) → tn i s.heap → J.stop i H →
    wpAny (model P w) X.A (pyNext (.ref it)) (fun r s1 => r = none ∧ Inv X pins σ H s1) E s
  self : ∀ (A : Around) (i : Nat) (s : Shared) (Q : Value → Shared → Prop) (E : Value → Shared → Prop), tn i s.heap → Q (.ref it) s → wpAny (model P w) A (pyIter (.ref it)) Q E s
noncomputable abbrev TI := St → Hp → (It → Hp → Prop) → Prop
inductive PIE (X : Cx) (pins : List (Addr × Obj)) (σ : St) (tg : Expr) (R : It → Hp → Prop) (itv : Value) (s2 : Shared)  : Prop
  | mk : ∀ (it : Addr) (fp : List Addr) (tn : Nat → Heap → Prop) (J : It) (H' : Hp), (itv = .ref it) → (Inv X pins σ H' s2) → (Turn X.prog X.w X.K tg J fp it tn) → (tn 0 s2.heap) → ((∀ b ∈ fp, FpOk X pins H' b)) → (R J H') → PIE X pins σ tg R itv s2
noncomputable def PI (X : Cx) (tg iter : Expr) (wi : TI) : Prop :=
  ∀ (pins : List (Addr × Obj)) (s : Shared) (σ : St) (H : Hp) (R : It → Hp → Prop), Inv X pins σ H s → wi σ H R →
    wpAny (model X.prog X.w) X.A (eval iter X.env) (fun v s1 => wpAny (model X.prog X.w) X.A (pyIter v) (PIE X pins σ tg R) X.xe s1) X.xe s
theorem go_of {M : Model} {A : Around} {E : Value → Shared → Prop} {s : Shared} {tg : Expr} {it : Addr} {u : Value} {o : Obj} {n : String} {vs : Array Value} {Q : Unit → Shared → Prop} (ho : s.heap.get? it = some o) (hc : o.cls = .type n) (hd : o.data = .fields vs)
    (hn : ["enumerate", "zip", "dict_itemiterator", "dict_reverseitemiterator", "odict_iterator", "itertools.zip_longest", "itertools.pairwise"].contains n = false) (hQ : Q () s) : wpAny M A (letOwnedTupleGo tg (.ref it) u) Q E s := by
  unfold letOwnedTupleGo
  cases tg <;> first
    | exact wpAny_pure hQ
    | (cases u <;> first
        | exact wpAny_pure hQ
        | (refine wpAny_bind (wpAny_load ho ?_)
           rw [hc, hd]
           show wpAny M A (if (["enumerate", "zip", "dict_itemiterator", "dict_reverseitemiterator", "odict_iterator", "itertools.zip_longest", "itertools.pairwise"].contains n && vs[0]? == some (rawInt _)) = true then _ else _) Q E s
           rw [if_neg (by intro h; rw [hn, Bool.false_and] at h; cases h)]
           exact wpAny_pure hQ))
noncomputable def Itl (K : PySem.W.Frag) (a : Addr) : It :=
  ⟨fun i H => ∃ xs x, SqL K H a xs ∧ xs[i]? = some x, fun i H x H' => H' = H ∧ ∀ xs, SqL K H a xs → xs[i]? = some x, fun i H => ∃ xs, SqL K H a xs ∧ xs.length ≤ i⟩
noncomputable def Itr (lo : Int) (n : Nat) : It := ⟨fun i _ => i < n, fun i H x H' => H' = H ∧ x = .int (lo + i), fun i _ => n ≤ i⟩
theorem turn_list {P : Program} {w : World} {K : PySem.W.Frag} {tg : Expr} (a it : Addr) : Turn P w K tg (Itl K a) [it] it (fun i h => h.IsListIter it a i) where
  mem := by simp
  obj := fun i h st b hb => by
    have e : b = it := by simpa using hb
    subst e
    obtain ⟨o, e, c, d⟩ := st
    exact ⟨o, e, fun v z => by rw [d] at z; cases z⟩
  keep := fun i h h' st k => st.at fun o e => k it (by simp) o e
  item := by
    intro X hP hw hK hc i pins s σ H E I hf st hg
    subst hP hw hK
    obtain ⟨xs, x, hq, hx⟩ := hg
    refine L2.ob_eaa (I.list hq) fun its rv p hz => ?_
    refine L2.ob_ea (rv.get hx) fun u hu ru => ?_
    obtain ⟨f0, f1, f2, f3, f4, f5⟩ := hf it (by simp)
    refine wpAny_pyNext_list_item st p.isList (x := u) (by simpa using hu) fun h' st' sb => ?_
    have I1 : Inv X pins σ H { s with heap := h' } := I.turned (t' := s.toks) (fun b o hb e => (sb.2 b hb).trans e) f0 f1 f3 f4 f5
    obtain ⟨o, e, c, d⟩ := id st'
    exact ⟨u, rfl, go_of (s := { s with heap := h' }) e c d (by decide) ⟨x, H, I1, ru, ⟨rfl, fun ys hy => by rw [I.list_inj hy hq]; exact hx⟩, st', fun b hb => (hf b hb).1⟩⟩
  done := by
    intro X hP hw hK hc i pins s σ H E I hf st hg
    subst hP hw hK
    obtain ⟨xs, hq, hx⟩ := hg
    refine L2.ob_eaa (I.list hq) fun its rv p hz => ?_
    obtain ⟨f0, f1, f2, f3, f4, f5⟩ := hf it (by simp)
    have hl := rv.length
    exact wpAny_pyNext_list_end (I.ok.hd hc) st p.isList (by simp; lia) fun h' eb => ⟨rfl, I.turned (t' := s.toks) (fun b o hb e => eb b o hb e) f0 f1 f3 f4 f5⟩
  self := fun _ _ _ _ _ st h => wpAny_pyIter_listiter st h
theorem turn_range {P : Program} {w : World} {K : PySem.W.Frag} {tg : Expr} (it : Addr) (lo : Int) (n : Nat) : Turn P w K tg (Itr lo n) [it] it (fun i h => IsRangeIter h it (lo + (i : Nat) * 1) ((n : Int) - (i : Nat)) 1) where
  mem := by simp
  obj := fun i h st b hb => by
    have e : b = it := by simpa using hb
    subst e
    exact ⟨_, st, fun v z => by
      have z' : Data.fields _ = Data.cell v := z
      cases z'⟩
  keep := fun i h h' st k => k it (by simp) _ st
  item := by
    intro X hP hw hK hc i pins s σ H E I hf st hg
    subst hP hw hK
    obtain ⟨f0, f1, f2, f3, f4, f5⟩ := hf it (by simp)
    have W := Walks.range (prog := X.prog) (w := X.w) (I.ok.hd hc) it lo 1 n
    refine W.item i s _ _ hg st fun v h' tk hv st' kk => ?_
    obtain ⟨t, rfl⟩ := hv
    have I1 : Inv X pins σ H { s with heap := h', toks := tk } := I.turned (fun b o hb e => kk b o (by simpa using hb) e) f0 f1 f3 f4 f5
    refine ⟨_, rfl, go_of (s := { s with heap := h', toks := tk }) (n := "range_iterator") st' rfl rfl (by decide) ⟨.int (lo + i), H, I1, ⟨t, ?_⟩, ⟨rfl, rfl⟩, st', fun b hb => (hf b hb).1⟩⟩
    rw [Int.mul_one]
  done := by
    intro X hP hw hK hc i pins s σ H E I hf st hg
    subst hP hw hK
    obtain ⟨f0, f1, f2, f3, f4, f5⟩ := hf it (by simp)
    exact wpAny_pyNext_range_end (I.ok.hd hc) st (by have : n ≤ i := hg; lia) fun h' eb => ⟨rfl, I.turned (t' := s.toks) (fun b o hb e => eb b o hb e) f0 f1 f3 f4 f5⟩
  self := fun _ _ _ _ _ st h => wpAny_pyIter_rangeiter st h
end L2

namespace L2
open PySem PySem.Spec PyProof.Rows
section
variable {X : Cx} {tg : Expr}
inductive iList_b (K : PySem.W.Frag) (R : It → Hp → Prop) (x : V) (H1 : Hp) : Prop
  | mk : ∀ a, (x = .ref a) → ((∃ xs, SqL K H1 a xs)) → (R (Itl K a) H1) → iList_b K R x H1
noncomputable def iList (K : PySem.W.Frag) (tl : TE) : TI := fun σ H R => tl σ H fun x H1 => iList_b K R x H1
theorem pi_list {l : Expr} {tl : TE} (hl : PE X l tl) : PI X tg l (iList X.K tl) := by
  intro pins s σ H R I h
  refine thn (hl pins s σ H _ I h) fun v s1 ⟨x, H1, I1, r1, q1⟩ => ?_
  obtain ⟨a, e, ⟨xs, hq⟩, q⟩ := q1
  subst e
  cases r1
  obtain ⟨its, rv, p, hz⟩ := I1.list hq
  refine wpAny_pyIter_list p.isList ?_
  refine ⟨s1.heap.objs.size, [s1.heap.objs.size], _, _, H1, rfl, I1.kept (t' := s1.toks) fun b o e => Heap.get?_push_of_some _ e, turn_list a _, ⟨_, Heap.get?_push_size _ rfl, rfl, rfl⟩, fun b hb => ?_, q⟩
  have e : b = s1.heap.objs.size := by simpa using hb
  subst e
  exact I1.fpOk (Nat.le_refl _) (I1.hok.fresh (Nat.le_refl _))
theorem range_it {pins : List (Addr × Obj)} {σ : St} {H : Hp} {s : Shared} {R : It → Hp → Prop} {E : Value → Shared → Prop} {lo hi : Int} {t u v : Tok} {tk : Nat} (I : Inv X pins σ H s) (h1 : -(2 ^ 62) ≤ lo) (h2 : lo < 2 ^ 62) (h3 : -(2 ^ 62) ≤ hi) (h4 : hi < 2 ^ 62)
    (q : R (Itr lo (hi - lo).toNat) H) : wpAny (model X.prog X.w) X.A (pyIter (.ref s.heap.objs.size)) (PIE X pins σ tg R) E { s with heap := s.heap.push { cls := .type "range", data := .fields #[.int lo t, .int hi u, .int 1 v] }, toks := tk } := by
  refine wpAny_pyIter_range (IsRange.new ..) (small_one h1 h2 h3 h4) ?_
  have I1 : Inv X pins σ H { s with heap := s.heap.push { cls := .type "range", data := .fields #[.int lo t, .int hi u, .int 1 v] }, toks := tk } := I.kept fun b o e => Heap.get?_push_of_some _ e
  refine ⟨(s.heap.push { cls := .type "range", data := .fields #[.int lo t, .int hi u, .int 1 v] }).objs.size, [(s.heap.push { cls := .type "range", data := .fields #[.int lo t, .int hi u, .int 1 v] }).objs.size], _, _, H, rfl,
    I1.kept (t' := tk) fun b o e => Heap.get?_push_of_some _ e, turn_range _ lo (hi - lo).toNat, ?_, fun b hb => ?_, q⟩
  · have e1 : lo + ((0 : Nat) : Int) * 1 = lo := by simp
    have e2 : (((hi - lo).toNat : Nat) : Int) - ((0 : Nat) : Int) = Builtin.Range.rangeSize lo hi 1 := by rw [rangeSize_one]; split <;> lia
    show IsRangeIter _ _ (lo + ((0 : Nat) : Int) * 1) ((((hi - lo).toNat : Nat) : Int) - ((0 : Nat) : Int)) 1
    rw [e1, e2]
    exact Heap.get?_push_size _ rfl
  · have e : b = (s.heap.push { cls := .type "range", data := .fields #[.int lo t, .int hi u, .int 1 v] }).objs.size := by simpa using hb
    subst e
    exact I1.fpOk (Nat.le_refl _) (I1.hok.fresh (Nat.le_refl _))
inductive iRng1_b (R : It → Hp → Prop) (vs : List V) (H1 : Hp) : Prop
  | mk : ∀ j : Int, (vs = [.int j]) → (-(2 ^ 62) ≤ j) → (j < 2 ^ 62) → (R (Itr 0 j.toNat) H1) → iRng1_b R vs H1
noncomputable def iRng1 (ta : TA) : TI := fun σ H R => ta σ H fun vs H1 => iRng1_b R vs H1
theorem pi_range1 {a : Expr} {ta : TA} {p pos : Pos} (hg : Gl X "range") (hm : X.mg "range" = none) (ha : PA X [a] ta) (hs : starEach [a] X.env = [(false, eval a X.env)] := by rfl) : PI X tg (.Call (.Name "range" p) [a] [] pos) (iRng1 ta) := by
  intro pins s σ H R I h
  refine Call_ (ld_blt I hg hm boot_range (PyProof.Rows.callWith_type1 (thn (ha pos pins s σ H _ I h) fun us s1 ⟨vs, H1, I1, r1, q1⟩ => ?_) hs rfl))
  obtain ⟨j, e, q1, q2, q⟩ := q1
  subst e
  cases r1 with
  | cons r rr =>
    cases rr
    obtain ⟨t, rfl⟩ := r
    exact call_range_1 (range_it I1 (by exact Int.natCast_nonneg _) (by exact Int.natCast_nonneg _) q1 q2 (by simpa using q))
noncomputable def tFor (wi : TI) (g : TG) (tb : TS) : TS := fun D σ H => wi σ H fun J H1 => ∃ W : Nat → Nat → St → Hp → Prop, (∃ m, W 0 m σ H1) ∧ ∀ i m σ H, W i m σ H →
  (J.stop i H ∧ D.nx σ H) ∨ (J.go i H ∧ ∃ N : St → Hp → Prop, (∀ σ' H', N σ' H' → ∃ m', m' < m ∧ W (i + 1) m' σ' H') ∧ ∀ x H', J.yld i H x H' → g x σ H' fun σ2 H2 => tb (D.lp (N)) σ2 H2)
noncomputable def pinsAt (fp : List Addr) (h : Heap) : List (Addr × Obj) := fp.filterMap fun b => (h.get? b).map fun o => (b, o)
theorem mem_pinsAt {fp : List Addr} {h : Heap} {b : Addr} {o : Obj} (hb : b ∈ fp) (e : h.get? b = some o) : (b, o) ∈ pinsAt fp h := List.mem_filterMap.mpr ⟨b, hb, by rw [e]; rfl⟩
theorem of_pinsAt {fp : List Addr} {h : Heap} {p : Addr × Obj} (hp : p ∈ pinsAt fp h) : p.1 ∈ fp ∧ h.get? p.1 = some p.2 := by
  obtain ⟨b, hb, e⟩ := List.mem_filterMap.mp hp
  cases q : h.get? b with
  | none => rw [q] at e; cases e
  | some o =>
    rw [q] at e
    have e' : (b, o) = p := Option.some.inj e
    subst e'
    exact ⟨hb, q⟩
theorem Inv.pinned {pins : List (Addr × Obj)} {σ : St} {H : Hp} {s : Shared} {fp : List Addr} (I : Inv X pins σ H s) (hf : ∀ b ∈ fp, FpOk X pins H b) (ho : ∀ b ∈ fp, ∃ o, s.heap.get? b = some o ∧ ∀ v, o.data ≠ .cell v) : Inv X (pins ++ pinsAt fp s.heap) σ H s :=
  I.pins_of fun p hp => (List.mem_append.mp hp).elim (fun z => I.pin p (List.mem_append_right _ z)) fun z => by
    obtain ⟨hb, e⟩ := of_pinsAt z
    obtain ⟨f0, f1, f2, _⟩ := hf p.1 hb
    refine L2.ob_ea (ho p.1 hb) fun o e' d => ?_
    rw [e] at e'; obtain rfl := Option.some.inj e'
    exact ⟨e, f0, f1, f2, d⟩
theorem Inv.unpinned {pins pl : List (Addr × Obj)} {σ : St} {H : Hp} {s : Shared} (I : Inv X (pins ++ pl) σ H s) : Inv X pins σ H s := I.pins_of fun p hp => I.pin p (List.mem_append_right _ (List.mem_append_left _ hp))
inductive FL (X : Cx) (pins : List (Addr × Obj)) (fp : List Addr) (tn : Nat → Heap → Prop) (W : Nat → Nat → St → Hp → Prop) (n : Nat) (s' : Shared) : Prop
  | mk : ∀ i σ' H', Inv X pins σ' H' s' → tn i s'.heap → (∀ b ∈ fp, H' b = none) → W i n σ' H' → FL X pins fp tn W n s'
theorem ps_for {iter : Expr} {body : List Stmt} {wi : TI} {g : TG} {tb : TS} {pos : Pos} (hp : PassesOwn (model X.prog X.w) X.A X.env X.xe) (hc : X.calm = true) (hi : PI X tg iter wi) (hg : PG X tg g) (hb : PSs X body tb)
    (hs : ∀ x, foldedSetIterable iter X.env x = pure x := by intro _; rfl) : PS X (.For tg iter body [] pos) (tFor wi g tb) := by
  intro pins s σ H D I h
  refine wpAny_For (thn (hi pins s σ H _ I h) fun v s1 h1 => thn h1 fun itv s2 h2 => ?_) hs
  obtain ⟨it, fp, tn, J, H2, e, I2, T, st2, f2, W, ⟨m0, w0⟩, turn⟩ := h2
  subst e
  -- what stays true of the iterator's objects through the loop
  have stat : ∀ {H' : Hp}, (∀ b ∈ fp, H' b = none) → ∀ b ∈ fp, FpOk X pins H' b := fun hn b hb => ⟨hn b hb, (f2 b hb).2⟩
  refine codeAny_forLoop_any (FL X pins fp tn W) ?_ m0 ⟨0, σ, H2, I2, st2, fun b hb => (f2 b hb).1, w0⟩
  rintro n s3 ⟨i, σ3, H3, I3, st3, fr3, w3⟩
  rcases turn i n σ3 H3 w3 with ⟨stop, qn⟩ | ⟨go, N, hN, step⟩
  · refine wpAny_passesOwn hp (thn (T.done X rfl rfl rfl hc i pins s3 σ3 H3 X.xe I3 (stat fr3) st3 stop) fun r s4 ⟨hr, I4⟩ => ?_)
    subst hr
    exact wpAny_execs_nil ⟨σ3, H3, I4, qn⟩
  · refine wpAny_passesOwn hp (thn (T.item X rfl rfl rfl hc i pins s3 σ3 H3 X.xe I3 (stat fr3) st3 go) fun r s4 ⟨u, hr, h4⟩ => ?_)
    subst hr
    refine wpAny_passesOwn hp (thn h4 fun _ s5 ⟨x, H5, I5, r5, y5, st5, fr5⟩ => ?_)
    have I5' := I5.pinned (stat fr5) (T.obj _ _ st5)
    refine wpAny_passesOwn hp (thn (hg _ s5 σ3 H5 x u _ I5' r5 (step x H5 y5)) fun _ s6 ⟨σ6, H6, I6, q6⟩ => ?_)
    refine wpAny_passesOwn hp (thn (hb _ s6 σ6 H6 _ I6 q6) fun f s7 q7 => ?_)
    have again : ∀ {σ7 : St} {H7 : Hp}, Inv X (pins ++ pinsAt fp s5.heap) σ7 H7 s7 → N σ7 H7 → ∃ m, m < n ∧ FL X pins fp tn W m s7 := fun {σ7 H7} I7 n7 => by
      obtain ⟨m', hm, w7⟩ := hN σ7 H7 n7
      refine ⟨m', hm, i + 1, σ7, H7, I7.unpinned, T.keep _ _ _ st5 fun b hb o e => (I7.pin (b, o) (List.mem_append_right _ (List.mem_append_right _ (mem_pinsAt hb e)))).1, fun b hb => ?_, w7⟩
      obtain ⟨o, e, d⟩ := T.obj _ _ st5 b hb
      exact (I7.pin (b, o) (List.mem_append_right _ (List.mem_append_right _ (mem_pinsAt hb e)))).2.1
    cases f with
    | next => obtain ⟨σ7, H7, I7, n7⟩ := q7; exact again I7 n7
    | cont => obtain ⟨σ7, H7, I7, n7⟩ := q7; exact again I7 n7
    | brk => obtain ⟨σ7, H7, I7, q7⟩ := q7; exact ⟨σ7, H7, I7.unpinned, q7⟩
    | ret v => obtain ⟨x7, σ7, H7, I7, r7, q7⟩ := q7; exact ⟨x7, σ7, H7, I7.unpinned, r7, q7⟩
end

theorem for_list {K : PySem.W.Frag} {a : Addr} {xs : List V} {g : TG} {tb : TS} {D : Ends} {σ : St} {H : Hp} (Pv : Nat → St → Hp → Prop) (h0 : Pv 0 σ H) (hl : ∀ i σ H, i ≤ xs.length → Pv i σ H → SqL K H a xs)
    (hs : ∀ i x σ H, xs[i]? = some x → Pv i σ H → g x σ H fun σ2 H2 => tb (D.lp (Pv (i + 1))) σ2 H2) (hd : ∀ σ H, Pv xs.length σ H → D.nx σ H) :
    ∃ W : Nat → Nat → St → Hp → Prop, (∃ m, W 0 m σ H) ∧ ∀ i m σ H, W i m σ H →
      ((Itl K a).stop i H ∧ D.nx σ H) ∨ ((Itl K a).go i H ∧ ∃ N : St → Hp → Prop, (∀ σ' H', N σ' H' → ∃ m', m' < m ∧ W (i + 1) m' σ' H') ∧ ∀ x H', (Itl K a).yld i H x H' → g x σ H' fun σ2 H2 => tb (D.lp (N)) σ2 H2) := by
  refine ⟨fun i m σ H => m = xs.length - i ∧ i ≤ xs.length ∧ Pv i σ H, ⟨xs.length, by simp, Nat.zero_le _, h0⟩, ?_⟩
  rintro i m σ H ⟨rfl, hi, p⟩
  have q := hl i σ H hi p
  by_cases hlt : i < xs.length
  · refine .inr ⟨⟨xs, xs[i], q, by simp [hlt]⟩, Pv (i + 1), fun σ' H' p' => ⟨xs.length - (i + 1), by lia, rfl, hlt, p'⟩, fun x H' y => ?_⟩
    obtain ⟨e, y⟩ := y
    subst e
    exact hs i x σ _ (y xs q) p
  · have e : i = xs.length := by lia
    subst e
    exact .inl ⟨⟨xs, q, Nat.le_refl _⟩, hd σ H p⟩
theorem for_range {lo : Int} {n : Nat} {g : TG} {tb : TS} {D : Ends} {σ : St} {H : Hp} (Pv : Nat → St → Hp → Prop) (h0 : Pv 0 σ H)
    (hs : ∀ i σ H, i < n → Pv i σ H → g (.int (lo + i)) σ H fun σ2 H2 => tb (D.lp (Pv (i + 1))) σ2 H2) (hd : ∀ σ H, Pv n σ H → D.nx σ H) :
    ∃ W : Nat → Nat → St → Hp → Prop, (∃ m, W 0 m σ H) ∧ ∀ i m σ H, W i m σ H →
      ((Itr lo n).stop i H ∧ D.nx σ H) ∨ ((Itr lo n).go i H ∧ ∃ N : St → Hp → Prop, (∀ σ' H', N σ' H' → ∃ m', m' < m ∧ W (i + 1) m' σ' H') ∧ ∀ x H', (Itr lo n).yld i H x H' → g x σ H' fun σ2 H2 => tb (D.lp (N)) σ2 H2) := by
  refine ⟨fun i m σ H => m = n - i ∧ i ≤ n ∧ Pv i σ H, ⟨n, by simp, Nat.zero_le _, h0⟩, ?_⟩
  rintro i m σ H ⟨rfl, hi, p⟩
  by_cases hlt : i < n
  · refine .inr ⟨hlt, Pv (i + 1), fun σ' H' p' => ⟨n - (i + 1), by lia, rfl, hlt, p'⟩, fun x H' y => ?_⟩
    obtain ⟨e, y⟩ := y
    subst e y
    exact hs i σ _ hlt p
  · have e : i = n := by lia
    subst e
    exact .inl ⟨Nat.le_refl _, hd σ H p⟩
end L2

namespace L2
open PySem PySem.Spec PyProof.Rows
noncomputable abbrev R2 := V → V → Hp → VK → Prop
noncomputable def OpR (X : Cx) (f : Value → Value → Sem Value) (r : R2) : Prop :=
  ∀ (pins : List (Addr × Obj)) (s : Shared) (σ : St) (H : Hp) (x y : V) (v u : Value) (Q : VK), Inv X pins σ H s → RelV x v → RelV y u → r x y H Q →
    wpAny (model X.prog X.w) X.A (f v u) (EP X pins σ Q) X.xe s
noncomputable def UnR (X : Cx) (f : Value → Sem Value) (r : V → Hp → VK → Prop) : Prop :=
  ∀ (pins : List (Addr × Obj)) (s : Shared) (σ : St) (H : Hp) (x : V) (v : Value) (Q : VK), Inv X pins σ H s → RelV x v → r x H Q →
    wpAny (model X.prog X.w) X.A (f v) (EP X pins σ Q) X.xe s
noncomputable def CallR (X : Cx) (f : Value) (r : List V → Hp → VK → Prop) : Prop :=
  ∀ (pins : List (Addr × Obj)) (s : Shared) (σ : St) (H : Hp) (xs : List V) (us : List Value) (Q : VK), Inv X pins σ H s → Vals xs us → r xs H Q →
    wpAny (model X.prog X.w) X.A (call f us) (EP X pins σ Q) X.xe s
noncomputable def TruR (X : Cx) (r : V → Hp → (Bool → Hp → Prop) → Prop) : Prop :=
  ∀ (pins : List (Addr × Obj)) (s : Shared) (σ : St) (H : Hp) (x : V) (v : Value) (Q : Bool → Hp → Prop), Inv X pins σ H s → RelV x v → r x H Q →
    wpAny (model X.prog X.w) X.A (truthy v) (TP X pins σ Q) X.xe s
noncomputable def tOp (r : R2) (ta tb : TE) : TE := fun σ H Q => ta σ H fun x H1 => tb σ H1 fun y H2 => r x y H2 Q
noncomputable def tUn (r : V → Hp → VK → Prop) (ta : TE) : TE := fun σ H Q => ta σ H fun x H1 => r x H1 Q
noncomputable def rI (C : Int → Int → Prop) (g : Int → Int → V) : R2 := fun x y H Q => onI x fun i => onI y fun j => C i j ∧ Q (g i j) H
theorem rI.ex {C : Int → Int → Prop} {g : Int → Int → V} {x y : V} {H : Hp} {Q : VK} (h : rI C g x y H Q) : ∃ i j, x = .int i ∧ y = .int j ∧ C i j ∧ Q (g i j) H := by
  obtain ⟨i, e, h⟩ := onI.ex h
  obtain ⟨j, e', h⟩ := onI.ex h
  exact ⟨i, j, e, e', h⟩
noncomputable def rI0 (g : Int → Int → V) : R2 := fun x y H Q => onI x fun i => onI y fun j => Q (g i j) H
theorem rI0.ex {g : Int → Int → V} {x y : V} {H : Hp} {Q : VK} (h : rI0 g x y H Q) : ∃ i j, x = .int i ∧ y = .int j ∧ Q (g i j) H := by
  obtain ⟨i, e, h⟩ := onI.ex h
  obtain ⟨j, e', h⟩ := onI.ex h
  exact ⟨i, j, e, e', h⟩
noncomputable def rU (g : Int → V) : V → Hp → VK → Prop := fun x H Q => onI x fun i => Q (g i) H
theorem rU.ex {g : Int → V} {x : V} {H : Hp} {Q : VK} (h : rU g x H Q) : ∃ i, x = .int i ∧ Q (g i) H := onI.ex h
section
variable {X : Cx} {a b c : Expr} {ta tb tc : TE} {pos : Pos}
theorem binT (ha : PE X a ta) (hb : PE X b tb) {pins : List (Addr × Obj)} {s : Shared} {σ : St} {H : Hp} {R : V → V → Hp → Prop} (I : Inv X pins σ H s)
    (h : ta σ H fun x H1 => tb σ H1 fun y H2 => R x y H2) {Q : Value → Shared → Prop} {f : Value → Value → Sem Value}
    (hf : ∀ v u s2 x y H2, Inv X pins σ H2 s2 → RelV x v → RelV y u → R x y H2 → wpAny (model X.prog X.w) X.A (f v u) Q X.xe s2) :
    wpAny (model X.prog X.w) X.A (eval a X.env) (fun v s₁ => wpAny (model X.prog X.w) X.A (eval b X.env) (fun u s₂ => wpAny (model X.prog X.w) X.A (f v u) Q X.xe s₂) X.xe s₁) X.xe s := by
  refine thn (ha pins s σ H _ I h) fun v s1 ⟨x, H1, I1, r1, q1⟩ => ?_
  refine thn (hb pins s1 σ H1 _ I1 q1) fun u s2 ⟨y, H2, I2, r2, q2⟩ => ?_
  exact hf v u s2 x y H2 I2 r1 r2 q2
theorem pe_op {op : Operator} {r : R2} (ho : OpR X (binaryOp op) r) (ha : PE X a ta) (hb : PE X b tb) : PE X (.BinOp a op b pos) (tOp r ta tb) := by
  intro pins s σ H Q I h
  exact wpAny_BinOp (binT ha hb I h fun v u s2 x y H2 I2 rx ry q => ho pins s2 σ H2 x y v u Q I2 rx ry q)
theorem pe_un {op : UnaryOp} {r : V → Hp → VK → Prop} (ho : UnR X (unaryOp op) r) (ha : PE X a ta) : PE X (.UnaryOp op a pos) (tUn r ta) := by
  intro pins s σ H Q I h
  exact UnaryOp_ (thn (ha pins s σ H _ I h) fun v s1 ⟨x, H1, I1, r1, q1⟩ => ho pins s1 σ H1 x v Q I1 r1 q1)
theorem opI {f : Value → Value → Sem Value} {C : Int → Int → Prop} {g : Int → Int → Int}
    (rule : ∀ (i j : Int) (t u : Tok) (s : Shared) (Q : Value → Shared → Prop) (E : Value → Shared → Prop), C i j → Q (.int (g i j) s.toks) { s with toks := s.toks + 1 } → wpAny (model X.prog X.w) X.A (f (.int i t) (.int j u)) Q E s) :
    OpR X f (rI C fun i j => .int (g i j)) := by
  intro pins s σ H x y v u Q I rx ry h
  obtain ⟨i, j, rfl, rfl, hc, q⟩ := h.ex
  obtain ⟨t, rfl⟩ := rx
  obtain ⟨t', rfl⟩ := ry
  exact rule i j t t' s _ _ hc ⟨.int (g i j), H, I.tok _, ⟨_, rfl⟩, q⟩
theorem opI0 {f : Value → Value → Sem Value} {g : Int → Int → Int}
    (rule : ∀ (i j : Int) (t u : Tok) (s : Shared) (Q : Value → Shared → Prop) (E : Value → Shared → Prop), Q (.int (g i j) s.toks) { s with toks := s.toks + 1 } → wpAny (model X.prog X.w) X.A (f (.int i t) (.int j u)) Q E s) :
    OpR X f (rI0 fun i j => .int (g i j)) := by
  intro pins s σ H x y v u Q I rx ry h
  obtain ⟨i, j, rfl, rfl, q⟩ := h.ex
  obtain ⟨t, rfl⟩ := rx
  obtain ⟨t', rfl⟩ := ry
  exact rule i j t t' s _ _ ⟨.int (g i j), H, I.tok _, ⟨_, rfl⟩, q⟩
theorem opB0 {f : Value → Value → Sem Value} {g : Int → Int → Bool}
    (rule : ∀ (i j : Int) (t u : Tok) (s : Shared) (Q : Value → Shared → Prop) (E : Value → Shared → Prop), Q (.bool (g i j)) s → wpAny (model X.prog X.w) X.A (f (.int i t) (.int j u)) Q E s) :
    OpR X f (rI0 fun i j => .bl (g i j)) := by
  intro pins s σ H x y v u Q I rx ry h
  obtain ⟨i, j, rfl, rfl, q⟩ := h.ex
  obtain ⟨t, rfl⟩ := rx
  obtain ⟨t', rfl⟩ := ry
  exact rule i j t t' s _ _ ⟨.bl (g i j), H, I, rfl, q⟩
noncomputable def CDiv (i j : Int) : Prop := 0 < j ∧ j < 1073741824
noncomputable def CMul (i j : Int) : Prop := (-(2 ^ 64) < i ∧ i < 2 ^ 64) ∨ (-(2 ^ 64) < j ∧ j < 2 ^ 64)
theorem CMul.ok {i j : Int} (h : CMul i j) : IntMulOk i j := by
  rcases h with ⟨h1, h2⟩ | ⟨h1, h2⟩
  · exact .of_left (intBits_le_64 h1 h2)
  · exact .of_right (intBits_le_64 h1 h2)
theorem op_add : OpR X (binaryOp .Add) (rI0 fun i j => .int (i + j)) := opI0 fun _ _ _ _ _ _ _ q => add_int q
theorem op_sub : OpR X (binaryOp .Sub) (rI0 fun i j => .int (i - j)) := opI0 fun _ _ _ _ _ _ _ q => sub_int q
theorem op_mul : OpR X (binaryOp .Mult) (rI CMul fun i j => .int (i * j)) := opI fun _ _ _ _ _ _ _ hc q => mul_int q hc.ok
theorem op_fdiv : OpR X (binaryOp .FloorDiv) (rI CDiv fun i j => .int (i / j)) := opI fun i j _ _ _ _ _ hc q => by
  have h1 : (0 : Int) < j := hc.1
  have h2 : j < 1073741824 := hc.2
  exact floordiv_int (by lia) (by rw [Int.fdiv_eq_ediv_of_nonneg i (by solve_by_elim (maxDepth := 3) [Int.le_of_lt, Int.natCast_nonneg, Int.add_nonneg, Int.le_trans, Int.lt_of_lt_of_le, Int.lt_of_le_of_lt])]; exact q) (.inl (PyProof.noPylong_small (by lia)))
theorem op_mod : OpR X (binaryOp .Mod) (rI (fun _ j => 0 < j) fun i j => .int (i % j)) := opI fun i j _ _ _ _ _ hc q => by
  have h1 : (0 : Int) < j := hc
  exact mod_int' (by lia) (by rw [Int.fmod_eq_emod_of_nonneg i (by solve_by_elim (maxDepth := 3) [Int.le_of_lt, Int.natCast_nonneg, Int.add_nonneg, Int.le_trans, Int.lt_of_lt_of_le, Int.lt_of_le_of_lt])]; exact q)
theorem unI {f : Value → Sem Value} {g : Int → Int}
    (rule : ∀ (i : Int) (t : Tok) (s : Shared) (Q : Value → Shared → Prop) (E : Value → Shared → Prop), Q (.int (g i) s.toks) { s with toks := s.toks + 1 } → wpAny (model X.prog X.w) X.A (f (.int i t)) Q E s) :
    UnR X f (rU fun i => .int (g i)) := by
  intro pins s σ H x v Q I rx h
  obtain ⟨i, rfl, q⟩ := h.ex
  obtain ⟨t, rfl⟩ := rx
  exact rule i t s _ _ ⟨.int (g i), H, I.tok _, ⟨_, rfl⟩, q⟩
theorem un_neg : UnR X (unaryOp .USub) (rU fun i => .int (-i)) := unI fun _ _ _ _ _ q => neg_int q
end

noncomputable def scal : V → V → Bool
  | .non, .non => true | .non, .int _ => true | .int _, .non => true | .non, .bl _ => true | .bl _, .non => true | .non, .str _ => true | .str _, .non => true
  | .int _, .int _ => true | .bl _, .bl _ => true | .str _, .str _ => true | .byt _, .byt _ => true
  | .int _, .str _ => true | .str _, .int _ => true | .bl _, .str _ => true | .str _, .bl _ => true
  | _, _ => false
noncomputable def rEq : R2 := fun x y H Q => onT (scal x y) (Q (.bl (decide (x = y))) H)
theorem rEq.ex {x y : V} {H : Hp} {Q : VK} (h : rEq x y H Q) : scal x y = true ∧ Q (.bl (decide (x = y))) H := onT.ex h
noncomputable def rNe : R2 := fun x y H Q => onT (scal x y) (Q (.bl (!decide (x = y))) H)
theorem rNe.ex {x y : V} {H : Hp} {Q : VK} (h : rNe x y H Q) : scal x y = true ∧ Q (.bl (!decide (x = y))) H := onT.ex h
theorem dec_int {i j : Int} : decide (V.int i = V.int j) = (i == j) := by
  rw [Bool.eq_iff_iff]
  simp
theorem dec_bl {i j : Bool} : decide (V.bl i = V.bl j) = (i == j) := by
  rw [Bool.eq_iff_iff]
  simp
theorem dec_str {i j : Str} : decide (V.str i = V.str j) = (i == j) := by
  rw [Bool.eq_iff_iff]
  simp
theorem dec_byt {i j : Array UInt8} : decide (V.byt i = V.byt j) = (i.toList == j.toList) := by
  rw [Bool.eq_iff_iff]
  cases i
  cases j
  simp
section
variable {X : Cx} {a b c : Expr} {ta tb tc : TE} {pos : Pos}
theorem fin_bl {pins : List (Addr × Obj)} {σ : St} {H : Hp} {s : Shared} {Q : VK} {k k' : Bool} (I : Inv X pins σ H s) (q : Q (.bl k) H) (e : k = k') : EP X pins σ Q (.bool k') s := by
  subst e
  exact ⟨.bl k, H, I, rfl, q⟩
theorem op_eq : OpR X (compareOp .Eq) rEq := by
  intro pins s σ H x y v u Q I rx ry h
  obtain ⟨hs, q⟩ := h.ex
  cases x with
  | non =>
    cases rx
    cases y with
    | non => cases ry; exact PySem.EqNone.eq_none_none (fin_bl I q (by simp))
    | bl j => cases ry; exact PySem.EqNone.eq_none_bool (fin_bl I q (by simp))
    | int j => obtain ⟨t', rfl⟩ := ry; exact PySem.EqNone.eq_none_int (fin_bl I q (by simp))
    | str j => obtain ⟨t', rfl⟩ := ry; exact PySem.EqNone.eq_none_str (fin_bl I q (by simp))
    | _ => exact absurd (show false = true from hs) Bool.false_ne_true
  | bl i =>
    cases rx
    cases y with
    | non => cases ry; exact PySem.EqNone.eq_bool_none (fin_bl I q (by simp))
    | bl j => cases ry; exact eq_bool (fin_bl I q dec_bl)
    | str j => obtain ⟨t', rfl⟩ := ry; exact PySem.EqMixed.eq_bool_str (fin_bl I q (by simp))
    | _ => exact absurd (show false = true from hs) Bool.false_ne_true
  | int i =>
    obtain ⟨t, rfl⟩ := rx
    cases y with
    | non => cases ry; exact PySem.EqNone.eq_int_none (fin_bl I q (by simp))
    | int j => obtain ⟨t', rfl⟩ := ry; exact eq_int (fin_bl I q dec_int)
    | str j => obtain ⟨t', rfl⟩ := ry; exact PySem.EqMixed.eq_int_str (fin_bl I q (by simp))
    | _ => exact absurd (show false = true from hs) Bool.false_ne_true
  | str i =>
    obtain ⟨t, rfl⟩ := rx
    cases y with
    | non => cases ry; exact PySem.EqNone.eq_str_none (fin_bl I q (by simp))
    | bl j => cases ry; exact PySem.EqMixed.eq_str_bool (fin_bl I q (by simp))
    | int j => obtain ⟨t', rfl⟩ := ry; exact PySem.EqMixed.eq_str_int (fin_bl I q (by simp))
    | str j => obtain ⟨t', rfl⟩ := ry; exact eq_str (fin_bl I q dec_str)
    | _ => exact absurd (show false = true from hs) Bool.false_ne_true
  | byt i =>
    obtain ⟨t, rfl⟩ := rx
    cases y with
    | byt j => obtain ⟨t', rfl⟩ := ry; exact PySem.W.eq_bytes (fin_bl I q dec_byt)
    | _ => exact absurd (show false = true from hs) Bool.false_ne_true
  | _ => cases y <;> exact absurd (show false = true from hs) Bool.false_ne_true
theorem op_ne : OpR X (compareOp .NotEq) rNe := by
  intro pins s σ H x y v u Q I rx ry h
  obtain ⟨hs, q⟩ := h.ex
  cases x with
  | non =>
    cases rx
    cases y with
    | non => cases ry; exact PySem.EqNone.ne_none_none (fin_bl I q (by simp))
    | bl j => cases ry; exact PySem.EqNone.ne_none_bool (fin_bl I q (by simp))
    | int j => obtain ⟨t', rfl⟩ := ry; exact PySem.EqNone.ne_none_int (fin_bl I q (by simp))
    | str j => obtain ⟨t', rfl⟩ := ry; exact PySem.EqNone.ne_none_str (fin_bl I q (by simp))
    | _ => exact absurd (show false = true from hs) Bool.false_ne_true
  | bl i =>
    cases rx
    cases y with
    | non => cases ry; exact PySem.EqNone.ne_bool_none (fin_bl I q (by simp))
    | bl j => cases ry; exact ne_bool (fin_bl I q (congrArg not dec_bl))
    | str j => obtain ⟨t', rfl⟩ := ry; exact PySem.EqMixed.ne_bool_str (fin_bl I q (by simp))
    | _ => exact absurd (show false = true from hs) Bool.false_ne_true
  | int i =>
    obtain ⟨t, rfl⟩ := rx
    cases y with
    | non => cases ry; exact PySem.EqNone.ne_int_none (fin_bl I q (by simp))
    | int j => obtain ⟨t', rfl⟩ := ry; exact ne_int (fin_bl I q (congrArg not dec_int))
    | str j => obtain ⟨t', rfl⟩ := ry; exact PySem.EqMixed.ne_int_str (fin_bl I q (by simp))
    | _ => exact absurd (show false = true from hs) Bool.false_ne_true
  | str i =>
    obtain ⟨t, rfl⟩ := rx
    cases y with
    | non => cases ry; exact PySem.EqNone.ne_str_none (fin_bl I q (by simp))
    | bl j => cases ry; exact PySem.EqMixed.ne_str_bool (fin_bl I q (by simp))
    | int j => obtain ⟨t', rfl⟩ := ry; exact PySem.EqMixed.ne_str_int (fin_bl I q (by simp))
    | str j => obtain ⟨t', rfl⟩ := ry; exact ne_str (fin_bl I q (congrArg not dec_str))
    | _ => exact absurd (show false = true from hs) Bool.false_ne_true
  | byt i =>
    obtain ⟨t, rfl⟩ := rx
    cases y with
    | byt j => obtain ⟨t', rfl⟩ := ry; exact PySem.W.ne_bytes (fin_bl I q (congrArg not dec_byt))
    | _ => exact absurd (show false = true from hs) Bool.false_ne_true
  | _ => cases y <;> exact absurd (show false = true from hs) Bool.false_ne_true
theorem op_lt : OpR X (compareOp .Lt) (rI0 fun i j => .bl (decide (i < j))) := opB0 fun _ _ _ _ _ _ _ q => lt_int q
theorem op_le : OpR X (compareOp .LtE) (rI0 fun i j => .bl (decide (i ≤ j))) := opB0 fun _ _ _ _ _ _ _ q => le_int q
theorem op_gt : OpR X (compareOp .Gt) (rI0 fun i j => .bl (decide (j < i))) := opB0 fun _ _ _ _ _ _ _ q => gt_int q
inductive r_op_in_str (x : V) (y : V) (H : Hp) (Q : VK) : Prop
  | mk : ∀ i j, (x = .str i) → (y = .str j) → (Q (.bl (!(Builtin.Str.occurrences j i 0 j.length 1).isEmpty)) H) → r_op_in_str x y H Q
theorem op_in_str : OpR X (compareOp .In) r_op_in_str := by
  intro pins s σ H x y v u Q I rx ry h
  obtain ⟨i, j, rfl, rfl, q⟩ := h
  obtain ⟨t, rfl⟩ := rx
  obtain ⟨t', rfl⟩ := ry
  exact in_str (fin_bl I q rfl)
theorem op_isN : OpR X (compareOp .Is) (fun x y H Q => y = .non ∧ Q (.bl (decide (x = .non))) H) := by
  intro pins s σ H x y v u Q I rx ry h
  obtain ⟨rfl, q⟩ := h
  cases ry
  refine is_none_gen (fin_bl I q ?_)
  cases x <;> first
    | (cases rx; rfl)
    | (obtain ⟨t, rfl⟩ := rx; rfl)
theorem op_notN : OpR X (compareOp .IsNot) (fun x y H Q => y = .non ∧ Q (.bl (!decide (x = .non))) H) := by
  intro pins s σ H x y v u Q I rx ry h
  obtain ⟨rfl, q⟩ := h
  cases ry
  refine isnot_none_gen (fin_bl I q ?_)
  cases x <;> first
    | (cases rx; rfl)
    | (obtain ⟨t, rfl⟩ := rx; rfl)
theorem nomark (b : Expr) {op : CmpOp} (h : op ≠ .In := by decide) (h2 : op ≠ .NotIn := by decide) : behindInMarks op b = false := by
  have e1 : (op == CmpOp.In) = false := by cases op <;> first | rfl | exact absurd rfl h
  have e2 : (op == CmpOp.NotIn) = false := by cases op <;> first | rfl | exact absurd rfl h2
  cases b <;> simp [behindInMarks, e1, e2]
theorem pe_cmpR {op : CmpOp} {r : R2} (ho : OpR X (compareOp op) r) (ha : PE X a ta) (hb : PE X b tb) (hm : behindInMarks op b = false) : PE X (.Compare a [op] [b] pos) (tOp r ta tb) := by
  intro pins s σ H Q I h
  exact wpAny_Compare1 (binT ha hb I h fun v u s2 x y H2 I2 rx ry q => ho pins s2 σ H2 x y v u Q I2 rx ry q) hm
noncomputable def tTest_b (Q : Bool → Hp → Prop) (x : V) (H' : Hp) : Prop := onB x fun k => Q k H'
theorem tTest_b.ex {Q : Bool → Hp → Prop} {x : V} {H' : Hp} (h : tTest_b Q x H') : ∃ k, x = .bl k ∧ Q k H' := onB.ex h
noncomputable def tTest (t : TE) : TT := fun σ H Q => t σ H (tTest_b Q)
theorem pt_cmpR {op : CmpOp} {r : R2} (ho : OpR X (compareOp op) r) (ha : PE X a ta) (hb : PE X b tb) (hm : behindInMarks op b = false) : PT X (.Compare a [op] [b] pos) (tTest (tOp r ta tb)) := by
  intro pins s σ H Q I h
  refine wpAny_isTrue_Compare1 (thn (ha pins s σ H _ I h) fun v s1 ⟨x, H1, I1, r1, q1⟩ => thn (hb pins s1 σ H1 _ I1 q1) fun u s2 ⟨y, H2, I2, r2, q2⟩ =>
    thn (ho pins s2 σ H2 x y v u _ I2 r1 r2 q2) fun c s3 ⟨z, H3, I3, r3, q3⟩ => ?_) hm
  obtain ⟨k, rfl, q3⟩ := q3.ex
  cases r3
  exact wpAny_truthy_bool ⟨H3, I3, q3⟩
noncomputable def tChain (r r' : R2) (ta tb tc : TE) : TE := fun σ H Q => ta σ H fun x H1 => tb σ H1 fun y H2 => r x y H2 fun z H3 => ∃ k, z = .bl k ∧
  (if k = true then tc σ H3 fun w' H4 => r' y w' H4 Q else Q (.bl false) H3)
theorem pe_chain {op op' : CmpOp} {r r' : R2} (ho : OpR X (compareOp op) r) (ho' : OpR X (compareOp op') r') (ha : PE X a ta) (hb : PE X b tb) (hc : PE X c tc)
    (hm : lastMarks [op, op'] [b, c] = false := by with_unfolding_all rfl) : PE X (.Compare a [op, op'] [b, c] pos) (tChain r r' ta tb tc) := by
  intro pins s σ H Q I h
  refine Compare_chain (thn (ha pins s σ H _ I h) fun v s1 ⟨x, H1, I1, r1, q1⟩ => chain_link (thn (hb pins s1 σ H1 _ I1 q1) fun u s2 ⟨y, H2, I2, r2, q2⟩ =>
    thn (ho pins s2 σ H2 x y v u _ I2 r1 r2 q2) fun d s3 ⟨z, H3, I3, r3, k, e, q3⟩ => ?_)) hm
  subst e
  cases r3
  refine wpAny_truthy_bool ?_
  cases k with
  | false => exact ite_ff ⟨.bl false, H3, I3, rfl, q3⟩
  | true => exact ite_tt (chain_last (thn (hc pins s3 σ H3 _ I3 q3) fun w' s4 ⟨z', H4, I4, r4, q4⟩ => ho' pins s4 σ H4 y z' u w' Q I4 r2 r4 q4))
theorem pt_chain {op op' : CmpOp} {r r' : R2} (ho : OpR X (compareOp op) r) (ho' : OpR X (compareOp op') r') (ha : PE X a ta) (hb : PE X b tb) (hc : PE X c tc)
    (hm : lastMarks [op, op'] [b, c] = false := by with_unfolding_all rfl) : PT X (.Compare a [op, op'] [b, c] pos) (tTest (tChain r r' ta tb tc)) := by
  intro pins s σ H Q I h
  refine isTrue_chain (thn (ha pins s σ H _ I h) fun v s1 ⟨x, H1, I1, r1, q1⟩ => test_link (thn (hb pins s1 σ H1 _ I1 q1) fun u s2 ⟨y, H2, I2, r2, q2⟩ =>
    thn (ho pins s2 σ H2 x y v u _ I2 r1 r2 q2) fun d s3 ⟨z, H3, I3, r3, k, e, q3⟩ => ?_)) hm
  subst e
  cases r3
  refine wpAny_truthy_bool ?_
  cases k with
  | false =>
    exact ite_ff ⟨H3, I3, q3⟩
  | true =>
    refine ite_tt (test_last (thn (hc pins s3 σ H3 _ I3 q3) fun w' s4 ⟨z', H4, I4, r4, q4⟩ => thn (ho' pins s4 σ H4 y z' u w' _ I4 r2 r4 q4) fun d' s5 ⟨z2, H5, I5, r5, q5⟩ => ?_))
    obtain ⟨k2, rfl, q5⟩ := q5.ex
    cases r5
    exact wpAny_truthy_bool ⟨H5, I5, q5⟩
noncomputable def TruV (K : PySem.W.Frag) (x : V) (H : Hp) (k : Bool) : Prop :=
  match x with
  | .non => k = false
  | .bl b => k = b
  | .int i => k = (i != 0)
  | .str y => y.length ≤ sizeLine ∧ k = ((y.length : Int) != 0)
  | .byt y => y.size ≤ sizeLine ∧ k = ((y.size : Int) != 0)
  | .ref p => (∃ xs, SqL K H p xs ∧ k = !xs.isEmpty) ∨ (∃ xs, SqT K H p xs ∧ k = !xs.isEmpty) ∨ ∃ kvs, H p = some (.dK kvs) ∧ k = !kvs.isEmpty
  | _ => False
theorem isEmpty_kv {κ : Type} {kvs : List (κ × V)} {vs : List (κ × Value)} (r : KV kvs vs) : (!vs.isEmpty) = !kvs.isEmpty := by
  cases r <;> rfl
theorem isEmpty_of {xs : List V} {its : List Value} (r : Vals xs its) : (!its.toArray.isEmpty) = !xs.isEmpty := by
  cases r <;> simp
theorem line63 : (sizeLine : Nat) < 2 ^ 63 := by rw [sizeLine_eq]; decide
theorem tru_ok : TruR X (fun x H Q => ∃ k, TruV X.K x H k ∧ Q k H) := by
  intro pins s σ H x v Q I rx h
  obtain ⟨k, e, q⟩ := h
  have hl := line63
  have hs : sizeLine = 16777216 := sizeLine_eq
  cases x with
  | non =>
    cases rx
    have e' : k = false := e
    subst e'
    exact truthy_none ⟨H, I, q⟩
  | bl b =>
    cases rx
    have e' : k = b := e
    subst e'
    exact wpAny_truthy_bool ⟨H, I, q⟩
  | int i =>
    obtain ⟨t, rfl⟩ := rx
    have e' : k = (i != 0) := e
    subst e'
    exact PySem.P.truthy_int ⟨H, I, q⟩
  | str y =>
    obtain ⟨t, rfl⟩ := rx
    obtain ⟨hy, e'⟩ : y.length ≤ sizeLine ∧ k = ((y.length : Int) != 0) := e
    subst e'
    exact PySem.P.truthy_str (by lia) ⟨H, I.tok _, q⟩
  | byt y =>
    obtain ⟨t, rfl⟩ := rx
    obtain ⟨hy, e'⟩ : y.size ≤ sizeLine ∧ k = ((y.size : Int) != 0) := e
    subst e'
    exact PySem.W.truthy_bytes (by lia) ⟨H, I.tok _, q⟩
  | ref p =>
    cases rx
    have e' : (∃ xs, SqL X.K H p xs ∧ k = !xs.isEmpty) ∨ (∃ xs, SqT X.K H p xs ∧ k = !xs.isEmpty) ∨ ∃ kvs, H p = some (.dK kvs) ∧ k = !kvs.isEmpty := e
    rcases e' with ⟨xs, hx, e'⟩ | ⟨xs, hx, e'⟩ | ⟨kvs, hx, e'⟩
    · subst e'
      obtain ⟨its, r, pl, hz⟩ := I.list hx
      have hlen := r.length
      exact wpAny_truthy_list pl.isList (by simp only [List.size_toArray]; lia) ⟨H, I.tok _, by rw [isEmpty_of r]; exact q⟩
    · subst e'
      obtain ⟨its, r, pl, hz⟩ := I.tuple hx
      have hlen := r.length
      exact truthy_tuple pl (by simp only [List.size_toArray]; lia) ⟨H, I.tok _, by rw [isEmpty_of r]; exact q⟩
    · subst e'
      obtain ⟨hz, hS, vs, r, m⟩ : kvs.length ≤ sizeLine ∧ (p == sysModules) = false ∧ ∃ vs, KV kvs vs ∧ s.heap.DictOf (mixKind X.prog X.w) p vs := I.hok p _ hx
      have hlen : kvs.length = vs.length := Paired.length r
      exact wpAny_truthy_dict hS m (by lia) ⟨H, I.tok _, by rw [isEmpty_kv r]; exact q⟩
  | _ => exact (show False from e).elim
theorem pt_truth (ha : PE X a ta) (he : ∀ whole, isTrue a X.env whole = (do let v ← whole; standAt a.pos; holding [v] (truthy v))) :
    PT X a (fun σ H Q => ta σ H fun x H' => ∃ k, TruV X.K x H' k ∧ Q k H') := by
  intro pins s σ H Q I h
  exact isTrue_plain (thn (ha pins s σ H _ I h) fun v s1 ⟨x, H1, I1, r1, q1⟩ => tru_ok pins s1 σ H1 x v Q I1 r1 q1) (he _)
inductive r_op_add_str (x : V) (y : V) (H : Hp) (Q : VK) : Prop
  | mk : ∀ i j, (x = .str i) → (y = .str j) → (i.length + j.length ≤ sizeLine) → (Q (.str (i ++ j)) H) → r_op_add_str x y H Q
theorem op_add_str : OpR X (binaryOp .Add) r_op_add_str := by
  intro pins s σ H x y v u Q I rx ry h
  obtain ⟨i, j, rfl, rfl, hz, q⟩ := h
  obtain ⟨t, rfl⟩ := rx
  obtain ⟨t', rfl⟩ := ry
  exact add_str (fun t' tk => ⟨.str (i ++ j), H, I.tok _, ⟨_, rfl⟩, q⟩) hz
theorem vals1 {x : V} {us : List Value} (r : Vals [x] us) : ∃ u, us = [u] ∧ RelV x u := by
  cases r with
  | cons r1 r2 => cases r2; exact ⟨_, rfl, r1⟩
theorem vals2 {x y : V} {us : List Value} (r : Vals [x, y] us) : ∃ u w', us = [u, w'] ∧ RelV x u ∧ RelV y w' := by
  cases r with
  | cons r1 r2 =>
    cases r2 with
    | cons r3 r4 => cases r4; exact ⟨_, _, rfl, r1, r3⟩
inductive r_call_max2 (xs : List V) (H : Hp) (Q : VK) : Prop
  | mk : ∀ i j, (xs = [.int i, .int j]) → (Q (.int (if j > i then j else i)) H) → r_call_max2 xs H Q
theorem call_max2 (hc : X.calm = true) : CallR X (.builtin "max") r_call_max2 := by
  intro pins s σ H xs us Q I r h
  obtain ⟨i, j, rfl, q⟩ := h
  refine L2.ob_eeaa (vals2 r) fun u w' e_2 q_3 q_4 => ?_; subst e_2; obtain ⟨t, rfl⟩ := q_3; obtain ⟨t', rfl⟩ := q_4
  refine max_two_ints (I.ok.hd hc) fun h' tk k => ⟨_, H, I.kept k, ?_, q⟩
  by_cases hj : j > i
  · rw [if_pos hj, if_pos hj]; exact ⟨_, rfl⟩
  · rw [if_neg hj, if_neg hj]; exact ⟨_, rfl⟩
inductive r_call_str_int (xs : List V) (H : Hp) (Q : VK) : Prop
  | mk : ∀ i, (xs = [.int i]) → (i.natAbs.log2 < 1920) → (Q (.str (toString i)) H) → r_call_str_int xs H Q
theorem call_str_int : CallR X (.type "str") r_call_str_int := by
  intro pins s σ H xs us Q I r h
  obtain ⟨i, rfl, hz, q⟩ := h
  obtain ⟨u, rfl, t, rfl⟩ := vals1 r
  exact PySem.P.str_of_int hz ⟨.str _, H, I.tok _, ⟨_, rfl⟩, q⟩
end
end L2

namespace L2
open PySem PySem.Spec PyProof.Rows
structure ObjM (h : Heap) (x dx C : Addr) (mA : Str → Option Value) : Prop where
  obj : h.get? x = some (PySem.W.instObj C dx)
  ns : h.Ns1 dx mA
  ne : dx ≠ x
theorem lookIn_ns {h : Heap} {dx : Addr} {mA : Str → Option Value} (n : h.Ns1 dx mA) : ∃ od, h.get? dx = some od ∧ ∀ name, PySem.W.lookIn name od = some (mA name) := by
  obtain ⟨o, es, ep, ho, hd, hk, _, hm⟩ := n
  refine ⟨o, ho, fun name => ?_⟩
  have e := hm name
  unfold nsFind findBy at e
  rw [← Array.find?_toList] at e
  unfold PySem.W.lookIn
  rw [hd]
  dsimp only
  split
  · rename_i y q
    rw [q] at e
    exact congrArg some e
  · rename_i q
    rw [q] at e
    have a : es.toList.any (·.refKey) = false := by
      rw [List.any_eq_false]
      intro y hy
      obtain ⟨z, t, hkey⟩ := hk y (Array.mem_toList_iff.mp hy)
      simp [DictEntry.refKey, hkey]
    have a' : ¬ es.toList.any (·.refKey) = true := by rw [a]; exact Bool.false_ne_true
    rw [if_neg a']
    exact congrArg some e
theorem ObjM.look {h : Heap} {x dx C : Addr} {mA : Str → Option Value} (I : ObjM h x dx C mA) : ∃ od, PySem.W.InstAt h x (PySem.W.instObj C dx) C (some od) ∧ ∀ name, PySem.W.lookIn name od = some (mA name) :=
  let ⟨od, ho, hl⟩ := lookIn_ns I.ns
  ⟨od, ⟨I.obj, rfl, rfl, ho⟩, hl⟩
section
variable {prog : Program} {w : World} {A : Around} {E : Value → Shared → Prop} {s : Shared} {K : PySem.W.Frag} {x dx C f : Addr} {mA : Str → Option Value} {name : Str} {v : Value}
end

section
variable {P : Program} {w : World} {H H' : Hp} {h h' : Heap} {a C dx : Addr} {fs fs' : List (Str × V)}
theorem ins_get (hok : HOk P w H h) (e : H a = some (.ins C dx fs)) : ∃ mA, ObjM h a dx C mA ∧ (∀ f, RelO (fs.lookup f) (mA f)) ∧ PySem.Within mA (fs.map (·.1)) ∧ fs.length ≤ 1000 ∧ H dx = some (.own a) := by
  obtain ⟨d, z, ne, ob, mA, n, r, q⟩ := (show ObjOk P w H h a (.ins C dx fs) from hok a _ e)
  exact ⟨mA, ⟨ob, n, ne⟩, r, q, z, d⟩
end

structure Cls (K : PySem.W.Frag) (C : Addr) : Prop where
  pg : PySem.W.plainGet K C Str.empty = true
  hd : PySem.W.hasDictIn K C = true
  po : PySem.W.plainOver K C = true
  sa : PySem.W.findIn K (.ref C) "__setattr__" = some (some (.builtin "object.__setattr__"))
theorem Cls.get {K : PySem.W.Frag} {C : Addr} (c : Cls K C) (f : Str) : PySem.W.plainGet K C f = true := c.pg
section
variable {X : Cx} {pins : List (Addr × Obj)} {σ : St} {H : Hp} {s : Shared} {a C dx : Addr} {fs : List (Str × V)} {f : Str} {v : V} {A : Around} {E : Value → Shared → Prop}
end

section
variable {X : Cx} {o e value : Expr} {f : Str} {pos pos' tpos : Pos} {ta tv : TE}
end

section
variable {X : Cx} {pins : List (Addr × Obj)} {σ : St} {H : Hp} {s : Shared} {A : Around} {E : Value → Shared → Prop} {Q : Value → Shared → Prop} {c : Value} {b : Bool}
inductive TyOf (K : PySem.W.Frag) (H : Hp) : V → Value → Prop where
  | non : TyOf K H .non (.type "NoneType")
  | bl (x : Bool) : TyOf K H (.bl x) (.type "bool")
  | int (i : Int) : TyOf K H (.int i) (.type "int")
  | str (x : Str) : TyOf K H (.str x) (.type "str")
  | flt (x : UInt64) : TyOf K H (.flt x) (.type "float")
  | lst {a : Addr} {xs : List V} (e : H a = some (.lst xs)) : TyOf K H (.ref a) (.type "list")
  | frz {a : Addr} {o : Obj} {xs : List V} (e : H a = some (.frz o (.lst xs))) : TyOf K H (.ref a) (.type "list")
  | tup {a : Addr} {xs : List V} (e : H a = some (.tup xs)) : TyOf K H (.ref a) (.type "tuple")
  | dK {a : Addr} {kvs : List (Key × V)} (e : H a = some (.dK kvs)) : TyOf K H (.ref a) (.type "dict")
  | dT {a : Addr} {kvs : List (List Key × V)} (e : H a = some (.dT kvs)) : TyOf K H (.ref a) (.type "dict")
  | ins {a C dx : Addr} {fs : List (Str × V)} (e : H a = some (.ins C dx fs)) (cl : Cls K C) (ha : PySem.W.findIn K (.ref C) "__class__" = some (some (.builtin "object.__class__")))
      (hn : PySem.W.specialIn K (.builtin "object.__class__") "__get__" = some (some (.builtin "getset_descriptor.__get__"))) (htk : PySem.W.takesIn K (.builtin "object.__class__") = some true)
      (hm : PySem.W.mroIn K C (.type "object") = some true) : TyOf K H (.ref a) (.ref C)
theorem isinst_ok {x : V} {u t : Value} (I : Inv X pins σ H s) (rx : RelV x u) (ty : TyOf X.K H x t) (e : PySem.W.kitOne X.K t c = some b) (h : ∀ tk, Q (.bool b) { s with toks := tk }) :
    wpAny (model X.prog X.w) A (call (.builtin "isinstance") [u, c]) Q E s := by
  cases ty with
  | non => cases (show u = Value.none from rx); exact PySem.W.kia_one PySem.W.kitx_none I.kIn True.intro e (fun z => nomatch z) h
  | bl y => cases (show u = Value.bool y from rx); exact PySem.W.kia_one PySem.W.kitx_bool I.kIn True.intro e (fun z => nomatch z) h
  | int i => obtain ⟨t, q⟩ := (show ∃ t, u = Value.int i t from rx); cases q; exact PySem.W.kia_one PySem.W.kitx_int I.kIn True.intro e (fun z => nomatch z) h
  | str y => obtain ⟨t, q⟩ := (show ∃ t, u = Value.str y t from rx); cases q; exact PySem.W.kia_one PySem.W.kitx_str I.kIn True.intro e (fun z => nomatch z) h
  | flt y => obtain ⟨t, q⟩ := (show ∃ t, u = Value.float y t from rx); cases q; exact PySem.W.kia_one PySem.W.kitx_float I.kIn True.intro e (fun z => nomatch z) h
  | @lst a xs ea =>
    cases (show u = Value.ref a from rx)
    obtain ⟨_, _, n, _, h1⟩ := (show ObjOk X.prog X.w H s.heap a (.lst xs) from I.hok a _ ea)
    exact PySem.W.kia_one PySem.W.kitx_list I.kIn ⟨_, h1, rfl⟩ e (fun z => nomatch z) h
  | @frz a ob xs ea =>
    cases (show u = Value.ref a from rx)
    obtain ⟨_, _, _, n, _, h1⟩ := (show ObjOk X.prog X.w H s.heap a (.frz ob (.lst xs)) from I.hok a _ ea)
    exact PySem.W.kia_one PySem.W.kitx_list I.kIn ⟨_, h1, rfl⟩ e (fun z => nomatch z) h
  | @tup a xs ea =>
    cases (show u = Value.ref a from rx)
    obtain ⟨_, _, _, p⟩ := (show ObjOk X.prog X.w H s.heap a (.tup xs) from I.hok a _ ea)
    obtain ⟨o, h1, h2, _⟩ := p
    exact PySem.W.kia_one PySem.W.kitx_tuple I.kIn ⟨o, h1, h2⟩ e (fun z => nomatch z) h
  | @dK a kvs ea =>
    cases (show u = Value.ref a from rx)
    obtain ⟨_, _, vs, _, p⟩ := (show ObjOk X.prog X.w H s.heap a (.dK kvs) from I.hok a _ ea)
    obtain ⟨o, es, ep, h1, h2, _⟩ := p
    exact PySem.W.kia_one PySem.W.kitx_dict I.kIn ⟨o, h1, h2.1⟩ e (fun z => nomatch z) h
  | @dT a kvs ea =>
    cases (show u = Value.ref a from rx)
    obtain ⟨_, _, xs, _, o, es, ep, h1, h2, _⟩ := (show ObjOk X.prog X.w H s.heap a (.dT kvs) from I.hok a _ ea)
    exact PySem.W.kia_one PySem.W.kitx_dict I.kIn ⟨o, h1, h2.1⟩ e (fun z => nomatch z) h
  | @ins a C dx fs ea cl ha hn htk hm =>
    cases (show u = Value.ref a from rx)
    refine L2.ob_ea (ins_get I.hok ea) fun mA O _ => ?_
    refine L2.ob_ea O.look fun od J _ => ?_
    exact PySem.W.kia_one (PySem.W.kitx_own (cl.get _) cl.hd ha hn htk hm) I.kIn J e (fun z => nomatch z) h
end
end L2

namespace L2
open PySem PySem.Spec PyProof.Rows
structure Room (k : Nat) (A : Around) : Prop where
  hd : A.handled = none
  dp : A.depth + 3 * k + 5 < recursionLimit
  un : A.units + 16 * k + 200 < cLine
theorem Room.mono {j k : Nat} {A : Around} (r : Room k A) (h : j ≤ k) : Room j A := ⟨r.hd, by have := r.dp; lia, by have := r.un; lia⟩
theorem Room.deeper {k : Nat} {A : Around} (r : Room (k + 1) A) (env : Env) : Room k (A.deeper env) :=
  ⟨r.hd, by have := r.dp; show A.depth + 1 + 3 * k + 5 < _; lia, by have := r.un; show A.units + 3 + 16 * k + 200 < _; lia⟩
theorem Room.depth {k : Nat} {A : Around} (r : Room k A) : A.depth < recursionLimit := by have := r.dp; lia
theorem Room.units {k : Nat} {A : Around} (r : Room k A) : A.units + 64 < cLine := by have := r.un; lia
noncomputable def tNil : TA := fun _ H Q => Q [] H
noncomputable def tCons (ta : TE) (tr : TA) : TA := fun σ H Q => ta σ H fun x H1 => tr σ H1 fun xs H2 => Q (x :: xs) H2
section
variable {X : Cx} {e : Expr} {es : List Expr} {te : TE} {t : TA} {pos : Pos}
theorem pa_nil : PA X [] tNil := fun _ _ _ _ H Q I h => Calls.spliced_nil ⟨[], H, I, .nil, h⟩
theorem pa_cons (ha : PE X e te) (hr : PA X es t) (hs : starEach (e :: es) X.env = (false, eval e X.env) :: starEach es X.env := by rfl) : PA X (e :: es) (tCons te t) := by
  intro pos pins s σ H Q I h
  rw [hs]
  show wpAny _ _ (spliced ((false, eval e X.env) :: backTo pos (starEach es X.env))) _ _ s
  refine Calls.spliced_cons (thn (ha pins s σ H _ I h) fun u s1 ⟨x, H1, I1, r1, q1⟩ => ?_)
  exact thn (hr pos pins s1 σ H1 _ I1 q1) fun us s2 ⟨xs, H2, I2, r2, q2⟩ => ⟨x :: xs, H2, I2, .cons r1 r2, q2⟩
inductive tTup_b (Q : VK) (xs : List V) (H1 : Hp) : Prop
  | mk : (xs.length ≤ sizeLine) → (∀ p, H1 p = none → Q (.ref p) (upd H1 p (.tup xs))) → tTup_b Q xs H1
noncomputable def tTup (t : TA) : TE := fun σ H Q => t σ H fun xs H1 => tTup_b Q xs H1
inductive tLst_b (Q : VK) (xs : List V) (H1 : Hp) : Prop
  | mk : (xs.length ≤ sizeLine) → (∀ p, H1 p = none → Q (.ref p) (upd H1 p (.lst xs))) → tLst_b Q xs H1
noncomputable def tLst (t : TA) : TE := fun σ H Q => t σ H fun xs H1 => tLst_b Q xs H1
theorem pe_tup {x1} (h : PA X es t) : PE X (.Tuple es x1 pos) (tTup t) := by
  intro pins s σ H Q I hq
  refine wpAny_Tuple_spliced (thn (h pos pins s σ H _ I hq) fun us s1 ⟨xs, H1, I1, r, z, q⟩ => ⟨by rw [← r.length]; exact z, ?_⟩)
  have hf : H1 s1.heap.objs.size = none := I1.hok.fresh (Nat.le_refl _)
  refine ⟨.ref s1.heap.objs.size, upd H1 s1.heap.objs.size (.tup xs), I1.laid (t' := s1.toks) (fun b u e => Heap.get?_push_of_some _ e) (Nat.le_refl _) ?_, rfl, q _ hf⟩
  exact ⟨z, us, r, ⟨_, Heap.get?_push_size _ rfl, rfl, _, rfl⟩⟩
theorem pe_lst (h : PA X es t) : PE X (.List es pos) (tLst t) := by
  intro pins s σ H Q I hq
  refine wpAny_List_spliced (thn (h pos pins s σ H _ I hq) fun us s1 ⟨xs, H1, I1, r, z, q⟩ => ⟨by rw [← r.length]; exact z, ?_⟩)
  have hf : H1 s1.heap.objs.size = none := I1.hok.fresh (Nat.le_refl _)
  refine ⟨.ref s1.heap.objs.size, upd H1 s1.heap.objs.size (.lst xs), I1.laid (t' := s1.toks) (fun b u e => Heap.get?_push_of_some _ e) (Nat.le_refl _) ?_, rfl, q _ hf⟩
  exact ⟨z, us, 0, r, Heap.get?_push_size _ rfl⟩
end

noncomputable abbrev Sp := List V → Hp → VK → XK → Prop
noncomputable abbrev CXT := List Env → Hp → Shared → XK → Value → Shared → Prop
structure Env0 (P : Program) (w : World) (K : PySem.W.Frag) (mg : Str → Option Value) (base : Heap) (A : Around) (outer : List Env) (s : Shared) (H : Hp) : Prop where
  frames : A.frames = some outer
  mod : Mod K mg base
  bs : ∀ b o, base.get? b = some o → s.heap.get? b = some o ∧ H b = none
  bsz : base.objs.size ≤ s.heap.objs.size
  funs : s.heap.FunFrames base outer
  frf : ∀ b ∈ frs outer, H b = none
  hok : HOk P w H s.heap
  bare : AllBare s.gens
noncomputable def CE (outer : List Env) (P : Program) (w : World) (H : Hp) (s : Shared) (Q : VK) (u : Value) (s' : Shared) : Prop :=
  ∃ v H', s'.os = s.os ∧ AllBare s'.gens ∧ Un (frs outer) [] H H' s.heap s'.heap ∧ HOk P w H' s'.heap ∧ RelV v u ∧ Q v H'
noncomputable def CR (CX : CXT) (outer : List Env) (P : Program) (w : World) (H : Hp) (s : Shared) (Q : VK) (E : XK) (r : Result) (s' : Shared) : Prop :=
  match r with
  | .ok (.ret u) => CE outer P w H s Q u s'
  | .ok _ => False
  | .error e => CX outer H s E e s'
structure FnOk (P : Program) (w : World) (K : PySem.W.Frag) (mg : Str → Option Value) (base : Heap) (CX : CXT) (k : Nat) (f : Addr) (fd : FuncData) (ps : List Str) (sp : Sp) : Prop where
  len : ∀ vs H Q E, sp vs H Q E → vs.length = ps.length
  run : ∀ (A : Around) (outer : List Env) (s : Shared) (H : Hp) (args : Args) (us : List Value) (vs : List V) (Q : VK) (E : XK), Room k A → Env0 P w K mg base A outer s H → BindsTo s fd args (ps.zip us) → Vals vs us → sp vs H Q E →
    codeAny (model P w) A (.call (.ref f) args) (CR CX outer P w H s Q E) s
section
variable {X : Cx} {pins : List (Addr × Obj)} {σ : St} {H : Hp} {s s' : Shared}
theorem Inv.env0 (I : Inv X pins σ H s) : Env0 X.prog X.w X.K X.mg X.base X.A X.stack s H :=
  ⟨I.ok.frames, I.ok.mod, I.bs, Nat.le_trans I.ok.bsz I.sz, I.stack, I.stkFree, I.hok, I.bare⟩
theorem Inv.after {Q : VK} {u : Value} (I : Inv X pins σ H s) (h : CE X.stack X.prog X.w H s Q u s') : EP X pins σ Q u s' := by
  obtain ⟨v, H', os, bare, un, hok, r, q⟩ := h
  obtain ⟨hh, g, d, t, os'⟩ := s'
  obtain rfl : os' = s.os := os
  exact ⟨v, H', I.call (h' := hh) (g' := g) (d' := d) (t' := t) (ch := []) un hok bare (fun b z => absurd z (by simp)), r, q⟩
end

noncomputable def tCall (sp : Sp) (dvs : List V) (E : XK) (t : TA) : TE := fun σ H Q => t σ H fun vs H1 => sp (vs ++ dvs) H1 Q E
noncomputable def Binds (K : PySem.W.Frag) (fd : FuncData) (ps : List Str) (ds : List Value) : Prop :=
  ∀ (s : Shared) (us : List Value), K.In s.heap → (us ++ ds).length = ps.length → BindsTo s fd ⟨us, []⟩ (ps.zip (us ++ ds))
theorem Binds.all {K : PySem.W.Frag} {fd : FuncData} {ps : List Str} (h : ∀ us : List Value, us.length = ps.length → bindArgs fd ⟨us, []⟩ = pure (ps.zip us)) : Binds K fd ps [] := fun s us _ hl => by
  rw [List.append_nil] at hl ⊢
  exact .of_eq (h us hl)
noncomputable def Passes (CX : CXT) (X : Cx) (E : XK) : Prop := ∀ (pins : List (Addr × Obj)) (σ : St) (H : Hp) (s : Shared) (e : Value) (s' : Shared), Inv X pins σ H s → CX X.stack H s E e s' → X.xe e s'
section
variable {X : Cx} {CX : CXT} {k : Nat} {f C : Addr} {fd : FuncData} {ps : List Str} {sp : Sp} {dvs : List V} {ds : List Value} {E : XK} {x m : Str} {p pos apos : Pos} {e o : Expr} {es : List Expr} {ta : TE} {t : TA}
theorem run_fn {pins : List (Addr × Obj)} {σ : St} {H : Hp} {s : Shared} {Q : VK} {us : List Value} {vs : List V} (F : FnOk X.prog X.w X.K X.mg X.base CX k f fd ps sp) (hr : Room k X.A) (hb : Binds X.K fd ps ds) (hd : Vals dvs ds) (hx : Passes CX X E)
    (I : Inv X pins σ H s) (r : Vals vs us) (h : sp (vs ++ dvs) H Q E) : wpAny (model X.prog X.w) X.A (call (.ref f) us) (EP X pins σ Q) X.xe s := by
  have r2 : Vals (vs ++ dvs) (us ++ ds) := r.append hd
  have hl : (us ++ ds).length = ps.length := by rw [← r2.length]; exact F.len _ _ _ _ h
  refine wpAny_call (codeAny_mono (F.run X.A X.stack s H ⟨us, []⟩ (us ++ ds) (vs ++ dvs) Q E hr I.env0 (hb s us I.kIn hl) r2 h) fun r s' hq => ?_)
  cases r with
  | error e => exact hx pins σ H s e s' I hq
  | ok fl =>
    cases fl with
    | ret u => exact I.after hq
    | next => exact False.elim hq
    | brk => exact False.elim hq
    | cont => exact False.elim hq
theorem pe_call (F : FnOk X.prog X.w X.K X.mg X.base CX k f fd ps sp) (hr : Room k X.A) (hg : Gl X x) (hm : X.mg x = some (.ref f)) (hk : PySem.W.keepIn X.K (.ref f) = true) (hb : Binds X.K fd ps ds) (hd : Vals dvs ds) (hx : Passes CX X E)
    (ha : PA X (e :: es) t) (hdb : (x == ("__debug__" : Str)) = false := by decide) (he : starEach (e :: es) X.env = (false, eval e X.env) :: starEach es X.env := by rfl) (hpl : (backTo pos (starEach es X.env)).any (·.1) = false := by rfl) :
    PE X (.Call (.Name x p) (e :: es) [] pos) (tCall sp dvs E t) := by
  intro pins s σ H Q I h
  refine wpAny_Call_Name_kw (ld_glob I hg hm ?_ hdb)
  refine PySem.W.callWith_K (h₀ := X.base) I.ok.mod.kin hk (thn (ha pos pins s σ H _ I h) fun us s1 ⟨vs, H1, I1, r, q⟩ => ⟨I1.kIn, ?_⟩) he hpl
  exact run_fn F hr hb hd hx I1 r q
end

section
variable {X : Cx} {CX : CXT} {k : Nat} {f C : Addr} {fd : FuncData} {ps ks : List Str} {sp : Sp} {E : XK} {x m : Str} {p pos apos kpos : Pos} {e o : Expr} {es : List Expr} {kws : List Keyword} {te ta : TE} {t tk : TA} {nm : Option Str}
variable {g : List Value → List Value → List Value} {gV : List V → List V → List V}
end

structure FnScope (N P : List Str) (sc : Scope) : Prop where
  kind : sc.kind = .function
  co : sc.isCoroutine = false
  gen : sc.isGenerator = false
  nd : N.Nodup
  pre : N.take P.length = P
  par : ∀ x ∈ P, sc.names.lookup x = some .local ∨ sc.names.lookup x = some .cell
  nofree : ∀ y ∈ sc.names, y.2 ≠ .free
theorem bindL_out {kindOf : Str → Option NameKind} {x : Str} : ∀ {binds : List (Str × Value)} {m : Str → Option Value}, (∀ v, (x, v) ∉ binds) → bindL kindOf binds m x = m x
  | [], _, _ => rfl
  | (n, v) :: r, m, h => by
    unfold bindL
    rw [bindL_out fun w hw => h w (List.mem_cons_of_mem _ hw)]
    split
    · have : x ≠ n := by rintro rfl; exact h v List.mem_cons_self
      simp [this]
    · rfl
theorem bindC_out {kindOf : Str → Option NameKind} {x : Str} : ∀ {binds : List (Str × Value)} {m : Str → Option Value}, (∀ v, (x, v) ∉ binds) → bindC kindOf binds m x = m x
  | [], _, _ => rfl
  | (n, v) :: r, m, h => by
    unfold bindC
    rw [bindC_out fun w hw => h w (List.mem_cons_of_mem _ hw)]
    split
    · rfl
    · have : x ≠ n := by rintro rfl; exact h v List.mem_cons_self
      simp [this]
theorem bindL_get {kindOf : Str → Option NameKind} {x : Str} {v : Value} : ∀ {P : List Str} {vs : List Value} {i : Nat} {m : Str → Option Value}, P.Nodup → P[i]? = some x → vs[i]? = some v → kindOf x = some .local →
    bindL kindOf (P.zip vs) m x = some v
  | [], _, _, _, _, h, _, _ => by simp at h
  | _ :: _, [], _, _, _, _, h, _ => by simp at h
  | p :: P, w :: vs, 0, m, nd, h1, h2, hk => by
    simp at h1 h2; subst h1; subst h2
    show bindL kindOf ((p, w) :: P.zip vs) m p = _
    unfold bindL
    rw [bindL_out fun v hv => (List.nodup_cons.mp nd).1 (List.of_mem_zip hv).1, if_pos hk]
    simp
  | p :: P, w :: vs, i + 1, m, nd, h1, h2, hk => by
    show bindL kindOf ((p, w) :: P.zip vs) m x = _
    unfold bindL
    exact bindL_get (i := i) (List.nodup_cons.mp nd).2 (by simpa using h1) (by simpa using h2) hk
theorem bindC_get {kindOf : Str → Option NameKind} {x : Str} {v : Value} : ∀ {P : List Str} {vs : List Value} {i : Nat} {m : Str → Option Value}, P.Nodup → P[i]? = some x → vs[i]? = some v → kindOf x ≠ some .local →
    bindC kindOf (P.zip vs) m x = some v
  | [], _, _, _, _, h, _, _ => by simp at h
  | _ :: _, [], _, _, _, _, h, _ => by simp at h
  | p :: P, w :: vs, 0, m, nd, h1, h2, hk => by
    simp at h1 h2; subst h1; subst h2
    show bindC kindOf ((p, w) :: P.zip vs) m p = _
    unfold bindC
    rw [bindC_out fun v hv => (List.nodup_cons.mp nd).1 (List.of_mem_zip hv).1, if_neg hk]
    simp
  | p :: P, w :: vs, i + 1, m, nd, h1, h2, hk => by
    show bindC kindOf ((p, w) :: P.zip vs) m x = _
    unfold bindC
    exact bindC_get (i := i) (List.nodup_cons.mp nd).2 (by simpa using h1) (by simpa using h2) hk
noncomputable def start (N : List Str) (vs : List V) : St := vs.map some ++ List.replicate (N.length - vs.length) none
noncomputable def cxOf (CX : CXT) (P : Program) (w : World) (K : PySem.W.Frag) (mg : Str → Option Value) (base : Heap) (N : List Str) (qual : Str) (scope : Scope) (f : Addr) (cd : Value) (A : Around) (outer : List Env) (s : Shared) (H : Hp) (E : XK) : Cx where
  prog := P
  w := w
  K := K
  mg := mg
  base := base
  A := A.deeper (envOfC qual scope s.heap.objs.size f cd)
  N := N
  s₀ := s
  H₀ := H
  env := envOfC qual scope s.heap.objs.size f cd
  outer := outer
  stack := envOfC qual scope s.heap.objs.size f cd :: outer
  ex := []
  calm := true
  fn := fun _ => true
  pn := []
  xe := fun e s' => wpAny (model P w) (A.deeper (envOfC qual scope s.heap.objs.size f cd)) (leaving (envOfC qual scope s.heap.objs.size f cd) e) (fun _ s'' => CX outer H s E e s'') (fun e' s'' => CX outer H s E e' s'') s'
theorem cell_has {sc : Scope} {n : Nat} {x : Str} (h : sc.names.lookup x = some .cell) : ∃ c, (cellsFrom n sc.names []).lookup x = some c := by
  have q := PySem.W.cellsFrom_some sc.names n [] (.inl h)
  exact Option.isSome_iff_exists.mp q
theorem inv_start {CX : CXT} {P : Program} {w : World} {K : PySem.W.Frag} {mg : Str → Option Value} {base : Heap} {N ps : List Str} {qual : Str} {scope : Scope} {f : Addr} {cd : Value} {A : Around} {outer : List Env} {s s1 : Shared} {H : Hp} {E : XK} {us : List Value} {vs : List V}
    (S : FnScope N ps scope) (hd : A.handled = none) (e0 : Env0 P w K mg base A outer s H) (hl : vs.length = ps.length) (r : Vals vs us)
    (x : InCallC s s.heap.objs.size (bindL (envOfC qual scope s.heap.objs.size f cd).kindOf (ps.zip us) fun _ => none) (cellsFrom (s.heap.objs.size + 1) scope.names []) (bindC (envOfC qual scope s.heap.objs.size f cd).kindOf (ps.zip us) fun _ => none) s1) :
    Inv (cxOf CX P w K mg base N qual scope f cd A outer s H E) [] (start N vs) H s1 := by
  have hpl : ps.length ≤ N.length := by have := congrArg List.length S.pre; rw [List.length_take] at this; lia
  refine L2.ob_eea x.done fun h1 tk e_2 hk => ?_; subst e_2
  have noA : ∀ b : Addr, b ∉ (cxOf CX P w K mg base N qual scope f cd A outer s H E).ex := fun b z => absurd (show b ∈ ([] : List Addr) from z) (by simp)
  refine ⟨⟨e0.mod, S.kind, rfl, rfl, Nat.le_refl _, fun y z c h1 h2 => ?_, fun y hy => ?_, fun y c _ h => ?_, fun _ => hd, Around.frames_deeper e0.frames, .inr ⟨rfl, rfl⟩, fun b z => absurd z (noA b), e0.bs, e0.bsz, fun b _ _ => noA b, fun b z => absurd z (noA b), e0.funs, e0.frf⟩,
    rfl, e0.bare, Un.kept hk, ⟨_, x.toInCall.ns, fun i y v h1 h2 h3 => ?_⟩, fun y c h => ⟨_, x.cell y c h⟩, e0.hok.fresh (Nat.le_refl _), fun y c h => ?_, fun p hp => absurd (show p ∈ ([] : List (Addr × Obj)) from hp) (by simp), e0.hok.kept hk, ?_⟩
  · exact name_of_addr x.apart (PySem.mem_of_lookup h1) (PySem.mem_of_lookup h2)
  · have hy : scope.names.lookup y = some .cell ∨ scope.names.lookup y = some .free := hy
    rcases hy with hy | hy
    · exact cell_has hy
    · exact absurd rfl (S.nofree _ (PySem.mem_of_lookup hy))
  · exact Nat.le_of_lt (x.above y c (PySem.mem_of_lookup h))
  · have hi : i < vs.length := by
      unfold start at h2
      by_cases hi : i < vs.length
      · exact hi
      · rw [List.getElem?_append_right (by simpa using hi)] at h2
        rw [List.getElem?_replicate] at h2
        split at h2 <;> cases h2
    have ha : vs[i]? = some v := by
      unfold start at h2
      rw [List.getElem?_append_left (by simpa using hi), List.getElem?_map] at h2
      cases e : vs[i]? with
      | none => rw [e] at h2; cases h2
      | some a => rw [e] at h2; cases h2; rfl
    refine L2.ob_ea (r.get ha) fun u hu rv => ?_
    have hp : ps[i]? = some y := by
      rw [← S.pre, List.getElem?_take_of_lt (by lia)]; exact h1
    have ndP : ps.Nodup := by rw [← S.pre]; exact S.nd.sublist (List.take_sublist _ _)
    refine ⟨u, rv, ?_⟩
    rcases S.par y (List.mem_of_getElem? hp) with k | k
    · exact .inl ⟨k, bindL_get ndP hp hu k⟩
    · obtain ⟨c, e⟩ := cell_has (n := s.heap.objs.size + 1) k
      refine .inr ⟨.inl k, c, e, ?_⟩
      have q := x.cell y c e
      rw [bindC_get ndP hp hu (by show scope.names.lookup y ≠ _; rw [k]; decide)] at q
      exact q
  · exact e0.hok.fresh (Nat.le_of_lt (x.above y c (PySem.mem_of_lookup h)))
  · unfold start
    show _ = N.length
    rw [List.length_append, List.length_map, List.length_replicate]
    lia
theorem fn_of {CX : CXT} {P : Program} {w : World} {K : PySem.W.Frag} {mg : Str → Option Value} {base : Heap} {k : Nat} {f : Addr} {name qual : Str} {params : Arguments} {body : List Stmt} {scope : Scope} {dV kV doc pm cdv ct oc : Value} {an od : Option Addr}
    {osl : Array (Option Value)} {N ps : List Str} {sp : Sp} (lk : K.lookup f = some ⟨oc, od, .func (PySem.W.fnOf name qual params body scope dV kV doc pm an cdv ct), osl⟩) (hcd : PySem.W.codeIn K cdv qual = true) (S : FnScope N ps scope)
    (len : ∀ vs H Q E, sp vs H Q E → vs.length = ps.length)
    (hbody : ∀ (A : Around) (outer : List Env) (s : Shared) (H : Hp) (vs : List V) (Q : VK) (E : XK), Room k (A.deeper (envOfC qual scope s.heap.objs.size f cdv)) → sp vs H Q E →
      ∃ t, PSs (cxOf CX P w K mg base N qual scope f cdv A outer s H E) body t ∧ t { nx := fun _ H' => Q .non H', rt := Q } (start N vs) H) :
    FnOk P w K mg base CX (k + 1) f (PySem.W.fnOf name qual params body scope dV kV doc pm an cdv ct) ps sp := by
  refine ⟨len, fun A outer s H args us vs Q E hr e0 hb r hsp => ?_⟩
  have hl := len _ _ _ _ hsp
  have KX : K.In s.heap := e0.mod.kin.keeps fun b o e => (e0.bs b o e).1
  have lim : s.heap.NoLimit := e0.mod.nolimit.keeps fun b o e => (e0.bs b o e).1
  have hkind : ∀ y ∈ ps.zip us, scope.names.lookup y.1 = some .local ∨ (scope.names.lookup y.1 = some .cell ∧ ((cellsFrom (s.heap.objs.size + 1) scope.names []).lookup y.1).isSome = true) := fun ⟨n, v⟩ hy => by
    rcases S.par n (List.of_mem_zip hy).1 with q | q
    · exact .inl q
    · exact .inr ⟨q, PySem.W.cellsFrom_some _ _ _ (.inl q)⟩
  refine codeAny_call_function hr.depth (KX _ _ lk) rfl S.co S.gen rfl (PySem.W.codeRec_of KX hcd) (hb _ _ _ _ ?_)
  refine wpAny_newFunctionEnv_cells S.kind hkind fun env he s1 x => ?_
  subst he
  refine ⟨lim.keeps x.toInCall.keep, codeAny_func ?_⟩
  refine L2.ob_ea (hbody A outer s H vs Q E (hr.deeper _) hsp) fun t ht hq => ?_
  have I : Inv (cxOf CX P w K mg base N qual scope f cdv A outer s H E) [] (start N vs) H s1 := inv_start S hr.hd e0 hl r x
  refine wpAny_mono (ht [] s1 (start N vs) H _ I hq) (fun fl s' hs => ?_) fun e s' hs => hs
  have fin : ∀ {σ' : St} {H' : Hp} {v : V} {u : Value}, Inv (cxOf CX P w K mg base N qual scope f cdv A outer s H E) [] σ' H' s' → RelV v u → Q v H' → CE outer P w H s Q u s' :=
    fun {σ' H' v u} J rv q => ⟨v, H', J.os, J.bare, J.base, J.hok, rv, q⟩
  cases fl with
  | ret u =>
    obtain ⟨v, σ', H', J, rv, q⟩ := hs
    exact fin J rv q
  | next =>
    obtain ⟨σ', H', J, q⟩ := hs
    exact fin (v := V.non) (u := Value.none) J rfl q
  | brk =>
    obtain ⟨_, _, _, q⟩ := hs
    exact False.elim q
  | cont =>
    obtain ⟨_, _, _, q⟩ := hs
    exact False.elim q
end L2

namespace L2
open PySem PySem.Spec PyProof.Rows
section
variable {X : Cx} {x : Str} {p pos : Pos} {e : Expr} {es : List Expr} {t : TA} {id T : String} {r : List V → Hp → VK → Prop}
noncomputable def tCB (r : List V → Hp → VK → Prop) (t : TA) : TE := fun σ H Q => t σ H fun vs H1 => r vs H1 Q
theorem pe_callB (hc : CallR X (.builtin id) r) (hg : Gl X x) (hm : X.mg x = none) (hv : bootBuiltins x = some (.builtin id)) (ha : PA X (e :: es) t) (hn : x ≠ "__name__" := by decide) (hdb : (x == ("__debug__" : Str)) = false := by decide)
    (he : starEach (e :: es) X.env = (false, eval e X.env) :: starEach es X.env := by rfl) (hpl : (backTo pos (starEach es X.env)).any (·.1) = false := by rfl) : PE X (.Call (.Name x p) (e :: es) [] pos) (tCB r t) := by
  intro pins s σ H Q I h
  refine wpAny_Call_Name_kw (ld_blt I hg hm hv ?_ hn hdb)
  exact PyProof.Rows.callWith_builtin1 (thn (ha pos pins s σ H _ I h) fun us s1 ⟨vs, H1, I1, r1, q1⟩ => hc pins s1 σ H1 vs us Q I1 r1 q1) he hpl
theorem pe_callTy (hc : CallR X (.type T) r) (hg : Gl X x) (hm : X.mg x = none) (hv : bootBuiltins x = some (.type T)) (ha : PA X (e :: es) t) (hn : x ≠ "__name__" := by decide) (hdb : (x == ("__debug__" : Str)) = false := by decide)
    (he : starEach (e :: es) X.env = (false, eval e X.env) :: starEach es X.env := by rfl) (hpl : (backTo pos (starEach es X.env)).any (·.1) = false := by rfl) : PE X (.Call (.Name x p) (e :: es) [] pos) (tCB r t) := by
  intro pins s σ H Q I h
  refine wpAny_Call_Name_kw (ld_blt I hg hm hv ?_ hn hdb)
  exact PyProof.Rows.callWith_type1 (thn (ha pos pins s σ H _ I h) fun us s1 ⟨vs, H1, I1, r1, q1⟩ => hc pins s1 σ H1 vs us Q I1 r1 q1) he hpl
end
end L2

namespace HT
open PySem PyProof.Rows
section
open PySem.SeqAt
open PySem.AutoSeq1 (wpAny_loadPart')
open PySem.MeetsSeq PySem.MeetsSeq2 PySem.MeetsSeq3
end

section
variable {prog : Program} {w : World} {A : Around} {E : Value → Shared → Prop} {s : Shared}
noncomputable def sIx (n d : Nat) : Option Int → Nat
  | none => d
  | some v => if v < 0 then (v + (n : Int)).toNat else min v.toNat n
theorem sIx_nat (n d k : Nat) : sIx n d (some (k : Int)) = min k n := by
  show (if (k : Int) < 0 then ((k : Int) + (n : Int)).toNat else min (k : Int).toNat n) = min k n
  rw [if_neg (by simp), Int.toNat_natCast]
end
end HT

namespace L2
open PySem PySem.Spec PyProof.Rows
noncomputable abbrev TO := St → Hp → (Option Int → Hp → Prop) → Prop
inductive POk (X : Cx) (pins : List (Addr × Obj)) (σ : St) (Q : Option Int → Hp → Prop) (u : Value) (s' : Shared) : Prop
  | mk : ∀ o H', Inv X pins σ H' s' → IsPart u o → Q o H' → POk X pins σ Q u s'
noncomputable def PO (X : Cx) (e : Option Expr) (t : TO) : Prop :=
  ∀ (pins : List (Addr × Obj)) (s : Shared) (σ : St) (H : Hp) (Q : Option Int → Hp → Prop), Inv X pins σ H s → t σ H Q →
    wpAny (model X.prog X.w) X.A (evalPart e X.env) (fun u s' => POk X pins σ Q u s') X.xe s
noncomputable def tNoPart : TO := fun _ H Q => Q none H
noncomputable def tPart_b (Q : Option Int → Hp → Prop) (x : V) (H1 : Hp) : Prop := onI x fun i => Q (some i) H1
theorem tPart_b.ex {Q : Option Int → Hp → Prop} {x : V} {H1 : Hp} (h : tPart_b Q x H1) : ∃ i, x = .int i ∧ Q (some i) H1 := onI.ex h
noncomputable def tPart (t : TE) : TO := fun σ H Q => t σ H (tPart_b Q)
section
variable {X : Cx} {e : Expr} {te : TE} {lo hi : Option Expr} {tl th : TO} {pos p2 : Pos}
theorem po_none : PO X none tNoPart := by
  intro pins s σ H Q I h
  rw [evalPart_none]
  exact wpAny_pure ⟨none, H, I, .none, h⟩
theorem po_some (h : PE X e te) : PO X (some e) (tPart te) := by
  intro pins s σ H Q I hw
  rw [evalPart_some]
  refine thn (h pins s σ H _ I hw) fun u s1 ⟨x, H1, I1, r1, q1⟩ => ?_
  obtain ⟨i, rfl, q⟩ := tPart_b.ex q1
  obtain ⟨t, rfl⟩ := r1
  exact ⟨some i, H1, I1, .int i t, q⟩
noncomputable def SlR (X : Cx) (r : V → Option Int → Option Int → Hp → VK → Prop) : Prop :=
  ∀ (pins : List (Addr × Obj)) (s : Shared) (σ : St) (H : Hp) (x : V) (v vl vu : Value) (lo hi : Option Int) (sl : Addr) (Q : VK), Inv X pins σ H s → RelV x v → s.heap.IsSliceOf sl vl vu .none → IsPart vl lo → IsPart vu hi → r x lo hi H Q →
    ∃ T id, typeLookup (.type T) "__getitem__" = pure (some (.builtin id)) ∧ s.TypeIs v T ∧ wpAny (model X.prog X.w) X.A (getItem v (.ref sl)) (EP X pins σ Q) X.xe s
noncomputable def tSl (r : V → Option Int → Option Int → Hp → VK → Prop) (te : TE) (tl th : TO) : TE := fun σ H Q => te σ H fun x H1 => tl σ H1 fun l H2 => th σ H2 fun u H3 => r x l u H3 Q
theorem pe_slice {r : V → Option Int → Option Int → Hp → VK → Prop} (hr : SlR X r) (he : PE X e te) (hl : PO X lo tl) (hu : PO X hi th) : PE X (.Subscript e (.Slice lo hi none p2) pos) (tSl r te tl th) := by
  intro pins s σ H Q I h
  refine Subscript_ (thn (he pins s σ H _ I h) fun v s1 ⟨x, H1, I1, r1, q1⟩ => ?_)
  refine wpAny_Slice (thn (hl pins s1 σ H1 _ I1 q1) fun vl s2 ⟨l, H2, I2, pl, q2⟩ => thn (hu pins s2 σ H2 _ I2 q2) fun vu s3 ⟨u, H3, I3, pu, q3⟩ => ?_)
  rw [evalPart_none]
  refine wpAny_pure ?_
  have I4 : Inv X pins σ H3 { s3 with heap := s3.heap.push { cls := .type "slice", data := .fields #[vl, vu, .none] } } := I3.kept (t' := s3.toks) fun b ob q => Heap.get?_push_of_some _ q
  refine L2.ob_eeaa (hr pins { s3 with heap := s3.heap.push { cls := .type "slice", data := .fields #[vl, vu, .none] } } σ H3 x v vl vu l u s3.heap.objs.size Q I4 r1 (Heap.IsSliceOf.new ..) pl pu q3) fun T id hT ht hg => ?_
  show wpAny (model X.prog X.w) X.A (subscriptTail e (.Slice lo hi none p2) v (.ref s3.heap.objs.size)) (EP X pins σ Q) X.xe { s3 with heap := s3.heap.push { cls := .type "slice", data := .fields #[vl, vu, .none] } }
  exact tail_any (ops := [.ref s3.heap.objs.size, v]) ht hT hg (by with_unfolding_all rfl)
noncomputable def cutV (xs : List V) (lo hi : Option Int) : List V := (xs.drop (HT.sIx xs.length 0 lo)).take (HT.sIx xs.length xs.length hi - HT.sIx xs.length 0 lo)
theorem cutV_length (xs : List V) (lo hi : Option Int) : (cutV xs lo hi).length ≤ xs.length := by
  unfold cutV
  rw [List.length_take, List.length_drop]
  lia
end
end L2

namespace L2
open PySem PySem.Spec PyProof.Rows
noncomputable def ixN (n : Nat) (i : Int) : Option Nat := if 0 ≤ i then (if i < n then some i.toNat else none) else if -(n : Int) ≤ i then some (i + n).toNat else none
noncomputable def atI {α : Type} (xs : List α) (i : Int) : Option α := (ixN xs.length i).bind fun j => xs[j]?
theorem ixN_seq {n : Nat} {i : Int} {j : Nat} (h : ixN n i = some j) : seqIndex? i n = some j ∧ j < n ∧ -(n : Int) ≤ i ∧ i < n := by
  unfold ixN at h
  by_cases h0 : 0 ≤ i
  · rw [if_pos h0] at h
    by_cases h1 : i < n
    · rw [if_pos h1] at h
      have e : i.toNat = j := Option.some.inj h
      exact ⟨by rw [seqIndex_of h0 h1, e], by lia, by lia, h1⟩
    · rw [if_neg h1] at h; cases h
  · rw [if_neg h0] at h
    by_cases h1 : -(n : Int) ≤ i
    · rw [if_pos h1] at h
      have e : (i + n).toNat = j := Option.some.inj h
      exact ⟨by rw [seqIndex_neg (by lia) h1, e], by lia, h1, by lia⟩
    · rw [if_neg h1] at h; cases h
theorem atI_get {α : Type} {xs : List α} {i : Int} {v : α} (h : atI xs i = some v) : ∃ j, seqIndex? i xs.length = some j ∧ xs[j]? = some v ∧ j < xs.length ∧ -(xs.length : Int) ≤ i ∧ i < xs.length := by
  unfold atI at h
  cases e : ixN xs.length i with
  | none => rw [e] at h; cases h
  | some j =>
    rw [e] at h
    refine L2.ob_aaa (ixN_seq e) fun h1 h2 h3 h4 => ?_
    exact ⟨j, h1, h, h2, h3, h4⟩
theorem atI_nat {α : Type} {xs : List α} {j : Nat} {v : α} (h : xs[j]? = some v) : atI xs (j : Int) = some v := by
  have hj : j < xs.length := (List.getElem?_eq_some_iff.mp h).1
  have e : ixN xs.length (j : Int) = some j := by
    unfold ixN
    rw [if_pos (by exact Int.natCast_nonneg _), if_pos (by lia)]; simp
  unfold atI; rw [e]; exact h
noncomputable def PlainIx (b : Expr) : Prop := ∀ o i, subscripted b false o i = operate [o, i] (getItem o i)
noncomputable def IxR (X : Cx) (r : R2) : Prop :=
  ∀ (value slice : Expr) (pins : List (Addr × Obj)) (s : Shared) (σ : St) (H : Hp) (x y : V) (v u : Value) (Q : VK), Inv X pins σ H s → RelV x v → RelV y u → r x y H Q →
    subscripted slice false v u = operate [v, u] (getItem v u) → wpAny (model X.prog X.w) X.A (subscriptTail value slice v u) (EP X pins σ Q) X.xe s
noncomputable def MtR (X : Cx) (id : String) (r : V → List V → Hp → VK → Prop) : Prop :=
  ∀ (pins : List (Addr × Obj)) (s : Shared) (σ : St) (H : Hp) (x : V) (xs : List V) (v : Value) (us : List Value) (Q : VK), Inv X pins σ H s → RelV x v → Vals xs us → r x xs H Q →
    wpAny (model X.prog X.w) X.A (call (.builtin id) (v :: us)) (EP X pins σ Q) X.xe s
section
variable {X : Cx} {a b : Expr} {ta tb : TE} {pos : Pos}
theorem pe_ix {r : R2} (hr : IxR X r) (ha : PE X a ta) (hb : PE X b tb) (hs : PlainIx b) : PE X (.Subscript a b pos) (tOp r ta tb) := by
  intro pins s σ H Q I h
  exact Subscript_ (binT ha hb I h fun v u s2 x y H2 I2 rx ry q => hr a b pins s2 σ H2 x y v u Q I2 rx ry q (hs _ _))
inductive rIxL (K : PySem.W.Frag) (x : V) (y : V) (H : Hp) (Q : VK) : Prop
  | mk : ∀ p xs i v, (x = .ref p) → (y = .int i) → (SqL K H p xs) → (atI xs i = some v) → (Q v H) → rIxL K x y H Q
inductive rIxT (K : PySem.W.Frag) (x : V) (y : V) (H : Hp) (Q : VK) : Prop
  | mk : ∀ p xs i v, (x = .ref p) → (y = .int i) → (SqT K H p xs) → (atI xs i = some v) → (Q v H) → rIxT K x y H Q
inductive rIxS  (x : V) (y : V) (H : Hp) (Q : VK) : Prop
  | mk : ∀ z i c, (x = .str z) → (y = .int i) → (z.length ≤ sizeLine) → (atI z.cps.toList i = some c) → (Q (.str ⟨#[c]⟩) H) → rIxS x y H Q
theorem ix_list : IxR X (rIxL X.K) := by
  intro value slice pins s σ H x y v u Q I rx ry h hs
  obtain ⟨p, xs, i, z, rfl, rfl, hq, he, q⟩ := h
  cases rx
  obtain ⟨t, rfl⟩ := ry
  refine L2.ob_eaa (I.list hq) fun its r pl hz => ?_
  refine L2.ob_eaaaa (atI_get he) fun j h1 h2 h3 h4 h5 => ?_
  refine L2.ob_ea (r.get h2) fun w ew rw' => ?_
  have hl := r.length
  have hn := line63
  have fin : EP X pins σ Q w s := ⟨z, H, I, rw', q⟩
  by_cases h0 : 0 ≤ i
  · have hj : i.toNat = j := by
      rw [seqIndex_of h0 h5] at h1
      exact Option.some.inj h1
    exact item_listR pl.isList h0 (by lia) (by rw [hj]; simpa using ew) fin hs
  · have hj : (i + (its.toArray.size : Int)).toNat = j := by
      rw [seqIndex_neg (by lia) h4] at h1
      rw [List.size_toArray, ← hl]
      exact Option.some.inj h1
    exact subscriptTail_builtinR (x := w) pl.isList.typeIs slot_list_getitem.lookup
      (wpAny_getItem_list_neg (Q := fun r s' => r = w ∧ EP X pins σ Q r s') pl.isList (by lia) (by rw [List.size_toArray] <;> lia) (by lia) (by rw [hj]; simpa using ew) ⟨rfl, fin⟩) hs
theorem ix_tup : IxR X (rIxT X.K) := by
  intro value slice pins s σ H x y v u Q I rx ry h hs
  obtain ⟨p, xs, i, z, rfl, rfl, hq, he, q⟩ := h
  cases rx
  obtain ⟨t, rfl⟩ := ry
  refine L2.ob_eaa (I.tuple hq) fun its r pl hz => ?_
  refine L2.ob_eaaaa (atI_get he) fun j h1 h2 h3 h4 h5 => ?_
  refine L2.ob_ea (r.get h2) fun w ew rw' => ?_
  have hl := r.length
  have hn := line63
  have fin : EP X pins σ Q w s := ⟨z, H, I, rw', q⟩
  exact subscriptTail_builtinR (x := w) pl.typeIs slot_tuple_getitem.lookup
    (getItem_tuple (j := j) (Q := fun r s' => r = w ∧ EP X pins σ Q r s') pl (by lia) (by lia) (by rw [List.size_toArray, ← hl]; exact h1) (by simpa using ew) ⟨rfl, fin⟩) hs
theorem ix_str : IxR X rIxS := by
  intro value slice pins s σ H x y v u Q I rx ry h hs
  obtain ⟨z, i, c, rfl, rfl, hz, he, q⟩ := h
  obtain ⟨t, rfl⟩ := rx
  obtain ⟨t', rfl⟩ := ry
  refine L2.ob_eaaaa (atI_get he) fun j h1 h2 h3 h4 h5 => ?_
  have hl : z.cps.toList.length = z.length := by simp [Str.length]
  rw [hl] at h1 h4 h5
  have hn := line63
  exact tail_any (typeIs_str s z t) slot_str_getitem.lookup (getItem_str (c := c) (by
    have e1 : decide (i < -(2 ^ 63 : Int)) = false := decide_eq_false (by lia)
    have e2 : decide (i ≥ 2 ^ 63) = false := decide_eq_false (by lia)
    rw [e1, e2, Bool.or_false]) (by rw [h1]; simpa using h2) ⟨.str ⟨#[c]⟩, H, I.tok _, ⟨_, rfl⟩, q⟩) hs
theorem slice_bounds (lo hi : Option Int) (n : Nat) : (sliceBounds lo hi none n).1 = ((HT.sIx n 0 lo : Nat) : Int) ∧ (sliceBounds lo hi none n).2.1 = ((HT.sIx n n hi : Nat) : Int) ∧ (sliceBounds lo hi none n).2.2 = 1 := by
  refine ⟨?_, ?_, rfl⟩
  · cases lo with
    | none => simp [sliceBounds, HT.sIx]
    | some i =>
      simp only [sliceBounds, HT.sIx, Option.getD_none, show (1 : Int) > 0 by decide, if_true]
      by_cases h : i < 0
      · simp only [h, if_true] <;> lia
      · simp only [h, if_false] <;> lia
  · cases hi with
    | none => simp [sliceBounds, HT.sIx]
    | some i =>
      simp only [sliceBounds, HT.sIx, Option.getD_none, show (1 : Int) > 0 by decide, if_true]
      by_cases h : i < 0
      · simp only [h, if_true] <;> lia
      · simp only [h, if_false] <;> lia
theorem slicePick_cut (its : List Value) (lo hi : Option Int) : slicePick its.toArray lo hi none = ((its.drop (HT.sIx its.length 0 lo)).take (HT.sIx its.length its.length hi - HT.sIx its.length 0 lo)).toArray := by
  refine L2.ob_aa (slice_bounds lo hi its.toArray.size) fun h1 h2 h3 => ?_
  unfold slicePick
  rw [h1, h2, h3]
  simp only [sliceRange_one, pick_run, List.size_toArray] <;> rfl
inductive rSlL (K : PySem.W.Frag) (x : V) (lo : Option Int) (hi : Option Int) (H : Hp) (Q : VK) : Prop
  | mk : ∀ a xs, (x = .ref a) → (SqL K H a xs) → (∀ p, H p = none → Q (.ref p) (upd H p (.lst (cutV xs lo hi)))) → rSlL K x lo hi H Q
theorem sl_list : SlR X (rSlL X.K) := by
  intro pins s σ H x v vl vu lo hi sl Q I rx hs pl pu h
  obtain ⟨a, xs, rfl, hx, q⟩ := h
  cases rx
  refine L2.ob_eaa (I.list hx) fun its r ht hz => ?_
  have hlen := r.length
  refine ⟨"list", _, slot_list_getitem.lookup, ht.isList.typeIs, ?_⟩
  refine wpAny_getItem_list_slice ht.isList hs pl pu .none (by simp) ?_ (by rw [List.size_toArray] <;> lia)
  rw [slicePick_cut, ← hlen]
  refine ⟨.ref s.heap.objs.size, _, I.laid (t' := s.toks) (o := .lst (cutV xs lo hi)) (fun b ob q => Heap.get?_push_of_some _ q) (Nat.le_refl _) ?_, rfl, q _ (I.hok.fresh (Nat.le_refl _))⟩
  exact ⟨Nat.le_trans (cutV_length xs lo hi) hz, _, 0, (r.drop (HT.sIx xs.length 0 lo)).take (HT.sIx xs.length xs.length hi - HT.sIx xs.length 0 lo), Heap.get?_push_size _ rfl⟩
noncomputable def flatV : V → Bool
  | .non => true
  | .bl _ => true
  | .int _ => true
  | .str _ => true
  | _ => false
noncomputable def eqV : V → V → Bool
  | .non, .non => true
  | .bl a, .bl b => a == b
  | .bl a, .int b => (if a then 1 else 0) == b
  | .int a, .bl b => a == (if b then 1 else 0)
  | .int a, .int b => a == b
  | .str a, .str b => a == b
  | _, _ => false
theorem eqAt_V {A : Around} {s : Shared} {y x : V} {u v : Value} (ry : RelV y u) (rx : RelV x v) (fy : flatV y = true) (fx : flatV x = true) : SeqAt.EqAt A s u v (eqV y x) := by
  cases y with
  | non =>
    cases ry
    cases x with
    | non => cases rx; exact SeqAt.EqAt.same _
    | bl b => cases rx; exact SeqAt.EqAt.none_bool b
    | int b => obtain ⟨t, rfl⟩ := rx; exact SeqAt.EqAt.none_int b t
    | str b => obtain ⟨t, rfl⟩ := rx; exact SeqAt.EqAt.none_str b t
    | _ => exact absurd (show false = true from fx) Bool.false_ne_true
  | bl a =>
    cases ry
    cases x with
    | non => cases rx; exact SeqAt.EqAt.bool_none a
    | bl b => cases rx; exact SeqAt.EqAt.bool_bool a b
    | int b => obtain ⟨t, rfl⟩ := rx; exact SeqAt.EqAt.bool_int a b t
    | str b => obtain ⟨t, rfl⟩ := rx; exact SeqAt.EqAt.bool_str a b t
    | _ => exact absurd (show false = true from fx) Bool.false_ne_true
  | int a =>
    obtain ⟨t', rfl⟩ := ry
    cases x with
    | non => cases rx; exact SeqAt.EqAt.int_none a t'
    | bl b => cases rx; exact SeqAt.EqAt.int_bool a t' b
    | int b => obtain ⟨t, rfl⟩ := rx; exact SeqAt.EqAt.int_int a t' b t
    | str b => obtain ⟨t, rfl⟩ := rx; exact SeqAt.EqAt.int_str a t' b t
    | _ => exact absurd (show false = true from fx) Bool.false_ne_true
  | str a =>
    obtain ⟨t', rfl⟩ := ry
    cases x with
    | non => cases rx; exact SeqAt.EqAt.str_none a t'
    | bl b => cases rx; exact SeqAt.EqAt.str_bool a t' b
    | int b => obtain ⟨t, rfl⟩ := rx; exact SeqAt.EqAt.str_int a t' b t
    | str b => obtain ⟨t, rfl⟩ := rx; exact SeqAt.EqAt.str_str a t' b t
    | _ => exact absurd (show false = true from fx) Bool.false_ne_true
  | _ => exact absurd (show false = true from fy) Bool.false_ne_true
noncomputable def eqU (x : V) (u : Value) : Bool := match u with
  | .none => eqV .non x
  | .bool b => eqV (.bl b) x
  | .int i _ => eqV (.int i) x
  | .str z _ => eqV (.str z) x
  | _ => false
theorem eqU_of {x y : V} {u : Value} (r : RelV y u) (f : flatV y = true) : eqU x u = eqV y x := by
  cases y with
  | non => cases r; rfl
  | bl b => cases r; rfl
  | int i => obtain ⟨t, rfl⟩ := r; rfl
  | str z => obtain ⟨t, rfl⟩ := r; rfl
  | _ => exact absurd (show false = true from f) Bool.false_ne_true
theorem mem_eqAt {A : Around} {s : Shared} {x : V} {v : Value} (rx : RelV x v) (fx : flatV x = true) : ∀ {xs : List V} {us : List Value}, Vals xs us → xs.all flatV = true → ∀ u ∈ us, SeqAt.EqAt A s u v (eqU x u)
  | _, _, .nil, _ => fun u hu => by cases hu
  | y :: xs, u :: us, .cons r t, f => fun u' hu => by
    rw [List.all_cons, Bool.and_eq_true] at f
    rcases List.mem_cons.mp hu with rfl | hu
    · rw [eqU_of r f.1]; exact eqAt_V r rx f.1 fx
    · exact mem_eqAt rx fx t f.2 u' hu
inductive r_call_len_seq (K : PySem.W.Frag) (xs : List V) (H : Hp) (Q : VK) : Prop
  | mk : ∀ p ys, (xs = [.ref p]) → ((SqL K H p ys ∨ SqT K H p ys)) → (Q (.int ys.length) H) → r_call_len_seq K xs H Q
theorem call_len_seq : CallR X (.builtin "len") (r_call_len_seq X.K) := by
  intro pins s σ H xs us Q I r h
  obtain ⟨p, ys, rfl, hq, q⟩ := h
  refine L2.ob_ea (vals1 r) fun u e_1 rx => ?_; subst e_1
  cases rx
  have hn := line63
  rcases hq with hq | hq
  · refine L2.ob_eaa (I.list hq) fun its r' pl hz => ?_
    have hlen := r'.length
    exact Calls.call_len_list pl.isList (by simp only [List.size_toArray] <;> lia) ⟨.int ys.length, H, I.tok _, ⟨s.toks + 1, by rw [List.size_toArray, hlen]⟩, q⟩
  · refine L2.ob_eaa (I.tuple hq) fun its r' pl hz => ?_
    have hlen := r'.length
    exact len_tuple pl (by simp only [List.size_toArray] <;> lia) ⟨.int ys.length, H, I.tok _, ⟨s.toks + 1, by rw [List.size_toArray, hlen]⟩, q⟩
inductive r_call_len_str (xs : List V) (H : Hp) (Q : VK) : Prop
  | mk : ∀ z, (xs = [.str z]) → (z.length ≤ sizeLine) → (Q (.int z.length) H) → r_call_len_str xs H Q
theorem call_len_str : CallR X (.builtin "len") r_call_len_str := by
  intro pins s σ H xs us Q I r h
  obtain ⟨z, rfl, hz, q⟩ := h
  obtain ⟨u, rfl, t, rfl⟩ := vals1 r
  have hn := line63
  exact len_str (by lia) ⟨.int z.length, H, I.tok _, ⟨_, rfl⟩, q⟩
inductive r_call_tuple_of (K : PySem.W.Frag) (xs : List V) (H : Hp) (Q : VK) : Prop
  | mk : ∀ p ys, (xs = [.ref p]) → (((SqL K H p ys ∧ ∀ l, H l = none → Q (.ref l) (upd H l (.tup ys))) ∨ (SqT K H p ys ∧ Q (.ref p) H))) → r_call_tuple_of K xs H Q
theorem call_tuple_of : CallR X (.type "tuple") (r_call_tuple_of X.K) := by
  intro pins s σ H xs us Q I r h
  obtain ⟨p, ys, rfl, h⟩ := h
  refine L2.ob_ea (vals1 r) fun u e_1 rx => ?_; subst e_1
  cases rx
  rcases h with ⟨hq, q⟩ | ⟨hq, q⟩
  · refine L2.ob_eaa (I.list hq) fun its r' pl hz => ?_
    have hlen := r'.length
    refine call_tuple_list pl.isList (fun h' kp => ?_) (by simp only [List.size_toArray] <;> lia)
    have I1 : Inv X pins σ H { s with heap := h' } := I.kept (t' := s.toks) kp
    have I2 : Inv X pins σ (upd H h'.objs.size (.tup ys)) { s with heap := h'.push { cls := .type "tuple", data := .seq its.toArray } } :=
      I1.laid (t' := s.toks) (fun b o e => Heap.get?_push_of_some _ e) (Nat.le_refl _) (show ObjOk X.prog X.w _ _ _ (.tup ys) from ⟨hz, its, r', IsTup.new _ _⟩)
    exact ⟨.ref h'.objs.size, _, I2, rfl, q _ (I1.hok.fresh (Nat.le_refl _))⟩
  · refine L2.ob_eaa (I.tuple hq) fun its r' pl hz => ?_
    exact call_tuple_same pl ⟨.ref p, H, I, rfl, q⟩
noncomputable def tyV (K : PySem.W.Frag) (T : String) (x : V) (H : Hp) : Prop := match x with
  | .str _ => T = "str"
  | .int _ => T = "int"
  | .ref p => (T = "list" ∧ ∃ xs, SqL K H p xs) ∨ (T = "tuple" ∧ ∃ o, K.lookup p = some o ∧ o.cls = .type "tuple" ∧ o.dict = none) ∨
      (T = "dict" ∧ ((∃ kvs, H p = some (.dK kvs)) ∨ ∃ kvs, H p = some (.dT kvs))) ∨ (T = "set" ∧ ∃ S n, H p = some (.set S n))
  | _ => False
theorem tyV_is {pins : List (Addr × Obj)} {σ : St} {H : Hp} {s : Shared} {T : String} {x : V} {v : Value} (I : Inv X pins σ H s) (r : RelV x v) (ty : tyV X.K T x H) :
    s.TypeIs v T ∧ ∀ a, v = .ref a → ∃ ob, s.heap.get? a = some ob ∧ ob.dict = none := by
  cases x with
  | str z =>
    obtain ⟨t, rfl⟩ := r
    cases (show T = "str" from ty)
    exact ⟨typeIs_str s z t, fun _ e => nomatch e⟩
  | int i =>
    obtain ⟨t, rfl⟩ := r
    cases (show T = "int" from ty)
    exact ⟨typeIs_int s i t, fun _ e => nomatch e⟩
  | ref p =>
    cases r
    rcases ty with ⟨rfl, xs, hq⟩ | ⟨rfl, o, hk, hc, hd⟩ | ⟨rfl, hk⟩ | ⟨rfl, S, n, hk⟩
    · refine L2.ob_eaa (I.list hq) fun its _ pl _ => ?_
      refine ⟨pl.isList.typeIs, fun a e => ?_⟩
      cases e
      obtain ⟨o, n, e, c, hd, _⟩ := pl
      exact ⟨o, e, hd⟩
    · refine ⟨⟨o, I.kIn p o hk, hc⟩, fun a e => ?_⟩
      cases e
      exact ⟨o, I.kIn _ o hk, hd⟩
    · have z : ∃ o, s.heap.get? p = some o ∧ o.ExactDict := by
        rcases hk with ⟨kvs, hk⟩ | ⟨kvs, hk⟩
        · obtain ⟨_, _, _, _, o, _, _, e, ex, _⟩ := I.hok p _ hk
          exact ⟨o, e, ex⟩
        · obtain ⟨_, _, _, _, o, _, _, e, ex, _⟩ := I.hok p _ hk
          exact ⟨o, e, ex⟩
      refine L2.ob_ea z fun o e ex => ?_
      refine ⟨⟨o, e, ex.1⟩, fun a e2 => ?_⟩
      cases e2
      exact ⟨o, e, ex.2.1⟩
    · obtain ⟨o, _, _, _, e, ex, _⟩ := I.hok p _ hk
      refine ⟨⟨o, e, ex.1⟩, fun a e2 => ?_⟩
      cases e2
      exact ⟨o, e, ex.2.1⟩
  | _ => exact False.elim ty
inductive tBM_b (K : PySem.W.Frag) (T : String) (r : V → List V → Hp → VK → Prop) (t : TA) (σ : St) (Q : VK) (x : V) (H1 : Hp) : Prop
  | mk : (tyV K T x H1) → (t σ H1 fun xs H2 => r x xs H2 Q) → tBM_b K T r t σ Q x H1
noncomputable def tBM (K : PySem.W.Frag) (T : String) (r : V → List V → Hp → VK → Prop) (to : TE) (t : TA) : TE := fun σ H Q => to σ H fun x H1 => tBM_b K T r t σ Q x H1
variable {o e : Expr} {es : List Expr} {to : TE} {t : TA} {name : Str} {apos cpos : Pos} {T id : String} {r : V → List V → Hp → VK → Prop}
theorem pe_bm (pa : PlainAttrs T) (slot : Slot T name id) (hty : typeOf (.builtin id) = pure (.type "method_descriptor")) (hm : MtR X id r) (ho : PE X o to) (ha : PA X (e :: es) t)
    (hbase : attributeBase o name X.env (eval o X.env) = eval o X.env := by rfl)
    (hfew : ((backTo cpos (starEach (e :: es) X.env)).all (fun x => !x.1) && (backToKw cpos (keywordEach [] X.env)).all (fun x => x.1.isSome)
      && decide ((e :: es).length + ([] : List Keyword).length + (if ([] : List Keyword).isEmpty then 0 else 1) < 30)) = true := by rfl)
    (hline : (apos.endLine == cpos.line) = true := by rfl) (hs : starEach (e :: es) X.env = (false, eval e X.env) :: starEach es X.env := by rfl) (hplain : (backTo cpos (starEach es X.env)).any (·.1) = false := by rfl) :
    PE X (.Call (.Attribute o name apos) (e :: es) [] cpos) (tBM X.K T r to t) := by
  intro pins s σ H Q I h
  refine wpAny_Call_method_late hbase hfew hline rfl (thn (ho pins s σ H _ I h) fun v s1 ⟨x, H1, I1, r1, ty, q1⟩ => ?_)
  obtain ⟨h1, h2⟩ := tyV_is I1 r1 ty
  refine ⟨T, id, pa, slot, hty, h1, h2, ?_⟩
  have hA := ha cpos pins s1 σ H1 _ I1 q1
  rw [hs] at hA ⊢
  refine Calls.callWith_builtin (by show (false || (backTo cpos (starEach es X.env)).any (·.1)) = false; rw [hplain] <;> rfl) (Calls.evalArgs_plain ?_)
  exact thn hA fun us s2 ⟨vs, H2, I2, r2, q2⟩ => hm pins s2 σ H2 x vs v us Q I2 r1 r2 q2
end
end L2

namespace L2
open PySem PySem.Spec PyProof.Rows
noncomputable def MtM (X : Cx) (id : String) (r : V → List V → Hp → VK → Prop) : Prop :=
  ∀ (pins : List (Addr × Obj)) (s : Shared) (σ : St) (H : Hp) (x : V) (xs : List V) (v : Value) (us : List Value) (Q : VK), Inv X pins σ H s → RelV x v → Vals xs us → r x xs H Q →
    wpAny (model X.prog X.w) X.A (call (.builtin id) (v :: us)) (EP X pins σ Q) X.xe s
theorem Vals.one {x : V} {us : List Value} (h : Vals [x] us) : ∃ u, us = [u] ∧ RelV x u := vals1 h
theorem Vals.zero : ∀ {us : List Value}, Vals [] us → us = []
  | _, .nil => rfl
section
variable {X : Cx} {pins : List (Addr × Obj)} {σ : St} {H : Hp} {s : Shared} {l b : Addr} {xs ys zs : List V}
theorem Inv.lset {its its' : List Value} {n : Nat} {f : Array Value → Array Value} {t' : Nat} (I : Inv X pins σ H s) (hH : H l = some (.lst xs))
    (e : s.heap.get? l = some { cls := .type "list", data := .seq its.toArray n }) (hf : f its.toArray = its'.toArray) (hv : Vals ys its') (hz : ys.length ≤ sizeLine) :
    Inv X pins σ (upd H l (.lst ys)) { s with heap := s.heap.update l (Obj.mapSeq f), toks := t' } := by
  have q := PySem.IsL.update e f
  rw [hf] at q
  refine I.write (x := l) (e := l) (by rw [hH]; exact trivial) (.inl rfl) (fun b' u hb hu => (Heap.get?_update_other s.heap (Obj.mapSeq f) (Ne.symm hb)).trans hu) ⟨_, q⟩ ?_
  exact ⟨hz, its', _, hv, q⟩
theorem Inv.lnew {its : List Value} {t' : Nat} (I : Inv X pins σ H s) (hv : Vals ys its) (hz : ys.length ≤ sizeLine) :
    Inv X pins σ (upd H s.heap.objs.size (.lst ys)) { s with heap := s.heap.push { cls := .type "list", data := .seq its.toArray }, toks := t' } :=
  I.laid (fun _ _ q => Heap.get?_push_of_some _ q) (Nat.le_refl _) ⟨hz, its, 0, hv, Heap.get?_push_size _ rfl⟩
theorem Inv.fresh (I : Inv X pins σ H s) : H s.heap.objs.size = none := I.hok.fresh (Nat.le_refl _)
theorem Inv.lstM (I : Inv X pins σ H s) (hH : H l = some (.lst xs)) : xs.length ≤ sizeLine ∧ ∃ (its : List Value) (n : Nat), Vals xs its ∧ xs.length = its.length ∧ s.heap.get? l = some { cls := .type "list", data := .seq its.toArray n } := by
  obtain ⟨z, its, n, r, e⟩ := I.hok l _ hH
  exact ⟨z, its, n, r, r.length, e⟩
end

section
variable {X : Cx}
inductive rAppend  (x : V) (vs : List V) (H : Hp) (Q : VK) : Prop
  | mk : ∀ l xs y, (x = .ref l) → (vs = [y]) → (H l = some (.lst xs)) → (xs.length < sizeLine) → (Q .non (upd H l (.lst (xs ++ [y])))) → rAppend x vs H Q
theorem mt_append : MtM X "list.append" rAppend := by
  intro pins s σ H x vs v us Q I rx rv h
  obtain ⟨l, xs, y, rfl, rfl, hH, hz, q⟩ := h
  cases rx
  refine L2.ob_ea rv.one fun u e_1 ru => ?_; subst e_1
  refine L2.ob_aeeaa (I.lstM hH) fun z its n r hl e => ?_
  refine call_meets F.slot_list_append ⟨_, e, rfl⟩ F.entry_list_append (F.args_list_append_2 _ _) (PySem.list_append l its.toArray n u (by rw [List.size_toArray]; lia)) ⟨e, ?_⟩
  refine ⟨.non, _, I.lset (its' := its ++ [u]) hH e (by simp) (r.append (.cons ru .nil)) ?_, rfl, q⟩
  rw [List.length_append, List.length_singleton]
  lia
inductive rCat  (x : V) (y : V) (H : Hp) (Q : VK) : Prop
  | mk : ∀ l b xs zs, (x = .ref l) → (y = .ref b) → (H l = some (.lst xs)) → (H b = some (.lst zs)) → (xs.length + zs.length ≤ sizeLine) → (∀ p, H p = none → Q (.ref p) (upd H p (.lst (xs ++ zs)))) → rCat x y H Q
theorem op_cat : OpR X (binaryOp .Add) rCat := by
  intro pins s σ H x y v u Q I rx ry h
  obtain ⟨l, b, xs, zs, rfl, rfl, hH, hB, hz, q⟩ := h
  cases rx
  cases ry
  refine L2.ob_aeeaa (I.lstM hH) fun z its n r hl e => ?_
  refine L2.ob_aeeaa (I.lstM hB) fun z2 its2 n2 r2 hl2 e2 => ?_
  refine PySem.P.add_list e e2 ?_ (by rw [List.size_toArray, List.size_toArray]; lia)
  have ea : its.toArray ++ its2.toArray = (its ++ its2).toArray := by simp
  rw [ea]
  exact ⟨.ref _, _, I.lnew (t' := s.toks) (r.append r2) (by rw [List.length_append]; lia), rfl, q _ I.fresh⟩
end

section
variable {prog : Program} {w : World} {A : Around} {E : Value → Shared → Prop} {s : Shared}
set_option maxRecDepth 100000 in
end

section
variable {X : Cx}
end
end L2

namespace Att
open PySem PySem.W PySem.Calls PyProof.Rows
theorem ints_of_wellAll {P : Params} {h : Heap} : ∀ (ns : List Int) (vs : List Value), WellAll P h vs (ns.map WData.int) → IntsAre vs ns := by
  intro ns
  induction ns with
  | nil =>
    intro vs w
    rw [List.map_nil] at w
    cases w
    exact .nil
  | cons n ns ih =>
    intro vs w
    rw [List.map_cons] at w
    cases w with
    | cons a b =>
      cases a
      exact .cons _ _ (ih _ b)
theorem script_of {l : OpenLaw} {n : Nat} (hn : l.most = some n) {P : Params} {h : Heap} {args : List WData} {vals : List Value}
    (hpre : l.row.toRowW.claim.pre args = true) (hwl : WellAll P h vals args) :
    ∃ a vs ns, vals = [Value.ref a] ∧ args = [WData.list (ns.map WData.int)] ∧ h.get? a = some { cls := .type "list", data := .seq vs.toArray } ∧ IntsAre vs ns ∧ ns.length ≤ n := by
  have hsh : WShape.hasAll [] args [.list .int] = true := (pre_splitW hpre).1
  have hc : l.pre.holds [] { args := args } = true := (pre_splitW hpre).2
  refine L2.ob_eeaa (hasAllW_cons hsh) fun d r e_2 h1 h2 => ?_; subst e_2
  obtain rfl := hasAllW_nil h2
  refine L2.ob_ea (hasW_list h1) fun xs e_1 h3 => ?_; subst e_1
  obtain ⟨ns, rfl⟩ := items_int h3
  have hlen : ns.length ≤ n := by
    unfold OpenLaw.pre at hc
    have h4 : (WTm.not (.lt (.lit (.int (n : Int))) (.len (.arg 0)))).holds [] { args := [.list (ns.map .int)] } = true := by
      have h4 := (holds_andW hc).1
      rw [hn] at h4
      exact h4
    have h5 := condW_of h4 (w_not (w_lt w_lit (w_len_list (w_arg rfl))))
    rw [List.length_map] at h5
    refine Nat.le_of_not_lt fun q => ?_
    have q' : (n : Int) < ((ns.length : Nat) : Int) := by lia
    first
      | (rw [decide_eq_true q'] at h5; exact absurd h5 (by decide))
      | (simp at h5; lia)
  cases hwl with
  | cons w1 w2 =>
    cases w2
    cases w1 with
    | list ho hall => exact ⟨_, _, ns, rfl, rfl, ho, ints_of_wellAll ns _ hall, hlen⟩
theorem post_true (l : OpenLaw) (args : List WData) : l.row.toRowW.claim.post args (.bool true) args = true :=
  postW_of (r := l.row.toRowW) (X := (true == true))
    (show WShape.has [] (.bool true) .bool = true by first | rfl | decide | simp [WShape.has, WShape.arms, WShape.armsAll])
    (show (WTm.eq .res (.lit (.bool true))).value [] { args := args, res := some (.bool true), after := args } = some (.bool (true == true)) from w_eq_bool (w_res rfl) w_lit) rfl
theorem attach_call {l : OpenLaw} {n : Nat} {q : Program} {loose : List Str} {XP : (Str → Option Value) → Heap → Prop} {YP : World → Heap → Prop} {d : DefRec}
    (hn : l.most = some n) (hdf : d.params.defaults = [])
    (call : ∀ (w : World) (s₀ s₁ : Shared) (mg mb : Str → Option Value) (fa : Addr) (o : Obj) (pm cd doc : Value) (a : Addr) (vs : List Value) (ns : List Int),
      Ground q loose [] XP w s₀ mg mb s₁.heap → YP w s₁.heap →
      s₁.heap.get? fa = some o → o.data = .func (docDef d.name d.params d.body d.scope pm cd doc) → s₁.heap.CodeRec cd d.name → mg d.name = some (.ref fa) →
      s₁.heap.get? a = some { cls := .type "list", data := .seq vs.toArray } → IntsAre vs ns → ns.length ≤ n → s₁.gens = #[] →
      codeAny (model l.prog w) callerA (.call (.ref fa) ⟨[.ref a], []⟩) (fun r s' => r = .ok (.ret (.bool true)) ∧ OldK s₁.heap s'.heap ∧ s'.os = s₁.os ∧ AllBare s'.gens) s₁) :
    WalkO q loose XP YP l.row.toRowW d [] (fun f vs => PySem.call f vs) := by
  intro w s₀ s₁ mg mb G Y fa o pm cd doc dV kV ho hd hcd hD hmg hg args vals as hpre hlay hrd hwl hlo
  obtain rfl : dV = .none := Dflts.none hD hdf
  obtain rfl : kV = .none := Dflts.noKw hD
  refine L2.ob_eeeaaaa (script_of hn hpre hwl) fun a vs ns e_3 e_4 hobj hints hlen => ?_; subst e_3; subst e_4
  refine enter_call (codeAny_mono (call w s₀ s₁ mg mb fa o pm cd doc a vs ns G Y ho (fd_plain hd) hcd hmg hobj hints hlen hg) fun r s' hq => ?_)
  refine L2.ob_aaa hq fun e_0 h2 h3 h4 => ?_; subst e_0
  exact ⟨.inl ⟨.bool true, .bool true, [], rfl, fun _ => rfl, .bool true, post_true l _, fun _ => ⟨List.Pairwise.nil, fun _ hm => (nomatch hm)⟩⟩, h2, h3, h4⟩
section
variable {prog : Program} {w : World} {A : Around} {E : Value → Shared → Prop} {s : Shared} {K : Frag}
end
end Att

namespace L2
open PySem PySem.Spec PyProof.Rows
theorem vals_ints {vs : List Value} {ns : List Int} (h : IntsAre vs ns) : Vals (ns.map V.int) vs := by
  induction h with
  | nil => exact .nil
  | cons n t _ ih => exact .cons ⟨t, rfl⟩ ih
noncomputable def Only (H : Hp) : Prop := ∀ b, H b = none ∨ ∃ o xs, H b = some (.frz o (.lst xs))
theorem law_call {P : Program} {w : World} {K : PySem.W.Frag} {mg mb : Str → Option Value} {CX : CXT} {k : Nat} {fa a : Addr} {fd : FuncData} {x : Str} {sp : Sp} {s₁ : Shared} {vs : List Value} {ns : List Int}
    (KX : K.In s₁.heap) (hns : s₁.heap.Ns mainGlobals mg) (hb : s₁.heap.Ns builtinsNs mb) (hbb : ∀ x : Str, x ≠ "__name__" → mb x = bootBuiltins x) (hlim : s₁.heap.NoLimit) (hg : s₁.gens = #[])
    (ha : s₁.heap.get? a = some { cls := .type "list", data := .seq vs.toArray }) (hi : IntsAre vs ns) (hl : ns.length ≤ sizeLine) (hr : Room k callerA)
    (F : ∀ base : Heap, K.In base → base.Ns mainGlobals mg → FnOk P w K mg base CX k fa fd [x] sp) (hbind : ∀ (s : Shared) (u : Value), BindsTo s fd ⟨[u], []⟩ [(x, u)])
    (hsp : ∀ H : Hp, Only H → SqL K H a (ns.map V.int) → sp [.ref a] H (fun v _ => v = .bl true) fun _ _ _ => False)
    (hCX : ∀ H e s', CX [] H s₁ (fun _ _ _ => False) e s' → False) :
    codeAny (model P w) callerA (.call (.ref fa) ⟨[.ref a], []⟩) (fun r s' => r = .ok (.ret (.bool true)) ∧ OldK s₁.heap s'.heap ∧ s'.os = s₁.os ∧ AllBare s'.gens) s₁ := by
  have rv := vals_ints hi
  have lenV := hi.length
  -- from an abstract heap in which nothing but the script may be tracked
  have core : ∀ H : Hp, Only H → SqL K H a (ns.map V.int) → HOk P w H s₁.heap → (∀ b, H b ≠ none → b = a) → (H a ≠ none → K.lookup a = none) →
      codeAny (model P w) callerA (.call (.ref fa) ⟨[.ref a], []⟩) (fun r s' => r = .ok (.ret (.bool true)) ∧ OldK s₁.heap s'.heap ∧ s'.os = s₁.os ∧ AllBare s'.gens) s₁ := by
    intro H hO hS hok hA hK
    have base_of : ∀ {b : Addr} {o : Obj}, s₁.heap.get? b = some o → H b = none → (hidT s₁.heap H).get? b = some o := fun e n => hidT_get e n
    have noA : ∀ {b : Addr} {o : Obj} {es : Array DictEntry} {ep : Nat}, s₁.heap.get? b = some o → o.data = .dict es ep → H b = none := fun {b o es ep} e d => by
      cases q : H b with
      | none => rfl
      | some u =>
        have e' : b = a := hA b (by rw [q]; simp)
        subst e'
        rw [ha] at e; obtain rfl := Option.some.inj e
        have d' : Data.seq vs.toArray _ = Data.dict es ep := d
        cases d'
    have nsK : ∀ {b : Addr} {m : Str → Option Value}, s₁.heap.Ns b m → (hidT s₁.heap H).Ns b m := fun {b m} ⟨o, es, ep, e, d, r⟩ => ⟨o, es, ep, base_of e (noA e d), d, r⟩
    have hKb : K.In (hidT s₁.heap H) := fun b o e => base_of (KX b o e) (by
      cases q : H b with
      | none => rfl
      | some u =>
        have e' : b = a := hA b (by rw [q]; simp)
        subst e'
        rw [hK (by rw [q]; simp)] at e; exact L2.ns_ e)
    have hM : Mod K mg (hidT s₁.heap H) := ⟨hKb, nsK hns, ⟨mb, nsK hb, hbb⟩, let ⟨mc, h1, h2⟩ := hlim; ⟨mc, nsK h1, h2⟩⟩
    have e0 : Env0 P w K mg (hidT s₁.heap H) callerA [] s₁ H := ⟨rfl, hM, fun b o e => of_hidT e, Nat.le_of_eq (hidT_size _ _), trivial, fun b hb => absurd (show b ∈ ([] : List Addr) from hb) (by simp), hok, .of_eq hg⟩
    refine codeAny_mono ((F _ hKb (nsK hns)).run callerA [] s₁ H ⟨[.ref a], []⟩ [.ref a] [.ref a] _ _ hr e0 (hbind s₁ (.ref a)) (.cons rfl .nil) (hsp H hO hS)) fun r s' h => ?_
    cases r with
    | error e => exact (hCX H e s' h).elim
    | ok fl =>
      cases fl with
      | next => exact False.elim h
      | brk => exact False.elim h
      | cont => exact False.elim h
      | ret u =>
        obtain ⟨v, H', os, bare, un, hok', r', q⟩ := h
        have q' : v = .bl true := q
        subst q'
        obtain rfl : u = Value.bool true := r'
        refine ⟨rfl, OldK.of_keep fun b o e => ?_, os, bare⟩
        cases q : H b with
        | none => exact un.keep b o e q (by intro z; exact absurd (show b ∈ ([] : List Addr) from z) (by simp)) (by simp)
        | some u =>
          rcases hO b with z | ⟨ob, xs, z⟩
          · rw [q] at z; exact L2.sn_ z
          · have z2 := un.frzs b ob _ z
            obtain ⟨e1, _⟩ := hok b _ z
            obtain ⟨e2, _⟩ := hok' b _ z2
            rw [e] at e1; obtain rfl := Option.some.inj e1
            exact e2
  cases hk : K.lookup a with
  | some o =>
    -- the script is one of the module's own objects
    have e := KX a o hk
    rw [ha] at e
    obtain rfl := Option.some.inj e
    refine core (fun _ => none) (fun _ => .inl rfl) (.inr ⟨_, vs.toArray, _, hk, rfl, rfl, rfl, by rw [List.size_toArray, lenV]; exact hl, by simpa using rv⟩) (fun b u z => by have z' : (none : Option HO) = some u := z; exact L2.ns_ z') (fun b z => absurd rfl z) fun z => absurd rfl z
  | none =>
    refine core (fun b => if b = a then some (.frz { cls := .type "list", data := .seq vs.toArray } (.lst (ns.map V.int))) else none) (fun b => ?_) (.inl (.inr ⟨{ cls := .type "list", data := .seq vs.toArray }, if_pos rfl⟩)) (fun b u z => ?_) (fun b z => ?_) fun _ => hk
    · by_cases hb : b = a
      · exact .inr ⟨_, _, if_pos hb⟩
      · exact .inl (if_neg hb)
    · by_cases hb : b = a
      · have z' := (if_pos hb).symm.trans z
        cases z'
        subst hb
        exact ⟨ha, by rw [List.length_map]; exact hl, vs, _, rv, ha⟩
      · have z' := (if_neg hb).symm.trans z
        cases z'
    · by_cases hb : b = a
      · exact hb
      · exact absurd (if_neg hb) z
end L2

namespace L2
open PySem PySem.Spec PyProof.Rows
theorem walk_of {l : PySem.W.OpenLaw} {n k : Nat} {q : Program} {loose : List Str} {XP : (Str → Option Value) → Heap → Prop} {YP : World → Heap → Prop} {d : DefRec} {K : Params → PySem.W.Frag} {CX : World → CXT} {sp : World → Sp} {x : Str}
    (hn : l.most = some n) (hn2 : n ≤ sizeLine) (hdf : d.params.defaults = []) (hr : Room k callerA)
    (hY : ∀ (w : World) (h : Heap), YP w h → (K w.params).In h)
    (F : ∀ (w : World) (mg : Str → Option Value) (fa : Addr) (h : Heap), (K w.params).In h → h.Ns mainGlobals mg → mg d.name = some (.ref fa) →
      ∃ fd : FuncData, (∀ (s : Shared) (u : Value), BindsTo s fd ⟨[u], []⟩ [(x, u)]) ∧
        ∀ base : Heap, (K w.params).In base → base.Ns mainGlobals mg → FnOk l.prog w (K w.params) mg base (CX w) k fa fd [x] (sp w))
    (hsp : ∀ (w : World) (H : Hp) (a : Addr) (ns : List Int), ns.length ≤ n → Only H → SqL (K w.params) H a (ns.map V.int) → sp w [.ref a] H (fun v _ => v = .bl true) fun _ _ _ => False)
    (hCX : ∀ (w : World) (H : Hp) (s : Shared) (e : Value) (s' : Shared), CX w [] H s (fun _ _ _ => False) e s' → False) :
    PySem.W.WalkO q loose XP YP l.row.toRowW d [] (fun f vs => PySem.call f vs) := by
  refine Att.attach_call hn hdf fun w s₀ s₁ mg mb fa o pm cd doc a vs ns G Y ho hd hcd hmg hobj hints hlen hg => ?_
  have KX := hY w _ Y
  refine L2.ob_ea (F w mg fa _ KX G.T.g hmg) fun fd hb hF => ?_
  exact law_call KX G.T.g G.T.b G.T.builtins G.T.nolimit hg hobj hints (Nat.le_trans hlen hn2) hr hF hb (fun H hO hS => hsp w H a ns hlen hO hS) fun H e s' => hCX w H s₁ e s'
end L2

namespace L2
open PySem PySem.Spec PyProof.Rows
noncomputable def defArgs (s : Stmt) : Arguments := match s with
  | .FunctionDef _ a _ _ _ _ _ _ _ _ => a
  | _ => { posonlyargs := [], args := [], vararg := none, kwonlyargs := [], kw_defaults := [], kwarg := none, defaults := [] }
noncomputable def defBody (s : Stmt) : List Stmt := match s with
  | .FunctionDef _ _ b _ _ _ _ _ _ _ => b
  | _ => []
noncomputable def defScope (s : Stmt) : Scope := match s with
  | .FunctionDef _ _ _ _ _ _ sc _ _ _ => sc
  | _ => { kind := .function, names := [], isGenerator := false, isCoroutine := false }
noncomputable abbrev E0 : XK := fun _ _ _ => False
structure Fun (K : PySem.W.Frag) (x qual : Str) (st : Stmt) (f : Addr) (fd : FuncData) : Prop where
  ex : ∃ (oc : Value) (od : Option Addr) (kV doc pm : Value) (an : Option Addr) (cdv ct : Value) (osl : Array (Option Value)),
    fd = PySem.W.fnOf x qual (defArgs st) (defBody st) (defScope st) .none kV doc pm an cdv ct ∧ K.lookup f = some ⟨oc, od, .func fd, osl⟩ ∧ PySem.W.codeIn K cdv qual = true
  kp : PySem.W.keepIn K (.ref f) = true
section
variable {P : Program} {w : World} {K : PySem.W.Frag} {mg : Str → Option Value} {base : Heap}
theorem Fun.binds {x qual : Str} {st : Stmt} {f : Addr} {fd : FuncData} {ps : List Str} (F : Fun K x qual st f fd)
    (h : ∀ (kV doc pm : Value) (an : Option Addr) (cdv ct : Value) (us : List Value), us.length = ps.length → bindArgs (PySem.W.fnOf x qual (defArgs st) (defBody st) (defScope st) .none kV doc pm an cdv ct) ⟨us, []⟩ = pure (ps.zip us)) : Binds K fd ps [] := by
  refine L2.ob_eeeeeeeeeaa F.ex fun oc od kV doc pm an cdv ct osl e_9 lk hcd => ?_; subst e_9
  exact .all (h kV doc pm an cdv ct)
theorem fun_mk {x qual : Str} {st : Stmt} {f : Addr} {oc : Value} {od an : Option Addr} {osl : Array (Option Value)} {kV doc pm cdv ct : Value} (l : K.lookup f = some ⟨oc, od, .func (PySem.W.fnOf x qual (defArgs st) (defBody st) (defScope st) .none kV doc pm an cdv ct), osl⟩)
    (c : PySem.W.codeIn K cdv qual = true) (k : PySem.W.keepIn K (.ref f) = true) : Fun K x qual st f (PySem.W.fnOf x qual (defArgs st) (defBody st) (defScope st) .none kV doc pm an cdv ct) := ⟨⟨oc, od, kV, doc, pm, an, cdv, ct, osl, rfl, l, c⟩, k⟩
end
section
variable {X : Cx}
theorem pv (i : Nat) {x : Str} {pos : Pos} (hN : X.N[i]? = some x := by rfl) (hv : Vis X.env.scope x := by first | exact Or.inl rfl | exact Or.inr (Or.inl rfl) | exact Or.inr (Or.inr rfl)) (hd : (x == ("__debug__" : Str)) = false := by decide)
    (hcd : (x == ("__classdict__" : Str)) = false := by decide) : PE X (.Name x pos) (tVar i) := pe_var hN hv hd hcd
end

theorem iteF {A B : Prop} (h : B) : if false = true then A else B := by
  rw [if_neg Bool.false_ne_true]
  exact h
theorem iteT {A B : Prop} (h : A) : if true = true then A else B := by
  rw [if_pos rfl]
  exact h
theorem iteNS {c A B : Prop} [Decidable c] (hc : c) (h : B) : if (!decide c) = true then A else B := by
  rw [decide_eq_true hc]
  exact iteF h
noncomputable def Same (H H' : Hp) : Prop := ∀ b o, H b = some o → H' b = some o
theorem Same.refl (H : Hp) : Same H H := fun _ _ h => h
theorem Same.trans {H H1 H2 : Hp} (a : Same H H1) (b : Same H1 H2) : Same H H2 := fun c o h => b c o (a c o h)
theorem Same.free {H H' : Hp} (e : Same H H') {l : Addr} (h : H' l = Option.none) : H l = Option.none := by
  cases q : H l with
  | none => rfl
  | some o =>
    rw [e l o q] at h
    exact L2.sn_ h
theorem Same.seq {K : PySem.W.Frag} {H H' : Hp} {a : Addr} {xs : List V} (e : Same H H') (h : SqL K H a xs) : SqL K H' a xs := by
  rcases h with (h | ⟨o, h⟩) | h
  · exact .inl (.inl (e _ _ h))
  · exact .inl (.inr ⟨o, e _ _ h⟩)
  · exact .inr h
end L2

namespace L2
open PySem PySem.Spec PyProof.Rows
noncomputable def fld2 (o : Obj) : Option Value := match o.data with
  | .fields vs => vs[2]?
  | _ => none
noncomputable def Ctx0 (h : Heap) (e : Addr) : Prop := ∃ o, h.get? e = some o ∧ fld2 o = some .none
inductive Kp2 {α : Type} : Sem α → Prop
  | pure (a : α) : Kp2 (.pure a)
  | raise (e : Value) : Kp2 (.raise e)
  | unsupported (w : String) : Kp2 (.unsupported w)
  | rule {t : String} {k : Unit → Sem α} : Kp2 (k ()) → Kp2 (.rule t k)
  | load {a : Addr} {q : Option Value} {k : Obj → Sem α} : (∀ o, Kp2 (k o)) → Kp2 (.load a q k)
  | update {a : Addr} {q : Option Value} {f : Obj → Obj} {k : Unit → Sem α} : (∀ o, fld2 (f o) = fld2 o) → Kp2 (k ()) → Kp2 (.update a q f k)
  | alloc {o : Obj} {k : Addr → Sem α} : (∀ a, Kp2 (k a)) → Kp2 (.alloc o k)
  | stack {k : List (Code × Pos) → Sem α} : (∀ x, Kp2 (k x)) → Kp2 (.stack k)
theorem Ctx0.update {h : Heap} {e a : Addr} {f : Obj → Obj} (c : Ctx0 h e) (hf : ∀ o, fld2 (f o) = fld2 o) : Ctx0 (h.update a f) e := by
  obtain ⟨o, ho, hc⟩ := c
  by_cases ha : a = e
  · subst ha
    have h2 : fld2 (f o) = some .none := (hf o).trans hc
    refine ⟨f o, Heap.get?_update_self f ho ?_, h2⟩
    unfold fld2 at h2
    split at h2
    · next vs hd => exact Obj.isFreed_of_fields hd
    · cases h2
  · exact ⟨o, (Heap.get?_update_other _ _ ha).trans ho, hc⟩
theorem wp_kp2 {α : Type} {M : Model} {Γ : PySem.Ctx} {e : Addr} {Q : α → Pos → Shared → Prop} {E : Value → Pos → Shared → Prop} {t : Sem α} (hk : Kp2 t) : ∀ (p : Pos) (s : Shared), Ctx0 s.heap e → Sem.wp M Γ t Q E p s → Sem.wp M Γ t (fun a p' s' => Q a p' s' ∧ Ctx0 s'.heap e) (fun x p' s' => E x p' s' ∧ Ctx0 s'.heap e) p s := by
  induction hk with
  | pure a => intro p s c h; rw [Sem.wp_pure] at h ⊢; exact ⟨h, c⟩
  | raise x => intro p s c h; rw [Sem.wp_raise] at h ⊢; exact ⟨h, c⟩
  | unsupported x => intro p s c h; rw [Sem.wp_unsupported] at h; exact h.elim
  | rule _ ih => intro p s c h; rw [Sem.wp_rule] at h ⊢; exact ih p s c h
  | load _ ih => intro p s c h; rw [Sem.wp_load] at h ⊢; obtain ⟨o, ho, h⟩ := h; exact ⟨o, ho, ih o p s c h⟩
  | update hf _ ih => intro p s c h; rw [Sem.wp_update] at h ⊢; exact ⟨h.1, ih p _ (c.update hf) h.2⟩
  | alloc _ ih => intro p s c h; rw [Sem.wp_alloc] at h ⊢; exact ih _ p _ (by obtain ⟨o, ho, hc⟩ := c; exact ⟨o, Heap.get?_push_of_some _ ho, hc⟩) h
  | stack _ ih => intro p s c h; rw [Sem.wp_stack] at h ⊢; exact ih _ p s c h
theorem kp2_any {α : Type} {M : Model} {A : Around} {e : Addr} {Q : α → Shared → Prop} {E : Value → Shared → Prop} {t : Sem α} {s : Shared} (hk : Kp2 t) (c : Ctx0 s.heap e) (h : wpAny M A t Q E s) : wpAny M A t (fun a s' => Q a s' ∧ Ctx0 s'.heap e) (fun x s' => E x s' ∧ Ctx0 s'.heap e) s :=
  fun Γ p hΓ => wp_kp2 hk p s c (h Γ p hΓ)
theorem kp2_bind {α β : Type} {f : α → Sem β} {m : Sem α} (hm : Kp2 m) (hf : ∀ a, Kp2 (f a)) : Kp2 (m >>= f) := by
  induction hm with
  | pure a => exact hf a
  | raise x => exact .raise x
  | unsupported x => exact .unsupported x
  | rule _ ih => exact .rule ih
  | load _ ih => exact .load ih
  | update h _ ih => exact .update h ih
  | alloc _ ih => exact .alloc ih
  | stack _ ih => exact .stack ih
theorem kp2_load (a : Addr) : Kp2 (load a) := .load fun o => .pure o
theorem kp2_stack : Kp2 stack := .stack fun x => .pure x
theorem kp2_un {α : Type} (w : String) : Kp2 (unsupported w : Sem α) := .unsupported w
theorem kp2_ret {α : Type} (a : α) : Kp2 (Pure.pure a : Sem α) := .pure a
theorem kp2_field (v : Value) (i : Nat) : Kp2 (field v i) := by
  unfold field
  refine kp2_bind ?_ fun vs => ?_
  · unfold fieldsOf
    cases v <;> first
      | exact kp2_un _
      | (refine kp2_bind (kp2_load _) fun o => ?_
         split
         · exact kp2_ret _
         · exact kp2_un _)
  · split
    · exact kp2_ret _
    · exact kp2_un _
theorem fld2_map {f : Array Value → Array Value} (hf : ∀ vs, (f vs)[2]? = vs[2]?) (o : Obj) : fld2 (Obj.mapFields f o) = fld2 o := by
  obtain ⟨c, d, dt, sl⟩ := o
  cases dt <;> first | rfl | exact hf _
theorem kp2_setField (v : Value) {i : Nat} (x : Value) (hi : i ≠ 2) : Kp2 (setField v i x) := by
  unfold setField
  cases v <;> first
    | exact kp2_un _
    | (show Kp2 (updateField _ _ _)
       unfold updateField
       refine kp2_bind (kp2_load _) fun o => ?_
       split
       · split
         · exact .update (fld2_map fun vs => Array.getElem?_setIfInBounds_ne hi) (.pure ())
         · exact kp2_un _
       · exact kp2_un _)
theorem kp2_flight (v : Value) (fr : Option Addr) : Kp2 (setFlight v fr) := by
  unfold setFlight
  refine kp2_bind (kp2_field v 1) fun tb => ?_
  split
  · exact kp2_setField _ _ (by decide)
  · exact kp2_ret _
theorem kp2_ready : ∀ l : List Env, Kp2 (readyFrames l)
  | [] => kp2_ret _
  | env :: outer => by
    unfold readyFrames
    split
    · next f hf =>
      refine kp2_bind (kp2_load _) fun o => ?_
      split
      · exact kp2_ret _
      · refine kp2_bind ?_ fun im => kp2_bind ?_ fun bk => kp2_bind (.update (fun o => rfl) (.pure ())) fun _ => kp2_ready outer
        · unfold behindIsImport
          split
          · exact kp2_ret _
          · split
            · exact kp2_ret _
            · exact kp2_bind (kp2_field _ _) fun _ => kp2_ret _
        · unfold keptBack
          split
          · split
            · exact kp2_ret _
            · unfold underTheClaimsCaller
              exact kp2_bind (kp2_bind kp2_stack fun _ => kp2_ret _) fun _ => kp2_ret _
          · exact kp2_ret _
    · exact kp2_un _
theorem kp2_frameOf (env : Env) : Kp2 (PySem.frameOf env) := by
  unfold PySem.frameOf
  refine kp2_bind (kp2_bind kp2_stack fun _ => kp2_ret _) fun es => kp2_bind ?_ fun r => ?_
  · unfold frameObject
    split
    · exact kp2_ret _
    · exact kp2_bind (kp2_ready _) fun _ => kp2_ret _
  · split
    · exact kp2_ret _
    · exact kp2_un _
theorem kp2_place (f : Addr) (b : Bool) : Kp2 (entryPlaceOf f b) := by
  unfold entryPlaceOf
  refine kp2_bind kp2_stack fun acts => ?_
  split
  · exact kp2_ret _
  · exact kp2_ret _
theorem kp2_asIs (ty : String) (vs : Array Value) : Kp2 (newObjAsIs (.type ty) (.fields vs)) := by
  unfold newObjAsIs
  exact kp2_bind (.alloc fun a => .pure a) fun a => kp2_ret _
theorem kp2_fields (ty : String) (vs : List Value) : Kp2 (newFields ty vs) := by
  unfold newFields newObj
  dsimp only
  split
  · exact kp2_bind (kp2_un _) fun _ => kp2_asIs _ _
  · exact kp2_asIs _ _
theorem kp2_entry (a b c d e : Value) (l : List Value) : Kp2 (EntryCells.newEntry a b c d e l) := kp2_fields _ _
theorem kp2_note (v : Value) (env : Env) : Kp2 (noteFrame v env) := by
  unfold noteFrame
  split
  · next f hf =>
    refine kp2_bind (kp2_field v 1) fun hd => ?_
    have last : ∀ u, Kp2 (do let a ← PySem.frameOf env; let pl ← entryPlaceOf f (hd != .none); let b ← EntryCells.newEntry hd a .none (rawInt f) .none pl; setField v 1 b : Sem Unit) := fun _ : Unit => kp2_bind (kp2_frameOf env) fun _ => kp2_bind (kp2_place _ _) fun _ => kp2_bind (kp2_entry _ _ _ _ _ _) fun _ => kp2_setField _ _ (by decide)
    split
    · refine kp2_bind (kp2_field hd 3) fun fl => ?_
      split
      · exact kp2_ret _
      · exact kp2_bind (kp2_setField _ _ (by decide)) last
    · exact last ()
  · exact kp2_un _
theorem kp2_leaving (env : Env) (v : Value) : Kp2 (leaving env v) := by
  unfold leaving
  exact kp2_bind (kp2_note v env) fun _ => kp2_flight v none
end L2

namespace L2
open PySem PySem.Spec PyProof.Rows
theorem ObjOk.there {P : Program} {w : World} {H : Hp} {h : Heap} {a : Addr} {o : HO} (x : ObjOk P w H h a o) : ∃ ob, h.get? a = some ob := by
  cases o with
  | lst xs => obtain ⟨_, _, _, _, e⟩ := x; exact ⟨_, e⟩
  | tup xs => obtain ⟨_, _, _, p⟩ := x; obtain ⟨o, e, _⟩ := p; exact ⟨_, e⟩
  | dK kvs => obtain ⟨_, _, _, _, o, _, _, e, _⟩ := x; exact ⟨_, e⟩
  | dT kvs => obtain ⟨_, _, _, _, o, _, _, e, _⟩ := x; exact ⟨_, e⟩
  | set S n => obtain ⟨o, _, _, _, e, _⟩ := x; exact ⟨_, e⟩
  | ins C dx fs => obtain ⟨_, _, _, e, _⟩ := x; exact ⟨_, e⟩
  | own y => obtain ⟨_, e⟩ := x; exact ⟨_, e⟩
  | xd fs => obtain ⟨_, ⟨_, _, _, e, _⟩, _⟩ := x; exact ⟨_, e⟩
  | rng lo hi => obtain ⟨_, _, _, e⟩ := x; exact ⟨_, e⟩
  | frz ob u => obtain ⟨e, _⟩ := x; exact ⟨_, e⟩
  | tbl ps => exact ⟨_, (show h.get? a = some _ from x)⟩
  | met f y => exact ⟨_, (show h.get? a = some _ from x)⟩
  | ext φ => obtain ⟨_, ⟨_, e⟩, _⟩ := x; exact ⟨_, e⟩
structure Fly (P : Program) (w : World) (outer : List Env) (H : Hp) (s : Shared) (C : Addr) (H' : Hp) (a : Addr) (s' : Shared) : Prop where
  os : s'.os = s.os
  bare : AllBare s'.gens
  body : ∃ B a0, Heap.FlyingW B outer a (.ref C) a0 s'.heap ∧ HOk P w H' B ∧
    (∀ b o, s.heap.get? b = some o → H b = none → b ∉ frs outer → B.get? b = some o) ∧ (∀ b o, s.heap.get? b = some o → b ∉ frs outer → ∃ o', B.get? b = some o')
  slot : ∀ b o, s.heap.get? b = some o → H b = none → b ∈ frs outer → ∃ sl, s'.heap.get? b = some { o with slots := sl }
  free : ∀ b o, s.heap.get? b = some o → H b = none → H' b = none
  tups : ∀ b xs, H b = some (.tup xs) → H' b = some (.tup xs)
  frzs : ∀ b o u, H b = some (.frz o u) → H' b = some (.frz o u)
  tbls : ∀ b ps, H b = some (.tbl ps) → ∃ more, H' b = some (.tbl (ps ++ more))
inductive CX1 (P : Program) (w : World) (outer : List Env) (H : Hp) (s : Shared) (E : XK) (e : Value) (s' : Shared) : Prop
  | mk : ∀ a C H' (y : Option Addr), (e = .ref a) → (Fly P w outer H s C H' a s') → (y = none → Ctx0 s'.heap a) → (E (.ref C) y H') → CX1 P w outer H s E e s'
structure Own (X : Cx) : Prop where
  stk : X.stack = X.env :: X.outer
  fr : X.env.frame = some X.env.locals
  ex : X.ex = []
section
variable {X : Cx} {pins : List (Addr × Obj)} {σ : St} {H : Hp} {s : Shared}
theorem Own.noex (O : Own X) (b : Addr) : b ∉ X.ex := by rw [O.ex]; simp
theorem Own.frs (O : Own X) : frs X.stack = X.env.locals :: frs X.outer := by rw [O.stk]; unfold L2.frs; rw [List.filterMap_cons, O.fr]
theorem Own.notStk (O : Own X) (I : Inv X pins σ H s) {b : Addr} {o : Obj} (e : X.s₀.heap.get? b = some o) (hb : b ∉ X.fs) : b ∉ L2.frs X.stack := by
  rw [O.frs]
  intro z
  rcases List.mem_cons.mp z with z | z
  · exact absurd (Nat.lt_of_lt_of_le (Heap.lt_size e) I.ok.above) (by rw [z]; exact Nat.lt_irrefl _)
  · exact hb z
theorem throw_ok {e C : Addr} {h1 : Heap} {vs : List Value} {tk : Nat} {Q : Unit → Shared → Prop} {E' : Value → Shared → Prop} (O : Own X) (I : Inv X pins σ H s) (hx : Heap.MadeExcOf s.heap h1 e (.ref C) vs)
    (hQ : ∀ s', Fly X.prog X.w X.outer X.H₀ X.s₀ C H e s' → Q () s') : wpAny (model X.prog X.w) X.A (leaving X.env (.ref e)) Q E' { s with heap := h1, toks := tk } := by
  have hin : ∀ env ∈ X.stack, ∀ b, env.frame = some b → b ∈ frs X.stack := fun env he b hb => List.mem_filterMap.mpr ⟨env, he, hb⟩
  have hst := PySem.W.funFrames_hide I.stack hin
  have hfr : X.A.frames = some (X.env :: X.outer) := by rw [I.ok.frames, O.stk]
  rw [O.stk] at hst
  refine wpAny_leaves_madeW (s := { s with heap := h1, toks := tk }) (base := PySem.W.hideAll s.heap (frs X.stack)) (h := s.heap) hfr O.fr (fun b o q => PySem.W.of_hideAll _ q) (by rw [O.stk]; exact hst) hx fun h' t x1 x2 x3 x4 => ?_
  refine hQ _ ⟨I.os, I.bare, ⟨_, _, x1, fun a o ha => ?_, fun b o q n hb => ?_, fun b o q hb => ?_⟩, fun b o q n hb => ?_, fun b o q n => I.base.free b o q n (O.noex b), I.base.tups, I.base.frzs, I.base.tbls⟩
  · refine (I.hok a o ha).stay (fun b u hb q => PySem.W.hideAll_get _ q fun z => ?_) (fun _ q => q) fun _ _ q => q
    have f := I.stkFree b z
    rcases hb with rfl | hb
    · rw [ha] at f; exact L2.sn_ f
    · rw [hb] at f; exact L2.sn_ f
  · exact PySem.W.hideAll_get _ (I.base.keep b o q n hb (O.noex b)) (O.notStk I q hb)
  · obtain ⟨o', e'⟩ := I.base.there b o q (O.noex b)
    exact ⟨o', PySem.W.hideAll_get _ e' (O.notStk I q hb)⟩
  · obtain ⟨sl, e1⟩ := I.base.slot b o q n hb (O.noex b)
    refine L2.ob_aea (I.ok.funs.mem hb) fun _ o2 ho2 hd => ?_
    rw [q] at ho2; obtain rfl := Option.some.inj ho2
    obtain ⟨sl', e2⟩ := x4 b _ (hx.keeps b _ e1) hd
    exact ⟨sl', e2⟩
theorem fly_on {e C : Addr} {H' : Hp} {s' : Shared} {Q : Unit → Shared → Prop} {E' : Value → Shared → Prop} (O : Own X) (I : Inv X pins σ H s) (F : Fly X.prog X.w X.stack H s C H' e s')
    (hQ : ∀ s', Fly X.prog X.w X.outer X.H₀ X.s₀ C H' e s' → Q () s') : wpAny (model X.prog X.w) X.A (leaving X.env (.ref e)) Q E' s' := by
  have hfr : X.A.frames = some (X.env :: X.outer) := by rw [I.ok.frames, O.stk]
  obtain ⟨B, a0, hfl, hok, hk, ht⟩ := F.body
  have hfl' := hfl
  rw [O.stk] at hfl'
  refine wpAny_leaves_onW hfr O.fr hfl' fun h' x1 x2 => ?_
  refine hQ _ ⟨F.os.trans I.os, F.bare, ⟨B, a0, x1, hok, fun b o q n hb => ?_, fun b o q hb => ?_⟩, fun b o q n hb => ?_, fun b o q n => ?_, fun b xs q => F.tups b xs (I.base.tups b xs q), fun b o u q => F.frzs b o u (I.base.frzs b o u q), fun b ps q => ?_⟩
  · exact hk b o (I.base.keep b o q n hb (O.noex b)) (I.base.free b o q n (O.noex b)) (O.notStk I q hb)
  · obtain ⟨o', e'⟩ := I.base.there b o q (O.noex b)
    exact ht b o' e' (O.notStk I q hb)
  · obtain ⟨sl, e1⟩ := I.base.slot b o q n hb (O.noex b)
    obtain ⟨sl', e2⟩ := F.slot b _ e1 (I.base.free b o q n (O.noex b)) (by rw [O.frs]; exact List.mem_cons_of_mem _ hb)
    refine L2.ob_aea (I.ok.funs.mem hb) fun _ o2 ho2 hd => ?_
    rw [q] at ho2; obtain rfl := Option.some.inj ho2
    obtain ⟨sl2, e3⟩ := x2 b _ e2 hd
    exact ⟨sl2, e3⟩
  · obtain ⟨o', e'⟩ := I.base.there b o q (O.noex b)
    exact F.free b o' e' (I.base.free b o q n (O.noex b))
  · obtain ⟨m1, e1⟩ := I.base.tbls b ps q
    obtain ⟨m2, e2⟩ := F.tbls b _ e1
    exact ⟨m1 ++ m2, by rw [e2, Array.append_assoc]⟩
end

noncomputable def Throws (X : Cx) (E : XK) : Prop := ∀ (pins : List (Addr × Obj)) (σ : St) (H : Hp) (s : Shared) (e C : Addr) (h1 : Heap) (vs : List Value), Inv X pins σ H s → Heap.MadeExcOf s.heap h1 e (.ref C) vs → E (.ref C) none H → X.xe (.ref e) { s with heap := h1 }
section
variable {P : Program} {w : World} {K : PySem.W.Frag} {mg : Str → Option Value} {base : Heap} {N : List Str} {qual : Str} {scope : Scope} {f : Addr} {cd : Value} {A : Around} {outer : List Env} {s : Shared} {H : Hp} {E : XK}
noncomputable abbrev cx1 (P : Program) (w : World) (K : PySem.W.Frag) (mg : Str → Option Value) (base : Heap) (N : List Str) (qual : Str) (scope : Scope) (f : Addr) (cd : Value) (A : Around) (outer : List Env) (s : Shared) (H : Hp) (E : XK) : Cx :=
  cxOf (CX1 P w) P w K mg base N qual scope f cd A outer s H E
theorem own1 : Own (cx1 P w K mg base N qual scope f cd A outer s H E) := ⟨rfl, rfl, rfl⟩
theorem pass1 : Passes (CX1 P w) (cx1 P w K mg base N qual scope f cd A outer s H E) E := by
  intro pins σ H2 s2 e s' I h
  obtain ⟨a, C, H', y, rfl, F, c, hE⟩ := h
  cases y with
  | none => exact wpAny_mono (kp2_any (kp2_leaving _ _) (c rfl) (fly_on (X := cx1 P w K mg base N qual scope f cd A outer s H E) (Q := fun _ s'' => Fly P w outer H s C H' a s'') own1 I F fun s'' F' => F')) (fun _ s'' q => ⟨a, C, H', none, rfl, q.1, fun _ => q.2, hE⟩) fun _ _ q => q.1
  | some z => exact fly_on (X := cx1 P w K mg base N qual scope f cd A outer s H E) own1 I F fun s'' F' => ⟨a, C, H', some z, rfl, F', (fun h => nomatch h), hE⟩
theorem throws1 : Throws (cx1 P w K mg base N qual scope f cd A outer s H E) E := by
  intro pins σ H2 s2 e C h1 vs I hx hE
  obtain ⟨t, ht, _, _⟩ := hx.there
  exact wpAny_mono (kp2_any (kp2_leaving _ _) ⟨_, ht, rfl⟩ (throw_ok (X := cx1 P w K mg base N qual scope f cd A outer s H E) (Q := fun _ s'' => Fly P w outer H s C H2 e s'') (tk := s2.toks) own1 I hx fun s'' F' => F')) (fun _ s'' q => ⟨e, C, H2, none, rfl, q.1, fun _ => q.2, hE⟩) fun _ _ q => q.1
theorem powns1 : PassesOwn (model (cx1 P w K mg base N qual scope f cd A outer s H E).prog (cx1 P w K mg base N qual scope f cd A outer s H E).w) (cx1 P w K mg base N qual scope f cd A outer s H E).A (cx1 P w K mg base N qual scope f cd A outer s H E).env (cx1 P w K mg base N qual scope f cd A outer s H E).xe := PassesOwn.leaving
end
theorem pass10 {P : Program} {w : World} {X : Cx} : Passes (CX1 P w) X E0 := by
  rintro pins σ H s e s' I ⟨a, C, H', _, _, _, _, h⟩
  exact h.elim
theorem Fun.ok1 {P : Program} {w : World} {K : PySem.W.Frag} {mg : Str → Option Value} {base : Heap} {x qual : Str} {st : Stmt} {f : Addr} {fd : FuncData} {N ps : List Str} {k : Nat} {sp : Sp} (F : Fun K x qual st f fd) (S : FnScope N ps (defScope st))
    (len : ∀ vs H Q E, sp vs H Q E → vs.length = ps.length)
    (hbody : ∀ (cdv : Value) (A : Around) (outer : List Env) (s : Shared) (H : Hp) (vs : List V) (Q : VK) (E : XK), Room k (A.deeper (envOfC qual (defScope st) s.heap.objs.size f cdv)) → sp vs H Q E →
      ∃ t, PSs (cx1 P w K mg base N qual (defScope st) f cdv A outer s H E) (defBody st) t ∧ t { nx := fun _ H' => Q .non H', rt := Q } (start N vs) H) : FnOk P w K mg base (CX1 P w) (k + 1) f fd ps sp := by
  refine L2.ob_eeeeeeeeeaa F.ex fun oc od kV doc pm an cdv ct osl e_9 lk hcd => ?_; subst e_9
  exact fn_of lk hcd S len fun A outer s H vs Q E hr hsp => hbody cdv A outer s H vs Q E hr hsp
noncomputable def bmV : List Value := [.type "ValueError", .type "Exception", .type "BaseException", .type "object"]
inductive ExK (K : PySem.W.Frag) (C : Addr) : Prop
  | mk : ∀ {bm N nm q bs hdct sn sub ab col dd k0 k1 k2 k3 k5}, K.lookup C = some (excClassObj nm q C N bs bm hdct sn sub ab col dd k0 k1 k2 k3 k5 "ValueError.__new__") → PySem.W.tailIn K bmV bm = true → PySem.W.nsOkIn K N = true → PySem.W.nsIn K N "__init__" = some none → ExK K C
structure ExC (K : PySem.W.Frag) (mg : Str → Option Value) (x : Str) (C : Addr) : Prop where
  mg : mg x = some (.ref C)
  ex : ExK K C
theorem own_of {K : PySem.W.Frag} {mg : Str → Option Value} {h : Heap} {x : Str} {C : Addr} (e : ExC K mg x C) (X : K.In h) : OwnCls x C bmV "ValueError.__new__" mg h := by
  obtain ⟨lk, ht, hok, hni⟩ := e.ex
  exact ⟨e.mg, _, _, _, _, _, _, _, _, _, _, _, _, _, _, _, _, _, X _ _ lk, .of_isNs (PySem.W.isNs_of_in X hok), PySem.W.nsMap_none_of_in X hok hni, PySem.W.tail_of_in X ht⟩
inductive tRaise_b (C : Addr) (E : XK) (vs : List V) (H1 : Hp) : Prop
  | mk : (vs.length ≤ sizeLine) → (E (.ref C) none H1) → tRaise_b C E vs H1
noncomputable def tRaise (C : Addr) (E : XK) (t : TA) : TS := fun _e0 σ H => t σ H fun vs H1 => tRaise_b C E vs H1
theorem ps_raise {X : Cx} {E : XK} {x : Str} {C : Addr} {np cpos pos : Pos} {e : Expr} {es : List Expr} {t : TA} (hc : X.calm = true) (ht : Throws X E) (hC : ExC X.K X.mg x C) (hg : Gl X x) (ha : PA X (e :: es) t)
    (he : starEach (e :: es) X.env = (false, eval e X.env) :: starEach es X.env := by rfl) (hplain : (backTo cpos (starEach es X.env)).any (·.1) = false := by rfl) (hd : (x == ("__debug__" : Str)) = false := by decide) :
    PS X (.Raise (some (.Call (.Name x np) (e :: es) [] cpos)) none pos) (tRaise C E t) := by
  intro pins s σ H D I h
  refine L2.ob_eeeeeeeeeeeeeeeeeaaa ((own_of hC I.mod.kin).obj) fun tl N nm q bs hdct sn sub ab col dd k0 k1 k2 k3 k5 mN hC' hN hni T => ?_
  have FB := PySem.F.excBase_ValueError
  refine wpAny_Raise_call_subT (C := C) (nm := nm) (q := q) (N := N) (bs := bs) (bm := tl) (hdct := hdct) (sn := sn) (sub := sub) (ab := ab) (col := col) (dd := dd) (k0 := k0) (k1 := k1) (k2 := k2) (k3 := k3) (k5 := k5)
    FB (mN := mN) (T.hasType FB.hasBase) (I.ok.hd hc) (by rw [he]; show (false || (backTo cpos (starEach es X.env)).any (·.1)) = false; rw [hplain]; rfl) hni (ld_glob I hg hC.mg ⟨rfl, ?_⟩ hd)
  have hA := ha cpos pins s σ H _ I h
  rw [he] at hA ⊢
  refine Calls.evalArgs_plain (thn hA fun us s2 ⟨vs, H2, I2, r, z, hE⟩ => ?_)
  exact ⟨rfl, by rw [← r.length]; exact z, I2.bk _ _ hC', hN.keeps I2.bk, T.keeps I2.bk, fun h' e hm => ht pins σ H2 s2 e C h' us I2 hm hE⟩
noncomputable def excO (a C : Addr) : HO := .ext fun h => ∃ o vs, h.get? a = some o ∧ o.cls = .ref C ∧ o.data = .fields vs
theorem excO_ok {P : Program} {w : World} {H : Hp} {h : Heap} {a C : Addr} {o : Obj} {vs : Array Value} (e : h.get? a = some o) (hc : o.cls = .ref C) (hd : o.data = .fields vs) : ObjOk P w H h a (excO a C) :=
  ⟨⟨o, vs, e, hc, hd⟩, ⟨o, e⟩, fun h1 h2 ⟨o1, vs1, e1, c1, d1⟩ k => ⟨o1, vs1, k o1 e1, c1, d1⟩⟩
theorem flying_excO {B h : Heap} {l : List Env} {e C : Addr} {a0 : Value} (x : Heap.FlyingW B l e (.ref C) a0 h) {P : Program} {w : World} (G : Hp) : ObjOk P w G h e (excO e C) := by
  obtain ⟨oe, vs, h1, h2, h3, _⟩ := x.first
  exact excO_ok h1 h2 h3
noncomputable def catchE (K : PySem.W.Frag) (c : Value) (n i : Nat) (ts : TS) (D : Ends) : XK := fun cls _ H' => ∃ C, cls = .ref C ∧ PySem.W.exmOne K (.ref C) c = some true ∧ ∀ a, H' a = none →
  ts { nx := fun σ' H2 => D.nx (σ'.set i none) H2, rt := D.rt, bk := fun σ' H2 => D.bk (σ'.set i none) H2, ct := fun σ' H2 => D.ct (σ'.set i none) H2 } ((List.replicate n none).set i (some (.ref a))) (upd H' a (excO a C))
noncomputable def tTry (K : PySem.W.Frag) (c : Value) (n i : Nat) (tb : XK → TS) (ts : TS) : TS := fun D σ H => tb (catchE K c n i ts D) D σ H
section
variable {X : Cx} {pins : List (Addr × Obj)} {σ : St} {H H' : Hp} {s s' : Shared}
theorem Inv.recx {A' : Around} {calm' : Bool} {pn' : List (Addr × Obj)} {xe' : Value → Shared → Prop} {pins' : List (Addr × Obj)} (I : Inv X pins σ H s) (hfr : A'.frames = some X.stack) (hd : calm' = true → A'.handled = none) (hp : ∀ p ∈ pn' ++ pins', p ∈ X.pn ++ pins) :
    Inv { X with A := A', calm := calm', pn := pn', xe := xe' } pins' σ H s :=
  ⟨⟨I.ok.mod, I.ok.kind, I.ok.glob, I.ok.blt, I.ok.above, I.ok.inj, I.ok.has, I.ok.cab, hd, hfr, I.ok.stk, I.ok.exf, I.ok.bs, I.ok.bsz, I.ok.noex, I.ok.exfs, I.ok.funs, I.ok.frf⟩,
    I.os, I.bare, I.base, I.loc, I.cell, I.free, I.freeC, fun p h => I.pin p (hp p h), I.hok, I.len⟩
theorem fly_landed {e C : Addr} {B : Heap} {a0 : Value} {h2 : Heap} {tk : Nat} (I : Inv X pins σ H s) (F : Fly X.prog X.w X.stack H s C H' e s')
    (hfl : Heap.FlyingW B X.stack e (.ref C) a0 h2) (hok : HOk X.prog X.w H' B) (hk : ∀ b o, s.heap.get? b = some o → H b = none → b ∉ frs X.stack → B.get? b = some o) (ht : ∀ b o, s.heap.get? b = some o → b ∉ frs X.stack → ∃ o', B.get? b = some o')
    (hsl : s'.heap.UpToSlots h2) {ob : HO} (hob : ∀ G : Hp, ObjOk X.prog X.w G h2 e ob) : H' e = none ∧ Inv X pins σ (upd H' e ob) { s' with heap := h2, toks := tk } := by
  obtain ⟨f1, f2, f3, f4⟩ := id hfl
  have hfree : H' e = none := by
    cases q : H' e with
    | none => rfl
    | some u =>
      obtain ⟨ob, z⟩ := (hok e u q).there
      rw [f2] at z; exact L2.ns_ z
  refine L2.ob_eeaaa hfl.first fun oe vs hoe hoc hod _ => ?_
  have hfresh : s.heap.get? e = none := by
    cases q : s.heap.get? e with
    | none => rfl
    | some o =>
      by_cases hb : e ∈ frs X.stack
      · obtain ⟨sl, z⟩ := F.slot e o q (I.stkFree e hb) hb
        obtain ⟨_, o2, ho2, hd⟩ := I.stack.mem hb
        rw [q] at ho2; obtain rfl := Option.some.inj ho2
        obtain ⟨sl', z2⟩ := hsl e _ z hd
        rw [hoe] at z2; obtain rfl := Option.some.inj z2
        exact absurd hod (hd vs)
      · obtain ⟨o', z⟩ := ht e o q hb
        rw [f2] at z; exact L2.ns_ z
  have kp : ∀ b u, B.get? b = some u → h2.get? b = some u := f1
  refine ⟨hfree, I.call' (s' := { s' with heap := h2, toks := tk }) (ch := []) F.os ⟨fun b o q n hb _ => kp b o (hk b o q n hb), fun b o q n hb _ => ?_, fun b o q n _ => ?_, fun b o q _ => ?_, fun b xs q => ?_, fun b o u q => ?_, fun b ps q => ?_⟩ ?_ F.bare (fun b z => absurd z (by simp))⟩
  · obtain ⟨sl, z⟩ := F.slot b o q n hb
    refine L2.ob_aea (I.stack.mem hb) fun _ o2 ho2 hd => ?_
    rw [q] at ho2; obtain rfl := Option.some.inj ho2
    obtain ⟨sl', z2⟩ := hsl b _ z hd
    exact ⟨sl', z2⟩
  · rw [upd_ne (fun z => by rw [z, hfresh] at q; exact L2.ns_ q)]
    exact F.free b o q n
  · by_cases hb : b ∈ frs X.stack
    · obtain ⟨sl, z⟩ := F.slot b o q (I.stkFree b hb) hb
      obtain ⟨_, o2, ho2, hd⟩ := I.stack.mem hb
      rw [q] at ho2; obtain rfl := Option.some.inj ho2
      obtain ⟨sl', z2⟩ := hsl b _ z hd
      exact ⟨_, z2⟩
    · obtain ⟨o', z⟩ := ht b o q hb
      exact ⟨o', kp _ _ z⟩
  · have z := F.tups b xs q
    rw [upd_ne (ne_of_none z hfree)]; exact z
  · have z := F.frzs b o u q
    rw [upd_ne (ne_of_none z hfree)]; exact z
  · obtain ⟨m, z⟩ := F.tbls b ps q
    exact ⟨m, by rw [upd_ne (ne_of_none z hfree)]; exact z⟩
  · intro b u q
    by_cases hb : b = e
    · subst hb
      rw [upd_same] at q; obtain rfl := Option.some.inj q
      exact hob _
    · rw [upd_ne hb] at q
      exact (hok b u q).stay (fun c v _ z => kp c v z) (fun c z => by rw [upd_ne (ne_of_none z hfree)]; exact z) fun c xs z => by rw [upd_ne (ne_of_none z hfree)]; exact z
theorem name_goes {n : Str} {i : Nat} {pos : Pos} {A' : Around} {E : Value → Shared → Prop} {Q : Unit → Shared → Prop} (I : Inv X pins σ H s) (hN : X.N.Nodup) (hi : X.N[i]? = some n) (hl : X.env.scope.names.lookup n = some .local)
    (h : ∀ s', Inv X pins (σ.set i none) H s' → Q () s') : wpAny (model X.prog X.w) A' (do bindName X.env n .none; unbindBehindTheSuite X.env n pos) Q E s := by
  refine L2.ob_ea (id I.loc) fun m hn hloc => ?_
  have hcls : (X.env.scope.kind == .class || (X.env.scope.kind == .module && X.env.locals != X.env.globals)) = false := by rw [I.ok.kind]; rfl
  refine wpAny_nameGoes_keeps hl hn hcls fun h' v hn' hs => h _ ?_
  obtain ⟨oL, _, _, hoL, _⟩ := id hn
  have ext : ∀ b o, b ≠ X.env.locals → s.heap.get? b = some o → h'.get? b = some o := fun b o hb e => (hs.2 b hb).trans e
  have tracked : HOk X.prog X.w H h' := fun b ob e => (I.hok b ob e).stay (fun c w' hc q => ext c w' (by
    rintro rfl
    rcases hc with rfl | hc
    · rw [I.free] at e; exact L2.ns_ e
    · rw [I.free] at hc; exact L2.ns_ hc) q) (fun _ q => q) fun _ _ q => q
  have neL : ∀ b o, X.s₀.heap.get? b = some o → b ≠ X.env.locals := fun b o e => Nat.ne_of_lt (Nat.lt_of_lt_of_le (Heap.lt_size e) I.ok.above)
  refine ⟨I.ok, I.os, I.bare, ⟨fun b o e n hb hx => ext b o (neL b o e) (I.base.keep b o e n hb hx), fun b o e n hb hx => ?_, I.base.free, fun b o e hx => ?_, I.base.tups, I.base.frzs, I.base.tbls⟩, ⟨_, hn', fun j y v' e1 e2 e3 => ?_⟩, fun y c e => ?_, I.free, I.freeC, fun p hp => ?_, tracked, by rw [List.length_set]; exact I.len⟩
  · obtain ⟨sl, e1⟩ := I.base.slot b o e n hb hx
    exact ⟨sl, ext b _ (neL b o e) e1⟩
  · obtain ⟨o', e1⟩ := I.base.there b o e hx
    exact ⟨o', ext b _ (neL b o e) e1⟩
  · have hj : j ≠ i := by
      rintro rfl
      rw [List.getElem?_set] at e2
      simp at e2
    rw [List.getElem?_set_ne (Ne.symm hj)] at e2
    refine L2.ob_ea (hloc j y v' e1 e2 e3) fun u' r' q => ?_
    have hy : y ≠ n := fun e => hj (nodup_ix hN e1 (e ▸ hi))
    refine ⟨u', r', ?_⟩
    rcases q with ⟨k, e⟩ | ⟨k, c, e, z⟩
    · exact .inl ⟨k, by simp [hy, e]⟩
    · obtain ⟨o, ho, hd⟩ := z
      exact .inr ⟨k, c, e, o, ext c o (I.cne y c e) ho, hd⟩
  · obtain ⟨v, o, ho, hd⟩ := I.cell y c e
    exact ⟨v, o, ext c o (I.cne y c e) ho, hd⟩
  · refine L2.ob_aaaa (I.pin p hp) fun e n ne nf d => ?_
    exact ⟨ext p.1 p.2 ne e, n, ne, nf, d⟩
theorem ps_try {n : Str} {i : Nat} {x : Str} {c : Value} {body : List Stmt} {b₀ : Stmt} {suite : List Stmt} {np hpos pos : Pos} {tb : XK → TS} {ts : TS} (O : Own X) (hc : X.calm = true)
    (hb : ∀ (xe' : Value → Shared → Prop) (pn' : List (Addr × Obj)) (E : XK), Passes (CX1 X.prog X.w) { X with xe := xe', pn := pn' } E → PSs { X with xe := xe', pn := pn' } body (tb E))
    (hs : ∀ (A' : Around), PSs { X with A := A', calm := false, xe := fun _ _ => False } (b₀ :: suite) ts)
    (hN : X.N.Nodup) (hi : X.N[i]? = some n) (hl : X.env.scope.names.lookup n = some .local) (hg : Gl X x) (hm : X.mg x = some c) (hd : (x == ("__debug__" : Str)) = false := by decide) :
    PS X (.Try body [.ExceptHandler (some (.Name x np)) (some n) (b₀ :: suite) hpos] [] [] pos) (tTry X.K c X.N.length i tb ts) := by
  intro pins s σ H D I h
  refine wpAny_Try_except ?_
  let xe' : Value → Shared → Prop := fun e s₁ => wpAny (model X.prog X.w) X.A (noteFrame e X.env) (fun _ s₂ => wpAny (model X.prog X.w) X.A (setFlight e none) (fun _ s₃ => wpAny (model X.prog X.w) X.A (handleBy e X.env [.ExceptHandler (some (.Name x np)) (some n) (b₀ :: suite) hpos]) (SP X pins D) X.xe s₃) X.xe s₂) X.xe s₁
  have hp : Passes (CX1 X.prog X.w) { X with xe := xe', pn := X.pn ++ pins } (catchE X.K c X.N.length i ts D) := by
    intro pins2 σ2 H2 s2 e s' I2 hcx
    obtain ⟨a, C, H', y, rfl, F, _, C', hC', hex, hts⟩ := hcx
    cases hC'
    have I2' : Inv X pins σ2 H2 s2 := I2.recx (X := { X with xe := xe', pn := X.pn ++ pins }) (A' := X.A) (calm' := X.calm) (pn' := X.pn) (xe' := X.xe) (pins' := pins) I.ok.frames I.ok.hd (fun p z => List.mem_append_left _ z)
    have F' : Fly X.prog X.w X.stack H2 s2 C H' a s' := F
    refine L2.ob_eeaaa F'.body fun B a0 hfl hok hk ht => ?_
    have hfr : X.A.frames = some (X.env :: X.outer) := by rw [I.ok.frames, O.stk]
    have hfl' := hfl
    rw [O.stk] at hfl'
    show wpAny _ _ _ _ _ _
    refine wpAny_looks_onW hfr O.fr hfl' fun h4 held4 sm4 => ?_
    refine wpAny_landsW held4 fun h5 fl5 sm5 => ?_
    have fl5' : Heap.FlyingW B X.stack a (.ref C) a0 h5 := by rw [O.stk]; exact fl5
    obtain ⟨hfree, I5⟩ := fly_landed (tk := s'.toks) I2' F' fl5' hok hk ht (sm4.trans sm5) (ob := excO a C) fun G => flying_excO fl5' G
    have LT : PySem.W.Looks (model X.prog X.w) h5 (typeOf (.ref a)) (.ref C) := by
      obtain ⟨ob, hob, hc⟩ := fl5.there
      exact hc ▸ (PySem.W.Looks.ld hob).andThen .now
    have I5m : Inv { X with A := X.A.mark (some (.ref a)), calm := false, xe := fun _ _ => False } pins (List.replicate X.N.length none) (upd H' a (excO a C)) { s' with heap := h5 } :=
      (I5.recx (A' := X.A.mark (some (.ref a))) (calm' := false) (pn' := X.pn) (xe' := fun _ _ => False) (pins' := pins) (by show (X.A.mark _).frames = _; exact I.ok.frames) (fun z => nomatch z) (fun p z => z)).weak
        (by rw [List.length_replicate]; exact I5.len.symm) (fun j v z => by
          rw [List.getElem?_replicate] at z
          split at z <;> cases z)
    refine wpAny_handleBy_cons (codeAny_handlers_test (ld_glob (X := { X with A := X.A.mark (some (.ref a)), calm := false, xe := fun _ _ => False }) I5m hg hm ?_ hd)) (by intro q; cases q)
    refine (PySem.W.exm_one I5.kIn LT hex).here ?_
    show codeAny _ _ (.handlers (.ref a) [.ExceptHandler none (some n) (b₀ :: suite) hpos] X.env) _ _
    refine codeAny_handlers_suite_as ?_
    refine lands_againW fl5 fun h6 fl6 sm6 => ?_
    have fl6' : Heap.FlyingW B X.stack a (.ref C) a0 h6 := by rw [O.stk]; exact fl6
    obtain ⟨_, I6⟩ := fly_landed (tk := s'.toks) I2' F' fl6' hok hk ht ((sm4.trans sm5).trans sm6) (ob := excO a C) fun G => flying_excO fl6' G
    have I6m : Inv { X with A := X.A.mark (some (.ref a)), calm := false, xe := fun _ _ => False } pins (List.replicate X.N.length none) (upd H' a (excO a C)) { s' with heap := h6 } :=
      (I6.recx (A' := X.A.mark (some (.ref a))) (calm' := false) (pn' := X.pn) (xe' := fun _ _ => False) (pins' := pins) (by show (X.A.mark _).frames = _; exact I.ok.frames) (fun z => nomatch z) (fun p z => z)).weak
        (by rw [List.length_replicate]; exact I6.len.symm) (fun j v z => by
          rw [List.getElem?_replicate] at z
          split at z <;> cases z)
    refine store_ok (X := { X with A := X.A.mark (some (.ref a)), calm := false, xe := fun _ _ => False }) (v := .ref a) I6m hN hi (Or.inl hl) rfl (fun s7 I7 => ?_) (.inr hl)
    refine wpAny_mono (hs (X.A.mark (some (.ref a))) pins s7 _ _ _ I7 (hts a hfree)) (fun f s8 q8 => ?_) fun _ _ z => False.elim z
    have back : ∀ {σ8 : St} {H8 : Hp}, Inv { X with A := X.A.mark (some (.ref a)), calm := false, xe := fun _ _ => False } pins σ8 H8 s8 → Inv X pins σ8 H8 s8 := fun {σ8 H8} J =>
      J.recx (X := { X with A := X.A.mark (some (.ref a)), calm := false, xe := fun _ _ => False }) (A' := X.A) (calm' := X.calm) (pn' := X.pn) (xe' := X.xe) (pins' := pins) I.ok.frames I.ok.hd (fun p z => z)
    cases f with
    | next => obtain ⟨σ8, H8, I8, q⟩ := q8; exact name_goes (back I8) hN hi hl fun s9 I9 => ⟨_, H8, I9, q⟩
    | brk => obtain ⟨σ8, H8, I8, q⟩ := q8; exact name_goes (back I8) hN hi hl fun s9 I9 => ⟨_, H8, I9, q⟩
    | cont => obtain ⟨σ8, H8, I8, q⟩ := q8; exact name_goes (back I8) hN hi hl fun s9 I9 => ⟨_, H8, I9, q⟩
    | ret u => obtain ⟨v8, σ8, H8, I8, r8, q⟩ := q8; exact name_goes (back I8) hN hi hl fun s9 I9 => ⟨v8, _, H8, I9, r8, q⟩
  have I0 : Inv { X with xe := xe', pn := X.pn ++ pins } [] σ H s := I.recx (A' := X.A) (calm' := X.calm) (pn' := X.pn ++ pins) (xe' := xe') (pins' := []) I.ok.frames I.ok.hd (fun p z => by simpa using z)
  refine wpAny_mono (hb xe' (X.pn ++ pins) _ hp [] s σ H D I0 h) (fun f s1 q1 => ?_) fun e s1 z => z
  have back : ∀ {σ8 : St} {H8 : Hp}, Inv { X with xe := xe', pn := X.pn ++ pins } [] σ8 H8 s1 → Inv X pins σ8 H8 s1 := fun {σ8 H8} J =>
    J.recx (X := { X with xe := xe', pn := X.pn ++ pins }) (A' := X.A) (calm' := X.calm) (pn' := X.pn) (xe' := X.xe) (pins' := pins) I.ok.frames I.ok.hd (fun p z => by simpa using z)
  cases f with
  | next => obtain ⟨σ8, H8, I8, q⟩ := q1; exact wpAny_execs_nil ⟨σ8, H8, back I8, q⟩
  | brk => obtain ⟨σ8, H8, I8, q⟩ := q1; exact ⟨σ8, H8, back I8, q⟩
  | cont => obtain ⟨σ8, H8, I8, q⟩ := q1; exact ⟨σ8, H8, back I8, q⟩
  | ret u => obtain ⟨v8, σ8, H8, I8, r8, q⟩ := q1; exact ⟨v8, σ8, H8, back I8, r8, q⟩
end
end L2

namespace L2
open PySem PySem.Spec PyProof.Rows
noncomputable def clOf (cells : List (Str × Addr)) : List (Str × NameKind) → List (Str × Addr) → List (Str × Addr)
  | [], cs => cs
  | (n, k) :: r, cs => if (k == .free) = true then (match cells.lookup n with | some c => clOf cells r ((n, c) :: cs) | none => clOf cells r cs) else clOf cells r cs
theorem closure_loop {env : Env} : ∀ (names : List (Str × NameKind)) (cs : List (Str × Addr)), (∀ y ∈ names, y.2 = .free → ∃ c, env.cells.lookup y.1 = some c) →
    (forIn names cs fun (x : Str × NameKind) (r : List (Str × Addr)) => (match x with
      | (name, kind) => (if (kind == NameKind.free) = true then do
          let a ← cellOf env name
          pure (ForInStep.yield ((name, a) :: r))
        else pure (ForInStep.yield r) : Sem (ForInStep (List (Str × Addr)))))) = (pure (clOf env.cells names cs) : Sem (List (Str × Addr)))
  | [], cs, _ => rfl
  | (n, k) :: r, cs, h => by
    rw [List.forIn_cons]
    have ih := fun cs => closure_loop r cs fun y hy => h y (List.mem_cons_of_mem _ hy)
    by_cases hk : (k == NameKind.free) = true
    · obtain ⟨c, hc⟩ := h (n, k) List.mem_cons_self (by simpa using hk)
      have e : cellOf env n = pure c := by unfold cellOf; rw [hc]
      simp only [hk, if_true, e]
      show _ = pure (clOf env.cells ((n, k) :: r) cs)
      rw [clOf, if_pos hk, hc]
      exact ih _
    · simp only [hk]
      show _ = pure (clOf env.cells ((n, k) :: r) cs)
      rw [clOf, if_neg hk]
      exact ih _
theorem closure_of {scope : Scope} {env : Env} (h : ∀ y ∈ scope.names, y.2 = .free → ∃ c, env.cells.lookup y.1 = some c) : closureFor scope env = pure (clOf env.cells scope.names []) := by
  have e := closure_loop (env := env) scope.names [] h
  unfold closureFor
  first
    | (simp only [bind_pure_comp] at e ⊢; rw [e]; rfl)
    | (rw [e]; rfl)
    | exact e
theorem clOf_sub {cells : List (Str × Addr)} : ∀ {names : List (Str × NameKind)} {cs : List (Str × Addr)}, (∀ y c, cs.lookup y = some c → cells.lookup y = some c) → ∀ y c, (clOf cells names cs).lookup y = some c → cells.lookup y = some c
  | [], _, h, y, c, e => h y c e
  | (n, k) :: r, cs, h, y, c, e => by
    rw [clOf] at e
    split at e
    · cases q : cells.lookup n with
      | none => rw [q] at e; exact clOf_sub h y c e
      | some a =>
        rw [q] at e
        refine clOf_sub (fun z d hz => ?_) y c e
        rw [List.lookup_cons] at hz
        by_cases b : (z == n) = true
        · rw [b] at hz
          have : z = n := by simpa using b
          obtain rfl := Option.some.inj hz
          rw [this]; exact q
        · have b' : (z == n) = false := by simpa using b
          rw [b'] at hz
          exact h z d hz
    · exact clOf_sub h y c e
theorem clOf_more {cells : List (Str × Addr)} : ∀ {names : List (Str × NameKind)} {cs : List (Str × Addr)} {y : Str}, (∃ c, cs.lookup y = some c) → ∃ c, (clOf cells names cs).lookup y = some c
  | [], _, _, h => h
  | (n, k) :: r, cs, y, h => by
    rw [clOf]
    split
    · cases q : cells.lookup n with
      | none => exact clOf_more h
      | some a =>
        refine clOf_more ?_
        rw [List.lookup_cons]
        cases (y == n) with
        | true => exact ⟨a, rfl⟩
        | false => exact h
    · exact clOf_more h
theorem clOf_has {cells : List (Str × Addr)} : ∀ {names : List (Str × NameKind)} {cs : List (Str × Addr)} {y : Str}, (y, NameKind.free) ∈ names → (∃ c, cells.lookup y = some c) → ∃ c, (clOf cells names cs).lookup y = some c
  | [], _, _, h, _ => nomatch h
  | (n, k) :: r, cs, y, h, hc => by
    rw [clOf]
    rcases List.mem_cons.mp h with e | h
    · cases e
      rw [if_pos (by decide)]
      obtain ⟨c, hc⟩ := hc
      rw [hc]
      refine clOf_more ⟨c, ?_⟩
      rw [List.lookup_cons]
      simp
    · split
      · cases q : cells.lookup n with
        | none => exact clOf_has h hc
        | some a => exact clOf_has h hc
      · exact clOf_has h hc
noncomputable def compN (x : Str) (N : List Str) (js : List Nat) : List Str := x :: js.map fun j => N.getD j Str.empty
noncomputable def compSt (v : Option V) (σ : St) (js : List Nat) : St := v :: js.map fun j => (σ[j]?).getD none
noncomputable def compOk (scope : Scope) (env : Env) (x : Str) (N : List Str) (js : List Nat) : Bool :=
  (scope.kind == .function) && (scope.names.lookup x == some .local) &&
  scope.names.all (fun y => y.2 != .cell && (y.2 != .local || scope.names.lookup y.1 == some .local) && (y.2 != .free || env.kindOf y.1 == some .cell || env.kindOf y.1 == some .free)) &&
  js.all (fun j => decide (j < N.length) && scope.names.lookup (N.getD j Str.empty) == some .free)
noncomputable def compCx (X : Cx) (scope : Scope) (x : Str) (js : List Nat) (C : Addr) (s₁ : Shared) (H₁ : Hp) (fp : List Addr) : Cx :=
  { X with N := compN x X.N js, s₀ := s₁, H₀ := H₁, env := compEnvC scope (clOf X.env.cells scope.names []) C X.env, outer := X.stack, stack := X.stack, ex := fp, fn := fun _ => false, pn := [], xe := fun _ _ => False }
theorem mem_of_lookup' {names : List (Str × NameKind)} {y : Str} {k : NameKind} (h : names.lookup y = some k) : (y, k) ∈ names := PySem.mem_of_lookup h
theorem relabel_kind {scope : Scope} {env : Env} {y : Str} {k : NameKind} (h : (relabel scope env).names.lookup y = some k) : ∃ k0, (y, k0) ∈ scope.names ∧ (k = k0 ∨ (k = .cell ∧ k0 = .free)) := by
  have m := mem_of_lookup' h
  unfold relabel at m
  refine L2.ob_ea (List.mem_map.mp m) fun q_0 hm e => ?_; obtain ⟨n, k0⟩ := q_0
  dsimp only at e
  split at e
  · rename_i hc
    cases e
    simp only [Bool.and_eq_true, beq_iff_eq] at hc
    exact ⟨k0, hm, .inr ⟨rfl, hc.1.1⟩⟩
  · cases e
    exact ⟨k, hm, .inl rfl⟩
theorem lookup_relabel_free {env : Env} : ∀ {names : List (Str × NameKind)} {x : Str}, names.lookup x = some .free →
    (names.map fun (n, k) => if (k == NameKind.free && env.scope.kind == .function && env.kindOf n == some .cell) then (n, NameKind.cell) else (n, k)).lookup x = some .cell ∨
    (names.map fun (n, k) => if (k == NameKind.free && env.scope.kind == .function && env.kindOf n == some .cell) then (n, NameKind.cell) else (n, k)).lookup x = some .free
  | [], _, h => by simp at h
  | (n, k) :: r, x, h => by
    have ih := @lookup_relabel_free env r x
    show List.lookup x ((if (k == NameKind.free && env.scope.kind == .function && env.kindOf n == some .cell) = true then (n, NameKind.cell) else (n, k)) :: _) = _ ∨ List.lookup x ((if (k == NameKind.free && env.scope.kind == .function && env.kindOf n == some .cell) = true then (n, NameKind.cell) else (n, k)) :: _) = _
    cases hx : x == n with
    | true =>
      simp only [List.lookup_cons, hx] at h
      obtain rfl := Option.some.inj h
      by_cases hc : (NameKind.free == NameKind.free && env.scope.kind == .function && env.kindOf n == some .cell) = true
      · rw [if_pos hc]; left; simp [List.lookup_cons, hx]
      · rw [if_neg hc]; right; simp [List.lookup_cons, hx]
    | false =>
      simp only [List.lookup_cons, hx] at h
      by_cases hc : (k == NameKind.free && env.scope.kind == .function && env.kindOf n == some .cell) = true
      · rw [if_pos hc]; simp only [List.lookup_cons, hx]; exact ih h
      · rw [if_neg hc]; simp only [List.lookup_cons, hx]; exact ih h
structure CompOk (scope : Scope) (env : Env) (x : Str) (N : List Str) (js : List Nat) : Prop where
  kind : scope.kind = .function
  x : scope.names.lookup x = some .local
  nocell : ∀ y ∈ scope.names, y.2 ≠ .cell
  loc : ∀ y ∈ scope.names, y.2 = .local → scope.names.lookup y.1 = some .local
  fr : ∀ y ∈ scope.names, y.2 = .free → env.kindOf y.1 = some .cell ∨ env.kindOf y.1 = some .free
  js : ∀ j ∈ js, j < N.length ∧ scope.names.lookup (N.getD j Str.empty) = some .free
theorem compOk_of {scope : Scope} {env : Env} {x : Str} {N : List Str} {js : List Nat} (h : compOk scope env x N js = true) : CompOk scope env x N js := by
  unfold compOk at h
  simp only [Bool.and_eq_true, List.all_eq_true, beq_iff_eq, Bool.or_eq_true, bne_iff_ne, decide_eq_true_eq] at h
  obtain ⟨⟨⟨h1, h2⟩, h3⟩, h4⟩ := h
  refine ⟨h1, h2, fun y hy => (h3 y hy).1.1, fun y hy e => ?_, fun y hy e => ?_, h4⟩
  · rcases (h3 y hy).1.2 with z | z
    · exact absurd e z
    · exact z
  · rcases (h3 y hy).2 with (z | z) | z
    · exact absurd e z
    · exact .inl z
    · exact .inr z
section
variable {X : Cx} {pins : List (Addr × Obj)} {σ : St} {H H₁ : Hp} {s s₁ : Shared} {scope : Scope} {x : Str} {js : List Nat} {C : Addr} {fp : List Addr}
theorem comp_cells (O : CompOk scope X.env x X.N js) (I : Inv X pins σ H s) : ∀ y ∈ scope.names, y.2 = .free → ∃ c, X.env.cells.lookup y.1 = some c := fun y hy e => I.ok.has y.1 (O.fr y hy e)
theorem cl_sub : ∀ y c, (clOf X.env.cells scope.names []).lookup y = some c → X.env.cells.lookup y = some c := clOf_sub fun y c e => by simp at e
theorem comp_ok (O : CompOk scope X.env x X.N js) (I : Inv X pins σ H₁ s₁) (hc : X.calm = true) (hC : s₁.heap.objs.size ≤ C) (hf : ∀ b ∈ fp, FpOk X pins H₁ b) (hfx : ∀ b ∈ fp, X.base.get? b = none) (hlt : ∀ b ∈ fp, b < s₁.heap.objs.size) : (compCx X scope x js C s₁ H₁ fp).Ok := by
  refine ⟨I.ok.mod, O.kind, I.ok.glob, I.ok.blt, hC, fun y z c h1 h2 => I.ok.inj y z c (cl_sub y c h1) (cl_sub z c h2), fun y hy => ?_, (fun y c h => nomatch h), I.ok.hd, I.ok.frames, .inl rfl, fun b hb => ⟨?_, fun y c e => ?_⟩, I.bs, Nat.le_trans I.ok.bsz I.sz, fun b o e hb => ?_, fun b hb hs => ?_, I.stack, I.stkFree⟩
  · have hy' : (relabel scope X.env).names.lookup y = some .cell ∨ (relabel scope X.env).names.lookup y = some .free := hy
    have : ∃ k0, (y, k0) ∈ scope.names ∧ k0 = .free := by
      rcases hy' with z | z
      · obtain ⟨k0, hm, h⟩ := relabel_kind z
        rcases h with h | h
        · exact absurd h.symm (O.nocell _ hm)
        · exact ⟨k0, hm, h.2⟩
      · obtain ⟨k0, hm, h⟩ := relabel_kind z
        rcases h with h | h
        · exact ⟨k0, hm, h.symm⟩
        · cases h.1
    refine L2.ob_ea this fun k0 hm e => ?_
    subst e
    exact clOf_has hm (comp_cells O I _ hm rfl)
  · exact Nat.ne_of_lt (Nat.lt_of_lt_of_le (hlt b hb) hC)
  · exact (hf b hb).2.2.2.2.1 y c (cl_sub y c e)
  · have e' : X.base.get? b = some o := e
    rw [hfx b hb] at e'; exact L2.ns_ e'
  · have hs' : b ∈ frs X.stack := hs
    rcases List.mem_cons.mp (I.stkSub b hs') with z | z
    · exact (hf b hb).2.1 z
    · exact (hf b hb).2.2.1 z
theorem fp_base (I : Inv X pins σ H s) {b : Addr} (f : FpOk X pins H b) : X.base.get? b = none := by
  rcases f.2.2.2.1 with z | z
  · cases q : X.base.get? b with
    | none => rfl
    | some o => exact absurd z (I.ok.noex b o q)
  · exact Heap.get?_none_of_le (Nat.le_trans I.ok.bsz z)
theorem comp_inv {s₃ : Shared} {m : Str → Option Value} (O : CompOk scope X.env x X.N js) (I : Inv X pins σ H₁ s₁) (hc : X.calm = true) (hC : s₁.heap.objs.size ≤ C) (hf : ∀ b ∈ fp, FpOk X pins H₁ b) (hlt : ∀ b ∈ fp, b < s₁.heap.objs.size)
    (hos : s₃.os = s₁.os) (hg : AllBare s₃.gens) (hk : ∀ b o, s₁.heap.get? b = some o → s₃.heap.get? b = some o) (hn : s₃.heap.Ns C m) : Inv (compCx X scope x js C s₁ H₁ fp) [] (compSt none σ js) H₁ s₃ := by
  refine ⟨comp_ok O I hc hC hf (fun b hb => fp_base I (hf b hb)) hlt, hos, hg, Un.kept hk, ⟨m, hn, fun i y v e1 e2 e3 => ?_⟩, fun y c e => ?_, I.hok.fresh hC, fun y c e => I.freeC y c (cl_sub y c e), fun p hp => ?_, I.hok.kept hk, ?_⟩
  · cases i with
    | zero =>
      have e2' : (some (none : Option V)) = some (some v) := e2
      cases e2'
    | succ k =>
      have e1' : (js.map fun j => X.N.getD j Str.empty)[k]? = some y := e1
      have e2' : (js.map fun j => (σ[j]?).getD none)[k]? = some (some v) := e2
      rw [List.getElem?_map] at e1' e2'
      cases q : js[k]? with
      | none => rw [q] at e1'; cases e1'
      | some j =>
        rw [q] at e1' e2'
        have ey : X.N.getD j Str.empty = y := Option.some.inj e1'
        have ev : (σ[j]?).getD none = some v := Option.some.inj e2'
        obtain ⟨hj, hfree⟩ := O.js j (List.mem_of_getElem? q)
        rw [ey] at hfree
        have hNj : X.N[j]? = some y := by
          rw [List.getD_eq_getElem?_getD, List.getElem?_eq_getElem hj] at ey
          rw [List.getElem?_eq_getElem hj]
          exact congrArg some ey
        have hσ : σ[j]? = some (some v) := by
          cases z : σ[j]? with
          | none => rw [z] at ev; cases ev
          | some o => rw [z] at ev; exact congrArg some ev
        have hkind := O.fr (y, .free) (mem_of_lookup' hfree) rfl
        refine L2.ob_ea I.loc fun mX hnX hl => ?_
        obtain ⟨u, r, l⟩ := hl j y v hNj hσ (by
          rcases hkind with z | z
          · exact .inr (.inl z)
          · exact .inr (.inr z))
        refine ⟨u, r, ?_⟩
        rcases l with ⟨z, _⟩ | ⟨_, c, hcell, hv⟩
        · rcases hkind with z2 | z2
          · rw [z] at z2; cases z2
          · rw [z] at z2; cases z2
        · obtain ⟨c', hc'⟩ := clOf_has (cells := X.env.cells) (cs := []) (mem_of_lookup' hfree) ⟨c, hcell⟩
          have : c' = c := by
            have z := cl_sub y c' hc'
            rw [hcell] at z; obtain rfl := Option.some.inj z; rfl
          subst this
          obtain ⟨o, ho, hd⟩ := hv
          exact .inr ⟨lookup_relabel_free hfree, c', hc', o, hk _ _ ho, hd⟩
  · obtain ⟨v, o, ho, hd⟩ := I.cell y c (cl_sub y c e)
    exact ⟨v, o, hk _ _ ho, hd⟩
  · exact absurd (show p ∈ ([] : List (Addr × Obj)) from hp) (by simp)
  · show (compSt none σ js).length = (compN x X.N js).length
    unfold compSt compN
    simp
end

theorem compLoop_any {prog : Program} {w : World} {A : Around} {R : Result → Shared → Prop} {s : Shared} {elt target iter : Expr} {ifs : List Expr} {scope : Scope} {pos : Pos} {it acc : Value} {env : Env} (I : Nat → Shared → Prop)
    (turn : ∀ n s, I n s → wpAny (model prog w) A (pyNext it) (fun r s₁ => match r with
      | none => R (.ok .next) s₁
      | some v => wpAny (model prog w) A (letOwnedTupleGo target it v) (fun _ s₁ => wpAny (model prog w) A (assign target env v) (fun _ s₂ =>
          wpAny (model prog w) A (forIn ifs true fun c r => if r = true then do let ok ← isTrue c env (eval c env); pure (ForInStep.yield ok) else pure (ForInStep.yield r)) (fun ok s₃ =>
            if ok = true then wpAny (model prog w) A (eval elt env) (fun x s₄ =>
              wpAny (model prog w) A (call (.builtin "list.append") [acc, x]) (fun _ s₅ => ∃ m, m < n ∧ I m s₅) (fun _ _ => False) s₄) (fun _ _ => False) s₃
            else ∃ m, m < n ∧ I m s₃) (fun _ _ => False) s₂) (fun _ _ => False) s₁) (fun _ _ => False) s₁) (fun _ _ => False) s)
    (n : Nat) (h : I n s) : codeAny (model prog w) A (.compLoop (.ListComp elt [⟨target, iter, ifs, 0⟩] scope pos) 0 it acc env) R s := by
  refine codeAny_loop rfl I (fun n s hI => ?_) n h
  show wpAny _ A ((compTurn (.ListComp elt [⟨target, iter, ifs, 0⟩] scope pos) 0 it acc env).onRaise (fun x => do noteFrame x env; theTreesLotGoes x)) _ _ s
  refine wpAny_noted ?_
  rw [compTurn_list]
  refine wpAny_bind (wpAny_standAt (wpAny_bind (wpAny_mono (turn n s hI) (fun r s₁ h₁ => ?_) fun _ _ h' => False.elim h')))
  cases r with
  | none => exact wpAny_pure h₁
  | some v =>
    refine wpAny_bind (wpAny_mono h₁ (fun _ s₁ h₁ => ?_) fun _ _ h' => False.elim h')
    refine wpAny_bind (wpAny_mono h₁ (fun _ s₂ h₂ => wpAny_bind (wpAny_mono h₂ (fun ok s₃ h₃ => ?_) fun _ _ h' => False.elim h')) fun _ _ h' => False.elim h')
    cases ok with
    | false => exact wpAny_pure ⟨rfl, h₃⟩
    | true =>
      exact wpAny_bind (wpAny_bind (wpAny_mono h₃ (fun x s₄ h₄ => wpAny_bind (wpAny_mono h₄ (fun _ s₅ h₅ => wpAny_pure (wpAny_pure ⟨rfl, h₅⟩)) fun _ _ h' => False.elim h')) fun _ _ h' => False.elim h'))
noncomputable def tests : Option TT → TT
  | none => fun _ H Q => Q true H
  | some t => t
noncomputable def PTests (Y : Cx) : List Expr → Option TT → Prop
  | [], none => True
  | [c], some t => PT Y c t
  | _, _ => False
theorem tests_ok {Y : Cx} {ifs : List Expr} {ot : Option TT} (h : PTests Y ifs ot) (hx : Y.xe = fun _ _ => False) {pins : List (Addr × Obj)} {s : Shared} {σ : St} {H : Hp} {Q : Bool → Hp → Prop} (I : Inv Y pins σ H s) (q : tests ot σ H Q) :
    wpAny (model Y.prog Y.w) Y.A (forIn ifs true fun c r => if r = true then do let ok ← isTrue c Y.env (eval c Y.env); pure (ForInStep.yield ok) else pure (ForInStep.yield r)) (TP Y pins σ Q) (fun _ _ => False) s := by
  match ifs, ot, h with
  | [], none, _ => exact wpAny_tests_nil ⟨H, I, q⟩
  | [c], some t, h =>
    have z := h pins s σ H Q I q
    rw [hx] at z
    exact wpAny_tests_one z
noncomputable def compGo (J : It) (js : List Nat) (ot : Option TT) (te : TE) (σ : St) (H1 : Hp) (Fin : List V → Hp → Prop) : Prop :=
  ∃ W : Nat → Nat → List V → Hp → Prop, (∃ m, W 0 m [] H1) ∧ ∀ i m ys H, W i m ys H →
    (J.stop i H ∧ Fin ys H) ∨ (J.go i H ∧ ys.length < sizeLine ∧ ∀ x H', J.yld i H x H' → tests ot (compSt (some x) σ js) H' fun b H2 =>
      if b = true then te (compSt (some x) σ js) H2 fun y H3 => ∃ m', m' < m ∧ W (i + 1) m' (ys ++ [y]) H3 else ∃ m', m' < m ∧ W (i + 1) m' ys H2)
section
variable {X : Cx} {pins : List (Addr × Obj)} {σ : St} {H₁ : Hp} {s₁ : Shared} {scope : Scope} {x : Str} {js : List Nat} {elt iter : Expr} {ifs : List Expr} {ot : Option TT} {te : TE} {px pos : Pos}
inductive Iv_comp_block (X : Cx) (σ : St) (H₁ : Hp) (s₁ : Shared) (scope : Scope) (x : Str) (js : List Nat) (fp : List Addr) (tn : Nat → Heap → Prop) (D : Nat) (C : Nat) (W : Nat → Nat → List V → Hp → Prop) (n : Nat) (s' : Shared) : Prop
  | mk : ∀ i ys its nn H' v0, (Inv (compCx X scope x js C s₁ H₁ fp) [] (compSt v0 σ js) H' s') → (tn i s'.heap) → ((∀ b ∈ fp, H' b = none)) → (H' D = none) → (s'.heap.get? D = some { cls := .type "list", data := .seq (its : List Value).toArray nn }) → (Vals ys its) → (ys.length ≤ sizeLine) → (W i n ys H') → Iv_comp_block X σ H₁ s₁ scope x js fp tn D C W n s'
theorem comp_block {it : Addr} {fp : List Addr} {tn : Nat → Heap → Prop} {J : It} {Fin : List V → Hp → Prop} {RR : Value → Addr → Result → Shared → Prop} {E : Value → Shared → Prop} (hok : compOk scope X.env x X.N js = true) (hnd : (compN x X.N js).Nodup) (hc : X.calm = true)
    (he : ∀ C s₁ H₁ fp, PE (compCx X scope x js C s₁ H₁ fp) elt te) (ht : ∀ C s₁ H₁ fp, PTests (compCx X scope x js C s₁ H₁ fp) ifs ot)
    (I : Inv X pins σ H₁ s₁) (T : Turn X.prog X.w X.K (.Name x px) J fp it tn) (st : tn 0 s₁.heap) (hf : ∀ b ∈ fp, FpOk X pins H₁ b) (go : compGo J js ot te σ H₁ Fin)
    (hRR : ∀ D C ys H' s' m, H' D = none → Inv X pins σ (upd H' D (.lst ys)) s' → s'.heap.Ns C m → s₁.heap.objs.size ≤ C → upd H' D (.lst ys) C = none → Fin ys H' → RR (.ref D) C (.ok .next) s') :
    wpAny (model X.prog X.w) X.A (newList []) (fun acc s₃ => wpAny (model X.prog X.w) X.A (newFunctionEnv scope X.env.globals (clOf X.env.cells scope.names []) [] X.env.qual none .none (some X.env)) (fun cenv s₄ =>
      codeAny (model X.prog X.w) X.A (.compStart (.ListComp elt [⟨.Name x px, iter, ifs, 0⟩] scope pos) 0 (.ref it) acc { cenv with scope := relabel scope X.env }) (RR acc cenv.locals) s₄) E s₃) E s₁ := by
  have O := compOk_of hok
  have hlt : ∀ b ∈ fp, b < s₁.heap.objs.size := fun b hb => by
    obtain ⟨o, e, _⟩ := T.obj _ _ st b hb
    exact Heap.lt_size e
  refine wpAny_newObj_type (wpAny_newFunctionEnv O.nocell (by intro y hy; simp at hy) (fun h₁ hns₁ hsb₁ => ?_) O.kind)
  dsimp only at hns₁ hsb₁ ⊢
  generalize hH2 : s₁.heap.push { cls := .type "list", dict := none, data := .seq ([] : List Value).toArray } = H2 at hns₁ hsb₁ ⊢
  have hC : H2.objs.size = s₁.heap.objs.size + 1 := by rw [← hH2, Heap.size_push]
  have hDC : s₁.heap.objs.size ≠ H2.objs.size := by rw [hC]; exact Nat.ne_of_lt (Nat.lt_succ_self _)
  have hCle : s₁.heap.objs.size ≤ H2.objs.size := by rw [hC]; exact Nat.le_succ _
  have below : ∀ b, b < s₁.heap.objs.size → b ≠ H2.objs.size ∧ b ≠ s₁.heap.objs.size := fun b hb => ⟨by rw [hC]; exact Nat.ne_of_lt (Nat.lt_succ_of_lt hb), Nat.ne_of_lt hb⟩
  have old : ∀ b o, s₁.heap.get? b = some o → h₁.get? b = some o := fun b o e => hsb₁.extBut b o (below b (Heap.lt_size e)).1 (Heap.get?_push_of_some _ (hH2 ▸ Heap.get?_push_of_some _ e))
  have hacc : h₁.get? s₁.heap.objs.size = some { cls := .type "list", data := .seq ([] : List Value).toArray } := hsb₁.extBut _ _ hDC (Heap.get?_push_of_some _ (hH2 ▸ Heap.get?_push_size _ rfl))
  have st₁ : tn 0 h₁ := T.keep _ _ _ st fun b _ o e => old b o e
  generalize hD : s₁.heap.objs.size = D at *
  generalize hCC : H2.objs.size = C at *
  have hDf : D ∉ fp := fun hb => absurd (hlt D hb) (by rw [← hD]; exact Nat.lt_irrefl _)
  have dcell : ∀ y c, X.env.cells.lookup y = some c → c ≠ D := fun y c e z => by
    obtain ⟨v, q⟩ := I.cell y c e
    exact absurd q.lt (by rw [z, ← hD]; exact Nat.lt_irrefl _)
  have dfs : D ∉ frs X.stack := fun hb => by
    obtain ⟨_, o, ho, _⟩ := I.stack.mem hb
    exact absurd (Heap.lt_size ho) (by rw [← hD]; exact Nat.lt_irrefl _)
  obtain ⟨W, ⟨m0, w0⟩, turn⟩ := go
  have I3 : Inv (compCx X scope x js C s₁ H₁ fp) [] (compSt none σ js) H₁ { s₁ with heap := h₁, toks := s₁.toks + ([] : List (Str × Value)).length } :=
    comp_inv O I hc (by first | exact hCle | (rw [hD]; exact hCle)) hf (fun b hb => by first | exact hlt b hb | (rw [hD]; exact hlt b hb)) rfl I.bare old hns₁
  have stat : ∀ {H' : Hp}, (∀ b ∈ fp, H' b = none) → ∀ b ∈ fp, FpOk (compCx X scope x js C s₁ H₁ fp) [] H' b := fun {H'} hn b hb => by
    have f := hf b hb
    refine ⟨hn b hb, (below b (hlt b hb)).1, fun z => ?_, .inl hb, fun y c e => f.2.2.2.2.1 y c (cl_sub y c e), fun p hp => absurd (show p ∈ ([] : List (Addr × Obj)) from hp) (by simp)⟩
    have z' : b ∈ frs X.stack := z
    rcases List.mem_cons.mp (I.stkSub b z') with q | q
    · exact f.2.1 q
    · exact f.2.2.1 q
  have loop : ∀ s₃ : Shared, s₃ = { s₁ with heap := h₁, toks := s₁.toks + ([] : List (Str × Value)).length } →
      codeAny (model X.prog X.w) X.A (.compLoop (.ListComp elt [⟨.Name x px, iter, ifs, 0⟩] scope pos) 0 (.ref it) (.ref D) (compEnvC scope (clOf X.env.cells scope.names []) C X.env)) (RR (.ref D) C) s₃ := by
    rintro s₃ rfl
    refine compLoop_any (Iv_comp_block X σ H₁ s₁ scope x js fp tn D C W) ?_ m0
      ⟨0, [], [], 0, H₁, none, I3, st₁, fun b hb => (hf b hb).1, I.hok.fresh (by rw [hD]; exact Nat.le_refl _), hacc, .nil, Nat.zero_le _, w0⟩
    rintro n s4 ⟨i, ys, its, nn, H4, v0, I4, st4, fr4, fD4, oD4, rv4, z4, w4⟩
    have I4' : Inv (compCx X scope x js C s₁ H₁ fp) [(D, { cls := .type "list", data := .seq its.toArray nn })] (compSt v0 σ js) H4 s4 := I4.pins_of fun p hp => by
      have e : p = (D, { cls := .type "list", data := .seq its.toArray nn }) := by simpa using hp
      subst e
      exact ⟨oD4, fD4, hDC, dfs, fun v z => by cases z⟩
    have statD : ∀ {H' : Hp}, (∀ b ∈ fp, H' b = none) → ∀ b ∈ fp, FpOk (compCx X scope x js C s₁ H₁ fp) [(D, { cls := .type "list", data := .seq its.toArray nn })] H' b := fun {H'} hn b hb => by
      obtain ⟨f0, f1, f2, f3, f4, _⟩ := stat hn b hb
      refine ⟨f0, f1, f2, f3, f4, fun p hp => ?_⟩
      have hp' : p ∈ [(D, ({ cls := .type "list", data := .seq its.toArray nn } : Obj))] := hp
      have e : p = (D, { cls := .type "list", data := .seq its.toArray nn }) := by simpa using hp'
      subst e
      exact fun z => hDf (by rw [show D = b from z]; exact hb)
    rcases turn i n ys H4 w4 with ⟨stop, fin⟩ | ⟨go, hlen, step⟩
    · refine thn (T.done (compCx X scope x js C s₁ H₁ fp) rfl rfl rfl hc i _ s4 _ H4 _ I4' (statD fr4) st4 stop) fun r s5 ⟨hr, I5⟩ => ?_
      subst hr
      show RR (.ref D) C (.ok .next) s5
      have oD5 : s5.heap.get? D = some { cls := .type "list", data := .seq its.toArray nn } := (I5.pin (D, _) (List.mem_append_right _ List.mem_cons_self)).1
      obtain ⟨m5, hn5, _⟩ := I5.loc
      have nD : ∀ b o, s₁.heap.get? b = some o → b ≠ D := fun b o e => by rw [← hD]; exact Nat.ne_of_lt (Heap.lt_size e)
      have U : Un (frs X.stack) fp H₁ H4 s₁.heap s5.heap := I5.base
      have IX : Inv X pins σ (upd H4 D (.lst ys)) s5 := I.call' (s' := s5) (ch := fp) I5.os
        ⟨U.keep, U.slot, fun b o e n hb => by rw [upd_ne (nD b o e)]; exact U.free b o e n hb, U.there, fun b xs e => by
          have z := U.tups b xs e
          rw [upd_ne (ne_of_none z fD4)]; exact z, fun b o u e => by
          have z := U.frzs b o u e
          rw [upd_ne (ne_of_none z fD4)]; exact z, fun b ps e => by
          obtain ⟨mr, z⟩ := U.tbls b ps e
          exact ⟨mr, by rw [upd_ne (ne_of_none z fD4)]; exact z⟩⟩ (fun b u e => by
            by_cases hb : b = D
            · subst hb
              rw [upd_same] at e; obtain rfl := Option.some.inj e
              exact ⟨z4, its, nn, rv4, oD5⟩
            · rw [upd_ne hb] at e
              exact (I5.hok b u e).stay (fun c v _ z => z) (fun c z => by rw [upd_ne (ne_of_none z fD4)]; exact z) fun c xs z => by rw [upd_ne (ne_of_none z fD4)]; exact z) I5.bare
        (fun b hb => ⟨(hf b hb).2.2.2.1, (hf b hb).2.1, (hf b hb).2.2.2.2.1, (hf b hb).2.2.2.2.2⟩)
      exact hRR D C ys H4 s5 m5 fD4 IX hn5 (by first | exact hCle | (rw [hD]; exact hCle)) (by rw [upd_ne (Ne.symm hDC)]; exact I5.free) fin
    · refine thn (T.item (compCx X scope x js C s₁ H₁ fp) rfl rfl rfl hc i _ s4 _ H4 _ I4' (statD fr4) st4 go) fun r s5 ⟨u, hr, h5⟩ => ?_
      subst hr
      refine thn h5 fun _ s6 ⟨xv, H6, I6, r6, y6, st6, fr6⟩ => ?_
      have I6' := I6.pinned (statD fr6) (T.obj _ _ st6)
      have hxl : (compCx X scope x js C s₁ H₁ fp).env.scope.names.lookup x = some .local := lookup_relabel_local O.x
      refine wpAny_assign_Name (store_ok (X := compCx X scope x js C s₁ H₁ fp) (i := 0) (x := x) I6' hnd rfl (Or.inl hxl) r6 (fun s7 I7 => ?_) (.inr hxl))
      have I7' : Inv (compCx X scope x js C s₁ H₁ fp) ([(D, { cls := .type "list", data := .seq its.toArray nn })] ++ pinsAt fp s6.heap) (compSt (some xv) σ js) H6 s7 := I7
      refine thn (tests_ok (ht C s₁ H₁ fp) rfl I7' (step xv H6 y6)) fun ok s8 ⟨H8, I8, q8⟩ => ?_
      have keepT : ∀ {s' : Shared} {H' : Hp}, Inv (compCx X scope x js C s₁ H₁ fp) ([(D, { cls := .type "list", data := .seq its.toArray nn })] ++ pinsAt fp s6.heap) (compSt (some xv) σ js) H' s' →
          s'.heap.get? D = some { cls := .type "list", data := .seq its.toArray nn } ∧ H' D = none ∧ (∀ b ∈ fp, ∀ o, s6.heap.get? b = some o → s'.heap.get? b = some o) ∧ ∀ b ∈ fp, H' b = none := fun {s' H'} J => by
        have pD := J.pin (D, { cls := .type "list", data := .seq its.toArray nn }) (List.mem_append_right _ (List.mem_append_left _ List.mem_cons_self))
        refine ⟨pD.1, pD.2.1, fun b hb o e => (J.pin (b, o) (List.mem_append_right _ (List.mem_append_right _ (mem_pinsAt hb e)))).1, fun b hb => ?_⟩
        obtain ⟨o, e, _⟩ := T.obj _ _ st6 b hb
        exact (J.pin (b, o) (List.mem_append_right _ (List.mem_append_right _ (mem_pinsAt hb e)))).2.1
      cases ok with
      | false =>
        rw [if_neg Bool.false_ne_true] at q8 ⊢
        refine L2.ob_ea q8 fun m' hm w8 => ?_
        refine L2.ob_aaa (keepT I8) fun k1 k2 k3 k4 => ?_
        exact ⟨m', hm, i + 1, ys, its, nn, H8, some xv, I8.pins_of (fun p hp => absurd hp (by simp)), T.keep _ _ _ st6 k3, k4, k2, k1, rv4, z4, w8⟩
      | true =>
        rw [if_pos rfl] at q8 ⊢
        refine thn (he C s₁ H₁ fp _ s8 _ H8 _ I8 q8) fun u9 s9 ⟨y, H9, I9, r9, m', hm, w9⟩ => ?_
        refine L2.ob_aaa (keepT I9) fun k1 k2 k3 k4 => ?_
        have hsz : its.toArray.size < sizeLine := by rw [List.size_toArray, ← rv4.length]; exact hlen
        refine call_meets F.slot_list_append ⟨_, k1, rfl⟩ F.entry_list_append (F.args_list_append_2 _ _) (PySem.list_append D its.toArray nn u9 (by solve_by_elim (maxDepth := 3) [Nat.le_of_lt, Nat.lt_of_lt_of_le, Nat.le_trans, Nat.lt_of_le_of_lt])) ⟨k1, ?_⟩
        have I9' : Inv (compCx X scope x js C s₁ H₁ fp) [] (compSt (some xv) σ js) H9 s9 := I9.pins_of (fun p hp => absurd hp (by simp))
        have q := PySem.IsL.update k1 (fun a => a.push u9)
        simp only [List.push_toArray] at q
        exact ⟨m', hm, i + 1, ys ++ [y], its ++ [u9], _, H9, some xv, I9'.turned (it := D) (fun b o hb e => (Heap.get?_update_other s9.heap _ (Ne.symm hb)).trans e) k2 hDC (.inr (by first | exact Nat.le_refl _ | (show s₁.heap.objs.size ≤ D; rw [hD]; exact Nat.le_refl _))) (fun yy c e => dcell yy c (cl_sub yy c e)) (fun p hp => absurd (show p ∈ ([] : List (Addr × Obj)) from hp) (by simp)),
          T.keep _ _ _ st6 (fun b hb o e => (Heap.get?_update_other s9.heap _ (fun z => hDf (by rw [z]; exact hb))).trans (k3 b hb o e)), k4, k2, q, rv4.append (.cons r9 .nil), (by rw [List.length_append, List.length_singleton]; exact hlen), w9⟩
  exact codeAny_compStart_list (loop _ rfl) (T.self _ 0 _ _ _ st₁ (loop _ rfl))
noncomputable def tComp (wi : TI) (js : List Nat) (ot : Option TT) (te : TE) : TE := fun σ H Q => wi σ H fun J H1 => compGo J js ot te σ H1 fun ys H' => ∀ p, H' p = none → Q (.ref p) (upd H' p (.lst ys))
theorem pe_comp {wi : TI} (js : List Nat) (hc : X.calm = true) (hi : PI X (.Name x px) iter wi) (he : ∀ C s₁ H₁ fp, PE (compCx X scope x js C s₁ H₁ fp) elt te) (ht : ∀ C s₁ H₁ fp, PTests (compCx X scope x js C s₁ H₁ fp) ifs ot)
    (hok : compOk scope X.env x X.N js = true) (hnd : (compN x X.N js).Nodup) (hs : ∀ x, foldedSetIterable iter X.env x = pure x := by intro _; rfl) :
    PE X (.ListComp elt [⟨.Name x px, iter, ifs, 0⟩] scope pos) (tComp wi js ot te) := by
  intro pins s σ H Q I h
  have O := compOk_of hok
  rw [eval_ListComp]
  refine wpAny_comprehension_free (use := none) rfl hs (closure_of (comp_cells O I)) O.kind O.loc (thn (hi pins s σ H _ I h) fun v s1 h1 => thn h1 fun itv s2 h2 => ?_)
  obtain ⟨it, fp, tn, J, H2, e, I2, T, st2, f2, go⟩ := h2
  subst e
  refine comp_block (RR := fun acc C => compPost (model X.prog X.w) X.A X.xe none (EP X pins σ Q) acc C) hok hnd hc he ht I2 T st2 f2 go ?_
  intro D C ys H' s' m hD I' hn hC hCn fin
  have f := I2.fpOk hC hCn
  exact ⟨m, hn, fun h'' hs'' => ⟨.ref D, _, I'.turned (it := C) (t' := s'.toks) (fun b o hb e => hs''.extBut b o hb e) hCn f.2.1 f.2.2.2.1 f.2.2.2.2.1 f.2.2.2.2.2, rfl, fin D hD⟩⟩
noncomputable def tSetComp (wi : TI) (js : List Nat) (ot : Option TT) (te : TE) (i : Nat) : TS := fun D σ H => wi σ H fun J H1 => compGo J js ot te σ H1 fun ys H' => ∀ p, H' p = none → D.nx (σ.set i (some (.ref p))) (upd H' p (.lst ys))
theorem ps_setcomp {wi : TI} {y : Str} {py spos : Pos} (i : Nat) (js : List Nat) (hc : X.calm = true) (hN : X.N.Nodup) (hy : X.N[i]? = some y) (hl : X.env.scope.names.lookup y = some .local) (hi : PI X (.Name x px) iter wi) (he : ∀ C s₁ H₁ fp, PE (compCx X scope x js C s₁ H₁ fp) elt te) (ht : ∀ C s₁ H₁ fp, PTests (compCx X scope x js C s₁ H₁ fp) ifs ot)
    (hok : compOk scope X.env x X.N js = true) (hnd : (compN x X.N js).Nodup)
    (hsw : swapsWith (.ListComp elt [⟨.Name x px, iter, ifs, 0⟩] scope pos) (some (.Name y py)) spos.line X.env = pure true := by rfl) (hs : ∀ x, foldedSetIterable iter X.env x = pure x := by intro _; rfl) :
    PS X (.Assign [.Name y py] (.ListComp elt [⟨.Name x px, iter, ifs, 0⟩] scope pos) spos) (tSetComp wi js ot te i) := by
  intro pins s σ H D I h
  have O := compOk_of hok
  rw [exec_Assign_Name_used _ _ _ _ hsw]
  refine wpAny_bind (wpAny_standAt (wpAny_bind ?_))
  show wpAny _ X.A (do let _ ← comprehension (.ListComp elt [⟨.Name x px, iter, ifs, 0⟩] scope pos) scope X.env _ (newList []) false (eval iter X.env) (some (assign (.Name y py) X.env))) _ _ s
  refine wpAny_bind (wpAny_mono (wpAny_comprehension_free (use := some (assign (.Name y py) X.env)) (Q := fun _ s' => SP X pins D .next s') rfl hs (closure_of (comp_cells O I)) O.kind O.loc
    (thn (hi pins s σ H _ I h) fun v s1 h1 => thn h1 fun itv s2 h2 => ?_)) (fun _ s' hq => wpAny_pure (wpAny_pure hq)) fun _ _ e => e)
  obtain ⟨it, fp, tn, J, H2, e, I2, T, st2, f2, go⟩ := h2
  subst e
  refine comp_block (RR := fun acc C => compPost (model X.prog X.w) X.A X.xe (some (assign (.Name y py) X.env)) (fun _ s' => SP X pins D .next s') acc C) hok hnd hc he ht I2 T st2 f2 go ?_
  intro D' C ys H' s' m hD I' hn hC hCn fin
  have f := I2.fpOk hC hCn
  show wpAny _ X.A (assign (.Name y py) X.env (.ref D')) _ _ _
  refine wpAny_assign_Name (store_ok2 (v := .ref D') I' hN hy (Or.inl hl) rfl (fun s'' I'' hch => ?_) (.inr hl))
  refine L2.ob_ea hch fun a sb ha => ?_
  have haC : C ≠ a := by
    rcases ha with z | z
    · rw [z]; exact f.2.1
    · exact Ne.symm (f.2.2.2.2.1 _ _ z)
  refine ⟨m, hn.at' (fun o e => sb.extBut _ o haC e), fun h'' hs'' => ⟨_, _, I''.turned (it := C) (t' := s''.toks) (fun b o hb e => hs''.extBut b o hb e) hCn f.2.1 f.2.2.2.1 f.2.2.2.2.1 f.2.2.2.2.2, fin D' hD⟩⟩
end
end L2

namespace L2
open PySem PySem.Spec PyProof.Rows
noncomputable def Ite (K : PySem.W.Frag) (a : Addr) : It :=
  ⟨fun i H => ∃ xs x, SqL K H a xs ∧ xs[i]? = some x, fun i H v H' => ∃ p x, v = .ref p ∧ H p = none ∧ H' = upd H p (.tup [.int i, x]) ∧ ∀ xs, SqL K H a xs → xs[i]? = some x, fun i H => ∃ xs, SqL K H a xs ∧ xs.length ≤ i⟩
theorem turn_enum {P : Program} {w : World} {K : PySem.W.Frag} {elts : List Expr} {x1 : Nat} {tpos : Pos} (a e it : Addr) (hne : e ≠ it) :
    Turn P w K (.Tuple elts x1 tpos) (Ite K a) [e, it] e (fun i h => ∃ old, IsEnum h e it (i : Int) old ∧ h.IsListIter it a i) where
  mem := by simp
  obj := fun i h st b hb => by
    obtain ⟨old, he, o, ho, c, d⟩ := st
    have hb' : b = e ∨ b = it := by simpa using hb
    rcases hb' with rfl | rfl
    · exact ⟨_, he, fun v z => by
        have z' : Data.fields _ = Data.cell v := z
        cases z'⟩
    · exact ⟨o, ho, fun v z => by rw [d] at z; cases z⟩
  keep := fun i h h' st k => by
    obtain ⟨old, he, hit⟩ := st
    exact ⟨old, k e (by simp) _ he, hit.at fun o q => k it (by simp) o q⟩
  item := by
    intro X hP hw hK hc i pins s σ H E I hf st hg
    subst hP hw hK
    obtain ⟨xs, x, hq, hx⟩ := hg
    refine L2.ob_ea st fun old he hit => ?_
    refine L2.ob_eaa (I.list hq) fun its rv p hz => ?_
    refine L2.ob_ea (rv.get hx) fun u hu ru => ?_
    obtain ⟨f0, f1, f2, f3, f4, f5⟩ := hf e (by simp)
    obtain ⟨g0, g1, g2, g3, g4, g5⟩ := hf it (by simp)
    refine wpAny_pyNext_enum_item he hit p.isList (x := u) (by simpa using hu) hne fun h' heo hit' ht hsz hk => ?_
    have hfr : H s.heap.objs.size = none := I.hok.fresh (Nat.le_refl _)
    have nP : ∀ b o, s.heap.get? b = some o → b ≠ s.heap.objs.size := fun b o q => Nat.ne_of_lt (Heap.lt_size q)
    have nE : ∀ b o, H b = some o → b ≠ e ∧ b ≠ it := fun b o q => ⟨(fun z => by rw [z, f0] at q; exact L2.ns_ q), (fun z => by rw [z, g0] at q; exact L2.ns_ q)⟩
    have kk : ∀ b o, b ∉ [e, it] → s.heap.get? b = some o → h'.get? b = some o := fun b o hb q => hk b o (fun z => hb (by simp [z])) (fun z => hb (by simp [z])) q
    have I1 : Inv X pins σ (upd H s.heap.objs.size (.tup [.int i, x])) { s with heap := h', toks := s.toks + 1 } := by
      refine I.step (g' := s.gens) (d' := s.drawn) (ch := [e, it]) (fun b hb => ?_) (fun b o _ _ hc q _ => kk b o hc q) (fun b o _ _ hc q _ => ⟨o.slots, kk b o hc q⟩) (fun b o _ q n => by rw [upd_ne (nP b o q)]; exact n)
        (fun b o hc q => ⟨o, kk b o hc q⟩) (fun b ys q => by rw [upd_ne (ne_of_none q hfr)]; exact q) (fun b o v q => by rw [upd_ne (ne_of_none q hfr)]; exact q) (fun b ps q => ⟨#[], by rw [upd_ne (ne_of_none q hfr), q]; simp⟩) (fun m hm => ?_) (fun b v q => ?_) I.bare
      · have hb' : b = e ∨ b = it := by simpa using hb
        rcases hb' with rfl | rfl
        · exact ⟨f3, f1, f4, f5⟩
        · exact ⟨g3, g1, g4, g5⟩
      · obtain ⟨o, es, ep, ho, r⟩ := hm
        exact ⟨o, es, ep, kk _ o (by simp; exact ⟨Ne.symm f1, Ne.symm g1⟩) ho, r⟩
      · by_cases hb : b = s.heap.objs.size
        · subst hb
          rw [upd_same] at q; obtain rfl := Option.some.inj q
          exact ⟨by show 2 ≤ sizeLine; decide, [.int i s.toks, u], .cons ⟨_, rfl⟩ (.cons ru .nil), ⟨_, ht, rfl, _, rfl⟩⟩
        · rw [upd_ne hb] at q
          refine (I.hok b v q).stay (fun c o hc z => hk c o ?_ ?_ z) (fun c z => by rw [upd_ne (ne_of_none z hfr)]; exact z) fun c ys z => by rw [upd_ne (ne_of_none z hfr)]; exact z
          · rcases hc with rfl | hc
            · exact (nE _ _ q).1
            · exact (nE _ _ hc).1
          · rcases hc with rfl | hc
            · exact (nE _ _ q).2
            · exact (nE _ _ hc).2
    refine ⟨_, rfl, ?_⟩
    have hep : e ≠ s.heap.objs.size := nP e _ he
    refine wpAny_letOwnedTupleGo_enum (s := { s with heap := h', toks := s.toks + 1 }) heo fun h2 he2 sb => ?_
    have I2 : Inv X pins σ (upd H s.heap.objs.size (.tup [.int i, x])) { s with heap := h2, toks := s.toks + 1 } := Inv.turned (s := { s with heap := h', toks := s.toks + 1 }) (t' := s.toks + 1) (it := e) I1 (fun b o hb q => (sb.2 b hb).trans q) (by rw [upd_ne hep]; exact f0) f1 f3 f4 f5
    have hi2 : (((i + 1 : Nat) : Int)) = (i : Int) + 1 := by rfl
    refine ⟨.ref s.heap.objs.size, _, I2, rfl, ⟨s.heap.objs.size, x, rfl, hfr, rfl, fun ys hy => by rw [I.list_inj hy hq]; exact hx⟩, ⟨u, by rw [hi2]; exact he2, hit'.at fun o q => (sb.2 it (Ne.symm hne)).trans q⟩, fun b hb => ?_⟩
    have hb' : b = e ∨ b = it := by simpa using hb
    obtain ⟨o2, ho2, _⟩ := id hit
    rcases hb' with rfl | rfl
    · rw [upd_ne hep]; exact f0
    · rw [upd_ne (nP _ _ ho2)]; exact g0
  done := by
    intro X hP hw hK hc i pins s σ H E I hf st hg
    subst hP hw hK
    obtain ⟨xs, hq, hx⟩ := hg
    refine L2.ob_ea st fun old he hit => ?_
    refine L2.ob_eaa (I.list hq) fun its rv p hz => ?_
    obtain ⟨g0, g1, g2, g3, g4, g5⟩ := hf it (by simp)
    have hl := rv.length
    exact wpAny_pyNext_enum_end (I.ok.hd hc) he hit p.isList (by simp; lia) fun h' eb => ⟨rfl, I.turned (t' := s.toks) (fun b o hb q => eb b o hb q) g0 g1 g3 g4 g5⟩
  self := fun _ _ _ _ _ st h => by
    obtain ⟨old, he, _⟩ := st
    exact wpAny_pyIter_enum he h
inductive iEnum_b (K : PySem.W.Frag) (R : It → Hp → Prop) (vs : List V) (H1 : Hp) : Prop
  | mk : ∀ a, (vs = [.ref a]) → ((∃ xs, SqL K H1 a xs)) → (R (Ite K a) H1) → iEnum_b K R vs H1
noncomputable def iEnum (K : PySem.W.Frag) (ta : TA) : TI := fun σ H R => ta σ H fun vs H1 => iEnum_b K R vs H1
theorem pi_enum {X : Cx} {elts : List Expr} {x1 : Nat} {tpos : Pos} {l : Expr} {ta : TA} {p pos : Pos} (hg : Gl X "enumerate") (hm : X.mg "enumerate" = none) (ha : PA X [l] ta) (hs : starEach [l] X.env = [(false, eval l X.env)] := by rfl) :
    PI X (.Tuple elts x1 tpos) (.Call (.Name "enumerate" p) [l] [] pos) (iEnum X.K ta) := by
  intro pins s σ H R I h
  refine Call_ (ld_blt I hg hm boot_enumerate (PyProof.Rows.callWith_type1 (thn (ha pos pins s σ H _ I h) fun us s1 ⟨vs, H1, I1, r1, q1⟩ => ?_) hs rfl))
  obtain ⟨a, e, ⟨xs, hq⟩, q⟩ := q1
  subst e
  refine L2.ob_ea r1.one fun u e_1 ru => ?_; subst e_1
  cases ru
  refine L2.ob_eaa (I1.list hq) fun its rv pl hz => ?_
  refine call_enumerate_list pl.isList fun h' he hit hsz hk => wpAny_pyIter_enum he ?_
  have I2 : Inv X pins σ H1 { s1 with heap := h' } := I1.kept (t' := s1.toks) hk
  refine ⟨s1.heap.objs.size + 1, [s1.heap.objs.size + 1, s1.heap.objs.size], _, _, H1, rfl, I2, turn_enum a _ _ (Nat.succ_ne_self _), ⟨.none, he, hit⟩, fun b hb => ?_, q⟩
  have hb' : b = s1.heap.objs.size + 1 ∨ b = s1.heap.objs.size := by simpa using hb
  have hle : s1.heap.objs.size ≤ b := by rcases hb' with rfl | rfl <;> lia
  exact I1.fpOk hle (I1.hok.fresh hle)
theorem for_enum {K : PySem.W.Frag} {a : Addr} {xs : List V} {g : TG} {tb : TS} {D : Ends} {σ : St} {H : Hp} (Pv : Nat → St → Hp → Prop) (h0 : Pv 0 σ H) (hl : ∀ i σ H, i ≤ xs.length → Pv i σ H → SqL K H a xs)
    (hs : ∀ i x σ H p, xs[i]? = some x → Pv i σ H → H p = none → g (.ref p) σ (upd H p (.tup [.int i, x])) fun σ2 H2 => tb (D.lp (Pv (i + 1))) σ2 H2) (hd : ∀ σ H, Pv xs.length σ H → D.nx σ H) :
    ∃ W : Nat → Nat → St → Hp → Prop, (∃ m, W 0 m σ H) ∧ ∀ i m σ H, W i m σ H →
      ((Ite K a).stop i H ∧ D.nx σ H) ∨ ((Ite K a).go i H ∧ ∃ N : St → Hp → Prop, (∀ σ' H', N σ' H' → ∃ m', m' < m ∧ W (i + 1) m' σ' H') ∧ ∀ x H', (Ite K a).yld i H x H' → g x σ H' fun σ2 H2 => tb (D.lp (N)) σ2 H2) := by
  refine ⟨fun i m σ H => m = xs.length - i ∧ i ≤ xs.length ∧ Pv i σ H, ⟨xs.length, by simp, Nat.zero_le _, h0⟩, ?_⟩
  rintro i m σ H ⟨rfl, hi, p⟩
  have q := hl i σ H hi p
  by_cases hlt : i < xs.length
  · refine .inr ⟨⟨xs, xs[i], q, by simp [hlt]⟩, Pv (i + 1), fun σ' H' p' => ⟨xs.length - (i + 1), by lia, rfl, hlt, p'⟩, fun x H' y => ?_⟩
    obtain ⟨pp, z, rfl, hn, rfl, y⟩ := y
    exact hs i z σ H pp (y xs q) p hn
  · have e : i = xs.length := by lia
    subst e
    exact .inl ⟨⟨xs, q, Nat.le_refl _⟩, hd σ H p⟩
end L2
namespace L2
open PySem PySem.Spec PyProof.Rows
end L2

namespace L2
open PySem PySem.Spec PyProof.Rows
section
variable {X : Cx}
noncomputable def clsV : V → Option Value
  | .ty n => some (.type n)
  | .ref C => some (.ref C)
  | _ => none
theorem clsV_rel {y : V} {c u : Value} (h : clsV y = some c) (r : RelV y u) : u = c := by
  cases y with
  | ty n => cases h; exact r
  | ref C => cases h; exact r
  | _ => cases h
inductive r_call_isi (K : PySem.W.Frag) (xs : List V) (H : Hp) (Q : VK) : Prop
  | mk : ∀ x y c t b, (xs = [x, y]) → (clsV y = some c) → (TyOf K H x t) → (PySem.W.kitOne K t c = some b) → (Q (.bl b) H) → r_call_isi K xs H Q
theorem call_isi : CallR X (.builtin "isinstance") (r_call_isi X.K) := by
  intro pins s σ H xs us Q I r h
  obtain ⟨x, y, c, t, b, rfl, hc, ty, hk, q⟩ := h
  refine L2.ob_eeaa (vals2 r) fun u w' e_2 rx ry => ?_; subst e_2
  obtain rfl := clsV_rel hc ry
  exact isinst_ok I rx ty hk fun tk => ⟨.bl b, H, I.tok tk, rfl, q⟩
theorem countP_eqU {x : V} : ∀ {xs : List V} {us : List Value}, Vals xs us → xs.all flatV = true → us.countP (eqU x) = xs.countP fun y => eqV y x
  | _, _, .nil, _ => rfl
  | y :: xs, u :: us, .cons r t, f => by
    rw [List.all_cons, Bool.and_eq_true] at f
    rw [List.countP_cons, List.countP_cons, eqU_of r f.1, countP_eqU t f.2]
inductive rCount (K : PySem.W.Frag) (x : V) (vs : List V) (H : Hp) (Q : VK) : Prop
  | mk : ∀ p xs y, (x = .ref p) → (vs = [y]) → (SqL K H p xs) → (flatV y = true) → (xs.all flatV = true) → (Q (.int ((xs.countP fun z => eqV z y : Nat) : Int)) H) → rCount K x vs H Q
theorem mt_count : MtR X "list.count" (rCount X.K) := by
  intro pins s σ H x vs v us Q I rx rv h
  obtain ⟨p, xs, y, rfl, rfl, hq, fy, fx, q⟩ := h
  cases rx
  refine L2.ob_ea rv.one fun u e_1 ru => ?_; subst e_1
  refine L2.ob_eaa (I.list hq) fun its r pl hz => ?_
  obtain ⟨⟨cls, dd, data, sl⟩, ho, hc, n, hd⟩ := pl.isList
  simp only at hc hd
  subst hc hd
  refine call_meets F.slot_list_count ⟨_, ho, rfl⟩ F.entry_list_count (F.args_list_count_2 _ _) (SeqAt.list_countAt p its.toArray n dd sl u (eqU y)) ⟨ho, fun z hz => mem_eqAt ru fy r fx z (by simpa using hz), ?_⟩
  refine ⟨.int _, H, I.tok _, ⟨_, rfl⟩, ?_⟩
  rw [show its.toArray.toList = its from rfl, countP_eqU r fx]
  exact q
inductive rIndex (K : PySem.W.Frag) (x : V) (vs : List V) (H : Hp) (Q : VK) : Prop
  | mk : ∀ p xs y j, (x = .ref p) → (vs = [y]) → (SqL K H p xs) → (flatV y = true) → (xs.all flatV = true) → ((∃ z, xs[j]? = some z ∧ eqV z y = true)) → ((∀ (m : Nat) z, m < j → xs[m]? = some z → eqV z y = false)) → (Q (.int (j : Int)) H) → rIndex K x vs H Q
theorem mt_index : MtR X "list.index" (rIndex X.K) := by
  intro pins s σ H x vs v us Q I rx rv h
  obtain ⟨p, xs, y, j, rfl, rfl, hq, fy, fx, ⟨zj, hj, hit⟩, hno, q⟩ := h
  cases rx
  refine L2.ob_ea rv.one fun u e_1 ru => ?_; subst e_1
  refine L2.ob_eaa (I.list hq) fun its r pl hz => ?_
  obtain ⟨⟨cls, dd, data, sl⟩, ho, hc, n, hd⟩ := pl.isList
  simp only at hc hd
  subst hc hd
  refine L2.ob_ea (r.get hj) fun uj huj ruj => ?_
  have hjl : j < its.length := (List.getElem?_eq_some_iff.mp huj).1
  have hjs : j < its.toArray.size := by rw [List.size_toArray]; exact hjl
  have flat : ∀ {z : V} {k : Nat}, xs[k]? = some z → flatV z = true := fun {z k} e => List.all_eq_true.mp fx z (List.mem_of_getElem? e)
  have hsm : (j : Int) < 2 ^ 63 - 1 := by
    have h1 := r.length
    have h2 := line63
    have h3 : (sizeLine : Nat) < 2 ^ 62 := by rw [sizeLine_eq]; decide
    have : j < sizeLine := by lia
    have : (j : Int) < 2 ^ 62 := by exact_mod_cast Nat.lt_trans this h3
    lia
  refine call_meets F.slot_list_index ⟨_, ho, rfl⟩ F.entry_list_index (F.args_list_index_2 _ _) (SeqAt.list_indexAt p its.toArray n dd sl u (eqU y) j hjs hsm ?_ ?_) ⟨ho, fun z hz => mem_eqAt ru fy r fx z (by simpa using hz), ?_⟩
  · have e : its.toArray[j] = uj := by
      have := (List.getElem?_eq_some_iff.mp huj).2
      simpa using this
    rw [e, eqU_of ruj (flat hj)]; exact hit
  · intro m hm hmj
    have hml : m < its.length := by rw [List.size_toArray] at hm; exact hm
    have hmx : m < xs.length := by rw [r.length]; exact hml
    refine L2.ob_ea (r.get (List.getElem?_eq_getElem hmx)) fun um hum rum => ?_
    have e : its.toArray[m] = um := by
      have := (List.getElem?_eq_some_iff.mp hum).2
      simpa using this
    rw [e, eqU_of rum (flat (List.getElem?_eq_getElem hmx))]
    exact hno m _ hmj (List.getElem?_eq_getElem hmx)
  · exact ⟨.int _, H, I.tok _, ⟨_, rfl⟩, q⟩
end

inductive Dt where
  | non | bl (b : Bool) | int (i : Int) | str (x : Str) | lst (ds : List Dt) | tup (ds : List Dt)
mutual
noncomputable def Deep (K : PySem.W.Frag) (H : Hp) : Dt → V → Prop
  | .non, v => v = .non
  | .bl b, v => v = .bl b
  | .int i, v => v = .int i
  | .str x, v => v = .str x
  | .lst ds, v => ∃ a xs, v = .ref a ∧ SqL K H a xs ∧ Deeps K H ds xs
  | .tup ds, v => ∃ a xs, v = .ref a ∧ SqT K H a xs ∧ Deeps K H ds xs
noncomputable def Deeps (K : PySem.W.Frag) (H : Hp) : List Dt → List V → Prop
  | [], xs => xs = []
  | d :: ds, xs => ∃ x r, xs = x :: r ∧ Deep K H d x ∧ Deeps K H ds r
end
mutual
noncomputable def Dt.dp : Dt → Nat
  | .lst ds => 1 + Dt.dps ds
  | .tup ds => 1 + Dt.dps ds
  | _ => 0
noncomputable def Dt.dps : List Dt → Nat
  | [] => 0
  | d :: ds => max d.dp (Dt.dps ds)
end
section
variable {X : Cx} {pins : List (Addr × Obj)} {σ : St} {H : Hp} {s : Shared}
theorem all_true : ∀ l : List Nat, (l.all fun _ => true) = true
  | [] => rfl
  | _ :: r => by rw [List.all_cons, all_true r]; rfl
theorem in1_units (A : Around) : A.in1.units = A.units + 1 := rfl
mutual
theorem same_at (I : Inv X pins σ H s) : ∀ (d : Dt) {v z : V} {u1 u2 : Value} {A : Around}, Deep X.K H d v → Deep X.K H d z → RelV v u1 → RelV z u2 → A.units + d.dp < cLine → SeqAt.EqAt A s u1 u2 true
  | .non, v, z, u1, u2, A, h1, h2, r1, r2, _ => by
    have h1 : v = .non := by simpa only [Deep] using h1
    have h2 : z = .non := by simpa only [Deep] using h2
    subst h1 h2; cases r1; cases r2; exact SeqAt.EqAt.same _
  | .bl b, v, z, u1, u2, A, h1, h2, r1, r2, _ => by
    have h1 : v = .bl b := by simpa only [Deep] using h1
    have h2 : z = .bl b := by simpa only [Deep] using h2
    subst h1 h2; cases r1; cases r2; exact SeqAt.EqAt.same _
  | .int i, v, z, u1, u2, A, h1, h2, r1, r2, _ => by
    have h1 : v = .int i := by simpa only [Deep] using h1
    have h2 : z = .int i := by simpa only [Deep] using h2
    subst h1 h2; obtain ⟨t, rfl⟩ := r1; obtain ⟨t', rfl⟩ := r2
    have := SeqAt.EqAt.int_int (A := A) (s := s) i t i t'
    rwa [beq_self_eq_true] at this
  | .str x, v, z, u1, u2, A, h1, h2, r1, r2, _ => by
    have h1 : v = .str x := by simpa only [Deep] using h1
    have h2 : z = .str x := by simpa only [Deep] using h2
    subst h1 h2; obtain ⟨t, rfl⟩ := r1; obtain ⟨t', rfl⟩ := r2
    have := SeqAt.EqAt.str_str (A := A) (s := s) x t x t'
    rwa [beq_self_eq_true] at this
  | .lst ds, v, z, u1, u2, A, h1, h2, r1, r2, hu => by
    obtain ⟨a, xs, rfl, q1, d1⟩ : ∃ a xs, v = .ref a ∧ SqL X.K H a xs ∧ Deeps X.K H ds xs := by simpa only [Deep] using h1
    obtain ⟨b, ys, rfl, q2, d2⟩ : ∃ a xs, z = .ref a ∧ SqL X.K H a xs ∧ Deeps X.K H ds xs := by simpa only [Deep] using h2
    cases r1; cases r2
    have hu' : A.units + (1 + Dt.dps ds) < cLine := by simpa only [Dt.dp] using hu
    obtain ⟨its, rv, p, _⟩ := I.list q1
    obtain ⟨its2, rv2, p2, _⟩ := I.list q2
    obtain ⟨hl, hall⟩ := same_ats I ds d1 d2 rv rv2 (A := A.in1) (by rw [in1_units]; lia)
    by_cases hab : a = b
    · subst hab; exact SeqAt.EqAt.same _
    · refine SeqAt.EqAt.of_refs hab ?_
      have := SeqAt.RcAt.lists (A := A) (e := fun _ => true) p.isList p2.isList (by simpa using hl) (by lia) (fun j h1 h2 => by
        have := hall j _ _ (List.getElem?_eq_getElem (by simpa using h1)) (List.getElem?_eq_getElem (by simpa using h2))
        simpa using this)
      simpa [all_true] using this
  | .tup ds, v, z, u1, u2, A, h1, h2, r1, r2, hu => by
    obtain ⟨a, xs, rfl, q1, d1⟩ : ∃ a xs, v = .ref a ∧ SqT X.K H a xs ∧ Deeps X.K H ds xs := by simpa only [Deep] using h1
    obtain ⟨b, ys, rfl, q2, d2⟩ : ∃ a xs, z = .ref a ∧ SqT X.K H a xs ∧ Deeps X.K H ds xs := by simpa only [Deep] using h2
    cases r1; cases r2
    have hu' : A.units + (1 + Dt.dps ds) < cLine := by simpa only [Dt.dp] using hu
    obtain ⟨its, rv, p, _⟩ := I.tuple q1
    obtain ⟨its2, rv2, p2, _⟩ := I.tuple q2
    obtain ⟨hl, hall⟩ := same_ats I ds d1 d2 rv rv2 (A := A.in1) (by rw [in1_units]; lia)
    by_cases hab : a = b
    · subst hab; exact SeqAt.EqAt.same _
    · refine SeqAt.EqAt.of_refs hab ?_
      have := SeqAt.RcAt.tuples (A := A) (e := fun _ => true) p p2 (by lia) (fun j h1 h2 => by
        have := hall j _ _ (List.getElem?_eq_getElem (by simpa using h1)) (List.getElem?_eq_getElem (by simpa using h2))
        simpa using this)
      simpa [hl, all_true] using this
theorem same_ats (I : Inv X pins σ H s) : ∀ (ds : List Dt) {xs ys : List V} {us ws : List Value} {A : Around}, Deeps X.K H ds xs → Deeps X.K H ds ys → Vals xs us → Vals ys ws → A.units + Dt.dps ds < cLine →
    us.length = ws.length ∧ ∀ (j : Nat) (u w' : Value), us[j]? = some u → ws[j]? = some w' → SeqAt.EqAt A s u w' true
  | [], xs, ys, us, ws, A, h1, h2, r1, r2, _ => by
    have h1 : xs = [] := by simpa only [Deeps] using h1
    have h2 : ys = [] := by simpa only [Deeps] using h2
    subst h1 h2
    cases r1; cases r2
    exact ⟨rfl, fun j u w' e => by simp at e⟩
  | d :: ds, xs, ys, us, ws, A, h1, h2, r1, r2, hu => by
    obtain ⟨x, xr, rfl, d1, e1⟩ : ∃ x r, xs = x :: r ∧ Deep X.K H d x ∧ Deeps X.K H ds r := by simpa only [Deeps] using h1
    obtain ⟨y, yr, rfl, d2, e2⟩ : ∃ x r, ys = x :: r ∧ Deep X.K H d x ∧ Deeps X.K H ds r := by simpa only [Deeps] using h2
    have hu' : A.units + max d.dp (Dt.dps ds) < cLine := by simpa only [Dt.dps] using hu
    cases r1 with
    | cons ra rb =>
      cases r2 with
      | cons rc rd =>
        obtain ⟨hl, hall⟩ := same_ats I ds e1 e2 rb rd (A := A) (by lia)
        refine ⟨by simp [hl], fun j u w' q1 q2 => ?_⟩
        cases j with
        | zero =>
          simp at q1 q2
          subst q1 q2
          exact same_at I d d1 d2 ra rc (by lia)
        | succ j => exact hall j u w' (by simpa using q1) (by simpa using q2)
end
end
end L2

namespace L2
open PySem PySem.Spec PyProof.Rows
section
variable {X : Cx} {pins : List (Addr × Obj)} {σ : St} {H : Hp} {s : Shared}
inductive rEqD (K : PySem.W.Frag) (x : V) (y : V) (H : Hp) (Q : VK) : Prop
  | mk : ∀ d a b, (x = .ref a) → (y = .ref b) → (Deep K H d x) → (Deep K H d y) → (d.dp ≤ 8) → (Q (.bl true) H) → rEqD K x y H Q
theorem rc_same (I : Inv X pins σ H s) {d : Dt} {a b : Addr} {A : Around} (h1 : Deep X.K H d (.ref a)) (h2 : Deep X.K H d (.ref b)) (hu : A.units + d.dp < cLine) : SeqAt.RcAt A s (.ref a) (.ref b) true := by
  cases d with
  | lst ds =>
    obtain ⟨a', xs, e1, q1, d1⟩ : ∃ a' xs, V.ref a = .ref a' ∧ SqL X.K H a' xs ∧ Deeps X.K H ds xs := by simpa only [Deep] using h1
    obtain ⟨b', ys, e2, q2, d2⟩ : ∃ a' xs, V.ref b = .ref a' ∧ SqL X.K H a' xs ∧ Deeps X.K H ds xs := by simpa only [Deep] using h2
    cases e1; cases e2
    have hu' : A.units + (1 + Dt.dps ds) < cLine := by simpa only [Dt.dp] using hu
    obtain ⟨its, rv, p, _⟩ := I.list q1
    obtain ⟨its2, rv2, p2, _⟩ := I.list q2
    obtain ⟨hl, hall⟩ := same_ats I ds d1 d2 rv rv2 (A := A.in1) (by rw [in1_units]; lia)
    have := SeqAt.RcAt.lists (A := A) (e := fun _ => true) p.isList p2.isList (by simpa using hl) (by lia) (fun j h1 h2 => by
        have := hall j _ _ (List.getElem?_eq_getElem (by simpa using h1)) (List.getElem?_eq_getElem (by simpa using h2))
        simpa using this)
    simpa [all_true] using this
  | tup ds =>
    obtain ⟨a', xs, e1, q1, d1⟩ : ∃ a' xs, V.ref a = .ref a' ∧ SqT X.K H a' xs ∧ Deeps X.K H ds xs := by simpa only [Deep] using h1
    obtain ⟨b', ys, e2, q2, d2⟩ : ∃ a' xs, V.ref b = .ref a' ∧ SqT X.K H a' xs ∧ Deeps X.K H ds xs := by simpa only [Deep] using h2
    cases e1; cases e2
    have hu' : A.units + (1 + Dt.dps ds) < cLine := by simpa only [Dt.dp] using hu
    obtain ⟨its, rv, p, _⟩ := I.tuple q1
    obtain ⟨its2, rv2, p2, _⟩ := I.tuple q2
    obtain ⟨hl, hall⟩ := same_ats I ds d1 d2 rv rv2 (A := A.in1) (by rw [in1_units]; lia)
    have := SeqAt.RcAt.tuples (A := A) (e := fun _ => true) p p2 (by lia) (fun j h1 h2 => by
        have := hall j _ _ (List.getElem?_eq_getElem (by simpa using h1)) (List.getElem?_eq_getElem (by simpa using h2))
        simpa using this)
    simpa [hl, all_true] using this
  | non => have h : V.ref a = .non := by simpa only [Deep] using h1
           cases h
  | bl b' => have h : V.ref a = .bl b' := by simpa only [Deep] using h1
             cases h
  | int i => have h : V.ref a = .int i := by simpa only [Deep] using h1
             cases h
  | str x => have h : V.ref a = .str x := by simpa only [Deep] using h1
             cases h
theorem op_eqD {k : Nat} (hr : Room k X.A) : OpR X (compareOp .Eq) (rEqD X.K) := by
  intro pins s σ H x y v u Q I rx ry h
  obtain ⟨d, a, b, rfl, rfl, h1, h2, hd, q⟩ := h
  cases rx; cases ry
  have hu := hr.units
  exact rc_same I h1 h2 (by lia) X.prog X.w X.xe _ ⟨.bl true, H, I, rfl, q⟩
inductive rNeD (K : PySem.W.Frag) (x : V) (y : V) (H : Hp) (Q : VK) : Prop
  | mk : ∀ d a b, (x = .ref a) → (y = .ref b) → (Deep K H d x) → (Deep K H d y) → (d.dp ≤ 8) → (Q (.bl false) H) → rNeD K x y H Q
theorem deeps_ints {K : PySem.W.Frag} {H : Hp} : ∀ ns : List Int, Deeps K H (ns.map Dt.int) (ns.map V.int)
  | [] => by simp only [List.map_nil, Deeps]
  | n :: r => by
    simp only [List.map_cons, Deeps, Deep]
    exact ⟨_, _, rfl, rfl, deeps_ints r⟩
theorem dps_ints : ∀ ns : List Int, Dt.dps (ns.map Dt.int) = 0
  | [] => rfl
  | n :: r => by simp only [List.map_cons, Dt.dps, Dt.dp, dps_ints r]; rfl
theorem deep_tup {K : PySem.W.Frag} {H : Hp} {a : Addr} {xs : List V} {ds : List Dt} (q : SqT K H a xs) (d : Deeps K H ds xs) : Deep K H (.tup ds) (.ref a) := by
  simp only [Deep]; exact ⟨a, xs, rfl, q, d⟩
structure Df (P : Program) (w : World) (K : PySem.W.Frag) (mg : Str → Option Value) (base : Heap) (x : Str) (k : Nat) (ps : List Str) (sp : Sp) : Prop where
  ex : ∃ f fd, mg x = some (.ref f) ∧ PySem.W.keepIn K (.ref f) = true ∧ Binds K fd ps [] ∧ FnOk P w K mg base (CX1 P w) k f fd ps sp
theorem pe_own {k : Nat} {x : Str} {ps : List Str} {sp : Sp} {E : XK} {p pos : Pos} {e : Expr} {es : List Expr} {t : TA} (D : Df X.prog X.w X.K X.mg X.base x k ps sp) (hr : Room k X.A) (hg : Gl X x) (hx : Passes (CX1 X.prog X.w) X E) (ha : PA X (e :: es) t)
    (hdb : (x == ("__debug__" : Str)) = false := by decide) (he : starEach (e :: es) X.env = (false, eval e X.env) :: starEach es X.env := by rfl) (hpl : (backTo pos (starEach es X.env)).any (·.1) = false := by rfl) :
    PE X (.Call (.Name x p) (e :: es) [] pos) (tCall sp [] E t) := by
  obtain ⟨f, fd, hm, hk, hb, F⟩ := D.ex
  exact pe_call F hr hg hm hk hb .nil hx ha hdb he hpl
noncomputable def PJ (X : Cx) (es : List Expr) (t : Str → TE) : Prop :=
  ∀ (out : Str) (pins : List (Addr × Obj)) (s : Shared) (σ : St) (H : Hp) (Q : VK), Inv X pins σ H s → t out σ H Q → wpAny (model X.prog X.w) X.A (joinParts out (evalEach es X.env)) (EP X pins σ Q) X.xe s
theorem pj_nil : PJ X [] (fun out _ H Q => out.length ≤ sizeLine ∧ Q (.str out) H) := by
  intro out pins s σ H Q I h
  exact joinParts_nil ⟨.str out, H, I.tok _, ⟨_, rfl⟩, h.2⟩ h.1
theorem pj_cons {e : Expr} {es : List Expr} {te : TE} {t : Str → TE} (he : PE X e te) (hr : PJ X es t) (hs : evalEach (e :: es) X.env = eval e X.env :: evalEach es X.env := by rfl) :
    PJ X (e :: es) (fun out σ H Q => te σ H fun v H1 => ∃ y, v = .str y ∧ (out ++ y).length ≤ sizeLine ∧ t (out ++ y) σ H1 Q) := by
  intro out pins s σ H Q I h
  rw [hs]
  refine joinParts_cons (thn (he pins s σ H _ I h) fun v s1 ⟨x, H1, I1, r1, y, e1, z, q⟩ => ?_)
  subst e1
  obtain ⟨tk, rfl⟩ := r1
  exact ⟨z, hr (out ++ y) pins s1 σ H1 Q I1 q⟩
theorem pe_fstr {e1 e2 : Expr} {es : List Expr} {t : Str → TE} {pos : Pos} (h : PJ X (e1 :: e2 :: es) t) : PE X (.JoinedStr (e1 :: e2 :: es) pos) (t Str.empty) := by
  intro pins s σ H Q I hq
  exact JoinedStr_many (h Str.empty pins s σ H Q I hq)
theorem pe_fv {e : Expr} {te : TE} {pos : Pos} (he : PE X e te) : PE X (.FormattedValue e (-1) none pos) (fun σ H Q => te σ H fun v H1 => ∃ i : Int, v = .int i ∧ i.natAbs.log2 < 1920 ∧ Q (.str (toString i)) H1) := by
  intro pins s σ H Q I h
  refine FormattedValue_plain (thn (he pins s σ H _ I h) fun v s1 ⟨x, H1, I1, r1, i, e1, z, q⟩ => ?_)
  subst e1
  obtain ⟨tk, rfl⟩ := r1
  exact formatField_int_small z ⟨.str _, H1, I1.tok _, ⟨_, rfl⟩, q⟩
end
end L2

namespace L2
open PySem PySem.Spec PyProof.Rows
structure ExTy (K : PySem.W.Frag) (C : Addr) : Prop where
  ga : PySem.W.findIn K (.ref C) "__getattribute__" = some (some (.builtin "BaseException.__getattribute__"))
  gx : PySem.W.findIn K (.ref C) "__getattr__" = some none
  cl : PySem.W.findIn K (.ref C) "__class__" = some (some (.builtin "object.__class__"))
  ob : PySem.W.subIn K (.ref C) (.type "object") = some true
  be : PySem.W.subIn K (.ref C) (.type "BaseException") = some true
  ty : PySem.W.kitCls K (.ref C) (.ref C) = some true
section
variable {K : PySem.W.Frag} {C : Addr} {prog : Program} {w : World} {A : Around} {E : Value → Shared → Prop} {h : Heap} {g : Array GenState} {d : Drawn} {t : Nat} {os : OsState} {a : Addr} {o : Obj}
theorem exc_get {R : Result → Shared → Prop} (T : ExTy K C) (X : K.In h) (hx : h.get? a = some o) (hc : o.cls = .ref C) (hq : R (.ok (.ret (.ref C))) ⟨h, g, d, t, os⟩) :
    codeAny (model prog w) A (.call (.builtin "getset_descriptor.__get__") ⟨[.builtin "object.__class__", .ref a, .ref C], []⟩) R ⟨h, g, d, t, os⟩ := by
  have hT5 : (⟨h, g, d, t, os⟩ : Shared).TypeIs (.builtin "object.__class__") "getset_descriptor" := F.typeOf_object_class
  have LS : PySem.W.Looks (model prog w) h (isSubtype (.ref C) (.type (".".intercalate ("object.__class__".cutAt '.').dropLast))) true := by
    rw [F.owner_object_class]; exact PySem.W.looks_subIn X T.ob
  refine codeAny_call_builtin F.slot_gs_get.plain F.entry_gs_get (F.slot_gs_get.check _ _ _ _ _ _ _ _ hT5 (F.args_gs_get _ _ _) ?_)
  repeat (any_goals (first | assumption | (with_reducible refine wpAny_loadPart_at hx ?_; rw [hc]) | (with_reducible refine LS.at ?_) | wp_step))
  refine ⟨Code.quiet_builtin _ (by decide +kernel), codeAny_builtin F.entry_object_class ?_⟩
  repeat (any_goals (first | assumption | (with_reducible refine wpAny_loadPart_at hx ?_; rw [hc]) | wp_step))
theorem exc_entry {tk : Tok} {Q : Fin → Shared → Prop} (T : ExTy K C) (X : K.In h) (hx : h.get? a = some o) (hc : o.cls = .ref C) (hq : Q (.done (.ret (.ref C))) ⟨h, g, d, t, os⟩) :
    wpAny (model prog w) A (Builtin.«object.__getattribute__» ⟨[.ref a, .str "__class__" tk], []⟩) Q E ⟨h, g, d, t, os⟩ := by
  have hT5 : (⟨h, g, d, t, os⟩ : Shared).TypeIs (.builtin "object.__class__") "getset_descriptor" := F.typeOf_object_class
  have f5 := F.typeOf_object_class
  have f6 := F.slot_gs_get.lookup
  have f7 := F.slot_gs_set.lookup
  have L1 := PySem.W.looks_findIn (M := model prog w) X T.cl
  repeat (any_goals (first | assumption | (with_reducible refine wpAny_loadPart_at hx ?_; rw [hc]) | (with_reducible refine L1.at ?_) | wp_step))
  refine exc_get T X hx hc ?_
  repeat (any_goals (first | assumption | wp_step))
theorem exc_check {M : Model} {nameV : Value} {Q : Unit → Shared → Prop} (T : ExTy K C) (X : K.In h) (hx : h.get? a = some o) (hc : o.cls = .ref C) (hq : Q () ⟨h, g, d, t, os⟩) : wpAny M A (checkBuiltinCall "BaseException.__getattribute__" ⟨[.ref a, nameV], []⟩) Q E ⟨h, g, d, t, os⟩ := by
  have hk : builtinKind "BaseException.__getattribute__" = some .slot := by decide +kernel
  have hsplit : splitId "BaseException.__getattribute__" = some ("BaseException", "__getattribute__") := by decide +kernel
  have ha := F.args_bexc_ga (.ref a) nameV
  have LS := PySem.W.looks_subIn (M := M) X T.be
  simp only [checkBuiltinCall, hk, hsplit]
  refine wpAny_bind ?_
  · unfold isInstance
    repeat (first | (with_reducible refine wpAny_loadPart_at hx ?_; rw [hc]) | (with_reducible refine LS.at ?_) | wp_step)
    exact hq
theorem exc_call {tk : Tok} {R : Result → Shared → Prop} (T : ExTy K C) (X : K.In h) (hx : h.get? a = some o) (hc : o.cls = .ref C) (hq : R (.ok (.ret (.ref C))) ⟨h, g, d, t, os⟩) :
    codeAny (model prog w) A (.call (.builtin "BaseException.__getattribute__") ⟨[.ref a, .str "__class__" tk], []⟩) R ⟨h, g, d, t, os⟩ :=
  codeAny_call_builtin (by decide +kernel) F.entry_bexc_ga (exc_check T X hx hc (exc_entry T X hx hc hq))
theorem exc_by {tk : Tok} {Q : Value → Shared → Prop} (T : ExTy K C) (X : K.In h) (hx : h.get? a = some o) (hc : o.cls = .ref C) (hq : Q (.ref C) ⟨h, g, d, t, os⟩) : wpAny (model prog w) A (getAttrBy (.ref a) (.str "__class__" tk) false) Q E ⟨h, g, d, t, os⟩ := by
  have f3 : bindSpecial (.builtin "BaseException.__getattribute__") (.ref a) = pure (.builtin "BaseException.__getattribute__", [.ref a]) := PySem.F.excAttr_ValueError.ga.bind (.ref a)
  have L1 := PySem.W.looks_findIn (M := model prog w) X T.ga
  have L2 := PySem.W.looks_findIn (M := model prog w) X T.gx
  have hx0 : (false && onTheHeap (Value.builtin "BaseException.__getattribute__")) = false := rfl
  have hx2 : (Value.builtin "BaseException.__getattribute__" == Value.builtin "object.__getattribute__") = false := by decide +kernel
  have hx1 : (onTheHeap (Value.ref C) && Value.builtin "BaseException.__getattribute__" == Value.builtin "object.__getattribute__") = false := by rw [hx2]; rfl
  repeat (any_goals (first | assumption | (with_reducible refine wpAny_loadPart_at hx ?_; rw [hc]) | (with_reducible refine L1.at ?_) | (with_reducible refine L2.at ?_) | wp_step))
  refine exc_call T X hx hc ?_
  repeat (any_goals (first | assumption | wp_step))
theorem exc_attr {Q : Option Value → Shared → Prop} (T : ExTy K C) (X : K.In h) (hx : h.get? a = some o) (hc : o.cls = .ref C) (hq : Q (some (.ref C)) ⟨h, g, d, t + 1, os⟩) : wpAny (model prog w) A (getAttr? (.ref a) "__class__") Q E ⟨h, g, d, t, os⟩ := by
  unfold getAttr? getAttrBy?
  repeat (any_goals (first | assumption | with_reducible apply exc_by T X hx hc | wp_step))
theorem kitx_exc (T : ExTy K C) : PySem.W.KitX K (.ref a) (.ref C) (fun h => ∃ o vs, h.get? a = some o ∧ o.cls = .ref C ∧ o.data = .fields vs) where
  ty := fun _ _ _ ⟨o, _, h1, h2, _⟩ => h2 ▸ (PySem.W.Looks.ld h1).andThen .now
  it := fun _ _ X _ => (PySem.W.kit_cls X T.ty).2.1
  ne := fun h tp dd its n sl X htp => by
    refine Bool.eq_false_iff.mpr fun q => ?_
    have e : C = tp := Value.ref.inj (beq_iff_eq.mp q)
    subst e
    have z : (if ((PySem.W.clsIn K C).isSome && PySem.W.typeIn K (.ref C) == some (.type "type")) = true then PySem.W.subIn K (.ref C) (.ref C) else none) = some true := T.ty
    by_cases hC : ((PySem.W.clsIn K C).isSome && PySem.W.typeIn K (.ref C) == some (.type "type")) = true
    · rw [Bool.and_eq_true] at hC
      have z0 := hC.1
      unfold PySem.W.clsIn at z0
      split at z0
      · rename_i c' d' cd' sl' ho
        have z2 := (X _ _ ho).symm.trans htp
        cases z2
      · cases z0
    · rw [if_neg hC] at z; exact L2.ns_ z
  ca := fun {_ _ _ _ _ s} X ⟨o, _, h1, h2, _⟩ k => by
    obtain ⟨hh, gg, dd, tt, oo⟩ := s
    exact exc_attr T X h1 h2 k
end
section
variable {X : Cx}
inductive r_call_isiX (K : PySem.W.Frag) (xs : List V) (H : Hp) (Q : VK) : Prop
  | mk : ∀ a y c C b, (xs = [.ref a, y]) → (clsV y = some c) → (H a = some (excO a C)) → (ExTy K C) → (PySem.W.kitOne K (.ref C) c = some b) → (Q (.bl b) H) → r_call_isiX K xs H Q
theorem call_isiX : CallR X (.builtin "isinstance") (r_call_isiX X.K) := by
  intro pins s σ H xs us Q I r h
  obtain ⟨a, y, c, C, b, rfl, hc, ha, T, hk, q⟩ := h
  refine L2.ob_eeaa (vals2 r) fun u w' e_2 rx ry => ?_; subst e_2
  obtain rfl := clsV_rel hc ry
  cases rx
  obtain ⟨p, _, _⟩ := I.hok a _ ha
  exact PySem.W.kia_one (kitx_exc T) I.kIn p hk (fun z => nomatch z) fun tk => ⟨.bl b, H, I.tok tk, rfl, q⟩
theorem pos_of_ne {α : Type} {l : List α} (h : l ≠ []) : 0 < l.length := by cases l with
  | nil => exact absurd rfl h
  | cons a r => simp
theorem kept_of_push {h : Heap} {ob : Obj} {h' : Heap} (k : ∀ b o, b ∉ [h.objs.size] → (h.push ob).get? b = some o → h'.get? b = some o) : ∀ b o, h.get? b = some o → h'.get? b = some o := fun b o e =>
  k b o (by simp; exact Nat.ne_of_lt (Heap.lt_size e)) (Heap.get?_push_of_some _ e)
theorem bls_at {bs : List Bool} {its : List Value} (r : Vals (bs.map V.bl) its) {i : Nat} {v : Value} (e : its.toArray[i]? = some v) : v = .bool (bs.getD i true) := by
  have e' : its[i]? = some v := by simpa using e
  have hl := r.length
  rw [List.length_map] at hl
  have hi : i < bs.length := by rw [hl]; exact (List.getElem?_eq_some_iff.mp e').1
  obtain ⟨u, hu, ru⟩ := r.get (i := i) (x := .bl (bs.getD i true)) (by rw [List.getElem?_map, List.getD_eq_getElem?_getD, List.getElem?_eq_getElem hi]; rfl)
  rw [e'] at hu; obtain rfl := Option.some.inj hu
  exact ru
theorem range_all (bs : List Bool) : ((List.range bs.length).all fun i => bs.getD i true) = bs.all id := by
  induction bs with
  | nil => rfl
  | cons b r ih =>
    rw [List.length_cons, List.range_succ_eq_map, List.all_cons, List.all_map, List.all_cons, ← ih]
    rfl
inductive rAll (K : PySem.W.Frag) (xs : List V) (H : Hp) (Q : VK) : Prop
  | mk : ∀ (p : Addr) (bs : List Bool), (xs = [.ref p]) → (SqL K H p (bs.map V.bl)) → (Q (.bl (bs.all id)) H) → rAll K xs H Q
theorem call_all (hc : X.calm = true) : CallR X (.builtin "all") (rAll X.K) := by
  intro pins s σ H xs us Q I r h
  obtain ⟨p, bs, rfl, hq, q⟩ := h
  refine L2.ob_ea (vals1 r) fun u e_1 rx => ?_; subst e_1
  cases rx
  refine L2.ob_eaa (I.list hq) fun its rv pl hz => ?_
  have hl := rv.length
  rw [List.length_map] at hl
  refine call_all_walk (wpAny_pyIter_list pl.isList ?_)
  have hpl : p < s.heap.objs.size := by obtain ⟨o, e, _⟩ := pl.isList; exact Heap.lt_size e
  refine ⟨_, _, _, _, _, _, fun i => bs.getD i true, rfl, Walks.list (A := X.A.in1) (I.ok.hd hc) s.heap.objs.size p (Nat.ne_of_lt hpl) its.toArray, ⟨⟨_, Heap.get?_push_size _ rfl, rfl, rfl⟩, pl.isList.push _⟩, fun i v s' Q' E' hP hQ => ?_, fun h' tk hk => ?_⟩
  · obtain rfl := bls_at rv hP
    exact wpAny_truthy_bool hQ
  · refine ⟨.bl _, H, I.kept (kept_of_push hk), rfl, ?_⟩
    rw [List.size_toArray, ← hl, range_all]
    exact q
theorem rcne_same {pins : List (Addr × Obj)} {σ : St} {H : Hp} {s : Shared} (I : Inv X pins σ H s) {d : Dt} {a b : Addr} {A : Around} (h1 : Deep X.K H d (.ref a)) (h2 : Deep X.K H d (.ref b)) (hu : A.units + d.dp < cLine) : SeqAt.RcNeAt A s (.ref a) (.ref b) false := by
  cases d with
  | lst ds =>
    obtain ⟨a', xs, e1, q1, d1⟩ : ∃ a' xs, V.ref a = .ref a' ∧ SqL X.K H a' xs ∧ Deeps X.K H ds xs := by simpa only [Deep] using h1
    obtain ⟨b', ys, e2, q2, d2⟩ : ∃ a' xs, V.ref b = .ref a' ∧ SqL X.K H a' xs ∧ Deeps X.K H ds xs := by simpa only [Deep] using h2
    cases e1; cases e2
    have hu' : A.units + (1 + Dt.dps ds) < cLine := by simpa only [Dt.dp] using hu
    obtain ⟨its, rv, p, _⟩ := I.list q1
    obtain ⟨its2, rv2, p2, _⟩ := I.list q2
    obtain ⟨hl, hall⟩ := same_ats I ds d1 d2 rv rv2 (A := A.in1) (by rw [in1_units]; lia)
    have := SeqAt.RcNeAt.lists (A := A) (e := fun _ => true) p.isList p2.isList (by simpa using hl) (by lia) (fun j h1 h2 => by
        have := hall j _ _ (List.getElem?_eq_getElem (by simpa using h1)) (List.getElem?_eq_getElem (by simpa using h2))
        simpa using this)
    simpa [all_true] using this
  | tup ds =>
    obtain ⟨a', xs, e1, q1, d1⟩ : ∃ a' xs, V.ref a = .ref a' ∧ SqT X.K H a' xs ∧ Deeps X.K H ds xs := by simpa only [Deep] using h1
    obtain ⟨b', ys, e2, q2, d2⟩ : ∃ a' xs, V.ref b = .ref a' ∧ SqT X.K H a' xs ∧ Deeps X.K H ds xs := by simpa only [Deep] using h2
    cases e1; cases e2
    have hu' : A.units + (1 + Dt.dps ds) < cLine := by simpa only [Dt.dp] using hu
    obtain ⟨its, rv, p, _⟩ := I.tuple q1
    obtain ⟨its2, rv2, p2, _⟩ := I.tuple q2
    obtain ⟨hl, hall⟩ := same_ats I ds d1 d2 rv rv2 (A := A.in1) (by rw [in1_units]; lia)
    have := SeqAt.RcNeAt.tuples (A := A) (e := fun _ => true) p p2 (by lia) (fun j h1 h2 => by
        have := hall j _ _ (List.getElem?_eq_getElem (by simpa using h1)) (List.getElem?_eq_getElem (by simpa using h2))
        simpa using this)
    simpa [hl, all_true] using this
  | non => have h : V.ref a = .non := by simpa only [Deep] using h1
           cases h
  | bl b' => have h : V.ref a = .bl b' := by simpa only [Deep] using h1
             cases h
  | int i => have h : V.ref a = .int i := by simpa only [Deep] using h1
             cases h
  | str x => have h : V.ref a = .str x := by simpa only [Deep] using h1
             cases h
theorem op_neD {k : Nat} (hr : Room k X.A) : OpR X (compareOp .NotEq) (rNeD X.K) := by
  intro pins s σ H x y v u Q I rx ry h
  obtain ⟨d, a, b, rfl, rfl, h1, h2, hd, q⟩ := h
  cases rx; cases ry
  have hu := hr.units
  exact rcne_same I h1 h2 (by lia) X.prog X.w X.xe _ ⟨.bl false, H, I, rfl, q⟩
end
end L2

namespace NM
noncomputable def stepOk (ahead : Int) (l : List Int) : Bool := decide (l.length = 2) && l.all (fun v => decide (0 ≤ v) && decide (v < ahead))
noncomputable def stepsOk (wide : Int) (steps : List (List Int)) : Prop := ∀ (k : Nat) l, steps[k]? = some l → stepOk (wide + k) l = true
noncomputable def outsOk (lim : Int) (outs : List Int) : Prop := ∀ v ∈ outs, 0 ≤ v ∧ v < lim
structure Good (wide : Int) (steps : List (List Int)) (outs : List Int) : Prop where
  lo : 1 ≤ wide
  hi : wide ≤ 64
  len : steps.length ≤ 500
  st : stepsOk wide steps
  ol : (outs.length : Int) = wide
  ou : outsOk (wide + steps.length) outs
noncomputable instance (wide : Int) (steps : List (List Int)) : Decidable (stepsOk wide steps) :=
  decidable_of_iff (∀ k, k < steps.length → ∀ l, steps[k]? = some l → stepOk (wide + k) l = true)
    ⟨fun h k l e => h k (List.getElem?_eq_some_iff.mp e).1 l e, fun h k _ l e => h k l e⟩
noncomputable instance (lim : Int) (outs : List Int) : Decidable (outsOk lim outs) := by unfold outsOk; exact inferInstance
noncomputable instance (wide : Int) (steps : List (List Int)) (outs : List Int) : Decidable (Good wide steps outs) :=
  decidable_of_iff (1 ≤ wide ∧ wide ≤ 64 ∧ steps.length ≤ 500 ∧ stepsOk wide steps ∧ (outs.length : Int) = wide ∧ outsOk (wide + steps.length) outs)
    ⟨fun ⟨a, b, c, d, e, f⟩ => ⟨a, b, c, d, e, f⟩, fun ⟨a, b, c, d, e, f⟩ => ⟨a, b, c, d, e, f⟩⟩
structure NetN where
  w : Nat
  st : List (Nat × Nat)
  ou : List Nat
structure NetN.Ok (N : NetN) : Prop where
  lo : 1 ≤ N.w
  hi : N.w ≤ 64
  len : N.st.length ≤ 500
  s1 : ∀ k p, N.st[k]? = some p → p.1 < N.w + k ∧ p.2 < N.w + k
  ol : N.ou.length = N.w
  ob : ∀ v ∈ N.ou, v < N.w + N.st.length
noncomputable def pairI (p : Nat × Nat) : List Int := [(p.1 : Int), (p.2 : Int)]
noncomputable def NetN.steps (N : NetN) : List (List Int) := N.st.map pairI
noncomputable def NetN.outs (N : NetN) : List Int := N.ou.map Int.ofNat
theorem pair_of {ahead : Int} {l : List Int} (h : stepOk ahead l = true) : ∃ a b : Nat, l = pairI (a, b) ∧ (a : Int) < ahead ∧ (b : Int) < ahead := by
  unfold stepOk at h
  simp only [Bool.and_eq_true, decide_eq_true_eq, List.all_eq_true] at h
  obtain ⟨hl, ha⟩ := h
  match l, hl with
  | [x, y], _ =>
    obtain ⟨x0, x1⟩ := ha x (by simp)
    obtain ⟨y0, y1⟩ := ha y (by simp)
    exact ⟨x.toNat, y.toNat, by simp only [pairI]; rw [Int.toNat_of_nonneg x0, Int.toNat_of_nonneg y0], by rw [Int.toNat_of_nonneg x0]; exact x1, by rw [Int.toNat_of_nonneg y0]; exact y1⟩
theorem steps_of {wide : Int} : ∀ {steps : List (List Int)} {k0 : Nat}, (∀ (k : Nat) l, steps[k]? = some l → stepOk (wide + (k0 + k : Nat)) l = true) →
    ∃ st : List (Nat × Nat), steps = st.map pairI ∧ ∀ (k : Nat) p, st[k]? = some p → (p.1 : Int) < wide + (k0 + k : Nat) ∧ (p.2 : Int) < wide + (k0 + k : Nat)
  | [], _, _ => ⟨[], rfl, fun k p h => by simp at h⟩
  | l :: r, k0, h => by
    refine L2.ob_eeaa (pair_of (h 0 l rfl)) fun a b e h1 h2 => ?_
    obtain ⟨st, e2, h3⟩ := steps_of (steps := r) (k0 := k0 + 1) (fun k l hl => by
      have := h (k+1) l (by simpa using hl)
      rw [show k0 + 1 + k = k0 + (k + 1) by lia]; exact this)
    refine ⟨(a, b) :: st, by rw [e, e2]; rfl, fun k p hp => ?_⟩
    cases k with
    | zero =>
      simp at hp; subst hp
      exact ⟨by simpa using h1, by simpa using h2⟩
    | succ k =>
      have := h3 k p (by simpa using hp)
      rw [show k0 + (k + 1) = k0 + 1 + k by lia]; exact this
theorem outs_of : ∀ {outs : List Int} {lim : Int}, outsOk lim outs → ∃ ou : List Nat, outs = ou.map Int.ofNat ∧ ∀ v ∈ ou, (v : Int) < lim
  | [], _, _ => ⟨[], rfl, fun v h => by simp at h⟩
  | x :: r, lim, h => by
    obtain ⟨x0, x1⟩ := h x (by simp)
    refine L2.ob_ea (outs_of (outs := r) (lim := lim) (fun v hv => h v (by simp [hv]))) fun ou e h2 => ?_
    refine ⟨x.toNat :: ou, by rw [e]; simp [Int.toNat_of_nonneg x0], fun v hv => ?_⟩
    rcases List.mem_cons.mp hv with rfl | hv
    · lia
    · exact h2 v hv
theorem Good.net {wide : Int} {steps : List (List Int)} {outs : List Int} (g : Good wide steps outs) :
    ∃ N : NetN, N.Ok ∧ wide = (N.w : Int) ∧ steps = N.steps ∧ outs = N.outs := by
  refine L2.ob_ea (steps_of (wide := wide) (steps := steps) (k0 := 0) (fun k l hl => by rw [Nat.zero_add]; exact g.st k l hl)) fun st e1 h1 => ?_
  refine L2.ob_ea (outs_of g.ou) fun ou e2 h2 => ?_
  have lo := g.lo
  have hi := g.hi
  have ol := g.ol
  have hw : ((wide.toNat : Nat) : Int) = wide := Int.toNat_of_nonneg (by solve_by_elim (maxDepth := 3) [Int.le_of_lt, Int.natCast_nonneg, Int.add_nonneg, Int.le_trans, Int.lt_of_lt_of_le, Int.lt_of_le_of_lt])
  refine ⟨⟨wide.toNat, st, ou⟩, ⟨?_, ?_, ?_, fun k p hp => ?_, ?_, fun v hv => ?_⟩, hw.symm, e1, e2⟩
  · show 1 ≤ wide.toNat; lia
  · show wide.toNat ≤ 64; lia
  · have := g.len; rw [e1] at this; simpa using this
  · have := h1 k p hp
    show p.1 < wide.toNat + k ∧ p.2 < wide.toNat + k
    constructor <;> lia
  · show ou.length = wide.toNat
    have : outs.length = ou.length := by rw [e2]; simp
    lia
  · have := h2 v hv
    show v < wide.toNat + st.length
    have : steps.length = st.length := by rw [e1]; simp
    lia
theorem NetN.Ok.good {N : NetN} (o : N.Ok) : Good (N.w : Int) N.steps N.outs where
  lo := by have := o.lo; lia
  hi := by have := o.hi; lia
  len := by unfold NetN.steps; simpa using o.len
  st := fun k l hl => by
    unfold NetN.steps at hl
    rw [List.getElem?_map] at hl
    cases e : N.st[k]? with
    | none => rw [e] at hl; cases hl
    | some p =>
      rw [e] at hl
      obtain ⟨h1, h2⟩ := o.s1 k p e
      cases (Option.some.inj hl)
      simp only [stepOk, pairI, List.length_cons, List.length_nil, List.all_cons, List.all_nil]
      simp
      lia
  ol := by unfold NetN.outs; simp [o.ol]
  ou := fun v hv => by
    unfold NetN.outs at hv
    refine L2.ob_ea (List.mem_map.mp hv) fun u hu e_2 => ?_; subst e_2
    have := o.ob u hu
    unfold NetN.steps
    simp only [List.length_map]
    constructor
    · simp
    · show (u : Int) < _; lia
end NM
namespace NM
end NM

namespace L2
open PySem NM
theorem iteNT {c A B : Prop} [Decidable c] (hc : ¬ c) (h : A) : if (!decide c) = true then A else B := by
  rw [decide_eq_false hc]
  exact iteT h
theorem Same.upd {H H' : Hp} {l : Addr} {o : HO} (s : Same H H') (n : H l = Option.none) : Same H (upd H' l o) := fun b u e => by
  rw [upd_ne (ne_of_none e n)]
  exact s b u e
theorem Same.new {H : Hp} {l : Addr} {o : HO} (n : H l = Option.none) : Same H (L2.upd H l o) := (Same.refl H).upd n
inductive StepsAt (H : Hp) : List V → List (List Int) → Prop
  | nil : StepsAt H [] []
  | cons {r : Addr} {l : List Int} {rs : List V} {ls : List (List Int)} : H r = some (.tup (l.map V.int)) → StepsAt H rs ls → StepsAt H (.ref r :: rs) (l :: ls)
theorem StepsAt.mono {H H' : Hp} (s : Same H H') {rs : List V} {ls : List (List Int)} (h : StepsAt H rs ls) : StepsAt H' rs ls := by
  induction h with
  | nil => exact .nil
  | cons h _ ih => exact .cons (s _ _ h) ih
theorem StepsAt.length {H : Hp} {rs : List V} {ls : List (List Int)} (h : StepsAt H rs ls) : rs.length = ls.length := by
  induction h with
  | nil => rfl
  | cons _ _ ih => exact congrArg Nat.succ ih
theorem StepsAt.get {H : Hp} {rs : List V} {ls : List (List Int)} (s : StepsAt H rs ls) {i : Nat} {v : V} (e : rs[i]? = some v) : ∃ r l, v = .ref r ∧ ls[i]? = some l ∧ H r = some (.tup (l.map V.int)) := by
  induction s generalizing i with
  | nil => exact L2.ns_ e
  | cons h t ih => cases i with
    | zero => exact ⟨_, _, (Option.some.inj e).symm, rfl, h⟩
    | succ i => exact ih e
theorem StepsAt.snoc {H : Hp} {r : Addr} {l : List Int} {rs : List V} {ls : List (List Int)} (s : StepsAt H rs ls) (h' : H r = some (.tup (l.map V.int))) : StepsAt H (rs ++ [.ref r]) (ls ++ [l]) := by
  induction s with
  | nil => exact .cons h' .nil
  | cons h _ ih => exact .cons h ih
structure NetAt (H : Hp) (a : Addr) (wide : Int) (steps : List (List Int)) (outs : List Int) (sa oa : Addr) (rs : List V) : Prop where
  net : H a = some (.tup [.int wide, .ref sa, .ref oa])
  sts : H sa = some (.lst rs)
  st : StepsAt H rs steps
  ots : H oa = some (.lst (outs.map V.int))
theorem NetAt.mono {H H' : Hp} {a sa oa : Addr} {wide : Int} {steps : List (List Int)} {outs : List Int} {rs : List V} (n : NetAt H a wide steps outs sa oa rs) (s : Same H H') : NetAt H' a wide steps outs sa oa rs :=
  ⟨s _ _ n.net, s _ _ n.sts, n.st.mono s, s _ _ n.ots⟩
inductive spWhole  (vs : List V) (H : Hp) (Q : VK) (_e3 : XK) : Prop
  | mk : ∀ i : Int, (vs = [.int i]) → (Q (.bl true) H) → spWhole vs H Q _e3
inductive spWithin  (vs : List V) (H : Hp) (Q : VK) (_e3 : XK) : Prop
  | mk : ∀ v lo hi : Int, (vs = [.int v, .int lo, .int hi]) → (Q (.bl (decide (lo ≤ v) && decide (v ≤ hi))) H) → spWithin vs H Q _e3
noncomputable def nodeB (v ahead : Int) : Bool := decide (0 ≤ v) && decide (v < ahead)
inductive spNode  (vs : List V) (H : Hp) (Q : VK) (_e3 : XK) : Prop
  | mk : ∀ v ahead : Int, (vs = [.int v, .int ahead]) → (Q (.bl (nodeB v ahead)) H) → spNode vs H Q _e3
inductive spStep  (vs : List V) (H : Hp) (Q : VK) (_e3 : XK) : Prop
  | mk : ∀ (r : Addr) (l : List Int) (ahead : Int), (vs = [.ref r, .int ahead]) → (H r = some (.tup (l.map V.int))) → (Q (.bl (stepOk ahead l)) H) → spStep vs H Q _e3
inductive spWide (CB : Addr) (vs : List V) (H : Hp) (Q : VK) (E : XK) : Prop
  | mk : ∀ i : Int, (vs = [.int i]) → (((1 ≤ i ∧ i ≤ 64) → Q .non H)) → ((¬ (1 ≤ i ∧ i ≤ 64) → E (.ref CB) none H)) → spWide CB vs H Q E
inductive spSteps (CB : Addr) (vs : List V) (H : Hp) (Q : VK) (E : XK) : Prop
  | mk : ∀ (i : Int) (sa : Addr) (rs : List V) (ls : List (List Int)), (vs = [.int i, .ref sa]) → (H sa = some (.lst rs)) → (StepsAt H rs ls) → (∀ H', Same H H' → ((ls.length ≤ 500 ∧ stepsOk i ls) → Q .non H') ∧ (¬ (ls.length ≤ 500 ∧ stepsOk i ls) → E (.ref CB) none H')) → spSteps CB vs H Q E
inductive spOuts (CB : Addr) (vs : List V) (H : Hp) (Q : VK) (E : XK) : Prop
  | mk : ∀ (i : Int) (sa oa : Addr) (rs : List V) (outs : List Int), (vs = [.int i, .ref sa, .ref oa]) → (outs.length ≤ 10000) → (H sa = some (.lst rs)) → (H oa = some (.lst (outs.map V.int))) → (∀ H', Same H H' → (((outs.length : Int) = i ∧ outsOk (i + rs.length) outs) → Q .non H') ∧ (¬ ((outs.length : Int) = i ∧ outsOk (i + rs.length) outs) → E (.ref CB) none H')) → spOuts CB vs H Q E
inductive spLook (CB : Addr) (vs : List V) (H : Hp) (Q : VK) (E : XK) : Prop
  | mk : ∀ (a sa oa : Addr) (rs : List V) (wide : Int) (steps : List (List Int)) (outs : List Int), (vs = [.ref a]) → (outs.length ≤ 10000) → (NetAt H a wide steps outs sa oa rs) → (∀ H', Same H H' → (Good wide steps outs → Q .non H') ∧ (¬ Good wide steps outs → E (.ref CB) none H')) → spLook CB vs H Q E
end L2
namespace L2
open PySem NM PyProof.Rows
theorem fA (p : Str) (hp : p.length ≤ 1000) : (Str.empty ++ p).length ≤ sizeLine := by
  rw [strLen_append, sizeLine_eq]; show 0 + p.length ≤ _; lia
theorem fI {i : Int} (h : i.natAbs.log2 < 1920) : (Str.ofString (toString i)).length ≤ 1921 := by
  have e := int_text_length_le (k := 1920) (by decide) h
  rw [PySem.ofString_length]; lia
theorem fB (p : Str) (hp : p.length ≤ 1000) {i : Int} (h : i.natAbs.log2 < 1920) : (Str.empty ++ p ++ Str.ofString (toString i)).length ≤ sizeLine := by
  have := fI h
  rw [strLen_append, strLen_append, sizeLine_eq]; show 0 + p.length + _ ≤ _; lia
theorem fC (p q : Str) (hp : p.length ≤ 1000) (hq : q.length ≤ 1000) {i : Int} (h : i.natAbs.log2 < 1920) : (Str.empty ++ p ++ Str.ofString (toString i) ++ q).length ≤ sizeLine := by
  have := fI h
  rw [strLen_append, strLen_append, strLen_append, sizeLine_eq]; show 0 + p.length + _ + _ ≤ _; lia
theorem log2_small {i : Nat} (h : i ≤ 16777216) : ((i : Int).natAbs).log2 < 1920 := by
  rw [Int.natAbs_natCast]
  have h1 : i.log2 ≤ i := Nat.log2_le_self i
  by_cases hi : i = 0
  · subst hi; decide
  · exact Nat.lt_of_lt_of_le (Nat.log2_lt hi |>.mpr (Nat.lt_of_le_of_lt h (by decide : 16777216 < 2 ^ 25))) (by decide)
theorem iteB {b : Bool} {A B : Prop} (h1 : b = true → A) (h2 : b = false → B) : if b = true then A else B := by
  cases b with
  | true => exact iteT (h1 rfl)
  | false => exact iteF (h2 rfl)
theorem iteN {b : Bool} {A B : Prop} (h1 : b = false → A) (h2 : b = true → B) : if (!b) = true then A else B := by
  cases b with
  | true => exact iteF (h2 rfl)
  | false => exact iteT (h1 rfl)
end L2
namespace L2
open PySem NM PyProof.Rows
theorem atI_ints {xs : List Int} {j : Nat} (h : j < xs.length) : atI (xs.map V.int) (j : Int) = some (.int (xs.getD j 0)) :=
  atI_nat (by rw [List.getElem?_map, List.getElem?_eq_getElem h, List.getD_eq_getElem?_getD, List.getElem?_eq_getElem h]; rfl)
theorem fits {n : Nat} (h : n ≤ 10000) : n ≤ sizeLine := by rw [sizeLine_eq]; lia
theorem fitsL {n : Nat} (h : n ≤ 10000) : n < sizeLine := by rw [sizeLine_eq]; lia
theorem NetN.Ok.steps_get {N : NetN} {H : Hp} {rs : List V} (st : StepsAt H rs N.steps) {i : Nat} {x : V} (hx : rs[i]? = some x) : ∃ r p, x = .ref r ∧ N.st[i]? = some p ∧ H r = some (.tup [.int p.1, .int p.2]) := by
  refine L2.ob_eeaa (st.get hx) fun r l e hl hr => ?_
  unfold NetN.steps at hl
  rw [List.getElem?_map] at hl
  refine L2.ob_ea (Option.map_eq_some_iff.mp hl) fun p hp e_2 => ?_; subst e_2
  exact ⟨r, p, e, hp, hr⟩
theorem steps_len {N : NetN} : N.steps.length = N.st.length := by unfold NetN.steps; simp
theorem outs_len {N : NetN} : N.outs.length = N.ou.length := by unfold NetN.outs; simp
end L2
namespace L2
end L2
namespace L2
open PySem PyProof.Rows
theorem comp_list {K : PySem.W.Frag} {a : Addr} {xs : List V} {js : List Nat} {te : TE} {σ : St} {H : Hp} {Fin : List V → Hp → Prop} (Pv : Nat → List V → Hp → Prop) (h0 : Pv 0 [] H) (hl : ∀ i ys H, i ≤ xs.length → Pv i ys H → SqL K H a xs) (hz : ∀ i ys H, i < xs.length → Pv i ys H → ys.length < sizeLine)
    (hs : ∀ i x ys H (T : V → Hp → Prop), xs[i]? = some x → Pv i ys H → (∀ y H2, Pv (i + 1) (ys ++ [y]) H2 → T y H2) → te (compSt (some x) σ js) H T) (hd : ∀ ys H, Pv xs.length ys H → Fin ys H) : compGo (Itl K a) js none te σ H Fin := by
  refine ⟨fun i m ys H => m = xs.length - i ∧ i ≤ xs.length ∧ Pv i ys H, ⟨xs.length, by simp, Nat.zero_le _, h0⟩, ?_⟩
  rintro i m ys H ⟨rfl, hi, p⟩
  have q := hl i ys H hi p
  by_cases hlt : i < xs.length
  · refine .inr ⟨⟨xs, xs[i], q, by simp [hlt]⟩, hz i ys H hlt p, fun x H' y => ?_⟩
    obtain ⟨e, y⟩ := y
    subst e
    unfold tests
    simp only [if_true]
    exact hs i x ys _ _ (y xs q) p fun y H2 p2 => ⟨xs.length - (i + 1), by lia, rfl, hlt, p2⟩
  · have e : i = xs.length := by lia
    subst e
    exact .inl ⟨⟨xs, q, Nat.le_refl _⟩, hd ys H p⟩
theorem comp_range {lo : Int} {n : Nat} {js : List Nat} {te : TE} {σ : St} {H : Hp} {Fin : List V → Hp → Prop} (Pv : Nat → List V → Hp → Prop) (h0 : Pv 0 [] H) (hz : ∀ i ys H, i < n → Pv i ys H → ys.length < sizeLine)
    (hs : ∀ i ys H (T : V → Hp → Prop), i < n → Pv i ys H → (∀ y H2, Pv (i + 1) (ys ++ [y]) H2 → T y H2) → te (compSt (some (.int (lo + i))) σ js) H T) (hd : ∀ ys H, Pv n ys H → Fin ys H) : compGo (Itr lo n) js none te σ H Fin := by
  refine ⟨fun i m ys H => m = n - i ∧ i ≤ n ∧ Pv i ys H, ⟨n, by simp, Nat.zero_le _, h0⟩, ?_⟩
  rintro i m ys H ⟨rfl, hi, p⟩
  by_cases hlt : i < n
  · refine .inr ⟨hlt, hz i ys H hlt p, fun x H' y => ?_⟩
    obtain ⟨e, y⟩ := y
    subst e y
    unfold tests
    simp only [if_true]
    exact hs i ys _ _ hlt p fun y H2 p2 => ⟨n - (i + 1), by lia, rfl, hlt, p2⟩
  · have e : i = n := by lia
    subst e
    exact .inl ⟨Nat.le_refl _, hd ys H p⟩
end L2

namespace L2
open PySem PyProof.Rows
noncomputable abbrev rLenS := r_call_len_seq
theorem call_lenS {X : Cx} : CallR X (.builtin "len") (rLenS X.K) := call_len_seq
noncomputable def nodupS : List Str → Bool
  | [] => true
  | a :: r => !(r.contains a) && nodupS r
theorem nodupS_of : ∀ {l : List Str}, nodupS l = true → l.Nodup
  | [], _ => List.nodup_nil
  | a :: r, h => by
    unfold nodupS at h
    rw [Bool.and_eq_true] at h
    refine List.nodup_cons.mpr ⟨fun z => ?_, nodupS_of h.2⟩
    have : r.contains a = true := List.contains_iff_mem.mpr z
    rw [this] at h
    exact absurd h.1 (by decide)
end L2
namespace L2
open PySem NM PyProof.Rows
inductive spCell (K : PySem.W.Frag) (vs : List V) (H : Hp) (Q : VK) (_e3 : XK) : Prop
  | mk : ∀ (a : Addr) (ns : List Int) (k : Int), (vs = [.ref a, .int k]) → (SqL K H a (ns.map V.int)) → (∀ i : Int, Q (.int i) H) → spCell K vs H Q _e3
inductive spMix (K : PySem.W.Frag) (vs : List V) (H : Hp) (Q : VK) (_e3 : XK) : Prop
  | mk : ∀ (a : Addr) (ns : List Int) (k : Int), (vs = [.ref a, .int k]) → (SqL K H a (ns.map V.int)) → (∀ i : Int, 0 ≤ i → Q (.int i) H) → spMix K vs H Q _e3
theorem mod_at {ns : List Int} {k : Int} (h : ns ≠ []) : ∃ z, atI (ns.map V.int) (k % (((ns.map V.int).length : Nat) : Int)) = some (.int z) := by
  have hp := pos_of_ne h
  rw [List.length_map]
  have h0 := Int.emod_nonneg k (show ((ns.length : Nat) : Int) ≠ 0 by lia)
  have h1 := Int.emod_lt_of_pos k (show 0 < ((ns.length : Nat) : Int) by lia)
  have e : k % ((ns.length : Nat) : Int) = (((k % ((ns.length : Nat) : Int)).toNat : Nat) : Int) := by lia
  rw [e]
  exact ⟨_, atI_ints (by lia)⟩
end L2

namespace L2
theorem StepsAt.keep {H H' : Hp} {rs : List V} {ls : List (List Int)} (s : StepsAt H rs ls) (k : ∀ r u, H r = some (.tup u) → H' r = some (.tup u)) : StepsAt H' rs ls := by
  induction s with
  | nil => exact .nil
  | cons h _ ih => exact .cons (k _ _ h) ih
end L2
namespace L2
open PySem NM PyProof.Rows
end L2
namespace L2
open PySem NM PyProof.Rows
theorem boot_ValueError : bootBuiltins "ValueError" = some (.type "ValueError") := by decide +kernel
end L2
namespace L2
open PySem NM PyProof.Rows
theorem new_at {H : Hp} {t x : Addr} {o u : HO} (hn : H t = Option.none) (h : H x = some u) : L2.upd H t o x = some u := (Same.new hn) _ _ h
noncomputable def cutL {α : Type} (xs : List α) (lo hi : Option Int) : List α := (xs.drop (HT.sIx xs.length 0 lo)).take (HT.sIx xs.length xs.length hi - HT.sIx xs.length 0 lo)
theorem pick4 {α : Type} {a b c d : α} {i : Int} (h0 : 0 ≤ i) (h1 : i < 4) {R : α → Prop} (ha : R a) (hb : R b) (hc : R c) (hd : R d) : ∃ z, atI [a, b, c, d] i = some z ∧ R z := by
  have : i = 0 ∨ i = 1 ∨ i = 2 ∨ i = 3 := by lia
  rcases this with rfl | rfl | rfl | rfl
  · exact ⟨a, rfl, ha⟩
  · exact ⟨b, rfl, hb⟩
  · exact ⟨c, rfl, hc⟩
  · exact ⟨d, rfl, hd⟩
theorem pick3 {α : Type} {a b c : α} {i : Int} (h0 : 0 ≤ i) (h1 : i < 3) {R : α → Prop} (ha : R a) (hb : R b) (hc : R c) : ∃ z, atI [a, b, c] i = some z ∧ R z := by
  have : i = 0 ∨ i = 1 ∨ i = 2 := by lia
  rcases this with rfl | rfl | rfl
  · exact ⟨a, rfl, ha⟩
  · exact ⟨b, rfl, hb⟩
  · exact ⟨c, rfl, hc⟩
theorem netAt_new {H : Hp} {n sa oa : Addr} {wide : Int} {steps : List (List Int)} {outs : List Int} {rs : List V} (hn : H n = Option.none) (h1 : H sa = some (.lst rs)) (h2 : StepsAt H rs steps) (h3 : H oa = some (.lst (outs.map V.int))) :
    NetAt (L2.upd H n (.tup [.int wide, .ref sa, .ref oa])) n wide steps outs sa oa rs := ⟨upd_same, new_at hn h1, h2.mono (Same.new hn), new_at hn h3⟩
end L2

namespace L2
open PySem NM PyProof.Rows
theorem pairI_inj : ∀ {a b : List (Nat × Nat)}, a.map pairI = b.map pairI → a = b
  | [], [], _ => rfl
  | [], _ :: _, h => by simp at h
  | _ :: _, [], h => by simp at h
  | p :: r, q :: t, h => by
    rw [List.map_cons, List.map_cons] at h
    obtain ⟨h1, h2⟩ := List.cons.inj h
    unfold pairI at h1
    simp only [List.cons.injEq, and_true] at h1
    have e1 : p.1 = q.1 := by lia
    have e2 : p.2 = q.2 := by lia
    rw [pairI_inj h2, show p = q from Prod.ext e1 e2]
theorem ofNat_inj : ∀ {a b : List Nat}, a.map Int.ofNat = b.map Int.ofNat → a = b
  | [], [], _ => rfl
  | [], _ :: _, h => by simp at h
  | _ :: _, [], h => by simp at h
  | p :: r, q :: t, h => by
    rw [List.map_cons, List.map_cons] at h
    obtain ⟨h1, h2⟩ := List.cons.inj h
    rw [ofNat_inj h2, show p = q from Int.ofNat.inj h1]
theorem net_inj {N M : NetN} (h1 : (N.w : Int) = M.w) (h2 : N.steps = M.steps) (h3 : N.outs = M.outs) : N = M := by
  obtain ⟨w, st, ou⟩ := N
  obtain ⟨w', st', ou'⟩ := M
  have e1 : w = w' := by
    have : (w : Int) = (w' : Int) := h1
    lia
  have e2 : st = st' := pairI_inj h2
  have e3 : ou = ou' := ofNat_inj h3
  rw [e1, e2, e3]
section
variable {N : NetN} {H : Hp} {Q : VK}
end
noncomputable def dStep (l : List Int) : Dt := .tup (l.map Dt.int)
noncomputable def dNet (wide : Int) (steps : List (List Int)) (outs : List Int) : Dt := .tup [.int wide, .lst (steps.map dStep), .lst (outs.map Dt.int)]
theorem deeps_steps {K : PySem.W.Frag} {H : Hp} : ∀ {rs : List V} {ls : List (List Int)}, StepsAt H rs ls → Deeps K H (ls.map dStep) rs
  | _, _, .nil => by simp only [List.map_nil, Deeps]
  | _, _, .cons (l := l) h t => by
    simp only [List.map_cons, Deeps]
    exact ⟨_, _, rfl, deep_tup (SqT.of h) (deeps_ints l), deeps_steps t⟩
theorem deep_net {K : PySem.W.Frag} {H : Hp} {a sa oa : Addr} {wide : Int} {steps : List (List Int)} {outs : List Int} {rs : List V} (n : NetAt H a wide steps outs sa oa rs) : Deep K H (dNet wide steps outs) (.ref a) := by
  refine deep_tup (SqT.of n.net) ?_
  simp only [Deeps, Deep]
  exact ⟨_, _, rfl, rfl, _, _, rfl, ⟨_, _, rfl, SqL.of n.sts, deeps_steps n.st⟩, _, _, rfl, ⟨_, _, rfl, SqL.of n.ots, deeps_ints outs⟩, rfl⟩
theorem dps_steps : ∀ ls : List (List Int), Dt.dps (ls.map dStep) ≤ 1
  | [] => by simp only [List.map_nil, Dt.dps]; exact Nat.zero_le _
  | l :: r => by
    have := dps_steps r
    simp only [List.map_cons, Dt.dps, dStep, Dt.dp, dps_ints]
    show max (1 + 0) (Dt.dps (r.map dStep)) ≤ 1
    lia
theorem dp_net {wide : Int} {steps : List (List Int)} {outs : List Int} : (dNet wide steps outs).dp ≤ 8 := by
  have := dps_steps steps
  simp only [dNet, Dt.dp, Dt.dps, dps_ints]
  lia
end L2

namespace L2
open PySem PySem.Spec PyProof.Rows
section
variable {X : Cx} {pins : List (Addr × Obj)} {σ : St} {H : Hp} {s : Shared}
end
end L2

namespace L2
open PySem PySem.Spec PyProof.Rows
section
variable {X : Cx} {pins : List (Addr × Obj)} {σ : St} {H : Hp} {s : Shared}
end
section
variable {prog : Program} {w : World} {A : Around} {E : Value → Shared → Prop} {s : Shared}
end
section
variable {X : Cx} {e : Expr} {te : TE} {pos p2 p3 p4 : Pos} {k1 : Nat}
end
end L2

namespace L2
open PySem PySem.Spec PyProof.Rows
section
variable {κ : Type} [DecidableEq κ]
end


section
variable {P : Program} {w : World} {H : Hp} {h : Heap} {a : Addr}
end

section
variable {X : Cx} {pins : List (Addr × Obj)} {σ : St} {H : Hp} {s : Shared} {a : Addr} {y v : V} {u r : Value} {o : Option V} {A : Around} {E : Value → Shared → Prop}
end

section
variable {X : Cx} {pins : List (Addr × Obj)} {σ : St} {H : Hp} {s : Shared} {a : Addr} {kvs : List (Key × V)} {k : Key} {u : Value} {A : Around} {E : Value → Shared → Prop}
end


section
variable {X : Cx} {o i e value : Expr} {pos pos' tpos : Pos} {td ty tv : TE}
end


section
variable {X : Cx} {pos : Pos}
end

end L2
namespace L2
open PySem PySem.Spec PyProof.Rows
section
variable {κ : Type} [DecidableEq κ]
end
end L2

namespace L2
open PySem NM PyProof.Rows
inductive spDrawnN (K : PySem.W.Frag) (vs : List V) (H : Hp) (Q : VK) (_e3 : XK) : Prop
  | mk : ∀ (a : Addr) (ns : List Int) (k : Int) (most : Nat), (vs = [.ref a, .int k, .int (most : Nat)]) → (1 ≤ most) → (most ≤ 64) → (SqL K H a (ns.map V.int)) → (∀ (H' : Hp) (n sa oa : Addr) (rs : List V) (N : NetN), Same H H' → NetAt H' n N.w N.steps N.outs sa oa rs → N.Ok → N.w ≤ most → N.st.length ≤ 8 → Q (.ref n) H') → spDrawnN K vs H Q _e3
theorem steps_snoc_ok {w : Nat} {st : List (Nat × Nat)} {q : Nat × Nat} (ok : ∀ (k : Nat) p, st[k]? = some p → p.1 < w + k ∧ p.2 < w + k) (h1 : q.1 < w + st.length) (h2 : q.2 < w + st.length) : ∀ (k : Nat) p, (st ++ [q])[k]? = some p → p.1 < w + k ∧ p.2 < w + k := by
  intro k p e
  by_cases hk : k < st.length
  · rw [List.getElem?_append_left hk] at e; exact ok k p e
  · rw [List.getElem?_append_right (by lia)] at e
    have h0 : k - st.length = 0 := by
      have := (List.getElem?_eq_some_iff.mp e).1
      simp at this; lia
    rw [h0] at e
    simp at e
    subst e
    exact ⟨by lia, by lia⟩
theorem cutL_drop {α : Type} (xs : List α) (n : Nat) : cutL xs (some (n : Int)) none = xs.drop n := by
  unfold cutL
  rw [HT.sIx_nat]
  show (xs.drop (min n xs.length)).take (xs.length - min n xs.length) = xs.drop n
  by_cases h : n ≤ xs.length
  · rw [Nat.min_eq_left h, List.take_of_length_le (by rw [List.length_drop]; solve_by_elim)]
  · rw [Nat.min_eq_right (by lia), Nat.sub_self, List.take_zero, List.drop_of_length_le (by lia)]
end L2

namespace NM
end NM

namespace L2
open PySem NM PyProof.Rows
end L2

namespace L2
open PySem
namespace ST
end ST
end L2

namespace L2
open PySem PySem.Spec PyProof.Rows
open ST
section
variable {prog : Program} {w : World} {A : Around} {E : Value → Shared → Prop} {s : Shared}
end
end L2

namespace L2
open PySem PySem.Spec PyProof.Rows
namespace ST
end ST
open ST
section
variable {prog : Program} {w : World} {A : Around} {E : Value → Shared → Prop} {s : Shared}
end
end L2

namespace L2
open PySem PySem.Spec PyProof.Rows
open ST
section
variable {X : Cx}
end
end L2

namespace L2
open PySem NM PyProof.Rows
theorem ixN_last (n : Nat) : ixN (n + 1) (-1) = some n := by
  unfold ixN
  rw [if_neg (by decide), if_pos (by lia)]
  congr 1
  lia
end L2

namespace L2
open PySem PySem.Spec PyProof.Rows
section
variable {X : Cx}
end
end L2

namespace L2
open PySem PySem.Spec PyProof.Rows PySem.Calls
section
variable {X : Cx} {pins : List (Addr × Obj)} {σ : St} {H : Hp} {s : Shared} {scope : Scope} {x : Str} {js : List Nat}
end
end L2

namespace L2
open PySem PySem.Spec PyProof.Rows PySem.Calls
section
variable {X : Cx} {σ : St} {H : Hp} {s : Shared}
end
end L2

namespace L2
open PySem PySem.Spec PyProof.Rows PySem.Calls
section
variable {X : Cx} {pins : List (Addr × Obj)} {σ : St} {H : Hp} {s : Shared} {scope : Scope} {x : Str} {js : List Nat}
end
end L2

namespace L2
open PySem PySem.Spec PyProof.Rows PySem.Calls
section
variable {prog : Program} {w : World} {A : Around} {E : Value → Shared → Prop} {s : Shared}
end

section
variable {prog : Program} {w : World} {A : Around} {E : Value → Shared → Prop} {s : Shared}
end
end L2

namespace L2
open PySem PySem.Spec PyProof.Rows PySem.Calls
section
variable {X : Cx}
end
end L2

namespace L2
open PySem PySem.Spec PyProof.Rows NM
end L2

namespace L2
open PySem PySem.Spec PyProof.Rows NM
end L2

namespace L2
open PySem PySem.Spec PyProof.Rows NM
end L2

namespace L2
open PySem PySem.Spec PyProof.Rows NM
end L2

namespace L2
open PySem PySem.Spec PyProof.Rows
end L2

namespace L2
open PySem PySem.Spec PyProof.Rows PySem.Calls
section
variable {prog : Program} {w : World} {A : Around} {E : Value → Shared → Prop} {s : Shared}
end
section
variable {X : Cx}
end
end L2

namespace L2
open PySem PySem.Spec PyProof.Rows NM
noncomputable abbrev rTupOf' := r_call_tuple_of
theorem call_tupOf {X : Cx} : CallR X (.type "tuple") (rTupOf' X.K) := call_tuple_of
end L2

namespace L2
open PySem PySem.Spec PyProof.Rows
section
variable {X : Cx} {pins : List (Addr × Obj)} {σ : St} {H H₁ : Hp} {s s₁ : Shared} {scope : Scope} {x : Str} {js : List Nat} {C : Addr} {fp : List Addr}
end
section
variable {X : Cx} {pins : List (Addr × Obj)} {σ : St} {H₁ : Hp} {s₁ : Shared} {scope : Scope} {x : Str} {js : List Nat} {elt iter : Expr} {ifs : List Expr} {ot : Option TT} {te : TE} {px pos : Pos}
end
end L2

namespace L2
open PySem PySem.Spec PyProof.Rows NM
end L2

namespace L2
open PySem PySem.Spec PyProof.Rows NM
end L2

namespace L2
open PySem PySem.Spec PyProof.Rows
end L2

namespace NM
end NM

namespace NM
end NM

namespace NM
end NM

namespace L2
open PySem PySem.Spec PyProof.Rows NM
section
variable {X : Cx}
end
noncomputable def Bt (sa : Addr) (H H' : Hp) : Prop := ∀ b o, b ≠ sa → H b = some o → H' b = some o
theorem Bt.refl {sa : Addr} (H : Hp) : Bt sa H H := fun _ _ _ e => e
theorem Bt.trans {sa : Addr} {H H1 H2 : Hp} (a : Bt sa H H1) (b : Bt sa H1 H2) : Bt sa H H2 := fun p o n e => b p o n (a p o n e)
theorem Bt.same {sa : Addr} {H H' : Hp} (s : Same H H') : Bt sa H H' := fun b o _ e => s b o e
theorem Bt.sa {sa : Addr} {H : Hp} {o : HO} : Bt sa H (upd H sa o) := fun b o' n e => by rw [upd_ne n]; exact e
end L2
namespace L2
open PySem PySem.Spec PyProof.Rows NM
end L2
namespace L2
open PySem PySem.Spec PyProof.Rows NM
theorem emptyLen : Str.empty.length = 0 := rfl
end L2
namespace L2
open PySem PySem.Spec PyProof.Rows NM
end L2
namespace L2
open PySem PySem.Spec PyProof.Rows NM
end L2
namespace L2
open PySem PySem.Spec PyProof.Rows NM
end L2
namespace L2
open PySem PySem.Spec PyProof.Rows NM
end L2
namespace L2
open PySem PySem.Spec PyProof.Rows NM
end L2
namespace L2
open PySem PySem.Spec PyProof.Rows NM
end L2
namespace L2
open PySem PySem.Spec PyProof.Rows NM
end L2
namespace L2
open PySem PySem.Spec PyProof.Rows NM
end L2

namespace NM
end NM
namespace L2
open PySem PySem.Spec PyProof.Rows NM
end L2

namespace L2
open PySem PySem.Spec PyProof.Rows
end L2

namespace L2
open PySem PyProof.Rows
inductive KFn (K : PySem.W.Frag) (x : Str) (st : Stmt) : Prop
  | mk : ∀ {f : Addr} {oc : Value} {od an : Option Addr} {osl : Array (Option Value)} {kV doc pm cdv ct : Value}, PySem.W.nsIn K mainGlobals x = some (some (.ref f)) →
      K.lookup f = some ⟨oc, od, .func (PySem.W.fnOf x x (defArgs st) (defBody st) (defScope st) .none kV doc pm an cdv ct), osl⟩ → PySem.W.codeIn K cdv x = true → PySem.W.keepIn K (.ref f) = true → KFn K x st
noncomputable def BindQ (x : Str) (st : Stmt) (ps : List Str) (kV doc pm : Value) (an : Option Addr) (cdv ct : Value) (us : List Value) : Prop := bindArgs (PySem.W.fnOf x x (defArgs st) (defBody st) (defScope st) .none kV doc pm an cdv ct) ⟨us, []⟩ = pure (ps.zip us)
noncomputable abbrev BindP (x : Str) (st : Stmt) (ps : List Str) : Prop := ∀ (kV doc pm : Value) (an : Option Addr) (cdv ct : Value) (us : List Value), us.length = ps.length → BindQ x st ps kV doc pm an cdv ct us
section
variable {P : Program} {w : World} {K : PySem.W.Frag} {mg : Str → Option Value} {base h : Heap} {x : Str} {st : Stmt} {k : Nat} {ps : List Str} {sp : Sp}
theorem KFn.df (X : K.In h) (G : h.Ns mainGlobals mg) (a : KFn K x st) (hb : BindP x st ps)
    (ok : ∀ f fd, Fun K x x st f fd → mg x = some (.ref f) → PySem.W.keepIn K (.ref f) = true → Binds K fd ps [] → FnOk P w K mg base (CX1 P w) k f fd ps sp) : Df P w K mg base x k ps sp := by
  obtain ⟨a1, a2, a3, a4⟩ := a
  have F := fun_mk a2 a3 a4
  exact ⟨_, _, PySem.W.mg_of X G a1, a4, F.binds hb, ok _ _ F (PySem.W.mg_of X G a1) a4 (F.binds hb)⟩
theorem KFn.last {fa : Addr} (X : K.In h) (G : h.Ns mainGlobals mg) (a : KFn K x st) (hfa : mg x = some (.ref fa)) {C : FuncData → Prop} (ok : ∀ kV doc pm an cdv ct, Fun K x x st fa (PySem.W.fnOf x x (defArgs st) (defBody st) (defScope st) .none kV doc pm an cdv ct) → C (PySem.W.fnOf x x (defArgs st) (defBody st) (defScope st) .none kV doc pm an cdv ct)) : ∃ fd : FuncData, C fd := by
  obtain ⟨a1, a2, a3, a4⟩ := a
  have e := hfa.symm.trans (PySem.W.mg_of X G a1)
  cases e
  exact ⟨_, ok _ _ _ _ _ _ (fun_mk a2 a3 a4)⟩
end
theorem lenC {α : Type} {C : List α → Prop} {n : Nat} {us : List α} (h : us.length = n + 1) (k : ∀ a r, r.length = n → C (a :: r)) : C us := by
  cases us with
  | nil => exact absurd h.symm (Nat.succ_ne_zero n)
  | cons a r => exact k a r (Nat.succ.inj h)
theorem len0 {α : Type} {C : List α → Prop} {us : List α} (h : us.length = 0) (k : C []) : C us := by
  cases us with
  | nil => exact k
  | cons a r => exact absurd h (Nat.succ_ne_zero _)
theorem len1 {α : Type} {C : List α → Prop} {us : List α} (h : us.length = 1) (k : ∀ a, C [a]) : C us := lenC h fun a _ h => len0 (C := fun r => C (a :: r)) h (k a)
theorem len2 {α : Type} {C : List α → Prop} {us : List α} (h : us.length = 2) (k : ∀ a b, C [a, b]) : C us := lenC h fun a _ h => len1 (C := fun r => C (a :: r)) h (k a)
theorem len3 {α : Type} {C : List α → Prop} {us : List α} (h : us.length = 3) (k : ∀ a b c, C [a, b, c]) : C us := lenC h fun a _ h => len2 (C := fun r => C (a :: r)) h (k a)
end L2

namespace L2
open PySem PySem.Spec PyProof.Rows NM
end L2
namespace L2
open PySem PySem.Spec PyProof.Rows NM
end L2

namespace L2
open PySem PySem.Spec PyProof.Rows
noncomputable def compNT (xs : List Str) (N : List Str) (js : List Nat) : List Str := xs ++ js.map fun j => N.getD j Str.empty
noncomputable def compStT (vs : List (Option V)) (σ : St) (js : List Nat) : St := vs ++ js.map fun j => (σ[j]?).getD none
noncomputable def compOkT (scope : Scope) (env : Env) (xs : List Str) (N : List Str) (js : List Nat) : Bool :=
  (scope.kind == .function) && xs.all (fun x => scope.names.lookup x == some .local) &&
  scope.names.all (fun y => y.2 != .cell && (y.2 != .local || scope.names.lookup y.1 == some .local) && (y.2 != .free || env.kindOf y.1 == some .cell || env.kindOf y.1 == some .free)) &&
  js.all (fun j => decide (j < N.length) && scope.names.lookup (N.getD j Str.empty) == some .free)
noncomputable def compCxT (X : Cx) (scope : Scope) (xs : List Str) (js : List Nat) (C : Addr) (s₁ : Shared) (H₁ : Hp) (fp : List Addr) : Cx :=
  { X with N := compNT xs X.N js, s₀ := s₁, H₀ := H₁, env := compEnvC scope (clOf X.env.cells scope.names []) C X.env, outer := X.stack, stack := X.stack, ex := fp, fn := fun _ => false, pn := [], xe := fun _ _ => False }
structure CompOkT (scope : Scope) (env : Env) (xs : List Str) (N : List Str) (js : List Nat) : Prop where
  kind : scope.kind = .function
  x : ∀ x ∈ xs, scope.names.lookup x = some .local
  nocell : ∀ y ∈ scope.names, y.2 ≠ .cell
  loc : ∀ y ∈ scope.names, y.2 = .local → scope.names.lookup y.1 = some .local
  fr : ∀ y ∈ scope.names, y.2 = .free → env.kindOf y.1 = some .cell ∨ env.kindOf y.1 = some .free
  js : ∀ j ∈ js, j < N.length ∧ scope.names.lookup (N.getD j Str.empty) = some .free
theorem compOk_ofT {scope : Scope} {env : Env} {xs : List Str} {N : List Str} {js : List Nat} (h : compOkT scope env xs N js = true) : CompOkT scope env xs N js := by
  unfold compOkT at h
  simp only [Bool.and_eq_true, List.all_eq_true, beq_iff_eq, Bool.or_eq_true, bne_iff_ne, decide_eq_true_eq] at h
  obtain ⟨⟨⟨h1, h2⟩, h3⟩, h4⟩ := h
  refine ⟨h1, h2, fun y hy => (h3 y hy).1.1, fun y hy e => ?_, fun y hy e => ?_, h4⟩
  · rcases (h3 y hy).1.2 with z | z
    · exact absurd e z
    · exact z
  · rcases (h3 y hy).2 with (z | z) | z
    · exact absurd e z
    · exact .inl z
    · exact .inr z
section
variable {X : Cx} {pins : List (Addr × Obj)} {σ : St} {H H₁ : Hp} {s s₁ : Shared} {scope : Scope} {xs : List Str} {js : List Nat} {C : Addr} {fp : List Addr}
theorem comp_cellsT (O : CompOkT scope X.env xs X.N js) (I : Inv X pins σ H s) : ∀ y ∈ scope.names, y.2 = .free → ∃ c, X.env.cells.lookup y.1 = some c := fun y hy e => I.ok.has y.1 (O.fr y hy e)
theorem comp_okT (O : CompOkT scope X.env xs X.N js) (I : Inv X pins σ H₁ s₁) (hc : X.calm = true) (hC : s₁.heap.objs.size ≤ C) (hf : ∀ b ∈ fp, FpOk X pins H₁ b) (hfx : ∀ b ∈ fp, X.base.get? b = none) (hlt : ∀ b ∈ fp, b < s₁.heap.objs.size) : (compCxT X scope xs js C s₁ H₁ fp).Ok := by
  refine ⟨I.ok.mod, O.kind, I.ok.glob, I.ok.blt, hC, fun y z c h1 h2 => I.ok.inj y z c (cl_sub y c h1) (cl_sub z c h2), fun y hy => ?_, (fun y c h => nomatch h), I.ok.hd, I.ok.frames, .inl rfl, fun b hb => ⟨?_, fun y c e => ?_⟩, I.bs, Nat.le_trans I.ok.bsz I.sz, fun b o e hb => ?_, fun b hb hs => ?_, I.stack, I.stkFree⟩
  · have hy' : (relabel scope X.env).names.lookup y = some .cell ∨ (relabel scope X.env).names.lookup y = some .free := hy
    have : ∃ k0, (y, k0) ∈ scope.names ∧ k0 = .free := by
      rcases hy' with z | z
      · obtain ⟨k0, hm, h⟩ := relabel_kind z
        rcases h with h | h
        · exact absurd h.symm (O.nocell _ hm)
        · exact ⟨k0, hm, h.2⟩
      · obtain ⟨k0, hm, h⟩ := relabel_kind z
        rcases h with h | h
        · exact ⟨k0, hm, h.symm⟩
        · cases h.1
    obtain ⟨k0, hm, e⟩ := this
    subst e
    exact clOf_has hm (comp_cellsT O I _ hm rfl)
  · exact Nat.ne_of_lt (Nat.lt_of_lt_of_le (hlt b hb) hC)
  · exact (hf b hb).2.2.2.2.1 y c (cl_sub y c e)
  · have e' : X.base.get? b = some o := e
    rw [hfx b hb] at e'; cases e'
  · have hs' : b ∈ frs X.stack := hs
    rcases List.mem_cons.mp (I.stkSub b hs') with z | z
    · exact (hf b hb).2.1 z
    · exact (hf b hb).2.2.1 z
theorem comp_invT {s₃ : Shared} {m : Str → Option Value} (O : CompOkT scope X.env xs X.N js) (I : Inv X pins σ H₁ s₁) (hc : X.calm = true) (hC : s₁.heap.objs.size ≤ C) (hf : ∀ b ∈ fp, FpOk X pins H₁ b) (hlt : ∀ b ∈ fp, b < s₁.heap.objs.size)
    (hos : s₃.os = s₁.os) (hg : AllBare s₃.gens) (hk : ∀ b o, s₁.heap.get? b = some o → s₃.heap.get? b = some o) (hn : s₃.heap.Ns C m) : Inv (compCxT X scope xs js C s₁ H₁ fp) [] (compStT (xs.map fun _ => none) σ js) H₁ s₃ := by
  refine ⟨comp_okT O I hc hC hf (fun b hb => fp_base I (hf b hb)) hlt, hos, hg, Un.kept hk, ⟨m, hn, fun i y v e1 e2 e3 => ?_⟩, fun y c e => ?_, I.hok.fresh hC, fun y c e => I.freeC y c (cl_sub y c e), fun p hp => ?_, I.hok.kept hk, ?_⟩
  · have e1 : (xs ++ js.map fun j => X.N.getD j Str.empty)[i]? = some y := e1
    have e2 : ((xs.map fun _ => (none : Option V)) ++ js.map fun j => (σ[j]?).getD none)[i]? = some (some v) := e2
    by_cases hi : i < xs.length
    · rw [List.getElem?_append_left (by rw [List.length_map]; exact hi), List.getElem?_map, List.getElem?_eq_getElem hi] at e2
      cases e2
    · rw [List.getElem?_append_right (by lia)] at e1
      rw [List.getElem?_append_right (by rw [List.length_map]; lia), List.length_map] at e2
      have e1' : (js.map fun j => X.N.getD j Str.empty)[i - xs.length]? = some y := e1
      have e2' : (js.map fun j => (σ[j]?).getD none)[i - xs.length]? = some (some v) := e2
      generalize i - xs.length = k at e1' e2'
      rw [List.getElem?_map] at e1' e2'
      cases q : js[k]? with
      | none => rw [q] at e1'; cases e1'
      | some j =>
        rw [q] at e1' e2'
        have ey : X.N.getD j Str.empty = y := Option.some.inj e1'
        have ev : (σ[j]?).getD none = some v := Option.some.inj e2'
        obtain ⟨hj, hfree⟩ := O.js j (List.mem_of_getElem? q)
        rw [ey] at hfree
        have hNj : X.N[j]? = some y := by
          rw [List.getD_eq_getElem?_getD, List.getElem?_eq_getElem hj] at ey
          rw [List.getElem?_eq_getElem hj]
          exact congrArg some ey
        have hσ : σ[j]? = some (some v) := by
          cases z : σ[j]? with
          | none => rw [z] at ev; cases ev
          | some o => rw [z] at ev; exact congrArg some ev
        have hkind := O.fr (y, .free) (mem_of_lookup' hfree) rfl
        obtain ⟨mX, hnX, hl⟩ := I.loc
        obtain ⟨u, r, l⟩ := hl j y v hNj hσ (by
          rcases hkind with z | z
          · exact .inr (.inl z)
          · exact .inr (.inr z))
        refine ⟨u, r, ?_⟩
        rcases l with ⟨z, _⟩ | ⟨_, c, hcell, hv⟩
        · rcases hkind with z2 | z2
          · rw [z] at z2; cases z2
          · rw [z] at z2; cases z2
        · obtain ⟨c', hc'⟩ := clOf_has (cells := X.env.cells) (cs := []) (mem_of_lookup' hfree) ⟨c, hcell⟩
          have : c' = c := by
            have z := cl_sub y c' hc'
            rw [hcell] at z; cases z; rfl
          subst this
          obtain ⟨o, ho, hd⟩ := hv
          exact .inr ⟨lookup_relabel_free hfree, c', hc', o, hk _ _ ho, hd⟩
  · obtain ⟨v, o, ho, hd⟩ := I.cell y c (cl_sub y c e)
    exact ⟨v, o, hk _ _ ho, hd⟩
  · exact absurd (show p ∈ ([] : List (Addr × Obj)) from hp) (by simp)
  · show (compStT (xs.map fun _ => none) σ js).length = (compNT xs X.N js).length
    unfold compStT compNT
    simp
end

noncomputable def compGoT (n : Nat) (tg : TG) (J : It) (js : List Nat) (ot : Option TT) (te : TE) (σ : St) (H1 : Hp) (Fin : List V → Hp → Prop) : Prop :=
  ∃ W : Nat → Nat → List V → Hp → Prop, (∃ m, W 0 m [] H1) ∧ ∀ i m ys H, W i m ys H →
    (J.stop i H ∧ Fin ys H) ∨ (J.go i H ∧ ys.length < sizeLine ∧ ∀ x H', J.yld i H x H' → ∀ vs : List (Option V), vs.length = n → tg x (compStT vs σ js) H' fun σ2 H2 => (∃ vs2 : List (Option V), vs2.length = n ∧ σ2 = compStT vs2 σ js) ∧ tests ot σ2 H2 fun b H3 =>
      if b = true then te σ2 H3 fun y H4 => ∃ m', m' < m ∧ W (i + 1) m' (ys ++ [y]) H4 else ∃ m', m' < m ∧ W (i + 1) m' ys H3)
section
variable {X : Cx} {pins : List (Addr × Obj)} {σ : St} {H₁ : Hp} {s₁ : Shared} {scope : Scope} {xs : List Str} {tgt : Expr} {tg : TG} {js : List Nat} {elt iter : Expr} {ifs : List Expr} {ot : Option TT} {te : TE} {px pos : Pos}
theorem comp_blockT {it : Addr} {fp : List Addr} {tn : Nat → Heap → Prop} {J : It} {Fin : List V → Hp → Prop} {RR : Value → Addr → Result → Shared → Prop} {E : Value → Shared → Prop} (hok : compOkT scope X.env xs X.N js = true) (hc : X.calm = true)
    (hg : ∀ C s₁ H₁ fp, PG (compCxT X scope xs js C s₁ H₁ fp) tgt tg) (he : ∀ C s₁ H₁ fp, PE (compCxT X scope xs js C s₁ H₁ fp) elt te) (ht : ∀ C s₁ H₁ fp, PTests (compCxT X scope xs js C s₁ H₁ fp) ifs ot)
    (I : Inv X pins σ H₁ s₁) (T : Turn X.prog X.w X.K tgt J fp it tn) (st : tn 0 s₁.heap) (hf : ∀ b ∈ fp, FpOk X pins H₁ b) (go : compGoT xs.length tg J js ot te σ H₁ Fin)
    (hRR : ∀ D C ys H' s' m, H' D = none → Inv X pins σ (upd H' D (.lst ys)) s' → s'.heap.Ns C m → s₁.heap.objs.size ≤ C → upd H' D (.lst ys) C = none → Fin ys H' → RR (.ref D) C (.ok .next) s') :
    wpAny (model X.prog X.w) X.A (newList []) (fun acc s₃ => wpAny (model X.prog X.w) X.A (newFunctionEnv scope X.env.globals (clOf X.env.cells scope.names []) [] X.env.qual none .none (some X.env)) (fun cenv s₄ =>
      codeAny (model X.prog X.w) X.A (.compStart (.ListComp elt [⟨tgt, iter, ifs, 0⟩] scope pos) 0 (.ref it) acc { cenv with scope := relabel scope X.env }) (RR acc cenv.locals) s₄) E s₃) E s₁ := by
  have O := compOk_ofT hok
  have hlt : ∀ b ∈ fp, b < s₁.heap.objs.size := fun b hb => by
    obtain ⟨o, e, _⟩ := T.obj _ _ st b hb
    exact Heap.lt_size e
  refine wpAny_newObj_type (wpAny_newFunctionEnv O.nocell (by intro y hy; simp at hy) (fun h₁ hns₁ hsb₁ => ?_) O.kind)
  dsimp only at hns₁ hsb₁ ⊢
  generalize hH2 : s₁.heap.push { cls := .type "list", dict := none, data := .seq ([] : List Value).toArray } = H2 at hns₁ hsb₁ ⊢
  have hC : H2.objs.size = s₁.heap.objs.size + 1 := by rw [← hH2, Heap.size_push]
  have hDC : s₁.heap.objs.size ≠ H2.objs.size := by rw [hC]; exact Nat.ne_of_lt (Nat.lt_succ_self _)
  have hCle : s₁.heap.objs.size ≤ H2.objs.size := by rw [hC]; exact Nat.le_succ _
  have below : ∀ b, b < s₁.heap.objs.size → b ≠ H2.objs.size ∧ b ≠ s₁.heap.objs.size := fun b hb => ⟨by rw [hC]; exact Nat.ne_of_lt (Nat.lt_succ_of_lt hb), Nat.ne_of_lt hb⟩
  have old : ∀ b o, s₁.heap.get? b = some o → h₁.get? b = some o := fun b o e => hsb₁.extBut b o (below b (Heap.lt_size e)).1 (Heap.get?_push_of_some _ (hH2 ▸ Heap.get?_push_of_some _ e))
  have hacc : h₁.get? s₁.heap.objs.size = some { cls := .type "list", data := .seq ([] : List Value).toArray } := hsb₁.extBut _ _ hDC (Heap.get?_push_of_some _ (hH2 ▸ Heap.get?_push_size _ rfl))
  have st₁ : tn 0 h₁ := T.keep _ _ _ st fun b _ o e => old b o e
  generalize hD : s₁.heap.objs.size = D at *
  generalize hCC : H2.objs.size = C at *
  have hDf : D ∉ fp := fun hb => absurd (hlt D hb) (by rw [← hD]; exact Nat.lt_irrefl _)
  have dcell : ∀ y c, X.env.cells.lookup y = some c → c ≠ D := fun y c e z => by
    obtain ⟨v, q⟩ := I.cell y c e
    exact absurd q.lt (by rw [z, ← hD]; exact Nat.lt_irrefl _)
  have dfs : D ∉ frs X.stack := fun hb => by
    obtain ⟨_, o, ho, _⟩ := I.stack.mem hb
    exact absurd (Heap.lt_size ho) (by rw [← hD]; exact Nat.lt_irrefl _)
  obtain ⟨W, ⟨m0, w0⟩, turn⟩ := go
  have I3 : Inv (compCxT X scope xs js C s₁ H₁ fp) [] (compStT (xs.map fun _ => none) σ js) H₁ { s₁ with heap := h₁, toks := s₁.toks + ([] : List (Str × Value)).length } :=
    comp_invT O I hc (by first | exact hCle | (rw [hD]; exact hCle)) hf (fun b hb => by first | exact hlt b hb | (rw [hD]; exact hlt b hb)) rfl I.bare old hns₁
  have stat : ∀ {H' : Hp}, (∀ b ∈ fp, H' b = none) → ∀ b ∈ fp, FpOk (compCxT X scope xs js C s₁ H₁ fp) [] H' b := fun {H'} hn b hb => by
    have f := hf b hb
    refine ⟨hn b hb, (below b (hlt b hb)).1, fun z => ?_, .inl hb, fun y c e => f.2.2.2.2.1 y c (cl_sub y c e), fun p hp => absurd (show p ∈ ([] : List (Addr × Obj)) from hp) (by simp)⟩
    have z' : b ∈ frs X.stack := z
    rcases List.mem_cons.mp (I.stkSub b z') with q | q
    · exact f.2.1 q
    · exact f.2.2.1 q
  have loop : ∀ s₃ : Shared, s₃ = { s₁ with heap := h₁, toks := s₁.toks + ([] : List (Str × Value)).length } →
      codeAny (model X.prog X.w) X.A (.compLoop (.ListComp elt [⟨tgt, iter, ifs, 0⟩] scope pos) 0 (.ref it) (.ref D) (compEnvC scope (clOf X.env.cells scope.names []) C X.env)) (RR (.ref D) C) s₃ := by
    rintro s₃ rfl
    refine compLoop_any (fun n s' => ∃ i ys its nn H' v0, v0.length = xs.length ∧ Inv (compCxT X scope xs js C s₁ H₁ fp) [] (compStT v0 σ js) H' s' ∧ tn i s'.heap ∧ (∀ b ∈ fp, H' b = none) ∧ H' D = none ∧ s'.heap.get? D = some { cls := .type "list", data := .seq (its : List Value).toArray nn } ∧ Vals ys its ∧ ys.length ≤ sizeLine ∧ W i n ys H') ?_ m0
      ⟨0, [], [], 0, H₁, xs.map fun _ => none, by rw [List.length_map], I3, st₁, fun b hb => (hf b hb).1, I.hok.fresh (by rw [hD]; exact Nat.le_refl _), hacc, .nil, Nat.zero_le _, w0⟩
    rintro n s4 ⟨i, ys, its, nn, H4, v0, hv0, I4, st4, fr4, fD4, oD4, rv4, z4, w4⟩
    have I4' : Inv (compCxT X scope xs js C s₁ H₁ fp) [(D, { cls := .type "list", data := .seq its.toArray nn })] (compStT v0 σ js) H4 s4 := I4.pins_of fun p hp => by
      have e : p = (D, { cls := .type "list", data := .seq its.toArray nn }) := by simpa using hp
      subst e
      exact ⟨oD4, fD4, hDC, dfs, fun v z => by cases z⟩
    have statD : ∀ {H' : Hp}, (∀ b ∈ fp, H' b = none) → ∀ b ∈ fp, FpOk (compCxT X scope xs js C s₁ H₁ fp) [(D, { cls := .type "list", data := .seq its.toArray nn })] H' b := fun {H'} hn b hb => by
      obtain ⟨f0, f1, f2, f3, f4, _⟩ := stat hn b hb
      refine ⟨f0, f1, f2, f3, f4, fun p hp => ?_⟩
      have hp' : p ∈ [(D, ({ cls := .type "list", data := .seq its.toArray nn } : Obj))] := hp
      have e : p = (D, { cls := .type "list", data := .seq its.toArray nn }) := by simpa using hp'
      subst e
      exact fun z => hDf (by rw [show D = b from z]; exact hb)
    rcases turn i n ys H4 w4 with ⟨stop, fin⟩ | ⟨go, hlen, step⟩
    · refine thn (T.done (compCxT X scope xs js C s₁ H₁ fp) rfl rfl rfl hc i _ s4 _ H4 _ I4' (statD fr4) st4 stop) fun r s5 ⟨hr, I5⟩ => ?_
      subst hr
      show RR (.ref D) C (.ok .next) s5
      have oD5 : s5.heap.get? D = some { cls := .type "list", data := .seq its.toArray nn } := (I5.pin (D, _) (List.mem_append_right _ List.mem_cons_self)).1
      obtain ⟨m5, hn5, _⟩ := I5.loc
      have nD : ∀ b o, s₁.heap.get? b = some o → b ≠ D := fun b o e => by rw [← hD]; exact Nat.ne_of_lt (Heap.lt_size e)
      have U : Un (frs X.stack) fp H₁ H4 s₁.heap s5.heap := I5.base
      have IX : Inv X pins σ (upd H4 D (.lst ys)) s5 := I.call' (s' := s5) (ch := fp) I5.os
        ⟨U.keep, U.slot, fun b o e n hb => by rw [upd_ne (nD b o e)]; exact U.free b o e n hb, U.there, fun b xs e => by
          have z := U.tups b xs e
          rw [upd_ne (ne_of_none z fD4)]; exact z, fun b o u e => by
          have z := U.frzs b o u e
          rw [upd_ne (ne_of_none z fD4)]; exact z, fun b ps e => by
          obtain ⟨mr, z⟩ := U.tbls b ps e
          exact ⟨mr, by rw [upd_ne (ne_of_none z fD4)]; exact z⟩⟩ (fun b u e => by
            by_cases hb : b = D
            · subst hb
              rw [upd_same] at e; cases e
              exact ⟨z4, its, nn, rv4, oD5⟩
            · rw [upd_ne hb] at e
              exact (I5.hok b u e).stay (fun c v _ z => z) (fun c z => by rw [upd_ne (ne_of_none z fD4)]; exact z) fun c xs z => by rw [upd_ne (ne_of_none z fD4)]; exact z) I5.bare
        (fun b hb => ⟨(hf b hb).2.2.2.1, (hf b hb).2.1, (hf b hb).2.2.2.2.1, (hf b hb).2.2.2.2.2⟩)
      exact hRR D C ys H4 s5 m5 fD4 IX hn5 (by first | exact hCle | (rw [hD]; exact hCle)) (by rw [upd_ne (Ne.symm hDC)]; exact I5.free) fin
    · refine thn (T.item (compCxT X scope xs js C s₁ H₁ fp) rfl rfl rfl hc i _ s4 _ H4 _ I4' (statD fr4) st4 go) fun r s5 ⟨u, hr, h5⟩ => ?_
      subst hr
      refine thn h5 fun _ s6 ⟨xv, H6, I6, r6, y6, st6, fr6⟩ => ?_
      have I6' := I6.pinned (statD fr6) (T.obj _ _ st6)
      refine thn (hg C s₁ H₁ fp _ s6 _ H6 xv _ _ I6' r6 (step xv H6 y6 v0 hv0)) fun _ s7 ⟨σ7, H7, I7, ⟨vs2, hvs2, eσ⟩, q7⟩ => ?_
      subst eσ
      have I7' : Inv (compCxT X scope xs js C s₁ H₁ fp) ([(D, { cls := .type "list", data := .seq its.toArray nn })] ++ pinsAt fp s6.heap) (compStT vs2 σ js) H7 s7 := I7
      refine thn (tests_ok (ht C s₁ H₁ fp) rfl I7' q7) fun ok s8 ⟨H8, I8, q8⟩ => ?_
      have keepT : ∀ {s' : Shared} {H' : Hp}, Inv (compCxT X scope xs js C s₁ H₁ fp) ([(D, { cls := .type "list", data := .seq its.toArray nn })] ++ pinsAt fp s6.heap) (compStT vs2 σ js) H' s' →
          s'.heap.get? D = some { cls := .type "list", data := .seq its.toArray nn } ∧ H' D = none ∧ (∀ b ∈ fp, ∀ o, s6.heap.get? b = some o → s'.heap.get? b = some o) ∧ ∀ b ∈ fp, H' b = none := fun {s' H'} J => by
        have pD := J.pin (D, { cls := .type "list", data := .seq its.toArray nn }) (List.mem_append_right _ (List.mem_append_left _ List.mem_cons_self))
        refine ⟨pD.1, pD.2.1, fun b hb o e => (J.pin (b, o) (List.mem_append_right _ (List.mem_append_right _ (mem_pinsAt hb e)))).1, fun b hb => ?_⟩
        obtain ⟨o, e, _⟩ := T.obj _ _ st6 b hb
        exact (J.pin (b, o) (List.mem_append_right _ (List.mem_append_right _ (mem_pinsAt hb e)))).2.1
      cases ok with
      | false =>
        rw [if_neg Bool.false_ne_true] at q8 ⊢
        obtain ⟨m', hm, w8⟩ := q8
        obtain ⟨k1, k2, k3, k4⟩ := keepT I8
        exact ⟨m', hm, i + 1, ys, its, nn, H8, vs2, hvs2, I8.pins_of (fun p hp => absurd hp (by simp)), T.keep _ _ _ st6 k3, k4, k2, k1, rv4, z4, w8⟩
      | true =>
        rw [if_pos rfl] at q8 ⊢
        refine thn (he C s₁ H₁ fp _ s8 _ H8 _ I8 q8) fun u9 s9 ⟨y, H9, I9, r9, m', hm, w9⟩ => ?_
        obtain ⟨k1, k2, k3, k4⟩ := keepT I9
        have hsz : its.toArray.size < sizeLine := by rw [List.size_toArray, ← rv4.length]; exact hlen
        refine call_meets F.slot_list_append ⟨_, k1, rfl⟩ F.entry_list_append (F.args_list_append_2 _ _) (PySem.list_append D its.toArray nn u9 (by lia)) ⟨k1, ?_⟩
        have I9' : Inv (compCxT X scope xs js C s₁ H₁ fp) [] (compStT vs2 σ js) H9 s9 := I9.pins_of (fun p hp => absurd hp (by simp))
        have q := PySem.IsL.update k1 (fun a => a.push u9)
        simp only [List.push_toArray] at q
        exact ⟨m', hm, i + 1, ys ++ [y], its ++ [u9], _, H9, vs2, hvs2, I9'.turned (it := D) (fun b o hb e => (Heap.get?_update_other s9.heap _ (Ne.symm hb)).trans e) k2 hDC (.inr (by first | exact Nat.le_refl _ | (show s₁.heap.objs.size ≤ D; rw [hD]; exact Nat.le_refl _))) (fun yy c e => dcell yy c (cl_sub yy c e)) (fun p hp => absurd (show p ∈ ([] : List (Addr × Obj)) from hp) (by simp)),
          T.keep _ _ _ st6 (fun b hb o e => (Heap.get?_update_other s9.heap _ (fun z => hDf (by rw [z]; exact hb))).trans (k3 b hb o e)), k4, k2, q, rv4.append (.cons r9 .nil), (by rw [List.length_append, List.length_singleton]; exact hlen), w9⟩
  exact codeAny_compStart_list (loop _ rfl) (T.self _ 0 _ _ _ st₁ (loop _ rfl))
noncomputable def tCompT (n : Nat) (tg : TG) (wi : TI) (js : List Nat) (ot : Option TT) (te : TE) : TE := fun σ H Q => wi σ H fun J H1 => compGoT n tg J js ot te σ H1 fun ys H' => ∀ p, H' p = none → Q (.ref p) (upd H' p (.lst ys))
theorem pe_compT {wi : TI} (xs : List Str) (js : List Nat) (hc : X.calm = true) (hi : PI X tgt iter wi) (hg : ∀ C s₁ H₁ fp, PG (compCxT X scope xs js C s₁ H₁ fp) tgt tg) (he : ∀ C s₁ H₁ fp, PE (compCxT X scope xs js C s₁ H₁ fp) elt te) (ht : ∀ C s₁ H₁ fp, PTests (compCxT X scope xs js C s₁ H₁ fp) ifs ot)
    (hok : compOkT scope X.env xs X.N js = true) (hs : ∀ x, foldedSetIterable iter X.env x = pure x := by intro _; rfl) :
    PE X (.ListComp elt [⟨tgt, iter, ifs, 0⟩] scope pos) (tCompT xs.length tg wi js ot te) := by
  intro pins s σ H Q I h
  have O := compOk_ofT hok
  rw [eval_ListComp]
  refine wpAny_comprehension_free (use := none) rfl hs (closure_of (comp_cellsT O I)) O.kind O.loc (thn (hi pins s σ H _ I h) fun v s1 h1 => thn h1 fun itv s2 h2 => ?_)
  obtain ⟨it, fp, tn, J, H2, e, I2, T, st2, f2, go⟩ := h2
  subst e
  refine comp_blockT (RR := fun acc C => compPost (model X.prog X.w) X.A X.xe none (EP X pins σ Q) acc C) hok hc hg he ht I2 T st2 f2 go ?_
  intro D C ys H' s' m hD I' hn hC hCn fin
  have f := I2.fpOk hC hCn
  exact ⟨m, hn, fun h'' hs'' => ⟨.ref D, _, I'.turned (it := C) (t' := s'.toks) (fun b o hb e => hs''.extBut b o hb e) hCn f.2.1 f.2.2.2.1 f.2.2.2.2.1 f.2.2.2.2.2, rfl, fin D hD⟩⟩
noncomputable def tSetCompT (n : Nat) (tg : TG) (wi : TI) (js : List Nat) (ot : Option TT) (te : TE) (i : Nat) : TS := fun D σ H => wi σ H fun J H1 => compGoT n tg J js ot te σ H1 fun ys H' => ∀ p, H' p = none → D.nx (σ.set i (some (.ref p))) (upd H' p (.lst ys))
theorem ps_setcompT {wi : TI} {y : Str} {py spos : Pos} (xs : List Str) (i : Nat) (js : List Nat) (hc : X.calm = true) (hN : X.N.Nodup) (hy : X.N[i]? = some y) (hl : X.env.scope.names.lookup y = some .local) (hi : PI X tgt iter wi) (hg : ∀ C s₁ H₁ fp, PG (compCxT X scope xs js C s₁ H₁ fp) tgt tg) (he : ∀ C s₁ H₁ fp, PE (compCxT X scope xs js C s₁ H₁ fp) elt te) (ht : ∀ C s₁ H₁ fp, PTests (compCxT X scope xs js C s₁ H₁ fp) ifs ot)
    (hok : compOkT scope X.env xs X.N js = true)
    (hsw : swapsWith (.ListComp elt [⟨tgt, iter, ifs, 0⟩] scope pos) (some (.Name y py)) spos.line X.env = pure true := by rfl) (hs : ∀ x, foldedSetIterable iter X.env x = pure x := by intro _; rfl) :
    PS X (.Assign [.Name y py] (.ListComp elt [⟨tgt, iter, ifs, 0⟩] scope pos) spos) (tSetCompT xs.length tg wi js ot te i) := by
  intro pins s σ H D I h
  have O := compOk_ofT hok
  rw [exec_Assign_Name_used _ _ _ _ hsw]
  refine wpAny_bind (wpAny_standAt (wpAny_bind ?_))
  show wpAny _ X.A (do let _ ← comprehension (.ListComp elt [⟨tgt, iter, ifs, 0⟩] scope pos) scope X.env _ (newList []) false (eval iter X.env) (some (assign (.Name y py) X.env))) _ _ s
  refine wpAny_bind (wpAny_mono (wpAny_comprehension_free (use := some (assign (.Name y py) X.env)) (Q := fun _ s' => SP X pins D .next s') rfl hs (closure_of (comp_cellsT O I)) O.kind O.loc
    (thn (hi pins s σ H _ I h) fun v s1 h1 => thn h1 fun itv s2 h2 => ?_)) (fun _ s' hq => wpAny_pure (wpAny_pure hq)) fun _ _ e => e)
  obtain ⟨it, fp, tn, J, H2, e, I2, T, st2, f2, go⟩ := h2
  subst e
  refine comp_blockT (RR := fun acc C => compPost (model X.prog X.w) X.A X.xe (some (assign (.Name y py) X.env)) (fun _ s' => SP X pins D .next s') acc C) hok hc hg he ht I2 T st2 f2 go ?_
  intro D' C ys H' s' m hD I' hn hC hCn fin
  have f := I2.fpOk hC hCn
  show wpAny _ X.A (assign (.Name y py) X.env (.ref D')) _ _ _
  refine wpAny_assign_Name (store_ok2 (v := .ref D') I' hN hy (Or.inl hl) rfl (fun s'' I'' hch => ?_) (.inr hl))
  obtain ⟨a, sb, ha⟩ := hch
  have haC : C ≠ a := by
    rcases ha with z | z
    · rw [z]; exact f.2.1
    · exact Ne.symm (f.2.2.2.2.1 _ _ z)
  refine ⟨m, hn.at' (fun o e => sb.extBut _ o haC e), fun h'' hs'' => ⟨_, _, I''.turned (it := C) (t' := s''.toks) (fun b o hb e => hs''.extBut b o hb e) hCn f.2.1 f.2.2.2.1 f.2.2.2.2.1 f.2.2.2.2.2, fin D' hD⟩⟩
end
end L2

namespace L2
open PySem PySem.Spec PyProof.Rows PySem.Calls
section
variable {prog : Program} {w : World} {A : Around} {E : Value → Shared → Prop} {s : Shared}
end
section
variable {prog : Program} {w : World} {A : Around} {E : Value → Shared → Prop} {s : Shared}
end
section
variable {prog : Program} {w : World} {A : Around} {E : Value → Shared → Prop} {s : Shared}
end
section
variable {prog : Program} {w : World} {A : Around} {E : Value → Shared → Prop} {s : Shared}
end
section
variable {prog : Program} {w : World} {A : Around} {E : Value → Shared → Prop} {s : Shared}
end
end L2

namespace L2
open PySem PySem.Spec PyProof.Rows NM
structure Kd5 (K : PySem.W.Frag) (C CK CB CR CT CW : Addr) (b0 b1 b2 b3 b4 : Bool) : Prop where
  e : ExTy K C
  k0 : PySem.W.kitOne K (.ref C) (.ref CK) = some b0
  k1 : PySem.W.kitOne K (.ref C) (.ref CB) = some b1
  k2 : PySem.W.kitOne K (.ref C) (.ref CR) = some b2
  k3 : PySem.W.kitOne K (.ref C) (.ref CT) = some b3
  k4 : PySem.W.kitOne K (.ref C) (.ref CW) = some b4
  kv : PySem.W.kitOne K (.ref C) (.type "ValueError") = some true
theorem two_of {α : Type} {vs : List α} (h : vs.length = 2) : ∃ a b, vs = [a, b] := by
  match vs, h with
  | [a, b], _ => exact ⟨a, b, rfl⟩
end L2

namespace L2
open PySem PySem.Spec PyProof.Rows
section
variable {M : Model} {A : Around} {E : Value → Shared → Prop}
variable {nm q : Str} {C N : Addr} {bs bm : List Value} {hdct : Bool} {sn : List Str} {sub : List Value} {ab : Bool} {col : Option Bool} {dd : Option Addr} {k0 k1 k2 k3 k5 : Option Value} {newId : String} {env : Env}
theorem raiseNew_in {α : Type} {prog : Program} {w : World} {s : Shared} {e a : Addr} {oa oe : Obj} {vs ve : Array Value} {Q : α → Shared → Prop} (hh : A.handled = some (.ref a)) (hne : a ≠ e) (ha : s.heap.get? a = some oa) (hda : oa.data = .fields vs) (h2 : vs[2]? = some .none)
    (he : s.heap.get? e = some oe) (hde : oe.data = .fields ve) (hz : 2 < ve.size) (h : E (.ref e) { s with heap := s.heap.update e (Obj.mapFields (·.setIfInBounds 2 (.ref a))) }) : wpAny (model prog w) A (raiseNew (.ref e) : Sem α) Q E s := by
  unfold raiseNew
  refine wpAny_bind (wpAny_handled ?_)
  rw [hh]
  dsimp only
  rw [if_pos (show (Value.ref a != Value.ref e) = true by simpa using hne)]
  refine wpAny_bind (wpAny_holding (wpAny_runValue (codeAny_builtin (b := Builtin.«proto.unchain») (entryFor_of_tree (by kernel_rfl)) ?_)))
  unfold Builtin.«proto.unchain»
  refine wpAny_bind (wpAny_field ha hda h2 ?_)
  rw [if_pos (show (Value.none == Value.none) = true from rfl)]
  refine wpAny_bind (wpAny_pure (wpAny_pure ?_))
  show wpAny _ _ (setField (.ref e) 2 (.ref a) >>= _) _ _ s
  exact wpAny_bind (wpAny_setField he hde hz (wpAny_throw h))
structure MadeIn (h h' : Heap) (e C : Addr) : Prop where
  keeps : ∀ b o, h.get? b = some o → h'.get? b = some o
  new : h.get? e = none
  obj : ∃ oe vs a0, h'.get? e = some oe ∧ oe.cls = .ref C ∧ oe.data = .fields vs ∧ vs[0]? = some a0 ∧ vs[1]? = some .none
theorem raiseStmt_from {prog : Program} {w : World} {s : Shared} {x : Sem Value} {a : Addr} {j : Nat} {kp pos : Pos} {Q : Flow → Shared → Prop} (hbase : bm.contains (.type "BaseException") = true) (hh : A.handled = some (.ref a))
    (h : wpAny (model prog w) A x (fun v s₁ => ∃ e h0 args, v = .ref e ∧ Heap.MadeExcOf h0 s₁.heap e (.ref C) args ∧ h0.get? C = some (excClassObj nm q C N bs bm hdct sn sub ab col dd k0 k1 k2 k3 k5 newId) ∧
      (∃ oa vs, h0.get? a = some oa ∧ oa.data = .fields vs ∧ vs[2]? = some .none) ∧ ∀ h', MadeIn h0 h' e C → E (.ref e) { s₁ with heap := h' }) E s) :
    wpAny (model prog w) A (raiseStmt env (some x) (some (do let v ← eval (.Constant .none j kp) env; standAt pos; pure v))) Q E s := by
  have hcB : (Value.ref C :: bm).contains (.type "BaseException") = true := by rw [List.contains_cons, hbase, Bool.or_true]
  unfold raiseStmt
  refine wpAny_bind (wpAny_mono h (fun v s₁ h₁ => ?_) fun _ _ x => x)
  obtain ⟨e, h0, args, rfl, hm, hC0, ⟨oa, vs, ha0, hda, h2⟩, hE⟩ := h₁
  obtain ⟨hp, g, d, tk, os⟩ := s₁
  obtain ⟨t, he, _, _⟩ := hm.there
  have hC := hm.keeps _ _ hC0
  have ha := hm.keeps _ _ ha0
  have nC : C ≠ e := fun z => by rw [z, hm.new] at hC0; cases hC0
  have na : a ≠ e := fun z => by rw [z, hm.new] at ha0; cases ha0
  refine wpAny_bind (wpAny_holding (wpAny_bind (Constant_none (wpAny_bind (wpAny_standAt (wpAny_pure (wpAny_bind (wpAny_pure ?_))))))))
  dsimp only
  refine wpAny_bind (wpAny_holding ?_)
  unfold excFromValue
  repeat (first | with_reducible refine wpAny_loadPart_at he ?_ | with_reducible refine wpAny_loadPart_at hC ?_ | (with_reducible refine wpAny_isSubtype_exc hC ?_; rw [hcB]) | wp_step)
  have he3 := Heap.get?_update_self (Obj.mapFields fun x => x.setIfInBounds 3 Value.none) he rfl
  have he4 := Heap.get?_update_self (Obj.mapFields fun x => x.setIfInBounds 4 (Value.bool true)) he3 rfl
  have ot : ∀ b, b ≠ e → ((hp.update e (Obj.mapFields fun x => x.setIfInBounds 3 Value.none)).update e (Obj.mapFields fun x => x.setIfInBounds 4 (Value.bool true))).get? b = hp.get? b := fun b hb => by
    rw [Heap.get?_update_other _ _ (Ne.symm hb), Heap.get?_update_other _ _ (Ne.symm hb)]
  refine raiseNew_in hh na ((ot a na).trans ha) hda h2 he4 rfl (show 2 < 6 by decide) (hE _ ⟨fun b o hb => ?_, hm.new, _, _, .ref t, Heap.get?_update_self _ he4 rfl, rfl, rfl, rfl, rfl⟩)
  have nb : b ≠ e := fun z => by rw [z, hm.new] at hb; cases hb
  rw [Heap.get?_update_other _ _ (Ne.symm nb), ot b nb]
  exact hm.keeps b o hb
variable {B initId : String} {bmB : List Value}
theorem raise_call_from {prog : Program} {w : World} {s : Shared} (F : ExcBaseFacts B newId initId bmB) {mN : Str → Option Value} {x : Str} {np cpos pos kp : Pos} {j : Nat} {a : Addr} {args : List Expr} {Q : Flow → Shared → Prop}
    (hbase : bm.contains (.type "BaseException") = true) (hh : A.handled = some (.ref a)) (hplain : (backTo cpos (starEach args env)).any (·.1) = false) (hni : mN "__init__" = none)
    (h : wpAny (model prog w) A (eval (.Name x np) env) (fun f s₁ => f = .ref C ∧ wpAny (model prog w) A (evalArgs (.ref C) true (backTo cpos (starEach args env)) [])
      (fun ar s₂ => ar.kw = [] ∧ ar.pos.length ≤ sizeLine ∧ s₂.heap.get? C = some (excClassObj nm q C N bs bm hdct sn sub ab col dd k0 k1 k2 k3 k5 newId) ∧ s₂.heap.Ns N mN ∧ OwnTail s₂.heap bmB bm ∧
        (∃ oa vs, s₂.heap.get? a = some oa ∧ oa.data = .fields vs ∧ vs[2]? = some .none) ∧ ∀ h' e, MadeIn s₂.heap h' e C → E (.ref e) { s₂ with heap := h' }) E s₁) E s) :
    wpAny (model prog w) A (exec (.Raise (some (.Call (.Name x np) args [] cpos)) (some (.Constant .none j kp)) pos) env) Q E s := by
  rw [arm_exec_Raise]
  refine wpAny_bind (wpAny_standAt (raiseStmt_from (C := C) (nm := nm) (q := q) (N := N) (bs := bs) (bm := bm) (hdct := hdct) (sn := sn) (sub := sub) (ab := ab) (col := col) (dd := dd) (k0 := k0) (k1 := k1) (k2 := k2) (k3 := k3) (k5 := k5) (newId := newId) hbase hh (wpAny_bind (wpAny_mono (wpAny_Call_ofName (wpAny_mono h (fun f s₁ h₁ => ?_) fun _ _ x => x)) (fun v s₃ h₃ => wpAny_bind (wpAny_standAt (wpAny_pure h₃))) fun _ _ x => x))))
  obtain ⟨rfl, h₁⟩ := h₁
  unfold callWith
  refine wpAny_bind (wpAny_holding (wpAny_mono h₁ (fun ar s₂ h₂ => wpAny_bind (wpAny_standAt ?_)) fun _ _ x => x))
  obtain ⟨apos, akw⟩ := ar
  obtain ⟨hkw, hlen, hC, hn, T, ho, h₂⟩ := h₂
  obtain rfl : akw = [] := hkw
  obtain ⟨hp, g, d, tk, os⟩ := s₂
  simp only [hplain]
  refine wpAny_bind (wpAny_keeperOf_exc hC ?_)
  refine wpAny_bind (wpAny_call_exc_subT (hrest := hlen) F T hC hn hni fun h' e hm => wpAny_bind (wpAny_holding (wpAny_point (wpAny_pure ?_))))
  exact ⟨e, hp, _, rfl, hm, hC, ho, fun h'' hI => h₂ h'' e hI⟩
end
section
variable {X : Cx} {pins : List (Addr × Obj)} {σ : St} {H : Hp} {s : Shared}
theorem came_back {M : Model} {A : Around} {E : Value → Shared → Prop} {s : Shared} {base : Heap} {l : List Env} {e L : Addr} {cls a0 : Value} {env : Env} {Q : Unit → Shared → Prop} (hf : env.frame = some L) (hh : Heap.HeldW base l e cls a0 L s.heap)
    (hQ : ∀ h', Heap.HeldW base l e cls a0 L h' → s.heap.UpToSlots h' → Q () { s with heap := h' }) : wpAny M A (do
      if (← field (.ref e) 1) == .none then unsupported "frame.own-activation:exception-without-traceback"
      setFlight (.ref e) env.frame) Q E s := by
  obtain ⟨f1, f2, f3, oe, vs, T, oT, ts, he, hcls, hd, h1, hnT, hTe, hT, hdT, h3⟩ := hh
  have z3 : 3 < ts.size := (Array.getElem?_eq_some_iff.mp h3).1
  refine wpAny_bind (wpAny_field he hd h1 ?_)
  rw [if_neg (show ¬ ((Value.ref T == Value.none) = true) from by simp), hf]
  unfold setFlight
  refine wpAny_bind (wpAny_field he hd h1 ?_)
  rw [if_pos (show (Value.ref T != Value.none) = true from by simp)]
  have ot : ∀ (f : Obj → Obj) b, b ≠ T → (s.heap.update T f).get? b = s.heap.get? b := fun f b hb => Heap.get?_update_other _ _ (Ne.symm hb)
  have nr : ∀ b o, s.heap.get? b = some o → (∀ vs, o.data ≠ .fields vs) → b ≠ T := fun b o hb hn z => by
    rw [z, hT] at hb; obtain rfl := Option.some.inj hb; exact hn ts hdT
  refine wpAny_setField hT hdT z3 (hQ _ ⟨fun b o hb => (ot _ b fun z => by rw [z, hnT] at hb; cases hb).trans (f1 b o hb), f2, f3.of_keeps fun b o hb hn => ⟨o, (ot _ b (nr b o hb hn)).trans hb, rfl⟩, oe, vs, T, _, _, (ot _ e (Ne.symm hTe)).trans he, hcls, hd, h1, hnT, hTe, Heap.get?_update_self _ hT (Obj.isFreed_of_fields (Obj.data_mapFields hdT _)), Obj.data_mapFields hdT _, by simp [z3]⟩ fun b o hb hn => ⟨o.slots, (ot _ b (nr b o hb hn)).trans hb⟩)
theorem throwN_ok {e C : Addr} {h1 : Heap} {tk : Nat} {A' : Around} {Q : Unit → Shared → Prop} {E' E'' : Value → Shared → Prop} (O : Own X) (I : Inv X pins σ H s) (hA : A'.frames = X.A.frames) (hx : MadeIn s.heap h1 e C)
    {XE : Value → Shared → Prop} (hX : ∀ s3, wpAny (model X.prog X.w) X.A (leaving X.env (.ref e)) Q E' s3 → XE (.ref e) s3) (hQ : ∀ s', Fly X.prog X.w X.outer X.H₀ X.s₀ C H e s' → Q () s') :
    wpAny (model X.prog X.w) A' (noteFrame (.ref e) X.env) (fun _ s2 => cameBackBy (model X.prog X.w) X.A X.env XE (.ref e) s2) E'' { s with heap := h1, toks := tk } := by
  have hin : ∀ env ∈ X.stack, ∀ b, env.frame = some b → b ∈ frs X.stack := fun env he b hb => List.mem_filterMap.mpr ⟨env, he, hb⟩
  have hst := PySem.W.funFrames_hide I.stack hin
  have hfr : A'.frames = some (X.env :: X.outer) := by rw [hA, I.ok.frames, O.stk]
  have hkb : (PySem.W.hideAll s.heap (frs X.stack)).StaysIn s.heap := fun b o q => PySem.W.of_hideAll _ q
  have hen : (PySem.W.hideAll s.heap (frs X.stack)).get? e = none := by
    cases q : (PySem.W.hideAll s.heap (frs X.stack)).get? e with
    | none => rfl
    | some o => have := hkb e o q; rw [hx.new] at this; cases this
  obtain ⟨oe, vs, a0, he, hc, hd, v0, v1⟩ := hx.obj
  rw [O.stk] at hst
  unfold noteFrame
  simp only [O.fr]
  refine wpAny_bind (wpAny_field he hd v1 ?_)
  rw [if_neg (by decide)]
  refine wpAny_entryW (base := PySem.W.hideAll s.heap (frs X.stack)) hfr (by rw [O.stk]; exact hst.of_keeps fun b o hb _ => ⟨o, hx.keeps b o hb, rfl⟩) O.fr he (fun b o hb => hx.keeps b o (hkb b o hb)) hen hd (Array.getElem?_eq_some_iff.mp v1).1 v0 fun h2 hN => ?_
  obtain ⟨n1, n2, n3, n4⟩ := hN
  rw [hc] at n3
  refine came_back (base := PySem.W.hideAll s.heap (frs X.stack)) (l := X.env :: X.outer) O.fr ⟨n1, hen, n2, n3⟩ fun h2' hd2 us2 => hX _ ?_
  unfold leaving
  refine wpAny_bind (wpAny_noteFrame_againW O.fr hd2.2.2.2 ?_)
  refine wpAny_landsW hd2 fun h3 fl us => ?_
  obtain ⟨m1, m2, ⟨_, _, m3⟩, m4⟩ := fl
  have x4 : h1.UpToSlots h3 := fun b o hb hn => by
    obtain ⟨sl, z⟩ := n4 b o hb hn
    obtain ⟨sl1, z1⟩ := us2 b _ z hn
    obtain ⟨sl', z2⟩ := us b _ z1 hn
    exact ⟨sl', z2⟩
  refine hQ _ ⟨I.os, I.bare, ⟨_, _, ⟨m1, m2, m3, m4⟩, fun b o ha => ?_, fun b o q n hb => ?_, fun b o q hb => ?_⟩, fun b o q n hb => ?_, fun b o q n => I.base.free b o q n (O.noex b), I.base.tups, I.base.frzs, I.base.tbls⟩
  · refine (I.hok b o ha).stay (fun c u hb q => PySem.W.hideAll_get _ q fun z => ?_) (fun _ q => q) fun _ _ q => q
    have f := I.stkFree c z
    rcases hb with rfl | hb
    · rw [ha] at f; exact L2.sn_ f
    · rw [hb] at f; exact L2.sn_ f
  · exact PySem.W.hideAll_get _ (I.base.keep b o q n hb (O.noex b)) (O.notStk I q hb)
  · obtain ⟨o', e'⟩ := I.base.there b o q (O.noex b)
    exact ⟨o', PySem.W.hideAll_get _ e' (O.notStk I q hb)⟩
  · obtain ⟨sl, e1⟩ := I.base.slot b o q n hb (O.noex b)
    refine L2.ob_aea (I.ok.funs.mem hb) fun _ o2 ho2 hd => ?_
    rw [q] at ho2; obtain rfl := Option.some.inj ho2
    obtain ⟨sl', e2⟩ := x4 b _ (hx.keeps b _ e1) hd
    exact ⟨sl', e2⟩
end
noncomputable def ThrowsN (X : Cx) (E : XK) : Prop := ∀ (A' : Around) (pins : List (Addr × Obj)) (σ : St) (H : Hp) (s : Shared) (e C : Addr) (h1 : Heap) (E'' : Value → Shared → Prop), A'.frames = X.A.frames → Inv X pins σ H s → MadeIn s.heap h1 e C → E (.ref C) (some 0) H →
  wpAny (model X.prog X.w) A' (noteFrame (.ref e) X.env) (fun _ s2 => cameBackBy (model X.prog X.w) X.A X.env X.xe (.ref e) s2) E'' { s with heap := h1 }
theorem throwsN1 {P : Program} {w : World} {K : PySem.W.Frag} {mg : Str → Option Value} {base : Heap} {N : List Str} {qual : Str} {scope : Scope} {f : Addr} {cd : Value} {A : Around} {outer : List Env} {s : Shared} {H : Hp} {E : XK} : ThrowsN (cx1 P w K mg base N qual scope f cd A outer s H E) E := by
  intro A' pins σ H2 s2 e C h1 E'' hA I hx hE
  exact throwN_ok (X := cx1 P w K mg base N qual scope f cd A outer s H E) (tk := s2.toks) own1 I hA hx (fun s3 h => h) fun s'' F' => ⟨e, C, H2, some 0, rfl, F', (fun h => nomatch h), hE⟩
noncomputable def excN (a C : Addr) : HO := .ext fun h => ∃ o vs, h.get? a = some o ∧ o.cls = .ref C ∧ o.data = .fields vs ∧ vs[2]? = some .none
theorem flying_excN {B h : Heap} {l : List Env} {e C : Addr} {a0 : Value} (x : Heap.FlyingW B l e (.ref C) a0 h) (c : Ctx0 h e) {P : Program} {w : World} (G : Hp) : ObjOk P w G h e (excN e C) := by
  obtain ⟨oe, vs, h1, h2, h3, _⟩ := x.first
  obtain ⟨o, h4, h5⟩ := c
  rw [h1] at h4; obtain rfl := Option.some.inj h4
  unfold fld2 at h5
  rw [h3] at h5
  exact ⟨⟨oe, vs, h1, h2, h3, h5⟩, ⟨oe, h1⟩, fun h1 h2 ⟨o1, vs1, e1, c1, d1, f1⟩ k => ⟨o1, vs1, k o1 e1, c1, d1, f1⟩⟩
theorem with_ctx {M : Model} {A : Around} {s : Shared} {e : Addr} {t : Sem Unit} {Q : Unit → Shared → Prop} {E : Value → Shared → Prop} (hk : Kp2 t) (c : Ctx0 s.heap e) (h : wpAny M A t (fun _ s' => Ctx0 s'.heap e → Q () s') E s) : wpAny M A t Q E s :=
  wpAny_mono (kp2_any hk c h) (fun _ _ q => q.1 q.2) fun _ _ q => q.1
inductive catchN_b (a C C2 : Addr) (E : XK) (vs : List V) (H1 : Hp) : Prop
  | mk : (H1 a = some (excN a C)) → (vs.length ≤ sizeLine) → (E (.ref C2) (some 0) H1) → catchN_b a C C2 E vs H1
noncomputable def catchN (K : PySem.W.Frag) (c : Value) (n : Nat) (C2 : Addr) (t : TA) (E : XK) : XK := fun cls y H' => y = none ∧ ∃ C, cls = .ref C ∧ PySem.W.exmOne K (.ref C) c = some true ∧ ∀ a, H' a = none → t (List.replicate n none) (upd H' a (excN a C)) (catchN_b a C C2 E)
noncomputable def tTryN (K : PySem.W.Frag) (c : Value) (n : Nat) (C2 : Addr) (E : XK) (tb : XK → TS) (t : TA) : TS := fun D σ H => tb (catchN K c n C2 t E) D σ H
section
variable {X : Cx}
theorem ps_tryN {E : XK} {x x2 : Str} {c : Value} {C2 : Addr} {body : List Stmt} {np np2 hpos pos cpos rpos kp : Pos} {j : Nat} {e : Expr} {es : List Expr} {tb : XK → TS} {t : TA} (O : Own X) (hc : X.calm = true) (hT : ThrowsN X E)
    (hb : ∀ (xe' : Value → Shared → Prop) (pn' : List (Addr × Obj)) (E : XK), Passes (CX1 X.prog X.w) { X with xe := xe', pn := pn' } E → PSs { X with xe := xe', pn := pn' } body (tb E))
    (ha : ∀ (A' : Around) (xe' : Value → Shared → Prop), PA { X with A := A', calm := false, xe := xe' } (e :: es) t)
    (hg : Gl X x) (hm : X.mg x = some c) (hg2 : Gl X x2) (hC : ExC X.K X.mg x2 C2) (hd : (x == ("__debug__" : Str)) = false := by decide) (hd2 : (x2 == ("__debug__" : Str)) = false := by decide)
    (he : starEach (e :: es) X.env = (false, eval e X.env) :: starEach es X.env := by rfl) (hplain : (backTo cpos (starEach es X.env)).any (·.1) = false := by rfl) :
    PS X (.Try body [.ExceptHandler (some (.Name x np)) none [.Raise (some (.Call (.Name x2 np2) (e :: es) [] cpos)) (some (.Constant .none j kp)) rpos] hpos] [] [] pos) (tTryN X.K c X.N.length C2 E tb t) := by
  intro pins s σ H D I h
  refine wpAny_Try_except ?_
  let st : Stmt := .Raise (some (.Call (.Name x2 np2) (e :: es) [] cpos)) (some (.Constant .none j kp)) rpos
  let xe' : Value → Shared → Prop := fun e s₁ => wpAny (model X.prog X.w) X.A (noteFrame e X.env) (fun _ s₂ => wpAny (model X.prog X.w) X.A (setFlight e none) (fun _ s₃ => wpAny (model X.prog X.w) X.A (handleBy e X.env [.ExceptHandler (some (.Name x np)) none [st] hpos]) (SP X pins D) X.xe s₃) X.xe s₂) X.xe s₁
  have hp : Passes (CX1 X.prog X.w) { X with xe := xe', pn := X.pn ++ pins } (catchN X.K c X.N.length C2 t E) := by
    intro pins2 σ2 H2 s2 ev s' I2 hcx
    obtain ⟨a, C, H', y, rfl, F, cx, hy, C', hC', hex, hts⟩ := hcx
    cases hC'
    have I2' : Inv X pins σ2 H2 s2 := I2.recx (X := { X with xe := xe', pn := X.pn ++ pins }) (A' := X.A) (calm' := X.calm) (pn' := X.pn) (xe' := X.xe) (pins' := pins) I.ok.frames I.ok.hd (fun p z => List.mem_append_left _ z)
    have F' : Fly X.prog X.w X.stack H2 s2 C H' a s' := F
    refine L2.ob_eeaaa F'.body fun B a0 hfl hok hk ht => ?_
    have hfr : X.A.frames = some (X.env :: X.outer) := by rw [I.ok.frames, O.stk]
    have hfl' := hfl
    rw [O.stk] at hfl'
    show wpAny _ _ _ _ _ _
    refine with_ctx (kp2_note _ _) (cx hy) (wpAny_looks_onW hfr O.fr hfl' fun h4 held4 sm4 c4 => ?_)
    refine with_ctx (kp2_flight _ _) c4 (wpAny_landsW held4 fun h5 fl5 sm5 c5 => ?_)
    have fl5' : Heap.FlyingW B X.stack a (.ref C) a0 h5 := by rw [O.stk]; exact fl5
    obtain ⟨hfree, I5⟩ := fly_landed (tk := s'.toks) I2' F' fl5' hok hk ht (sm4.trans sm5) (ob := excN a C) fun G => flying_excN fl5' c5 G
    have LT : PySem.W.Looks (model X.prog X.w) h5 (typeOf (.ref a)) (.ref C) := by
      obtain ⟨ob, hob, hc⟩ := fl5.there
      exact hc ▸ (PySem.W.Looks.ld hob).andThen .now
    have I5m : Inv { X with A := X.A.mark (some (.ref a)), calm := false, xe := fun _ _ => False } pins (List.replicate X.N.length none) (upd H' a (excN a C)) { s' with heap := h5 } :=
      (I5.recx (A' := X.A.mark (some (.ref a))) (calm' := false) (pn' := X.pn) (xe' := fun _ _ => False) (pins' := pins) (by show (X.A.mark _).frames = _; exact I.ok.frames) (fun z => nomatch z) (fun p z => z)).weak
        (by rw [List.length_replicate]; exact I5.len.symm) (fun j v z => by
          rw [List.getElem?_replicate] at z
          split at z <;> cases z)
    refine wpAny_handleBy_cons (codeAny_handlers_test (ld_glob (X := { X with A := X.A.mark (some (.ref a)), calm := false, xe := fun _ _ => False }) I5m hg hm ?_ hd)) (by intro q; cases q)
    refine (PySem.W.exm_one I5.kIn LT hex).here ?_
    show codeAny _ _ (.handlers (.ref a) [.ExceptHandler none none [st] hpos] X.env) _ _
    refine codeAny_handlers_suite ?_
    refine with_ctx (kp2_flight _ _) c5 (lands_againW fl5 fun h6 fl6 sm6 c6 => ?_)
    have fl6' : Heap.FlyingW B X.stack a (.ref C) a0 h6 := by rw [O.stk]; exact fl6
    obtain ⟨_, I6⟩ := fly_landed (tk := s'.toks) I2' F' fl6' hok hk ht ((sm4.trans sm5).trans sm6) (ob := excN a C) fun G => flying_excN fl6' c6 G
    have I6m : Inv { X with A := X.A.mark (some (.ref a)), calm := false, xe := notedBy (model X.prog X.w) (X.A.mark (some (.ref a))) X.env fun x s₂ => cameBackBy (model X.prog X.w) X.A X.env X.xe x s₂ } pins (List.replicate X.N.length none) (upd H' a (excN a C)) { s' with heap := h6 } :=
      (I6.recx (A' := X.A.mark (some (.ref a))) (calm' := false) (pn' := X.pn) (xe' := notedBy (model X.prog X.w) (X.A.mark (some (.ref a))) X.env fun x s₂ => cameBackBy (model X.prog X.w) X.A X.env X.xe x s₂) (pins' := pins) (by show (X.A.mark _).frames = _; exact I.ok.frames) (fun z => nomatch z) (fun p z => z)).weak
        (by rw [List.length_replicate]; exact I6.len.symm) (fun j v z => by
          rw [List.getElem?_replicate] at z
          split at z <;> cases z)
    refine wpAny_execs_cons ?_
    refine L2.ob_eeeeeeeeeeeeeeeeeaaa ((own_of hC I6.mod.kin).obj) fun tl N nm q bs hdct sn sub ab col dd k0 k1 k2 k3 k5 mN hC' hN hni T => ?_
    have FB := PySem.F.excBase_ValueError
    refine raise_call_from (C := C2) (nm := nm) (q := q) (N := N) (bs := bs) (bm := tl) (hdct := hdct) (sn := sn) (sub := sub) (ab := ab) (col := col) (dd := dd) (k0 := k0) (k1 := k1) (k2 := k2) (k3 := k3) (k5 := k5)
      FB (mN := mN) (T.hasType FB.hasBase) (a := a) rfl (by rw [he]; show (false || (backTo cpos (starEach es X.env)).any (·.1)) = false; rw [hplain]; rfl) hni (ld_glob I6m hg2 hC.mg ⟨rfl, ?_⟩ hd2)
    have hA := ha _ _ cpos pins { s' with heap := h6 } _ _ _ I6m (hts a hfree)
    rw [he] at hA ⊢
    refine Calls.evalArgs_plain (thn hA fun us s2 ⟨vs, H2, I2, r, za, z, hE⟩ => ?_)
    have I2' : Inv X pins _ H2 s2 := I2.recx (A' := X.A) (calm' := X.calm) (pn' := X.pn) (xe' := X.xe) (pins' := pins) I.ok.frames I.ok.hd (fun p z => z)
    obtain ⟨⟨oa, va, x1, _, x3, x4⟩, _, _⟩ := I2.hok a _ za
    exact ⟨rfl, by rw [← r.length]; exact z, I2.bk _ _ hC', hN.keeps I2.bk, T.keeps I2.bk, ⟨oa, va, x1, x3, x4⟩, fun h' e hI => hT _ pins _ H2 s2 e C2 h' _ rfl I2' hI hE⟩
  have I0 : Inv { X with xe := xe', pn := X.pn ++ pins } [] σ H s := I.recx (A' := X.A) (calm' := X.calm) (pn' := X.pn ++ pins) (xe' := xe') (pins' := []) I.ok.frames I.ok.hd (fun p z => by simpa using z)
  refine wpAny_mono (hb xe' (X.pn ++ pins) _ hp [] s σ H D I0 h) (fun f s1 q1 => ?_) fun e s1 z => z
  have back : ∀ {σ8 : St} {H8 : Hp}, Inv { X with xe := xe', pn := X.pn ++ pins } [] σ8 H8 s1 → Inv X pins σ8 H8 s1 := fun {σ8 H8} J =>
    J.recx (X := { X with xe := xe', pn := X.pn ++ pins }) (A' := X.A) (calm' := X.calm) (pn' := X.pn) (xe' := X.xe) (pins' := pins) I.ok.frames I.ok.hd (fun p z => by simpa using z)
  cases f with
  | next => obtain ⟨σ8, H8, I8, q⟩ := q1; exact wpAny_execs_nil ⟨σ8, H8, back I8, q⟩
  | brk => obtain ⟨σ8, H8, I8, q⟩ := q1; exact ⟨σ8, H8, back I8, q⟩
  | cont => obtain ⟨σ8, H8, I8, q⟩ := q1; exact ⟨σ8, H8, back I8, q⟩
  | ret u => obtain ⟨v8, σ8, H8, I8, r8, q⟩ := q1; exact ⟨v8, σ8, H8, back I8, r8, q⟩
end
end L2

namespace L2
open PySem PySem.Spec PyProof.Rows
section
variable {X : Cx} {pins : List (Addr × Obj)} {σ : St} {H H' : Hp} {s s' : Shared}
theorem run_fnS {CX : CXT} {k : Nat} {f : Addr} {fd : FuncData} {ps : List Str} {sp : Sp} {E : XK} {Q : VK} {us : List Value} {vs : List V} (F : FnOk X.prog X.w X.K X.mg X.base CX k f fd ps sp) (hr : Room k X.A) (hb : Binds X.K fd ps []) (hx : ∀ e s', CX X.stack H s E e s' → X.xe e s')
    (I : Inv X pins σ H s) (r : Vals vs us) (h : sp (vs ++ []) H Q E) : wpAny (model X.prog X.w) X.A (call (.ref f) us) (EP X pins σ Q) X.xe s := by
  have r2 : Vals (vs ++ []) (us ++ []) := r.append .nil
  have hl : (us ++ []).length = ps.length := by rw [← r2.length]; exact F.len _ _ _ _ h
  refine wpAny_call (codeAny_mono (F.run X.A X.stack s H ⟨us, []⟩ (us ++ []) (vs ++ []) Q E hr I.env0 (hb s us I.kIn hl) r2 h) fun r s' hq => ?_)
  cases r with
  | error e => exact hx e s' hq
  | ok fl =>
    cases fl with
    | ret u => exact I.after hq
    | next => exact False.elim hq
    | brk => exact False.elim hq
    | cont => exact False.elim hq
noncomputable def catchK (K : PySem.W.Frag) (c : Value) (i : Nat) (ts : TS) (D : Ends) (σ : St) : XK := fun cls _ H' => ∃ C, cls = .ref C ∧ PySem.W.exmOne K (.ref C) c = some true ∧ ∀ a, H' a = none →
  ts { nx := fun σ' H2 => D.nx (σ'.set i none) H2, rt := D.rt, bk := fun σ' H2 => D.bk (σ'.set i none) H2, ct := fun σ' H2 => D.ct (σ'.set i none) H2 } (σ.set i (some (.ref a))) (upd H' a (excO a C))
noncomputable def tTryK (K : PySem.W.Frag) (c : Value) (i iv : Nat) (sp : Sp) (t : TA) (ts : TS) : TS := fun D σ H => t σ H fun vs H1 => sp (vs ++ []) H1 (fun v H2 => D.nx (σ.set iv (some v)) H2) (catchK K c i ts D σ)
theorem ps_tryK {n y : Str} {i iv k : Nat} {x g : Str} {c : Value} {ps : List Str} {sp : Sp} {e : Expr} {es : List Expr} {t : TA} {b₀ : Stmt} {suite : List Stmt} {py gp cpos apos np hpos pos : Pos} {ts : TS} (O : Own X)
    (Dg : Df X.prog X.w X.K X.mg X.base g k ps sp) (hr : Room k X.A) (hgG : Gl X g)
    (ha : ∀ (xe' : Value → Shared → Prop) (pn' : List (Addr × Obj)), PA { X with xe := xe', pn := pn' } (e :: es) t)
    (hs : ∀ (A' : Around), PSs { X with A := A', calm := false, xe := fun _ _ => False } (b₀ :: suite) ts)
    (hN : X.N.Nodup) (hiv : X.N[iv]? = some y) (hly : Loc X.env.scope y) (hi : X.N[i]? = some n) (hl : X.env.scope.names.lookup n = some .local) (hg : Gl X x) (hm : X.mg x = some c) (hd : (x == ("__debug__" : Str)) = false := by decide)
    (hdb : (g == ("__debug__" : Str)) = false := by decide) (he : starEach (e :: es) X.env = (false, eval e X.env) :: starEach es X.env := by rfl) (hpl : (backTo cpos (starEach es X.env)).any (·.1) = false := by rfl)
    (hsw : swapsWith (.Call (.Name g gp) (e :: es) [] cpos) (some (.Name y py)) apos.line X.env = pure false := by rfl) (hf : X.fn y = true ∨ X.env.scope.names.lookup y = some .local := by first | exact .inl rfl | exact .inr rfl | assumption) :
    PS X (.Try [.Assign [.Name y py] (.Call (.Name g gp) (e :: es) [] cpos) apos] [.ExceptHandler (some (.Name x np)) (some n) (b₀ :: suite) hpos] [] [] pos) (tTryK X.K c i iv sp t ts) := by
  intro pins s σ H D I h
  refine wpAny_Try_except ?_
  let xe' : Value → Shared → Prop := fun e s₁ => wpAny (model X.prog X.w) X.A (noteFrame e X.env) (fun _ s₂ => wpAny (model X.prog X.w) X.A (setFlight e none) (fun _ s₃ => wpAny (model X.prog X.w) X.A (handleBy e X.env [.ExceptHandler (some (.Name x np)) (some n) (b₀ :: suite) hpos]) (SP X pins D) X.xe s₃) X.xe s₂) X.xe s₁
  have hp : ∀ (H2 : Hp) (s2 : Shared) (e : Value) (s' : Shared), Inv { X with xe := xe', pn := X.pn ++ pins } [] σ H2 s2 → CX1 X.prog X.w X.stack H2 s2 (catchK X.K c i ts D σ) e s' → xe' e s' := by
    intro H2 s2 e s' I2 hcx
    obtain ⟨a, C, H', y, rfl, F, _, C', hC', hex, hts⟩ := hcx
    cases hC'
    have I2' : Inv X pins σ H2 s2 := I2.recx (X := { X with xe := xe', pn := X.pn ++ pins }) (A' := X.A) (calm' := X.calm) (pn' := X.pn) (xe' := X.xe) (pins' := pins) I.ok.frames I.ok.hd (fun p z => List.mem_append_left _ z)
    have F' : Fly X.prog X.w X.stack H2 s2 C H' a s' := F
    refine L2.ob_eeaaa F'.body fun B a0 hfl hok hk ht => ?_
    have hfr : X.A.frames = some (X.env :: X.outer) := by rw [I.ok.frames, O.stk]
    have hfl' := hfl
    rw [O.stk] at hfl'
    show wpAny _ _ _ _ _ _
    refine wpAny_looks_onW hfr O.fr hfl' fun h4 held4 sm4 => ?_
    refine wpAny_landsW held4 fun h5 fl5 sm5 => ?_
    have fl5' : Heap.FlyingW B X.stack a (.ref C) a0 h5 := by rw [O.stk]; exact fl5
    obtain ⟨hfree, I5⟩ := fly_landed (tk := s'.toks) I2' F' fl5' hok hk ht (sm4.trans sm5) (ob := excO a C) fun G => flying_excO fl5' G
    have LT : PySem.W.Looks (model X.prog X.w) h5 (typeOf (.ref a)) (.ref C) := by
      obtain ⟨ob, hob, hc⟩ := fl5.there
      exact hc ▸ (PySem.W.Looks.ld hob).andThen .now
    have I5m : Inv { X with A := X.A.mark (some (.ref a)), calm := false, xe := fun _ _ => False } pins σ (upd H' a (excO a C)) { s' with heap := h5 } :=
      I5.recx (A' := X.A.mark (some (.ref a))) (calm' := false) (pn' := X.pn) (xe' := fun _ _ => False) (pins' := pins) (by show (X.A.mark _).frames = _; exact I.ok.frames) (fun z => nomatch z) (fun p z => z)
    refine wpAny_handleBy_cons (codeAny_handlers_test (ld_glob (X := { X with A := X.A.mark (some (.ref a)), calm := false, xe := fun _ _ => False }) I5m hg hm ?_ hd)) (by intro q; cases q)
    refine (PySem.W.exm_one I5.kIn LT hex).here ?_
    show codeAny _ _ (.handlers (.ref a) [.ExceptHandler none (some n) (b₀ :: suite) hpos] X.env) _ _
    refine codeAny_handlers_suite_as ?_
    refine lands_againW fl5 fun h6 fl6 sm6 => ?_
    have fl6' : Heap.FlyingW B X.stack a (.ref C) a0 h6 := by rw [O.stk]; exact fl6
    obtain ⟨_, I6⟩ := fly_landed (tk := s'.toks) I2' F' fl6' hok hk ht ((sm4.trans sm5).trans sm6) (ob := excO a C) fun G => flying_excO fl6' G
    have I6m : Inv { X with A := X.A.mark (some (.ref a)), calm := false, xe := fun _ _ => False } pins σ (upd H' a (excO a C)) { s' with heap := h6 } :=
      I6.recx (A' := X.A.mark (some (.ref a))) (calm' := false) (pn' := X.pn) (xe' := fun _ _ => False) (pins' := pins) (by show (X.A.mark _).frames = _; exact I.ok.frames) (fun z => nomatch z) (fun p z => z)
    refine store_ok (X := { X with A := X.A.mark (some (.ref a)), calm := false, xe := fun _ _ => False }) (v := .ref a) I6m hN hi (Or.inl hl) rfl (fun s7 I7 => ?_) (.inr hl)
    refine wpAny_mono (hs (X.A.mark (some (.ref a))) pins s7 _ _ _ I7 (hts a hfree)) (fun f s8 q8 => ?_) fun _ _ z => False.elim z
    have back : ∀ {σ8 : St} {H8 : Hp}, Inv { X with A := X.A.mark (some (.ref a)), calm := false, xe := fun _ _ => False } pins σ8 H8 s8 → Inv X pins σ8 H8 s8 := fun {σ8 H8} J =>
      J.recx (X := { X with A := X.A.mark (some (.ref a)), calm := false, xe := fun _ _ => False }) (A' := X.A) (calm' := X.calm) (pn' := X.pn) (xe' := X.xe) (pins' := pins) I.ok.frames I.ok.hd (fun p z => z)
    cases f with
    | next => obtain ⟨σ8, H8, I8, q⟩ := q8; exact name_goes (back I8) hN hi hl fun s9 I9 => ⟨_, H8, I9, q⟩
    | brk => obtain ⟨σ8, H8, I8, q⟩ := q8; exact name_goes (back I8) hN hi hl fun s9 I9 => ⟨_, H8, I9, q⟩
    | cont => obtain ⟨σ8, H8, I8, q⟩ := q8; exact name_goes (back I8) hN hi hl fun s9 I9 => ⟨_, H8, I9, q⟩
    | ret u => obtain ⟨v8, σ8, H8, I8, r8, q⟩ := q8; exact name_goes (back I8) hN hi hl fun s9 I9 => ⟨v8, _, H8, I9, r8, q⟩
  have I0 : Inv { X with xe := xe', pn := X.pn ++ pins } [] σ H s := I.recx (A' := X.A) (calm' := X.calm) (pn' := X.pn ++ pins) (xe' := xe') (pins' := []) I.ok.frames I.ok.hd (fun p z => by simpa using z)
  have back : ∀ {σ8 : St} {H8 : Hp} {s1 : Shared}, Inv { X with xe := xe', pn := X.pn ++ pins } [] σ8 H8 s1 → Inv X pins σ8 H8 s1 := fun {σ8 H8 s1} J =>
    J.recx (X := { X with xe := xe', pn := X.pn ++ pins }) (A' := X.A) (calm' := X.calm) (pn' := X.pn) (xe' := X.xe) (pins' := pins) I.ok.frames I.ok.hd (fun p z => by simpa using z)
  obtain ⟨f, fd, hmg, hk, hb, F⟩ := Dg.ex
  refine wpAny_execs_cons ?_
  refine wpAny_Assign_Name ?_ hsw
  refine wpAny_Call_Name_kw ?_
  refine ld_glob (X := { X with xe := xe', pn := X.pn ++ pins }) I0 hgG hmg ?_ hdb
  refine PySem.W.callWith_K (h₀ := X.base) I.ok.mod.kin hk (thn (ha xe' (X.pn ++ pins) cpos [] s σ H _ I0 h) fun us s1 ⟨vs, H1, I1, r, q⟩ => ⟨I1.kIn, ?_⟩) he hpl
  refine thn (run_fnS (X := { X with xe := xe', pn := X.pn ++ pins }) F hr hb (fun e s' hcx => hp H1 s1 e s' I1 hcx) I1 r q) fun v s2 ⟨w, H2, I2, r2, q2⟩ => ?_
  exact store_ok (X := { X with xe := xe', pn := X.pn ++ pins }) I2 hN hiv hly r2 (fun s3 I3 => wpAny_execs_nil (wpAny_execs_nil ⟨_, H2, back I3, q2⟩)) hf
end
end L2

namespace L2
open PySem PySem.Spec PyProof.Rows
section
variable {M : Model} {A : Around} {E : Value → Shared → Prop} {s : Shared}
structure Flown (base : Heap) (l : List Env) (e : Addr) (cls a0 fl : Value) (h : Heap) : Prop where
  stays : base.StaysIn h
  new : base.get? e = none
  funs : h.FunFrames base l
  tr : h.TracedAtW base e cls a0 fl
theorem flown_set {base : Heap} {l : List Env} {e : Addr} {cls a0 fl : Value} {fr : Option Addr} {Q : Unit → Shared → Prop} (hh : Flown base l e cls a0 fl s.heap)
    (hQ : ∀ h' fl', Flown base l e cls a0 fl' h' → s.heap.UpToSlots h' → Q () { s with heap := h' }) : wpAny M A (setFlight (.ref e) fr) Q E s := by
  obtain ⟨f1, f2, f3, oe, vs, T, oT, ts, he, hcls, hd, h1, hnT, hTe, hT, hdT, h3⟩ := hh
  have z3 : 3 < ts.size := (Array.getElem?_eq_some_iff.mp h3).1
  unfold setFlight
  refine wpAny_bind (wpAny_field he hd h1 ?_)
  rw [if_pos (show (Value.ref T != Value.none) = true from by simp)]
  have ot : ∀ (f : Obj → Obj) b, b ≠ T → (s.heap.update T f).get? b = s.heap.get? b := fun f b hb => Heap.get?_update_other _ _ (Ne.symm hb)
  have nr : ∀ b o, s.heap.get? b = some o → (∀ vs, o.data ≠ .fields vs) → b ≠ T := fun b o hb hn z => by
    rw [z, hT] at hb; obtain rfl := Option.some.inj hb; exact hn ts hdT
  refine wpAny_setField hT hdT z3 (hQ _ (fr.elim Value.none fun f => rawInt f) ⟨fun b o hb => (ot _ b fun z => by rw [z, hnT] at hb; cases hb).trans (f1 b o hb), f2, f3.of_keeps fun b o hb hn => ⟨o, (ot _ b (nr b o hb hn)).trans hb, rfl⟩, oe, vs, T, _, _, (ot _ e (Ne.symm hTe)).trans he, hcls, hd, h1, hnT, hTe, Heap.get?_update_self _ hT (Obj.isFreed_of_fields (Obj.data_mapFields hdT _)), Obj.data_mapFields hdT _, by simp [z3]⟩ fun b o hb hn => ⟨o.slots, (ot _ b (nr b o hb hn)).trans hb⟩)
theorem Flown.at1 {base : Heap} {l : List Env} {e : Addr} {cls a0 fl : Value} {h : Heap} (x : Flown base l e cls a0 fl h) : ∃ oe vs T, h.get? e = some oe ∧ oe.data = .fields vs ∧ vs[1]? = some (.ref T) := by
  obtain ⟨oe, vs, T, oT, ts, he, _, hd, h1, _⟩ := x.tr
  exact ⟨oe, vs, T, he, hd, h1⟩
theorem flown_pass {α : Type} {base : Heap} {l : List Env} {e : Addr} {cls a0 fl : Value} {env : Env} {what : String} {Q : α → Shared → Prop} (hh : Flown base l e cls a0 fl s.heap)
    (hE : ∀ h' fl', Flown base l e cls a0 fl' h' → s.heap.UpToSlots h' → E (.ref e) { s with heap := h' }) : wpAny M A (PySem.passOn what (.ref e) env : Sem α) Q E s := by
  obtain ⟨oe, vs, T, he, hd, h1⟩ := hh.at1
  unfold PySem.passOn
  refine wpAny_bind (wpAny_field he hd h1 ?_)
  rw [if_neg (show ¬ ((Value.ref T == Value.none) = true) from by simp)]
  exact wpAny_bind (flown_set hh fun h' fl' f u => wpAny_throw (hE h' fl' f u))
theorem flown_leaves {base : Heap} {env : Env} {outer : List Env} {L e : Addr} {cls a0 fl : Value} {Q : Unit → Shared → Prop} (hfr : A.frames = some (env :: outer)) (hf : env.frame = some L) (hh : Flown base (env :: outer) e cls a0 fl s.heap)
    (hQ : ∀ h', Heap.FlyingW base outer e cls a0 h' → s.heap.UpToSlots h' → Q () { s with heap := h' }) : wpAny M A (leaving env (.ref e)) Q E s := by
  by_cases hfl : fl = rawInt L
  · subst hfl
    unfold leaving
    refine wpAny_bind (wpAny_noteFrame_againW hf hh.tr ?_)
    refine wpAny_landsW ⟨hh.stays, hh.new, hh.funs, hh.tr⟩ fun h' fl us => ?_
    obtain ⟨k1, k2, ⟨_, _, k3⟩, k4⟩ := fl
    exact hQ h' ⟨k1, k2, k3, k4⟩ us
  · obtain ⟨f1, f2, f3, oe, vs, T, oT, ts, he, ⟨hcls, h0⟩, hd, h1, hnT, hTe, hT, hdT, h3⟩ := hh
    subst hcls
    have ot : ∀ (f : Obj → Obj) b, b ≠ T → (s.heap.update T f).get? b = s.heap.get? b := fun f b hb => Heap.get?_update_other _ _ (Ne.symm hb)
    have nr : ∀ b o, s.heap.get? b = some o → (∀ vs, o.data ≠ .fields vs) → b ≠ T := fun b o hb hn z => by
      rw [z, hT] at hb; obtain rfl := Option.some.inj hb; exact hn ts hdT
    unfold leaving noteFrame
    simp only [hf]
    refine wpAny_bind (wpAny_bind (wpAny_field he hd h1 ?_))
    rw [if_pos (show (Value.ref T != Value.none) = true from by simp)]
    refine wpAny_bind (wpAny_field hT hdT h3 ?_)
    rw [if_neg (show ¬ ((fl == rawInt L) = true) from by simpa using hfl)]
    refine wpAny_bind (wpAny_setField hT hdT (Array.getElem?_eq_some_iff.mp h3).1 ?_)
    refine wpAny_newEntryW hfr (f3.of_keeps fun b o hb hn => ⟨o, (ot _ b (nr b o hb hn)).trans hb, rfl⟩) hf ((ot _ e (Ne.symm hTe)).trans he) (fun b o hb => (ot _ b fun z => by rw [z, hnT] at hb; cases hb).trans (f1 b o hb)) f2 hd (Array.getElem?_eq_some_iff.mp h1).1 h0 fun h' hL => ?_
    obtain ⟨k1, ⟨_, _, k2⟩, k3, k4⟩ := hL
    exact hQ h' ⟨k1, f2, k2, k3⟩ fun b o hb hn => k4 b o ((ot _ b (nr b o hb hn)).trans hb) hn
theorem note_env {e : Value} {env cenv : Env} (h : cenv.frame = env.frame) : noteFrame e cenv = noteFrame e env := by
  unfold noteFrame PySem.frameOf
  rw [h]
theorem flown_note {base : Heap} {env cenv : Env} {outer : List Env} {L e : Addr} {cls a0 : Value} {Q : Unit → Shared → Prop} (hfr : A.frames = some (env :: outer)) (hf : env.frame = some L) (hc : cenv.frame = env.frame) (hh : Heap.FlyingW base (env :: outer) e cls a0 s.heap)
    (hQ : ∀ h', Flown base (env :: outer) e cls a0 (rawInt L) h' → s.heap.UpToSlots h' → Q () { s with heap := h' }) : wpAny M A (noteFrame (.ref e) cenv) Q E s := by
  rw [note_env hc]
  exact wpAny_looks_onW hfr hf hh fun h' held us => hQ h' ⟨held.1, held.2.1, held.2.2.1, held.2.2.2⟩ us
end
theorem funs_less {B h h' : Heap} {L1 : Addr} (k : ∀ b, b ≠ L1 → h'.get? b = h.get? b) : ∀ {l : List Env}, h.FunFrames B l → L1 ∉ frs l → h'.FunFrames (PySem.W.hideAll B [L1]) l
  | [], _, _ => trivial
  | env :: r, ⟨hk, ⟨L, o, hf, hn, ho, hd⟩, hr⟩, hx => by
    have e1 : frs (env :: r) = L :: frs r := by unfold frs; rw [List.filterMap_cons, hf]
    rw [e1] at hx
    have nl : L ≠ L1 := fun z => hx (by rw [z]; exact List.mem_cons_self ..)
    refine ⟨hk, ⟨L, o, hf, ?_, (k L nl).trans ho, hd⟩, funs_less k hr fun z => hx (List.mem_cons_of_mem _ z)⟩
    cases q : (PySem.W.hideAll B [L1]).get? L with
    | none => rfl
    | some u => have := PySem.W.of_hideAll _ q; rw [hn] at this; cases this
section
variable {X : Cx} {pins : List (Addr × Obj)} {σ : St} {H : Hp} {s : Shared}
theorem with_ctxY {α : Type} {M : Model} {A : Around} {s : Shared} {e : Addr} {y : Option Addr} {t : Sem α} {Q : α → Shared → Prop} {E : Value → Shared → Prop} (hk : Kp2 t) (c : y = none → Ctx0 s.heap e) (h : wpAny M A t (fun a s' => (y = none → Ctx0 s'.heap e) → Q a s') (fun x s' => (y = none → Ctx0 s'.heap e) → E x s') s) : wpAny M A t Q E s := by
  cases y with
  | none => exact wpAny_mono (kp2_any hk (c rfl) h) (fun _ _ q => q.1 fun _ => q.2) fun _ _ q => q.1 fun _ => q.2
  | some z => exact wpAny_mono h (fun _ _ q => q fun h => nomatch h) fun _ _ q => q fun h => nomatch h
theorem kp2_pass {α : Type} (what : String) (v : Value) (env : Env) : Kp2 (PySem.passOn what v env : Sem α) := by
  unfold PySem.passOn
  refine kp2_bind (kp2_field v 1) fun tb => ?_
  split
  · exact kp2_bind (kp2_un _) fun _ => kp2_bind (kp2_flight _ _) fun _ => .raise _
  · exact kp2_bind (kp2_flight _ _) fun _ => .raise _
theorem comp_thrown {e C L1 : Addr} {y : Option Addr} {H' : Hp} {s' : Shared} {cenv : Env} {m1 : Str → Option Value} {Q : Unit → Shared → Prop} {E' : Value → Shared → Prop} (O : Own X) (I : Inv X pins σ H s) (F : Fly X.prog X.w X.stack H s C H' e s') (c : y = none → Ctx0 s'.heap e) (hcf : cenv.frame = X.env.frame)
    (hL : s.heap.Ns L1 m1) (hLn : H L1 = none) (hLs : L1 ∉ frs X.stack) (hL0 : X.s₀.heap.get? L1 = none) {XE : Value → Shared → Prop} (hX : ∀ s3, wpAny (model X.prog X.w) X.A (leaving X.env (.ref e)) Q E' s3 → XE (.ref e) s3)
    (hQ : ∀ s'', Fly X.prog X.w X.outer X.H₀ X.s₀ C H' e s'' → (y = none → Ctx0 s''.heap e) → Q () s'') {use : Option (Value → Sem Unit)} {QQ : Value → Shared → Prop} {acc : Value} :
    wpAny (model X.prog X.w) X.A (noteFrame (.ref e) cenv) (fun _ s2 => compPost (model X.prog X.w) X.A XE use QQ acc L1 (.error (.ref e)) s2) (fun x s2 => compPost (model X.prog X.w) X.A XE use QQ acc L1 (.error x) s2) s' := by
  have hfr : X.A.frames = some (X.env :: X.outer) := by rw [I.ok.frames, O.stk]
  obtain ⟨B, a0, hfl, hok, hk, ht⟩ := F.body
  have hfl' := hfl
  rw [O.stk] at hfl'
  obtain ⟨o, es, ep, ho, hd, rest⟩ := id hL
  have bL := hk L1 o ho hLn hLs
  have nf : ∀ {b : Addr} {h : Heap} {ob : Obj} {vs : Array Value}, h.get? L1 = some o → h.get? b = some ob → ob.data = .fields vs → b ≠ L1 := fun {b h ob vs} h1 h2 h3 z => by
    rw [z, h1] at h2; obtain rfl := Option.some.inj h2
    rw [hd] at h3; cases h3
  refine with_ctxY (kp2_note _ _) c (flown_note hfr O.fr hcf hfl' fun h2 f2 u2 c2 => ?_)
  have o2 := f2.stays _ _ bL
  have main : ∀ h3, Heap.SameBut L1 h2 h3 → ∀ cenv' : Env, cenv'.locals = L1 → wpAny (model X.prog X.w) X.A (PySem.passOn "comprehension.variables-let-go" (.ref e) cenv' : Sem Value) (fun _ _ => False) XE { s' with heap := h3 } := fun h3 sb cenv' _ => by
    have kp : ∀ b, b ≠ L1 → h3.get? b = h2.get? b := fun b hb => sb.2 b hb
    have lessN : ∀ b, B.get? b = none → (PySem.W.hideAll B [L1]).get? b = none := fun b hb => by
      cases q : (PySem.W.hideAll B [L1]).get? b with
      | none => rfl
      | some u => have := PySem.W.of_hideAll _ q; rw [hb] at this; cases this
    have f3 : Flown (PySem.W.hideAll B [L1]) (X.env :: X.outer) e (.ref C) a0 (rawInt X.env.locals) h3 := by
      refine ⟨fun b ob hb => ?_, lessN e f2.new, funs_less kp f2.funs (by rw [← O.stk]; exact hLs), ?_⟩
      · have nb : b ≠ L1 := fun z => by rw [z, PySem.W.hideAll_none _ (List.mem_cons_self ..)] at hb; cases hb
        exact (kp b nb).trans (f2.stays b ob (PySem.W.of_hideAll _ hb))
      · obtain ⟨oe, vs, T, oT, ts, he, hc, hde, h1, hnT, hTe, hT, hdT, h3'⟩ := f2.tr
        exact ⟨oe, vs, T, oT, ts, (kp e (nf o2 he hde)).trans he, hc, hde, h1, lessN T hnT, hTe, (kp T (nf o2 hT hdT)).trans hT, hdT, h3'⟩
    have c3 : y = none → Ctx0 h3 e := fun hy => by
      obtain ⟨oe, he, hf⟩ := c2 hy
      refine ⟨oe, (kp e fun z => ?_).trans he, hf⟩
      rw [z] at he
      rw [show h2.get? L1 = some o from o2] at he
      obtain rfl := Option.some.inj he
      unfold fld2 at hf
      rw [hd] at hf; cases hf
    refine with_ctxY (kp2_pass _ _ _) (s := { s' with heap := h3 }) c3 (flown_pass f3 fun h4 fl4 f4 u4 c4 => hX _ ?_)
    refine with_ctxY (kp2_leaving _ _) (s := { s' with heap := h4 }) c4 (flown_leaves hfr O.fr f4 fun h5 fl5 u5 c5 => hQ _ ?_ c5)
    have n0 : ∀ b ob, X.s₀.heap.get? b = some ob → b ∉ [L1] := fun b ob hb z => by
      have e1 : b = L1 := by simpa using z
      rw [e1, hL0] at hb; cases hb
    refine ⟨F.os.trans I.os, F.bare, ⟨_, a0, fl5, fun b ob q => ?_, fun b ob q n hb => ?_, fun b ob q hb => ?_⟩, fun b ob q n hb => ?_, fun b ob q n => ?_, fun b xs q => F.tups b xs (I.base.tups b xs q), fun b ob u q => F.frzs b ob u (I.base.frzs b ob u q), fun b ps q => ?_⟩
    · have hL' : H' L1 = none := F.free L1 o ho hLn
      refine (hok b ob q).stay (fun c v hc z => PySem.W.hideAll_get _ z fun y => ?_) (fun _ z => z) fun _ _ z => z
      have e1 : c = L1 := by simpa using y
      rcases hc with rfl | hc
      · rw [e1, hL'] at q; cases q
      · rw [e1, hL'] at hc; cases hc
    · exact PySem.W.hideAll_get _ (hk b ob (I.base.keep b ob q n hb (O.noex b)) (I.base.free b ob q n (O.noex b)) (O.notStk I q hb)) (n0 b ob q)
    · obtain ⟨o', e'⟩ := I.base.there b ob q (O.noex b)
      obtain ⟨o'', e''⟩ := ht b o' e' (O.notStk I q hb)
      exact ⟨o'', PySem.W.hideAll_get _ e'' (n0 b ob q)⟩
    · obtain ⟨sl, e1⟩ := I.base.slot b ob q n hb (O.noex b)
      obtain ⟨sl', e2⟩ := F.slot b _ e1 (I.base.free b ob q n (O.noex b)) (by rw [O.frs]; exact List.mem_cons_of_mem _ hb)
      obtain ⟨_, o2', ho2, hdn⟩ := I.ok.funs.mem hb
      rw [q] at ho2; obtain rfl := Option.some.inj ho2
      have nb : b ≠ L1 := fun z => n0 b ob q (by simp [z])
      obtain ⟨s1, e3⟩ := u2 b _ e2 hdn
      obtain ⟨s2, e4⟩ := u4 b _ ((kp b nb).trans e3) hdn
      obtain ⟨s3, e5⟩ := u5 b _ e4 hdn
      exact ⟨s3, e5⟩
    · obtain ⟨o', e'⟩ := I.base.there b ob q (O.noex b)
      exact F.free b o' e' (I.base.free b ob q n (O.noex b))
    · obtain ⟨m1, e1⟩ := I.base.tbls b ps q
      obtain ⟨m2, e2⟩ := F.tbls b _ e1
      exact ⟨m1 ++ m2, by rw [e2, Array.append_assoc]⟩
  cases use <;> exact ⟨m1, ⟨o, es, ep, o2, hd, rest⟩, main⟩
end
noncomputable def PassesC (X : Cx) (E : XK) : Prop := ∀ (pins : List (Addr × Obj)) (σ : St) (H : Hp) (s : Shared) (e C L1 : Addr) (H' : Hp) (y : Option Addr) (s' : Shared) (cenv : Env) (m1 : Str → Option Value) (use : Option (Value → Sem Unit)) (QQ : Value → Shared → Prop) (acc : Value), Inv X pins σ H s → Fly X.prog X.w X.stack H s C H' e s' → (y = none → Ctx0 s'.heap e) → E (.ref C) y H' → cenv.frame = X.env.frame →
  s.heap.Ns L1 m1 → H L1 = none → L1 ∉ frs X.stack → X.s₀.heap.get? L1 = none → wpAny (model X.prog X.w) X.A (noteFrame (.ref e) cenv) (fun _ s2 => compPost (model X.prog X.w) X.A X.xe use QQ acc L1 (.error (.ref e)) s2) (fun x s2 => compPost (model X.prog X.w) X.A X.xe use QQ acc L1 (.error x) s2) s'
theorem passC1 {P : Program} {w : World} {K : PySem.W.Frag} {mg : Str → Option Value} {base : Heap} {N : List Str} {qual : Str} {scope : Scope} {f : Addr} {cd : Value} {A : Around} {outer : List Env} {s : Shared} {H : Hp} {E : XK} : PassesC (cx1 P w K mg base N qual scope f cd A outer s H E) E := by
  intro pins σ H2 s2 e C L1 H' y s' cenv m1 use QQ acc I F c hE hcf hL hLn hLs hL0
  exact comp_thrown (X := cx1 P w K mg base N qual scope f cd A outer s H E) own1 I F c hcf hL hLn hLs hL0 (fun s3 h => h) fun s'' F' c' => ⟨e, C, H', y, rfl, F', c', hE⟩
theorem compLoop_anyX {prog : Program} {w : World} {A : Around} {R : Result → Shared → Prop} {s : Shared} {elt target iter : Expr} {ifs : List Expr} {scope : Scope} {pos : Pos} {it acc : Value} {env : Env} (I : Nat → Shared → Prop)
    (turn : ∀ n s, I n s → wpAny (model prog w) A (pyNext it) (fun r s₁ => match r with
      | none => R (.ok .next) s₁
      | some v => wpAny (model prog w) A (letOwnedTupleGo target it v) (fun _ s₁ => wpAny (model prog w) A (assign target env v) (fun _ s₂ =>
          wpAny (model prog w) A (forIn ifs true fun c r => if r = true then do let ok ← isTrue c env (eval c env); pure (ForInStep.yield ok) else pure (ForInStep.yield r)) (fun ok s₃ =>
            if ok = true then wpAny (model prog w) A (eval elt env) (fun x s₄ =>
              wpAny (model prog w) A (call (.builtin "list.append") [acc, x]) (fun _ s₅ => ∃ m, m < n ∧ I m s₅) (fun _ _ => False) s₄) (notedBy (model prog w) A env fun x s => R (.error x) s) s₃
            else ∃ m, m < n ∧ I m s₃) (fun _ _ => False) s₂) (fun _ _ => False) s₁) (fun _ _ => False) s₁) (fun _ _ => False) s)
    (n : Nat) (h : I n s) : codeAny (model prog w) A (.compLoop (.ListComp elt [⟨target, iter, ifs, 0⟩] scope pos) 0 it acc env) R s := by
  refine codeAny_loop rfl I (fun n s hI => ?_) n h
  show wpAny _ A ((compTurn (.ListComp elt [⟨target, iter, ifs, 0⟩] scope pos) 0 it acc env).onRaise (fun x => do noteFrame x env; theTreesLotGoes x)) _ _ s
  refine wpAny_noted ?_
  rw [compTurn_list]
  refine wpAny_bind (wpAny_standAt (wpAny_bind (wpAny_mono (turn n s hI) (fun r s₁ h₁ => ?_) fun _ _ h' => False.elim h')))
  cases r with
  | none => exact wpAny_pure h₁
  | some v =>
    refine wpAny_bind (wpAny_mono h₁ (fun _ s₁ h₁ => ?_) fun _ _ h' => False.elim h')
    refine wpAny_bind (wpAny_mono h₁ (fun _ s₂ h₂ => wpAny_bind (wpAny_mono h₂ (fun ok s₃ h₃ => ?_) fun _ _ h' => False.elim h')) fun _ _ h' => False.elim h')
    cases ok with
    | false => exact wpAny_pure ⟨rfl, h₃⟩
    | true =>
      exact wpAny_bind (wpAny_bind (wpAny_mono h₃ (fun x s₄ h₄ => wpAny_bind (wpAny_mono h₄ (fun _ s₅ h₅ => wpAny_pure (wpAny_pure ⟨rfl, h₅⟩)) fun _ _ h' => False.elim h')) fun _ _ h' => h'))
end L2

namespace L2
open PySem PySem.Spec PyProof.Rows
section
variable {X : Cx} {pins : List (Addr × Obj)} {σ : St} {H₁ : Hp} {s₁ : Shared} {scope : Scope} {x : Str} {js : List Nat} {elt iter : Expr} {ifs : List Expr} {ot : Option TT} {te : TE} {px pos : Pos}
theorem comp_blockX {E1 : XK} {use : Option (Value → Sem Unit)} {QQ : Value → Shared → Prop} {it : Addr} {fp : List Addr} {tn : Nat → Heap → Prop} {J : It} {Fin : List V → Hp → Prop} {RR : Value → Addr → Result → Shared → Prop} {E : Value → Shared → Prop} (hok : compOk scope X.env x X.N js = true) (hnd : (compN x X.N js).Nodup) (hc : X.calm = true)
    (O1 : Own X) (hPC : PassesC X E1) (he : ∀ C s₁ H₁ fp (xe' : Value → Shared → Prop), Passes (CX1 X.prog X.w) { compCx X scope x js C s₁ H₁ fp with xe := xe' } E1 → PE { compCx X scope x js C s₁ H₁ fp with xe := xe' } elt te) (ht : ∀ C s₁ H₁ fp, PTests (compCx X scope x js C s₁ H₁ fp) ifs ot)
    (hEr : ∀ acc L1 x s2, compPost (model X.prog X.w) X.A X.xe use QQ acc L1 (.error x) s2 → RR acc L1 (.error x) s2) (I : Inv X pins σ H₁ s₁) (T : Turn X.prog X.w X.K (.Name x px) J fp it tn) (st : tn 0 s₁.heap) (hf : ∀ b ∈ fp, FpOk X pins H₁ b) (go : compGo J js ot te σ H₁ Fin)
    (hRR : ∀ D C ys H' s' m, H' D = none → Inv X pins σ (upd H' D (.lst ys)) s' → s'.heap.Ns C m → s₁.heap.objs.size ≤ C → upd H' D (.lst ys) C = none → Fin ys H' → RR (.ref D) C (.ok .next) s') :
    wpAny (model X.prog X.w) X.A (newList []) (fun acc s₃ => wpAny (model X.prog X.w) X.A (newFunctionEnv scope X.env.globals (clOf X.env.cells scope.names []) [] X.env.qual none .none (some X.env)) (fun cenv s₄ =>
      codeAny (model X.prog X.w) X.A (.compStart (.ListComp elt [⟨.Name x px, iter, ifs, 0⟩] scope pos) 0 (.ref it) acc { cenv with scope := relabel scope X.env }) (RR acc cenv.locals) s₄) E s₃) E s₁ := by
  have O := compOk_of hok
  have hlt : ∀ b ∈ fp, b < s₁.heap.objs.size := fun b hb => by
    obtain ⟨o, e, _⟩ := T.obj _ _ st b hb
    exact Heap.lt_size e
  refine wpAny_newObj_type (wpAny_newFunctionEnv O.nocell (by intro y hy; simp at hy) (fun h₁ hns₁ hsb₁ => ?_) O.kind)
  dsimp only at hns₁ hsb₁ ⊢
  generalize hH2 : s₁.heap.push { cls := .type "list", dict := none, data := .seq ([] : List Value).toArray } = H2 at hns₁ hsb₁ ⊢
  have hC : H2.objs.size = s₁.heap.objs.size + 1 := by rw [← hH2, Heap.size_push]
  have hDC : s₁.heap.objs.size ≠ H2.objs.size := by rw [hC]; exact Nat.ne_of_lt (Nat.lt_succ_self _)
  have hCle : s₁.heap.objs.size ≤ H2.objs.size := by rw [hC]; exact Nat.le_succ _
  have below : ∀ b, b < s₁.heap.objs.size → b ≠ H2.objs.size ∧ b ≠ s₁.heap.objs.size := fun b hb => ⟨by rw [hC]; exact Nat.ne_of_lt (Nat.lt_succ_of_lt hb), Nat.ne_of_lt hb⟩
  have old : ∀ b o, s₁.heap.get? b = some o → h₁.get? b = some o := fun b o e => hsb₁.extBut b o (below b (Heap.lt_size e)).1 (Heap.get?_push_of_some _ (hH2 ▸ Heap.get?_push_of_some _ e))
  have hacc : h₁.get? s₁.heap.objs.size = some { cls := .type "list", data := .seq ([] : List Value).toArray } := hsb₁.extBut _ _ hDC (Heap.get?_push_of_some _ (hH2 ▸ Heap.get?_push_size _ rfl))
  have st₁ : tn 0 h₁ := T.keep _ _ _ st fun b _ o e => old b o e
  generalize hD : s₁.heap.objs.size = D at *
  generalize hCC : H2.objs.size = C at *
  have hDf : D ∉ fp := fun hb => absurd (hlt D hb) (by rw [← hD]; exact Nat.lt_irrefl _)
  have dcell : ∀ y c, X.env.cells.lookup y = some c → c ≠ D := fun y c e z => by
    obtain ⟨v, q⟩ := I.cell y c e
    exact absurd q.lt (by rw [z, ← hD]; exact Nat.lt_irrefl _)
  have dfs : D ∉ frs X.stack := fun hb => by
    obtain ⟨_, o, ho, _⟩ := I.stack.mem hb
    exact absurd (Heap.lt_size ho) (by rw [← hD]; exact Nat.lt_irrefl _)
  have cfs : C ∉ frs X.stack := fun hb => by
    obtain ⟨_, o, ho, _⟩ := I.stack.mem hb
    exact absurd (Nat.lt_of_lt_of_le (Heap.lt_size ho) (by first | exact hCle | (rw [hD]; exact hCle))) (Nat.lt_irrefl _)
  have c0 : X.s₀.heap.get? C = none := by
    cases q : X.s₀.heap.get? C with
    | none => rfl
    | some o =>
      obtain ⟨o', e'⟩ := I.base.there C o q (O1.noex C)
      exact absurd (Nat.lt_of_lt_of_le (Heap.lt_size e') (by first | exact hCle | (rw [hD]; exact hCle))) (Nat.lt_irrefl _)
  obtain ⟨W, ⟨m0, w0⟩, turn⟩ := go
  have I3 : Inv (compCx X scope x js C s₁ H₁ fp) [] (compSt none σ js) H₁ { s₁ with heap := h₁, toks := s₁.toks + ([] : List (Str × Value)).length } :=
    comp_inv O I hc (by first | exact hCle | (rw [hD]; exact hCle)) hf (fun b hb => by first | exact hlt b hb | (rw [hD]; exact hlt b hb)) rfl I.bare old hns₁
  have stat : ∀ {H' : Hp}, (∀ b ∈ fp, H' b = none) → ∀ b ∈ fp, FpOk (compCx X scope x js C s₁ H₁ fp) [] H' b := fun {H'} hn b hb => by
    have f := hf b hb
    refine ⟨hn b hb, (below b (hlt b hb)).1, fun z => ?_, .inl hb, fun y c e => f.2.2.2.2.1 y c (cl_sub y c e), fun p hp => absurd (show p ∈ ([] : List (Addr × Obj)) from hp) (by simp)⟩
    have z' : b ∈ frs X.stack := z
    rcases List.mem_cons.mp (I.stkSub b z') with q | q
    · exact f.2.1 q
    · exact f.2.2.1 q
  have loop : ∀ s₃ : Shared, s₃ = { s₁ with heap := h₁, toks := s₁.toks + ([] : List (Str × Value)).length } →
      codeAny (model X.prog X.w) X.A (.compLoop (.ListComp elt [⟨.Name x px, iter, ifs, 0⟩] scope pos) 0 (.ref it) (.ref D) (compEnvC scope (clOf X.env.cells scope.names []) C X.env)) (RR (.ref D) C) s₃ := by
    rintro s₃ rfl
    refine compLoop_anyX (Iv_comp_block X σ H₁ s₁ scope x js fp tn D C W) ?_ m0
      ⟨0, [], [], 0, H₁, none, I3, st₁, fun b hb => (hf b hb).1, I.hok.fresh (by rw [hD]; exact Nat.le_refl _), hacc, .nil, Nat.zero_le _, w0⟩
    rintro n s4 ⟨i, ys, its, nn, H4, v0, I4, st4, fr4, fD4, oD4, rv4, z4, w4⟩
    have I4' : Inv (compCx X scope x js C s₁ H₁ fp) [(D, { cls := .type "list", data := .seq its.toArray nn })] (compSt v0 σ js) H4 s4 := I4.pins_of fun p hp => by
      have e : p = (D, { cls := .type "list", data := .seq its.toArray nn }) := by simpa using hp
      subst e
      exact ⟨oD4, fD4, hDC, dfs, fun v z => by cases z⟩
    have statD : ∀ {H' : Hp}, (∀ b ∈ fp, H' b = none) → ∀ b ∈ fp, FpOk (compCx X scope x js C s₁ H₁ fp) [(D, { cls := .type "list", data := .seq its.toArray nn })] H' b := fun {H'} hn b hb => by
      obtain ⟨f0, f1, f2, f3, f4, _⟩ := stat hn b hb
      refine ⟨f0, f1, f2, f3, f4, fun p hp => ?_⟩
      have hp' : p ∈ [(D, ({ cls := .type "list", data := .seq its.toArray nn } : Obj))] := hp
      have e : p = (D, { cls := .type "list", data := .seq its.toArray nn }) := by simpa using hp'
      subst e
      exact fun z => hDf (by rw [show D = b from z]; exact hb)
    rcases turn i n ys H4 w4 with ⟨stop, fin⟩ | ⟨go, hlen, step⟩
    · refine thn (T.done (compCx X scope x js C s₁ H₁ fp) rfl rfl rfl hc i _ s4 _ H4 _ I4' (statD fr4) st4 stop) fun r s5 ⟨hr, I5⟩ => ?_
      subst hr
      show RR (.ref D) C (.ok .next) s5
      have oD5 : s5.heap.get? D = some { cls := .type "list", data := .seq its.toArray nn } := (I5.pin (D, _) (List.mem_append_right _ List.mem_cons_self)).1
      obtain ⟨m5, hn5, _⟩ := I5.loc
      have nD : ∀ b o, s₁.heap.get? b = some o → b ≠ D := fun b o e => by rw [← hD]; exact Nat.ne_of_lt (Heap.lt_size e)
      have U : Un (frs X.stack) fp H₁ H4 s₁.heap s5.heap := I5.base
      have IX : Inv X pins σ (upd H4 D (.lst ys)) s5 := I.call' (s' := s5) (ch := fp) I5.os
        ⟨U.keep, U.slot, fun b o e n hb => by rw [upd_ne (nD b o e)]; exact U.free b o e n hb, U.there, fun b xs e => by
          have z := U.tups b xs e
          rw [upd_ne (ne_of_none z fD4)]; exact z, fun b o u e => by
          have z := U.frzs b o u e
          rw [upd_ne (ne_of_none z fD4)]; exact z, fun b ps e => by
          obtain ⟨mr, z⟩ := U.tbls b ps e
          exact ⟨mr, by rw [upd_ne (ne_of_none z fD4)]; exact z⟩⟩ (fun b u e => by
            by_cases hb : b = D
            · subst hb
              rw [upd_same] at e; obtain rfl := Option.some.inj e
              exact ⟨z4, its, nn, rv4, oD5⟩
            · rw [upd_ne hb] at e
              exact (I5.hok b u e).stay (fun c v _ z => z) (fun c z => by rw [upd_ne (ne_of_none z fD4)]; exact z) fun c xs z => by rw [upd_ne (ne_of_none z fD4)]; exact z) I5.bare
        (fun b hb => ⟨(hf b hb).2.2.2.1, (hf b hb).2.1, (hf b hb).2.2.2.2.1, (hf b hb).2.2.2.2.2⟩)
      exact hRR D C ys H4 s5 m5 fD4 IX hn5 (by first | exact hCle | (rw [hD]; exact hCle)) (by rw [upd_ne (Ne.symm hDC)]; exact I5.free) fin
    · refine thn (T.item (compCx X scope x js C s₁ H₁ fp) rfl rfl rfl hc i _ s4 _ H4 _ I4' (statD fr4) st4 go) fun r s5 ⟨u, hr, h5⟩ => ?_
      subst hr
      refine thn h5 fun _ s6 ⟨xv, H6, I6, r6, y6, st6, fr6⟩ => ?_
      have I6' := I6.pinned (statD fr6) (T.obj _ _ st6)
      have hxl : (compCx X scope x js C s₁ H₁ fp).env.scope.names.lookup x = some .local := lookup_relabel_local O.x
      refine wpAny_assign_Name (store_ok (X := compCx X scope x js C s₁ H₁ fp) (i := 0) (x := x) I6' hnd rfl (Or.inl hxl) r6 (fun s7 I7 => ?_) (.inr hxl))
      have I7' : Inv (compCx X scope x js C s₁ H₁ fp) ([(D, { cls := .type "list", data := .seq its.toArray nn })] ++ pinsAt fp s6.heap) (compSt (some xv) σ js) H6 s7 := I7
      refine thn (tests_ok (ht C s₁ H₁ fp) rfl I7' (step xv H6 y6)) fun ok s8 ⟨H8, I8, q8⟩ => ?_
      have keepT : ∀ {s' : Shared} {H' : Hp}, Inv (compCx X scope x js C s₁ H₁ fp) ([(D, { cls := .type "list", data := .seq its.toArray nn })] ++ pinsAt fp s6.heap) (compSt (some xv) σ js) H' s' →
          s'.heap.get? D = some { cls := .type "list", data := .seq its.toArray nn } ∧ H' D = none ∧ (∀ b ∈ fp, ∀ o, s6.heap.get? b = some o → s'.heap.get? b = some o) ∧ ∀ b ∈ fp, H' b = none := fun {s' H'} J => by
        have pD := J.pin (D, { cls := .type "list", data := .seq its.toArray nn }) (List.mem_append_right _ (List.mem_append_left _ List.mem_cons_self))
        refine ⟨pD.1, pD.2.1, fun b hb o e => (J.pin (b, o) (List.mem_append_right _ (List.mem_append_right _ (mem_pinsAt hb e)))).1, fun b hb => ?_⟩
        obtain ⟨o, e, _⟩ := T.obj _ _ st6 b hb
        exact (J.pin (b, o) (List.mem_append_right _ (List.mem_append_right _ (mem_pinsAt hb e)))).2.1
      cases ok with
      | false =>
        rw [if_neg Bool.false_ne_true] at q8 ⊢
        refine L2.ob_ea q8 fun m' hm w8 => ?_
        refine L2.ob_aaa (keepT I8) fun k1 k2 k3 k4 => ?_
        exact ⟨m', hm, i + 1, ys, its, nn, H8, some xv, I8.pins_of (fun p hp => absurd hp (by simp)), T.keep _ _ _ st6 k3, k4, k2, k1, rv4, z4, w8⟩
      | true =>
        rw [if_pos rfl] at q8 ⊢
        have hpass : Passes (CX1 X.prog X.w) { compCx X scope x js C s₁ H₁ fp with xe := notedBy (model X.prog X.w) X.A (compEnvC scope (clOf X.env.cells scope.names []) C X.env) fun x s => RR (.ref D) C (.error x) s } E1 := by
          intro pins2 σ2 H2 s2 ev s' J hcx
          obtain ⟨a, Ce, H', y, rfl, F, c, hE⟩ := hcx
          have U : Un (frs X.stack) fp H₁ H2 s₁.heap s2.heap := J.base
          have IM : Inv X pins σ H2 s2 := I.call' (s' := s2) (ch := fp) J.os ⟨U.keep, U.slot, U.free, U.there, U.tups, U.frzs, U.tbls⟩ J.hok J.bare (fun b hb => ⟨(hf b hb).2.2.2.1, (hf b hb).2.1, (hf b hb).2.2.2.2.1, (hf b hb).2.2.2.2.2⟩)
          obtain ⟨m5, hn5, _⟩ := J.loc
          refine wpAny_mono (hPC pins σ H2 s2 a Ce C H' y s' (compEnvC scope (clOf X.env.cells scope.names []) C X.env) m5 use QQ (.ref D) IM F c hE rfl hn5 J.free ?_ ?_) (fun _ s2 h => hEr _ _ _ _ h) fun x s2 h => hEr _ _ _ _ h
          · exact cfs
          · exact c0
        have I8x : Inv { compCx X scope x js C s₁ H₁ fp with xe := notedBy (model X.prog X.w) X.A (compEnvC scope (clOf X.env.cells scope.names []) C X.env) fun x s => RR (.ref D) C (.error x) s } ([(D, { cls := .type "list", data := .seq its.toArray nn })] ++ pinsAt fp s6.heap) (compSt (some xv) σ js) H8 s8 := I8.recx (A' := X.A) (calm' := X.calm) (pn' := []) I8.ok.frames I8.ok.hd (fun p z => z)
        refine thn (he C s₁ H₁ fp _ hpass _ s8 _ H8 _ I8x q8) fun u9 s9 ⟨y, H9, I9x, r9, m', hm, w9⟩ => ?_
        have I9 : Inv (compCx X scope x js C s₁ H₁ fp) ([(D, { cls := .type "list", data := .seq its.toArray nn })] ++ pinsAt fp s6.heap) (compSt (some xv) σ js) H9 s9 := I9x.recx (X := { compCx X scope x js C s₁ H₁ fp with xe := notedBy (model X.prog X.w) X.A (compEnvC scope (clOf X.env.cells scope.names []) C X.env) fun x s => RR (.ref D) C (.error x) s }) (A' := X.A) (calm' := X.calm) (pn' := []) (xe' := fun _ _ => False) I9x.ok.frames I9x.ok.hd (fun p z => z)
        refine L2.ob_aaa (keepT I9) fun k1 k2 k3 k4 => ?_
        have hsz : its.toArray.size < sizeLine := by rw [List.size_toArray, ← rv4.length]; exact hlen
        refine call_meets F.slot_list_append ⟨_, k1, rfl⟩ F.entry_list_append (F.args_list_append_2 _ _) (PySem.list_append D its.toArray nn u9 (by solve_by_elim (maxDepth := 3) [Nat.le_of_lt, Nat.lt_of_lt_of_le, Nat.le_trans, Nat.lt_of_le_of_lt])) ⟨k1, ?_⟩
        have I9' : Inv (compCx X scope x js C s₁ H₁ fp) [] (compSt (some xv) σ js) H9 s9 := I9.pins_of (fun p hp => absurd hp (by simp))
        have q := PySem.IsL.update k1 (fun a => a.push u9)
        simp only [List.push_toArray] at q
        exact ⟨m', hm, i + 1, ys ++ [y], its ++ [u9], _, H9, some xv, I9'.turned (it := D) (fun b o hb e => (Heap.get?_update_other s9.heap _ (Ne.symm hb)).trans e) k2 hDC (.inr (by first | exact Nat.le_refl _ | (show s₁.heap.objs.size ≤ D; rw [hD]; exact Nat.le_refl _))) (fun yy c e => dcell yy c (cl_sub yy c e)) (fun p hp => absurd (show p ∈ ([] : List (Addr × Obj)) from hp) (by simp)),
          T.keep _ _ _ st6 (fun b hb o e => (Heap.get?_update_other s9.heap _ (fun z => hDf (by rw [z]; exact hb))).trans (k3 b hb o e)), k4, k2, q, rv4.append (.cons r9 .nil), (by rw [List.length_append, List.length_singleton]; exact hlen), w9⟩
  exact codeAny_compStart_list (loop _ rfl) (T.self _ 0 _ _ _ st₁ (loop _ rfl))
theorem pe_compX {E : XK} {wi : TI} (js : List Nat) (hc : X.calm = true) (hi : PI X (.Name x px) iter wi) (O1 : Own X) (hPC : PassesC X E) (he : ∀ C s₁ H₁ fp (xe' : Value → Shared → Prop), Passes (CX1 X.prog X.w) { compCx X scope x js C s₁ H₁ fp with xe := xe' } E → PE { compCx X scope x js C s₁ H₁ fp with xe := xe' } elt te) (ht : ∀ C s₁ H₁ fp, PTests (compCx X scope x js C s₁ H₁ fp) ifs ot)
    (hok : compOk scope X.env x X.N js = true) (hnd : (compN x X.N js).Nodup) (hs : ∀ x, foldedSetIterable iter X.env x = pure x := by intro _; rfl) :
    PE X (.ListComp elt [⟨.Name x px, iter, ifs, 0⟩] scope pos) (tComp wi js ot te) := by
  intro pins s σ H Q I h
  have O := compOk_of hok
  rw [eval_ListComp]
  refine wpAny_comprehension_free (use := none) rfl hs (closure_of (comp_cells O I)) O.kind O.loc (thn (hi pins s σ H _ I h) fun v s1 h1 => thn h1 fun itv s2 h2 => ?_)
  obtain ⟨it, fp, tn, J, H2, e, I2, T, st2, f2, go⟩ := h2
  subst e
  refine comp_blockX (E1 := E) (use := none) (QQ := EP X pins σ Q) (RR := fun acc C => compPost (model X.prog X.w) X.A X.xe none (EP X pins σ Q) acc C) hok hnd hc O1 hPC he ht (fun _ _ _ _ h => h) I2 T st2 f2 go ?_
  intro D C ys H' s' m hD I' hn hC hCn fin
  have f := I2.fpOk hC hCn
  exact ⟨m, hn, fun h'' hs'' => ⟨.ref D, _, I'.turned (it := C) (t' := s'.toks) (fun b o hb e => hs''.extBut b o hb e) hCn f.2.1 f.2.2.2.1 f.2.2.2.2.1 f.2.2.2.2.2, rfl, fin D hD⟩⟩
theorem ps_setcompX {E : XK} {wi : TI} {y : Str} {py spos : Pos} (i : Nat) (js : List Nat) (hc : X.calm = true) (hN : X.N.Nodup) (hy : X.N[i]? = some y) (hl : X.env.scope.names.lookup y = some .local) (hi : PI X (.Name x px) iter wi) (O1 : Own X) (hPC : PassesC X E) (he : ∀ C s₁ H₁ fp (xe' : Value → Shared → Prop), Passes (CX1 X.prog X.w) { compCx X scope x js C s₁ H₁ fp with xe := xe' } E → PE { compCx X scope x js C s₁ H₁ fp with xe := xe' } elt te) (ht : ∀ C s₁ H₁ fp, PTests (compCx X scope x js C s₁ H₁ fp) ifs ot)
    (hok : compOk scope X.env x X.N js = true) (hnd : (compN x X.N js).Nodup)
    (hsw : swapsWith (.ListComp elt [⟨.Name x px, iter, ifs, 0⟩] scope pos) (some (.Name y py)) spos.line X.env = pure true := by rfl) (hs : ∀ x, foldedSetIterable iter X.env x = pure x := by intro _; rfl) :
    PS X (.Assign [.Name y py] (.ListComp elt [⟨.Name x px, iter, ifs, 0⟩] scope pos) spos) (tSetComp wi js ot te i) := by
  intro pins s σ H D I h
  have O := compOk_of hok
  rw [exec_Assign_Name_used _ _ _ _ hsw]
  refine wpAny_bind (wpAny_standAt (wpAny_bind ?_))
  show wpAny _ X.A (do let _ ← comprehension (.ListComp elt [⟨.Name x px, iter, ifs, 0⟩] scope pos) scope X.env _ (newList []) false (eval iter X.env) (some (assign (.Name y py) X.env))) _ _ s
  refine wpAny_bind (wpAny_mono (wpAny_comprehension_free (use := some (assign (.Name y py) X.env)) (Q := fun _ s' => SP X pins D .next s') rfl hs (closure_of (comp_cells O I)) O.kind O.loc
    (thn (hi pins s σ H _ I h) fun v s1 h1 => thn h1 fun itv s2 h2 => ?_)) (fun _ s' hq => wpAny_pure (wpAny_pure hq)) fun _ _ e => e)
  obtain ⟨it, fp, tn, J, H2, e, I2, T, st2, f2, go⟩ := h2
  subst e
  refine comp_blockX (E1 := E) (use := some (assign (.Name y py) X.env)) (QQ := fun _ s' => SP X pins D .next s') (RR := fun acc C => compPost (model X.prog X.w) X.A X.xe (some (assign (.Name y py) X.env)) (fun _ s' => SP X pins D .next s') acc C) hok hnd hc O1 hPC he ht (fun _ _ _ _ h => h) I2 T st2 f2 go ?_
  intro D' C ys H' s' m hD I' hn hC hCn fin
  have f := I2.fpOk hC hCn
  show wpAny _ X.A (assign (.Name y py) X.env (.ref D')) _ _ _
  refine wpAny_assign_Name (store_ok2 (v := .ref D') I' hN hy (Or.inl hl) rfl (fun s'' I'' hch => ?_) (.inr hl))
  refine L2.ob_ea hch fun a sb ha => ?_
  have haC : C ≠ a := by
    rcases ha with z | z
    · rw [z]; exact f.2.1
    · exact Ne.symm (f.2.2.2.2.1 _ _ z)
  refine ⟨m, hn.at' (fun o e => sb.extBut _ o haC e), fun h'' hs'' => ⟨_, _, I''.turned (it := C) (t' := s''.toks) (fun b o hb e => hs''.extBut b o hb e) hCn f.2.1 f.2.2.2.1 f.2.2.2.2.1 f.2.2.2.2.2, fin D' hD⟩⟩
end
end L2

namespace L2
open PySem PySem.Spec PyProof.Rows PySem.Builtin PySem.Builtin.Str
theorem vals_strs : ∀ l : List (Str × Tok), Vals ((l.map (·.1)).map V.str) (strValues l)
  | [] => .nil
  | (x, t) :: r => .cons ⟨t, rfl⟩ (vals_strs r)
section
variable {X : Cx}
inductive rSplit  (x : V) (vs : List V) (H : Hp) (Q : VK) : Prop
  | mk : ∀ (a : Str) (c : Nat), (x = .str a) → (vs = [.str ⟨#[c]⟩]) → (a.length + 2 ≤ sizeLine) → (∀ p, H p = none → Q (.ref p) (upd H p (.lst ((Txt.split a ⟨#[c]⟩).map V.str)))) → rSplit x vs H Q
theorem mt_split : MtR X "str.split" rSplit := by
  intro pins s σ H x xs v us Q I rx rv h
  obtain ⟨a, c, rfl, rfl, hz, q⟩ := h
  obtain ⟨t, rfl⟩ := rx
  obtain ⟨u, rfl, t', rfl⟩ := vals1 rv
  have hf : H s.heap.objs.size = none := I.hok.fresh (Nat.le_refl _)
  have hy : ((⟨#[c]⟩ : Str).length == 0) = false := rfl
  have hlen : (Txt.split a ⟨#[c]⟩).length ≤ sizeLine := by
    have := split_weight a ⟨#[c]⟩ (Nat.le_refl 1)
    lia
  have fin : ∀ (l : List (Str × Tok)) (k : Tok), l.map (·.1) = Txt.split a ⟨#[c]⟩ → EP X pins σ Q (.ref s.heap.objs.size) { s with toks := k, heap := s.heap.push { cls := .type "list", data := .seq (strValues l).toArray } } := fun l k e => by
    refine ⟨.ref s.heap.objs.size, _, ?_, rfl, q _ hf⟩
    have := I.laid (t' := k) (o := .lst ((Txt.split a ⟨#[c]⟩).map V.str)) (h' := s.heap.push { cls := .type "list", data := .seq (strValues l).toArray }) (fun b o e => Heap.get?_push_of_some _ e) (Nat.le_refl _) ⟨by rw [List.length_map]; exact hlen, strValues l, 0, by rw [← e]; exact vals_strs l, Heap.get?_push_size _ rfl⟩
    exact this
  have hp : (partsBetween a (occurrences a ⟨#[c]⟩ 0 a.length (a.length + 1)) (⟨#[c]⟩ : Str).length).length ≤ sizeLine := by
    rw [len_partsBetween]
    have := StrLaws.occ_length_le_len a ⟨#[c]⟩ 0 a.length (a.length + 1)
    lia
  cases h1 : (decide (a.length < (⟨#[c]⟩ : Str).length) || decide (strKind a < strKind ⟨#[c]⟩))
  · cases hf : (occurrences a ⟨#[c]⟩ 0 a.length (a.length + 1)).isEmpty
    · refine call_meets F.slot_str_split (typeIs_str _ _ _) F.entry_str_split (F.args_str_split_2 _ _) (meets_str_split_sep a ⟨#[c]⟩ t t' h1 hy hf (by lia) hp) ?_
      show wants _ _ _ { s with toks := _, heap := s.heap.push { cls := .type "list", data := .seq (strsFrom s.toks (partsBetween a (occurrences a ⟨#[c]⟩ 0 a.length (a.length + 1)) (⟨#[c]⟩ : Str).length)).toArray } }
      rw [strsFrom_eq]
      exact fin (numbered s.toks _) _ ((numbered_texts _ _).trans ((if_neg (ne_true_of_eq_false h1)).trans (if_neg (ne_true_of_eq_false hf))).symm)
    · exact call_meets F.slot_str_split (typeIs_str _ _ _) F.entry_str_split (F.args_str_split_2 _ _) (meets_str_split_not_found a ⟨#[c]⟩ t t' h1 hy hf)
        (fin [(a, t)] s.toks ((if_neg (ne_true_of_eq_false h1)).trans (if_pos hf)).symm)
  · exact call_meets F.slot_str_split (typeIs_str _ _ _) F.entry_str_split (F.args_str_split_2 _ _) (meets_str_split_cannot_occur a ⟨#[c]⟩ t t' h1)
      (fin [(a, t)] s.toks (if_pos h1).symm)
theorem strs_are : ∀ {ys : List Str} {us : List Value}, Vals (ys.map V.str) us → StrsAre us ys
  | [], _, .nil => .nil
  | y :: r, _, .cons ⟨t, e⟩ h => by
    subst e
    exact .cons y t (strs_are h)
inductive rJoin (K : PySem.W.Frag) (x : V) (vs : List V) (H : Hp) (Q : VK) : Prop
  | mk : ∀ (a : Str) (p : Addr) (ys : List Str), (x = .str a) → (vs = [.ref p]) → (SqL K H p (ys.map V.str)) → ((ys.map (·.length)).sum + ys.length * a.length ≤ 16777216) → (Q (.str (Txt.join a ys)) H) → rJoin K x vs H Q
theorem mt_join : MtR X "str.join" (rJoin X.K) := by
  intro pins s σ H x xs v us Q I rx rv h
  obtain ⟨a, p, ys, rfl, rfl, hq, hz, q⟩ := h
  obtain ⟨t, rfl⟩ := rx
  obtain ⟨u, rfl, ru⟩ := vals1 rv
  cases ru
  obtain ⟨its, r', pl, hz'⟩ := I.list hq
  exact PyProof.Rows.join_list pl.isList (strs_are r') hz (fun t' k => ⟨.str _, H, I.tok _, ⟨_, rfl⟩, q⟩)
inductive rSlS  (x : V) (lo : Option Int) (hi : Option Int) (H : Hp) (Q : VK) : Prop
  | mk : ∀ a : Str, (x = .str a) → (a.length ≤ sizeLine) → (Q (.str (Txt.slice a lo hi)) H) → rSlS x lo hi H Q
theorem sl_str : SlR X rSlS := by
  intro pins s σ H x v vl vu lo hi sl Q I rx hs pl pu h
  obtain ⟨a, rfl, hz, q⟩ := h
  obtain ⟨t, rfl⟩ := rx
  refine ⟨"str", _, F.slot_str_getitem.lookup, typeIs_str _ _ _, ?_⟩
  have fin : ∀ t' k, EP X pins σ Q (.str (Txt.slice a lo hi) t') { s with toks := k } := fun t' k => ⟨.str _, H, I.tok _, ⟨_, rfl⟩, q⟩
  cases pl with
  | none => cases pu with
    | none => exact wpAny_getItem_str_slice (l := none) (u := none) (st := none) hs rfl (post_val_or_str ⟨Nat.le_trans (Txt.slice_le a _ _) hz, fin⟩)
    | int => exact wpAny_getItem_str_slice (l := none) (u := some (_, _)) (st := none) hs rfl (post_val_or_str ⟨Nat.le_trans (Txt.slice_le a _ _) hz, fin⟩)
  | int => cases pu with
    | none => exact wpAny_getItem_str_slice (l := some (_, _)) (u := none) (st := none) hs rfl (post_val_or_str ⟨Nat.le_trans (Txt.slice_le a _ _) hz, fin⟩)
    | int => exact wpAny_getItem_str_slice (l := some (_, _)) (u := some (_, _)) (st := none) hs rfl (post_val_or_str ⟨Nat.le_trans (Txt.slice_le a _ _) hz, fin⟩)
inductive rIntS  (xs : List V) (H : Hp) (Q : VK) : Prop
  | mk : ∀ (x : Str) (n : Int), (xs = [.str x]) → (PySem.intText? x = some n) → (x.length ≤ 640) → (Q (.int n) H) → rIntS xs H Q
theorem call_intS : CallR X (.type "int") rIntS := by
  intro pins s σ H xs us Q I r h
  obtain ⟨x, n, rfl, hn, hl, q⟩ := h
  obtain ⟨u, rfl, t, rfl⟩ := vals1 r
  exact PySem.W.KIN.call_text hn hl ⟨.int n, H, I.tok _, ⟨_, rfl⟩, q⟩
end
end L2

namespace L2
open PySem PySem.Spec PyProof.Rows
noncomputable def Its (x : Str) : It := ⟨fun i _ => i < x.cps.size, fun i H y H' => H' = H ∧ ∃ c, x.cps[i]? = some c ∧ y = .str ⟨#[c]⟩, fun i _ => x.cps.size ≤ i⟩
theorem turn_str {P : Program} {w : World} {K : PySem.W.Frag} {tg : Expr} (x : Str) (t : Tok) (it : Addr) : Turn P w K tg (Its x) [it] it (fun i h => h.IsStrIter it "str_ascii_iterator" x t i) where
  mem := by simp
  obj := fun i h st b hb => by
    have e : b = it := by simpa using hb
    subst e
    obtain ⟨o, e, c, d⟩ := st
    exact ⟨o, e, fun v z => by rw [d] at z; cases z⟩
  keep := fun i h h' st k => by
    obtain ⟨o, e, c, d⟩ := st
    exact ⟨o, k it (by simp) o e, c, d⟩
  item := by
    intro X hP hw hK hc i pins s σ H E I hf st hg
    subst hP hw hK
    obtain ⟨c, hx⟩ : ∃ c, x.cps[i]? = some c := ⟨_, Array.getElem?_eq_getElem hg⟩
    obtain ⟨f0, f1, f2, f3, f4, f5⟩ := hf it (by simp)
    refine wpAny_pyNext_ascii_item st hx fun h' st' sb => ?_
    have I1 : Inv X pins σ H { s with heap := h', toks := s.toks + 1 } := I.turned (fun b o hb e => (sb.2 b hb).trans e) f0 f1 f3 f4 f5
    obtain ⟨o, e, c1, d⟩ := id st'
    exact ⟨_, rfl, go_of (s := { s with heap := h', toks := s.toks + 1 }) e c1 d (by decide) ⟨.str ⟨#[c]⟩, H, I1, ⟨_, rfl⟩, ⟨rfl, c, hx, rfl⟩, st', fun b hb => (hf b hb).1⟩⟩
  done := by
    intro X hP hw hK hc i pins s σ H E I hf st hg
    subst hP hw hK
    obtain ⟨f0, f1, f2, f3, f4, f5⟩ := hf it (by simp)
    exact wpAny_pyNext_ascii_end (I.ok.hd hc) st (Array.getElem?_eq_none hg) fun h' eb => ⟨rfl, I.turned (t' := s.toks) (fun b o hb e => eb b o hb e) f0 f1 f3 f4 f5⟩
  self := fun _ _ _ _ _ st h => wpAny_pyIter_striter_ascii st h
section
variable {X : Cx} {tg : Expr}
inductive iStr_b (R : It → Hp → Prop) (v : V) (H1 : Hp) : Prop
  | mk : ∀ x, (v = .str x) → (x.cps.all (· < 128) = true) → (R (Its x) H1) → iStr_b R v H1
noncomputable def iStr (tl : TE) : TI := fun σ H R => tl σ H fun x H1 => iStr_b R x H1
theorem pi_str {l : Expr} {tl : TE} (hl : PE X l tl) : PI X tg l (iStr tl) := by
  intro pins s σ H R I h
  refine thn (hl pins s σ H _ I h) fun v s1 ⟨y, H1, I1, r1, q1⟩ => ?_
  obtain ⟨x, e, hq, q⟩ := q1
  subst e
  obtain ⟨t, rfl⟩ := r1
  refine wpAny_pyIter_ascii hq ?_
  refine ⟨s1.heap.objs.size, [s1.heap.objs.size], _, _, H1, rfl, I1.kept (t' := s1.toks) fun b o e => Heap.get?_push_of_some _ e, turn_str x t _, ⟨_, Heap.get?_push_size _ rfl, rfl, rfl⟩, fun b hb => ?_, q⟩
  have e : b = s1.heap.objs.size := by simpa using hb
  subst e
  exact I1.fpOk (Nat.le_refl _) (I1.hok.fresh (Nat.le_refl _))
end
theorem comp_str {x : Str} {js : List Nat} {te : TE} {σ : St} {H : Hp} {Fin : List V → Hp → Prop} (Pv : Nat → List V → Hp → Prop) (h0 : Pv 0 [] H) (hz : ∀ i ys H, i < x.cps.size → Pv i ys H → ys.length < sizeLine)
    (hs : ∀ i c ys H (T : V → Hp → Prop), x.cps[i]? = some c → Pv i ys H → (∀ y H2, Pv (i + 1) (ys ++ [y]) H2 → T y H2) → te (compSt (some (.str ⟨#[c]⟩)) σ js) H T) (hd : ∀ ys H, Pv x.cps.size ys H → Fin ys H) : compGo (Its x) js none te σ H Fin := by
  refine ⟨fun i m ys H => m = x.cps.size - i ∧ i ≤ x.cps.size ∧ Pv i ys H, ⟨x.cps.size, by simp, Nat.zero_le _, h0⟩, ?_⟩
  rintro i m ys H ⟨rfl, hi, p⟩
  by_cases hlt : i < x.cps.size
  · refine .inr ⟨hlt, hz i ys H hlt p, fun v H' y => ?_⟩
    obtain ⟨e, c, hc, e2⟩ := y
    subst e e2
    unfold tests
    simp only [if_true]
    exact hs i c ys _ _ hc p fun y H2 p2 => ⟨x.cps.size - (i + 1), by lia, rfl, hlt, p2⟩
  · have e : i = x.cps.size := by lia
    subst e
    exact .inl ⟨Nat.le_refl _, hd ys H p⟩
end L2

namespace L2
open PySem PySem.Spec PyProof.Rows NM
noncomputable def figs : Str := Str.ofString "0123456789"
noncomputable def digB (c : Nat) : Bool := !(Builtin.Str.occurrences figs ⟨#[c]⟩ 0 figs.length 1).isEmpty
theorem digB_eq (c : Nat) : digB c = decide (48 ≤ c ∧ c ≤ 57) := by
  unfold digB
  rw [StrLaws.found_one]
  refine decide_eq_decide.mpr ?_
  show c ∈ [48, 49, 50, 51, 52, 53, 54, 55, 56, 57] ↔ _
  simp only [List.mem_cons, List.not_mem_nil, or_false]
  omega
noncomputable def lowT (x : Str) : Prop := x.cps.all (· < 128) = true
theorem lowT_iff {x : Str} : lowT x ↔ ∀ c ∈ x.cps.toList, c < 128 := by
  unfold lowT
  rw [Array.all_eq_true']
  simp
noncomputable def isNumT (x : Str) : Bool := decide (1 ≤ x.length ∧ x.length ≤ 3) && !(decide (1 < x.length) && decide (x.cps.toList.head? = some 48)) && x.cps.toList.all digB
noncomputable def numT (x : Str) : Int := ((NumText.digitsVal x.cps.toList : Nat) : Int)
theorem num_reads' {x : Str} (h : isNumT x = true) : intText? x = some (numT x) ∧ x.length ≤ 3 := by
  unfold isNumT at h
  simp only [Bool.and_eq_true, decide_eq_true_eq, List.all_eq_true] at h
  obtain ⟨⟨⟨h1, h2⟩, _⟩, h3⟩ := h
  refine ⟨PySem.intText_digits (fun c hc => ?_) (fun z => ?_) (by lia), h2⟩
  · have := h3 c hc
    rw [digB_eq] at this
    simpa using this
  · have : x.cps.toList.length = x.length := by simp [Str.length]
    rw [z] at this
    simp at this
    lia
noncomputable def cutC (c : Nat) : List Nat → List (List Nat)
  | [] => [[]]
  | d :: r => if d = c then [] :: cutC c r else match cutC c r with
    | p :: ps => (d :: p) :: ps
    | [] => [[d]]
noncomputable def glueC (c : Nat) : List (List Nat) → List Nat
  | [] => []
  | [p] => p
  | p :: q :: r => p ++ c :: glueC c (q :: r)
theorem cut_free {c : Nat} : ∀ {p : List Nat}, c ∉ p → cutC c p = [p]
  | [], _ => rfl
  | d :: r, h => by
    have h1 : d ≠ c := fun z => h (by rw [z]; exact List.mem_cons_self ..)
    unfold cutC
    rw [if_neg h1, cut_free fun z => h (List.mem_cons_of_mem _ z)]
theorem cut_at {c : Nat} : ∀ {p : List Nat} {r : List Nat}, c ∉ p → cutC c (p ++ c :: r) = p :: cutC c r
  | [], r, _ => by show (if c = c then _ else _) = _; rw [if_pos rfl]
  | d :: p, r, h => by
    have h1 : d ≠ c := fun z => h (by rw [z]; exact List.mem_cons_self ..)
    show (if d = c then [] :: cutC c (p ++ c :: r) else match cutC c (p ++ c :: r) with | q :: ps => (d :: q) :: ps | [] => [[d]]) = _
    rw [if_neg h1, cut_at fun z => h (List.mem_cons_of_mem _ z)]
theorem cut_glue {c : Nat} : ∀ {ps : List (List Nat)}, ps ≠ [] → (∀ p ∈ ps, c ∉ p) → cutC c (glueC c ps) = ps
  | [], h, _ => absurd rfl h
  | [p], _, h => cut_free (h p (List.mem_cons_self ..))
  | p :: q :: r, _, h => by
    show cutC c (p ++ c :: glueC c (q :: r)) = _
    rw [cut_at (h p (List.mem_cons_self ..)), cut_glue (List.cons_ne_nil _ _) fun x hx => h x (List.mem_cons_of_mem _ hx)]
theorem glue_join (c : Nat) : ∀ ps : List Str, (Str.join ⟨#[c]⟩ ps).cps.toList = glueC c (ps.map (·.cps.toList))
  | [] => rfl
  | [p] => rfl
  | p :: q :: r => by
    show (p ++ ⟨#[c]⟩ ++ Str.join ⟨#[c]⟩ (q :: r)).cps.toList = p.cps.toList ++ c :: glueC c ((q :: r).map (·.cps.toList))
    rw [Str.cps_append, Str.cps_append, Array.toList_append, Array.toList_append, glue_join c (q :: r), List.append_assoc]
    rfl
noncomputable def spl (x : Str) (c : Nat) : List Str := Txt.split x ⟨#[c]⟩
theorem spl_cut (x : Str) (c : Nat) : (spl x c).map (·.cps.toList) = cutC c x.cps.toList := by
  have h1 := glue_join c (spl x c)
  unfold spl at h1
  rw [StrLaws.join_split] at h1
  rw [h1]
  refine (cut_glue (fun z => ?_) fun p hp => ?_).symm
  · have := split_pos x ⟨#[c]⟩
    rw [List.map_eq_nil_iff] at z
    unfold spl at z
    rw [z] at this
    simp at this
  · obtain ⟨q, hq, rfl⟩ := List.mem_map.mp hp
    exact StrLaws.split_free x c q hq
theorem glue_mem {c d : Nat} : ∀ {ps : List (List Nat)} {p : List Nat}, p ∈ ps → d ∈ p → d ∈ glueC c ps
  | [p], q, h, hd => by rw [List.mem_singleton.mp h] at hd; exact hd
  | p :: q :: r, x, h, hd => by
    rcases List.mem_cons.mp h with rfl | h
    · exact List.mem_append_left _ hd
    · exact List.mem_append_right _ (List.mem_cons_of_mem _ (glue_mem h hd))
theorem glue_len {c : Nat} : ∀ {ps : List (List Nat)} {p : List Nat}, p ∈ ps → p.length ≤ (glueC c ps).length
  | [p], q, h => by rw [List.mem_singleton.mp h]; exact Nat.le_refl _
  | p :: q :: r, x, h => by
    show _ ≤ (p ++ c :: glueC c (q :: r)).length
    rw [List.length_append, List.length_cons]
    rcases List.mem_cons.mp h with rfl | h
    · lia
    · have := glue_len (c := c) h; lia
theorem spl_glue (x : Str) (c : Nat) : x.cps.toList = glueC c ((spl x c).map (·.cps.toList)) := by
  rw [← glue_join]
  unfold spl
  rw [StrLaws.join_split]
theorem spl_low {x p : Str} {c : Nat} (h : lowT x) (hp : p ∈ spl x c) : lowT p := lowT_iff.mpr fun d hd => lowT_iff.mp h d (by rw [spl_glue x c]; exact glue_mem (List.mem_map.mpr ⟨p, hp, rfl⟩) hd)
theorem spl_len {x p : Str} {c : Nat} (hp : p ∈ spl x c) : p.length ≤ x.length := by
  have := glue_len (c := c) (List.mem_map.mpr ⟨p, hp, rfl⟩ : p.cps.toList ∈ (spl x c).map (·.cps.toList))
  rw [← spl_glue] at this
  simpa [Str.length] using this
theorem spl_many (x : Str) (c : Nat) : (spl x c).length ≤ x.length + 2 := split_le _ _
theorem spl_ne (x : Str) (c : Nat) : spl x c ≠ [] := fun z => by
  have := split_pos x ⟨#[c]⟩
  unfold spl at z
  rw [z] at this
  simp at this
noncomputable def rdNum (x : Str) : Option Int := if isNumT x = true then some (numT x) else none
noncomputable def rdWide (x : Str) : Option Int := match spl x 32 with
  | [a, b] => if a = Str.ofString "wide" then rdNum b else none
  | _ => none
noncomputable def rdStep (x : Str) : Option (List Int) := match spl x 43 with
  | [a, b] => match rdNum a, rdNum b with
    | some i, some j => some [i, j]
    | _, _ => none
  | _ => none
noncomputable def rdAll {α : Type} (f : Str → Option α) : List Str → Option (List α)
  | [] => some []
  | x :: r => match f x, rdAll f r with
    | some a, some l => some (a :: l)
    | _, _ => none
theorem rdAll_snoc {α : Type} {f : Str → Option α} {x : Str} {a : α} (hx : f x = some a) : ∀ {xs : List Str} {l : List α}, rdAll f xs = some l → rdAll f (xs ++ [x]) = some (l ++ [a])
  | [], l, h => by
    obtain rfl := Option.some.inj h
    show (match f x, rdAll f [] with | some a, some l => some (a :: l) | _, _ => none) = _
    rw [hx]; rfl
  | y :: r, l, h => by
    have h : (match f y, rdAll f r with | some a, some l => some (a :: l) | _, _ => none) = some l := h
    show (match f y, rdAll f (r ++ [x]) with | some a, some l => some (a :: l) | _, _ => none) = _
    cases hy : f y with
    | none => rw [hy] at h; cases h
    | some b =>
      cases hr : rdAll f r with
      | none => rw [hy, hr] at h; cases h
      | some m =>
        rw [hy, hr] at h
        obtain rfl := Option.some.inj h
        rw [rdAll_snoc hx hr]; rfl
theorem rdAll_none {α : Type} {f : Str → Option α} {x : Str} (hx : f x = none) : ∀ {xs : List Str}, x ∈ xs → rdAll f xs = none
  | y :: r, h => by
    show (match f y, rdAll f r with | some a, some l => some (a :: l) | _, _ => none) = _
    rcases List.mem_cons.mp h with rfl | h
    · rw [hx]
    · rw [rdAll_none hx h]
      cases f y <;> rfl
theorem cutV_one (xs : List V) : cutV xs (some 1) none = xs.drop 1 := cutL_drop xs 1
noncomputable def rdOuts (x : Str) : Option (List Int) := match spl x 32 with
  | a :: r => if a = Str.ofString "outs" then rdAll rdNum r else none
  | [] => none
inductive spIsNum (vs : List V) (H : Hp) (Q : VK) (_e3 : XK) : Prop
  | mk : ∀ x : Str, (vs = [.str x]) → (lowT x) → (x.length ≤ 10000) → (∀ H', Same H H' → Q (.bl (isNumT x)) H') → spIsNum vs H Q _e3
inductive spRdI (CT : Addr) (f : Str → Option Int) (vs : List V) (H : Hp) (Q : VK) (E : XK) : Prop
  | mk : ∀ x : Str, (vs = [.str x]) → (lowT x) → (x.length ≤ 10000) → (∀ H', Same H H' → f x = none → E (.ref CT) none H') → (∀ H' n, Same H H' → f x = some n → Q (.int n) H') → spRdI CT f vs H Q E
inductive spRdS (CT : Addr) (vs : List V) (H : Hp) (Q : VK) (E : XK) : Prop
  | mk : ∀ x : Str, (vs = [.str x]) → (lowT x) → (x.length ≤ 10000) → (∀ H', Same H H' → rdStep x = none → E (.ref CT) none H') → (∀ H' l p, Same H H' → rdStep x = some l → H' p = some (.tup (l.map V.int)) → Q (.ref p) H') → spRdS CT vs H Q E
inductive spRdO (CT : Addr) (vs : List V) (H : Hp) (Q : VK) (E : XK) : Prop
  | mk : ∀ x : Str, (vs = [.str x]) → (lowT x) → (x.length ≤ 10000) → (∀ H', Same H H' → rdOuts x = none → E (.ref CT) none H') → (∀ H' l p, Same H H' → rdOuts x = some l → H' p = some (.lst (l.map V.int)) → Q (.ref p) H') → spRdO CT vs H Q E
structure TextN where
  w : Int
  st : List (List Int)
  ou : List Int
noncomputable def lastS (ws : List Str) : Str := ws.getD (ws.length - 1) ⟨#[]⟩
noncomputable def rdNet (x : Str) : Option TextN := match rdWide ((spl x 10).getD 0 ⟨#[]⟩), rdAll rdStep (((spl x 10).drop 1).take ((spl x 10).length - 2)), rdOuts (lastS (spl x 10)) with
  | some w, some st, some ou => some ⟨w, st, ou⟩
  | _, _, _ => none
inductive spRead (CT : Addr) (vs : List V) (H : Hp) (Q : VK) (E : XK) : Prop
  | mk : ∀ x : Str, (vs = [.str x]) → (lowT x) → (x.length ≤ 9000) → (∀ H', Same H H' → rdNet x = none → E (.ref CT) none H') → (∀ H' t, Same H H' → rdNet x = some t → ¬ Good t.w t.st t.ou → E (.ref CT) (some 0) H') →
      (∀ H' t n sa oa rs, Same H H' → rdNet x = some t → Good t.w t.st t.ou → NetAt H' n t.w t.st t.ou sa oa rs → Q (.ref n) H') → spRead CT vs H Q E
theorem rdAll_len {α : Type} {f : Str → Option α} : ∀ {xs : List Str} {l : List α}, rdAll f xs = some l → l.length = xs.length
  | [], l, h => by obtain rfl := Option.some.inj h; rfl
  | y :: r, l, h => by
    have h : (match f y, rdAll f r with | some a, some l => some (a :: l) | _, _ => none) = some l := h
    cases hy : f y with
    | none => rw [hy] at h; cases h
    | some b =>
      cases hr : rdAll f r with
      | none => rw [hy, hr] at h; cases h
      | some m =>
        rw [hy, hr] at h
        obtain rfl := Option.some.inj h
        rw [List.length_cons, List.length_cons, rdAll_len hr]
theorem rdOuts_len {x : Str} {l : List Int} (h : rdOuts x = some l) : l.length ≤ x.length + 1 := by
  have nl := spl_many x 32
  have hw : rdOuts x = (match spl x 32 with | a :: r => (if a = Str.ofString "outs" then rdAll rdNum r else none) | [] => none) := rfl
  rw [hw] at h
  generalize spl x 32 = ws at h nl
  rcases ws with _ | ⟨a, r⟩
  · cases h
  · have h : (if a = Str.ofString "outs" then rdAll rdNum r else none) = some l := h
    split at h
    · rw [rdAll_len h]
      simp at nl
      lia
    · cases h
theorem cutV_mid (xs : List V) (h : 1 ≤ xs.length) : cutV xs (some 1) (some (-1)) = (xs.drop 1).take (xs.length - 2) := by
  unfold cutV
  have e1 : HT.sIx xs.length 0 (some 1) = 1 := by unfold HT.sIx; simp; lia
  have e2 : HT.sIx xs.length xs.length (some (-1)) = xs.length - 1 := by unfold HT.sIx; simp; lia
  rw [e1, e2]
  congr 1
theorem comp_lstT {K : PySem.W.Frag} {a : Addr} {xs : List V} {n : Nat} {tg : TG} {js : List Nat} {te : TE} {σ : St} {H : Hp} {Fin : List V → Hp → Prop} (Pv : Nat → List V → Hp → Prop) (h0 : Pv 0 [] H) (hl : ∀ i ys H, Pv i ys H → SqL K H a xs) (hz : ∀ i ys H, i < xs.length → Pv i ys H → ys.length < sizeLine)
    (hb : ∀ i x ys H (TT : V → Hp → Prop), xs[i]? = some x → Pv i ys H → (∀ y H4, Pv (i + 1) (ys ++ [y]) H4 → TT y H4) → ∀ vs : List (Option V), vs.length = n → tg x (compStT vs σ js) H fun σ2 H2 => (∃ vs2 : List (Option V), vs2.length = n ∧ σ2 = compStT vs2 σ js) ∧ te σ2 H2 TT)
    (hf : ∀ ys H, Pv xs.length ys H → Fin ys H) : compGoT n tg (Itl K a) js none te σ H Fin := by
  refine ⟨fun i m ys H => m + i = xs.length ∧ Pv i ys H, ⟨xs.length, rfl, h0⟩, fun i m ys H ⟨e, iv⟩ => ?_⟩
  by_cases hi : i < xs.length
  · refine .inr ⟨⟨xs, xs[i], hl _ _ _ iv, List.getElem?_eq_getElem hi⟩, hz _ _ _ hi iv, ?_⟩
    rintro x H' ⟨rfl, g1⟩ vs hvs
    exact hb i x ys H' _ (g1 _ (hl _ _ _ iv)) iv (fun y H4 h4 => ⟨m - 1, by lia, by lia, h4⟩) vs hvs
  · obtain rfl : i = xs.length := by lia
    exact .inl ⟨⟨xs, hl _ _ _ iv, Nat.le_refl _⟩, hf _ _ iv⟩
noncomputable def nS (n : Nat) : Str := Str.ofString (toString ((n : Nat) : Int))
noncomputable def stS (p : Nat × Nat) : Str := Str.empty ++ nS p.1 ++ Str.ofString "+" ++ nS p.2
noncomputable def rowsW (N : NetN) : List Str := [Str.empty ++ Str.ofString "wide " ++ nS N.w] ++ N.st.map stS ++ [Txt.join (Str.ofString " ") ([Str.ofString "outs"] ++ N.ou.map nS)]
noncomputable def wrN (N : NetN) : Str := Txt.join (Str.ofString "\n") (rowsW N)
inductive spWritten (CB : Addr) (vs : List V) (H : Hp) (Q : VK) (E : XK) : Prop
  | mk : ∀ (a sa oa : Addr) (rs : List V) (wide : Int) (steps : List (List Int)) (outs : List Int), (vs = [.ref a]) → (outs.length ≤ 10000) → (NetAt H a wide steps outs sa oa rs) → (∀ H', Same H H' → ¬ Good wide steps outs → E (.ref CB) none H') →
      (∀ N : NetN, N.Ok → wide = N.w → steps = N.steps → outs = N.outs → ∀ H', Same H H' → Q (.str (wrN N)) H') → spWritten CB vs H Q E
theorem nS_len {n : Nat} (h : n ≤ 16777216) : (nS n).length ≤ 1921 := fI (log2_small h)
theorem sum_lens {B : Nat} : ∀ {ys : List Str}, (∀ y ∈ ys, y.length ≤ B) → (ys.map (·.length)).sum ≤ ys.length * B
  | [], _ => Nat.zero_le _
  | y :: r, h => by
    rw [List.map_cons, List.sum_cons, List.length_cons, Nat.add_mul]
    have h1 := h y (List.mem_cons_self ..)
    have h2 := sum_lens fun z hz => h z (List.mem_cons_of_mem _ hz)
    lia
theorem stS_len {p : Nat × Nat} (h1 : p.1 ≤ 16777216) (h2 : p.2 ≤ 16777216) : (stS p).length ≤ 3850 := by
  have a := nS_len h1
  have b := nS_len h2
  have c : (Str.ofString "+").length = 1 := by decide
  unfold stS
  simp only [Str.length_append, emptyLen]
  lia
inductive spText (vs : List V) (H : Hp) (Q : VK) (_e3 : XK) : Prop
  | mk : ∀ (a sa oa : Addr) (rs : List V) (N : NetN), (vs = [.ref a]) → (NetAt H a N.w N.steps N.outs sa oa rs) → (N.Ok) → (∀ H', Same H H' → Q (.str (wrN N)) H') → spText vs H Q _e3
theorem stS_eq (p : Nat × Nat) : nS p.1 ++ Str.ofString "+" ++ nS p.2 = stS p := by unfold stS; rw [Str.empty_append]
theorem outs_eq {ys : List Str} (h : ys ≠ []) : Str.ofString "outs " ++ Txt.join (Str.ofString " ") ys = Txt.join (Str.ofString " ") ([Str.ofString "outs"] ++ ys) := by
  rcases ys with _ | ⟨y, r⟩
  · exact absurd rfl h
  · rw [show Txt.join (Str.ofString " ") (y :: r) = Str.join (Str.ofString " ") (y :: r) from StrLaws.glued_eq_join _ _, show Txt.join (Str.ofString " ") ([Str.ofString "outs"] ++ y :: r) = Str.join (Str.ofString " ") ([Str.ofString "outs"] ++ y :: r) from StrLaws.glued_eq_join _ _]
    show _ = Str.ofString "outs" ++ Str.ofString " " ++ Str.join (Str.ofString " ") (y :: r)
    rw [show Str.ofString "outs" ++ Str.ofString " " = Str.ofString "outs " from by decide]
theorem rows_fit {N : NetN} (hN : N.Ok) : (Str.empty ++ Str.ofString "wide " ++ nS N.w).length ≤ 3850 ∧ (([Str.ofString "outs"] ++ N.ou.map nS).map (·.length)).sum + ([Str.ofString "outs"] ++ N.ou.map nS).length * 1 ≤ 130000 ∧ (Txt.join (Str.ofString " ") ([Str.ofString "outs"] ++ N.ou.map nS)).length ≤ 130000 ∧ ((rowsW N).map (·.length)).sum + (rowsW N).length * 1 ≤ 16777216 := by
  have hw := hN.hi
  have hsl := hN.len
  have hou := hN.ol
  have a1 := nS_len (n := N.w) (by lia)
  have a3 : (Str.ofString "wide ").length = 5 := by decide
  have a4 : (Str.ofString "outs").length = 4 := by decide
  have a5 : (Str.ofString " ").length = 1 := by decide
  have a6 : (Str.ofString "\n").length = 1 := by decide
  have oL : ∀ y ∈ [Str.ofString "outs"] ++ N.ou.map nS, y.length ≤ 1921 := fun y hy => by
    rcases List.mem_append.mp hy with h | h
    · rw [List.mem_singleton.mp h, a4]; decide
    · obtain ⟨o, ho, rfl⟩ := List.mem_map.mp h
      have := hN.ob o ho
      exact nS_len (by lia)
  have oC : ([Str.ofString "outs"] ++ N.ou.map nS).length ≤ 65 := by rw [List.length_append, List.length_map]; show 1 + _ ≤ 65; lia
  have oS := sum_lens oL
  have oB : (([Str.ofString "outs"] ++ N.ou.map nS).map (·.length)).sum ≤ 65 * 1921 := Nat.le_trans oS (Nat.mul_le_mul_right _ oC)
  have jL : (Txt.join (Str.ofString " ") ([Str.ofString "outs"] ++ N.ou.map nS)).length ≤ 130000 := by
    have := StrLaws.join_length_le (Str.ofString " ") ([Str.ofString "outs"] ++ N.ou.map nS)
    rw [show Txt.join (Str.ofString " ") ([Str.ofString "outs"] ++ N.ou.map nS) = Str.join (Str.ofString " ") ([Str.ofString "outs"] ++ N.ou.map nS) from StrLaws.glued_eq_join _ _]
    rw [a5] at this
    lia
  have rL : ∀ y ∈ [Str.empty ++ Str.ofString "wide " ++ nS N.w] ++ N.st.map stS, y.length ≤ 3850 := fun y hy => by
    rcases List.mem_append.mp hy with h | h
    · rw [List.mem_singleton.mp h]
      simp only [Str.length_append, emptyLen]; lia
    · obtain ⟨p, hp, rfl⟩ := List.mem_map.mp h
      obtain ⟨i, hi⟩ := List.getElem?_of_mem hp
      obtain ⟨q1, q2⟩ := hN.s1 i p hi
      have hi := (List.getElem?_eq_some_iff.mp hi).1
      exact stS_len (p := p) (by lia) (by lia)
  have rC : ([Str.empty ++ Str.ofString "wide " ++ nS N.w] ++ N.st.map stS).length ≤ 501 := by rw [List.length_append, List.length_map]; show 1 + _ ≤ 501; lia
  have rB : ((rowsW N).map (·.length)).sum + (rowsW N).length * 1 ≤ 16777216 := by
    have h1 : (([Str.empty ++ Str.ofString "wide " ++ nS N.w] ++ N.st.map stS).map (·.length)).sum ≤ 501 * 3850 := Nat.le_trans (sum_lens rL) (Nat.mul_le_mul_right _ rC)
    unfold rowsW
    rw [List.map_append, List.sum_append, List.length_append]
    show _ + ((Txt.join (Str.ofString " ") ([Str.ofString "outs"] ++ N.ou.map nS)).length + 0) + (_ + 1) * 1 ≤ 16777216
    lia
  exact ⟨rL _ (by simp), by lia, jL, rB⟩
inductive spRefusalT (CB CT : Addr) (vs : List V) (H : Hp) (Q : VK) (_e3 : XK) : Prop
  | mk : ∀ (e C : Addr) (x : Str), (vs = [.ref e]) → (H e = some (excO e C)) → (C = CB ∧ x = Str.ofString "net" ∨ C = CT ∧ x = Str.ofString "text") → (∀ H', Same H H' → Q (.str x) H') → spRefusalT CB CT vs H Q _e3
inductive spIsNetL (vs : List V) (H : Hp) (Q : VK) (_e3 : XK) : Prop
  | mk : ∀ (a sa oa : Addr) (rs : List V) (wide : Int) (steps : List (List Int)) (outs : List Int), (vs = [.ref a]) → (outs.length ≤ 10000) → (NetAt H a wide steps outs sa oa rs) → (∀ H', Same H H' → Good wide steps outs → Q (.bl true) H') → (∀ H', Same H H' → ¬ Good wide steps outs → Q (.bl false) H') → spIsNetL vs H Q _e3
end L2

namespace L2
open PySem PySem.Spec PyProof.Rows NM
theorem num1 : ∀ a, a < 10 → nS a = ⟨#[48 + a]⟩ := by decide +kernel
theorem num2 : ∀ a, a < 10 → ∀ b, b < 10 → decide (nS (a * 10 + b) = ⟨#[48 + a, 48 + b]⟩) = decide (a ≠ 0) := by decide +kernel
theorem num3 : ∀ a, a < 10 → ∀ b, b < 10 → ∀ c, c < 10 → decide (nS ((a * 10 + b) * 10 + c) = ⟨#[48 + a, 48 + b, 48 + c]⟩) = decide (a ≠ 0) := by decide +kernel
noncomputable def lawNum (x : Str) : Bool := !decide (3 < x.length) && (!decide (x = ⟨#[]⟩) && (x.cps.toList.all digB && decide (Str.ofString (toString (numT x)) = x)))
theorem ext_list {x : Str} {l : List Nat} (h : x.cps.toList = l) : x = ⟨l.toArray⟩ := by
  obtain ⟨c⟩ := x
  cases c
  exact congrArg (fun l => (⟨⟨l⟩⟩ : Str)) h
theorem dig_sub {c : Nat} (h : digB c = true) : ∃ a, a < 10 ∧ c = 48 + a := by
  rw [digB_eq] at h
  have h := of_decide_eq_true h
  exact ⟨c - 48, by lia, by lia⟩
theorem lawNum_eq (x : Str) : lawNum x = isNumT x := by
  have hl : x.cps.toList.length = x.length := by simp [Str.length]
  have ex := @ext_list x
  unfold lawNum isNumT
  rcases hx : x.cps.toList with _ | ⟨a, _ | ⟨b, _ | ⟨c, _ | ⟨d, r⟩⟩⟩⟩
  · rw [hx] at hl
    have e := ex hx
    have h0 : x.length = 0 := hl.symm
    rw [decide_eq_true (show x = ⟨#[]⟩ from e), decide_eq_false (show ¬ (1 ≤ x.length ∧ x.length ≤ 3) by lia)]
    simp
  · rw [hx] at hl
    have e := ex hx
    have h0 : x.length = 1 := hl.symm
    rw [decide_eq_false (show ¬ 3 < x.length by lia), decide_eq_false (show ¬ x = ⟨#[]⟩ from fun z => by rw [z] at h0; cases h0), decide_eq_true (show 1 ≤ x.length ∧ x.length ≤ 3 by lia), decide_eq_false (show ¬ 1 < x.length by lia)]
    cases hd : [a].all digB with
    | false => simp
    | true =>
      simp only [List.all_cons, List.all_nil, Bool.and_true] at hd
      obtain ⟨a', ha, rfl⟩ := dig_sub hd
      have : Str.ofString (toString (numT x)) = x := by
        rw [e]
        show nS _ = _
        refine Eq.trans ?_ (num1 a' ha)
        congr 1
        simp [NumText.digitsVal]
      rw [decide_eq_true this]; rfl
  · rw [hx] at hl
    have e := ex hx
    have h0 : x.length = 2 := hl.symm
    rw [decide_eq_false (show ¬ 3 < x.length by lia), decide_eq_false (show ¬ x = ⟨#[]⟩ from fun z => by rw [z] at h0; cases h0), decide_eq_true (show 1 ≤ x.length ∧ x.length ≤ 3 by lia), decide_eq_true (show 1 < x.length by lia)]
    cases hd : [a, b].all digB with
    | false => simp
    | true =>
      simp only [List.all_cons, List.all_nil, Bool.and_true, Bool.and_eq_true] at hd
      obtain ⟨a', ha', rfl⟩ := dig_sub hd.1
      obtain ⟨b', hb', rfl⟩ := dig_sub hd.2
      have e1 : Str.ofString (toString (numT x)) = nS (a' * 10 + b') := by
        rw [e]
        show nS _ = _
        congr 1
        simp [NumText.digitsVal]
      have e2 : decide (Str.ofString (toString (numT x)) = x) = decide (a' ≠ 0) := by
        rw [e1, ← num2 a' ha' b' hb']
        exact decide_eq_decide.mpr ⟨fun h => h.trans e, fun h => h.trans e.symm⟩
      rw [e2]
      show (true && (true && (true && decide (a' ≠ 0)))) = (true && !(true && decide (some (48 + a') = some 48)) && true)
      by_cases h5 : a' = 0
      · subst h5; rfl
      · rw [decide_eq_true h5, decide_eq_false (fun z => h5 (by have := Option.some.inj z; lia))]; rfl
  · rw [hx] at hl
    have e := ex hx
    have h0 : x.length = 3 := hl.symm
    rw [decide_eq_false (show ¬ 3 < x.length by lia), decide_eq_false (show ¬ x = ⟨#[]⟩ from fun z => by rw [z] at h0; cases h0), decide_eq_true (show 1 ≤ x.length ∧ x.length ≤ 3 by lia), decide_eq_true (show 1 < x.length by lia)]
    cases hd : [a, b, c].all digB with
    | false => simp
    | true =>
      simp only [List.all_cons, List.all_nil, Bool.and_true, Bool.and_eq_true] at hd
      obtain ⟨a', ha', rfl⟩ := dig_sub hd.1
      obtain ⟨b', hb', rfl⟩ := dig_sub hd.2.1
      obtain ⟨c', hc', rfl⟩ := dig_sub hd.2.2
      have e1 : Str.ofString (toString (numT x)) = nS ((a' * 10 + b') * 10 + c') := by
        rw [e]
        show nS _ = _
        congr 1
        simp [NumText.digitsVal]
      have e2 : decide (Str.ofString (toString (numT x)) = x) = decide (a' ≠ 0) := by
        rw [e1, ← num3 a' ha' b' hb' c' hc']
        exact decide_eq_decide.mpr ⟨fun h => h.trans e, fun h => h.trans e.symm⟩
      rw [e2]
      show (true && (true && (true && decide (a' ≠ 0)))) = (true && !(true && decide (some (48 + a') = some 48)) && true)
      by_cases h5 : a' = 0
      · subst h5; rfl
      · rw [decide_eq_true h5, decide_eq_false (fun z => h5 (by have := Option.some.inj z; lia))]; rfl
  · rw [hx] at hl
    have h0 : 4 ≤ x.length := by rw [← hl]; simp
    rw [decide_eq_true (show 3 < x.length by lia), decide_eq_false (show ¬ (1 ≤ x.length ∧ x.length ≤ 3) by lia)]
    simp
theorem digits_read {x : Str} (h1 : 1 ≤ x.length) (h2 : x.length ≤ 3) (h3 : x.cps.toList.all digB = true) : intText? x = some (numT x) := by
  refine PySem.intText_digits (fun c hc => ?_) (fun z => ?_) (by lia)
  · have := List.all_eq_true.mp h3 c hc
    rw [digB_eq] at this
    simpa using this
  · have : x.cps.toList.length = x.length := by simp [Str.length]
    rw [z] at this
    simp at this
    lia
theorem val_small {x : Str} (h2 : x.length ≤ 3) (h3 : x.cps.toList.all digB = true) : NumText.digitsVal x.cps.toList ≤ 16777216 := by
  have hl : x.cps.toList.length = x.length := by simp [Str.length]
  have h3 := List.all_eq_true.mp h3
  unfold NumText.digitsVal
  have hb : ∀ c ∈ x.cps.toList, c - 48 < 10 := fun c hc => by
    have := h3 c hc
    rw [digB_eq] at this
    have := of_decide_eq_true this
    lia
  rcases hx : x.cps.toList with _ | ⟨a, _ | ⟨b, _ | ⟨c, _ | ⟨d, r⟩⟩⟩⟩
  · simp
  · have := hb a (by simp [hx]); simp; lia
  · have := hb a (by simp [hx]); have := hb b (by simp [hx]); simp; lia
  · have := hb a (by simp [hx]); have := hb b (by simp [hx]); have := hb c (by simp [hx]); simp; lia
  · rw [hx] at hl; simp at hl; lia
inductive spNumsL (K : PySem.W.Frag) (vs : List V) (H : Hp) (Q : VK) (_e3 : XK) : Prop
  | mk : ∀ (p : Addr) (ws : List Str), (vs = [.ref p]) → (H p = some (.lst (ws.map V.str))) → (ws.length ≤ 9010) → (∀ x ∈ ws, lowT x ∧ x.length ≤ 9010) → (∀ H', Same H H' → rdAll rdNum ws = none → Q .non H') → (∀ H' l q, Same H H' → rdAll rdNum ws = some l → H' q = some (.lst (l.map V.int)) → Q (.ref q) H') → spNumsL K vs H Q _e3
end L2

namespace L2
open PySem PySem.Spec PyProof.Rows NM
noncomputable def ofL (l : List Nat) : Str := ⟨l.toArray⟩
theorem ofL_eq (x : Str) : ofL x.cps.toList = x := (ext_list rfl).symm
theorem map_inj {a b : List Str} (h : a.map (·.cps.toList) = b.map (·.cps.toList)) : a = b := by
  have := congrArg (List.map ofL) h
  rw [List.map_map, List.map_map] at this
  have e : (ofL ∘ fun x : Str => x.cps.toList) = id := funext ofL_eq
  rw [e, List.map_id, List.map_id] at this
  exact this
theorem spl_head {x : Str} {c : Nat} {w rest : List Nat} (h : x.cps.toList = w ++ c :: rest) (hc : c ∉ w) : spl x c = ofL w :: spl (ofL rest) c := by
  refine map_inj ?_
  rw [List.map_cons, spl_cut, spl_cut, h, cut_at hc]
  rfl
theorem spl_one {x : Str} {c : Nat} (h : c ∉ x.cps.toList) : spl x c = [x] := by
  refine map_inj ?_
  rw [spl_cut, cut_free h]
  rfl
noncomputable def trStep (r : Str) : Option (List Int) := match rdAll rdNum (spl r 43) with
  | some [i, j] => some [i, j]
  | _ => none
theorem trStep_eq (r : Str) : trStep r = rdStep r := by
  have h1 : trStep r = (match rdAll rdNum (spl r 43) with | some [i, j] => some [i, j] | _ => none) := rfl
  have h2 : rdStep r = (match spl r 43 with | [a, b] => (match rdNum a, rdNum b with | some i, some j => some [i, j] | _, _ => none) | _ => none) := rfl
  rw [h1, h2]
  generalize spl r 43 = ws
  rcases ws with _ | ⟨a, _ | ⟨b, _ | ⟨c, s⟩⟩⟩
  · rfl
  · cases h : rdNum a <;> simp [rdAll, h]
  · cases h : rdNum a <;> cases h' : rdNum b <;> simp [rdAll, h, h']
  · cases h : rdAll rdNum (a :: b :: c :: s) with
    | none => rfl
    | some l =>
      have hl := rdAll_len h
      rcases l with _ | ⟨i, _ | ⟨j, _ | ⟨k, m⟩⟩⟩
      · rfl
      · rfl
      · simp at hl
      · rfl
noncomputable def trWide (x : Str) : Option Int := if x.cps.toList.take 5 = [119, 105, 100, 101, 32] then rdNum (ofL (x.cps.toList.drop 5)) else none
theorem notNum {x : Str} (h : 32 ∈ x.cps.toList) : rdNum x = none := by
  unfold rdNum
  refine if_neg fun z => ?_
  unfold isNumT at z
  simp only [Bool.and_eq_true, List.all_eq_true] at z
  have := z.2 32 h
  rw [digB_eq] at this
  exact absurd this (by decide)
theorem trWide_eq (x : Str) : trWide x = rdWide x := by
  have h2 : rdWide x = (match spl x 32 with | [a, b] => if a = Str.ofString "wide" then rdNum b else none | _ => none) := rfl
  have hwd : Str.ofString "wide" = ofL [119, 105, 100, 101] := by decide
  unfold trWide
  split
  · next h =>
    have hx : x.cps.toList = [119, 105, 100, 101] ++ 32 :: x.cps.toList.drop 5 := by
      have := (List.take_append_drop 5 x.cps.toList).symm
      rw [h] at this
      exact this
    rw [h2, spl_head hx (by decide)]
    by_cases hr : 32 ∈ (ofL (x.cps.toList.drop 5)).cps.toList
    · rw [notNum hr]
      rcases hs : spl (ofL (x.cps.toList.drop 5)) 32 with _ | ⟨a, _ | ⟨b, r⟩⟩
      · rfl
      · have e := spl_glue (ofL (x.cps.toList.drop 5)) 32
        rw [hs] at e
        have hf := StrLaws.split_free (ofL (x.cps.toList.drop 5)) 32 a (by show a ∈ spl _ _; rw [hs]; simp)
        rw [show glueC 32 ([a].map (·.cps.toList)) = a.cps.toList from rfl] at e
        rw [e] at hr
        exact absurd hr hf
      · rfl
    · rw [spl_one hr]
      show _ = if ofL [119, 105, 100, 101] = Str.ofString "wide" then _ else none
      rw [if_pos hwd.symm]
  · next h =>
    rw [h2]
    rcases hs : spl x 32 with _ | ⟨a, _ | ⟨b, _ | ⟨c, r⟩⟩⟩
    · rfl
    · rfl
    · show none = if a = Str.ofString "wide" then rdNum b else none
      rw [if_neg fun z => h ?_]
      have e := spl_glue x 32
      rw [hs, z, hwd] at e
      rw [e]
      rfl
    · rfl
noncomputable def trOuts (x : Str) : Option (List Int) := if x.cps.toList.take 5 = [111, 117, 116, 115, 32] then rdAll rdNum (spl (ofL (x.cps.toList.drop 5)) 32) else none
noncomputable def outsS : Str := ofL [111, 117, 116, 115]
theorem outs_word : Str.ofString "outs" = outsS := by decide
theorem trOuts_eq {x : Str} (hx0 : x ≠ outsS) : trOuts x = rdOuts x := by
  have h2 : rdOuts x = (match spl x 32 with | a :: r => (if a = Str.ofString "outs" then rdAll rdNum r else none) | [] => none) := rfl
  unfold trOuts
  split
  · next h =>
    have hx : x.cps.toList = [111, 117, 116, 115] ++ 32 :: x.cps.toList.drop 5 := by
      have := (List.take_append_drop 5 x.cps.toList).symm
      rw [h] at this
      exact this
    rw [h2, spl_head hx (by decide)]
    show _ = if outsS = Str.ofString "outs" then _ else none
    rw [if_pos outs_word.symm]
  · next h =>
    rw [h2]
    rcases hs : spl x 32 with _ | ⟨a, r⟩
    · rfl
    · show none = if a = Str.ofString "outs" then rdAll rdNum r else none
      rw [if_neg fun z => ?_]
      have e := spl_glue x 32
      rw [hs, z, outs_word] at e
      rcases r with _ | ⟨b, s⟩
      · exact hx0 (by rw [← ofL_eq x, e]; rfl)
      · exact h (by rw [e]; rfl)
theorem rd_outs : rdOuts outsS = some [] := by
  have h2 : rdOuts outsS = (match spl outsS 32 with | a :: r => (if a = Str.ofString "outs" then rdAll rdNum r else none) | [] => none) := rfl
  rw [h2, spl_one (by decide)]
  show (if outsS = Str.ofString "outs" then _ else none) = _
  rw [if_pos outs_word.symm]; rfl
theorem tr_outs : trOuts outsS = none := if_neg (by decide)
noncomputable def trNet (x : Str) : Option TextN := if (spl x 10).length < 2 then none else match trWide ((spl x 10).getD 0 ⟨#[]⟩), rdAll trStep (((spl x 10).drop 1).take ((spl x 10).length - 2)), trOuts (lastS (spl x 10)) with
  | some w, some st, some ou => some ⟨w, st, ou⟩
  | _, _, _ => none
theorem all_step : (trStep : Str → Option (List Int)) = rdStep := funext trStep_eq
theorem rd_not {x : Str} {w : Int} {l : List Int} (h1 : rdWide x = some w) (h2 : rdOuts x = some l) : False := by
  have e1 : rdWide x = (match spl x 32 with | [a, b] => if a = Str.ofString "wide" then rdNum b else none | _ => none) := rfl
  have e2 : rdOuts x = (match spl x 32 with | a :: r => (if a = Str.ofString "outs" then rdAll rdNum r else none) | [] => none) := rfl
  rw [e1] at h1
  rw [e2] at h2
  generalize spl x 32 = ws at h1 h2
  rcases ws with _ | ⟨a, _ | ⟨b, _ | ⟨c, r⟩⟩⟩
  · cases h1
  · cases h1
  · have h1 : (if a = Str.ofString "wide" then rdNum b else none) = some w := h1
    have h2 : (if a = Str.ofString "outs" then rdAll rdNum [b] else none) = some l := h2
    split at h1
    · next z =>
      rw [z, if_neg (by decide)] at h2
      cases h2
    · cases h1
  · cases h1
theorem tr_rd {x : Str} {t : TextN} (h : trNet x = some t) : rdNet x = some t := by
  unfold trNet at h
  unfold rdNet
  split at h
  · cases h
  · rw [trWide_eq, all_step] at h
    by_cases hL : lastS (spl x 10) = outsS
    · rw [hL, tr_outs] at h
      generalize rdWide ((spl x 10).getD 0 ⟨#[]⟩) = o1 at h
      generalize rdAll rdStep (((spl x 10).drop 1).take ((spl x 10).length - 2)) = o2 at h
      cases o1 <;> cases o2 <;> cases h
    · rw [trOuts_eq hL] at h
      exact h
theorem rd_tr {x : Str} {t : TextN} (h : rdNet x = some t) (g : Good t.w t.st t.ou) : trNet x = some t := by
  unfold rdNet at h
  unfold trNet
  cases h1 : rdWide ((spl x 10).getD 0 ⟨#[]⟩) with
  | none => rw [h1] at h; cases h
  | some w =>
    cases h2 : rdAll rdStep (((spl x 10).drop 1).take ((spl x 10).length - 2)) with
    | none => rw [h1, h2] at h; cases h
    | some st =>
      cases h3 : rdOuts (lastS (spl x 10)) with
      | none => rw [h1, h2, h3] at h; cases h
      | some ou =>
        rw [h1, h2, h3] at h
        obtain rfl := Option.some.inj h
        have hL : lastS (spl x 10) ≠ outsS := fun z => by
          rw [z, rd_outs] at h3
          obtain rfl := Option.some.inj h3
          have a := g.ol
          have b := g.lo
          simp at a b
          lia
        have hn := spl_ne x 10
        have h2l : ¬ (spl x 10).length < 2 := fun z => by
          rcases hs : spl x 10 with _ | ⟨a, _ | ⟨b, r⟩⟩
          · exact hn hs
          · rw [hs] at h1 h3
            exact rd_not h1 h3
          · rw [hs] at z; simp at z; lia
        rw [if_neg h2l, trWide_eq, all_step, trOuts_eq hL, h1, h2, h3]
end L2

namespace L2
open PySem PySem.Spec PyProof.Rows NM
theorem nS_ok : ∀ n, n < 1000 → isNumT (nS n) = true ∧ numT (nS n) = n := by decide +kernel
theorem nS_dig {n : Nat} (h : n < 1000) {c : Nat} (hc : c ∈ (nS n).cps.toList) : 48 ≤ c ∧ c ≤ 57 := by
  have := (nS_ok n h).1
  unfold isNumT at this
  simp only [Bool.and_eq_true, List.all_eq_true] at this
  have := this.2 c hc
  rw [digB_eq] at this
  exact of_decide_eq_true this
theorem rd_nS {n : Nat} (h : n < 1000) : rdNum (nS n) = some (n : Int) := by
  unfold rdNum
  rw [if_pos (nS_ok n h).1, (nS_ok n h).2]
theorem spl_join {c : Nat} {ps : List Str} (hn : ps ≠ []) (hf : ∀ p ∈ ps, c ∉ p.cps.toList) : spl (Txt.join ⟨#[c]⟩ ps) c = ps := by
  refine map_inj ?_
  rw [spl_cut, show Txt.join ⟨#[c]⟩ ps = Str.join ⟨#[c]⟩ ps from StrLaws.glued_eq_join _ _, glue_join, cut_glue (fun z => hn (List.map_eq_nil_iff.mp z)) fun p hp => ?_]
  obtain ⟨q, hq, rfl⟩ := List.mem_map.mp hp
  exact hf q hq
theorem glue_from {c d : Nat} : ∀ {ps : List (List Nat)}, d ∈ glueC c ps → d = c ∨ ∃ p ∈ ps, d ∈ p
  | [p], h => .inr ⟨p, List.mem_cons_self .., h⟩
  | p :: q :: r, h => by
    rcases List.mem_append.mp (show d ∈ p ++ c :: glueC c (q :: r) from h) with h | h
    · exact .inr ⟨p, List.mem_cons_self .., h⟩
    · rcases List.mem_cons.mp h with h | h
      · exact .inl h
      · rcases glue_from h with h | ⟨x, hx, h⟩
        · exact .inl h
        · exact .inr ⟨x, List.mem_cons_of_mem _ hx, h⟩
theorem stS_list (p : Nat × Nat) : (stS p).cps.toList = (nS p.1).cps.toList ++ 43 :: (nS p.2).cps.toList := by
  unfold stS
  rw [Str.empty_append, Str.cps_append, Str.cps_append, Array.toList_append, Array.toList_append, List.append_assoc]
  rfl
theorem rd_stS {p : Nat × Nat} (h1 : p.1 < 1000) (h2 : p.2 < 1000) : rdStep (stS p) = some (pairI p) := by
  have e : rdStep (stS p) = (match spl (stS p) 43 with | [a, b] => (match rdNum a, rdNum b with | some i, some j => some [i, j] | _, _ => none) | _ => none) := rfl
  rw [e, spl_head (stS_list p) (fun z => by have := nS_dig h1 z; lia), spl_one (x := ofL (nS p.2).cps.toList) (fun z => by have := nS_dig h2 (c := 43) z; lia), ofL_eq, ofL_eq]
  show (match rdNum (nS p.1), rdNum (nS p.2) with | some i, some j => some [i, j] | _, _ => none) = _
  rw [rd_nS h1, rd_nS h2]; rfl
theorem rdAll_map {α β : Type} {f : Str → Option α} {g : β → Str} {k : β → α} : ∀ {l : List β}, (∀ b ∈ l, f (g b) = some (k b)) → rdAll f (l.map g) = some (l.map k)
  | [], _ => rfl
  | b :: r, h => by
    show (match f (g b), rdAll f (r.map g) with | some a, some l => some (a :: l) | _, _ => none) = _
    rw [h b (List.mem_cons_self ..), rdAll_map fun x hx => h x (List.mem_cons_of_mem _ hx)]; rfl
theorem wide_list (w : Nat) : (Str.empty ++ Str.ofString "wide " ++ nS w).cps.toList = [119, 105, 100, 101, 32] ++ (nS w).cps.toList := by
  rw [Str.empty_append, Str.cps_append, Array.toList_append, show (Str.ofString "wide ").cps.toList = [119, 105, 100, 101, 32] from by decide]
theorem rd_written {N : NetN} (hN : N.Ok) : rdNet (wrN N) = some ⟨N.w, N.steps, N.outs⟩ := by
  have hw := hN.hi
  have hsl := hN.len
  have hs : ∀ p ∈ N.st, p.1 < 1000 ∧ p.2 < 1000 := fun p hp => by
    obtain ⟨i, hi⟩ := List.getElem?_of_mem hp
    obtain ⟨q1, q2⟩ := hN.s1 i p hi
    have := (List.getElem?_eq_some_iff.mp hi).1
    lia
  have ho : ∀ o ∈ N.ou, o < 1000 := fun o h => by have := hN.ob o h; lia
  have hfo : ∀ p ∈ [Str.ofString "outs"] ++ N.ou.map nS, 32 ∉ p.cps.toList := fun p hp z => by
    rcases List.mem_append.mp hp with h | h
    · rw [List.mem_singleton.mp h] at z; exact absurd z (by decide)
    · obtain ⟨o, h', rfl⟩ := List.mem_map.mp h
      have := nS_dig (ho o h') z; lia
  have so : spl (Txt.join (Str.ofString " ") ([Str.ofString "outs"] ++ N.ou.map nS)) 32 = [Str.ofString "outs"] ++ N.ou.map nS := by
    rw [show Str.ofString " " = ⟨#[32]⟩ from by decide]
    exact spl_join (by simp) hfo
  have f10 : ∀ p ∈ rowsW N, 10 ∉ p.cps.toList := fun p hp z => by
    unfold rowsW at hp
    rcases List.mem_append.mp hp with h | h
    · rcases List.mem_append.mp h with h | h
      · rw [List.mem_singleton.mp h, wide_list] at z
        rcases List.mem_append.mp z with z | z
        · exact absurd z (by decide)
        · have := nS_dig (show N.w < 1000 by lia) z; lia
      · obtain ⟨q, hq, rfl⟩ := List.mem_map.mp h
        rw [stS_list] at z
        rcases List.mem_append.mp z with z | z
        · have := nS_dig (hs q hq).1 z; lia
        · rcases List.mem_cons.mp z with z | z
          · cases z
          · have := nS_dig (hs q hq).2 z; lia
    · rw [List.mem_singleton.mp h, spl_glue _ 32, so] at z
      rcases glue_from z with z | ⟨q, hq, z⟩
      · cases z
      · obtain ⟨y, hy, rfl⟩ := List.mem_map.mp hq
        rcases List.mem_append.mp hy with h | h
        · rw [List.mem_singleton.mp h] at z; exact absurd z (by decide)
        · obtain ⟨o, h', rfl⟩ := List.mem_map.mp h
          have := nS_dig (ho o h') z; lia
  have sr : spl (wrN N) 10 = rowsW N := by
    unfold wrN
    rw [show Str.ofString "\n" = ⟨#[10]⟩ from by decide]
    exact spl_join (by unfold rowsW; simp) f10
  unfold rdNet
  rw [sr]
  have r0 : (rowsW N).getD 0 ⟨#[]⟩ = Str.empty ++ Str.ofString "wide " ++ nS N.w := rfl
  have rl : (rowsW N).length = N.st.length + 2 := by unfold rowsW; simp
  have rm : ((rowsW N).drop 1).take ((rowsW N).length - 2) = N.st.map stS := by
    rw [rl]
    unfold rowsW
    rw [List.append_assoc]
    show (N.st.map stS ++ _).take _ = _
    rw [List.take_append_of_le_length (by simp)]
    exact List.take_of_length_le (by simp)
  have rL : lastS (rowsW N) = Txt.join (Str.ofString " ") ([Str.ofString "outs"] ++ N.ou.map nS) := by
    unfold lastS
    rw [rl, List.getD_eq_getElem?_getD]
    unfold rowsW
    rw [List.getElem?_append_right (by simp)]
    simp
  have e1 : rdWide (Str.empty ++ Str.ofString "wide " ++ nS N.w) = some (N.w : Int) := by
    rw [← trWide_eq]
    unfold trWide
    rw [wide_list, if_pos (show List.take 5 ([119, 105, 100, 101, 32] ++ (nS N.w).cps.toList) = [119, 105, 100, 101, 32] from rfl)]
    show rdNum (ofL (nS N.w).cps.toList) = _
    rw [ofL_eq]
    exact rd_nS (by lia)
  have e3 : rdOuts (Txt.join (Str.ofString " ") ([Str.ofString "outs"] ++ N.ou.map nS)) = some N.outs := by
    have h2 : ∀ y, rdOuts y = (match spl y 32 with | a :: r => (if a = Str.ofString "outs" then rdAll rdNum r else none) | [] => none) := fun _ => rfl
    rw [h2, so]
    show (if Str.ofString "outs" = Str.ofString "outs" then rdAll rdNum (N.ou.map nS) else none) = _
    rw [if_pos rfl]
    exact rdAll_map fun o h => rd_nS (ho o h)
  rw [r0, rm, rL, e1, e3, rdAll_map (k := pairI) fun p h => rd_stS (hs p h).1 (hs p h).2]
  rfl
end L2

namespace L2
open PySem PySem.Spec PyProof.Rows NM Builtin Builtin.Str
theorem idx_none (u : Option Int) (n : Nat) : strSliceIndices none u 1 n = strSliceIndices (some 0) u 1 n := by
  have e : max (0 : Int) (min 0 (n : Int)) = 0 := by omega
  unfold strSliceIndices sliceRange
  cases u <;> simp [e]
theorem idx_end (l : Option Int) (n : Nat) : strSliceIndices l none 1 n = strSliceIndices l (some (n : Int)) 1 n := by
  have e1 : ¬ ((n : Int) < 0) := by omega
  have e2 : max (0 : Int) (min (n : Int) (n : Int)) = n := by omega
  unfold strSliceIndices sliceRange
  cases l <;> simp only [if_neg e1, e2] <;> simp
theorem slice_plain (x : Str) {a b : Nat} (hab : a ≤ b) (hb : b ≤ x.length) : (Txt.slice x (some (a : Int)) (some (b : Int))).cps.toList = (x.cps.toList.drop a).take (b - a) := by
  have h := StrLaws.strSliceIndices_plain hab hb
  unfold Txt.slice
  rw [h]
  split
  · next hh =>
    simp at hh
    have hl : x.cps.toList.length = x.length := by simp [Str.length]
    have e1 : a = 0 := by lia
    have e2 : b = x.length := by lia
    rw [e1, e2, List.drop_zero, Nat.sub_zero, List.take_of_length_le (by lia)]
  · have := StrLaws.sliced_plain x hab hb
    rw [h] at this
    exact this
theorem slice_to (x : Str) (b : Nat) (hb : b ≤ x.length) : (Txt.slice x none (some (b : Int))).cps.toList = x.cps.toList.take b := by
  have := slice_plain x (Nat.zero_le b) hb
  rw [List.drop_zero, Nat.sub_zero] at this
  rw [← this]
  unfold Txt.slice
  rw [idx_none]; rfl
theorem slice_from (x : Str) (a : Nat) (ha : a ≤ x.length) : (Txt.slice x (some (a : Int)) none).cps.toList = x.cps.toList.drop a := by
  have := slice_plain x ha (Nat.le_refl _)
  rw [List.take_of_length_le (by simp [Str.length])] at this
  rw [← this]
  unfold Txt.slice
  rw [idx_end]
theorem idx_hi {b n : Nat} (l : Option Int) (h : n ≤ b) : strSliceIndices l (some (b : Int)) 1 n = strSliceIndices l (some (n : Int)) 1 n := by
  have e1 : ¬ ((n : Int) < 0) := by omega
  have e2 : ¬ ((b : Int) < 0) := by omega
  have e3 : min (b : Int) (n : Int) = n := by omega
  have e4 : min (n : Int) (n : Int) = n := by omega
  unfold strSliceIndices sliceRange
  cases l <;> simp only [show ((1 : Int) > 0) = True from by simp, if_true, if_neg e1, if_neg e2, e3, e4]
theorem idx_lo {a n : Nat} (u : Option Int) (h : n ≤ a) : strSliceIndices (some (a : Int)) u 1 n = strSliceIndices (some (n : Int)) u 1 n := by
  have e1 : ¬ ((n : Int) < 0) := by omega
  have e2 : ¬ ((a : Int) < 0) := by omega
  have e3 : min (a : Int) (n : Int) = n := by omega
  have e4 : min (n : Int) (n : Int) = n := by omega
  unfold strSliceIndices sliceRange
  cases u <;> simp only [show ((1 : Int) > 0) = True from by simp, if_true, if_neg e1, if_neg e2, e3, e4]
theorem slice_take (x : Str) (b : Nat) : (Txt.slice x none (some (b : Int))).cps.toList = x.cps.toList.take b := by
  by_cases hb : b ≤ x.length
  · exact slice_to x b hb
  · have := slice_to x x.length (Nat.le_refl _)
    rw [List.take_of_length_le (by simp [Str.length])] at this
    rw [List.take_of_length_le (by simp [Str.length] at hb ⊢; omega)]
    rw [← this]
    unfold Txt.slice
    rw [idx_hi none (by omega)]
theorem slice_drop (x : Str) (a : Nat) : (Txt.slice x (some (a : Int)) none).cps.toList = x.cps.toList.drop a := by
  by_cases ha : a ≤ x.length
  · exact slice_from x a ha
  · have := slice_from x x.length (Nat.le_refl _)
    rw [List.drop_eq_nil_of_le (by simp [Str.length])] at this
    rw [List.drop_eq_nil_of_le (by simp [Str.length] at ha ⊢; omega)]
    unfold Txt.slice at this ⊢
    rw [idx_lo none (by omega)]
    exact this
end L2

namespace L2
open PySem PySem.Spec PyProof.Rows NM
theorem join_from {c d : Nat} {ps : List Str} (h : d ∈ (Txt.join ⟨#[c]⟩ ps).cps.toList) : d = c ∨ ∃ p ∈ ps, d ∈ p.cps.toList := by
  rw [show Txt.join ⟨#[c]⟩ ps = Str.join ⟨#[c]⟩ ps from StrLaws.glued_eq_join _ _, glue_join] at h
  rcases glue_from h with h | ⟨q, hq, h⟩
  · exact .inl h
  · obtain ⟨p, hp, rfl⟩ := List.mem_map.mp hq
    exact .inr ⟨p, hp, h⟩
theorem nS_low {n : Nat} (h : n < 1000) {c : Nat} (hc : c ∈ (nS n).cps.toList) : c < 128 := by have := nS_dig h hc; lia
theorem wr_low {N : NetN} (hN : N.Ok) : lowT (wrN N) := by
  have hw := hN.hi
  have hsl := hN.len
  have hs : ∀ p ∈ N.st, p.1 < 1000 ∧ p.2 < 1000 := fun p hp => by
    obtain ⟨i, hi⟩ := List.getElem?_of_mem hp
    obtain ⟨q1, q2⟩ := hN.s1 i p hi
    have := (List.getElem?_eq_some_iff.mp hi).1
    lia
  refine lowT_iff.mpr fun c hc => ?_
  unfold wrN at hc
  rw [show Str.ofString "\n" = ⟨#[10]⟩ from by decide] at hc
  rcases join_from hc with rfl | ⟨p, hp, hc⟩
  · decide
  unfold rowsW at hp
  rcases List.mem_append.mp hp with h | h
  · rcases List.mem_append.mp h with h | h
    · rw [List.mem_singleton.mp h, wide_list] at hc
      rcases List.mem_append.mp hc with z | z
      · simp at z; lia
      · exact nS_low (by lia) z
    · obtain ⟨q, hq, rfl⟩ := List.mem_map.mp h
      rw [stS_list] at hc
      rcases List.mem_append.mp hc with z | z
      · exact nS_low (hs q hq).1 z
      · rcases List.mem_cons.mp z with rfl | z
        · decide
        · exact nS_low (hs q hq).2 z
  · rw [List.mem_singleton.mp h, show Str.ofString " " = ⟨#[32]⟩ from by decide] at hc
    rcases join_from hc with rfl | ⟨p, hp, hc⟩
    · decide
    · rcases List.mem_append.mp hp with h | h
      · rw [List.mem_singleton.mp h, show (Str.ofString "outs").cps.toList = [111, 117, 116, 115] from by decide] at hc
        simp at hc; lia
      · obtain ⟨o, h', rfl⟩ := List.mem_map.mp h
        have := hN.ob o h'
        exact nS_low (by lia) hc
theorem nS_len3 {n : Nat} (h : n < 1000) : (nS n).length ≤ 3 := (num_reads' (nS_ok n h).1).2
theorem wr_len {N : NetN} (hN : N.Ok) (h8 : N.st.length ≤ 8) : (wrN N).length ≤ 4000 := by
  have hw := hN.hi
  have hou := hN.ol
  have hs : ∀ p ∈ N.st, p.1 < 1000 ∧ p.2 < 1000 := fun p hp => by
    obtain ⟨i, hi⟩ := List.getElem?_of_mem hp
    obtain ⟨q1, q2⟩ := hN.s1 i p hi
    have := (List.getElem?_eq_some_iff.mp hi).1
    lia
  have a3 : (Str.ofString "wide ").length = 5 := by decide
  have a4 : (Str.ofString "outs").length = 4 := by decide
  have a5 : (Str.ofString " ").length = 1 := by decide
  have a6 : (Str.ofString "\n").length = 1 := by decide
  have a7 : (Str.ofString "+").length = 1 := by decide
  have oL : ∀ y ∈ [Str.ofString "outs"] ++ N.ou.map nS, y.length ≤ 4 := fun y hy => by
    rcases List.mem_append.mp hy with h | h
    · rw [List.mem_singleton.mp h, a4]; decide
    · obtain ⟨o, ho, rfl⟩ := List.mem_map.mp h
      have := hN.ob o ho
      have := nS_len3 (n := o) (by lia)
      lia
  have oC : ([Str.ofString "outs"] ++ N.ou.map nS).length ≤ 65 := by rw [List.length_append, List.length_map]; show 1 + _ ≤ 65; lia
  have jL : (Txt.join (Str.ofString " ") ([Str.ofString "outs"] ++ N.ou.map nS)).length ≤ 350 := by
    have := StrLaws.join_length_le (Str.ofString " ") ([Str.ofString "outs"] ++ N.ou.map nS)
    rw [show Txt.join (Str.ofString " ") ([Str.ofString "outs"] ++ N.ou.map nS) = Str.join (Str.ofString " ") ([Str.ofString "outs"] ++ N.ou.map nS) from StrLaws.glued_eq_join _ _]
    have := sum_lens oL
    rw [a5] at *
    lia
  have rL : ∀ y ∈ rowsW N, y.length ≤ 350 := fun y hy => by
    unfold rowsW at hy
    rcases List.mem_append.mp hy with h | h
    · rcases List.mem_append.mp h with h | h
      · rw [List.mem_singleton.mp h]
        have := nS_len3 (n := N.w) (by lia)
        simp only [Str.length_append, emptyLen]; lia
      · obtain ⟨p, hp, rfl⟩ := List.mem_map.mp h
        have := nS_len3 (hs p hp).1
        have := nS_len3 (hs p hp).2
        unfold stS
        simp only [Str.length_append, emptyLen]; lia
    · rw [List.mem_singleton.mp h]; exact jL
  have rC : (rowsW N).length ≤ 10 := by unfold rowsW; simp; lia
  unfold wrN
  have := StrLaws.join_length_le (Str.ofString "\n") (rowsW N)
  rw [show Txt.join (Str.ofString "\n") (rowsW N) = Str.join (Str.ofString "\n") (rowsW N) from StrLaws.glued_eq_join _ _]
  have := sum_lens rL
  rw [a6] at *
  lia
inductive spTried (vs : List V) (H : Hp) (Q : VK) (_e3 : XK) : Prop
  | mk : ∀ x : Str, (vs = [.str x]) → (lowT x) → (x.length ≤ 9000) → (∀ H', Same H H' → trNet x = none → Q .non H') → (∀ H' t n sa oa rs, Same H H' → trNet x = some t → NetAt H' n t.w t.st t.ou sa oa rs → Q (.ref n) H') → spTried vs H Q _e3
end L2

namespace L2
open PySem PySem.Spec PyProof.Rows NM
theorem app_list (x y : Str) : (x ++ y).cps.toList = x.cps.toList ++ y.cps.toList := by rw [Str.cps_append, Array.toList_append]
theorem len_list (x : Str) : x.length = x.cps.toList.length := by simp [Str.length]
theorem low_app {x y : Str} (hx : lowT x) (hy : lowT y) : lowT (x ++ y) := lowT_iff.mpr fun c hc => by
  rw [app_list] at hc
  rcases List.mem_append.mp hc with h | h
  · exact lowT_iff.mp hx c h
  · exact lowT_iff.mp hy c h
theorem low_take {x : Str} (h : lowT x) (b : Nat) : lowT (Txt.slice x none (some (b : Int))) := lowT_iff.mpr fun c hc => by
  rw [slice_take] at hc
  exact lowT_iff.mp h c (List.mem_of_mem_take hc)
theorem low_drop {x : Str} (h : lowT x) (b : Nat) : lowT (Txt.slice x (some (b : Int)) none) := lowT_iff.mpr fun c hc => by
  rw [slice_drop] at hc
  exact lowT_iff.mp h c (List.mem_of_mem_drop hc)
theorem len_take (x : Str) (b : Nat) : (Txt.slice x none (some (b : Int))).length = min b x.length := by
  rw [len_list, slice_take, List.length_take, ← len_list]
theorem len_drop (x : Str) (b : Nat) : (Txt.slice x (some (b : Int)) none).length = x.length - b := by
  rw [len_list, slice_drop, List.length_drop, ← len_list]
theorem low_one {c : Nat} (h : c < 128) : lowT ⟨#[c]⟩ := lowT_iff.mpr fun d hd => by
  have : d = c := by simpa using hd
  rw [this]; exact h
theorem sign_at {i : Int} (h0 : 0 ≤ i) (h1 : i < 12) : ∃ c, atI (Str.ofString "0123 +\n97wo-").cps.toList i = some c ∧ c < 128 := by
  have e : (Str.ofString "0123 +\n97wo-").cps.toList = [48, 49, 50, 51, 32, 43, 10, 57, 55, 119, 111, 45] := by decide
  rw [e]
  have : i = 0 ∨ i = 1 ∨ i = 2 ∨ i = 3 ∨ i = 4 ∨ i = 5 ∨ i = 6 ∨ i = 7 ∨ i = 8 ∨ i = 9 ∨ i = 10 ∨ i = 11 := by lia
  rcases this with rfl | rfl | rfl | rfl | rfl | rfl | rfl | rfl | rfl | rfl | rfl | rfl <;> exact ⟨_, rfl, by decide⟩
end L2
namespace L2
open PySem PySem.Spec PyProof.Rows NM
theorem take5 {x : Str} {w : Str} {l : List Nat} (hw : w.cps.toList = l) : Txt.slice x none (some 5) = w ↔ x.cps.toList.take 5 = l := by
  have h := slice_take x 5
  constructor
  · intro e
    rw [← h, ← hw]
    exact congrArg (fun z : Str => z.cps.toList) e
  · intro e
    rw [← ofL_eq (Txt.slice x none (some 5)), ← ofL_eq w]
    congr 1
    exact h.trans (e.trans hw.symm)
theorem drop5 (x : Str) : Txt.slice x (some 5) none = ofL (x.cps.toList.drop 5) := by
  rw [← ofL_eq (Txt.slice x (some 5) none)]
  congr 1
  exact slice_drop x 5
theorem wide_w : (Str.ofString "wide ").cps.toList = [119, 105, 100, 101, 32] := by decide
theorem outs_w : (Str.ofString "outs ").cps.toList = [111, 117, 116, 115, 32] := by decide
theorem trWide_no {x : Str} (h : Txt.slice x none (some 5) ≠ Str.ofString "wide ") : trWide x = none := if_neg fun z => h ((take5 wide_w).mpr z)
theorem trWide_yes {x : Str} (h : Txt.slice x none (some 5) = Str.ofString "wide ") : trWide x = rdNum (Txt.slice x (some 5) none) := by
  unfold trWide
  rw [if_pos ((take5 wide_w).mp h), drop5]
theorem trOuts_no {x : Str} (h : Txt.slice x none (some 5) ≠ Str.ofString "outs ") : trOuts x = none := if_neg fun z => h ((take5 outs_w).mpr z)
theorem trOuts_yes {x : Str} (h : Txt.slice x none (some 5) = Str.ofString "outs ") : trOuts x = rdAll rdNum (spl (Txt.slice x (some 5) none) 32) := by
  unfold trOuts
  rw [if_pos ((take5 outs_w).mp h), drop5]
theorem rdAll_one {α : Type} {f : Str → Option α} (x : Str) : rdAll f [x] = (f x).map fun a => [a] := by
  unfold rdAll
  cases f x <;> rfl
inductive StepV (H : Hp) (r : Str) (y : V) : Prop
  | no : (rdAll rdNum (spl r 43) = none) → (y = .non) → StepV H r y
  | some : ∀ (l : List Int) (q : Addr), (rdAll rdNum (spl r 43) = some l) → (y = .ref q) → (H q = some (.lst (l.map V.int))) → StepV H r y
theorem StepV.mono {H H' : Hp} {r : Str} {y : V} (s : Same H H') : StepV H r y → StepV H' r y
  | .no a b => .no a b
  | .some l q a b c => .some l q a b (s _ _ c)
noncomputable def okSt (r : Str) : Bool := match rdAll rdNum (spl r 43) with
  | some l => decide (l.length = 2)
  | none => false
theorem okSt_tr (r : Str) (h : okSt r = false) : trStep r = none := by
  unfold okSt at h
  unfold trStep
  split at h
  · next l e =>
    rw [e]
    rcases l with _ | ⟨i, _ | ⟨j, _ | ⟨k, m⟩⟩⟩
    · rfl
    · rfl
    · simp at h
    · rfl
  · next e => rw [e]
theorem okSt_two {r : Str} (h : okSt r = true) : ∃ i j, rdAll rdNum (spl r 43) = some [i, j] ∧ trStep r = some [i, j] := by
  unfold okSt at h
  unfold trStep
  split at h
  · next l e =>
    rw [e]
    rcases l with _ | ⟨i, _ | ⟨j, _ | ⟨k, m⟩⟩⟩
    · simp at h
    · simp at h
    · exact ⟨i, j, rfl, rfl⟩
    · simp at h
  · cases h
theorem rdAll_all {f : Str → Option (List Int)} {g : Str → Bool} (hn : ∀ r, g r = false → f r = none) : ∀ {rs : List Str}, (rs.map g).all id = false → rdAll f rs = none
  | [], h => by simp at h
  | r :: t, h => by
    rw [List.map_cons, List.all_cons, Bool.and_eq_false_iff] at h
    rcases h with h | h
    · exact rdAll_none (hn r h) (List.mem_cons_self ..)
    · have ih := rdAll_all hn h
      unfold rdAll
      rw [ih]
      cases f r <;> rfl
end L2
namespace L2
open PySem PySem.Spec PyProof.Rows NM
theorem rdNet_ol {x : Str} {t : TextN} (h : rdNet x = some t) : t.ou.length ≤ x.length + 1 := by
  unfold rdNet at h
  cases h1 : rdWide ((spl x 10).getD 0 ⟨#[]⟩) with
  | none => rw [h1] at h; cases h
  | some w =>
    cases h2 : rdAll rdStep (((spl x 10).drop 1).take ((spl x 10).length - 2)) with
    | none => rw [h1, h2] at h; cases h
    | some st =>
      cases h3 : rdOuts (lastS (spl x 10)) with
      | none => rw [h1, h2, h3] at h; cases h
      | some ou =>
        rw [h1, h2, h3] at h
        obtain rfl := Option.some.inj h
        have a := rdOuts_len h3
        have hn := spl_ne x 10
        have hm : lastS (spl x 10) ∈ spl x 10 := by
          unfold lastS
          have : 0 < (spl x 10).length := List.length_pos_iff.mpr hn
          rw [List.getD_eq_getElem?_getD, List.getElem?_eq_getElem (by lia)]
          exact List.getElem_mem _
        have b := spl_len hm
        show ou.length ≤ _
        lia
end L2

namespace K50
open PySem L2 NM PyProof.Rows
noncomputable def top (i : Nat) : Stmt := PySem.Challenge.pw_sumspan_k50_texts.main.body.getD i (.Pass ⟨0, 0, 0, 0⟩)
structure Txt (K : PySem.W.Frag) (mg : Str → Option Value) (CB CK CR CT CW CS : Addr) : Prop where
  x_BadNet : ExC K mg "BadNet" CB
  g_BadNet : mg "BadNet" = some (.ref CB)
  x_BadText : ExC K mg "BadText" CT
  g_BadText : mg "BadText" = some (.ref CT)
  g_BadKind : mg "BadKind" = some (.ref CK)
  g_BadRow : mg "BadRow" = some (.ref CR)
  g_Wrong : mg "Wrong" = some (.ref CW)
  g_SumError : mg "SumError" = some (.ref CS)
  q_BadNet : Kd5 K CB CK CB CR CT CW false true false false false
  q_BadText : Kd5 K CT CK CB CR CT CW false false false true false
  m_BadNet : PySem.W.exmOne K (.ref CB) (.ref CS) = some true
  m_BadText : PySem.W.exmOne K (.ref CT) (.ref CS) = some true
  n_BadNet : PySem.W.exmOne K (.ref CB) (.ref CB) = some true
  z_ValueError : mg "ValueError" = none
  g_MOST_THINGS : ∃ t, mg "MOST_THINGS" = some (.int 64 t)
  g_MOST_STEPS : ∃ t, mg "MOST_STEPS" = some (.int 500 t)
  g_MOST_FIGURES : ∃ t, mg "MOST_FIGURES" = some (.int 3 t)
  g_FIGURES : ∃ t, mg "FIGURES" = some (.str "0123456789" t)
  z_isinstance : mg "isinstance" = none
  z_int : mg "int" = none
  z_bool : mg "bool" = none
  z_str : mg "str" = none
  z_tuple : mg "tuple" = none
  z_list : mg "list" = none
  z_len : mg "len" = none
  z_max : mg "max" = none
  z_range : mg "range" = none
  z_enumerate : mg "enumerate" = none
  z_all : mg "all" = none
section
variable {P : Program} {w : World} {K : PySem.W.Frag} {mg : Str → Option Value} {base : Heap} {CB CK CR CT CW CS : Addr}
noncomputable abbrev s_is_whole : Stmt := top 8
theorem sc_is_whole : FnScope ["value"] ["value"] (defScope s_is_whole) := ⟨rfl, rfl, rfl, by decide +kernel, rfl, by decide +kernel, by decide +kernel⟩
theorem ok_is_whole {f : Addr} {fd : FuncData} (F : Fun K "is_whole" "is_whole" s_is_whole f fd) (T : Txt K mg CB CK CR CT CW CS)  : FnOk P w K mg base (CX1 P w) 1 f fd ["value"] (spWhole) := by
  refine F.ok1 sc_is_whole (fun vs H Q E h => ?_) (fun cdv A outer s H vs Q E hr h => ?_)
  · obtain ⟨i, rfl, q⟩ := h; rfl
  · obtain ⟨i, rfl, q⟩ := h
    have nd := sc_is_whole.nd
    refine ⟨_, (pss_one (ps_ret (pe_and (pe_callB call_isi rfl T.z_isinstance boot_isinstance (pa_cons (pv 0) (pa_cons (pe_bltn (v := .ty "int") rfl T.z_int boot_int rfl) pa_nil))) (pe_one (pe_not (pe_callB call_isi rfl T.z_isinstance boot_isinstance (pa_cons (pv 0) (pa_cons (pe_bltn (v := .ty "bool") rfl T.z_bool boot_bool rfl) pa_nil)))))))), ?_⟩
    skip
    refine ⟨_, _, _, _, true, rfl, rfl, .int i, rfl, ?_⟩
    exact ⟨_, _, _, _, false, rfl, rfl, .int i, (by kernel_rfl), q⟩
noncomputable abbrev s_is_within : Stmt := top 9
theorem sc_is_within : FnScope ["value", "least", "most"] ["value", "least", "most"] (defScope s_is_within) := ⟨rfl, rfl, rfl, by decide +kernel, rfl, by decide +kernel, by decide +kernel⟩
theorem ok_is_within {f : Addr} {fd : FuncData} (F : Fun K "is_within" "is_within" s_is_within f fd) (T : Txt K mg CB CK CR CT CW CS) (d_is_whole : Df P w K mg base "is_whole" 1 ["value"] (spWhole)) : FnOk P w K mg base (CX1 P w) 2 f fd ["value", "least", "most"] (spWithin) := by
  refine F.ok1 sc_is_within (fun vs H Q E h => ?_) (fun cdv A outer s H vs Q E hr h => ?_)
  · obtain ⟨v, lo, hi, rfl, q⟩ := h; rfl
  · obtain ⟨v, lo, hi, rfl, q⟩ := h
    have nd := sc_is_within.nd
    refine ⟨_, (pss_one (ps_ret (pe_and (pe_own d_is_whole (hr.mono (by first | decide | lia)) rfl pass1 (pa_cons (pv 0) pa_nil)) (pe_one (pe_chain op_le op_le (pv 1) (pv 0) (pv 2)))))), ?_⟩
    skip
    refine ⟨_, rfl, ?_⟩
    refine ⟨_, rfl, ?_⟩
    cases hv : decide (lo ≤ v) with
    | true =>
      rw [hv] at q
      exact (q)
    | false =>
      rw [hv] at q
      exact q
noncomputable abbrev s_is_node : Stmt := top 13
theorem sc_is_node : FnScope ["value", "ahead"] ["value", "ahead"] (defScope s_is_node) := ⟨rfl, rfl, rfl, by decide +kernel, rfl, by decide +kernel, by decide +kernel⟩
theorem ok_is_node {f : Addr} {fd : FuncData} (F : Fun K "is_node" "is_node" s_is_node f fd) (T : Txt K mg CB CK CR CT CW CS) (d_is_within : Df P w K mg base "is_within" 2 ["value", "least", "most"] (spWithin)) : FnOk P w K mg base (CX1 P w) 3 f fd ["value", "ahead"] (spNode) := by
  refine F.ok1 sc_is_node (fun vs H Q E h => ?_) (fun cdv A outer s H vs Q E hr h => ?_)
  · obtain ⟨v, ahead, rfl, q⟩ := h; rfl
  · obtain ⟨v, ahead, rfl, q⟩ := h
    have nd := sc_is_node.nd
    refine ⟨_, (pss_one (ps_ret (pe_own d_is_within (hr.mono (by first | decide | lia)) rfl pass1 (pa_cons (pv 0) (pa_cons pe_int (pa_cons (pe_op op_sub (pv 1) pe_int) pa_nil)))))), ?_⟩
    skip
    refine ⟨v, 0, ahead - 1, rfl, ?_⟩
    have e : (decide (0 ≤ v) && decide (v ≤ ahead - 1)) = nodeB v ahead := by
      unfold nodeB
      congr 1
      exact decide_eq_decide.mpr ⟨fun h => by lia, fun h => by lia⟩
    rw [e]
    exact q
noncomputable abbrev s_is_step : Stmt := top 14
theorem sc_is_step : FnScope ["value", "ahead"] ["value", "ahead"] (defScope s_is_step) := ⟨rfl, rfl, rfl, by decide +kernel, rfl, by decide +kernel, by decide +kernel⟩
theorem ok_is_step {f : Addr} {fd : FuncData} (F : Fun K "is_step" "is_step" s_is_step f fd) (T : Txt K mg CB CK CR CT CW CS) (d_is_node : Df P w K mg base "is_node" 3 ["value", "ahead"] (spNode)) : FnOk P w K mg base (CX1 P w) 4 f fd ["value", "ahead"] (spStep) := by
  refine F.ok1 sc_is_step (fun vs H Q E h => ?_) (fun cdv A outer s H vs Q E hr h => ?_)
  · obtain ⟨r, l, ahead, rfl, hr0, q⟩ := h; rfl
  · obtain ⟨r, l, ahead, rfl, hr0, q⟩ := h
    have nd := sc_is_step.nd
    refine ⟨_, (pss_cons (ps_if (PW.pt (pw_or (pt_not (pt_truth (pe_callB call_isi rfl T.z_isinstance boot_isinstance (pa_cons (pv 0) (pa_cons (pe_bltn (v := .ty "tuple") rfl T.z_tuple boot_tuple rfl) pa_nil))) (fun _ => rfl))) (pw_or1 (pt_cmpR op_ne (pe_callB call_len_seq rfl T.z_len boot_len (pa_cons (pv 0) pa_nil)) pe_int (nomark _)))))
       (pss_one (ps_ret pe_bl))
       pss_nil)
       (pss_one (ps_ret (pe_and (pe_own d_is_node (hr.mono (by first | decide | lia)) rfl pass1 (pa_cons (pe_ix ix_tup (pv 0) pe_int (fun _ _ => rfl)) (pa_cons (pv 1) pa_nil))) (pe_one (pe_own d_is_node (hr.mono (by first | decide | lia)) rfl pass1 (pa_cons (pe_ix ix_tup (pv 0) pe_int (fun _ _ => rfl)) (pa_cons (pv 1) pa_nil)))))))), ?_⟩
    skip
    refine ⟨_, _, _, _, true, rfl, rfl, .tup hr0, rfl, true, rfl, ?_⟩
    refine ⟨_, _, rfl, .inr (SqT.of hr0), ?_⟩
    by_cases hl : l.length = 2
    · refine iteNS (by rw [List.length_map, hl]; rfl) ?_
      match l, hl with
      | [x, y], _ =>
        refine ⟨_, _, _, _, rfl, rfl, SqT.of hr0, rfl, _, _, rfl, ?_⟩
        have e : stepOk ahead [x, y] = (nodeB x ahead && nodeB y ahead) := by
          simp [stepOk, nodeB]
        rw [e] at q
        cases hx : nodeB x ahead with
        | false =>
          rw [hx] at q
          exact q
        | true =>
          rw [hx] at q
          exact ⟨_, _, _, _, rfl, rfl, SqT.of hr0, rfl, _, _, rfl, q⟩
    · have e : stepOk ahead l = false := by simp [stepOk, hl]
      rw [e] at q
      refine iteNT (fun z => hl ?_) q
      rw [List.length_map] at z
      have := V.int.inj z
      lia
noncomputable abbrev s_look_wide : Stmt := top 16
theorem sc_look_wide : FnScope ["wide"] ["wide"] (defScope s_look_wide) := ⟨rfl, rfl, rfl, by decide +kernel, rfl, by decide +kernel, by decide +kernel⟩
theorem ok_look_wide {f : Addr} {fd : FuncData} (F : Fun K "look_wide" "look_wide" s_look_wide f fd) (T : Txt K mg CB CK CR CT CW CS) (d_is_within : Df P w K mg base "is_within" 2 ["value", "least", "most"] (spWithin)) : FnOk P w K mg base (CX1 P w) 3 f fd ["wide"] (spWide CB) := by
  refine F.ok1 sc_look_wide (fun vs H Q E h => ?_) (fun cdv A outer s H vs Q E hr h => ?_)
  · obtain ⟨i, rfl, q1, q2⟩ := h; rfl
  · obtain ⟨i, rfl, q1, q2⟩ := h
    have nd := sc_look_wide.nd
    refine ⟨_, (pss_one (ps_if (pt_not (pt_truth (pe_own d_is_within (hr.mono (by first | decide | lia)) rfl pass1 (pa_cons (pv 0) (pa_cons pe_int (pa_cons (pe_glob (v := .int 64) rfl T.g_MOST_THINGS.choose_spec ⟨_, rfl⟩) pa_nil)))) (fun _ => rfl)))
       (pss_one (ps_raise rfl throws1 T.x_BadNet rfl (pa_cons (pe_fstr (pj_cons pe_str (pj_cons (pe_fv (pe_glob (v := .int 64) rfl T.g_MOST_THINGS.choose_spec ⟨_, rfl⟩)) (pj_cons pe_str pj_nil)))) pa_nil)))
       pss_nil)), ?_⟩
    skip
    refine ⟨i, 1, 64, rfl, ?_⟩
    refine ⟨_, rfl, ?_⟩
    refine iteN (fun h2 => ?_) (fun h2 => ?_)
    · exact ⟨_, rfl, fA _ (by decide), _, rfl, (by decide), _, rfl, fB _ (by decide) (by decide), _, rfl, fC _ _ (by decide) (by decide) (by decide), fC _ _ (by decide) (by decide) (by decide), (by decide), q2 (fun z => by simp at h2; lia)⟩
    · exact q1 (by simp at h2; lia)
noncomputable abbrev s_look_steps : Stmt := top 17
theorem sc_look_steps : FnScope ["wide", "steps", "place", "step"] ["wide", "steps"] (defScope s_look_steps) := ⟨rfl, rfl, rfl, by decide +kernel, rfl, by decide +kernel, by decide +kernel⟩
inductive Iv_look_steps_0 (H : Hp) (i : Int) (sa : Addr) (ls : List (List Int)) (j : Nat) (σ2 : L2.St) (H2 : Hp) : Prop
  | mk : ∀ v2 v3, (σ2 = [some (.int i), some (.ref sa), v2, v3]) → (Same H H2) → (∀ (m : Nat) l, m < j → ls[m]? = some l → stepOk (i + m) l = true) → Iv_look_steps_0 H i sa ls j σ2 H2
theorem ok_look_steps {f : Addr} {fd : FuncData} (F : Fun K "look_steps" "look_steps" s_look_steps f fd) (T : Txt K mg CB CK CR CT CW CS) (d_is_step : Df P w K mg base "is_step" 4 ["value", "ahead"] (spStep)) : FnOk P w K mg base (CX1 P w) 5 f fd ["wide", "steps"] (spSteps CB) := by
  refine F.ok1 sc_look_steps (fun vs H Q E h => ?_) (fun cdv A outer s H vs Q E hr h => ?_)
  · obtain ⟨i, sa, rs, ls, rfl, hsa, hst, k⟩ := h; rfl
  · obtain ⟨i, sa, rs, ls, rfl, hsa, hst, k⟩ := h
    have nd := sc_look_steps.nd
    refine ⟨_, (pss_cons (ps_if (PW.pt (pw_or (pt_not (pt_truth (pe_callB call_isi rfl T.z_isinstance boot_isinstance (pa_cons (pv 1) (pa_cons (pe_bltn (v := .ty "list") rfl T.z_list boot_list rfl) pa_nil))) (fun _ => rfl))) (pw_or1 (pt_cmpR op_gt (pe_callB call_len_seq rfl T.z_len boot_len (pa_cons (pv 1) pa_nil)) (pe_glob (v := .int 500) rfl T.g_MOST_STEPS.choose_spec ⟨_, rfl⟩) (nomark _)))))
       (pss_one (ps_raise rfl throws1 T.x_BadNet rfl (pa_cons (pe_fstr (pj_cons pe_str (pj_cons (pe_fv (pe_glob (v := .int 500) rfl T.g_MOST_STEPS.choose_spec ⟨_, rfl⟩)) (pj_cons pe_str pj_nil)))) pa_nil)))
       pss_nil)
       (pss_one (ps_for powns1 rfl (pi_enum rfl T.z_enumerate (pa_cons (pv 1) pa_nil)) (pg_tup rfl (pgs_cons (pg_name (i := 2) nd rfl (Or.inl rfl)) (pgs_cons (pg_name (i := 3) nd rfl (Or.inl rfl)) pgs_nil)))
       (pss_one (ps_if (pt_not (pt_truth (pe_own d_is_step (hr.mono (by first | decide | lia)) rfl pass1 (pa_cons (pv 3) (pa_cons (pe_op op_add (pv 0) (pv 2)) pa_nil))) (fun _ => rfl)))
       (pss_one (ps_raise rfl throws1 T.x_BadNet rfl (pa_cons (pe_fstr (pj_cons pe_str (pj_cons (pe_fv (pv 2)) (pj_cons pe_str pj_nil)))) pa_nil)))
       pss_nil))))), ?_⟩
    skip
    have hll := hst.length
    refine ⟨_, _, _, _, true, rfl, rfl, .lst hsa, rfl, true, rfl, ?_⟩
    refine ⟨_, _, rfl, .inl (SqL.of hsa), ?_⟩
    refine iteB (fun h1 => ?_) (fun h1 => ?_)
    · refine ⟨_, rfl, fA _ (by decide), _, rfl, (by decide), _, rfl, fB _ (by decide) (by decide), _, rfl, fC _ _ (by decide) (by decide) (by decide), fC _ _ (by decide) (by decide) (by decide), (by decide), (k H (Same.refl H)).2 (fun z => by simp at h1; lia)⟩
    · refine ⟨sa, rfl, ⟨_, SqL.of hsa⟩, for_enum (K := K) (a := sa) (xs := rs) (Iv_look_steps_0 H i sa ls)
        ⟨_, _, rfl, Same.refl H, fun m l hm => absurd hm (Nat.not_lt_zero _)⟩ (fun j σ2 H2 _ ⟨_, _, _, s2, _⟩ => SqL.of (s2 _ _ hsa)) ?_ ?_⟩
      · rintro j x σ2 H2 p hx ⟨v2, v3, rfl, s2, hok⟩ hp
        refine L2.ob_eeaa (hst.get hx) fun r l e_2 hl hr0 => ?_; subst e_2
        have s3 : Same H (upd H2 p (.tup [.int j, .ref r])) := s2.upd (s2.free hp)
        refine ⟨p, _, rfl, SqT.of upd_same, rfl, ?_⟩
        refine ⟨r, l, _, rfl, s3 _ _ hr0, _, rfl, ?_⟩
        have hj : j ≤ 16777216 := by
          have := (List.getElem?_eq_some_iff.mp hx).1
          simp at h1
          lia
        refine iteN (fun h2 => ?_) (fun h2 => ?_)
        · refine ⟨_, rfl, fA _ (by decide), _, rfl, log2_small hj, _, rfl, fB _ (by decide) (log2_small hj), _, rfl, fC _ _ (by decide) (by decide) (log2_small hj), fC _ _ (by decide) (by decide) (log2_small hj), (show 1 ≤ sizeLine by decide), (k _ s3).2 (fun z => ?_)⟩
          have := z.2 j l hl
          rw [h2] at this; cases this
        · refine ⟨_, _, rfl, s3, fun m l' hm hl' => ?_⟩
          by_cases e : m = j
          · subst e
            rw [hl] at hl'; obtain rfl := Option.some.inj hl'
            exact h2
          · exact hok m l' (by lia) hl'
      · rintro σ2 H2 ⟨v2, v3, rfl, s2, hok⟩
        refine (k H2 s2).1 ⟨by simp at h1; lia, fun m l hl => hok m l ?_ hl⟩
        rw [hll]; exact (List.getElem?_eq_some_iff.mp hl).1
noncomputable abbrev s_look_outs : Stmt := top 18
theorem sc_look_outs : FnScope ["wide", "steps", "outs", "place", "out"] ["wide", "steps", "outs"] (defScope s_look_outs) := ⟨rfl, rfl, rfl, by decide +kernel, rfl, by decide +kernel, by decide +kernel⟩
inductive Iv_look_outs_0 (H : Hp) (i : Int) (sa : Addr) (oa : Addr) (rs : List V) (outs : List Int) (j : Nat) (σ2 : L2.St) (H2 : Hp) : Prop
  | mk : ∀ v2 v3, (σ2 = [some (.int i), some (.ref sa), some (.ref oa), v2, v3]) → (Same H H2) → (∀ (m : Nat) v, m < j → outs[m]? = some v → 0 ≤ v ∧ v < i + rs.length) → Iv_look_outs_0 H i sa oa rs outs j σ2 H2
theorem ok_look_outs {f : Addr} {fd : FuncData} (F : Fun K "look_outs" "look_outs" s_look_outs f fd) (T : Txt K mg CB CK CR CT CW CS) (d_is_node : Df P w K mg base "is_node" 3 ["value", "ahead"] (spNode)) : FnOk P w K mg base (CX1 P w) 4 f fd ["wide", "steps", "outs"] (spOuts CB) := by
  refine F.ok1 sc_look_outs (fun vs H Q E h => ?_) (fun cdv A outer s H vs Q E hr h => ?_)
  · obtain ⟨i, sa, oa, rs, outs, rfl, hol, hsa, hoa, k⟩ := h; rfl
  · obtain ⟨i, sa, oa, rs, outs, rfl, hol, hsa, hoa, k⟩ := h
    have nd := sc_look_outs.nd
    refine ⟨_, (pss_cons (ps_if (PW.pt (pw_or (pt_not (pt_truth (pe_callB call_isi rfl T.z_isinstance boot_isinstance (pa_cons (pv 2) (pa_cons (pe_bltn (v := .ty "list") rfl T.z_list boot_list rfl) pa_nil))) (fun _ => rfl))) (pw_or1 (pt_cmpR op_ne (pe_callB call_len_seq rfl T.z_len boot_len (pa_cons (pv 2) pa_nil)) (pv 0) (nomark _)))))
       (pss_one (ps_raise rfl throws1 T.x_BadNet rfl (pa_cons pe_str pa_nil)))
       pss_nil)
       (pss_one (ps_for powns1 rfl (pi_enum rfl T.z_enumerate (pa_cons (pv 2) pa_nil)) (pg_tup rfl (pgs_cons (pg_name (i := 3) nd rfl (Or.inl rfl)) (pgs_cons (pg_name (i := 4) nd rfl (Or.inl rfl)) pgs_nil)))
       (pss_one (ps_if (pt_not (pt_truth (pe_own d_is_node (hr.mono (by first | decide | lia)) rfl pass1 (pa_cons (pv 4) (pa_cons (pe_op op_add (pv 0) (pe_callB call_len_seq rfl T.z_len boot_len (pa_cons (pv 1) pa_nil))) pa_nil))) (fun _ => rfl)))
       (pss_one (ps_raise rfl throws1 T.x_BadNet rfl (pa_cons (pe_fstr (pj_cons pe_str (pj_cons (pe_fv (pv 3)) (pj_cons pe_str pj_nil)))) pa_nil)))
       pss_nil))))), ?_⟩
    skip
    refine ⟨_, _, _, _, true, rfl, rfl, .lst hoa, rfl, true, rfl, ?_⟩
    refine ⟨_, _, rfl, .inl (SqL.of hoa), ?_⟩
    by_cases h1 : (outs.length : Int) = i
    · refine iteNS (by rw [List.length_map, h1]) ?_
      refine ⟨oa, rfl, ⟨_, SqL.of hoa⟩, for_enum (K := K) (a := oa) (xs := outs.map V.int) (Iv_look_outs_0 H i sa oa rs outs)
        ⟨_, _, rfl, Same.refl H, fun m l hm => absurd hm (Nat.not_lt_zero _)⟩ (fun j σ2 H2 _ ⟨_, _, _, s2, _⟩ => SqL.of (s2 _ _ hoa)) ?_ ?_⟩
      · rintro j x σ2 H2 p hx ⟨v2, v3, rfl, s2, hok⟩ hp
        rw [List.getElem?_map] at hx
        refine L2.ob_ea (Option.map_eq_some_iff.mp hx) fun v hv e_2 => ?_; subst e_2
        have s3 : Same H (upd H2 p (.tup [.int j, .int v])) := s2.upd (s2.free hp)
        refine ⟨p, _, rfl, SqT.of upd_same, rfl, ?_⟩
        refine ⟨_, _, rfl, .inl (SqL.of (s3 _ _ hsa)), v, _, rfl, _, rfl, ?_⟩
        have hj : j ≤ 16777216 := by
          have h3 := (List.getElem?_eq_some_iff.mp hv).1
          lia
        refine iteN (fun h2 => ?_) (fun h2 => ?_)
        · refine ⟨_, rfl, fA _ (by decide), _, rfl, log2_small hj, _, rfl, fB _ (by decide) (log2_small hj), _, rfl, fC _ _ (by decide) (by decide) (log2_small hj), fC _ _ (by decide) (by decide) (log2_small hj), (show 1 ≤ sizeLine by decide), (k _ s3).2 (fun z => ?_)⟩
          have := z.2 v (List.mem_of_getElem? hv)
          unfold nodeB at h2
          simp at h2
          lia
        · refine ⟨_, _, rfl, s3, fun m v' hm hv' => ?_⟩
          by_cases e : m = j
          · subst e
            rw [hv] at hv'; obtain rfl := Option.some.inj hv'
            unfold nodeB at h2
            simp at h2
            lia
          · exact hok m v' (by lia) hv'
      · rintro σ2 H2 ⟨v2, v3, rfl, s2, hok⟩
        refine (k H2 s2).1 ⟨h1, fun v hv => ?_⟩
        obtain ⟨m, hm⟩ := List.getElem?_of_mem hv
        exact hok m v (by rw [List.length_map]; exact (List.getElem?_eq_some_iff.mp hm).1) hm
    · refine iteNT (fun z => h1 ?_) ⟨by decide, (k H (Same.refl H)).2 (fun z => h1 z.1)⟩
      rw [List.length_map] at z
      exact V.int.inj z
noncomputable abbrev s_look_net : Stmt := top 15
theorem sc_look_net : FnScope ["net"] ["net"] (defScope s_look_net) := ⟨rfl, rfl, rfl, by decide +kernel, rfl, by decide +kernel, by decide +kernel⟩
theorem ok_look_net {f : Addr} {fd : FuncData} (F : Fun K "look_net" "look_net" s_look_net f fd) (T : Txt K mg CB CK CR CT CW CS) (d_look_wide : Df P w K mg base "look_wide" 3 ["wide"] (spWide CB)) (d_look_steps : Df P w K mg base "look_steps" 5 ["wide", "steps"] (spSteps CB)) (d_look_outs : Df P w K mg base "look_outs" 4 ["wide", "steps", "outs"] (spOuts CB)) : FnOk P w K mg base (CX1 P w) 6 f fd ["net"] (spLook CB) := by
  refine F.ok1 sc_look_net (fun vs H Q E h => ?_) (fun cdv A outer s H vs Q E hr h => ?_)
  · obtain ⟨a, sa, oa, rs, wide, steps, outs, rfl, hol, n, k⟩ := h; rfl
  · obtain ⟨a, sa, oa, rs, wide, steps, outs, rfl, hol, n, k⟩ := h
    have nd := sc_look_net.nd
    refine ⟨_, (pss_cons (ps_if (PW.pt (pw_or (pt_not (pt_truth (pe_callB call_isi rfl T.z_isinstance boot_isinstance (pa_cons (pv 0) (pa_cons (pe_bltn (v := .ty "tuple") rfl T.z_tuple boot_tuple rfl) pa_nil))) (fun _ => rfl))) (pw_or1 (pt_cmpR op_ne (pe_callB call_len_seq rfl T.z_len boot_len (pa_cons (pv 0) pa_nil)) pe_int (nomark _)))))
       (pss_one (ps_raise rfl throws1 T.x_BadNet rfl (pa_cons pe_str pa_nil)))
       pss_nil)
       (pss_cons (ps_expr (pe_own d_look_wide (hr.mono (by first | decide | lia)) rfl pass1 (pa_cons (pe_ix ix_tup (pv 0) pe_int (fun _ _ => rfl)) pa_nil)))
       (pss_cons (ps_expr (pe_own d_look_steps (hr.mono (by first | decide | lia)) rfl pass1 (pa_cons (pe_ix ix_tup (pv 0) pe_int (fun _ _ => rfl)) (pa_cons (pe_ix ix_tup (pv 0) pe_int (fun _ _ => rfl)) pa_nil))))
       (pss_one (ps_expr (pe_own d_look_outs (hr.mono (by first | decide | lia)) rfl pass1 (pa_cons (pe_ix ix_tup (pv 0) pe_int (fun _ _ => rfl)) (pa_cons (pe_ix ix_tup (pv 0) pe_int (fun _ _ => rfl)) (pa_cons (pe_ix ix_tup (pv 0) pe_int (fun _ _ => rfl)) pa_nil))))))))), ?_⟩
    skip
    have hll := n.st.length
    refine ⟨_, _, _, _, true, rfl, rfl, .tup n.net, rfl, true, rfl, ?_⟩
    refine ⟨_, _, rfl, .inr (SqT.of n.net), ?_⟩
    refine ⟨_, _, _, _, rfl, rfl, SqT.of n.net, rfl, wide, rfl, fun h1 => ?_, fun h1 => (k H (Same.refl H)).2 (fun g => h1 ⟨g.lo, g.hi⟩)⟩
    refine ⟨_, _, _, _, rfl, rfl, SqT.of n.net, rfl, _, _, _, _, rfl, rfl, SqT.of n.net, rfl, wide, sa, rs, steps, rfl, n.sts, n.st, fun H2 s2 => ⟨fun h2 => ?_, fun h2 => (k H2 s2).2 (fun g => h2 ⟨g.len, g.st⟩)⟩⟩
    have n2 := n.mono s2
    refine ⟨_, _, _, _, rfl, rfl, SqT.of n2.net, rfl, _, _, _, _, rfl, rfl, SqT.of n2.net, rfl, _, _, _, _, rfl, rfl, SqT.of n2.net, rfl, wide, sa, oa, rs, outs, rfl, hol, n2.sts, n2.ots, fun H3 s3 => ⟨fun h3 => ?_, fun h3 => (k H3 (s2.trans s3)).2 (fun g => h3 ⟨g.ol, by rw [hll]; exact g.ou⟩)⟩⟩
    rw [hll] at h3
    exact (k H3 (s2.trans s3)).1 ⟨h1.1, h1.2, h2.1, h2.2, h3.1, h3.2⟩
end
end K50

namespace K50
open PySem L2 NM PyProof.Rows
section
variable {P : Program} {w : World} {K : PySem.W.Frag} {mg : Str → Option Value} {base : Heap} {CB CK CR CT CW CS : Addr}
noncomputable abbrev s_is_number : Stmt := top 28
theorem sc_is_number : FnScope ["word"] ["word"] (defScope s_is_number) := ⟨rfl, rfl, rfl, by decide +kernel, rfl, by decide +kernel, by decide +kernel⟩
inductive Iv_num (x : Str) (H0 : Hp) (i : Nat) (ys : List V) (H : Hp) : Prop
  | mk : (H = H0) → (ys = ((x.cps.toList.take i).map digB).map V.bl) → Iv_num x H0 i ys H
theorem ok_is_number {f : Addr} {fd : FuncData} (F : Fun K "is_number" "is_number" s_is_number f fd) (T : Txt K mg CB CK CR CT CW CS)  : FnOk P w K mg base (CX1 P w) 1 f fd ["word"] (spIsNum) := by
  refine F.ok1 sc_is_number (fun vs H Q E h => ?_) (fun cdv A outer s H vs Q E hr h => ?_)
  · obtain ⟨x, rfl, hlow, hlen, k⟩ := h; rfl
  · obtain ⟨x, rfl, hlow, hlen, k⟩ := h
    have nd := sc_is_number.nd
    refine ⟨_, (pss_cons (ps_if (pt_not (pt_chain op_le op_le pe_int (pe_callB call_len_str rfl T.z_len boot_len (pa_cons (pv 0) pa_nil)) (pe_glob (v := .int 3) rfl T.g_MOST_FIGURES.choose_spec ⟨_, rfl⟩)))
       (pss_one (ps_ret pe_bl))
       pss_nil)
       (pss_cons (ps_if (PW.pt (pw_and (pt_cmpR op_gt (pe_callB call_len_str rfl T.z_len boot_len (pa_cons (pv 0) pa_nil)) pe_int (nomark _)) (pw_and1 (pt_cmpR op_eq (pe_ix ix_str (pv 0) pe_int (fun _ _ => rfl)) pe_str (nomark _)))))
       (pss_one (ps_ret pe_bl))
       pss_nil)
       (pss_one (ps_ret (pe_callB (call_all rfl) rfl T.z_all boot_all (pa_cons (pe_comp (ot := none) [] rfl (pi_str (pv 0)) (fun _ _ _ _ => (pe_cmpR op_in_str (pv 0) (pe_glob (v := .str (Str.ofString "0123456789")) rfl T.g_FIGURES.choose_spec ⟨_, rfl⟩) (by with_unfolding_all rfl))) (fun _ _ _ _ => trivial) rfl (nodupS_of rfl)) pa_nil)))))), ?_⟩
    skip
    have hz : x.length ≤ sizeLine := by rw [sizeLine_eq]; lia
    refine ⟨x, rfl, hz, ?_⟩
    have no : isNumT x = false → Q (.bl false) H := fun h => by have := k H (Same.refl H); rw [h] at this; exact this
    by_cases h1 : 1 ≤ x.length
    case neg =>
      refine ⟨false, congrArg V.bl (decide_eq_false (show ¬ ((1 : Int) ≤ (x.length : Int)) by lia)), no ?_⟩
      unfold isNumT
      rw [decide_eq_false (fun z => h1 z.1)]; rfl
    refine ⟨true, congrArg V.bl (decide_eq_true (show (1 : Int) ≤ (x.length : Int) by lia)), ?_⟩
    rw [if_pos rfl]
    refine iteN (fun h2 => ?_) (fun h2 => ?_)
    · refine no ?_
      have h2 := of_decide_eq_false h2
      unfold isNumT
      rw [decide_eq_false (fun z => h2 (by have := z.2; lia))]; rfl
    have h2 : x.length ≤ 3 := by have := of_decide_eq_true h2; lia
    have hn : isNumT x = (!(decide (1 < x.length) && decide (x.cps.toList.head? = some 48)) && x.cps.toList.all digB) := by unfold isNumT; rw [decide_eq_true ⟨h1, h2⟩, Bool.true_and]
    obtain ⟨c, r, hc⟩ : ∃ c r, x.cps.toList = c :: r := by
      cases hx : x.cps.toList with
      | nil => have : x.cps.toList.length = x.length := by simp [Str.length]
               rw [hx] at this; simp at this; lia
      | cons c r => exact ⟨c, r, rfl⟩
    have tail : (1 < x.length ∧ c = 48 → False) → tRet (tCB (rAll K) (tCons (tComp (iStr (tVar 0)) [] none (tOp r_op_in_str (tVar 0) (tC (V.str (Str.ofString "0123456789"))))) tNil)) { nx := fun x H' => Q V.non H', rt := Q } (L2.start [Str.ofString "word"] [V.str x]) H := fun hh => by
      refine ⟨x, rfl, hlow, comp_str (x := x) (Iv_num x H) ⟨rfl, rfl⟩ (fun i ys H9 hi ⟨_, e⟩ => fitsL (by rw [e]; simp; have : x.cps.size = x.length := rfl; lia)) ?_ ?_⟩
      · rintro i d ys9 H9 TT hd ⟨rfl, rfl⟩ ht
        refine ⟨_, _, rfl, rfl, ht _ _ ⟨rfl, ?_⟩⟩
        rw [List.take_succ, show x.cps.toList[i]? = some d by rw [Array.getElem?_toList]; exact hd, List.map_append, List.map_append]; rfl
      rintro ys9 H9 ⟨rfl, rfl⟩ p gp
      refine ⟨p, _, rfl, SqL.of upd_same, ?_⟩
      have := k _ (Same.new (o := .lst (((x.cps.toList.take x.cps.size).map digB).map V.bl)) gp)
      rw [hn] at this
      have e1 : (!(decide (1 < x.length) && decide (x.cps.toList.head? = some 48))) = true := by
        rw [hc]
        by_cases h3 : 1 < x.length
        · rw [decide_eq_true h3]
          show (!(true && decide (some c = some 48))) = true
          rw [decide_eq_false (fun z => hh ⟨h3, Option.some.inj z⟩)]; rfl
        · rw [decide_eq_false h3]; rfl
      rw [e1, Bool.true_and] at this
      have e2 : x.cps.toList.all digB = (((x.cps.toList.take x.cps.size).map digB).all id) := by
        rw [List.take_of_length_le (by simp), List.all_map]; rfl
      rw [e2] at this
      exact this
    refine ⟨x, rfl, hz, iteB (fun h3 => ?_) (fun h3 => ?_)⟩
    · have h3 : 1 < x.length := by have := of_decide_eq_true h3; lia
      refine ⟨x, 0, c, rfl, rfl, hz, atI_nat (xs := x.cps.toList) (j := 0) (by rw [hc]; rfl), iteB (fun h4 => no ?_) (fun h4 => tail fun z => ?_)⟩
      · have h5 : c = 48 := by
          have h6 : (⟨#[c]⟩ : Str) = ⟨#[48]⟩ := (V.str.inj (of_decide_eq_true h4)).trans (by decide)
          simpa using congrArg (fun z : Str => z.cps.toList) h6
        rw [hn, decide_eq_true h3, hc]
        show (!(true && decide (some c = some 48)) && _) = false
        rw [decide_eq_true (by rw [h5])]; rfl
      · rw [z.2] at h4
        exact absurd h4 (by decide)
    · have h3 := of_decide_eq_false h3
      exact tail fun z => h3 (by have := z.1; lia)
noncomputable abbrev s_read_number : Stmt := top 27
theorem sc_read_number : FnScope ["word"] ["word"] (defScope s_read_number) := ⟨rfl, rfl, rfl, by decide +kernel, rfl, by decide +kernel, by decide +kernel⟩
theorem ok_read_number {f : Addr} {fd : FuncData} (F : Fun K "read_number" "read_number" s_read_number f fd) (T : Txt K mg CB CK CR CT CW CS) (d_is_number : Df P w K mg base "is_number" 1 ["word"] (spIsNum)) : FnOk P w K mg base (CX1 P w) 2 f fd ["word"] (spRdI CT rdNum) := by
  refine F.ok1 sc_read_number (fun vs H Q E h => ?_) (fun cdv A outer s H vs Q E hr h => ?_)
  · obtain ⟨x, rfl, hlow, hlen, bad, k⟩ := h; rfl
  · obtain ⟨x, rfl, hlow, hlen, bad, k⟩ := h
    have nd := sc_read_number.nd
    refine ⟨_, (pss_cons (ps_if (pt_not (pt_truth (pe_own d_is_number (hr.mono (by first | decide | lia)) rfl pass1 (pa_cons (pv 0) pa_nil)) (fun _ => rfl)))
       (pss_one (ps_raise rfl throws1 T.x_BadText rfl (pa_cons (pe_fstr (pj_cons pe_str (pj_cons (pe_fv (pe_glob (v := .int 3) rfl T.g_MOST_FIGURES.choose_spec ⟨_, rfl⟩)) (pj_cons pe_str pj_nil)))) pa_nil)))
       pss_nil)
       (pss_one (ps_ret (pe_callTy call_intS rfl T.z_int boot_int (pa_cons (pv 0) pa_nil))))), ?_⟩
    skip
    refine ⟨x, rfl, hlow, hlen, fun H2 s2 => ⟨isNumT x, rfl, ?_⟩⟩
    cases hn : isNumT x with
    | false =>
      refine ⟨_, rfl, by decide, _, rfl, by decide, _, rfl, by decide, _, rfl, by decide, by decide, (show 1 ≤ sizeLine by decide), bad H2 s2 ?_⟩
      unfold rdNum
      rw [if_neg (by rw [hn]; decide)]
    | true =>
      obtain ⟨h1, h2⟩ := num_reads' hn
      exact ⟨x, _, rfl, h1, by lia, k H2 _ s2 (by unfold rdNum; rw [if_pos hn])⟩
end
end K50

namespace K50
open PySem L2 NM PyProof.Rows
section
variable {P : Program} {w : World} {K : PySem.W.Frag} {mg : Str → Option Value} {base : Heap} {CB CK CR CT CW CS : Addr}
noncomputable abbrev s_read_wide : Stmt := top 24
theorem sc_read_wide : FnScope ["row", "words"] ["row"] (defScope s_read_wide) := ⟨rfl, rfl, rfl, by decide +kernel, rfl, by decide +kernel, by decide +kernel⟩
theorem ok_read_wide {f : Addr} {fd : FuncData} (F : Fun K "read_wide" "read_wide" s_read_wide f fd) (T : Txt K mg CB CK CR CT CW CS) (d_read_number : Df P w K mg base "read_number" 2 ["word"] (spRdI CT rdNum)) : FnOk P w K mg base (CX1 P w) 3 f fd ["row"] (spRdI CT rdWide) := by
  refine F.ok1 sc_read_wide (fun vs H Q E h => ?_) (fun cdv A outer s H vs Q E hr h => ?_)
  · obtain ⟨x, rfl, hlow, hlen, bad, k⟩ := h; rfl
  · obtain ⟨x, rfl, hlow, hlen, bad, k⟩ := h
    have nd := sc_read_wide.nd
    refine ⟨_, (pss_cons (ps_set (i := 1) nd rfl (Or.inl rfl) (pe_bm PySem.F.plainAttrs_str PySem.F.slot_str_split PySem.F.type_str_split mt_split (pv 0) (pa_cons pe_str pa_nil)))
       (pss_cons (ps_if (PW.pt (pw_or (pt_cmpR op_ne (pe_callB call_len_seq rfl T.z_len boot_len (pa_cons (pv 1) pa_nil)) pe_int (nomark _)) (pw_or1 (pt_cmpR op_ne (pe_ix ix_list (pv 1) pe_int (fun _ _ => rfl)) pe_str (nomark _)))))
       (pss_one (ps_raise rfl throws1 T.x_BadText rfl (pa_cons pe_str pa_nil)))
       pss_nil)
       (pss_one (ps_ret (pe_own d_read_number (hr.mono (by first | decide | lia)) rfl pass1 (pa_cons (pe_ix ix_list (pv 1) pe_int (fun _ _ => rfl)) pa_nil)))))), ?_⟩
    skip
    refine ⟨rfl, x, 32, rfl, by rw [show Str.ofString " " = ⟨#[32]⟩ from by decide], by rw [sizeLine_eq]; lia, fun p gp => ?_⟩
    have hl : ∀ q ∈ spl x 32, lowT q ∧ q.length ≤ 10000 := fun q hq => ⟨spl_low hlow hq, Nat.le_trans (spl_len hq) hlen⟩
    have hw : rdWide x = (match spl x 32 with | [a, b] => if a = Str.ofString "wide" then rdNum b else none | _ => none) := rfl
    have s1 := Same.new (o := .lst ((spl x 32).map V.str)) gp
    have hp : (upd H p (.lst ((spl x 32).map V.str))) p = some (.lst ((spl x 32).map V.str)) := upd_same
    have n0 := spl_ne x 32
    rw [show Txt.split x ⟨#[32]⟩ = spl x 32 from rfl]
    generalize upd H p (.lst ((spl x 32).map V.str)) = H1 at s1 hp ⊢
    generalize spl x 32 = ws at hl hw hp n0
    have no : ws.length ≠ 2 ∨ ws.head? ≠ some (Str.ofString "wide") → rdWide x = none := fun h => by
      rw [hw]
      rcases ws with _ | ⟨a, _ | ⟨b, _ | ⟨d, r⟩⟩⟩
      · rfl
      · rfl
      · refine if_neg fun z => ?_
        rcases h with h | h
        · exact h rfl
        · exact h (by rw [z]; rfl)
      · rfl
    refine ⟨p, _, rfl, .inl (SqL.of hp), iteN (fun h1 => ?_) (fun h1 => ?_)⟩
    · refine ⟨(show 1 ≤ sizeLine by decide), bad H1 s1 (no (.inl fun z => of_decide_eq_false h1 ?_))⟩
      rw [List.length_map, z]; rfl
    have h1 : (((ws.map V.str).length : Nat) : Int) = 2 := V.int.inj (of_decide_eq_true h1)
    rw [List.length_map] at h1
    obtain ⟨a, b, rfl⟩ := two_of (show ws.length = 2 by lia)
    refine ⟨p, _, 0, .str a, rfl, rfl, SqL.of hp, rfl, iteN (fun h2 => ?_) (fun h2 => ?_)⟩
    · exact ⟨(show 1 ≤ sizeLine by decide), bad H1 s1 (no (.inr fun z => of_decide_eq_false h2 (congrArg V.str (Option.some.inj z))))⟩
    have h2 : a = Str.ofString "wide" := V.str.inj (of_decide_eq_true h2)
    have hw : rdWide x = rdNum b := hw.trans (if_pos h2)
    have lb := hl b (by simp)
    exact ⟨p, _, 1, .str b, rfl, rfl, SqL.of hp, rfl, b, rfl, lb.1, lb.2, fun H2 s2 e => bad H2 (s1.trans s2) (hw.trans e), fun H2 n s2 e => k H2 n (s1.trans s2) (hw.trans e)⟩
noncomputable abbrev s_read_step : Stmt := top 25
theorem sc_read_step : FnScope ["row", "words"] ["row"] (defScope s_read_step) := ⟨rfl, rfl, rfl, by decide +kernel, rfl, by decide +kernel, by decide +kernel⟩
theorem ok_read_step {f : Addr} {fd : FuncData} (F : Fun K "read_step" "read_step" s_read_step f fd) (T : Txt K mg CB CK CR CT CW CS) (d_read_number : Df P w K mg base "read_number" 2 ["word"] (spRdI CT rdNum)) : FnOk P w K mg base (CX1 P w) 3 f fd ["row"] (spRdS CT) := by
  refine F.ok1 sc_read_step (fun vs H Q E h => ?_) (fun cdv A outer s H vs Q E hr h => ?_)
  · obtain ⟨x, rfl, hlow, hlen, bad, k⟩ := h; rfl
  · obtain ⟨x, rfl, hlow, hlen, bad, k⟩ := h
    have nd := sc_read_step.nd
    refine ⟨_, (pss_cons (ps_set (i := 1) nd rfl (Or.inl rfl) (pe_bm PySem.F.plainAttrs_str PySem.F.slot_str_split PySem.F.type_str_split mt_split (pv 0) (pa_cons pe_str pa_nil)))
       (pss_cons (ps_if (pt_cmpR op_ne (pe_callB call_len_seq rfl T.z_len boot_len (pa_cons (pv 1) pa_nil)) pe_int (nomark _))
       (pss_one (ps_raise rfl throws1 T.x_BadText rfl (pa_cons pe_str pa_nil)))
       pss_nil)
       (pss_one (ps_ret (pe_tup (pa_cons (pe_own d_read_number (hr.mono (by first | decide | lia)) rfl pass1 (pa_cons (pe_ix ix_list (pv 1) pe_int (fun _ _ => rfl)) pa_nil)) (pa_cons (pe_own d_read_number (hr.mono (by first | decide | lia)) rfl pass1 (pa_cons (pe_ix ix_list (pv 1) pe_int (fun _ _ => rfl)) pa_nil)) pa_nil))))))), ?_⟩
    skip
    refine ⟨rfl, x, 43, rfl, by rw [show Str.ofString "+" = ⟨#[43]⟩ from by decide], by rw [sizeLine_eq]; lia, fun p gp => ?_⟩
    have hl : ∀ q ∈ spl x 43, lowT q ∧ q.length ≤ 10000 := fun q hq => ⟨spl_low hlow hq, Nat.le_trans (spl_len hq) hlen⟩
    have hw : rdStep x = (match spl x 43 with | [a, b] => (match rdNum a, rdNum b with | some i, some j => some [i, j] | _, _ => none) | _ => none) := rfl
    have s1 := Same.new (o := .lst ((spl x 43).map V.str)) gp
    have hp : (upd H p (.lst ((spl x 43).map V.str))) p = some (.lst ((spl x 43).map V.str)) := upd_same
    rw [show Txt.split x ⟨#[43]⟩ = spl x 43 from rfl]
    generalize upd H p (.lst ((spl x 43).map V.str)) = H1 at s1 hp ⊢
    generalize spl x 43 = ws at hl hw hp
    refine ⟨p, _, rfl, .inl (SqL.of hp), iteN (fun h1 => ?_) (fun h1 => ?_)⟩
    · refine ⟨(show 1 ≤ sizeLine by decide), bad H1 s1 ?_⟩
      rw [hw]
      rcases ws with _ | ⟨a, _ | ⟨b, _ | ⟨d, r⟩⟩⟩
      · rfl
      · rfl
      · exact absurd rfl (of_decide_eq_false h1)
      · rfl
    have h1 : (((ws.map V.str).length : Nat) : Int) = 2 := V.int.inj (of_decide_eq_true h1)
    rw [List.length_map] at h1
    obtain ⟨a, b, rfl⟩ := two_of (show ws.length = 2 by lia)
    have la := hl a (by simp)
    have lb := hl b (by simp)
    have hw : rdStep x = (match rdNum a, rdNum b with | some i, some j => some [i, j] | _, _ => none) := hw
    refine ⟨p, _, 0, .str a, rfl, rfl, SqL.of hp, rfl, a, rfl, la.1, la.2, fun H2 s2 e => bad H2 (s1.trans s2) (by rw [hw, e]), fun H2 n s2 e => ?_⟩
    refine ⟨p, _, 1, .str b, rfl, rfl, SqL.of (s2 _ _ hp), rfl, b, rfl, lb.1, lb.2, fun H3 s3 e3 => bad H3 ((s1.trans s2).trans s3) (by rw [hw, e, e3]), fun H3 n3 s3 e3 => ?_⟩
    exact ⟨(show 2 ≤ sizeLine by decide), fun q gq => k _ [n, n3] q (((s1.trans s2).trans s3).trans (Same.new gq)) (by rw [hw, e, e3]) upd_same⟩
noncomputable abbrev s_read_outs : Stmt := top 26
theorem sc_read_outs : FnScope ["row", "words"] ["row"] (defScope s_read_outs) := ⟨rfl, rfl, rfl, by decide +kernel, rfl, by decide +kernel, by decide +kernel⟩
inductive Iv_outs (rs : List Str) (H0 : Hp) (i : Nat) (ys : List V) (H : Hp) : Prop
  | mk : ∀ l : List Int, (Same H0 H) → (rdAll rdNum (rs.take i) = some l) → (ys = l.map V.int) → (l.length = i) → Iv_outs rs H0 i ys H
theorem ok_read_outs {f : Addr} {fd : FuncData} (F : Fun K "read_outs" "read_outs" s_read_outs f fd) (T : Txt K mg CB CK CR CT CW CS) (d_read_number : Df P w K mg base "read_number" 2 ["word"] (spRdI CT rdNum)) : FnOk P w K mg base (CX1 P w) 3 f fd ["row"] (spRdO CT) := by
  refine F.ok1 sc_read_outs (fun vs H Q E h => ?_) (fun cdv A outer s H vs Q E hr h => ?_)
  · obtain ⟨x, rfl, hlow, hlen, bad, k⟩ := h; rfl
  · obtain ⟨x, rfl, hlow, hlen, bad, k⟩ := h
    have nd := sc_read_outs.nd
    refine ⟨_, (pss_cons (ps_set (i := 1) nd rfl (Or.inl rfl) (pe_bm PySem.F.plainAttrs_str PySem.F.slot_str_split PySem.F.type_str_split mt_split (pv 0) (pa_cons pe_str pa_nil)))
       (pss_cons (ps_if (pt_cmpR op_ne (pe_ix ix_list (pv 1) pe_int (fun _ _ => rfl)) pe_str (nomark _))
       (pss_one (ps_raise rfl throws1 T.x_BadText rfl (pa_cons pe_str pa_nil)))
       pss_nil)
       (pss_one (ps_ret (pe_compX (ot := none) [] rfl (pi_list (pe_slice sl_list (pv 1) (po_some pe_int) po_none)) own1 passC1 (fun _ _ _ _ _ hp => (pe_own d_read_number (hr.mono (by first | decide | lia)) rfl hp (pa_cons (pv 0) pa_nil))) (fun _ _ _ _ => trivial) rfl (nodupS_of rfl)))))), ?_⟩
    skip
    refine ⟨rfl, x, 32, rfl, by rw [show Str.ofString " " = ⟨#[32]⟩ from by decide], by rw [sizeLine_eq]; lia, fun p gp => ?_⟩
    have hl : ∀ q ∈ spl x 32, lowT q ∧ q.length ≤ 10000 := fun q hq => ⟨spl_low hlow hq, Nat.le_trans (spl_len hq) hlen⟩
    have hw : rdOuts x = (match spl x 32 with | a :: r => (if a = Str.ofString "outs" then rdAll rdNum r else none) | [] => none) := rfl
    have s1 := Same.new (o := .lst ((spl x 32).map V.str)) gp
    have hp : (upd H p (.lst ((spl x 32).map V.str))) p = some (.lst ((spl x 32).map V.str)) := upd_same
    have n0 := spl_ne x 32
    have nl := spl_many x 32
    rw [show Txt.split x ⟨#[32]⟩ = spl x 32 from rfl]
    generalize upd H p (.lst ((spl x 32).map V.str)) = H1 at s1 hp ⊢
    generalize spl x 32 = ws at hl hw hp n0 nl
    rcases ws with _ | ⟨a, r⟩
    · exact absurd rfl n0
    have hw : rdOuts x = if a = Str.ofString "outs" then rdAll rdNum r else none := hw
    refine ⟨p, _, 0, .str a, rfl, rfl, SqL.of hp, atI_nat (j := 0) rfl, iteN (fun h2 => ?_) (fun h2 => ?_)⟩
    · exact ⟨(show 1 ≤ sizeLine by decide), bad H1 s1 (hw.trans (if_neg fun z => of_decide_eq_false h2 (congrArg V.str z)))⟩
    have h2 : a = Str.ofString "outs" := V.str.inj (of_decide_eq_true h2)
    rw [if_pos h2] at hw
    refine ⟨p, _, rfl, SqL.of hp, fun q gq => ?_⟩
    rw [cutV_one]
    have s2 := s1.trans (Same.new (o := .lst (r.map V.str)) gq)
    have hq : (upd H1 q (.lst (r.map V.str))) q = some (.lst (r.map V.str)) := upd_same
    show iList_b K _ (V.ref q) (upd H1 q (.lst (r.map V.str)))
    generalize upd H1 q (.lst (r.map V.str)) = H2 at s2 hq ⊢
    refine ⟨q, rfl, ⟨_, SqL.of hq⟩, comp_list (K := K) (a := q) (xs := r.map V.str) (Iv_outs r H2) ⟨[], Same.refl _, rfl, rfl, rfl⟩ (fun i ys H9 _ ⟨_, s9, _, _, _⟩ => SqL.of (s9 _ _ hq)) (fun i ys H9 hi ⟨l, _, _, e, hl9⟩ => fitsL (by rw [e, List.length_map, hl9]; simp at hi nl; lia)) ?_ ?_⟩
    · rintro i v ys9 H9 TT hv ⟨l, s9, hr, rfl, hl9⟩ ht
      rw [List.getElem?_map] at hv
      obtain ⟨wd, hwd, rfl⟩ := Option.map_eq_some_iff.mp hv
      have lw := hl wd (List.mem_cons_of_mem _ (List.mem_of_getElem? hwd))
      refine ⟨wd, rfl, lw.1, lw.2, fun H10 s10 e => bad H10 ((s2.trans s9).trans s10) (hw.trans (rdAll_none e (List.mem_of_getElem? hwd))), fun H10 n s10 e => ht _ _ ⟨l ++ [n], s9.trans s10, ?_, by rw [List.map_append]; rfl, by rw [List.length_append, hl9]; rfl⟩⟩
      rw [List.take_succ, hwd]
      exact rdAll_snoc e hr
    rintro ys9 H9 ⟨l, s9, hr, rfl, hl9⟩ o go
    rw [List.length_map, List.take_length] at hr
    exact k _ l o ((s2.trans s9).trans (Same.new go)) (hw.trans hr) upd_same
end
end K50

namespace K50
open PySem L2 NM PyProof.Rows
section
variable {P : Program} {w : World} {K : PySem.W.Frag} {mg : Str → Option Value} {base : Heap} {CB CK CR CT CW CS : Addr}
noncomputable abbrev s_read : Stmt := top 23
theorem sc_read : FnScope ["text", "rows", "wide", "steps", "outs", "net"] ["text"] (defScope s_read) := ⟨rfl, rfl, rfl, by decide +kernel, rfl, by decide +kernel, by decide +kernel⟩
inductive Iv_steps (rs : List Str) (H0 : Hp) (i : Nat) (ys : List V) (H : Hp) : Prop
  | mk : ∀ l : List (List Int), (Same H0 H) → (rdAll rdStep (rs.take i) = some l) → (StepsAt H ys l) → (l.length = i) → Iv_steps rs H0 i ys H
theorem ok_read {f : Addr} {fd : FuncData} (F : Fun K "read" "read" s_read f fd) (T : Txt K mg CB CK CR CT CW CS) (d_look_net : Df P w K mg base "look_net" 6 ["net"] (spLook CB)) (d_read_wide : Df P w K mg base "read_wide" 3 ["row"] (spRdI CT rdWide)) (d_read_step : Df P w K mg base "read_step" 3 ["row"] (spRdS CT)) (d_read_outs : Df P w K mg base "read_outs" 3 ["row"] (spRdO CT)) : FnOk P w K mg base (CX1 P w) 7 f fd ["text"] (spRead CT) := by
  refine F.ok1 sc_read (fun vs H Q E h => ?_) (fun cdv A outer s H vs Q E hr h => ?_)
  · obtain ⟨x, rfl, hlow, hlen, bad, badN, k⟩ := h; rfl
  · obtain ⟨x, rfl, hlow, hlen, bad, badN, k⟩ := h
    have nd := sc_read.nd
    refine ⟨_, (pss_cons (ps_set (i := 1) nd rfl (Or.inl rfl) (pe_bm PySem.F.plainAttrs_str PySem.F.slot_str_split PySem.F.type_str_split mt_split (pv 0) (pa_cons pe_str pa_nil)))
       (pss_cons (ps_set (i := 2) nd rfl (Or.inl rfl) (pe_own d_read_wide (hr.mono (by first | decide | lia)) rfl pass1 (pa_cons (pe_ix ix_list (pv 1) pe_int (fun _ _ => rfl)) pa_nil)))
       (pss_cons (ps_setcompX (ot := none) 3 [] rfl nd rfl rfl (pi_list (pe_slice sl_list (pv 1) (po_some pe_int) (po_some (pe_un un_neg pe_int)))) own1 passC1 (fun _ _ _ _ _ hp => (pe_own d_read_step (hr.mono (by first | decide | lia)) rfl hp (pa_cons (pv 0) pa_nil))) (fun _ _ _ _ => trivial) rfl (nodupS_of rfl))
       (pss_cons (ps_set (i := 4) nd rfl (Or.inl rfl) (pe_own d_read_outs (hr.mono (by first | decide | lia)) rfl pass1 (pa_cons (pe_ix ix_list (pv 1) (pe_un un_neg pe_int) (fun _ _ => rfl)) pa_nil)))
       (pss_cons (ps_set (i := 5) nd rfl (Or.inl rfl) (pe_tup (pa_cons (pv 2) (pa_cons (pv 3) (pa_cons (pv 4) pa_nil)))))
       (pss_cons (ps_tryN own1 rfl throwsN1 (fun _ _ _ hp =>
       (pss_one (ps_expr (pe_own d_look_net (hr.mono (by first | decide | lia)) rfl hp (pa_cons (pv 5) pa_nil))))) (fun _ _ => (pa_cons pe_str pa_nil)) rfl T.g_BadNet rfl T.x_BadText)
       (pss_one (ps_ret (pv 5))))))))), ?_⟩
    skip
    refine ⟨rfl, x, 10, rfl, by rw [show Str.ofString "\n" = ⟨#[10]⟩ from by decide], by rw [sizeLine_eq]; lia, fun p gp => ?_⟩
    have hl : ∀ q ∈ spl x 10, lowT q ∧ q.length ≤ 9000 := fun q hq => ⟨spl_low hlow hq, Nat.le_trans (spl_len hq) hlen⟩
    have hw : rdNet x = (match rdWide ((spl x 10).getD 0 ⟨#[]⟩), rdAll rdStep (((spl x 10).drop 1).take ((spl x 10).length - 2)), rdOuts (lastS (spl x 10)) with | some w, some st, some ou => some ⟨w, st, ou⟩ | _, _, _ => none) := rfl
    have s1 := Same.new (o := .lst ((spl x 10).map V.str)) gp
    have hp : (upd H p (.lst ((spl x 10).map V.str))) p = some (.lst ((spl x 10).map V.str)) := upd_same
    have n0 := spl_ne x 10
    have nl := spl_many x 10
    rw [show Txt.split x ⟨#[10]⟩ = spl x 10 from rfl]
    generalize upd H p (.lst ((spl x 10).map V.str)) = H1 at s1 hp ⊢
    generalize spl x 10 = ws at hl hw hp n0 nl
    have lw : 1 ≤ ws.length := by rcases ws with _ | ⟨a, r⟩; exact absurd rfl n0; simp
    have m0 : ws.getD 0 ⟨#[]⟩ ∈ ws := by rcases ws with _ | ⟨a, r⟩; exact absurd rfl n0; simp
    have mL : lastS ws ∈ ws := by unfold lastS; rw [List.getD_eq_getElem?_getD, List.getElem?_eq_getElem (by lia)]; exact List.getElem_mem _
    have l0 := hl _ m0
    have lL := hl _ mL
    refine ⟨p, _, 0, .str (ws.getD 0 ⟨#[]⟩), rfl, rfl, SqL.of hp, atI_nat (j := 0) (by rcases ws with _ | ⟨a, r⟩; exact absurd rfl n0; rfl), _, rfl, l0.1, by lia, fun H2 s2 e => bad H2 (s1.trans s2) (by rw [hw, e]), fun H2 wd s2 e => ?_⟩
    refine ⟨p, _, rfl, SqL.of (s2 _ _ hp), fun q gq => ?_⟩
    show iList_b K _ (V.ref q) (upd H2 q (.lst (cutV (ws.map V.str) (some 1) (some (-1)))))
    rw [cutV_mid _ (by rw [List.length_map]; exact lw), List.length_map, ← List.map_drop, ← List.map_take]
    have mr : ∀ y ∈ (ws.drop 1).take (ws.length - 2), y ∈ ws := fun y hy => List.mem_of_mem_drop (List.mem_of_mem_take hy)
    have rl : ((ws.drop 1).take (ws.length - 2)).length ≤ 9002 := by simp; lia
    generalize (ws.drop 1).take (ws.length - 2) = rs at hw mr rl ⊢
    have s3 := (s1.trans s2).trans (Same.new (o := .lst (rs.map V.str)) gq)
    have hp3 := new_at (o := .lst (rs.map V.str)) gq (s2 _ _ hp)
    have hq : (upd H2 q (.lst (rs.map V.str))) q = some (.lst (rs.map V.str)) := upd_same
    generalize upd H2 q (.lst (rs.map V.str)) = H3 at s3 hq hp3 ⊢
    refine ⟨q, rfl, ⟨_, SqL.of hq⟩, comp_list (K := K) (a := q) (xs := rs.map V.str) (Iv_steps rs H3) ⟨[], Same.refl _, rfl, .nil, rfl⟩ (fun i ys H9 _ ⟨_, s9, _, _, _⟩ => SqL.of (s9 _ _ hq)) (fun i ys H9 hi ⟨l, _, _, e, hl9⟩ => fitsL (by rw [e.length, hl9]; simp at hi; lia)) ?_ ?_⟩
    · rintro i v ys9 H9 TT hv ⟨l, s9, hr, st9, hl9⟩ ht
      rw [List.getElem?_map] at hv
      obtain ⟨rw', hrw, rfl⟩ := Option.map_eq_some_iff.mp hv
      have lr := hl rw' (mr _ (List.mem_of_getElem? hrw))
      refine ⟨rw', rfl, lr.1, by lia, fun H10 s10 e1 => bad H10 ((s3.trans s9).trans s10) (by rw [hw, e, rdAll_none e1 (List.mem_of_getElem? hrw)]), fun H10 l1 p1 s10 e1 hp1 => ht _ _ ⟨l ++ [l1], s9.trans s10, ?_, (st9.mono s10).snoc hp1, by rw [List.length_append, hl9]; rfl⟩⟩
      rw [List.take_succ, hrw]
      exact rdAll_snoc e1 hr
    rintro ys9 H9 ⟨st, s9, hr, st9, hl9⟩ sa gsa
    rw [List.length_map, List.take_length] at hr
    have hat : atI (ws.map V.str) (-1) = some (.str (lastS ws)) := by
      unfold atI
      rw [List.length_map, show ws.length = (ws.length - 1) + 1 by lia, ixN_last]
      show (ws.map V.str)[ws.length - 1]? = _
      unfold lastS
      rw [List.getElem?_map, List.getD_eq_getElem?_getD, List.getElem?_eq_getElem (by lia)]; rfl
    refine ⟨p, _, -1, .str (lastS ws), rfl, rfl, SqL.of (new_at gsa (s9 _ _ hp3)), hat, _, rfl, lL.1, by lia, fun H10 s10 e3 => bad H10 (((s3.trans s9).trans (Same.new gsa)).trans s10) (by rw [hw, e, hr, e3]), fun H10 ou po s10 e3 hpo => ?_⟩
    refine ⟨(show 3 ≤ sizeLine by decide), fun n gn => ?_⟩
    have hN : rdNet x = some ⟨wd, st, ou⟩ := by rw [hw, e, hr, e3]
    have ol := rdOuts_len e3
    have sF := (((s3.trans s9).trans (Same.new (o := .lst ys9) gsa)).trans s10).trans (Same.new (o := .tup [.int wd, .ref sa, .ref po]) gn)
    have nt := netAt_new (wide := wd) gn (s10 _ _ (upd_same : (upd H9 sa (.lst ys9)) sa = some (.lst ys9))) ((st9.mono (Same.new (o := .lst ys9) gsa)).mono s10) hpo
    refine ⟨n, sa, po, ys9, wd, st, ou, rfl, by lia, nt, fun H12 s12 => ⟨fun g => k H12 ⟨wd, st, ou⟩ n sa po ys9 (sF.trans s12) hN g (nt.mono s12), fun g => ⟨rfl, CB, rfl, T.n_BadNet, fun a ha => ⟨upd_same, (show 1 ≤ sizeLine by decide), badN _ ⟨wd, st, ou⟩ ((sF.trans s12).trans (Same.new ha)) hN g⟩⟩⟩⟩
end
end K50

namespace K50
open PySem L2 NM PyProof.Rows
section
variable {P : Program} {w : World} {K : PySem.W.Frag} {mg : Str → Option Value} {base : Heap} {CB CK CR CT CW CS : Addr}
noncomputable abbrev s_written : Stmt := top 22
theorem sc_written : FnScope ["net", "wide", "steps", "outs"] ["net"] (defScope s_written) := ⟨rfl, rfl, rfl, by decide +kernel, rfl, by decide +kernel, by decide +kernel⟩
inductive Iv_ws (N : NetN) (H0 : Hp) (i : Nat) (ys : List V) (H : Hp) : Prop
  | mk : (H = H0) → (ys = ((N.st.take i).map stS).map V.str) → Iv_ws N H0 i ys H
inductive Iv_wo (N : NetN) (H0 : Hp) (i : Nat) (ys : List V) (H : Hp) : Prop
  | mk : (H = H0) → (ys = ((N.ou.take i).map nS).map V.str) → Iv_wo N H0 i ys H
theorem ok_written {f : Addr} {fd : FuncData} (F : Fun K "written" "written" s_written f fd) (T : Txt K mg CB CK CR CT CW CS) (d_look_net : Df P w K mg base "look_net" 6 ["net"] (spLook CB)) : FnOk P w K mg base (CX1 P w) 7 f fd ["net"] (spWritten CB) := by
  refine F.ok1 sc_written (fun vs H Q E h => ?_) (fun cdv A outer s H vs Q E hr h => ?_)
  · obtain ⟨a, sa, oa, rs, wide, steps, outs, rfl, hol, n, bad, k⟩ := h; rfl
  · obtain ⟨a, sa, oa, rs, wide, steps, outs, rfl, hol, n, bad, k⟩ := h
    have nd := sc_written.nd
    refine ⟨_, (pss_cons (ps_expr (pe_own d_look_net (hr.mono (by first | decide | lia)) rfl pass1 (pa_cons (pv 0) pa_nil)))
       (pss_cons (ps_set (i := 1) nd rfl (Or.inl rfl) (pe_ix ix_tup (pv 0) pe_int (fun _ _ => rfl)))
       (pss_cons (ps_setcompT (ot := none) ["one", "other"] 2 [] rfl nd rfl rfl (pi_list (pe_ix ix_tup (pv 0) pe_int (fun _ _ => rfl))) (fun _ _ _ _ => (show PG _ _ (gTup K 2 _) from (pg_tup (n := 2) rfl (pgs_cons (pg_name (i := 0) (nodupS_of rfl) rfl (Or.inl rfl)) (pgs_cons (pg_name (i := 1) (nodupS_of rfl) rfl (Or.inl rfl)) pgs_nil))))) (fun _ _ _ _ => (pe_fstr (pj_cons (pe_fv (pv 0)) (pj_cons pe_str (pj_cons (pe_fv (pv 1)) pj_nil))))) (fun _ _ _ _ => trivial) rfl)
       (pss_cons (ps_setcomp (ot := none) 3 [] rfl nd rfl rfl (pi_list (pe_ix ix_tup (pv 0) pe_int (fun _ _ => rfl))) (fun _ _ _ _ => (pe_callTy call_str_int rfl T.z_str boot_str (pa_cons (pv 0) pa_nil))) (fun _ _ _ _ => trivial) rfl (nodupS_of rfl))
       (pss_one (ps_ret (pe_bm PySem.F.plainAttrs_str PySem.F.slot_str_join PySem.F.type_str_join mt_join pe_str (pa_cons (pe_op op_cat (pe_op op_cat (pe_lst (pa_cons (pe_fstr (pj_cons pe_str (pj_cons (pe_fv (pv 1)) pj_nil))) pa_nil)) (pv 2)) (pe_lst (pa_cons (pe_bm PySem.F.plainAttrs_str PySem.F.slot_str_join PySem.F.type_str_join mt_join pe_str (pa_cons (pe_op op_cat (pe_lst (pa_cons pe_str pa_nil)) (pv 3)) pa_nil)) pa_nil))) pa_nil)))))))), ?_⟩
    skip
    refine ⟨a, sa, oa, rs, wide, steps, outs, rfl, hol, n, fun H2 s2 => ⟨fun g => ?_, fun g => bad H2 s2 g⟩⟩
    obtain ⟨N, hN, rfl, rfl, rfl⟩ := g.net
    have n2 := n.mono s2
    have hw := hN.hi
    have hsl := hN.len
    have hou := hN.ol
    have hrl : rs.length = N.st.length := by rw [n2.st.length, steps_len]
    refine ⟨_, _, _, _, rfl, rfl, SqT.of n2.net, rfl, ?_⟩
    refine ⟨_, _, _, _, rfl, rfl, SqT.of n2.net, rfl, sa, rfl, ⟨_, SqL.of n2.sts⟩, comp_lstT (K := K) (a := sa) (xs := rs) (Iv_ws N H2) ⟨rfl, rfl⟩ (fun i ys H9 ⟨e, _⟩ => by rw [e]; exact SqL.of n2.sts) (fun i ys H9 hi ⟨_, e⟩ => fitsL (by rw [e]; simp; lia)) ?_ ?_⟩
    · rintro i v ys9 H9 TT hv ⟨rfl, rfl⟩ ht vs hvs
      obtain ⟨r, q, rfl, hq, hr0⟩ := NetN.Ok.steps_get n2.st hv
      obtain ⟨o1, o2, rfl⟩ := two_of hvs
      obtain ⟨q1, q2⟩ := hN.s1 i q hq
      have hi := (List.getElem?_eq_some_iff.mp hq).1
      have a1 := nS_len (n := q.1) (by lia)
      have a2 := nS_len (n := q.2) (by lia)
      have a3 : (Str.ofString "+").length = 1 := by decide
      refine ⟨_, _, rfl, SqT.of hr0, rfl, ⟨[some _, some _], rfl, rfl⟩, _, rfl, log2_small (i := q.1) (by lia), nS q.1, rfl, ?_, _, rfl, ?_, _, rfl, log2_small (i := q.2) (by lia), nS q.2, rfl, ?_, ?_, ht _ _ ⟨rfl, ?_⟩⟩
      · simp only [Str.length_append, emptyLen, sizeLine_eq]; lia
      · simp only [Str.length_append, emptyLen, sizeLine_eq]; lia
      · simp only [Str.length_append, emptyLen, sizeLine_eq]; lia
      · simp only [Str.length_append, emptyLen, sizeLine_eq]; lia
      · rw [List.take_succ, hq, List.map_append, List.map_append]; rfl
    rintro ys9 H9 ⟨rfl, rfl⟩ p1 g1
    rw [hrl, List.take_length]
    have s3 := Same.new (o := .lst ((N.st.map stS).map V.str)) g1
    have n3 := n2.mono s3
    have hp1 : (upd H9 p1 (.lst ((N.st.map stS).map V.str))) p1 = some (.lst ((N.st.map stS).map V.str)) := upd_same
    generalize upd H9 p1 (.lst ((N.st.map stS).map V.str)) = H3 at s3 n3 hp1 ⊢
    refine ⟨_, _, _, _, rfl, rfl, SqT.of n3.net, rfl, oa, rfl, ⟨_, SqL.of n3.ots⟩, comp_list (K := K) (a := oa) (xs := N.outs.map V.int) (Iv_wo N H3) ⟨rfl, rfl⟩ (fun i ys H9 _ ⟨e, _⟩ => by rw [e]; exact SqL.of n3.ots) (fun i ys H9 hi ⟨_, e⟩ => fitsL (by rw [e]; simp; lia)) ?_ ?_⟩
    · rintro i v ys9 H9 TT hv ⟨rfl, rfl⟩ ht
      unfold NetN.outs at hv
      rw [List.getElem?_map, List.getElem?_map] at hv
      obtain ⟨z, hz, rfl⟩ := Option.map_eq_some_iff.mp hv
      obtain ⟨o, ho, rfl⟩ := Option.map_eq_some_iff.mp hz
      have hob := hN.ob o (List.mem_of_getElem? ho)
      refine ⟨_, rfl, log2_small (i := o) (by lia), ht _ _ ⟨rfl, ?_⟩⟩
      rw [List.take_succ, ho, List.map_append, List.map_append]; rfl
    rintro ys9 H9 ⟨rfl, rfl⟩ p2 g2
    rw [List.length_map, outs_len, List.take_length]
    have s4 := (s2.trans s3).trans (Same.new (o := .lst ((N.ou.map nS).map V.str)) g2)
    have hp1 := new_at (o := .lst ((N.ou.map nS).map V.str)) g2 hp1
    have hp2 : (upd H9 p2 (.lst ((N.ou.map nS).map V.str))) p2 = some (.lst ((N.ou.map nS).map V.str)) := upd_same
    generalize upd H9 p2 (.lst ((N.ou.map nS).map V.str)) = H4 at s4 hp1 hp2 ⊢
    obtain ⟨r1, r2, r3, r4⟩ := rows_fit hN
    have a1 := nS_len (n := N.w) (by lia)
    have a3 : (Str.ofString "wide ").length = 5 := by decide
    have a5 : (Str.ofString " ").length = 1 := by decide
    have a6 : (Str.ofString "\n").length = 1 := by decide
    refine ⟨rfl, _, rfl, ?_, _, rfl, log2_small (i := N.w) (by lia), nS N.w, rfl, ?_, ?_, (show 1 ≤ sizeLine by decide), fun t1 gt1 => ⟨t1, p1, _, _, rfl, rfl, upd_same, new_at gt1 hp1, fits (by simp; lia), fun c1 gc1 => ?_⟩⟩
    · simp only [Str.length_append, emptyLen, sizeLine_eq]; lia
    · simp only [Str.length_append, emptyLen, sizeLine_eq]; lia
    · simp only [Str.length_append, emptyLen, sizeLine_eq]; lia
    refine ⟨rfl, (show 1 ≤ sizeLine by decide), fun t2 gt2 => ⟨t2, p2, _, _, rfl, rfl, upd_same, new_at gt2 (new_at gc1 (new_at gt1 hp2)), fits (by simp; lia), fun c2 gc2 => ?_⟩⟩
    refine ⟨_, c2, [Str.ofString "outs"] ++ N.ou.map nS, rfl, rfl, SqL.of (by rw [upd_same, List.map_append]; rfl), by rw [a5]; exact Nat.le_trans r2 (by decide), (show 1 ≤ sizeLine by decide), fun t3 gt3 => ⟨c1, t3, _, _, rfl, rfl, new_at gt3 (new_at gc2 (new_at gt2 upd_same)), upd_same, fits (by simp; lia), fun c3 gc3 => ?_⟩⟩
    refine ⟨_, c3, rowsW N, rfl, rfl, SqL.of ?_, by rw [a6]; exact r4, k N hN rfl rfl rfl _ ((((((s4.trans (Same.new gt1)).trans (Same.new gc1)).trans (Same.new gt2)).trans (Same.new gc2)).trans (Same.new gt3)).trans (Same.new gc3))⟩
    rw [upd_same]
    unfold rowsW
    rw [List.map_append, List.map_append]; rfl
end
end K50

namespace K50
open PySem L2 NM PyProof.Rows
section
variable {P : Program} {w : World} {K : PySem.W.Frag} {mg : Str → Option Value} {base : Heap} {CB CK CR CT CW CS : Addr}
noncomputable abbrev s__law_cell : Stmt := top 30
theorem sc__law_cell : FnScope ["_law_script", "_law_k"] ["_law_script", "_law_k"] (defScope s__law_cell) := ⟨rfl, rfl, rfl, by decide +kernel, rfl, by decide +kernel, by decide +kernel⟩
theorem ok__law_cell {f : Addr} {fd : FuncData} (F : Fun K "_law_cell" "_law_cell" s__law_cell f fd) (T : Txt K mg CB CK CR CT CW CS)  : FnOk P w K mg base (CX1 P w) 1 f fd ["_law_script", "_law_k"] (spCell K) := by
  refine F.ok1 sc__law_cell (fun vs H Q E h => ?_) (fun cdv A outer s H vs Q E hr h => ?_)
  · obtain ⟨a, ns, k, rfl, S, q⟩ := h; rfl
  · obtain ⟨a, ns, k, rfl, S, q⟩ := h
    have nd := sc__law_cell.nd
    refine ⟨_, (pss_cons (ps_if (pt_truth (pv 0) (fun _ => rfl))
       (pss_one (ps_ret (pe_ix ix_list (pv 0) (pe_op op_mod (pv 1) (pe_callB call_len_seq rfl T.z_len boot_len (pa_cons (pv 0) pa_nil))) (fun _ _ => rfl))))
       pss_nil)
       (pss_one (ps_ret pe_int))), ?_⟩
    skip
    refine ⟨_, .inl ⟨_, S, rfl⟩, iteN (fun h1 => ?_) (fun h1 => q 0)⟩
    have hne : ns ≠ [] := fun z => by rw [z] at h1; cases h1
    obtain ⟨z, hz⟩ := mod_at (k := k) hne
    have hp := pos_of_ne hne
    exact ⟨_, _, rfl, .inl S, (by rw [List.length_map]; lia), a, _, _, _, rfl, rfl, S, hz, q _⟩
noncomputable abbrev s__law_mix : Stmt := top 31
theorem sc__law_mix : FnScope ["_law_script", "_law_k", "_law_number"] ["_law_script", "_law_k"] (defScope s__law_mix) := ⟨rfl, rfl, rfl, by decide +kernel, rfl, by decide +kernel, by decide +kernel⟩
theorem ok__law_mix {f : Addr} {fd : FuncData} (F : Fun K "_law_mix" "_law_mix" s__law_mix f fd) (T : Txt K mg CB CK CR CT CW CS) (d__law_cell : Df P w K mg base "_law_cell" 1 ["_law_script", "_law_k"] (spCell K)) : FnOk P w K mg base (CX1 P w) 2 f fd ["_law_script", "_law_k"] (spMix K) := by
  refine F.ok1 sc__law_mix (fun vs H Q E h => ?_) (fun cdv A outer s H vs Q E hr h => ?_)
  · obtain ⟨a, ns, k, rfl, S, q⟩ := h; rfl
  · obtain ⟨a, ns, k, rfl, S, q⟩ := h
    have nd := sc__law_mix.nd
    refine ⟨_, (pss_cons (ps_set (i := 2) nd rfl (Or.inl rfl) (pe_op op_mod (pe_op op_add (pe_own d__law_cell (hr.mono (by first | decide | lia)) rfl pass1 (pa_cons (pv 0) (pa_cons (pv 1) pa_nil))) (pe_op op_mul pe_int (pe_op op_add (pv 1) pe_int))) pe_int))
       (pss_cons (ps_set (i := 2) nd rfl (Or.inl rfl) (pe_op op_mod (pe_op op_mul (pv 2) pe_int) pe_int))
       (pss_one (ps_ret (pe_op op_mod (pe_op op_add (pe_op op_mul (pe_op op_fdiv (pv 2) pe_int) pe_int) (pv 2)) pe_int))))), ?_⟩
    skip
    refine ⟨a, ns, k, rfl, S, fun i => ?_⟩
    refine ⟨.inl ⟨by decide, by decide⟩, (show (0 : Int) < 4294967291 by decide), ?_⟩
    refine ⟨.inr ⟨by decide, by decide⟩, (show (0 : Int) < 4294967279 by decide), ?_⟩
    refine ⟨⟨by decide, by decide⟩, .inr ⟨by decide, by decide⟩, (show (0 : Int) < 4294967231 by decide), ?_⟩
    exact q _ (Int.emod_nonneg _ (by decide))
noncomputable abbrev s__law_net : Stmt := top 32
theorem sc__law_net : FnScope ["_law_script", "_law_k", "_law_most", "_law_wide", "_law_steps", "_law_j", "_law_number", "_law_other", "_law_one", "_law_outs"] ["_law_script", "_law_k", "_law_most"] (defScope s__law_net) := ⟨rfl, rfl, rfl, by decide +kernel, rfl, by decide +kernel, by decide +kernel⟩
theorem ok__law_net {f : Addr} {fd : FuncData} (F : Fun K "_law_net" "_law_net" s__law_net f fd) (T : Txt K mg CB CK CR CT CW CS) (d__law_mix : Df P w K mg base "_law_mix" 2 ["_law_script", "_law_k"] (spMix K)) : FnOk P w K mg base (CX1 P w) 3 f fd ["_law_script", "_law_k", "_law_most"] (spDrawnN K) := by
  refine F.ok1 sc__law_net (fun vs H Q E h => ?_) (fun cdv A outer s H vs Q E hr h => ?_)
  · obtain ⟨a, ns, k, most, rfl, m1, m2, S, q⟩ := h; rfl
  · obtain ⟨a, ns, k, most, rfl, m1, m2, S, q⟩ := h
    have nd := sc__law_net.nd
    refine ⟨_, (pss_cons (ps_set (i := 3) nd rfl (Or.inr rfl) (pe_op op_add pe_int (pe_op op_mod (pe_own d__law_mix (hr.mono (by first | decide | lia)) rfl pass1 (pa_cons (pv 0) (pa_cons (pv 1) pa_nil))) (pv 2))))
       (pss_cons (ps_set (i := 4) nd rfl (Or.inr rfl) (pe_lst pa_nil))
       (pss_cons (ps_for powns1 rfl (pi_range1 rfl T.z_range (pa_cons (pe_op op_mod (pe_own d__law_mix (hr.mono (by first | decide | lia)) rfl pass1 (pa_cons (pv 0) (pa_cons (pe_op op_add (pv 1) pe_int) pa_nil))) pe_int) pa_nil)) (pg_name (i := 5) nd rfl (Or.inl rfl))
       (pss_cons (ps_set (i := 6) nd rfl (Or.inl rfl) (pe_own d__law_mix (hr.mono (by first | decide | lia)) rfl pass1 (pa_cons (pv 0) (pa_cons (pe_op op_add (pe_op op_add (pv 1) pe_int) (pv 5)) pa_nil))))
       (pss_cons (ps_set (i := 7) nd rfl (Or.inl rfl) (pe_op op_mod (pe_op op_fdiv (pv 6) pe_int) (pe_op op_add (pv 3) (pv 5))))
       (pss_cons (ps_set (i := 8) nd rfl (Or.inl rfl) (pe_ix ix_list (pe_lst (pa_cons (pe_callB (call_max2 rfl) rfl T.z_max boot_max (pa_cons pe_int (pa_cons (pe_op op_sub (pv 7) pe_int) pa_nil))) (pa_cons (pe_op op_mod (pv 6) (pe_op op_add (pv 3) (pv 5))) (pa_cons (pv 7) (pa_cons (pe_op op_sub (pe_op op_add (pv 3) (pv 5)) pe_int) pa_nil))))) (pe_op op_mod (pe_op op_fdiv (pv 6) pe_int) pe_int) (fun _ _ => rfl)))
       (pss_one (ps_expr (pe_bm PySem.F.plainAttrs_list PySem.F.slot_list_append PySem.F.type_list_append mt_append (pv 4) (pa_cons (pe_tup (pa_cons (pv 8) (pa_cons (pv 7) pa_nil))) pa_nil))))))))
       (pss_cons (ps_setcomp (ot := none) 9 [0, 1, 3, 4] rfl nd rfl rfl (pi_range1 rfl T.z_range (pa_cons (pv 3) pa_nil)) (fun _ _ _ _ => (pe_op op_mod (pe_own d__law_mix (hr.mono (by first | decide | lia)) rfl pass10 (pa_cons (pv 1) (pa_cons (pe_op op_add (pe_op op_add (pv 2) pe_int) (pv 0)) pa_nil))) (pe_op op_add (pv 3) (pe_callB (show CallR _ _ (rLenS K) from call_lenS) rfl T.z_len boot_len (pa_cons (pv 4) pa_nil))))) (fun _ _ _ _ => trivial) rfl (nodupS_of rfl))
       (pss_one (ps_ret (pe_tup (pa_cons (pv 3) (pa_cons (pv 4) (pa_cons (pv 9) pa_nil)))))))))), ?_⟩
    skip
    refine ⟨a, ns, k, rfl, S, fun i hi => ?_⟩
    refine ⟨(show (0 : Int) < (most : Int) by lia), ?_⟩
    have w0 := Int.emod_nonneg i (show (most : Int) ≠ 0 by lia)
    have w1 := Int.emod_lt_of_pos i (show 0 < (most : Int) by lia)
    try dsimp only [rI0, onI]
    generalize i % (most : Int) = w' at w0 w1 ⊢
    obtain ⟨w, hw⟩ : ∃ w : Nat, 1 + w' = (w : Int) := ⟨(1 + w').toNat, by lia⟩
    try dsimp only [rI0, onI]
    rw [hw]
    refine ⟨(show 0 ≤ sizeLine by decide), fun sa hsa => ?_⟩
    have s1 : ∀ o, Same H (upd H sa o) := fun o => Same.new hsa
    refine ⟨a, ns, _, rfl, (s1 _).seq S, fun i2 hi2 => ?_⟩
    have c0 := Int.emod_nonneg i2 (show (9 : Int) ≠ 0 by decide)
    have c1 := Int.emod_lt_of_pos i2 (show (0 : Int) < 9 by decide)
    refine ⟨(show (0 : Int) < 9 by decide), _, rfl, (by lia), (by lia), ?_⟩
    generalize i2 % 9 = c at c0 c1 ⊢
    refine for_range (lo := 0) (n := c.toNat) (fun j σ2 H2 => ∃ (rs : List V) (st : List (Nat × Nat)) (v5 v6 v7 v8 v9 : Option V), σ2 = [some (.ref a), some (.int k), some (.int (most : Nat)), some (.int (w : Nat)), some (.ref sa), v5, v6, v7, v8, v9] ∧ Same H H2 ∧ H2 sa = some (.lst rs) ∧ StepsAt H2 rs (st.map pairI) ∧ st.length = j ∧ ∀ (k : Nat) p, st[k]? = some p → p.1 < w + k ∧ p.2 < w + k)
      ⟨[], [], _, _, _, _, _, rfl, s1 _, upd_same, .nil, rfl, fun k p z => by simp at z⟩ ?_ ?_
    · rintro j σ2 H2 hj ⟨rs, st, v5, v6, v7, v8, v9, rfl, s2, hs2, st2, hll, hok⟩
      refine ⟨a, ns, _, rfl, s2.seq S, fun num hn => ?_⟩
      have pos : 0 < (w : Int) + (0 + (j : Int)) := by lia
      refine ⟨⟨by decide, by decide⟩, pos, ?_⟩
      have d0 := Int.emod_nonneg (num / 4096) (show (4 : Int) ≠ 0 by decide)
      have d1 := Int.emod_lt_of_pos (num / 4096) (show (0 : Int) < 4 by decide)
      have o0 := Int.emod_nonneg (num / 64) (show (w : Int) + (0 + (j : Int)) ≠ 0 by lia)
      have o1 := Int.emod_lt_of_pos (num / 64) pos
      have x0 := Int.emod_nonneg num (show (w : Int) + (0 + (j : Int)) ≠ 0 by lia)
      have x1 := Int.emod_lt_of_pos num pos
      dsimp only
      generalize num / 64 % ((w : Int) + (0 + (j : Int))) = ot at o0 o1 ⊢
      obtain ⟨o, rfl⟩ : ∃ o : Nat, ot = (o : Int) := ⟨ot.toNat, by lia⟩
      refine ⟨_, _, rfl, pos, (show 4 ≤ sizeLine by decide), fun q4 hq4 => ?_⟩
      obtain ⟨z, hone, one, rfl, ho⟩ := pick4 (a := V.int (if (o : Int) - 1 > 0 then (o : Int) - 1 else 0)) (b := V.int (num % ((w : Int) + (0 + (j : Int))))) (c := V.int (o : Int)) (d := V.int ((w : Int) + (0 + (j : Int)) - 1)) d0 d1 (R := fun z => ∃ u : Nat, z = V.int (u : Nat) ∧ u < w + j)
        ⟨(if (o : Int) - 1 > 0 then (o : Int) - 1 else 0).toNat, by congr 1; split <;> lia, by split <;> lia⟩ ⟨(num % ((w : Int) + (0 + (j : Int)))).toNat, by congr 1; lia, by lia⟩ ⟨o, rfl, by lia⟩ ⟨w + j - 1, by congr 1; lia, by lia⟩
      refine ⟨⟨by decide, by decide⟩, (show (0 : Int) < 4 by decide), q4, _, _, _, rfl, rfl, SqL.of upd_same, hone, ?_⟩
      have s3 : ∀ o, Same H2 (upd H2 q4 o) := fun o => Same.new hq4
      refine ⟨.inl ⟨rfl, _, SqL.of (s3 _ _ _ hs2)⟩, (show 2 ≤ sizeLine by decide), fun t ht => ?_⟩
      have s4 : ∀ o o', Same H2 (upd (upd H2 q4 o) t o') := fun o o' => (s3 o).upd ((s3 _).free ht)
      have hrl := st2.length
      rw [List.length_map] at hrl
      refine ⟨sa, _, _, rfl, rfl, s4 _ _ _ _ hs2, fitsL (by lia), ?_⟩
      have hsaH : ∀ o o' o2, Same H (upd (upd (upd H2 q4 o) t o') sa o2) := fun o o' o2 => ((s2.trans (s4 o o'))).upd hsa
      have ne : ∀ r u, H2 r = some (.tup u) → r ≠ sa := fun r u e => ne_of e hs2 (by intro z; cases z)
      have tne : t ≠ sa := fun z => by rw [z] at ht; rw [s3 _ _ _ hs2] at ht; cases ht
      refine ⟨rs ++ [.ref t], st ++ [(one, o)], _, _, _, _, _, rfl, hsaH _ _ _, upd_same, ?_, by rw [List.length_append, hll]; rfl, steps_snoc_ok hok (by rw [hll]; exact ho) (by rw [hll]; show o < w + j; lia)⟩
      rw [List.map_append]
      refine StepsAt.snoc (st2.keep fun r u e => ?_) ?_
      · rw [upd_ne (ne r u e)]
        exact s4 _ _ _ _ e
      · rw [upd_ne tne, upd_same]
        rfl
    · rintro σ2 H2 ⟨rs, st, v5, v6, v7, v8, v9, rfl, s2, hs2, st2, hll, hok⟩
      have hrl := st2.length
      rw [List.length_map] at hrl
      refine ⟨_, rfl, by exact Int.natCast_nonneg _, (by lia), ?_⟩
      rw [Int.toNat_natCast]
      refine comp_range (lo := 0) (n := w) (fun j ys H3 => ∃ os : List Nat, Same H2 H3 ∧ ys = (os.map Int.ofNat).map V.int ∧ os.length = j ∧ ∀ v ∈ os, v < w + st.length) ⟨[], Same.refl H2, rfl, rfl, fun v z => nomatch z⟩ (fun j ys H3 hj ⟨os, _, e, hl, _⟩ => ?_) ?_ ?_
      · rw [e, List.length_map, List.length_map, hl]
        exact fitsL (by lia)
      · rintro j ys H3 R hj ⟨os, s3, rfl, hl, hos⟩ kR
        refine ⟨a, ns, _, rfl, (s2.trans s3).seq S, fun num hn => ?_⟩
        have pos : 0 < (w : Int) + (rs.length : Int) := by lia
        have x0 := Int.emod_nonneg num (show (w : Int) + (rs.length : Int) ≠ 0 by lia)
        have x1 := Int.emod_lt_of_pos num pos
        refine ⟨_, _, rfl, .inl (SqL.of (s3 _ _ hs2)), pos, kR _ _ ⟨os ++ [(num % ((w : Int) + (rs.length : Int))).toNat], s3, ?_, by rw [List.length_append, hl]; rfl, fun v hv => ?_⟩⟩
        · rw [List.map_append, List.map_append]
          congr 1
          show [V.int _] = [V.int ((num % ((w : Int) + (rs.length : Int))).toNat : Int)]
          rw [Int.toNat_of_nonneg x0]
        · rcases List.mem_append.mp hv with z | z
          · exact hos v z
          · have : v = (num % ((w : Int) + (rs.length : Int))).toNat := by simpa using z
            lia
      · rintro ys H3 ⟨os, s3, rfl, hl, hos⟩
        intro oa hoa
        refine ⟨(show 3 ≤ sizeLine by decide), fun n hn => ?_⟩
        refine q _ n sa oa rs ⟨w, st, os⟩ ((s2.trans s3).trans ((Same.new hoa).trans (Same.new hn))) (netAt_new hn (new_at hoa (s3 _ _ hs2)) (st2.mono (s3.trans (Same.new hoa))) upd_same) ⟨by show 1 ≤ w; lia, by show w ≤ 64; lia, by show st.length ≤ 500; lia, hok, hl, hos⟩ (by show w ≤ most; lia) (by show st.length ≤ 8; lia)
end
end K50

namespace K50
open PySem L2 NM PyProof.Rows
section
variable {P : Program} {w : World} {K : PySem.W.Frag} {mg : Str → Option Value} {base : Heap} {CB CK CR CT CW CS : Addr}
noncomputable abbrev s__law_text : Stmt := top 34
theorem sc__law_text : FnScope ["_law_net_here", "_law_rows"] ["_law_net_here"] (defScope s__law_text) := ⟨rfl, rfl, rfl, by decide +kernel, rfl, by decide +kernel, by decide +kernel⟩
inductive Iv_ts (N : NetN) (H0 : Hp) (i : Nat) (ys : List V) (H : Hp) : Prop
  | mk : (H = H0) → (ys = ((N.st.take i).map stS).map V.str) → Iv_ts N H0 i ys H
inductive Iv_to (N : NetN) (H0 : Hp) (i : Nat) (ys : List V) (H : Hp) : Prop
  | mk : (H = H0) → (ys = ((N.ou.take i).map nS).map V.str) → Iv_to N H0 i ys H
theorem ok__law_text {f : Addr} {fd : FuncData} (F : Fun K "_law_text" "_law_text" s__law_text f fd) (T : Txt K mg CB CK CR CT CW CS)  : FnOk P w K mg base (CX1 P w) 1 f fd ["_law_net_here"] (spText) := by
  refine F.ok1 sc__law_text (fun vs H Q E h => ?_) (fun cdv A outer s H vs Q E hr h => ?_)
  · obtain ⟨a, sa, oa, rs, N, rfl, n2, hN, k⟩ := h; rfl
  · obtain ⟨a, sa, oa, rs, N, rfl, n2, hN, k⟩ := h
    have nd := sc__law_text.nd
    refine ⟨_, (pss_cons (ps_set (i := 1) nd rfl (Or.inl rfl) (pe_op op_cat (pe_lst (pa_cons (pe_op op_add_str pe_str (pe_callTy call_str_int rfl T.z_str boot_str (pa_cons (pe_ix ix_tup (pv 0) pe_int (fun _ _ => rfl)) pa_nil))) pa_nil)) (pe_compT (ot := none) ["_law_one", "_law_other"] [] rfl (pi_list (pe_ix ix_tup (pv 0) pe_int (fun _ _ => rfl))) (fun _ _ _ _ => (show PG _ _ (gTup K 2 _) from (pg_tup (n := 2) rfl (pgs_cons (pg_name (i := 0) (nodupS_of rfl) rfl (Or.inl rfl)) (pgs_cons (pg_name (i := 1) (nodupS_of rfl) rfl (Or.inl rfl)) pgs_nil))))) (fun _ _ _ _ => (pe_op op_add_str (pe_op op_add_str (pe_callTy call_str_int rfl T.z_str boot_str (pa_cons (pv 0) pa_nil)) pe_str) (pe_callTy call_str_int rfl T.z_str boot_str (pa_cons (pv 1) pa_nil)))) (fun _ _ _ _ => trivial) rfl)))
       (pss_one (ps_ret (pe_bm PySem.F.plainAttrs_str PySem.F.slot_str_join PySem.F.type_str_join mt_join pe_str (pa_cons (pe_op op_cat (pv 1) (pe_lst (pa_cons (pe_op op_add_str pe_str (pe_bm PySem.F.plainAttrs_str PySem.F.slot_str_join PySem.F.type_str_join mt_join pe_str (pa_cons (pe_comp (ot := none) [] rfl (pi_list (pe_ix ix_tup (pv 0) pe_int (fun _ _ => rfl))) (fun _ _ _ _ => (pe_callTy call_str_int rfl T.z_str boot_str (pa_cons (pv 0) pa_nil))) (fun _ _ _ _ => trivial) rfl (nodupS_of rfl)) pa_nil))) pa_nil))) pa_nil))))), ?_⟩
    skip
    have hw := hN.hi
    have hsl := hN.len
    have hou := hN.ol
    have hrl : rs.length = N.st.length := by rw [n2.st.length, steps_len]
    have a1 := nS_len (n := N.w) (by lia)
    have a3 : (Str.ofString "wide ").length = 5 := by decide
    refine ⟨_, _, _, _, rfl, rfl, SqT.of n2.net, rfl, _, rfl, log2_small (i := N.w) (by lia), _, _, rfl, rfl, ?_, (show 1 ≤ sizeLine by decide), fun t1 gt1 => ?_⟩
    · show (Str.ofString "wide ").length + (nS N.w).length ≤ _
      rw [sizeLine_eq]; lia
    have s1 := Same.new (o := .lst [.str (Str.ofString "wide " ++ nS N.w)]) gt1
    have ht1 : (upd H t1 (.lst [.str (Str.ofString "wide " ++ nS N.w)])) t1 = some (.lst [.str (Str.ofString "wide " ++ nS N.w)]) := upd_same
    have n3 := n2.mono s1
    show tCompT _ _ _ _ _ _ _ (upd H t1 (.lst [.str (Str.ofString "wide " ++ nS N.w)])) _
    generalize upd H t1 (.lst [.str (Str.ofString "wide " ++ nS N.w)]) = H1 at s1 ht1 n3 ⊢
    refine ⟨_, _, _, _, rfl, rfl, SqT.of n3.net, rfl, sa, rfl, ⟨_, SqL.of n3.sts⟩, comp_lstT (K := K) (a := sa) (xs := rs) (Iv_ts N H1) ⟨rfl, rfl⟩ (fun i ys H9 ⟨e, _⟩ => by rw [e]; exact SqL.of n3.sts) (fun i ys H9 hi ⟨_, e⟩ => fitsL (by rw [e]; simp; lia)) ?_ ?_⟩
    · rintro i v ys9 H9 TT hv ⟨rfl, rfl⟩ ht vs hvs
      obtain ⟨r, q, rfl, hq, hr0⟩ := NetN.Ok.steps_get n3.st hv
      obtain ⟨o1, o2, rfl⟩ := two_of hvs
      obtain ⟨q1, q2⟩ := hN.s1 i q hq
      have hi := (List.getElem?_eq_some_iff.mp hq).1
      have b1 := nS_len (n := q.1) (by lia)
      have b2 := nS_len (n := q.2) (by lia)
      have b3 : (Str.ofString "+").length = 1 := by decide
      refine ⟨_, _, rfl, SqT.of hr0, rfl, ⟨[some _, some _], rfl, rfl⟩, _, rfl, log2_small (i := q.1) (by lia), nS q.1, _, rfl, rfl, ?_, _, rfl, log2_small (i := q.2) (by lia), nS q.1 ++ Str.ofString "+", nS q.2, rfl, rfl, ?_, ht _ _ ⟨rfl, ?_⟩⟩
      · rw [sizeLine_eq]; lia
      · rw [Str.length_append, sizeLine_eq]; lia
      · rw [stS_eq, List.take_succ, hq, List.map_append, List.map_append]; rfl
    rintro ys9 H9 ⟨rfl, rfl⟩ p1 g1
    rw [hrl, List.take_length]
    refine ⟨t1, p1, _, _, rfl, rfl, new_at g1 ht1, upd_same, fits (by simp; lia), fun c1 gc1 => ?_⟩
    have s2 := (s1.trans (Same.new (o := .lst ((N.st.map stS).map V.str)) g1)).trans (Same.new (o := .lst ([.str (Str.ofString "wide " ++ nS N.w)] ++ (N.st.map stS).map V.str)) gc1)
    have hc1 : (upd (upd H9 p1 (.lst ((N.st.map stS).map V.str))) c1 (.lst ([.str (Str.ofString "wide " ++ nS N.w)] ++ (N.st.map stS).map V.str))) c1 = some (.lst ([.str (Str.ofString "wide " ++ nS N.w)] ++ (N.st.map stS).map V.str)) := upd_same
    generalize upd (upd H9 p1 (.lst ((N.st.map stS).map V.str))) c1 (.lst ([.str (Str.ofString "wide " ++ nS N.w)] ++ (N.st.map stS).map V.str)) = H2 at s2 hc1 ⊢
    have n4 := n2.mono s2
    obtain ⟨r1, r2, r3, r4⟩ := rows_fit hN
    have a5 : (Str.ofString " ").length = 1 := by decide
    have a6 : (Str.ofString "\n").length = 1 := by decide
    refine ⟨rfl, rfl, _, _, _, _, rfl, rfl, SqT.of n4.net, rfl, oa, rfl, ⟨_, SqL.of n4.ots⟩, comp_list (K := K) (a := oa) (xs := N.outs.map V.int) (Iv_to N H2) ⟨rfl, rfl⟩ (fun i ys H9 _ ⟨e, _⟩ => by rw [e]; exact SqL.of n4.ots) (fun i ys H9 hi ⟨_, e⟩ => fitsL (by rw [e]; simp; lia)) ?_ ?_⟩
    · rintro i v ys9 H9 TT hv ⟨rfl, rfl⟩ ht
      unfold NetN.outs at hv
      rw [List.getElem?_map, List.getElem?_map] at hv
      obtain ⟨z, hz, rfl⟩ := Option.map_eq_some_iff.mp hv
      obtain ⟨o, ho, rfl⟩ := Option.map_eq_some_iff.mp hz
      have hob := hN.ob o (List.mem_of_getElem? ho)
      refine ⟨_, rfl, log2_small (i := o) (by lia), ht _ _ ⟨rfl, ?_⟩⟩
      rw [List.take_succ, ho, List.map_append, List.map_append]; rfl
    rintro ys9 H9 ⟨rfl, rfl⟩ p2 g2
    rw [List.length_map, outs_len, List.take_length]
    have ne : N.ou.map nS ≠ [] := fun z => by
      have h1 := congrArg List.length z
      have h2 := hN.lo
      rw [List.length_map] at h1
      have h3 : N.ou.length = 0 := h1
      lia
    have eo := outs_eq ne
    refine ⟨_, p2, N.ou.map nS, rfl, rfl, SqL.of upd_same, ?_, _, _, rfl, rfl, ?_, (show 1 ≤ sizeLine by decide), fun t3 gt3 => ⟨c1, t3, _, _, rfl, rfl, new_at gt3 (new_at g2 hc1), upd_same, fits (by simp; lia), fun c3 gc3 => ?_⟩⟩
    · rw [a5]
      rw [List.map_append, List.sum_append, List.length_append] at r2
      exact Nat.le_trans (by lia) (Nat.le_trans r2 (by decide))
    · have := congrArg Str.length eo
      rw [Str.length_append] at this
      rw [this, sizeLine_eq]; lia
    refine ⟨_, c3, rowsW N, rfl, rfl, SqL.of ?_, by rw [a6]; exact r4, k _ (((s2.trans (Same.new g2)).trans (Same.new gt3)).trans (Same.new gc3))⟩
    rw [upd_same, eo]
    unfold rowsW
    rw [List.map_append, List.map_append, Str.empty_append]; rfl
end
end K50

namespace K50
open PySem L2 NM PyProof.Rows
section
variable {P : Program} {w : World} {K : PySem.W.Frag} {mg : Str → Option Value} {base : Heap} {CB CK CR CT CW CS : Addr}
noncomputable abbrev s__law_refusal : Stmt := top 33
theorem sc__law_refusal : FnScope ["_law_kept", "_law_kinds"] ["_law_kept"] (defScope s__law_refusal) := ⟨rfl, rfl, rfl, by decide +kernel, rfl, by decide +kernel, by decide +kernel⟩
theorem ok__law_refusal {f : Addr} {fd : FuncData} (F : Fun K "_law_refusal" "_law_refusal" s__law_refusal f fd) (T : Txt K mg CB CK CR CT CW CS)  : FnOk P w K mg base (CX1 P w) 1 f fd ["_law_kept"] (spRefusalT CB CT) := by
  refine F.ok1 sc__law_refusal (fun vs H Q E h => ?_) (fun cdv A outer s H vs Q E hr h => ?_)
  · obtain ⟨e, C, x, rfl, he, hC, k⟩ := h; rfl
  · obtain ⟨e, C, x, rfl, he, hC, k⟩ := h
    have nd := sc__law_refusal.nd
    refine ⟨_, (pss_cons (ps_if (pt_cmpR op_isN (pv 0) pe_non (nomark _))
       (pss_one (ps_ret pe_str))
       pss_nil)
       (pss_cons (ps_set (i := 1) nd rfl (Or.inl rfl) (pe_lst (pa_cons (pe_callB call_isiX rfl T.z_isinstance boot_isinstance (pa_cons (pv 0) (pa_cons (pe_glob (v := .ref _) rfl T.g_BadKind rfl) pa_nil))) (pa_cons (pe_callB call_isiX rfl T.z_isinstance boot_isinstance (pa_cons (pv 0) (pa_cons (pe_glob (v := .ref _) rfl T.g_BadNet rfl) pa_nil))) (pa_cons (pe_callB call_isiX rfl T.z_isinstance boot_isinstance (pa_cons (pv 0) (pa_cons (pe_glob (v := .ref _) rfl T.g_BadRow rfl) pa_nil))) pa_nil)))))
       (pss_cons (ps_set (i := 1) nd rfl (Or.inl rfl) (pe_op op_cat (pv 1) (pe_lst (pa_cons (pe_callB call_isiX rfl T.z_isinstance boot_isinstance (pa_cons (pv 0) (pa_cons (pe_glob (v := .ref _) rfl T.g_BadText rfl) pa_nil))) (pa_cons (pe_callB call_isiX rfl T.z_isinstance boot_isinstance (pa_cons (pv 0) (pa_cons (pe_glob (v := .ref _) rfl T.g_Wrong rfl) pa_nil))) pa_nil)))))
       (pss_cons (ps_if (PW.pt (pw_or (pt_cmpR op_ne (pe_bm PySem.F.plainAttrs_list PySem.F.slot_list_count PySem.F.type_list_count mt_count (pv 1) (pa_cons pe_bl pa_nil)) pe_int (nomark _)) (pw_or1 (pt_not (pt_truth (pe_callB call_isiX rfl T.z_isinstance boot_isinstance (pa_cons (pv 0) (pa_cons (pe_bltn (v := .ty "ValueError") rfl T.z_ValueError boot_ValueError rfl) pa_nil))) (fun _ => rfl))))))
       (pss_one (ps_ret pe_str))
       pss_nil)
       (pss_one (ps_ret (pe_ix ix_list (pe_lst (pa_cons pe_str (pa_cons pe_str (pa_cons pe_str (pa_cons pe_str (pa_cons pe_str pa_nil)))))) (pe_bm PySem.F.plainAttrs_list PySem.F.slot_list_index PySem.F.type_list_index mt_index (pv 1) (pa_cons pe_bl pa_nil)) (fun _ _ => rfl)))))))), ?_⟩
    skip
    refine ⟨rfl, ?_⟩
    rcases hC with ⟨rfl, rfl⟩ | ⟨rfl, rfl⟩
    case' inl => have T5 := T.q_BadNet
    case' inr => have T5 := T.q_BadText
    all_goals
      refine ⟨e, _, _, _, _, rfl, rfl, he, T5.e, T5.k0, e, _, _, _, _, rfl, rfl, he, T5.e, T5.k1, e, _, _, _, _, rfl, rfl, he, T5.e, T5.k2, (show 3 ≤ sizeLine by decide), fun q1 h1 => ?_⟩
      have s1 : ∀ o, Same H (upd H q1 o) := fun o => Same.new h1
      refine ⟨e, _, _, _, _, rfl, rfl, s1 _ _ _ he, T5.e, T5.k3, e, _, _, _, _, rfl, rfl, s1 _ _ _ he, T5.e, T5.k4, (show 2 ≤ sizeLine by decide), fun q2 h2 => ?_⟩
      have n21 : q1 ≠ q2 := fun z => by rw [← z, upd_same] at h2; cases h2
      have s2 : ∀ o o', Same H (upd (upd H q1 o) q2 o') := fun o o' => (s1 o).upd ((s1 _).free h2)
      refine ⟨q1, q2, _, _, rfl, rfl, (by rw [upd_ne n21]; exact upd_same), upd_same, (by show 5 ≤ sizeLine; decide), fun q3 h3 => ?_⟩
      have s3 : ∀ o o' o'', Same H (upd (upd (upd H q1 o) q2 o') q3 o'') := fun o o' o'' => (s2 o o').upd ((s2 _ _).free h3)
      refine ⟨.inl ⟨rfl, _, SqL.of upd_same⟩, q3, _, _, rfl, rfl, SqL.of upd_same, rfl, rfl, ?_⟩
      refine ⟨e, _, _, _, _, rfl, rfl, s3 _ _ _ _ _ he, T5.e, T5.kv, _, rfl, ?_⟩
      refine ⟨(show 5 ≤ sizeLine by decide), fun q4 h4 => ?_⟩
      have n34 : q3 ≠ q4 := fun z => by rw [← z, upd_same] at h4; cases h4
      have kk := fun o1 o2 o3 o4 => k (upd (upd (upd (upd H q1 o1) q2 o2) q3 o3) q4 o4) ((s3 _ _ _).upd ((s3 _ _ _).free h4))
    all_goals first | refine ⟨.inl ⟨rfl, _, SqL.of (by rw [upd_ne n34]; exact upd_same)⟩, q3, _, _, 1, rfl, rfl, SqL.of (by rw [upd_ne n34]; exact upd_same), rfl, rfl, ⟨_, rfl, rfl⟩, fun m z hm hz => ?_, q4, _, _, _, rfl, rfl, SqL.of upd_same, rfl, kk _ _ _ _⟩ | refine ⟨.inl ⟨rfl, _, SqL.of (by rw [upd_ne n34]; exact upd_same)⟩, q3, _, _, 3, rfl, rfl, SqL.of (by rw [upd_ne n34]; exact upd_same), rfl, rfl, ⟨_, rfl, rfl⟩, fun m z hm hz => ?_, q4, _, _, _, rfl, rfl, SqL.of upd_same, rfl, kk _ _ _ _⟩
    all_goals
      rcases m with _ | _ | _ | _ | m
      all_goals first | (cases hz; rfl) | (exfalso; lia)
noncomputable abbrev s__law_is_net : Stmt := top 37
theorem sc__law_is_net : FnScope ["_law_tried_here", "_law_kept", "e"] ["_law_tried_here"] (defScope s__law_is_net) := ⟨rfl, rfl, rfl, by decide +kernel, rfl, by decide +kernel, by decide +kernel⟩
theorem ok__law_is_net {f : Addr} {fd : FuncData} (F : Fun K "_law_is_net" "_law_is_net" s__law_is_net f fd) (T : Txt K mg CB CK CR CT CW CS) (d_look_net : Df P w K mg base "look_net" 6 ["net"] (spLook CB)) : FnOk P w K mg base (CX1 P w) 7 f fd ["_law_tried_here"] (spIsNetL) := by
  refine F.ok1 sc__law_is_net (fun vs H Q E h => ?_) (fun cdv A outer s H vs Q E hr h => ?_)
  · obtain ⟨a, sa, oa, rs, wide, steps, outs, rfl, hol, n, k1, k2⟩ := h; rfl
  · obtain ⟨a, sa, oa, rs, wide, steps, outs, rfl, hol, n, k1, k2⟩ := h
    have nd := sc__law_is_net.nd
    refine ⟨_, (pss_cons (ps_set (i := 1) nd rfl (Or.inl rfl) pe_non)
       (pss_cons (ps_try (i := 2) own1 rfl (fun _ _ _ hp =>
       (pss_one (ps_expr (pe_own d_look_net (hr.mono (by first | decide | lia)) rfl hp (pa_cons (pv 0) pa_nil))))) (fun _ => (pss_one (ps_set (i := 1) nd rfl (Or.inl rfl) (pv 2)))) nd rfl rfl rfl T.g_BadNet)
       (pss_one (ps_ret (pe_cmpR op_isN (pv 1) pe_non (nomark _)))))), ?_⟩
    skip
    refine ⟨a, sa, oa, rs, wide, steps, outs, rfl, hol, n, fun H2 s2 => ⟨fun g => ?_, fun g => ⟨CB, rfl, T.n_BadNet, fun e he => ?_⟩⟩⟩
    · exact ⟨rfl, k1 H2 s2 g⟩
    · exact ⟨rfl, k2 _ (s2.trans (Same.new he)) g⟩
end
end K50

namespace K50
open PySem L2 NM PyProof.Rows
section
variable {P : Program} {w : World} {K : PySem.W.Frag} {mg : Str → Option Value} {base : Heap} {CB CK CR CT CW CS : Addr}
noncomputable abbrev s__law_numbers : Stmt := top 35
theorem sc__law_numbers : FnScope ["_law_words", "_law_found", "_law_word"] ["_law_words"] (defScope s__law_numbers) := ⟨rfl, rfl, rfl, by decide +kernel, rfl, by decide +kernel, by decide +kernel⟩
inductive Iv_nl (ws : List Str) (H0 : Hp) (p fl : Addr) (i : Nat) (σ : L2.St) (H : Hp) : Prop
  | mk : ∀ (l : List Int) (v2 : Option V), (σ = [some (.ref p), some (.ref fl), v2]) → (Bt fl H0 H) → (H fl = some (.lst (l.map V.int))) → (rdAll rdNum (ws.take i) = some l) → (l.length = i) → Iv_nl ws H0 p fl i σ H
inductive Iv_sg (x : Str) (H0 : Hp) (i : Nat) (ys : List V) (H : Hp) : Prop
  | mk : (H = H0) → (ys = ((x.cps.toList.take i).map digB).map V.bl) → Iv_sg x H0 i ys H
theorem ok__law_numbers {f : Addr} {fd : FuncData} (F : Fun K "_law_numbers" "_law_numbers" s__law_numbers f fd) (T : Txt K mg CB CK CR CT CW CS)  : FnOk P w K mg base (CX1 P w) 1 f fd ["_law_words"] (spNumsL K) := by
  refine F.ok1 sc__law_numbers (fun vs H Q E h => ?_) (fun cdv A outer s H vs Q E hr h => ?_)
  · obtain ⟨p, ws, rfl, hp, hwl, hws, kn, ks⟩ := h; rfl
  · obtain ⟨p, ws, rfl, hp, hwl, hws, kn, ks⟩ := h
    have nd := sc__law_numbers.nd
    refine ⟨_, (pss_cons (ps_set (i := 1) nd rfl (Or.inl rfl) (pe_lst pa_nil))
       (pss_cons (ps_for powns1 rfl (pi_list (pv 0)) (pg_name (i := 2) nd rfl (Or.inl rfl))
       (pss_cons (ps_if (PW.pt (pw_or (pt_cmpR op_gt (pe_callB call_len_str rfl T.z_len boot_len (pa_cons (pv 2) pa_nil)) pe_int (nomark _)) (pw_or (pt_cmpR op_eq (pv 2) pe_str (nomark _)) (pw_or (pt_not (pt_truth (pe_callB (call_all rfl) rfl T.z_all boot_all (pa_cons (pe_comp (ot := none) [] rfl (pi_str (pv 2)) (fun _ _ _ _ => (pe_cmpR op_in_str (pv 0) pe_str (by with_unfolding_all rfl))) (fun _ _ _ _ => trivial) rfl (nodupS_of rfl)) pa_nil)) (fun _ => rfl))) (pw_or1 (pt_cmpR op_ne (pe_callTy call_str_int rfl T.z_str boot_str (pa_cons (pe_callTy call_intS rfl T.z_int boot_int (pa_cons (pv 2) pa_nil)) pa_nil)) (pv 2) (nomark _)))))))
       (pss_one (ps_ret pe_non))
       pss_nil)
       (pss_one (ps_expr (pe_bm PySem.F.plainAttrs_list PySem.F.slot_list_append PySem.F.type_list_append mt_append (pv 1) (pa_cons (pe_callTy call_intS rfl T.z_int boot_int (pa_cons (pv 2) pa_nil)) pa_nil))))))
       (pss_one (ps_ret (pv 1))))), ?_⟩
    skip
    refine ⟨(show 0 ≤ sizeLine by decide), fun fl gf => ?_⟩
    have s0 : ∀ H', Bt fl (upd H fl (.lst [])) H' → Same H H' := fun H' B b o h => B b o (ne_of_none h gf) (new_at gf h)
    have hf0 : (upd H fl (.lst [])) fl = some (.lst []) := upd_same
    have np : p ≠ fl := ne_of_none hp gf
    have hp0 := new_at (o := .lst []) gf hp
    generalize upd H fl (.lst []) = H1 at s0 hf0 hp0 ⊢
    refine ⟨p, rfl, ⟨_, SqL.of hp0⟩, for_list (K := K) (a := p) (xs := ws.map V.str) (Iv_nl ws H1 p fl) ⟨[], _, rfl, Bt.refl H1, hf0, rfl, rfl⟩ (fun j σ2 H2 _ ⟨_, _, _, B, _, _, _⟩ => SqL.of (B _ _ np hp0)) ?_ ?_⟩
    · rintro j v σ2 H2 hv ⟨l, v2, rfl, B2, hf2, hr, hll⟩
      rw [List.getElem?_map] at hv
      obtain ⟨x, hx, rfl⟩ := Option.map_eq_some_iff.mp hv
      have hj := (List.getElem?_eq_some_iff.mp hx).1
      obtain ⟨hlow, hlen⟩ := hws x (List.mem_of_getElem? hx)
      have hz : x.length ≤ sizeLine := by rw [sizeLine_eq]; lia
      have no : ∀ H3, Same H2 H3 → lawNum x = false → Q .non H3 := fun H3 s3 h => kn H3 ((s0 _ B2).trans s3) (rdAll_none (x := x) (by unfold rdNum; rw [← lawNum_eq, h]; rfl) (List.mem_of_getElem? hx))
      refine ⟨x, rfl, hz, iteB (fun h1 => no H2 (Same.refl _) ?_) (fun h1 => ?_)⟩
      · have h1 := of_decide_eq_true h1
        unfold lawNum
        rw [decide_eq_true (show 3 < x.length by lia)]; rfl
      have h1 : x.length ≤ 3 := by have := of_decide_eq_false h1; lia
      refine iteB (fun h2 => no H2 (Same.refl _) ?_) (fun h2 => ?_)
      · have e : x = ⟨#[]⟩ := (V.str.inj (of_decide_eq_true h2)).trans (by decide)
        rw [e]; rfl
      have h2 : x ≠ ⟨#[]⟩ := fun z => of_decide_eq_false h2 (congrArg V.str (z.trans (by decide)))
      have h2' : 1 ≤ x.length := by
        rcases Nat.eq_zero_or_pos x.length with h | h
        · exact absurd (ext_list (x := x) (l := []) (List.length_eq_zero_iff.mp (by simpa [Str.length] using h))) h2
        · exact h
      have hn : lawNum x = (x.cps.toList.all digB && decide (Str.ofString (toString (numT x)) = x)) := by
        unfold lawNum
        rw [decide_eq_false (show ¬ 3 < x.length by lia), decide_eq_false h2]; rfl
      refine ⟨x, rfl, hlow, comp_str (x := x) (Iv_sg x H2) ⟨rfl, rfl⟩ (fun i ys H9 hi ⟨_, e⟩ => fitsL (by rw [e]; simp; have : x.cps.size = x.length := rfl; lia)) ?_ ?_⟩
      · rintro i d ys9 H9 TT hd ⟨rfl, rfl⟩ ht
        refine ⟨_, _, rfl, rfl, ht _ _ ⟨rfl, ?_⟩⟩
        rw [List.take_succ, show x.cps.toList[i]? = some d by rw [Array.getElem?_toList]; exact hd, List.map_append, List.map_append]; rfl
      rintro ys9 H9 ⟨rfl, rfl⟩ q gq
      have sq := Same.new (o := .lst (((x.cps.toList.take x.cps.size).map digB).map V.bl)) gq
      have nq : fl ≠ q := ne_of_none hf2 gq
      have e2 : (((x.cps.toList.take x.cps.size).map digB).all id) = x.cps.toList.all digB := by
        rw [List.take_of_length_le (by simp), List.all_map]; rfl
      refine ⟨q, _, rfl, SqL.of upd_same, _, rfl, iteN (fun h3 => ?_) (fun h3 => ?_)⟩
      · rw [e2] at h3
        refine no _ sq ?_
        rw [hn, h3]; rfl
      rw [e2] at h3
      have hrd := digits_read h2' h1 h3
      refine ⟨x, numT x, rfl, hrd, by lia, _, rfl, log2_small (i := NumText.digitsVal x.cps.toList) (val_small h1 h3), iteN (fun h4 => no _ sq ?_) (fun h4 => ?_)⟩
      · rw [hn, h3, decide_eq_false (fun z => of_decide_eq_false h4 (congrArg V.str z))]; rfl
      have h5 : isNumT x = true := by
        rw [← lawNum_eq, hn, h3, decide_eq_true (V.str.inj (of_decide_eq_true h4))]; rfl
      refine ⟨.inl ⟨rfl, _, SqL.of (new_at gq hf2)⟩, x, numT x, rfl, hrd, by lia, fl, _, _, rfl, rfl, new_at gq hf2, fits (by simp; lia), ⟨l ++ [numT x], _, rfl, (B2.trans (Bt.same sq)).trans Bt.sa, by rw [upd_same, List.map_append]; rfl, ?_, by rw [List.length_append, hll]; rfl⟩⟩
      rw [List.take_succ, hx]
      exact rdAll_snoc (show rdNum x = some (numT x) by unfold rdNum; rw [if_pos h5]) hr
    · rintro σ2 H2 ⟨l, v2, rfl, B2, hf2, hr, hll⟩
      rw [List.length_map, List.take_length] at hr
      exact ks H2 l fl (s0 _ B2) hr hf2
end
end K50

namespace K50
open PySem L2 NM PyProof.Rows
section
variable {P : Program} {w : World} {K : PySem.W.Frag} {mg : Str → Option Value} {base : Heap} {CB CK CR CT CW CS : Addr}
noncomputable abbrev s__law_tried : Stmt := top 36
theorem sc__law_tried : FnScope ["_law_text_here", "_law_rows", "_law_wide", "_law_outs", "_law_steps"] ["_law_text_here"] (defScope s__law_tried) := ⟨rfl, rfl, rfl, by decide +kernel, rfl, by decide +kernel, by decide +kernel⟩
inductive Iv_tst (rs : List Str) (H0 : Hp) (i : Nat) (ys : List V) (H : Hp) : Prop
  | mk : (Same H0 H) → (ys.length = i) → (∀ (j : Nat) r y, rs[j]? = some r → ys[j]? = some y → StepV H r y) → Iv_tst rs H0 i ys H
inductive Iv_tok (rs : List Str) (H0 : Hp) (i : Nat) (ys : List V) (H : Hp) : Prop
  | mk : (H = H0) → (ys = ((rs.take i).map okSt).map V.bl) → Iv_tok rs H0 i ys H
inductive Iv_ttp (rs : List Str) (H0 : Hp) (i : Nat) (ys : List V) (H : Hp) : Prop
  | mk : ∀ l : List (List Int), (Same H0 H) → (rdAll trStep (rs.take i) = some l) → (StepsAt H ys l) → (l.length = i) → Iv_ttp rs H0 i ys H
theorem ok__law_tried {f : Addr} {fd : FuncData} (F : Fun K "_law_tried" "_law_tried" s__law_tried f fd) (T : Txt K mg CB CK CR CT CW CS) (d__law_numbers : Df P w K mg base "_law_numbers" 1 ["_law_words"] (spNumsL K)) : FnOk P w K mg base (CX1 P w) 2 f fd ["_law_text_here"] (spTried) := by
  refine F.ok1 sc__law_tried (fun vs H Q E h => ?_) (fun cdv A outer s H vs Q E hr h => ?_)
  · obtain ⟨x, rfl, hlow, hlen, kn, ks⟩ := h; rfl
  · obtain ⟨x, rfl, hlow, hlen, kn, ks⟩ := h
    have nd := sc__law_tried.nd
    refine ⟨_, (pss_cons (ps_set (i := 1) nd rfl (Or.inl rfl) (pe_bm PySem.F.plainAttrs_str PySem.F.slot_str_split PySem.F.type_str_split mt_split (pv 0) (pa_cons pe_str pa_nil)))
       (pss_cons (ps_if (PW.pt (pw_or (pt_cmpR op_lt (pe_callB call_len_seq rfl T.z_len boot_len (pa_cons (pv 1) pa_nil)) pe_int (nomark _)) (pw_or (pt_cmpR op_ne (pe_slice sl_str (pe_ix ix_list (pv 1) pe_int (fun _ _ => rfl)) po_none (po_some pe_int)) pe_str (nomark _)) (pw_or1 (pt_cmpR op_ne (pe_slice sl_str (pe_ix ix_list (pv 1) (pe_un un_neg pe_int) (fun _ _ => rfl)) po_none (po_some pe_int)) pe_str (nomark _))))))
       (pss_one (ps_ret pe_non))
       pss_nil)
       (pss_cons (ps_set (i := 2) nd rfl (Or.inl rfl) (pe_own d__law_numbers (hr.mono (by first | decide | lia)) rfl pass1 (pa_cons (pe_lst (pa_cons (pe_slice sl_str (pe_ix ix_list (pv 1) pe_int (fun _ _ => rfl)) (po_some pe_int) po_none) pa_nil)) pa_nil)))
       (pss_cons (ps_set (i := 3) nd rfl (Or.inl rfl) (pe_own d__law_numbers (hr.mono (by first | decide | lia)) rfl pass1 (pa_cons (pe_bm PySem.F.plainAttrs_str PySem.F.slot_str_split PySem.F.type_str_split mt_split (pe_slice sl_str (pe_ix ix_list (pv 1) (pe_un un_neg pe_int) (fun _ _ => rfl)) (po_some pe_int) po_none) (pa_cons pe_str pa_nil)) pa_nil)))
       (pss_cons (ps_setcomp (ot := none) 4 [] rfl nd rfl rfl (pi_list (pe_slice sl_list (pv 1) (po_some pe_int) (po_some (pe_un un_neg pe_int)))) (fun _ _ _ _ => (pe_own d__law_numbers (hr.mono (by first | decide | lia)) rfl pass10 (pa_cons (show PE _ _ (tBM K _ rSplit _ _) from (pe_bm PySem.F.plainAttrs_str PySem.F.slot_str_split PySem.F.type_str_split mt_split (pv 0) (pa_cons pe_str pa_nil))) pa_nil))) (fun _ _ _ _ => trivial) rfl (nodupS_of rfl))
       (pss_cons (ps_if (PW.pt (pw_or (pt_cmpR op_isN (pv 2) pe_non (nomark _)) (pw_or (pt_cmpR op_isN (pv 3) pe_non (nomark _)) (pw_or1 (pt_not (pt_truth (pe_callB (call_all rfl) rfl T.z_all boot_all (pa_cons (pe_comp (ot := none) [] rfl (pi_list (pv 4)) (fun _ _ _ _ => (pe_and (pe_cmpR op_notN (pv 0) pe_non (nomark _)) (pe_one (pe_cmpR op_eq (pe_callB (show CallR _ _ (rLenS K) from call_lenS) rfl T.z_len boot_len (pa_cons (pv 0) pa_nil)) pe_int (nomark _))))) (fun _ _ _ _ => trivial) rfl (nodupS_of rfl)) pa_nil)) (fun _ => rfl)))))))
       (pss_one (ps_ret pe_non))
       pss_nil)
       (pss_one (ps_ret (pe_tup (pa_cons (pe_ix ix_list (pv 2) pe_int (fun _ _ => rfl)) (pa_cons (pe_comp (ot := none) [] rfl (pi_list (pv 4)) (fun _ _ _ _ => (pe_callTy (show CallR _ _ (rTupOf' K) from call_tupOf) rfl T.z_tuple boot_tuple (pa_cons (pv 0) pa_nil))) (fun _ _ _ _ => trivial) rfl (nodupS_of rfl)) (pa_cons (pv 3) pa_nil)))))))))))), ?_⟩
    skip
    refine ⟨rfl, x, 10, rfl, by rw [show Str.ofString "\n" = ⟨#[10]⟩ from by decide], by rw [sizeLine_eq]; lia, fun p gp => ?_⟩
    have hl : ∀ q ∈ spl x 10, lowT q ∧ q.length ≤ 9000 := fun q hq => ⟨spl_low hlow hq, Nat.le_trans (spl_len hq) hlen⟩
    have hw : trNet x = (if (spl x 10).length < 2 then none else match trWide ((spl x 10).getD 0 ⟨#[]⟩), rdAll trStep (((spl x 10).drop 1).take ((spl x 10).length - 2)), trOuts (lastS (spl x 10)) with | some w, some st, some ou => some ⟨w, st, ou⟩ | _, _, _ => none) := rfl
    have s1 := Same.new (o := .lst ((spl x 10).map V.str)) gp
    have hp : (upd H p (.lst ((spl x 10).map V.str))) p = some (.lst ((spl x 10).map V.str)) := upd_same
    have n0 := spl_ne x 10
    have nl := spl_many x 10
    rw [show Txt.split x ⟨#[10]⟩ = spl x 10 from rfl]
    generalize upd H p (.lst ((spl x 10).map V.str)) = H1 at s1 hp ⊢
    generalize spl x 10 = ws at hl hw hp n0 nl
    refine ⟨p, _, rfl, .inl (SqL.of hp), iteB (fun h1 => kn H1 s1 ?_) (fun h1 => ?_)⟩
    · have h1 := of_decide_eq_true h1
      rw [hw, if_pos (by rw [List.length_map] at h1; lia)]
    have h1 : 2 ≤ ws.length := by have := of_decide_eq_false h1; rw [List.length_map] at this; lia
    rw [if_neg (by lia)] at hw
    have m0 : ws.getD 0 ⟨#[]⟩ ∈ ws := by rcases ws with _ | ⟨a, r⟩; exact absurd rfl n0; simp
    have mL : lastS ws ∈ ws := by unfold lastS; rw [List.getD_eq_getElem?_getD, List.getElem?_eq_getElem (by lia)]; exact List.getElem_mem _
    have at0 : atI (ws.map V.str) 0 = some (.str (ws.getD 0 ⟨#[]⟩)) := atI_nat (j := 0) (by rcases ws with _ | ⟨a, r⟩; exact absurd rfl n0; rfl)
    have hat : atI (ws.map V.str) (-1) = some (.str (lastS ws)) := by
      unfold atI
      rw [List.length_map, show ws.length = (ws.length - 1) + 1 by lia, ixN_last]
      show (ws.map V.str)[ws.length - 1]? = _
      unfold lastS
      rw [List.getElem?_map, List.getD_eq_getElem?_getD, List.getElem?_eq_getElem (by lia)]; rfl
    have l0 := hl _ m0
    have lL := hl _ mL
    have mr : ∀ y ∈ (ws.drop 1).take (ws.length - 2), y ∈ ws := fun y hy => List.mem_of_mem_drop (List.mem_of_mem_take hy)
    have rl : ((ws.drop 1).take (ws.length - 2)).length ≤ 9002 := by simp; lia
    have hmid : cutV (ws.map V.str) (some 1) (some (-1)) = ((ws.drop 1).take (ws.length - 2)).map V.str := by rw [cutV_mid _ (by rw [List.length_map]; lia), List.length_map, ← List.map_drop, ← List.map_take]
    generalize ws.getD 0 ⟨#[]⟩ = w0 at hw at0 l0
    generalize lastS ws = wL at hw hat lL
    generalize (ws.drop 1).take (ws.length - 2) = rs at hw mr rl hmid
    have z0 : w0.length ≤ sizeLine := by rw [sizeLine_eq]; lia
    have zL : wL.length ≤ sizeLine := by rw [sizeLine_eq]; lia
    refine ⟨p, _, 0, .str w0, rfl, rfl, SqL.of hp, at0, w0, rfl, z0, iteN (fun h2 => kn H1 s1 ?_) (fun h2 => ?_)⟩
    · rw [hw, trWide_no fun z => of_decide_eq_false h2 (congrArg V.str z)]
    have h2 := V.str.inj (of_decide_eq_true h2)
    rw [trWide_yes h2] at hw
    refine ⟨p, _, -1, .str wL, rfl, rfl, SqL.of hp, hat, wL, rfl, zL, iteN (fun h3 => kn H1 s1 ?_) (fun h3 => ?_)⟩
    · rw [hw, trOuts_no fun z => of_decide_eq_false h3 (congrArg V.str z)]
      generalize rdNum (Txt.slice w0 (some 5) none) = o1
      generalize rdAll trStep rs = o2
      cases o1 <;> cases o2 <;> rfl
    have h3 := V.str.inj (of_decide_eq_true h3)
    rw [trOuts_yes h3] at hw
    have lo0 := low_drop l0.1 5
    have lo1 := low_drop lL.1 5
    have le0 := len_drop w0 5
    have le1 := len_drop wL 5
    refine ⟨p, _, 0, .str w0, rfl, rfl, SqL.of hp, at0, w0, rfl, z0, (show 1 ≤ sizeLine by decide), fun q1 g1 => ?_⟩
    refine ⟨q1, [Txt.slice w0 (some 5) none], rfl, upd_same, (by show 1 ≤ 9010; decide), fun y hy => by rw [List.mem_singleton.mp hy]; exact ⟨lo0, by lia⟩, fun H2 s2 e => ?n1, fun H2 l q s2 e hq => ?s1⟩
    case' n1 =>
      have s3 := (s1.trans (Same.new g1)).trans s2
      have hp3 := s2 _ _ (new_at g1 hp)
      rw [rdAll_one, Option.map_eq_none_iff] at e
      have hwn : trNet x = none := by rw [hw, e]
    case' s1 =>
      have s3 := (s1.trans (Same.new g1)).trans s2
      have hp3 := s2 _ _ (new_at g1 hp)
      rw [rdAll_one, Option.map_eq_some_iff] at e
      obtain ⟨n, en, rfl⟩ := e
      rw [en] at hw
    all_goals
      clear s2 hp s1 g1
      refine ⟨p, _, -1, .str wL, rfl, rfl, SqL.of hp3, hat, wL, rfl, zL, rfl, _, 32, rfl, by rw [show Str.ofString " " = ⟨#[32]⟩ from by decide], by rw [sizeLine_eq]; lia, fun p2 g2 => ?_⟩
      rw [show Txt.split (Txt.slice wL (some 5) none) ⟨#[32]⟩ = spl (Txt.slice wL (some 5) none) 32 from rfl]
      have m2 := spl_many (Txt.slice wL (some 5) none) 32
      refine ⟨p2, spl (Txt.slice wL (some 5) none) 32, rfl, upd_same, by lia, fun y hy => ⟨spl_low lo1 hy, by have := spl_len hy; lia⟩, fun H4 s4 e4 => ?_, fun H4 ou po s4 e4 hpo => ?_⟩
    case' n1.refine_1 => have hwn : trNet x = none := hwn
    case' n1.refine_2 => have hwn : trNet x = none := hwn
    case' s1.refine_1 =>
      have hwn : trNet x = none := by
        rw [hw, e4]
        generalize rdAll trStep rs = o2
        cases o2 <;> rfl
    case' s1.refine_2 => rw [e4] at hw
    all_goals
      have s5 := (s3.trans (Same.new g2)).trans s4
      have hp5 := s4 _ _ (new_at g2 hp3)
      refine ⟨p, _, rfl, SqL.of hp5, fun q3 g3 => ?_⟩
      show iList_b K _ (V.ref q3) (upd H4 q3 (.lst (cutV (ws.map V.str) (some 1) (some (-1)))))
      rw [hmid]
      have s6 := s5.trans (Same.new (o := .lst (rs.map V.str)) g3)
      have s46 := Same.new (o := .lst (rs.map V.str)) g3
      have hq3 : (upd H4 q3 (.lst (rs.map V.str))) q3 = some (.lst (rs.map V.str)) := upd_same
      generalize upd H4 q3 (.lst (rs.map V.str)) = H6 at s6 s46 hq3 ⊢
      refine ⟨q3, rfl, ⟨_, SqL.of hq3⟩, comp_list (K := K) (a := q3) (xs := rs.map V.str) (Iv_tst rs H6) ⟨Same.refl _, rfl, fun j r y _ h => by simp at h⟩ (fun i ys H9 _ ⟨s9, _, _⟩ => SqL.of (s9 _ _ hq3)) (fun i ys H9 hi ⟨_, e, _⟩ => fitsL (by rw [e]; simp at hi; lia)) ?_ ?_⟩
      · rintro i v ys9 H9 TT hv ⟨s9, hl9, hst⟩ ht
        rw [List.getElem?_map] at hv
        obtain ⟨r, hr0, rfl⟩ := Option.map_eq_some_iff.mp hv
        have lr := hl r (mr _ (List.mem_of_getElem? hr0))
        have m3 := spl_many r 43
        refine ⟨rfl, r, 43, rfl, by rw [show Str.ofString "+" = ⟨#[43]⟩ from by decide], by rw [sizeLine_eq]; lia, fun p6 g6 => ?_⟩
        have sn := fun y (H7 : Hp) (s7 : Same (upd H9 p6 (.lst ((spl r 43).map V.str))) H7) (sv : StepV H7 r y) => ht y H7 ⟨(s9.trans (Same.new g6)).trans s7, by rw [List.length_append, hl9]; rfl, fun j r' y' e1 e2 => by
          by_cases hlt : j < ys9.length
          · rw [List.getElem?_append_left hlt] at e2
            exact (hst j r' y' e1 e2).mono ((Same.new g6).trans s7)
          · rw [List.getElem?_append_right (by lia)] at e2
            have h0 : j - ys9.length = 0 := by
              have := (List.getElem?_eq_some_iff.mp e2).1
              simp at this
              lia
            rw [h0] at e2
            obtain rfl : y = y' := Option.some.inj e2
            obtain rfl : j = i := by lia
            rw [hr0] at e1
            obtain rfl := Option.some.inj e1
            exact sv⟩
        exact ⟨p6, spl r 43, rfl, upd_same, by lia, fun y hy => ⟨spl_low lr.1 hy, by have := spl_len hy; lia⟩, fun H7 s7 e7 => sn _ H7 s7 (.no e7 rfl), fun H7 l7 q7 s7 e7 hq7 => sn _ H7 s7 (.some l7 q7 e7 rfl hq7)⟩
      rintro ys9 H9 ⟨s9, hl9, hst⟩ sa gsa
      rw [List.length_map] at hl9
      have s10 := (s6.trans s9).trans (Same.new (o := .lst ys9) gsa)
    case n1.refine_1 => exact ⟨rfl, kn _ s10 hwn⟩
    case n1.refine_2 => exact ⟨rfl, kn _ s10 hwn⟩
    case s1.refine_1 => exact ⟨rfl, ⟨rfl, kn _ s10 hwn⟩⟩
    have hou := s46 _ _ hpo
    have hqn := s46 _ _ (s4 _ _ (new_at g2 hq))
    have hou9 := new_at (o := .lst ys9) gsa (s9 _ _ hou)
    have hqn9 := new_at (o := .lst ys9) gsa (s9 _ _ hqn)
    have hsa : (upd H9 sa (.lst ys9)) sa = some (.lst ys9) := upd_same
    have hst := fun j r y e1 e2 => (hst j r y e1 e2).mono (Same.new (o := .lst ys9) gsa)
    generalize upd H9 sa (.lst ys9) = H10 at s10 hou9 hqn9 hsa hst
    refine ⟨rfl, ⟨rfl, sa, rfl, ⟨_, SqL.of hsa⟩, comp_list (K := K) (a := sa) (xs := ys9) (Iv_tok rs H10) ⟨rfl, rfl⟩ (fun i ys H9 _ ⟨e, _⟩ => by rw [e]; exact SqL.of hsa) (fun i ys H9 hi ⟨_, e⟩ => fitsL (by rw [e]; simp; lia)) ?_ ?_⟩⟩
    · rintro i v ys9 H9 TT hv ⟨rfl, rfl⟩ ht
      have hi := (List.getElem?_eq_some_iff.mp hv).1
      obtain ⟨r, hr0⟩ : ∃ r, rs[i]? = some r := ⟨_, List.getElem?_eq_getElem (by lia)⟩
      have kT : ∀ b, okSt r = b → TT (.bl b) H9 := fun b e => ht _ _ ⟨rfl, by rw [List.take_succ, hr0, ← e, List.map_append, List.map_append]; rfl⟩
      rcases hst i r v hr0 hv with ⟨e, rfl⟩ | ⟨l, q', e, rfl, hq'⟩
      · exact ⟨rfl, kT false (by unfold okSt; rw [e])⟩
      · refine ⟨rfl, q', _, rfl, .inl (SqL.of hq'), ?_⟩
        refine kT _ ?_
        unfold okSt
        rw [e, List.length_map]
        exact decide_eq_decide.mpr ⟨fun z => by rw [z]; rfl, fun z => by have := V.int.inj z; lia⟩
    rintro ys11 H11 ⟨rfl, rfl⟩ p11 g11
    rw [show rs.take ys9.length = rs from List.take_of_length_le (by lia)]
    refine ⟨p11, _, rfl, SqL.of upd_same, _, rfl, iteN (fun h => kn _ (s10.trans (Same.new g11)) ?_) (fun h => ?_)⟩
    · rw [hw, rdAll_all okSt_tr h]
    have s12 := Same.new (o := .lst ((rs.map okSt).map V.bl)) g11
    have s13 := s10.trans s12
    have hou := s12 _ _ hou9
    have hqn := s12 _ _ hqn9
    have hsa := s12 _ _ hsa
    have hst := fun j r y e1 e2 => (hst j r y e1 e2).mono s12
    generalize upd H11 p11 (.lst ((rs.map okSt).map V.bl)) = H12 at s13 hou hqn hsa hst ⊢
    refine ⟨q, _, 0, .int n, rfl, rfl, SqL.of hqn, rfl, sa, rfl, ⟨_, SqL.of hsa⟩, comp_list (K := K) (a := sa) (xs := ys9) (Iv_ttp rs H12) ⟨[], Same.refl _, rfl, .nil, rfl⟩ (fun i ys H9 _ ⟨_, s9, _, _, _⟩ => SqL.of (s9 _ _ hsa)) (fun i ys H9 hi ⟨_, _, _, e, hl9⟩ => fitsL (by rw [e.length]; lia)) ?_ ?_⟩
    · rintro i v ys9 H9 TT hv ⟨l, s9, hr9, st9, hl9⟩ ht
      have hi := (List.getElem?_eq_some_iff.mp hv).1
      obtain ⟨r, hr0⟩ : ∃ r, rs[i]? = some r := ⟨_, List.getElem?_eq_getElem (by lia)⟩
      have ok : okSt r = true := List.all_eq_true.mp h _ (List.mem_map.mpr ⟨r, List.mem_of_getElem? hr0, rfl⟩)
      obtain ⟨a, b, e1, e2⟩ := okSt_two ok
      rcases hst i r v hr0 hv with ⟨e, rfl⟩ | ⟨l', q', e, rfl, hq'⟩
      · rw [e1] at e; cases e
      · rw [e1] at e
        obtain rfl := Option.some.inj e
        refine ⟨q', _, rfl, .inl ⟨SqL.of (s9 _ _ hq'), fun t gt => ht _ _ ⟨l ++ [[a, b]], s9.trans (Same.new gt), ?_, (st9.mono (Same.new gt)).snoc upd_same, by rw [List.length_append, hl9]; rfl⟩⟩⟩
        rw [List.take_succ, hr0]
        exact rdAll_snoc e2 hr9
    rintro ys14 H14 ⟨st, s14, hr14, st14, hl14⟩ o14 g14
    rw [show rs.take ys9.length = rs from List.take_of_length_le (by lia)] at hr14
    refine ⟨(show 3 ≤ sizeLine by decide), fun n2 gn => ks _ ⟨n, st, ou⟩ n2 o14 po ys14 (((s13.trans s14).trans (Same.new g14)).trans (Same.new gn)) (by rw [hw, hr14]) (netAt_new gn upd_same (st14.mono (Same.new g14)) (new_at g14 (s14 _ _ hou)))⟩
end
end K50

namespace K50
open PySem L2 NM PyProof.Rows
section
variable {P : Program} {w : World} {K : PySem.W.Frag} {mg : Str → Option Value} {base : Heap} {CB CK CR CT CW CS : Addr}
noncomputable abbrev s_law : Stmt := top 38
theorem sc_law : FnScope ["_law_script", "_law_net_here", "_law_text_here", "_law_k", "_law_number", "_law_at", "_law_one", "_law_some", "_law_kept", "_law_found", "e", "_law_tried_here"] ["_law_script"] (defScope s_law) := ⟨rfl, rfl, rfl, by decide +kernel, rfl, by decide +kernel, by decide +kernel⟩
inductive spLaw (K : PySem.W.Frag) (vs : List V) (H : Hp) (Q : VK) (_e3 : XK) : Prop
  | mk : ∀ (a : Addr) (ns : List Int), (vs = [.ref a]) → (SqL K H a (ns.map V.int)) → (∀ H', Q (.bl true) H') → spLaw K vs H Q _e3
inductive Iv_edit (H0 : Hp) (a n : Addr) (i : Nat) (σ : L2.St) (H : Hp) : Prop
  | mk : ∀ (x : Str) (v3 v4 v5 v6 v7 : Option V), (σ = [some (.ref a), some (.ref n), some (.str x), v3, v4, v5, v6, v7, none, none, none, none]) → (Same H0 H) → (lowT x) → (x.length ≤ 4000 + i) → Iv_edit H0 a n i σ H
theorem ok_law {f : Addr} {fd : FuncData} (F : Fun K "law" "law" s_law f fd) (T : Txt K mg CB CK CR CT CW CS) (d_written : Df P w K mg base "written" 7 ["net"] (spWritten CB)) (d_read : Df P w K mg base "read" 7 ["text"] (spRead CT)) (d__law_mix : Df P w K mg base "_law_mix" 2 ["_law_script", "_law_k"] (spMix K)) (d__law_net : Df P w K mg base "_law_net" 3 ["_law_script", "_law_k", "_law_most"] (spDrawnN K)) (d__law_refusal : Df P w K mg base "_law_refusal" 1 ["_law_kept"] (spRefusalT CB CT)) (d__law_text : Df P w K mg base "_law_text" 1 ["_law_net_here"] (spText)) (d__law_tried : Df P w K mg base "_law_tried" 2 ["_law_text_here"] (spTried)) (d__law_is_net : Df P w K mg base "_law_is_net" 7 ["_law_tried_here"] (spIsNetL)) : FnOk P w K mg base (CX1 P w) 8 f fd ["_law_script"] (spLaw K) := by
  refine F.ok1 sc_law (fun vs H Q E h => ?_) (fun cdv A outer s H vs Q E hr h => ?_)
  · obtain ⟨a, ns, rfl, S, k⟩ := h; rfl
  · obtain ⟨a, ns, rfl, S, k⟩ := h
    have nd := sc_law.nd
    refine ⟨_, (pss_cons (ps_set (i := 1) nd rfl (Or.inl rfl) (pe_own d__law_net (hr.mono (by first | decide | lia)) rfl pass1 (pa_cons (pv 0) (pa_cons pe_int (pa_cons pe_int pa_nil)))))
       (pss_cons (ps_set (i := 2) nd rfl (Or.inl rfl) (pe_own d__law_text (hr.mono (by first | decide | lia)) rfl pass1 (pa_cons (pv 1) pa_nil)))
       (pss_cons (ps_if (PW.pt (pw_or (pt_cmpR op_ne (pe_own d_written (hr.mono (by first | decide | lia)) rfl pass1 (pa_cons (pv 1) pa_nil)) (pv 2) (nomark _)) (pw_or1 (pt_cmpR (op_neD hr) (pe_own d_read (hr.mono (by first | decide | lia)) rfl pass1 (pa_cons (pv 2) pa_nil)) (pv 1) (nomark _)))))
       (pss_one (ps_ret pe_bl))
       pss_nil)
       (pss_cons (ps_for powns1 rfl (pi_range1 rfl T.z_range (pa_cons (pe_op op_add pe_int (pe_op op_mod (pe_own d__law_mix (hr.mono (by first | decide | lia)) rfl pass1 (pa_cons (pv 0) (pa_cons pe_int pa_nil))) pe_int)) pa_nil)) (pg_name (i := 3) nd rfl (Or.inl rfl))
       (pss_cons (ps_set (i := 4) nd rfl (Or.inl rfl) (pe_own d__law_mix (hr.mono (by first | decide | lia)) rfl pass1 (pa_cons (pv 0) (pa_cons (pe_op op_add pe_int (pv 3)) pa_nil))))
       (pss_cons (ps_set (i := 5) nd rfl (Or.inl rfl) (pe_op op_mod (pe_op op_fdiv (pv 4) pe_int) (pe_op op_add (pe_callB call_len_str rfl T.z_len boot_len (pa_cons (pv 2) pa_nil)) pe_int)))
       (pss_cons (ps_set (i := 6) nd rfl (Or.inl rfl) (pe_ix ix_str pe_str (pe_op op_mod (pe_op op_fdiv (pv 4) pe_int) pe_int) (fun _ _ => rfl)))
       (pss_cons (ps_set (i := 7) nd rfl (Or.inl rfl) (pe_lst (pa_cons (pe_op op_add_str (pe_op op_add_str (pe_slice sl_str (pv 2) po_none (po_some (pv 5))) (pv 6)) (pe_slice sl_str (pv 2) (po_some (pv 5)) po_none)) (pa_cons (pe_op op_add_str (pe_op op_add_str (pe_slice sl_str (pv 2) po_none (po_some (pv 5))) (pv 6)) (pe_slice sl_str (pv 2) (po_some (pe_op op_add (pv 5) pe_int)) po_none)) (pa_cons (pe_op op_add_str (pe_slice sl_str (pv 2) po_none (po_some (pv 5))) (pe_slice sl_str (pv 2) (po_some (pe_op op_add (pv 5) pe_int)) po_none)) pa_nil)))))
       (pss_one (ps_set (i := 2) nd rfl (Or.inl rfl) (pe_ix ix_list (pv 7) (pe_op op_mod (pv 4) pe_int) (fun _ _ => rfl)))))))))
       (pss_cons (ps_set (i := 8) nd rfl (Or.inl rfl) pe_non)
       (pss_cons (ps_set (i := 9) nd rfl (Or.inl rfl) pe_non)
       (pss_cons (ps_tryK (i := 10) (iv := 9) own1 d_read (hr.mono (by first | decide | lia)) rfl (fun _ _ => (pa_cons (pv 2) pa_nil)) (fun _ => (pss_one (ps_set (i := 8) nd rfl (Or.inl rfl) (pv 10)))) nd rfl (Or.inl rfl) rfl rfl rfl T.g_SumError)
       (pss_cons (ps_set (i := 11) nd rfl (Or.inl rfl) (pe_own d__law_tried (hr.mono (by first | decide | lia)) rfl pass1 (pa_cons (pv 2) pa_nil)))
       (pss_cons (ps_if (PW.pt (pw_and (pt_cmpR op_notN (pv 11) pe_non (nomark _)) (pw_and1 (pt_truth (pe_own d__law_is_net (hr.mono (by first | decide | lia)) rfl pass1 (pa_cons (pv 11) pa_nil)) (fun _ => rfl)))))
       (pss_one (ps_ret (pe_and (pe_cmpR op_isN (pv 8) pe_non (nomark _)) (pe_one (pe_cmpR (op_eqD hr) (pv 9) (pv 11) (nomark _))))))
       pss_nil)
       (pss_cons (ps_if (pt_cmpR op_ne (pe_own d__law_refusal (hr.mono (by first | decide | lia)) rfl pass1 (pa_cons (pv 8) pa_nil)) pe_str (nomark _))
       (pss_one (ps_ret pe_bl))
       pss_nil)
       (pss_cons (ps_set (i := 8) nd rfl (Or.inl rfl) pe_non)
       (pss_cons (ps_try (i := 10) own1 rfl (fun _ _ _ hp =>
       (pss_one (ps_expr (pe_own d_written (hr.mono (by first | decide | lia)) rfl hp (pa_cons (pe_tup (pa_cons pe_int (pa_cons (pe_lst pa_nil) (pa_cons (pe_lst pa_nil) pa_nil)))) pa_nil))))) (fun _ => (pss_one (ps_set (i := 8) nd rfl (Or.inl rfl) (pv 10)))) nd rfl rfl rfl T.g_SumError)
       (pss_one (ps_ret (pe_cmpR op_eq (pe_own d__law_refusal (hr.mono (by first | decide | lia)) rfl pass1 (pa_cons (pv 8) pa_nil)) pe_str (nomark _)))))))))))))))), ?_⟩
    skip
    refine ⟨a, ns, 0, 6, rfl, by decide, by decide, S, fun H1 n sa oa rs N s1 nt hN w2 l2 => ?_⟩
    have hoL : N.outs.length ≤ 10000 := by rw [outs_len]; have := hN.ol; lia
    refine ⟨n, sa, oa, rs, N, rfl, nt, hN, fun H2 s2 => ?_⟩
    have nt2 := nt.mono s2
    refine ⟨n, sa, oa, rs, N.w, N.steps, N.outs, rfl, hoL, nt2, (fun _ _ g => absurd hN.good g), fun N' hN' e1 e2 e3 H3 s3 => ?_⟩
    obtain rfl := net_inj e1 e2 e3
    refine iteN (fun h => absurd rfl (of_decide_eq_false h)) (fun _ => ?_)
    have nt3 := nt2.mono s3
    have hz := wr_len hN l2
    refine ⟨wrN N, rfl, wr_low hN, by lia, (fun H4 s4 e => by rw [rd_written hN] at e; cases e), (fun H4 t s4 e g => by rw [rd_written hN] at e; obtain rfl := Option.some.inj e; exact absurd hN.good g), fun H4 t n2 sa2 oa2 rs2 s4 e g nt4 => ?_⟩
    rw [rd_written hN] at e
    obtain rfl := Option.some.inj e
    refine ⟨dNet N.w N.steps N.outs, n2, n, rfl, rfl, deep_net nt4, deep_net (nt3.mono s4), dp_net, ?_⟩
    have s5 := ((s1.trans s2).trans s3).trans s4
    refine ⟨a, ns, 30, rfl, s5.seq S, fun num hnum => ?_⟩
    have c0 := Int.emod_nonneg num (show (2 : Int) ≠ 0 by decide)
    have c1 := Int.emod_lt_of_pos num (show (0 : Int) < 2 by decide)
    refine ⟨(show (0 : Int) < 2 by decide), _, rfl, (by lia), (by lia), ?_⟩
    generalize num % 2 = c at c0 c1 ⊢
    refine for_range (lo := 0) (n := (1 + c).toNat) (Iv_edit H4 a n) ⟨wrN N, _, _, _, _, _, rfl, Same.refl _, wr_low hN, by lia⟩ ?_ ?_
    · rintro j σ2 H6 hj ⟨x, v3, v4, v5, v6, v7, rfl, s6, lx, hx⟩
      have zx : x.length ≤ sizeLine := by rw [sizeLine_eq]; lia
      refine ⟨a, ns, _, rfl, (s5.trans s6).seq S, fun num2 hn2 => ?_⟩
      have pos : 0 < ((x.length : Nat) : Int) + 1 := by lia
      have a0 := Int.emod_nonneg (num2 / 8) (show ((x.length : Nat) : Int) + 1 ≠ 0 by lia)
      have a1 := Int.emod_lt_of_pos (num2 / 8) pos
      refine ⟨⟨by decide, by decide⟩, x, rfl, zx, pos, ?_⟩
      obtain ⟨at', hat⟩ : ∃ at' : Nat, num2 / 8 % (((x.length : Nat) : Int) + 1) = (at' : Int) := ⟨(num2 / 8 % (((x.length : Nat) : Int) + 1)).toNat, by lia⟩
      dsimp only
      rw [hat]
      obtain ⟨c, hc, cl⟩ := sign_at (i := num2 / 4096 % 12) (Int.emod_nonneg _ (by decide)) (Int.emod_lt_of_pos _ (by decide))
      refine ⟨⟨by decide, by decide⟩, (show (0 : Int) < 12 by decide), _, _, c, rfl, rfl, by rw [sizeLine_eq]; decide, hc, ?_⟩
      have q1 := len_take x at'
      have q2 := len_drop x at'
      have q3 := len_drop x (at' + 1)
      have q4 : (⟨#[c]⟩ : Str).length = 1 := rfl
      have w1 := low_take lx at'
      have w2 := low_drop lx at'
      have w3 := low_drop lx (at' + 1)
      have w4 := low_one cl
      have fit : ∀ m, m ≤ 9000 → m ≤ sizeLine := fun m h => by rw [sizeLine_eq]; lia
      refine ⟨x, rfl, zx, _, _, rfl, rfl, fit _ ?_, x, rfl, zx, _, _, rfl, rfl, fit _ ?_, x, rfl, zx, _, _, rfl, rfl, fit _ ?_, x, rfl, zx, _, _, rfl, rfl, fit _ ?_, x, rfl, zx, x, rfl, zx, _, _, rfl, rfl, fit _ ?_, (show 3 ≤ sizeLine by decide), fun q gq => ?_⟩
      · rw [q1, q4]; lia
      · rw [Str.length_append, q1, q4, q2]; lia
      · rw [q1, q4]; lia
      · rw [Str.length_append, q1, q4]; show _ + (Txt.slice x (some ((at' + 1 : Nat) : Int)) none).length ≤ _; rw [q3]; lia
      · rw [q1]; show _ + (Txt.slice x (some ((at' + 1 : Nat) : Int)) none).length ≤ _; rw [q3]; lia
      obtain ⟨z, hz3, y, rfl, ly, lny⟩ := pick3 (a := V.str (Txt.slice x none (some (at' : Int)) ++ ⟨#[c]⟩ ++ Txt.slice x (some (at' : Int)) none)) (b := V.str (Txt.slice x none (some (at' : Int)) ++ ⟨#[c]⟩ ++ Txt.slice x (some ((at' + 1 : Nat) : Int)) none)) (c := V.str (Txt.slice x none (some (at' : Int)) ++ Txt.slice x (some ((at' + 1 : Nat) : Int)) none)) (i := num2 % 3) (Int.emod_nonneg _ (by decide)) (Int.emod_lt_of_pos _ (by decide)) (R := fun z => ∃ y : Str, z = V.str y ∧ lowT y ∧ y.length ≤ 4000 + (j + 1))
        ⟨_, rfl, low_app (low_app w1 w4) w2, by rw [Str.length_append, Str.length_append, q1, q4, q2]; lia⟩ ⟨_, rfl, low_app (low_app w1 w4) w3, by rw [Str.length_append, Str.length_append, q1, q4, q3]; lia⟩ ⟨_, rfl, low_app w1 w3, by rw [Str.length_append, q1, q3]; lia⟩
      exact ⟨(show (0 : Int) < 3 by decide), q, _, _, _, rfl, rfl, SqL.of upd_same, hz3, ⟨y, _, _, _, _, _, rfl, s6.trans (Same.new gq), ly, lny⟩⟩
    · rintro σ2 H6 ⟨x, v3, v4, v5, v6, v7, rfl, s6, lx, hx⟩
      have hx : x.length ≤ 4002 := by lia
      have s6 := s5.trans s6
      refine ⟨x, rfl, lx, by lia, fun H7 s7 e7 => ⟨CT, rfl, T.m_BadText, fun e he => ?A⟩, fun H7 t s7 e7 g7 => ⟨CT, rfl, T.m_BadText, fun e he => ?B⟩, fun H7 t n7 sa7 oa7 rs7 s7 e7 g7 nt7 => ?C⟩
      case C =>
        refine ⟨x, rfl, lx, by lia, fun H8 s8 e8 => absurd e8 (by rw [rd_tr e7 g7]; simp), fun H8 t' n8 sa8 oa8 rs8 s8 e8 nt8 => ?_⟩
        rw [rd_tr e7 g7] at e8
        obtain rfl := Option.some.inj e8
        have tl : t.ou.length ≤ 10000 := by have := g7.ol; have := g7.hi; lia
        refine ⟨rfl, n8, sa8, oa8, rs8, t.w, t.st, t.ou, rfl, tl, nt8, fun H9 s9 _ => ⟨true, rfl, ?_⟩, fun H9 s9 g => absurd g7 g⟩
        exact ⟨rfl, dNet t.w t.st t.ou, n7, n8, rfl, rfl, deep_net ((nt7.mono s8).mono s9), deep_net (nt8.mono s9), dp_net, k _⟩
      case' A =>
        refine ⟨x, rfl, lx, by lia, fun H8 s8 e8 => ?_, fun H8 t' n8 sa8 oa8 rs8 s8 e8 nt8 => absurd (tr_rd e8) (by rw [e7]; simp)⟩
        have he8 := s8 _ _ (upd_same (H := H7) (a := e) (o := excO e CT))
        refine ⟨rfl, ?_⟩
      case' B =>
        refine ⟨x, rfl, lx, by lia, fun H8 s8 e8 => ?_, fun H8 t' n8 sa8 oa8 rs8 s8 e8 nt8 => ?_⟩
        case' refine_1 =>
          have he8 := s8 _ _ (upd_same (H := H7) (a := e) (o := excO e CT))
          refine ⟨rfl, ?_⟩
        case' refine_2 =>
          rw [tr_rd e8] at e7
          obtain rfl := Option.some.inj e7
          have he8 := s8 _ _ (upd_same (H := H7) (a := e) (o := excO e CT))
          refine ⟨rfl, n8, sa8, oa8, rs8, t'.w, t'.st, t'.ou, rfl, ?_, nt8, fun H9 s9 g => absurd g g7, fun H9 s9 _ => ⟨false, rfl, ?_⟩⟩
          case refine_1 => have := rdNet_ol (tr_rd e8); lia
          have he8 := s9 _ _ he8
          clear s8
      all_goals
        refine ⟨e, CT, _, rfl, he8, .inr ⟨rfl, rfl⟩, fun H10 s10 => ?_⟩
        refine ⟨(show 0 ≤ sizeLine by decide), fun l1 g1 => ⟨(show 0 ≤ sizeLine by decide), fun l2 g2 => ⟨(show 3 ≤ sizeLine by decide), fun tt gt => ?_⟩⟩⟩
        refine ⟨tt, l1, l2, [], 0, [], [], rfl, by decide, netAt_new gt (new_at g2 upd_same) .nil upd_same, fun H11 s11 g => ⟨CB, rfl, T.m_BadNet, fun e2 he2 => ?_⟩, fun N2 hN2 z1 _ _ => ?_⟩
        · refine ⟨e2, CB, _, rfl, upd_same, .inl ⟨rfl, rfl⟩, fun H12 s12 => ?_⟩
          exact k _
        · have := hN2.lo
          exfalso
          lia
end
end K50

namespace K50
open PySem L2 NM PyProof.Rows
structure Kfs (K : PySem.W.Frag) : Prop where
  fis_whole : KFn K "is_whole" s_is_whole
  fis_within : KFn K "is_within" s_is_within
  fis_node : KFn K "is_node" s_is_node
  fis_step : KFn K "is_step" s_is_step
  flook_net : KFn K "look_net" s_look_net
  flook_wide : KFn K "look_wide" s_look_wide
  flook_steps : KFn K "look_steps" s_look_steps
  flook_outs : KFn K "look_outs" s_look_outs
  fwritten : KFn K "written" s_written
  fread : KFn K "read" s_read
  fread_wide : KFn K "read_wide" s_read_wide
  fread_step : KFn K "read_step" s_read_step
  fread_outs : KFn K "read_outs" s_read_outs
  fread_number : KFn K "read_number" s_read_number
  fis_number : KFn K "is_number" s_is_number
  f_law_cell : KFn K "_law_cell" s__law_cell
  f_law_mix : KFn K "_law_mix" s__law_mix
  f_law_net : KFn K "_law_net" s__law_net
  f_law_refusal : KFn K "_law_refusal" s__law_refusal
  f_law_text : KFn K "_law_text" s__law_text
  f_law_numbers : KFn K "_law_numbers" s__law_numbers
  f_law_tried : KFn K "_law_tried" s__law_tried
  f_law_is_net : KFn K "_law_is_net" s__law_is_net
  flaw : KFn K "law" s_law
theorem txt_mk {K : PySem.W.Frag} {h : Heap} {mg : Str → Option Value} {CB CK CR CT CW CS : Addr} (X : K.In h) (G : h.Ns mainGlobals mg)
    {tg_MOST_THINGS : Tok}
    {tg_MOST_STEPS : Tok}
    {tg_MOST_FIGURES : Tok}
    {tg_FIGURES : Tok}
    (ag_BadNet : PySem.W.nsIn K mainGlobals "BadNet" = some (some (.ref CB)))
    (ag_BadText : PySem.W.nsIn K mainGlobals "BadText" = some (some (.ref CT)))
    (ag_BadKind : PySem.W.nsIn K mainGlobals "BadKind" = some (some (.ref CK)))
    (ag_BadRow : PySem.W.nsIn K mainGlobals "BadRow" = some (some (.ref CR)))
    (ag_Wrong : PySem.W.nsIn K mainGlobals "Wrong" = some (some (.ref CW)))
    (ag_SumError : PySem.W.nsIn K mainGlobals "SumError" = some (some (.ref CS)))
    (hx_BadNet : ExK K CB)
    (hx_BadText : ExK K CT)
    (hq_BadNet0 : PySem.W.findIn K (.ref CB) "__getattribute__" = some (some (.builtin "BaseException.__getattribute__")))
    (hq_BadNet1 : PySem.W.findIn K (.ref CB) "__getattr__" = some none)
    (hq_BadNet2 : PySem.W.findIn K (.ref CB) "__class__" = some (some (.builtin "object.__class__")))
    (hq_BadNet3 : PySem.W.subIn K (.ref CB) (.type "object") = some true)
    (hq_BadNet4 : PySem.W.subIn K (.ref CB) (.type "BaseException") = some true)
    (hq_BadNet5 : PySem.W.kitCls K (.ref CB) (.ref CB) = some true)
    (hq_BadNetk0 : PySem.W.kitOne K (.ref CB) (.ref CK) = some false)
    (hq_BadNetk1 : PySem.W.kitOne K (.ref CB) (.ref CB) = some true)
    (hq_BadNetk2 : PySem.W.kitOne K (.ref CB) (.ref CR) = some false)
    (hq_BadNetk3 : PySem.W.kitOne K (.ref CB) (.ref CT) = some false)
    (hq_BadNetk4 : PySem.W.kitOne K (.ref CB) (.ref CW) = some false)
    (hq_BadNetkv : PySem.W.kitOne K (.ref CB) (.type "ValueError") = some true)
    (hq_BadText0 : PySem.W.findIn K (.ref CT) "__getattribute__" = some (some (.builtin "BaseException.__getattribute__")))
    (hq_BadText1 : PySem.W.findIn K (.ref CT) "__getattr__" = some none)
    (hq_BadText2 : PySem.W.findIn K (.ref CT) "__class__" = some (some (.builtin "object.__class__")))
    (hq_BadText3 : PySem.W.subIn K (.ref CT) (.type "object") = some true)
    (hq_BadText4 : PySem.W.subIn K (.ref CT) (.type "BaseException") = some true)
    (hq_BadText5 : PySem.W.kitCls K (.ref CT) (.ref CT) = some true)
    (hq_BadTextk0 : PySem.W.kitOne K (.ref CT) (.ref CK) = some false)
    (hq_BadTextk1 : PySem.W.kitOne K (.ref CT) (.ref CB) = some false)
    (hq_BadTextk2 : PySem.W.kitOne K (.ref CT) (.ref CR) = some false)
    (hq_BadTextk3 : PySem.W.kitOne K (.ref CT) (.ref CT) = some true)
    (hq_BadTextk4 : PySem.W.kitOne K (.ref CT) (.ref CW) = some false)
    (hq_BadTextkv : PySem.W.kitOne K (.ref CT) (.type "ValueError") = some true)
    (hm_BadNet : PySem.W.exmOne K (.ref CB) (.ref CS) = some true)
    (hm_BadText : PySem.W.exmOne K (.ref CT) (.ref CS) = some true)
    (hn_BadNet : PySem.W.exmOne K (.ref CB) (.ref CB) = some true)
    (hz_ValueError : PySem.W.nsIn K mainGlobals "ValueError" = some none)
    (hg_MOST_THINGS : PySem.W.nsIn K mainGlobals "MOST_THINGS" = some (some (.int 64 tg_MOST_THINGS)))
    (hg_MOST_STEPS : PySem.W.nsIn K mainGlobals "MOST_STEPS" = some (some (.int 500 tg_MOST_STEPS)))
    (hg_MOST_FIGURES : PySem.W.nsIn K mainGlobals "MOST_FIGURES" = some (some (.int 3 tg_MOST_FIGURES)))
    (hg_FIGURES : PySem.W.nsIn K mainGlobals "FIGURES" = some (some (.str "0123456789" tg_FIGURES)))
    (hz_isinstance : PySem.W.nsIn K mainGlobals "isinstance" = some none)
    (hz_int : PySem.W.nsIn K mainGlobals "int" = some none)
    (hz_bool : PySem.W.nsIn K mainGlobals "bool" = some none)
    (hz_str : PySem.W.nsIn K mainGlobals "str" = some none)
    (hz_tuple : PySem.W.nsIn K mainGlobals "tuple" = some none)
    (hz_list : PySem.W.nsIn K mainGlobals "list" = some none)
    (hz_len : PySem.W.nsIn K mainGlobals "len" = some none)
    (hz_max : PySem.W.nsIn K mainGlobals "max" = some none)
    (hz_range : PySem.W.nsIn K mainGlobals "range" = some none)
    (hz_enumerate : PySem.W.nsIn K mainGlobals "enumerate" = some none)
    (hz_all : PySem.W.nsIn K mainGlobals "all" = some none) : Txt K mg CB CK CR CT CW CS := ⟨⟨PySem.W.mg_of X G ag_BadNet, hx_BadNet⟩,
    PySem.W.mg_of X G ag_BadNet,
    ⟨PySem.W.mg_of X G ag_BadText, hx_BadText⟩,
    PySem.W.mg_of X G ag_BadText,
    PySem.W.mg_of X G ag_BadKind,
    PySem.W.mg_of X G ag_BadRow,
    PySem.W.mg_of X G ag_Wrong,
    PySem.W.mg_of X G ag_SumError,
    ⟨⟨hq_BadNet0, hq_BadNet1, hq_BadNet2, hq_BadNet3, hq_BadNet4, hq_BadNet5⟩, hq_BadNetk0, hq_BadNetk1, hq_BadNetk2, hq_BadNetk3, hq_BadNetk4, hq_BadNetkv⟩,
    ⟨⟨hq_BadText0, hq_BadText1, hq_BadText2, hq_BadText3, hq_BadText4, hq_BadText5⟩, hq_BadTextk0, hq_BadTextk1, hq_BadTextk2, hq_BadTextk3, hq_BadTextk4, hq_BadTextkv⟩,
    hm_BadNet,
    hm_BadText,
    hn_BadNet,
    PySem.W.mg_none_of X G hz_ValueError,
    ⟨_, PySem.W.mg_of X G hg_MOST_THINGS⟩,
    ⟨_, PySem.W.mg_of X G hg_MOST_STEPS⟩,
    ⟨_, PySem.W.mg_of X G hg_MOST_FIGURES⟩,
    ⟨_, PySem.W.mg_of X G hg_FIGURES⟩,
    PySem.W.mg_none_of X G hz_isinstance,
    PySem.W.mg_none_of X G hz_int,
    PySem.W.mg_none_of X G hz_bool,
    PySem.W.mg_none_of X G hz_str,
    PySem.W.mg_none_of X G hz_tuple,
    PySem.W.mg_none_of X G hz_list,
    PySem.W.mg_none_of X G hz_len,
    PySem.W.mg_none_of X G hz_max,
    PySem.W.mg_none_of X G hz_range,
    PySem.W.mg_none_of X G hz_enumerate,
    PySem.W.mg_none_of X G hz_all⟩
structure Al (K : PySem.W.Frag) (h : Heap) (mg : Str → Option Value) (base : Heap) (CB CK CR CT CW CS : Addr) : Prop where
  X : K.In h
  G : h.Ns mainGlobals mg
  T : Txt K mg CB CK CR CT CW CS
  F : Kfs K
section
variable {l : PySem.W.OpenLaw} {w : World} {K : PySem.W.Frag} {h : Heap} {mg : Str → Option Value} {base : Heap} {CB CK CR CT CW CS : Addr} (A : Al K h mg base CB CK CR CT CW CS)
include A
theorem dm_is_whole : Df l.prog w K mg base "is_whole" 1 ["value"] (spWhole) := KFn.df A.X A.G A.F.fis_whole (fun _ _ _ _ _ _ _ hl => len1 (C := BindQ _ _ _ _ _ _ _ _ _) hl fun _ => rfl) fun _ _ F _ _ _ => ok_is_whole F A.T
theorem dm_is_number : Df l.prog w K mg base "is_number" 1 ["word"] (spIsNum) := KFn.df A.X A.G A.F.fis_number (fun _ _ _ _ _ _ _ hl => len1 (C := BindQ _ _ _ _ _ _ _ _ _) hl fun _ => rfl) fun _ _ F _ _ _ => ok_is_number F A.T
theorem dm__law_cell : Df l.prog w K mg base "_law_cell" 1 ["_law_script", "_law_k"] (spCell K) := KFn.df A.X A.G A.F.f_law_cell (fun _ _ _ _ _ _ _ hl => len2 (C := BindQ _ _ _ _ _ _ _ _ _) hl fun _ _ => rfl) fun _ _ F _ _ _ => ok__law_cell F A.T
theorem dm__law_refusal : Df l.prog w K mg base "_law_refusal" 1 ["_law_kept"] (spRefusalT CB CT) := KFn.df A.X A.G A.F.f_law_refusal (fun _ _ _ _ _ _ _ hl => len1 (C := BindQ _ _ _ _ _ _ _ _ _) hl fun _ => rfl) fun _ _ F _ _ _ => ok__law_refusal F A.T
theorem dm__law_text : Df l.prog w K mg base "_law_text" 1 ["_law_net_here"] (spText) := KFn.df A.X A.G A.F.f_law_text (fun _ _ _ _ _ _ _ hl => len1 (C := BindQ _ _ _ _ _ _ _ _ _) hl fun _ => rfl) fun _ _ F _ _ _ => ok__law_text F A.T
theorem dm__law_numbers : Df l.prog w K mg base "_law_numbers" 1 ["_law_words"] (spNumsL K) := KFn.df A.X A.G A.F.f_law_numbers (fun _ _ _ _ _ _ _ hl => len1 (C := BindQ _ _ _ _ _ _ _ _ _) hl fun _ => rfl) fun _ _ F _ _ _ => ok__law_numbers F A.T
theorem dm_is_within : Df l.prog w K mg base "is_within" 2 ["value", "least", "most"] (spWithin) := KFn.df A.X A.G A.F.fis_within (fun _ _ _ _ _ _ _ hl => len3 (C := BindQ _ _ _ _ _ _ _ _ _) hl fun _ _ _ => rfl) fun _ _ F _ _ _ => ok_is_within F A.T (dm_is_whole A)
theorem dm_read_number : Df l.prog w K mg base "read_number" 2 ["word"] (spRdI CT rdNum) := KFn.df A.X A.G A.F.fread_number (fun _ _ _ _ _ _ _ hl => len1 (C := BindQ _ _ _ _ _ _ _ _ _) hl fun _ => rfl) fun _ _ F _ _ _ => ok_read_number F A.T (dm_is_number A)
theorem dm__law_mix : Df l.prog w K mg base "_law_mix" 2 ["_law_script", "_law_k"] (spMix K) := KFn.df A.X A.G A.F.f_law_mix (fun _ _ _ _ _ _ _ hl => len2 (C := BindQ _ _ _ _ _ _ _ _ _) hl fun _ _ => rfl) fun _ _ F _ _ _ => ok__law_mix F A.T (dm__law_cell A)
theorem dm__law_tried : Df l.prog w K mg base "_law_tried" 2 ["_law_text_here"] (spTried) := KFn.df A.X A.G A.F.f_law_tried (fun _ _ _ _ _ _ _ hl => len1 (C := BindQ _ _ _ _ _ _ _ _ _) hl fun _ => rfl) fun _ _ F _ _ _ => ok__law_tried F A.T (dm__law_numbers A)
theorem dm_is_node : Df l.prog w K mg base "is_node" 3 ["value", "ahead"] (spNode) := KFn.df A.X A.G A.F.fis_node (fun _ _ _ _ _ _ _ hl => len2 (C := BindQ _ _ _ _ _ _ _ _ _) hl fun _ _ => rfl) fun _ _ F _ _ _ => ok_is_node F A.T (dm_is_within A)
theorem dm_look_wide : Df l.prog w K mg base "look_wide" 3 ["wide"] (spWide CB) := KFn.df A.X A.G A.F.flook_wide (fun _ _ _ _ _ _ _ hl => len1 (C := BindQ _ _ _ _ _ _ _ _ _) hl fun _ => rfl) fun _ _ F _ _ _ => ok_look_wide F A.T (dm_is_within A)
theorem dm_read_wide : Df l.prog w K mg base "read_wide" 3 ["row"] (spRdI CT rdWide) := KFn.df A.X A.G A.F.fread_wide (fun _ _ _ _ _ _ _ hl => len1 (C := BindQ _ _ _ _ _ _ _ _ _) hl fun _ => rfl) fun _ _ F _ _ _ => ok_read_wide F A.T (dm_read_number A)
theorem dm_read_step : Df l.prog w K mg base "read_step" 3 ["row"] (spRdS CT) := KFn.df A.X A.G A.F.fread_step (fun _ _ _ _ _ _ _ hl => len1 (C := BindQ _ _ _ _ _ _ _ _ _) hl fun _ => rfl) fun _ _ F _ _ _ => ok_read_step F A.T (dm_read_number A)
theorem dm_read_outs : Df l.prog w K mg base "read_outs" 3 ["row"] (spRdO CT) := KFn.df A.X A.G A.F.fread_outs (fun _ _ _ _ _ _ _ hl => len1 (C := BindQ _ _ _ _ _ _ _ _ _) hl fun _ => rfl) fun _ _ F _ _ _ => ok_read_outs F A.T (dm_read_number A)
theorem dm__law_net : Df l.prog w K mg base "_law_net" 3 ["_law_script", "_law_k", "_law_most"] (spDrawnN K) := KFn.df A.X A.G A.F.f_law_net (fun _ _ _ _ _ _ _ hl => len3 (C := BindQ _ _ _ _ _ _ _ _ _) hl fun _ _ _ => rfl) fun _ _ F _ _ _ => ok__law_net F A.T (dm__law_mix A)
theorem dm_is_step : Df l.prog w K mg base "is_step" 4 ["value", "ahead"] (spStep) := KFn.df A.X A.G A.F.fis_step (fun _ _ _ _ _ _ _ hl => len2 (C := BindQ _ _ _ _ _ _ _ _ _) hl fun _ _ => rfl) fun _ _ F _ _ _ => ok_is_step F A.T (dm_is_node A)
theorem dm_look_outs : Df l.prog w K mg base "look_outs" 4 ["wide", "steps", "outs"] (spOuts CB) := KFn.df A.X A.G A.F.flook_outs (fun _ _ _ _ _ _ _ hl => len3 (C := BindQ _ _ _ _ _ _ _ _ _) hl fun _ _ _ => rfl) fun _ _ F _ _ _ => ok_look_outs F A.T (dm_is_node A)
theorem dm_look_steps : Df l.prog w K mg base "look_steps" 5 ["wide", "steps"] (spSteps CB) := KFn.df A.X A.G A.F.flook_steps (fun _ _ _ _ _ _ _ hl => len2 (C := BindQ _ _ _ _ _ _ _ _ _) hl fun _ _ => rfl) fun _ _ F _ _ _ => ok_look_steps F A.T (dm_is_step A)
theorem dm_look_net : Df l.prog w K mg base "look_net" 6 ["net"] (spLook CB) := KFn.df A.X A.G A.F.flook_net (fun _ _ _ _ _ _ _ hl => len1 (C := BindQ _ _ _ _ _ _ _ _ _) hl fun _ => rfl) fun _ _ F _ _ _ => ok_look_net F A.T (dm_look_wide A) (dm_look_steps A) (dm_look_outs A)
theorem dm_written : Df l.prog w K mg base "written" 7 ["net"] (spWritten CB) := KFn.df A.X A.G A.F.fwritten (fun _ _ _ _ _ _ _ hl => len1 (C := BindQ _ _ _ _ _ _ _ _ _) hl fun _ => rfl) fun _ _ F _ _ _ => ok_written F A.T (dm_look_net A)
theorem dm_read : Df l.prog w K mg base "read" 7 ["text"] (spRead CT) := KFn.df A.X A.G A.F.fread (fun _ _ _ _ _ _ _ hl => len1 (C := BindQ _ _ _ _ _ _ _ _ _) hl fun _ => rfl) fun _ _ F _ _ _ => ok_read F A.T (dm_look_net A) (dm_read_wide A) (dm_read_step A) (dm_read_outs A)
theorem dm__law_is_net : Df l.prog w K mg base "_law_is_net" 7 ["_law_tried_here"] (spIsNetL) := KFn.df A.X A.G A.F.f_law_is_net (fun _ _ _ _ _ _ _ hl => len1 (C := BindQ _ _ _ _ _ _ _ _ _) hl fun _ => rfl) fun _ _ F _ _ _ => ok__law_is_net F A.T (dm_look_net A)
end
theorem all_mk {l : PySem.W.OpenLaw} {w : World} {K : PySem.W.Frag} {h : Heap} {mg : Str → Option Value} {fa : Addr} {CB CK CR CT CW CS : Addr} (X : K.In h) (G : h.Ns mainGlobals mg) (hfa : mg "law" = some (.ref fa)) (T : Txt K mg CB CK CR CT CW CS) (F : Kfs K) :
    ∃ fd : FuncData, (∀ (s : Shared) (v : Value), BindsTo s fd ⟨[v], []⟩ [("_law_script", v)]) ∧ ∀ base : Heap, K.In base → base.Ns mainGlobals mg → FnOk l.prog w K mg base (CX1 l.prog w) 8 fa fd ["_law_script"] (spLaw K) :=
  F.flaw.last X G hfa fun _ _ _ _ _ _ F0 => ⟨fun s v => .of_eq rfl, fun base _ _ => have A : Al K h mg base CB CK CR CT CW CS := ⟨X, G, T, F⟩; ok_law F0 T (dm_written A) (dm_read A) (dm__law_mix A) (dm__law_net A) (dm__law_refusal A) (dm__law_text A) (dm__law_tried A) (dm__law_is_net A)⟩
theorem walk {l : PySem.W.OpenLaw} {q : Program} {loose : List Str} {XP : (Str → Option Value) → Heap → Prop} {YP : World → Heap → Prop} {d : DefRec} {K : Params → PySem.W.Frag} (hn : l.most = some 63) (hdf : d.params.defaults = [])
    (hY : ∀ (w : World) (h : Heap), YP w h → (K w.params).In h)
    (F : ∀ (w : World) (mg : Str → Option Value) (fa : Addr) (h : Heap), (K w.params).In h → h.Ns mainGlobals mg → mg d.name = some (.ref fa) →
      ∃ fd : FuncData, (∀ (s : Shared) (u : Value), BindsTo s fd ⟨[u], []⟩ [("_law_script", u)]) ∧ ∀ base : Heap, (K w.params).In base → base.Ns mainGlobals mg → FnOk l.prog w (K w.params) mg base (CX1 l.prog w) 8 fa fd ["_law_script"] (spLaw (K w.params))) :
    PySem.W.WalkO q loose XP YP l.row.toRowW d [] (fun f vs => PySem.call f vs) :=
  L2.walk_of (n := 63) (k := 8) (x := "_law_script") (CX := fun w => CX1 l.prog w) (sp := fun w => spLaw (K w.params)) hn (by decide) hdf ⟨rfl, by decide, by decide⟩ hY F (fun _ _ a ns hl _ hS => ⟨a, ns, rfl, hS, fun _ => rfl⟩) fun _ _ _ _ _ z => by
    obtain ⟨_, _, _, _, _, _, _, z⟩ := z
    exact z
end K50
open PySem PySem.W PyProof.Rows
set_option maxRecDepth 100000 in
set_option maxHeartbeats 0 in
theorem PySem.Challenge.cw_sumspan_k50_texts_holds : PySem.Challenge.rw_sumspan_k50_texts.Holds := by
  w_on; o_law; k_head; (case hw => w_witness2)
  k_fill
  refine K50.walk (l := PySem.Challenge.rw_sumspan_k50_texts) rfl rfl (fun w h Y => PySem.W.kIn_of Y) ?F
  case F =>
    intro w mg fa h KX G hmg
    refine' K50.all_mk KX G hmg (K50.txt_mk KX G ?ag_BadNet ?ag_BadText ?ag_BadKind ?ag_BadRow ?ag_Wrong ?ag_SumError ?hx_BadNet ?hx_BadText ?hq_BadNet0 ?hq_BadNet1 ?hq_BadNet2 ?hq_BadNet3 ?hq_BadNet4 ?hq_BadNet5 ?hq_BadNetk0 ?hq_BadNetk1 ?hq_BadNetk2 ?hq_BadNetk3 ?hq_BadNetk4 ?hq_BadNetkv ?hq_BadText0 ?hq_BadText1 ?hq_BadText2 ?hq_BadText3 ?hq_BadText4 ?hq_BadText5 ?hq_BadTextk0 ?hq_BadTextk1 ?hq_BadTextk2 ?hq_BadTextk3 ?hq_BadTextk4 ?hq_BadTextkv ?hm_BadNet ?hm_BadText ?hn_BadNet ?hz_ValueError ?hg_MOST_THINGS ?hg_MOST_STEPS ?hg_MOST_FIGURES ?hg_FIGURES ?hz_isinstance ?hz_int ?hz_bool ?hz_str ?hz_tuple ?hz_list ?hz_len ?hz_max ?hz_range ?hz_enumerate ?hz_all) (K50.Kfs.mk ?f_is_whole ?f_is_within ?f_is_node ?f_is_step ?f_look_net ?f_look_wide ?f_look_steps ?f_look_outs ?f_written ?f_read ?f_read_wide ?f_read_step ?f_read_outs ?f_read_number ?f_is_number ?f__law_cell ?f__law_mix ?f__law_net ?f__law_refusal ?f__law_text ?f__law_numbers ?f__law_tried ?f__law_is_net ?f_law)
    (case ag_BadNet => k_is)
    (case ag_BadText => k_is)
    (case ag_BadKind => k_is)
    (case ag_BadRow => k_is)
    (case ag_Wrong => k_is)
    (case ag_SumError => k_is)
    (case hx_BadNet => refine' L2.ExK.mk ?a ?b ?c ?d; (case a => k_is); (case b => first | kernel_rfl | rfl); (case c => first | kernel_rfl | rfl); (case d => k_is))
    (case hx_BadText => refine' L2.ExK.mk ?a ?b ?c ?d; (case a => k_is); (case b => first | kernel_rfl | rfl); (case c => first | kernel_rfl | rfl); (case d => k_is))
    (case hq_BadNet0 => k_is)
    (case hq_BadNet1 => k_is)
    (case hq_BadNet2 => k_is)
    (case hq_BadNet3 => k_is)
    (case hq_BadNet4 => k_is)
    (case hq_BadNet5 => first | kernel_rfl | rfl)
    (case hq_BadNetk0 => first | kernel_rfl | rfl)
    (case hq_BadNetk1 => first | kernel_rfl | rfl)
    (case hq_BadNetk2 => first | kernel_rfl | rfl)
    (case hq_BadNetk3 => first | kernel_rfl | rfl)
    (case hq_BadNetk4 => first | kernel_rfl | rfl)
    (case hq_BadNetkv => first | kernel_rfl | rfl)
    (case hq_BadText0 => k_is)
    (case hq_BadText1 => k_is)
    (case hq_BadText2 => k_is)
    (case hq_BadText3 => k_is)
    (case hq_BadText4 => k_is)
    (case hq_BadText5 => first | kernel_rfl | rfl)
    (case hq_BadTextk0 => first | kernel_rfl | rfl)
    (case hq_BadTextk1 => first | kernel_rfl | rfl)
    (case hq_BadTextk2 => first | kernel_rfl | rfl)
    (case hq_BadTextk3 => first | kernel_rfl | rfl)
    (case hq_BadTextk4 => first | kernel_rfl | rfl)
    (case hq_BadTextkv => first | kernel_rfl | rfl)
    (case hm_BadNet => first | kernel_rfl | rfl)
    (case hm_BadText => first | kernel_rfl | rfl)
    (case hn_BadNet => first | kernel_rfl | rfl)
    (case hz_ValueError => k_is)
    (case hg_MOST_THINGS => k_is)
    (case hg_MOST_STEPS => k_is)
    (case hg_MOST_FIGURES => k_is)
    (case hg_FIGURES => k_is)
    (case hz_isinstance => k_is)
    (case hz_int => k_is)
    (case hz_bool => k_is)
    (case hz_str => k_is)
    (case hz_tuple => k_is)
    (case hz_list => k_is)
    (case hz_len => k_is)
    (case hz_max => k_is)
    (case hz_range => k_is)
    (case hz_enumerate => k_is)
    (case hz_all => k_is)
    (case f_is_whole => refine' L2.KFn.mk ?a ?l ?c ?k; (case a => k_is); (case l => k_is); (case c => k_is); (case k => k_is))
    (case f_is_within => refine' L2.KFn.mk ?a ?l ?c ?k; (case a => k_is); (case l => k_is); (case c => k_is); (case k => k_is))
    (case f_is_node => refine' L2.KFn.mk ?a ?l ?c ?k; (case a => k_is); (case l => k_is); (case c => k_is); (case k => k_is))
    (case f_is_step => refine' L2.KFn.mk ?a ?l ?c ?k; (case a => k_is); (case l => k_is); (case c => k_is); (case k => k_is))
    (case f_look_net => refine' L2.KFn.mk ?a ?l ?c ?k; (case a => k_is); (case l => k_is); (case c => k_is); (case k => k_is))
    (case f_look_wide => refine' L2.KFn.mk ?a ?l ?c ?k; (case a => k_is); (case l => k_is); (case c => k_is); (case k => k_is))
    (case f_look_steps => refine' L2.KFn.mk ?a ?l ?c ?k; (case a => k_is); (case l => k_is); (case c => k_is); (case k => k_is))
    (case f_look_outs => refine' L2.KFn.mk ?a ?l ?c ?k; (case a => k_is); (case l => k_is); (case c => k_is); (case k => k_is))
    (case f_written => refine' L2.KFn.mk ?a ?l ?c ?k; (case a => k_is); (case l => k_is); (case c => k_is); (case k => k_is))
    (case f_read => refine' L2.KFn.mk ?a ?l ?c ?k; (case a => k_is); (case l => k_is); (case c => k_is); (case k => k_is))
    (case f_read_wide => refine' L2.KFn.mk ?a ?l ?c ?k; (case a => k_is); (case l => k_is); (case c => k_is); (case k => k_is))
    (case f_read_step => refine' L2.KFn.mk ?a ?l ?c ?k; (case a => k_is); (case l => k_is); (case c => k_is); (case k => k_is))
    (case f_read_outs => refine' L2.KFn.mk ?a ?l ?c ?k; (case a => k_is); (case l => k_is); (case c => k_is); (case k => k_is))
    (case f_read_number => refine' L2.KFn.mk ?a ?l ?c ?k; (case a => k_is); (case l => k_is); (case c => k_is); (case k => k_is))
    (case f_is_number => refine' L2.KFn.mk ?a ?l ?c ?k; (case a => k_is); (case l => k_is); (case c => k_is); (case k => k_is))
    (case f__law_cell => refine' L2.KFn.mk ?a ?l ?c ?k; (case a => k_is); (case l => k_is); (case c => k_is); (case k => k_is))
    (case f__law_mix => refine' L2.KFn.mk ?a ?l ?c ?k; (case a => k_is); (case l => k_is); (case c => k_is); (case k => k_is))
    (case f__law_net => refine' L2.KFn.mk ?a ?l ?c ?k; (case a => k_is); (case l => k_is); (case c => k_is); (case k => k_is))
    (case f__law_refusal => refine' L2.KFn.mk ?a ?l ?c ?k; (case a => k_is); (case l => k_is); (case c => k_is); (case k => k_is))
    (case f__law_text => refine' L2.KFn.mk ?a ?l ?c ?k; (case a => k_is); (case l => k_is); (case c => k_is); (case k => k_is))
    (case f__law_numbers => refine' L2.KFn.mk ?a ?l ?c ?k; (case a => k_is); (case l => k_is); (case c => k_is); (case k => k_is))
    (case f__law_tried => refine' L2.KFn.mk ?a ?l ?c ?k; (case a => k_is); (case l => k_is); (case c => k_is); (case k => k_is))
    (case f__law_is_net => refine' L2.KFn.mk ?a ?l ?c ?k; (case a => k_is); (case l => k_is); (case c => k_is); (case k => k_is))
    (case f_law => refine' L2.KFn.mk ?a ?l ?c ?k; (case a => k_is); (case l => k_is); (case c => k_is); (case k => k_is))
