import PyProof.Rows.All
import Wide.All
import OpenK.AllK
import Wide.FinOn
import Lean
import PyProof.EqAt
import PyProof.EqKinds
import PyProof.TupleCall
import PySem.Challenge.RW_sumspan_k01_nets
set_option Elab.async false
set_option linter.all false
set_option maxRecDepth 100000
set_option maxHeartbeats 4000000
namespace L2
open PySem PySem.Spec PyProof.Rows
abbrev Key := Sum Int Str
def keyIs : Key → Value → Bool
  | .inl k, v => Value.isInt k v
  | .inr x, v => Value.isStrOf x v
def keyH (w : World) : Key → Int
  | .inl k => hashInt k
  | .inr x => hashStr w x
theorem keyIs_shape : ∀ {k : Key} {v : Value}, keyIs k v = true → (∃ i t, k = Sum.inl i ∧ v = Value.int i t) ∨ (∃ x t, k = Sum.inr x ∧ v = Value.str x t)
  | .inl i, v, h => by
    obtain ⟨t, e⟩ := Value.isInt_shape (k := i) (v := v) h
    exact .inl ⟨i, t, rfl, e⟩
  | .inr x, v, h => by
    obtain ⟨t, e⟩ := Value.isStrOf_shape (x := x) (v := v) h
    exact .inr ⟨x, t, rfl, e⟩
theorem key_ll (a b : Int) : decide ((Sum.inl a : Key) = Sum.inl b) = (a == b) := by
  by_cases e : a = b
  · subst e; simp
  · have h : ¬ (Sum.inl a : Key) = Sum.inl b := fun q => e (Sum.inl.inj q)
    rw [decide_eq_false h]
    exact (beq_eq_false_iff_ne.mpr e).symm
theorem key_rr (a b : Str) : decide ((Sum.inr a : Key) = Sum.inr b) = decide (a = b) := by
  by_cases e : a = b
  · subst e; simp
  · have h : ¬ (Sum.inr a : Key) = Sum.inr b := fun q => e (Sum.inr.inj q)
    rw [decide_eq_false h, decide_eq_false e]
theorem key_lr (a : Int) (b : Str) : decide ((Sum.inl a : Key) = Sum.inr b) = false := decide_eq_false (fun q => nomatch q)
theorem key_rl (a : Str) (b : Int) : decide ((Sum.inr a : Key) = Sum.inl b) = false := decide_eq_false (fun q => nomatch q)
def mixKind (prog : Program) (w : World) : PySem.KeyKind prog w Key where
  is := keyIs
  hash := keyH w
  inj := fun v a b ha hb => by
    rcases keyIs_shape ha with ⟨i, t, rfl, rfl⟩ | ⟨x, t, rfl, rfl⟩
    · rcases keyIs_shape hb with ⟨j, u, rfl, e⟩ | ⟨y, u, rfl, e⟩
      · injection e with e1 _; rw [e1]
      · exact nomatch e
    · rcases keyIs_shape hb with ⟨j, u, rfl, e⟩ | ⟨y, u, rfl, e⟩
      · exact nomatch e
      · injection e with e1 _; rw [e1]
  byValue := fun k v h => by
    rcases keyIs_shape h with ⟨i, t, rfl, rfl⟩ | ⟨x, t, rfl, rfl⟩ <;> rfl
  pyHash := fun hv h => by
    rcases keyIs_shape hv with ⟨i, t, rfl, rfl⟩ | ⟨x, t, rfl, rfl⟩
    · exact wpAny_pyHash_int h
    · exact wpAny_pyHash_str h
  eqBool := fun hu hv h => by
    rcases keyIs_shape hu with ⟨i, t, rfl, rfl⟩ | ⟨x, t, rfl, rfl⟩
    · rcases keyIs_shape hv with ⟨j, u, rfl, rfl⟩ | ⟨y, u, rfl, rfl⟩
      · rw [key_ll] at h; exact wpAny_eqBool_int h
      · rw [key_lr] at h; exact SeqAt.EqAt.int_str i t y u _ _ _ _ h
    · rcases keyIs_shape hv with ⟨j, u, rfl, rfl⟩ | ⟨y, u, rfl, rfl⟩
      · rw [key_rl] at h; exact SeqAt.EqAt.str_int x t j u _ _ _ _ h
      · rw [key_rr] at h; exact wpAny_eqBool_str h
  «strs» := fun k x t v h => by
    rcases keyIs_shape h with ⟨i, u, rfl, e⟩ | ⟨y, u, rfl, e⟩
    · exact nomatch e
    · injection e with e1 _
      subst e1
      cases v <;> rfl
end L2

namespace L2
open PySem PySem.Spec PyProof.Rows
inductive V where
  | non | bl (b : Bool) | int (i : Int) | str (x : Str) | byt (b : Array UInt8) | flt (b : UInt64) | ref (a : Addr) | ty (n : String)
  deriving DecidableEq
def RelV : V → Value → Prop
  | .non, u => u = Value.none
  | .bl b, u => u = Value.bool b
  | .int i, u => ∃ t, u = Value.int i t
  | .str x, u => ∃ t, u = Value.str x t
  | .byt b, u => ∃ t, u = Value.bytes b t
  | .flt b, u => ∃ t, u = Value.float b t
  | .ref a, u => u = Value.ref a
  | .ty n, u => u = Value.type n
abbrev Vals : List V → List Value → Prop := Paired RelV
theorem Vals.length {xs : List V} {us : List Value} (r : Vals xs us) : xs.length = us.length := Paired.length r
theorem Vals.get : ∀ {xs : List V} {us : List Value} {i : Nat} {x : V}, Vals xs us → xs[i]? = some x → ∃ u, us[i]? = some u ∧ RelV x u
  | _, _, _, _, .nil, e => by simp at e
  | _, _, 0, _, .cons r _, e => by simp at e; subst e; exact ⟨_, rfl, r⟩
  | _, _, i + 1, x, .cons _ t, e => by
    obtain ⟨u, h1, h2⟩ := Vals.get (i := i) (x := x) t (by simpa using e)
    exact ⟨u, by simpa using h1, h2⟩
theorem Vals.set {x : V} {u : Value} (r : RelV x u) : ∀ {xs : List V} {us : List Value} (i : Nat), Vals xs us → Vals (xs.set i x) (us.set i u)
  | _, _, _, .nil => .nil
  | _, _, 0, .cons _ t => .cons r t
  | _, _, i + 1, .cons q t => .cons q (Vals.set r i t)
theorem Vals.append : ∀ {xs ys : List V} {us ws : List Value}, Vals xs us → Vals ys ws → Vals (xs ++ ys) (us ++ ws)
  | _, _, _, _, .nil, s => s
  | _, _, _, _, .cons r t, s => .cons r (Vals.append t s)
theorem Vals.take : ∀ {xs : List V} {us : List Value} (n : Nat), Vals xs us → Vals (xs.take n) (us.take n)
  | _, _, 0, _ => .nil
  | _, _, _ + 1, .nil => .nil
  | _, _, n + 1, .cons r t => .cons r (Vals.take n t)
theorem Vals.drop : ∀ {xs : List V} {us : List Value} (n : Nat), Vals xs us → Vals (xs.drop n) (us.drop n)
  | _, _, 0, r => r
  | _, _, _ + 1, .nil => .nil
  | _, _, n + 1, .cons _ t => Vals.drop n t
def RelO : Option V → Option Value → Prop
  | some v, some u => RelV v u
  | none, none => True
  | _, _ => False
def KV {κ : Type} : List (κ × V) → List (κ × Value) → Prop := Paired fun (p : κ × V) (q : κ × Value) => p.1 = q.1 ∧ RelV p.2 q.2
def kV : Key → V
  | .inl i => .int i
  | .inr x => .str x
inductive HO where
  /-- a list -/
  | lst (xs : List V)
  /-- a tuple (never changes) -/
  | tup (xs : List V)
  /-- a dict whose keys are ints and texts; one whose keys are tuples of ints and texts (the empty one is both) -/
  | dK (kvs : List (Key × V)) | dT (kvs : List (List Key × V))
  /-- a set of ints: its members, its size -/
  | set (S : Int → Bool) (n : Nat)
  /-- an instance of the class at C, its dict at dx, its attributes -/
  | ins (C dx : Addr) (fs : List (Str × V))
  /-- the dict of the instance at x -/
  | own (x : Addr)
  /-- the dict of an exception -/
  | xd (fs : List (Str × V))
  /-- a bound method, f of x -/
  | met (f x : Addr)
  /-- a range object lo, lo + 1, .. below hi -/
  | rng (lo hi : Int)
  /-- a thing that is known to the object (the script; a dict while a loop walks it): read, never written while it is so -/
  | frz (o : Obj) (u : HO)
  /-- a code object's table -/
  | tbl (ps : Array Value)
  /-- any other thing, by what is true of its one object (a def of one's own: SetO a S n := HO.ext fun h => ..) -/
  | ext (φ : Heap → Prop)
abbrev Hp := Addr → Option HO
def upd (H : Hp) (a : Addr) (o : HO) : Hp := fun b => if b = a then some o else H b
theorem upd_same {H : Hp} {a : Addr} {o : HO} : upd H a o a = some o := by unfold upd; rw [if_pos rfl]
theorem upd_ne {H : Hp} {a b : Addr} {o : HO} (h : b ≠ a) : upd H a o b = H b := by unfold upd; rw [if_neg h]
theorem ne_of {H : Hp} {a b : Addr} {o u : HO} (h : H a = some o) (h' : H b = some u) (d : o ≠ u) : a ≠ b := by
  intro e; subst e; rw [h] at h'; exact d (Option.some.inj h')
theorem ne_of_none {H : Hp} {a b : Addr} {o : HO} (h : H a = some o) (h' : H b = none) : a ≠ b := by
  intro e; subst e; rw [h] at h'; cases h'
section
variable (P : Program) (w : World)
def ObjOk (H : Hp) (h : Heap) (a : Addr) : HO → Prop
  | .lst xs => xs.length ≤ sizeLine ∧ ∃ (its : List Value) (n : Nat), Vals xs its ∧ h.get? a = some { cls := .type "list", data := .seq its.toArray n }
  | .tup xs => xs.length ≤ sizeLine ∧ ∃ its : List Value, Vals xs its ∧ IsTup h a its.toArray
  | .dK kvs => kvs.length ≤ sizeLine ∧ (a == sysModules) = false ∧ ∃ vs, KV kvs vs ∧ h.DictOf (mixKind P w) a vs
  | .dT kvs => kvs.length ≤ sizeLine ∧ (a == sysModules) = false ∧ ∃ xs : List (List Key × Addr × Value),
      Paired (fun (p : List Key × V) (q : List Key × Addr × Value) => p.1 = q.1 ∧ H q.2.1 = some (.tup (p.1.map kV)) ∧ RelV p.2 q.2.2) kvs xs ∧
      ∃ o es ep, h.get? a = some o ∧ o.ExactDict ∧ o.data = .dict es ep ∧ es.toList = xs.map (entryOfKey (tupleKind (mixKind P w))) ∧ (xs.map (·.1)).Nodup
  | .set S n => h.SetOf (intKind P w) a S n
  | .ins C dx fs => H dx = some (.own a) ∧ fs.length ≤ 1000 ∧ dx ≠ a ∧ h.get? a = some (PySem.W.instObj C dx) ∧
      ∃ mA, h.Ns1 dx mA ∧ (∀ f, RelO (fs.lookup f) (mA f)) ∧ PySem.Within mA (fs.map (·.1))
  | .own _ => ∃ o, h.get? a = some o
  | .xd fs => ∃ mA, h.Ns1 a mA ∧ ∀ f, RelO (fs.lookup f) (mA f)
  | .rng lo hi => ∃ t u v, h.get? a = some { cls := .type "range", data := .fields #[.int lo t, .int hi u, .int 1 v] }
  | .frz o u => h.get? a = some o ∧ ObjOk H h a u
  | .tbl ps => h.get? a = some { cls := .none, data := .fields ps }
  | .met f x => h.get? a = some (PySem.W.methodObj (.ref f) (.ref x))
  | .ext φ => φ h ∧ (∃ o, h.get? a = some o) ∧ ∀ h1 h2 : Heap, φ h1 → (∀ o, h1.get? a = some o → h2.get? a = some o) → φ h2
def HOk (H : Hp) (h : Heap) : Prop := ∀ a o, H a = some o → ObjOk P w H h a o
end

section
variable {P : Program} {w : World} {H H' : Hp} {h h' : Heap} {a : Addr} {o : HO}
theorem ObjOk.lt (x : ObjOk P w H h a o) : a < h.objs.size := by
  cases o with
  | lst xs => obtain ⟨_, _, _, _, e⟩ := x; exact Heap.lt_size e
  | tup xs => obtain ⟨_, _, _, p⟩ := x; exact p.lt
  | dK kvs => obtain ⟨_, _, _, _, o, _, _, e, _⟩ := x; exact Heap.lt_size e
  | dT kvs => obtain ⟨_, _, _, _, o, _, _, e, _⟩ := x; exact Heap.lt_size e
  | set S n => obtain ⟨o, _, _, _, e, _⟩ := x; exact Heap.lt_size e
  | ins C dx fs => obtain ⟨_, _, _, e, _⟩ := x; exact Heap.lt_size e
  | own y => obtain ⟨_, e⟩ := x; exact Heap.lt_size e
  | xd fs => obtain ⟨_, ⟨_, _, _, e, _⟩, _⟩ := x; exact Heap.lt_size e
  | rng lo hi => obtain ⟨_, _, _, e⟩ := x; exact Heap.lt_size e
  | frz ob u => obtain ⟨e, _⟩ := x; exact Heap.lt_size e
  | tbl ps => exact Heap.lt_size (show h.get? a = some _ from x)
  | met f y => exact Heap.lt_size (show h.get? a = some _ from x)
  | ext φ => obtain ⟨_, ⟨_, e⟩, _⟩ := x; exact Heap.lt_size e
theorem Paired.mapP {α β : Type} {F G : α → β → Prop} : ∀ {l₁ : List α} {l₂ : List β}, Paired F l₁ l₂ → (∀ a b, F a b → G a b) → Paired G l₁ l₂
  | _, _, .nil, _ => .nil
  | _, _, .cons r t, f => .cons (f _ _ r) (Paired.mapP t f)
theorem ObjOk.stay (x : ObjOk P w H h a o) (k : ∀ b u, (b = a ∨ H b = some (.own a)) → h.get? b = some u → h'.get? b = some u)
    (ho : ∀ b, H b = some (.own a) → H' b = some (.own a)) (ht : ∀ b xs, H b = some (.tup xs) → H' b = some (.tup xs)) : ObjOk P w H' h' a o := by
  induction o with
  | lst xs => obtain ⟨z, its, n, r, e⟩ := x; exact ⟨z, its, n, r, k _ _ (.inl rfl) e⟩
  | tup xs => obtain ⟨z, its, r, ob, e, c⟩ := x; exact ⟨z, its, r, ob, k _ _ (.inl rfl) e, c⟩
  | dK kvs => obtain ⟨z, y, vs, r, ob, es, ep, e, c⟩ := x; exact ⟨z, y, vs, r, ob, es, ep, k _ _ (.inl rfl) e, c⟩
  | dT kvs =>
    obtain ⟨z, y, xs, r, ob, es, ep, e, c⟩ := x
    exact ⟨z, y, xs, Paired.mapP r fun p q z => ⟨z.1, ht _ _ z.2.1, z.2.2⟩, ob, es, ep, k _ _ (.inl rfl) e, c⟩
  | set S n => obtain ⟨ob, es, ep, t, e, c⟩ := x; exact ⟨ob, es, ep, t, k _ _ (.inl rfl) e, c⟩
  | ins C dx fs =>
    obtain ⟨d, z, ne, e, mA, ⟨od, es, ep, e2, c⟩, r⟩ := x
    exact ⟨ho _ d, z, ne, k _ _ (.inl rfl) e, mA, ⟨od, es, ep, k _ _ (.inr d) e2, c⟩, r⟩
  | own y => obtain ⟨ob, e⟩ := x; exact ⟨ob, k _ _ (.inl rfl) e⟩
  | xd fs => obtain ⟨mA, ⟨od, es, ep, e, c⟩, r⟩ := x; exact ⟨mA, ⟨od, es, ep, k _ _ (.inl rfl) e, c⟩, r⟩
  | rng lo hi => obtain ⟨t, u, v, e⟩ := x; exact ⟨t, u, v, k _ _ (.inl rfl) e⟩
  | frz ob u ih => obtain ⟨e, q⟩ := x; exact ⟨k _ _ (.inl rfl) e, ih q⟩
  | tbl ps =>
    have e : h.get? a = some { cls := .none, data := .fields ps } := x
    show h'.get? a = some { cls := .none, data := .fields ps }
    exact k a _ (.inl rfl) e
  | met f y =>
    have e : h.get? a = some (PySem.W.methodObj (.ref f) (.ref y)) := x
    show h'.get? a = some (PySem.W.methodObj (.ref f) (.ref y))
    exact k a _ (.inl rfl) e
  | ext φ => obtain ⟨p, ⟨o, e⟩, st⟩ := x; exact ⟨st _ _ p fun o q => k _ _ (.inl rfl) q, ⟨o, k _ _ (.inl rfl) e⟩, st⟩
theorem HOk.lt (x : HOk P w H h) (e : H a = some o) : a < h.objs.size := (x a o e).lt
theorem HOk.fresh (x : HOk P w H h) (e : h.objs.size ≤ a) : H a = none := by
  cases q : H a with
  | none => rfl
  | some u => exact absurd (Nat.lt_of_lt_of_le (x.lt q) e) (Nat.lt_irrefl _)
theorem HOk.kept (x : HOk P w H h) (k : ∀ b u, h.get? b = some u → h'.get? b = some u) : HOk P w H h' := fun a o e =>
  (x a o e).stay (fun b u _ q => k b u q) (fun _ q => q) fun _ _ q => q
theorem HOk.laid (x : HOk P w H h) (k : ∀ b u, h.get? b = some u → h'.get? b = some u) (hp : h.objs.size ≤ a) (new : ObjOk P w (upd H a o) h' a o) : HOk P w (upd H a o) h' := fun b u e => by
  have hn := x.fresh hp
  by_cases hb : b = a
  · subst hb; rw [upd_same] at e; cases e; exact new
  · rw [upd_ne hb] at e
    exact (x b u e).stay (fun c v _ q => k c v q) (fun c q => by rw [upd_ne (ne_of_none q hn)]; exact q) fun c xs q => by rw [upd_ne (ne_of_none q hn)]; exact q
end

def Rd (H : Hp) (a : Addr) (u : HO) : Prop := H a = some u ∨ ∃ o, H a = some (.frz o u)
theorem Rd.ok {P : Program} {w : World} {H : Hp} {h : Heap} {a : Addr} {u : HO} (r : Rd H a u) (x : HOk P w H h) : ObjOk P w H h a u := by
  rcases r with r | ⟨o, r⟩
  · exact x a u r
  · obtain ⟨_, q⟩ := x a _ r
    exact q
def Mut : Option HO → Prop
  | some (.lst _) => True
  | some (.dK _) => True
  | some (.dT _) => True
  | some (.set _ _) => True
  | some (.ins _ _ _) => True
  | some (.ext _) => True
  | _ => False
section
variable {P : Program} {w : World} {H : Hp} {h h' : Heap} {x e : Addr} {o' : HO}
theorem HOk.write (ok : HOk P w H h) (mu : Mut (H x)) (he : e = x ∨ H e = some (.own x)) (k : ∀ b u, b ≠ e → h.get? b = some u → h'.get? b = some u) (heo : ∃ u, h'.get? e = some u)
    (new : ObjOk P w (upd H x o') h' x o') : HOk P w (upd H x o') h' := fun b u q => by
  have nown : ∀ c y, H c = some (.own y) → c ≠ x := fun c y r z => by subst z; rw [r] at mu; exact mu
  have ntup : ∀ c xs, H c = some (.tup xs) → c ≠ x := fun c xs r z => by subst z; rw [r] at mu; exact mu
  by_cases hb : b = x
  · subst hb; rw [upd_same] at q; cases q; exact new
  · rw [upd_ne hb] at q
    by_cases hbe : b = e
    · have q' : H b = some (.own x) := by
        rcases he with z | z
        · exact absurd (hbe.trans z) hb
        · rw [hbe]; exact z
      rw [q] at q'; cases q'
      obtain ⟨v, hv⟩ := heo
      exact ⟨v, by rw [hbe]; exact hv⟩
    · refine (ok b u q).stay (fun c v hc r => k c v ?_ r) (fun c r => by rw [upd_ne (nown c b r)]; exact r) fun c xs r => by rw [upd_ne (ntup c xs r)]; exact r
      rcases hc with rfl | hc
      · exact hbe
      · rintro rfl
        rcases he with z | z
        · exact nown c b hc z
        · rw [hc] at z; cases z; exact hb rfl
end

structure Un (fs ex : List Addr) (H H' : Hp) (h h' : Heap) : Prop where
  keep : ∀ b o, h.get? b = some o → H b = none → b ∉ fs → b ∉ ex → h'.get? b = some o
  slot : ∀ b o, h.get? b = some o → H b = none → b ∈ fs → b ∉ ex → ∃ sl, h'.get? b = some { o with slots := sl }
  free : ∀ b o, h.get? b = some o → H b = none → b ∉ ex → H' b = none
  there : ∀ b o, h.get? b = some o → b ∉ ex → ∃ o', h'.get? b = some o'
  tups : ∀ b xs, H b = some (.tup xs) → H' b = some (.tup xs)
  frzs : ∀ b o u, H b = some (.frz o u) → H' b = some (.frz o u)
  tbls : ∀ b ps, H b = some (.tbl ps) → ∃ more, H' b = some (.tbl (ps ++ more))
section
variable {fs fs' ex ex' : List Addr} {H H1 H2 : Hp} {h h1 h2 h' : Heap} {a x e : Addr} {o : HO}
theorem Un.any (u : Un fs ex H H1 h h1) {b : Addr} {ob : Obj} (q : h.get? b = some ob) (n : H b = none) (hx : b ∉ ex) : ∃ sl, h1.get? b = some { ob with slots := sl } := by
  by_cases hb : b ∈ fs
  · exact u.slot b ob q n hb hx
  · exact ⟨ob.slots, u.keep b ob q n hb hx⟩
theorem Un.kept (k : ∀ b u, h.get? b = some u → h'.get? b = some u) : Un fs ex H H h h' :=
  ⟨fun b ob q _ _ _ => k b ob q, fun b ob q _ _ _ => ⟨ob.slots, k b ob q⟩, fun _ _ _ n _ => n, fun b ob q _ => ⟨ob, k b ob q⟩, fun _ _ q => q, fun _ _ _ q => q, fun _ ps q => ⟨#[], by rw [q]; simp⟩⟩
theorem Un.refl : Un fs ex H H h h := Un.kept fun _ _ q => q
theorem Un.laid (k : ∀ b u, h.get? b = some u → h'.get? b = some u) (hp : h.objs.size ≤ a) (hn : H a = none) : Un fs ex H (upd H a o) h h' where
  keep := fun b u q _ _ _ => k b u q
  slot := fun b u q _ _ _ => ⟨u.slots, k b u q⟩
  free := fun b u q n _ => by rw [upd_ne (Nat.ne_of_lt (Nat.lt_of_lt_of_le (Heap.lt_size q) hp))]; exact n
  there := fun b u q _ => ⟨u, k b u q⟩
  tups := fun b xs q => by rw [upd_ne (ne_of_none q hn)]; exact q
  frzs := fun b u xs q => by rw [upd_ne (ne_of_none q hn)]; exact q
  tbls := fun b ps q => ⟨#[], by rw [upd_ne (ne_of_none q hn), q]; simp⟩
theorem Un.write (mu : Mut (H x)) (he : e = x ∨ H e = some (.own x)) (k : ∀ b u, b ≠ e → h.get? b = some u → h'.get? b = some u) (heo : ∃ u, h'.get? e = some u) : Un fs ex H (upd H x o) h h' := by
  have hx : ∀ b, H b = none → b ≠ x := fun b n z => by subst z; rw [n] at mu; exact mu
  have hb : ∀ b, H b = none → b ≠ e := fun b n z => by
    subst z
    rcases he with r | r
    · exact hx b n r
    · rw [n] at r; cases r
  have hm : ∀ b u, H b = some u → ¬ Mut (some u) → b ≠ x := fun b u q nm z => by subst z; rw [q] at mu; exact nm mu
  refine ⟨fun b u q n _ _ => k b u (hb b n) q, fun b u q n _ _ => ⟨u.slots, k b u (hb b n) q⟩, fun b u q n _ => by rw [upd_ne (hx b n)]; exact n, fun b u q _ => ?_,
    fun b xs q => by rw [upd_ne (hm b _ q fun z => z)]; exact q, fun b u xs q => by rw [upd_ne (hm b _ q fun z => z)]; exact q, fun b ps q => ⟨#[], by rw [upd_ne (hm b _ q fun z => z), q]; simp⟩⟩
  by_cases hbe : b = e
  · subst hbe; exact heo
  · exact ⟨u, k b u hbe q⟩
end

def trk (h : Heap) (H : Hp) : List Addr := (List.range h.objs.size).filter fun a => (H a).isSome
def hidT (h : Heap) (H : Hp) : Heap := PySem.W.hideAll h (trk h H)
theorem hidT_size (h : Heap) (H : Hp) : (hidT h H).objs.size = h.objs.size := PySem.W.hideAll_size _ _
theorem hidT_get {h : Heap} {H : Hp} {b : Addr} {o : Obj} (e : h.get? b = some o) (n : H b = none) : (hidT h H).get? b = some o :=
  PySem.W.hideAll_get _ e fun hm => by
    have q : (H b).isSome = true := (List.mem_filter.mp hm).2
    rw [n] at q; simp at q
theorem of_hidT {h : Heap} {H : Hp} {b : Addr} {o : Obj} (e : (hidT h H).get? b = some o) : h.get? b = some o ∧ H b = none := by
  have e' : h.get? b = some o := PySem.W.of_hideAll (trk h H) e
  refine ⟨e', ?_⟩
  cases q : H b with
  | none => rfl
  | some x =>
    have hm : b ∈ trk h H := List.mem_filter.mpr ⟨List.mem_range.mpr (Heap.lt_size e'), by simp [q]⟩
    have z : (hidT h H).get? b = none := PySem.W.hideAll_none (trk h H) hm
    rw [z] at e; cases e
end L2

namespace L2
open PySem PySem.Spec PyProof.Rows
structure Mod (K : PySem.W.Frag) (mg : Str → Option Value) (base : Heap) : Prop where
  kin : K.In base
  glob : base.Ns mainGlobals mg
  blt : ∃ mb, base.Ns builtinsNs mb ∧ ∀ x : Str, x ≠ "__name__" → mb x = bootBuiltins x
  nolimit : base.NoLimit
structure Cx where
  prog : Program
  w : World
  K : PySem.W.Frag
  mg : Str → Option Value
  base : Heap
  A : Around
  N : List Str
  s₀ : Shared
  H₀ : Hp
  env : Env
  outer : List Env
  stack : List Env
  ex : List Addr
  fn : Str → Bool
  calm : Bool
  pn : List (Addr × Obj)
  xe : Value → Shared → Prop
def frs (l : List Env) : List Addr := l.filterMap (·.frame)
abbrev Cx.fs (X : Cx) : List Addr := frs X.outer
def Vis (sc : Scope) (x : Str) : Prop := sc.names.lookup x = some .local ∨ sc.names.lookup x = some .cell ∨ sc.names.lookup x = some .free
def Loc (sc : Scope) (x : Str) : Prop := sc.names.lookup x = some .local ∨ sc.names.lookup x = some .cell
def Look (env : Env) (h : Heap) (m : Str → Option Value) (x : Str) (u : Value) : Prop :=
  (env.kindOf x = some .local ∧ m x = some u) ∨ ((env.kindOf x = some .cell ∨ env.kindOf x = some .free) ∧ ∃ c, env.cells.lookup x = some c ∧ h.IsCell c (some u))
structure Cx.Ok (X : Cx) : Prop where
  mod : Mod X.K X.mg X.base
  kind : X.env.scope.kind = .function
  glob : X.env.globals = mainGlobals
  blt : X.env.builtins = builtinsNs
  above : X.s₀.heap.objs.size ≤ X.env.locals
  inj : ∀ x y c, X.env.cells.lookup x = some c → X.env.cells.lookup y = some c → x = y
  has : ∀ x, (X.env.kindOf x = some .cell ∨ X.env.kindOf x = some .free) → ∃ c, X.env.cells.lookup x = some c
  cab : ∀ x c, X.fn x = true → X.env.cells.lookup x = some c → X.s₀.heap.objs.size ≤ c
  hd : X.calm = true → X.A.handled = none
  frames : X.A.frames = some X.stack
  stk : X.stack = X.outer ∨ (X.stack = X.env :: X.outer ∧ X.env.frame = some X.env.locals)
  exf : ∀ b ∈ X.ex, b ≠ X.env.locals ∧ ∀ x c, X.env.cells.lookup x = some c → c ≠ b
  bs : ∀ b o, X.base.get? b = some o → X.s₀.heap.get? b = some o ∧ X.H₀ b = none
  bsz : X.base.objs.size ≤ X.s₀.heap.objs.size
  noex : ∀ b o, X.base.get? b = some o → b ∉ X.ex
  exfs : ∀ b ∈ X.ex, b ∉ X.fs
  funs : X.s₀.heap.FunFrames X.base X.outer
  frf : ∀ b ∈ X.fs, X.H₀ b = none
structure Inv (X : Cx) (pins : List (Addr × Obj)) (σ : List (Option V)) (H : Hp) (s : Shared) : Prop where
  ok : X.Ok
  os : s.os = X.s₀.os
  bare : AllBare s.gens
  base : Un X.fs X.ex X.H₀ H X.s₀.heap s.heap
  loc : ∃ m, s.heap.Ns X.env.locals m ∧ ∀ (i : Nat) (x : Str) (v : V), X.N[i]? = some x → σ[i]? = some (some v) → Vis X.env.scope x → ∃ u, RelV v u ∧ Look X.env s.heap m x u
  cell : ∀ x c, X.env.cells.lookup x = some c → ∃ v, s.heap.IsCell c v
  free : H X.env.locals = none
  freeC : ∀ x c, X.env.cells.lookup x = some c → H c = none
  pin : ∀ p ∈ X.pn ++ pins, s.heap.get? p.1 = some p.2 ∧ H p.1 = none ∧ p.1 ≠ X.env.locals ∧ p.1 ∉ X.fs ∧ ∀ v, p.2.data ≠ .cell v
  hok : HOk X.prog X.w H s.heap
  len : σ.length = X.N.length
section
variable {X : Cx} {pins : List (Addr × Obj)} {σ : List (Option V)} {H H' : Hp} {s : Shared} {h' : Heap}
theorem Cx.Ok.nofr (ok : X.Ok) {b : Addr} {o : Obj} (e : X.base.get? b = some o) : b ∉ X.fs := fun hb => by
  have := (ok.funs.mem hb).1
  rw [e] at this; cases this
theorem Inv.bs (I : Inv X pins σ H s) : ∀ b o, X.base.get? b = some o → s.heap.get? b = some o ∧ H b = none := fun b o e =>
  ⟨I.base.keep b o (I.ok.bs b o e).1 (I.ok.bs b o e).2 (I.ok.nofr e) (I.ok.noex b o e), I.base.free b o (I.ok.bs b o e).1 (I.ok.bs b o e).2 (I.ok.noex b o e)⟩
theorem Inv.bk (I : Inv X pins σ H s) : ∀ b o, X.base.get? b = some o → s.heap.get? b = some o := fun b o e => (I.bs b o e).1
theorem Inv.mod (I : Inv X pins σ H s) : Mod X.K X.mg X.base := I.ok.mod
theorem Inv.kIn (I : Inv X pins σ H s) : X.K.In s.heap := I.ok.mod.kin.keeps I.bk
theorem Inv.lt (I : Inv X pins σ H s) : X.env.locals < s.heap.objs.size := let ⟨_, hn, _⟩ := I.loc; hn.lt
theorem Inv.sz (I : Inv X pins σ H s) : X.s₀.heap.objs.size ≤ s.heap.objs.size := Nat.le_trans I.ok.above (Nat.le_of_lt I.lt)
theorem Inv.nofs (I : Inv X pins σ H s) {a : Addr} (h : s.heap.objs.size ≤ a) : a ∉ X.fs := fun hb => by
  obtain ⟨_, o, ho, _⟩ := I.ok.funs.mem hb
  exact absurd (Nat.lt_of_lt_of_le (Heap.lt_size ho) (Nat.le_trans I.sz h)) (Nat.lt_irrefl _)
theorem Inv.cne (I : Inv X pins σ H s) : ∀ x c, X.env.cells.lookup x = some c → c ≠ X.env.locals := fun x c e z => by
  obtain ⟨v, o, ho, hd⟩ := I.cell x c e
  obtain ⟨m, ⟨o', es, ep, ho', hd', _⟩, _⟩ := I.loc
  rw [z, ho'] at ho; cases ho; rw [hd'] at hd; cases hd
theorem Inv.funs (I : Inv X pins σ H s) : s.heap.FunFrames X.base X.outer := by
  have all : ∀ (l : List Env), (∀ b ∈ frs l, b ∈ X.fs) → X.s₀.heap.FunFrames X.base l → s.heap.FunFrames X.base l := by
    intro l
    induction l with
    | nil => intro _ _; trivial
    | cons env r ih =>
      intro hs hl
      obtain ⟨hk, ⟨L, o, hf, hn, ho, hd⟩, hr⟩ := hl
      have hL : L ∈ X.fs := hs L (by unfold frs; rw [List.filterMap_cons, hf]; exact List.mem_cons_self)
      obtain ⟨sl, e⟩ := I.base.slot L o ho (I.ok.frf L hL) hL fun z => I.ok.exfs L z hL
      exact ⟨hk, ⟨L, _, hf, hn, e, hd⟩, ih (fun b hb => hs b (by unfold frs; rw [List.filterMap_cons, hf]; exact List.mem_cons_of_mem _ hb)) hr⟩
  exact all X.outer (fun _ hb => hb) I.ok.funs
theorem Inv.stack (I : Inv X pins σ H s) : s.heap.FunFrames X.base X.stack := by
  rcases I.ok.stk with e | ⟨e, hf⟩
  · rw [e]; exact I.funs
  · rw [e]
    obtain ⟨m, hn, _⟩ := I.loc
    refine .cons (by rw [I.ok.kind]; decide) hf hn ?_ I.funs
    exact Heap.get?_none_of_le (Nat.le_trans I.ok.bsz I.ok.above)
theorem Inv.stkSub (I : Inv X pins σ H s) : ∀ b ∈ frs X.stack, b ∈ X.env.locals :: X.fs := fun b hb => by
  rcases I.ok.stk with e | ⟨e, hf⟩
  · rw [e] at hb; exact List.mem_cons_of_mem _ hb
  · rw [e] at hb
    unfold frs at hb
    rw [List.filterMap_cons, hf] at hb
    exact hb
theorem Inv.stkFree (I : Inv X pins σ H s) : ∀ b ∈ frs X.stack, H b = none := fun b hb => by
  rcases List.mem_cons.mp (I.stkSub b hb) with e | hb
  · rw [e]; exact I.free
  · obtain ⟨_, o, ho, _⟩ := I.ok.funs.mem hb
    exact I.base.free b o ho (I.ok.frf b hb) fun z => I.ok.exfs b z hb
theorem Inv.step {g' : Array GenState} {t' : Nat} {d' : Drawn} {ch : List Addr} (I : Inv X pins σ H s)
    (hch : ∀ b ∈ ch, (b ∈ X.ex ∨ X.s₀.heap.objs.size ≤ b) ∧ b ≠ X.env.locals ∧ (∀ x c, X.env.cells.lookup x = some c → c ≠ b) ∧ ∀ p ∈ X.pn ++ pins, p.1 ≠ b)
    (keep : ∀ b o, b ≠ X.env.locals → b ∉ X.fs → b ∉ ch → s.heap.get? b = some o → H b = none → h'.get? b = some o)
    (slot : ∀ b o, b ≠ X.env.locals → b ∈ X.fs → b ∉ ch → s.heap.get? b = some o → H b = none → ∃ sl, h'.get? b = some { o with slots := sl }) (free : ∀ b o, b ∉ ch → s.heap.get? b = some o → H b = none → H' b = none)
    (there : ∀ b o, b ∉ ch → s.heap.get? b = some o → ∃ o', h'.get? b = some o')
    (tups : ∀ b xs, H b = some (.tup xs) → H' b = some (.tup xs)) (frzs : ∀ b o u, H b = some (.frz o u) → H' b = some (.frz o u)) (tbls : ∀ b ps, H b = some (.tbl ps) → ∃ more, H' b = some (.tbl (ps ++ more)))
    (ns : ∀ m, s.heap.Ns X.env.locals m → h'.Ns X.env.locals m) (hok : HOk X.prog X.w H' h') (hg : AllBare g') :
    Inv X pins σ H' { s with heap := h', gens := g', drawn := d', toks := t' } := by
  have neL : ∀ b o, X.s₀.heap.get? b = some o → b ≠ X.env.locals := fun b o e => Nat.ne_of_lt (Nat.lt_of_lt_of_le (Heap.lt_size e) I.ok.above)
  have neC : ∀ b o, X.s₀.heap.get? b = some o → b ∉ X.ex → b ∉ ch := fun b o e hx hb => by
    rcases (hch b hb).1 with z | z
    · exact hx z
    · exact absurd (Nat.lt_of_lt_of_le (Heap.lt_size e) z) (Nat.lt_irrefl _)
  have cellK : ∀ x c, X.env.cells.lookup x = some c → ∀ v, s.heap.IsCell c v → h'.IsCell c v := fun x c e v ⟨o, ho, hd⟩ => by
    have nch : c ∉ ch := fun z => (hch c z).2.2.1 x c e rfl
    by_cases hc : c ∈ X.fs
    · obtain ⟨sl, q⟩ := slot c o (I.cne x c e) hc nch ho (I.freeC x c e)
      exact ⟨_, q, hd⟩
    · exact ⟨o, keep c o (I.cne x c e) hc nch ho (I.freeC x c e), hd⟩
  refine ⟨I.ok, I.os, hg, ⟨fun b o e n hb hx => ?_, fun b o e n hb hx => ?_, fun b o e n hx => ?_, fun b o e hx => ?_, fun b xs e => tups b xs (I.base.tups b xs e), fun b o xs e => frzs b o xs (I.base.frzs b o xs e), fun b ps e => ?_⟩, ?_, fun x c e => ?_, ?_, fun x c e => ?_, fun p hp => ?_, hok, I.len⟩
  · exact keep b o (neL b o e) hb (neC b o e hx) (I.base.keep b o e n hb hx) (I.base.free b o e n hx)
  · obtain ⟨sl, e1⟩ := I.base.slot b o e n hb hx
    obtain ⟨sl', e2⟩ := slot b _ (neL b o e) hb (neC b o e hx) e1 (I.base.free b o e n hx)
    exact ⟨sl', e2⟩
  · obtain ⟨o', e1⟩ := I.base.there b o e hx
    exact free b o' (neC b o e hx) e1 (I.base.free b o e n hx)
  · obtain ⟨o', e1⟩ := I.base.there b o e hx
    exact there b o' (neC b o e hx) e1
  · obtain ⟨m1, e1⟩ := I.base.tbls b ps e
    obtain ⟨m2, e2⟩ := tbls b _ e1
    exact ⟨m1 ++ m2, by rw [e2, Array.append_assoc]⟩
  · obtain ⟨m, hn, hl⟩ := I.loc
    refine ⟨m, ns m hn, fun i x v e1 e2 e3 => ?_⟩
    obtain ⟨u, r, l⟩ := hl i x v e1 e2 e3
    refine ⟨u, r, ?_⟩
    rcases l with l | ⟨k, c, e, z⟩
    · exact .inl l
    · exact .inr ⟨k, c, e, cellK x c e _ z⟩
  · obtain ⟨v, z⟩ := I.cell x c e
    exact ⟨v, cellK x c e v z⟩
  · obtain ⟨m, ⟨o, _, _, ho, _⟩, _⟩ := I.loc
    exact free _ o (fun z => (hch _ z).2.1 rfl) ho I.free
  · obtain ⟨v, o, ho, hd⟩ := I.cell x c e
    exact free c o (fun z => (hch c z).2.2.1 x c e rfl) ho (I.freeC x c e)
  · obtain ⟨e, n, ne, nf, d⟩ := I.pin p hp
    have nch : p.1 ∉ ch := fun z => (hch p.1 z).2.2.2 p hp rfl
    exact ⟨keep p.1 p.2 ne nf nch e n, free p.1 p.2 nch e n, ne, nf, d⟩
theorem Inv.un {t' : Nat} (I : Inv X pins σ H s) (u : Un X.fs [] H H' s.heap h') (hok : HOk X.prog X.w H' h') : Inv X pins σ H' { s with heap := h', toks := t' } := by
  obtain ⟨m, ⟨o, es, ep, ho, r⟩, _⟩ := id I.loc
  obtain ⟨sl, hL⟩ := u.any ho I.free (by simp)
  exact I.step (g' := s.gens) (d' := s.drawn) (ch := []) (fun _ z => nomatch z) (fun b o _ hb _ e n => u.keep b o e n hb (by simp)) (fun b o _ hb _ e n => u.slot b o e n hb (by simp)) (fun b o _ e n => u.free b o e n (by simp)) (fun b o _ e => u.there b o e (by simp)) u.tups u.frzs u.tbls (fun m' hm => by
    obtain ⟨o', es', ep', ho', r'⟩ := hm
    rw [ho] at ho'; cases ho'
    exact ⟨_, es', ep', hL, r'⟩) hok I.bare
theorem Inv.call {g' : Array GenState} {t' : Nat} {d' : Drawn} {ch : List Addr} (I : Inv X pins σ H s) (u : Un (frs X.stack) ch H H' s.heap h') (hok : HOk X.prog X.w H' h') (hg : AllBare g')
    (hch : ∀ b ∈ ch, (b ∈ X.ex ∨ X.s₀.heap.objs.size ≤ b) ∧ b ≠ X.env.locals ∧ (∀ x c, X.env.cells.lookup x = some c → c ≠ b) ∧ ∀ p ∈ X.pn ++ pins, p.1 ≠ b) :
    Inv X pins σ H' { s with heap := h', gens := g', drawn := d', toks := t' } := by
  obtain ⟨m, ⟨o, es, ep, ho, r⟩, _⟩ := id I.loc
  obtain ⟨sl, hL⟩ := u.any ho I.free fun z => (hch _ z).2.1 rfl
  exact I.step (ch := ch) hch (fun b o hL hb hc e n => u.keep b o e n (fun z => (List.mem_cons.mp (I.stkSub b z)).elim hL hb) hc) (fun b o _ _ hc e n => u.any e n hc) (fun b o hc e n => u.free b o e n hc) (fun b o hc e => u.there b o e hc) u.tups u.frzs u.tbls (fun m' hm => by
    obtain ⟨o', es', ep', ho', r'⟩ := hm
    rw [ho] at ho'; cases ho'
    exact ⟨_, es', ep', hL, r'⟩) hok hg
theorem Inv.turned {t' : Nat} {it : Addr} (I : Inv X pins σ H s) (k : ∀ b o, b ≠ it → s.heap.get? b = some o → h'.get? b = some o) (hn : H it = none) (hL : it ≠ X.env.locals)
    (h1 : it ∈ X.ex ∨ X.s₀.heap.objs.size ≤ it) (h2 : ∀ x c, X.env.cells.lookup x = some c → c ≠ it) (h3 : ∀ p ∈ X.pn ++ pins, p.1 ≠ it) : Inv X pins σ H { s with heap := h', toks := t' } := by
  have nit : ∀ b u, H b = some u → b ≠ it := fun b u e z => by rw [z, hn] at e; cases e
  refine I.step (g' := s.gens) (d' := s.drawn) (ch := [it]) (fun b hb => ?_) (fun b o _ _ hc e _ => k b o (fun z => hc (by simp [z])) e) (fun b o _ _ hc e _ => ⟨o.slots, k b o (fun z => hc (by simp [z])) e⟩) (fun _ _ _ _ n => n)
    (fun b o hc e => ⟨o, k b o (fun z => hc (by simp [z])) e⟩) (fun _ _ e => e) (fun _ _ _ e => e) (fun b ps e => ⟨#[], by rw [e]; simp⟩) (fun m hm => ?_) (fun b u e => ?_) I.bare
  · have e : b = it := by simpa using hb
    subst e
    exact ⟨h1, hL, h2, h3⟩
  · obtain ⟨o, es, ep, ho, r⟩ := hm
    exact ⟨o, es, ep, k _ o (Ne.symm hL) ho, r⟩
  · refine (I.hok b u e).stay (fun c v hc q => k c v ?_ q) (fun _ q => q) fun _ _ q => q
    rcases hc with z | z
    · rw [z]; exact nit b u e
    · exact nit c _ z
theorem Inv.tok (I : Inv X pins σ H s) (t : Nat) : Inv X pins σ H { s with toks := t } := I.un (h' := s.heap) (t' := t) Un.refl I.hok
theorem Inv.kept {t' : Nat} (I : Inv X pins σ H s) (k : ∀ b u, s.heap.get? b = some u → h'.get? b = some u) : Inv X pins σ H { s with heap := h', toks := t' } := I.un (Un.kept k) (I.hok.kept k)
theorem Inv.laid {a : Addr} {o : HO} {t' : Nat} (I : Inv X pins σ H s) (k : ∀ b u, s.heap.get? b = some u → h'.get? b = some u) (hp : s.heap.objs.size ≤ a) (new : ObjOk X.prog X.w (upd H a o) h' a o) :
    Inv X pins σ (upd H a o) { s with heap := h', toks := t' } := I.un (Un.laid k hp (I.hok.fresh hp)) (I.hok.laid k hp new)
theorem Inv.write {x e : Addr} {o : HO} {t' : Nat} (I : Inv X pins σ H s) (mu : Mut (H x)) (he : e = x ∨ H e = some (.own x)) (k : ∀ b u, b ≠ e → s.heap.get? b = some u → h'.get? b = some u) (heo : ∃ u, h'.get? e = some u)
    (new : ObjOk X.prog X.w (upd H x o) h' x o) : Inv X pins σ (upd H x o) { s with heap := h', toks := t' } := I.un (Un.write mu he k heo) (I.hok.write mu he k heo new)
theorem Inv.weak {σ' : List (Option V)} (I : Inv X pins σ H s) (hl : σ'.length = σ.length) (w : ∀ (i : Nat) v, σ'[i]? = some (some v) → σ[i]? = some (some v)) : Inv X pins σ' H s :=
  ⟨I.ok, I.os, I.bare, I.base, let ⟨m, hn, hl'⟩ := I.loc; ⟨m, hn, fun i x v e1 e2 e3 => hl' i x v e1 (w i v e2) e3⟩, I.cell, I.free, I.freeC, I.pin, I.hok, hl.trans I.len⟩
theorem Inv.pins_of {pins' : List (Addr × Obj)} (I : Inv X pins σ H s) (h : ∀ p ∈ pins', s.heap.get? p.1 = some p.2 ∧ H p.1 = none ∧ p.1 ≠ X.env.locals ∧ p.1 ∉ X.fs ∧ ∀ v, p.2.data ≠ .cell v) : Inv X pins' σ H s :=
  ⟨I.ok, I.os, I.bare, I.base, I.loc, I.cell, I.free, I.freeC, fun p hp => (List.mem_append.mp hp).elim (fun z => I.pin p (List.mem_append_left _ z)) (h p), I.hok, I.len⟩
theorem nodup_ix {N : List Str} (hN : N.Nodup) {i j : Nat} {x : Str} (a : N[i]? = some x) (b : N[j]? = some x) : i = j := by
  obtain ⟨h1, e1⟩ := List.getElem?_eq_some_iff.mp a
  obtain ⟨h2, e2⟩ := List.getElem?_eq_some_iff.mp b
  exact (List.getElem_inj hN).mp (e1.trans e2.symm)
theorem store_ok2 {M : Model} {A : Around} {E : Value → Shared → Prop} {i : Nat} {x : Str} {v : V} {u : Value} {Q : Unit → Shared → Prop} (I : Inv X pins σ H s) (hN : X.N.Nodup) (hi : X.N[i]? = some x) (hx : Loc X.env.scope x) (r : RelV v u)
    (h : ∀ s', Inv X pins (σ.set i (some v)) H s' → (∃ a, Heap.SameBut a s.heap s'.heap ∧ (a = X.env.locals ∨ X.env.cells.lookup x = some a)) → Q () s') (hf : X.fn x = true ∨ X.env.scope.names.lookup x = some .local := by first | exact .inl rfl | exact .inr rfl | assumption) : wpAny M A (storeName X.env x u) Q E s := by
  obtain ⟨m, hn, hl⟩ := id I.loc
  have hcls : (X.env.scope.kind == .class || (X.env.scope.kind == .module && X.env.locals != X.env.globals)) = false := by rw [I.ok.kind]; rfl
  have hiσ : i < σ.length := by rw [I.len]; exact (List.getElem?_eq_some_iff.mp hi).1
  have cne := I.cne
  have tracked : ∀ {a : Addr} {h' : Heap}, (∃ o, s.heap.get? a = some o ∧ H a = none) → Heap.SameBut a s.heap h' → HOk X.prog X.w H h' := fun {a h'} ha hs b ob e => by
    obtain ⟨_, _, hfree⟩ := ha
    refine (I.hok b ob e).stay (fun c w' hc q => (hs.2 c ?_).trans q) (fun _ q => q) fun _ _ q => q
    rintro rfl
    rcases hc with rfl | hc
    · rw [hfree] at e; cases e
    · rw [hfree] at hc; cases hc
  rcases hx with hk | hk
  · refine wpAny_storeName_local hk hn (fun h' hn' hs => ?_) hcls
    obtain ⟨oL, _, _, hoL, _⟩ := id hn
    refine h _ ⟨I.ok, I.os, I.bare, ⟨fun b o e n hb hx => ?_, fun b o e n hb hx => ?_, I.base.free, fun b o e hx => ?_, I.base.tups, I.base.frzs, I.base.tbls⟩, ⟨_, hn', fun j y v' e1 e2 e3 => ?_⟩, fun y c e => ?_, I.free, I.freeC, fun p hp => ?_, tracked ⟨oL, hoL, I.free⟩ hs, by simpa using I.len⟩ ⟨_, hs, .inl rfl⟩
    · exact (hs.2 b (Nat.ne_of_lt (Nat.lt_of_lt_of_le (Heap.lt_size e) I.ok.above))).trans (I.base.keep b o e n hb hx)
    · obtain ⟨sl, e1⟩ := I.base.slot b o e n hb hx
      exact ⟨sl, (hs.2 b (Nat.ne_of_lt (Nat.lt_of_lt_of_le (Heap.lt_size e) I.ok.above))).trans e1⟩
    · obtain ⟨o', e1⟩ := I.base.there b o e hx
      exact ⟨o', (hs.2 b (Nat.ne_of_lt (Nat.lt_of_lt_of_le (Heap.lt_size e) I.ok.above))).trans e1⟩
    · by_cases hj : j = i
      · subst hj
        rw [hi] at e1; cases e1
        rw [List.getElem?_set_self hiσ] at e2
        cases e2
        exact ⟨u, r, .inl ⟨hk, by simp⟩⟩
      · rw [List.getElem?_set_ne (Ne.symm hj)] at e2
        obtain ⟨u', r', q⟩ := hl j y v' e1 e2 e3
        refine ⟨u', r', ?_⟩
        rcases q with ⟨k, e⟩ | ⟨k, c, e, z⟩
        · refine .inl ⟨k, ?_⟩
          have : y ≠ x := fun e => hj (nodup_ix hN e1 (e ▸ hi))
          simp [this, e]
        · exact .inr ⟨k, c, e, z.sameBut hs (cne y c e)⟩
    · obtain ⟨w', z⟩ := I.cell y c e
      exact ⟨w', z.sameBut hs (cne y c e)⟩
    · obtain ⟨e, n, ne, nf, d⟩ := I.pin p hp
      exact ⟨(hs.2 p.1 ne).trans e, n, ne, nf, d⟩
  · have hfn : X.fn x = true := by
      rcases hf with z | z
      · exact z
      · rw [z] at hk; cases hk
    obtain ⟨c, hc⟩ := I.ok.has x (.inl hk)
    obtain ⟨w', z⟩ := I.cell x c hc
    refine wpAny_storeName_cell I.ok.kind hk hc z (fun h' hc' hs => ?_)
    obtain ⟨oc, hoc, hocd⟩ := id z
    refine h { s with heap := h' } ⟨I.ok, I.os, I.bare, ⟨fun b o e n hb hx => ?_, fun b o e n hb hx => ?_, I.base.free, fun b o e hx => ?_, I.base.tups, I.base.frzs, I.base.tbls⟩, ⟨m, hn.sameBut hs (Ne.symm (cne x c hc)), fun j y v' e1 e2 e3 => ?_⟩, fun y c' e => ?_, I.free, I.freeC, fun p hp => ?_, tracked ⟨oc, hoc, I.freeC x c hc⟩ hs, by simpa using I.len⟩ ⟨c, hs, .inr hc⟩
    · exact (hs.2 b (Nat.ne_of_lt (Nat.lt_of_lt_of_le (Heap.lt_size e) (I.ok.cab x c hfn hc)))).trans (I.base.keep b o e n hb hx)
    · obtain ⟨sl, e1⟩ := I.base.slot b o e n hb hx
      exact ⟨sl, (hs.2 b (Nat.ne_of_lt (Nat.lt_of_lt_of_le (Heap.lt_size e) (I.ok.cab x c hfn hc)))).trans e1⟩
    · obtain ⟨o', e1⟩ := I.base.there b o e hx
      exact ⟨o', (hs.2 b (Nat.ne_of_lt (Nat.lt_of_lt_of_le (Heap.lt_size e) (I.ok.cab x c hfn hc)))).trans e1⟩
    · by_cases hj : j = i
      · subst hj
        rw [hi] at e1; cases e1
        rw [List.getElem?_set_self hiσ] at e2
        cases e2
        exact ⟨u, r, .inr ⟨.inl hk, c, hc, hc'⟩⟩
      · rw [List.getElem?_set_ne (Ne.symm hj)] at e2
        obtain ⟨u', r', q⟩ := hl j y v' e1 e2 e3
        refine ⟨u', r', ?_⟩
        rcases q with q | ⟨k, c', e, z'⟩
        · exact .inl q
        · refine .inr ⟨k, c', e, z'.sameBut hs ?_⟩
          rintro rfl
          exact hj (nodup_ix hN e1 (I.ok.inj _ _ _ e hc ▸ hi))
    · by_cases hcc : c' = c
      · subst hcc; exact ⟨_, hc'⟩
      · obtain ⟨w2, z2⟩ := I.cell y c' e
        exact ⟨w2, z2.sameBut hs hcc⟩
    · obtain ⟨e, n, ne, nf, d⟩ := I.pin p hp
      refine ⟨(hs.2 p.1 ?_).trans e, n, ne, nf, d⟩
      intro q
      rw [q, hoc] at e
      have q' : oc = p.2 := Option.some.inj e
      exact d w' (by rw [← q']; exact hocd)
theorem store_ok {M : Model} {A : Around} {E : Value → Shared → Prop} {i : Nat} {x : Str} {v : V} {u : Value} {Q : Unit → Shared → Prop} (I : Inv X pins σ H s) (hN : X.N.Nodup) (hi : X.N[i]? = some x) (hx : Loc X.env.scope x) (r : RelV v u)
    (h : ∀ s', Inv X pins (σ.set i (some v)) H s' → Q () s') (hf : X.fn x = true ∨ X.env.scope.names.lookup x = some .local := by first | exact .inl rfl | exact .inr rfl | assumption) : wpAny M A (storeName X.env x u) Q E s :=
  store_ok2 I hN hi hx r (fun s' I' _ => h s' I') hf
theorem Inv.call' {s' : Shared} {ch : List Addr} (I : Inv X pins σ H s) (ho : s'.os = s.os) (u : Un (frs X.stack) ch H H' s.heap s'.heap) (hok : HOk X.prog X.w H' s'.heap) (hg : AllBare s'.gens)
    (hch : ∀ b ∈ ch, (b ∈ X.ex ∨ X.s₀.heap.objs.size ≤ b) ∧ b ≠ X.env.locals ∧ (∀ x c, X.env.cells.lookup x = some c → c ≠ b) ∧ ∀ p ∈ X.pn ++ pins, p.1 ≠ b) : Inv X pins σ H' s' := by
  obtain ⟨h', g', d', t', o'⟩ := s'
  have e : o' = s.os := ho
  subst e
  exact I.call (g' := g') (t' := t') (d' := d') u hok hg hch
end

abbrev XK := Value → Option Addr → Hp → Prop
abbrev St := List (Option V)
abbrev VK := V → Hp → Prop
abbrev TE := St → Hp → VK → Prop
abbrev TT := St → Hp → (Bool → Hp → Prop) → Prop
abbrev TA := St → Hp → (List V → Hp → Prop) → Prop
structure Ends where
  nx : St → Hp → Prop
  rt : VK
  bk : St → Hp → Prop := fun _ _ => False
  ct : St → Hp → Prop := fun _ _ => False
abbrev TS := Ends → St → Hp → Prop
def EP (X : Cx) (pins : List (Addr × Obj)) (σ : St) (Q : VK) (u : Value) (s' : Shared) : Prop := ∃ v H', Inv X pins σ H' s' ∧ RelV v u ∧ Q v H'
def TP (X : Cx) (pins : List (Addr × Obj)) (σ : St) (Q : Bool → Hp → Prop) (b : Bool) (s' : Shared) : Prop := ∃ H', Inv X pins σ H' s' ∧ Q b H'
def AP (X : Cx) (pins : List (Addr × Obj)) (σ : St) (Q : List V → Hp → Prop) (us : List Value) (s' : Shared) : Prop := ∃ vs H', Inv X pins σ H' s' ∧ Vals vs us ∧ Q vs H'
def SP (X : Cx) (pins : List (Addr × Obj)) (D : Ends) (f : Flow) (s' : Shared) : Prop :=
  match f with
  | .next => ∃ σ' H', Inv X pins σ' H' s' ∧ D.nx σ' H'
  | .brk => ∃ σ' H', Inv X pins σ' H' s' ∧ D.bk σ' H'
  | .cont => ∃ σ' H', Inv X pins σ' H' s' ∧ D.ct σ' H'
  | .ret u => ∃ v σ' H', Inv X pins σ' H' s' ∧ RelV v u ∧ D.rt v H'
def PE (X : Cx) (e : Expr) (t : TE) : Prop :=
  ∀ (pins : List (Addr × Obj)) (s : Shared) (σ : St) (H : Hp) (Q : VK), Inv X pins σ H s → t σ H Q → wpAny (model X.prog X.w) X.A (eval e X.env) (EP X pins σ Q) X.xe s
def PT (X : Cx) (e : Expr) (t : TT) : Prop :=
  ∀ (pins : List (Addr × Obj)) (s : Shared) (σ : St) (H : Hp) (Q : Bool → Hp → Prop), Inv X pins σ H s → t σ H Q → wpAny (model X.prog X.w) X.A (isTrue e X.env (eval e X.env)) (TP X pins σ Q) X.xe s
def PW (X : Cx) (e : Expr) (t : TT) : Prop :=
  ∀ (whole : Sem Value) (pins : List (Addr × Obj)) (s : Shared) (σ : St) (H : Hp) (Q : Bool → Hp → Prop), Inv X pins σ H s → t σ H Q → wpAny (model X.prog X.w) X.A (isTrue e X.env whole) (TP X pins σ Q) X.xe s
theorem PW.pt {X : Cx} {e : Expr} {t : TT} (h : PW X e t) : PT X e t := h _
def PA (X : Cx) (es : List Expr) (t : TA) : Prop :=
  ∀ (pos : Pos) (pins : List (Addr × Obj)) (s : Shared) (σ : St) (H : Hp) (Q : List V → Hp → Prop), Inv X pins σ H s → t σ H Q → wpAny (model X.prog X.w) X.A (spliced (backTo pos (starEach es X.env))) (AP X pins σ Q) X.xe s
def PS (X : Cx) (st : Stmt) (t : TS) : Prop :=
  ∀ (pins : List (Addr × Obj)) (s : Shared) (σ : St) (H : Hp) (D : Ends), Inv X pins σ H s → t D σ H → wpAny (model X.prog X.w) X.A (exec st X.env) (SP X pins D) X.xe s
def PSs (X : Cx) (st : List Stmt) (t : TS) : Prop :=
  ∀ (pins : List (Addr × Obj)) (s : Shared) (σ : St) (H : Hp) (D : Ends), Inv X pins σ H s → t D σ H → wpAny (model X.prog X.w) X.A (execs st X.env) (SP X pins D) X.xe s
theorem thn {α : Type} {t : Sem α} {Q Q' : α → Shared → Prop} {M : Model} {A : Around} {E : Value → Shared → Prop} {s : Shared} (h : wpAny M A t Q E s) (hQ : ∀ a s, Q a s → Q' a s) : wpAny M A t Q' E s := wpAny_mono h hQ fun _ _ x => x
end L2

namespace L2
open PySem PySem.Spec PyProof.Rows
section
variable {X : Cx}
def tVar (i : Nat) : TE := fun σ H Q => ∃ v, σ[i]? = some (some v) ∧ Q v H
def tC (v : V) : TE := fun _ H Q => Q v H
theorem pe_var {i : Nat} {x : Str} {pos : Pos} (hN : X.N[i]? = some x) (hv : Vis X.env.scope x) (hd : (x == ("__debug__" : Str)) = false := by decide) (hcd : (x == ("__classdict__" : Str)) = false := by decide) : PE X (.Name x pos) (tVar i) := by
  intro pins s σ H Q I h
  obtain ⟨v, e, h⟩ := h
  obtain ⟨m, hn, hl⟩ := I.loc
  obtain ⟨u, r, l⟩ := hl i x v hN e hv
  have fin : EP X pins σ Q u s := ⟨v, H, I, r, h⟩
  rcases l with ⟨hk, hm⟩ | ⟨hk, c, hc, hcell⟩
  · exact wpAny_Name (wpAny_loadName_local I.ok.kind hk hn hm fin) hd
  · rcases hk with hk | hk
    · exact wpAny_Name (wpAny_loadName_cell I.ok.kind hk hc hcell fin) hd
    · exact wpAny_Name (wpAny_loadName_free I.ok.kind hk hc hcell fin hcd) hd
theorem pe_int {i j pos} : PE X (.Constant (.int i) j pos) (tC (.int i)) := fun _ _ _ H _ I h => wpAny_Constant_int ⟨.int i, H, I.tok _, ⟨_, rfl⟩, h⟩
theorem pe_bl {b j pos} : PE X (.Constant (.bool b) j pos) (tC (.bl b)) := fun _ _ _ H _ I h => Constant_bool ⟨.bl b, H, I, rfl, h⟩
theorem pe_non {j pos} : PE X (.Constant .none j pos) (tC .non) := fun _ _ _ H _ I h => Constant_none ⟨.non, H, I, rfl, h⟩
theorem pe_str {x j pos} : PE X (.Constant (.str x) j pos) (tC (.str x)) := fun _ _ _ H _ I h => Calls.Constant_str ⟨.str x, H, I.tok _, ⟨_, rfl⟩, h⟩
def Gl (X : Cx) (x : Str) : Prop := X.env.kindOf x = some .globalImplicit
theorem ld_glob {E : Value → Shared → Prop} {pins : List (Addr × Obj)} {s : Shared} {σ : St} {H : Hp} {x : Str} {u : Value} {pos : Pos} {Q : Value → Shared → Prop} (I : Inv X pins σ H s) (hg : Gl X x) (hm : X.mg x = some u) (h : Q u s)
    (hd : (x == ("__debug__" : Str)) = false := by decide) : wpAny (model X.prog X.w) X.A (eval (.Name x pos) X.env) Q E s :=
  Calls.Name_function_global I.ok.kind hg (Calls.loadGlobal_global (by rw [I.ok.glob]; exact I.mod.glob.keeps I.bk) hm h) hd
theorem ld_blt {E : Value → Shared → Prop} {pins : List (Addr × Obj)} {s : Shared} {σ : St} {H : Hp} {x : Str} {u : Value} {pos : Pos} {Q : Value → Shared → Prop} (I : Inv X pins σ H s) (hg : Gl X x) (hm : X.mg x = none) (hv : bootBuiltins x = some u) (h : Q u s)
    (hn : x ≠ "__name__" := by decide) (hd : (x == ("__debug__" : Str)) = false := by decide) : wpAny (model X.prog X.w) X.A (eval (.Name x pos) X.env) Q E s := by
  obtain ⟨mb, h1, h2⟩ := I.mod.blt
  exact Calls.Name_function_global I.ok.kind hg (Calls.loadGlobal_builtin (by rw [I.ok.glob]; exact I.mod.glob.keeps I.bk) hm (by rw [I.ok.blt]; exact h1.keeps I.bk) ((h2 x hn).trans hv) h) hd
theorem pe_glob {x : Str} {v : V} {u : Value} {pos : Pos} (hg : Gl X x) (hm : X.mg x = some u) (r : RelV v u) (hd : (x == ("__debug__" : Str)) = false := by decide) : PE X (.Name x pos) (tC v) :=
  fun _ _ _ H _ I h => ld_glob I hg hm ⟨v, H, I, r, h⟩ hd
theorem pe_bltn {x : Str} {v : V} {u : Value} {pos : Pos} (hg : Gl X x) (hm : X.mg x = none) (hv : bootBuiltins x = some u) (r : RelV v u) (hn : x ≠ "__name__" := by decide) (hd : (x == ("__debug__" : Str)) = false := by decide) : PE X (.Name x pos) (tC v) :=
  fun _ _ _ H _ I h => ld_blt I hg hm hv ⟨v, H, I, r, h⟩ hn hd
variable {a b : Expr} {ta tb : TE} {pos : Pos}
variable {tA tB' : TT} {rest : List Expr}
def tAnd (t u : TT) : TT := fun σ H Q => t σ H fun c H1 => if c = true then u σ H1 Q else Q false H1
def tOr (t u : TT) : TT := fun σ H Q => t σ H fun c H1 => if c = true then Q true H1 else u σ H1 Q
def tNot (t : TT) : TT := fun σ H Q => t σ H fun c H1 => Q (!c) H1
theorem pw_and1 (ha : PT X a tA) : PW X (.BoolOp .And [a] pos) tA := by
  intro wh pins s σ H Q I h
  refine isTrue_and (thn (ha pins s σ H Q I h) fun c s1 e => ?_)
  cases c with
  | true => exact isTrue_and_nil e
  | false => exact e
theorem pw_or1 (ha : PT X a tA) : PW X (.BoolOp .Or [a] pos) tA := by
  intro wh pins s σ H Q I h
  refine isTrue_or (thn (ha pins s σ H Q I h) fun c s1 e => ?_)
  cases c with
  | false => exact isTrue_or_nil e
  | true => exact e
theorem pw_and (ha : PT X a tA) (hb : PW X (.BoolOp .And (b :: rest) pos) tB') : PW X (.BoolOp .And (a :: b :: rest) pos) (tAnd tA tB') := by
  intro wh pins s σ H Q I h
  refine isTrue_and (thn (ha pins s σ H _ I h) fun c s1 ⟨H1, I1, q1⟩ => ?_)
  cases c with
  | true => exact hb wh pins s1 σ H1 Q I1 q1
  | false => exact ⟨H1, I1, q1⟩
theorem pw_or (ha : PT X a tA) (hb : PW X (.BoolOp .Or (b :: rest) pos) tB') : PW X (.BoolOp .Or (a :: b :: rest) pos) (tOr tA tB') := by
  intro wh pins s σ H Q I h
  refine isTrue_or (thn (ha pins s σ H _ I h) fun c s1 ⟨H1, I1, q1⟩ => ?_)
  cases c with
  | true => exact ⟨H1, I1, q1⟩
  | false => exact hb wh pins s1 σ H1 Q I1 q1
theorem pt_not (ha : PT X a tA) : PT X (.UnaryOp .Not a pos) (tNot tA) := by
  intro pins s σ H Q I h
  exact isTrue_not (ha pins s σ H (fun c H1 => Q (!c) H1) I h)
def tAndV (ta tb : TE) : TE := fun σ H Q => ta σ H fun x H1 => ∃ c, x = .bl c ∧ if c = true then tb σ H1 Q else Q (.bl false) H1
def tNotV (ta : TE) : TE := fun σ H Q => ta σ H fun x H1 => ∃ c, x = .bl c ∧ Q (.bl (!c)) H1
theorem pe_one {op} {t : TE} (h : PE X a t) : PE X (.BoolOp op [a] pos) t := fun pins s σ H Q I hw => BoolOp_one (h pins s σ H Q I hw)
theorem pe_and (ha : PE X a ta) (hb : PE X (.BoolOp .And (b :: rest) pos) tb) : PE X (.BoolOp .And (a :: b :: rest) pos) (tAndV ta tb) := by
  intro pins s σ H Q I h
  refine BoolOp_and (thn (ha pins s σ H _ I h) fun v s1 ⟨x, H1, I1, r1, q1⟩ => ?_)
  obtain ⟨c, rfl, q1⟩ := q1
  cases r1
  refine wpAny_truthy_bool ?_
  cases c with
  | true => exact hb pins s1 σ H1 Q I1 q1
  | false => exact ⟨.bl false, H1, I1, rfl, q1⟩
theorem pe_not (ha : PE X a ta) : PE X (.UnaryOp .Not a pos) (tNotV ta) := by
  intro pins s σ H Q I h
  refine UnaryOp_ (thn (ha pins s σ H _ I h) fun v s1 ⟨x, H1, I1, r1, q1⟩ => ?_)
  obtain ⟨c, rfl, q1⟩ := q1
  cases r1
  exact not_of (wpAny_truthy_bool ⟨.bl (!c), H1, I1, rfl, q1⟩)
def tIf (t : TT) (ta tb : TE) : TE := fun σ H Q => t σ H fun c H1 => if c = true then ta σ H1 Q else tb σ H1 Q
theorem pe_ifExp {c : Expr} (hc : PT X c tA) (ha : PE X a ta) (hb : PE X b tb) : PE X (.IfExp c a b pos) (tIf tA ta tb) := by
  intro pins s σ H Q I h
  refine wpAny_IfExp (thn (hc pins s σ H _ I h) fun d s1 ⟨H1, I1, q1⟩ => ?_)
  cases d with
  | true => exact ha pins s1 σ H1 Q I1 q1
  | false => exact hb pins s1 σ H1 Q I1 q1
end
end L2

namespace L2
open PySem PySem.Spec PyProof.Rows
def SqL (K : PySem.W.Frag) (H : Hp) (a : Addr) (xs : List V) : Prop :=
  Rd H a (.lst xs) ∨
    ∃ (o : Obj) (its : Array Value) (n : Nat), K.lookup a = some o ∧ o.cls = .type "list" ∧ o.dict = none ∧ o.data = .seq its n ∧ its.size ≤ sizeLine ∧ Vals xs its.toList
def SqT (K : PySem.W.Frag) (H : Hp) (a : Addr) (xs : List V) : Prop :=
  Rd H a (.tup xs) ∨
    ∃ (o : Obj) (its : Array Value) (n : Nat), K.lookup a = some o ∧ o.cls = .type "tuple" ∧ o.data = .seq its n ∧ its.size ≤ sizeLine ∧ Vals xs its.toList
def absV : Value → Option V
  | .none => some .non
  | .bool b => some (.bl b)
  | .int i _ => some (.int i)
  | .str x _ => some (.str x)
  | .bytes b _ => some (.byt b)
  | .float b _ => some (.flt b)
  | .ref a => some (.ref a)
  | .type n => some (.ty n)
  | _ => none
theorem RelV.abs {x : V} {u : Value} (r : RelV x u) : absV u = some x := by
  cases x with
  | non => cases r; rfl
  | bl _ => cases r; rfl
  | int _ => obtain ⟨t, rfl⟩ := r; rfl
  | str _ => obtain ⟨t, rfl⟩ := r; rfl
  | byt _ => obtain ⟨t, rfl⟩ := r; rfl
  | flt _ => obtain ⟨t, rfl⟩ := r; rfl
  | ref _ => cases r; rfl
  | ty _ => cases r; rfl
theorem RelV.inj {x y : V} {u : Value} (r : RelV x u) (q : RelV y u) : x = y := Option.some.inj (r.abs.symm.trans q.abs)
theorem Vals.inj : ∀ {xs ys : List V} {us : List Value}, Vals xs us → Vals ys us → xs = ys
  | _, _, _, .nil, .nil => rfl
  | _, _, _, .cons r t, .cons r' t' => by rw [r.inj r', Vals.inj t t']
section
variable {X : Cx} {pins : List (Addr × Obj)} {σ : St} {H : Hp} {s : Shared} {a : Addr} {xs ys : List V}
theorem SqL.of {K : PySem.W.Frag} (h : H a = some (.lst xs)) : SqL K H a xs := .inl (.inl h)
theorem SqT.of {K : PySem.W.Frag} (h : H a = some (.tup xs)) : SqT K H a xs := .inl (.inl h)
theorem Inv.list (I : Inv X pins σ H s) (h : SqL X.K H a xs) : ∃ its : List Value, Vals xs its ∧ PlainL s.heap a its.toArray ∧ xs.length ≤ sizeLine := by
  rcases h with h | ⟨o, its, n, hk, hc, hd, hs, hz, r⟩
  · obtain ⟨z, its, n, r, e⟩ := h.ok I.hok
    exact ⟨its, r, ⟨_, n, e, rfl, rfl, rfl⟩, z⟩
  · refine ⟨its.toList, r, ⟨o, n, I.kIn a o hk, hc, hd, by simpa using hs⟩, ?_⟩
    have e := r.length
    simp only [Array.length_toList] at e
    omega
theorem Inv.tuple (I : Inv X pins σ H s) (h : SqT X.K H a xs) : ∃ its : List Value, Vals xs its ∧ IsTup s.heap a its.toArray ∧ xs.length ≤ sizeLine := by
  rcases h with h | ⟨o, its, n, hk, hc, hs, hz, r⟩
  · obtain ⟨z, its, r, p⟩ := h.ok I.hok
    exact ⟨its, r, p, z⟩
  · refine ⟨its.toList, r, ⟨o, I.kIn a o hk, hc, n, by simpa using hs⟩, ?_⟩
    have e := r.length
    simp only [Array.length_toList] at e
    omega
theorem Inv.list_inj (I : Inv X pins σ H s) (h : SqL X.K H a xs) (h' : SqL X.K H a ys) : xs = ys := by
  obtain ⟨its, r, ⟨o, n, e, _, _, d⟩, _⟩ := I.list h
  obtain ⟨its', r', ⟨o', n', e', _, _, d'⟩, _⟩ := I.list h'
  rw [e] at e'; cases e'
  rw [d] at d'
  injection d' with d1 _
  have : its = its' := by simpa using congrArg Array.toList d1
  subst this
  exact r.inj r'
theorem Inv.tuple_inj (I : Inv X pins σ H s) (h : SqT X.K H a xs) (h' : SqT X.K H a ys) : xs = ys := by
  obtain ⟨its, r, ⟨o, e, _, n, d⟩, _⟩ := I.tuple h
  obtain ⟨its', r', ⟨o', e', _, n', d'⟩, _⟩ := I.tuple h'
  rw [e] at e'; cases e'
  rw [d] at d'
  injection d' with d1 _
  have : its = its' := by simpa using congrArg Array.toList d1
  subst this
  exact r.inj r'
end

section
variable {X : Cx} {pins : List (Addr × Obj)} {σ : St} {H : Hp} {s : Shared} {E : Value → Shared → Prop}
end

section
variable {X : Cx} {st : Stmt} {rest : List Stmt} {t u : TS} {e : Expr} {te : TE} {pos : Pos}
def tNext : TS := fun D σ H => D.nx σ H
def tSeq (t u : TS) : TS := fun D σ H => t { D with nx := u D } σ H
theorem pss_nil : PSs X [] tNext := fun _ _ σ H _ I h => wpAny_execs_nil ⟨σ, H, I, h⟩
theorem pss_cons (h1 : PS X st t) (h2 : PSs X rest u) : PSs X (st :: rest) (tSeq t u) := by
  intro pins s σ H D I h
  refine wpAny_execs_cons (thn (h1 pins s σ H { D with nx := u D } I h) fun f s1 q => ?_)
  cases f with
  | next =>
    obtain ⟨σ', H', I', q⟩ := q
    exact h2 pins s1 σ' H' D I' q
  | ret v => exact q
  | brk => exact q
  | cont => exact q
theorem pss_one (h1 : PS X st t) : PSs X [st] t := by
  intro pins s σ H D I h
  refine wpAny_execs_cons (thn (h1 pins s σ H D I h) fun f s1 q => ?_)
  cases f with
  | next => exact wpAny_execs_nil q
  | ret v => exact q
  | brk => exact q
  | cont => exact q
theorem Inv.quiet {pins : List (Addr × Obj)} {σ : St} {H : Hp} {s : Shared} (I : Inv X pins σ H s) : interactive X.env = false := by simp [interactive, I.ok.kind]
def tDrop (te : TE) : TS := fun D σ H => te σ H fun _ H1 => D.nx σ H1
theorem ps_expr (he : PE X e te) (hs : swapsWith e none pos.line X.env = pure false := by rfl) : PS X (.Expr e pos) (tDrop te) := by
  intro pins s σ H D I h
  exact wpAny_Expr_any (thn (he pins s σ H _ I h) fun v s1 ⟨x, H1, I1, r1, q1⟩ => ⟨σ, H1, I1, q1⟩) I.quiet hs
def tRet (te : TE) : TS := fun D σ H => te σ H D.rt
theorem ps_ret (he : PE X e te) : PS X (.Return (some e) pos) (tRet te) := by
  intro pins s σ H D I h
  exact wpAny_Return_some (thn (he pins s σ H _ I h) fun v s1 ⟨x, H1, I1, r1, q1⟩ => ⟨x, σ, H1, I1, r1, q1⟩)
def tIfS (c : TT) (t u : TS) : TS := fun D σ H => c σ H fun b H1 => if b = true then t D σ H1 else u D σ H1
theorem ps_if {c : Expr} {a b : List Stmt} {tc : TT} (hc : PT X c tc) (ha : PSs X a t) (hb : PSs X b u) : PS X (.If c a b pos) (tIfS tc t u) := by
  intro pins s σ H D I h
  refine wpAny_If (thn (hc pins s σ H _ I h) fun d s1 ⟨H1, I1, q1⟩ => ?_)
  cases d with
  | true => exact ha pins s1 σ H1 D I1 q1
  | false => exact hb pins s1 σ H1 D I1 q1
end

abbrev TG := V → St → Hp → (St → Hp → Prop) → Prop
abbrev TGs := List V → St → Hp → (St → Hp → Prop) → Prop
def PG (X : Cx) (target : Expr) (t : TG) : Prop :=
  ∀ (pins : List (Addr × Obj)) (s : Shared) (σ : St) (H : Hp) (v : V) (u : Value) (Q : St → Hp → Prop), Inv X pins σ H s → RelV v u → t v σ H Q →
    wpAny (model X.prog X.w) X.A (assign target X.env u) (fun _ s' => ∃ σ' H', Inv X pins σ' H' s' ∧ Q σ' H') X.xe s
def PGs (X : Cx) (ts : List Expr) (t : TGs) : Prop :=
  ∀ (pins : List (Addr × Obj)) (s : Shared) (σ : St) (H : Hp) (vs : List V) (us : List Value) (Q : St → Hp → Prop), Inv X pins σ H s → Vals vs us → t vs σ H Q →
    wpAny (model X.prog X.w) X.A (assignInOrder ((assignEach ts X.env).map (·.2)) us) (fun _ s' => ∃ σ' H', Inv X pins σ' H' s' ∧ Q σ' H') X.xe s
abbrev TSet := V → V → V → Hp → (Hp → Prop) → Prop
def PSet (X : Cx) (t : TSet) : Prop :=
  ∀ (pins : List (Addr × Obj)) (s : Shared) (σ : St) (H : Hp) (o i v : V) (ov iv u : Value) (Q : Hp → Prop), Inv X pins σ H s → RelV o ov → RelV i iv → RelV v u → t o i v H Q →
    wpAny (model X.prog X.w) X.A (setItem ov iv u) (fun _ s' => ∃ H', Inv X pins σ H' s' ∧ Q H') X.xe s
abbrev TIp := V → V → Hp → VK → Prop
def PIp (X : Cx) (op : Operator) (t : TIp) : Prop :=
  ∀ (pins : List (Addr × Obj)) (s : Shared) (σ : St) (H : Hp) (x y : V) (v u : Value) (Q : VK), Inv X pins σ H s → RelV x v → RelV y u → t x y H Q →
    wpAny (model X.prog X.w) X.A (inplaceOp op v u) (EP X pins σ Q) X.xe s
section
variable {X : Cx} {pos : Pos}
def gName (i : Nat) : TG := fun v σ H Q => Q (σ.set i (some v)) H
theorem pg_name {i : Nat} {x : Str} (hN : X.N.Nodup) (hi : X.N[i]? = some x) (hx : Loc X.env.scope x) (hf : X.fn x = true ∨ X.env.scope.names.lookup x = some .local := by first | exact .inl rfl | exact .inr rfl | assumption) : PG X (.Name x pos) (gName i) := by
  intro pins s σ H v u Q I r h
  exact wpAny_assign_Name (store_ok I hN hi hx r (fun s' I' => ⟨_, H, I', h⟩) hf)
def gNil : TGs := fun vs σ H Q => vs = [] ∧ Q σ H
def gCons (t : TG) (u : TGs) : TGs := fun vs σ H Q => ∃ v r, vs = v :: r ∧ t v σ H fun σ' H' => u r σ' H' Q
theorem pgs_nil : PGs X [] gNil := by
  intro pins s σ H vs us Q I r h
  obtain ⟨e, h⟩ := h
  subst e
  cases r
  exact assignInOrder_nil ⟨σ, H, I, h⟩
theorem pgs_cons {e : Expr} {es : List Expr} {t : TG} {u : TGs} (h1 : PG X e t) (h2 : PGs X es u)
    (hs : (assignEach (e :: es) X.env).map (·.2) = assign e X.env :: (assignEach es X.env).map (·.2) := by rfl) : PGs X (e :: es) (gCons t u) := by
  intro pins s σ H vs us Q I r h
  obtain ⟨v, vr, e1, h⟩ := h
  subst e1
  cases r with
  | cons r rr =>
    rw [hs]
    refine assignInOrder_cons (thn (h1 pins s σ H _ _ _ I r h) fun _ s1 ⟨σ1, H1, I1, q1⟩ => ?_)
    exact h2 pins s1 σ1 H1 _ _ Q I1 rr q1
def gTup (K : PySem.W.Frag) (n : Nat) (t : TGs) : TG := fun v σ H Q => ∃ a xs, v = .ref a ∧ SqT K H a xs ∧ xs.length = n ∧ t xs σ H Q
theorem pg_tup {es : List Expr} {k : Nat} {t : TGs} {n : Nat} (hc : X.calm = true) (h : PGs X es t)
    (hn : (assignEach es X.env).length = n := by rfl) (hst : (assignEach es X.env).findIdx? (·.1) = none := by rfl) : PG X (.Tuple es k pos) (gTup X.K n t) := by
  intro pins s σ H v u Q I r hw
  obtain ⟨a, xs, e1, hq, hl, hw⟩ := hw
  subst e1
  cases r
  obtain ⟨its, rv, ht, hz⟩ := I.tuple hq
  refine assign_Tuple_tuple (I.ok.hd hc) ht (by simp [hn, ← hl, rv.length]) hst fun h' hx => ?_
  have I1 : Inv X pins σ H { s with heap := h' } := I.kept (t' := s.toks) fun b o e => hx b o (Nat.ne_of_lt (Heap.lt_size e)) e
  exact h pins _ σ H xs _ Q I1 (by simpa using rv) hw
def gSub (to ti : TE) (t : TSet) : TG := fun v σ H Q => to σ H fun o H1 => ti σ H1 fun i H2 => t o i v H2 fun H3 => Q σ H3
theorem pg_sub {o i : Expr} {to ti : TE} {t : TSet} (ho : PE X o to) (hi : PE X i ti) (hs : PSet X t)
    (ha : ∀ v, assign (.Subscript o i pos) X.env v = (do
      let ov ← holding [v] (eval o X.env)
      let iv ← holding [v, ov] (eval i X.env)
      standAt pos
      holding [v, ov, iv] (setItem ov iv v)
      release [v, ov, iv] []) := by intro _; rfl) : PG X (.Subscript o i pos) (gSub to ti t) := by
  intro pins s σ H v u Q I r h
  rw [ha]
  refine wpAny_bind (wpAny_holding (thn (ho pins s σ H _ I h) fun ov s1 ⟨x, H1, I1, r1, q1⟩ => ?_))
  refine wpAny_bind (wpAny_holding (thn (hi pins s1 σ H1 _ I1 q1) fun iv s2 ⟨y, H2, I2, r2, q2⟩ => ?_))
  refine wpAny_bind (wpAny_standAt (wpAny_bind (wpAny_holding (thn (hs pins s2 σ H2 x y v ov iv u _ I2 r1 r2 r q2) fun _ s3 ⟨H3, I3, q3⟩ => ?_))))
  exact wpAny_release ⟨σ, H3, I3, q3⟩
def tAsg (te : TE) (g : TG) : TS := fun D σ H => te σ H fun x H1 => g x σ H1 D.nx
theorem ps_asg {tg e : Expr} {te : TE} {g : TG} (he : PE X e te) (hg : PG X tg g) (hs : swapsWithSole [tg] e pos.line X.env = pure false := by rfl) (hw : swappedStores [tg] e X.env = pure none := by rfl)
    (h1 : (assignEach [tg] X.env).map (·.2) = [assign tg X.env] := by rfl) : PS X (.Assign [tg] e pos) (tAsg te g) := by
  intro pins s σ H D I h
  refine wpAny_Assign_stores (thn (he pins s σ H _ I h) fun v s1 ⟨x, H1, I1, r1, q1⟩ => ?_) hs hw
  rw [h1]
  exact thn (hg pins s1 σ H1 x v _ I1 r1 q1) fun _ s2 q => q
theorem ps_set {i : Nat} {x : Str} {e : Expr} {te : TE} {pos' : Pos} (hN : X.N.Nodup) (hi : X.N[i]? = some x) (hx : Loc X.env.scope x) (he : PE X e te) (hs : swapsWith e (some (.Name x pos')) pos.line X.env = pure false := by rfl) (hf : X.fn x = true ∨ X.env.scope.names.lookup x = some .local := by first | exact .inl rfl | exact .inr rfl | assumption) :
    PS X (.Assign [.Name x pos'] e pos) (tAsg te (gName i)) := by
  intro pins s σ H D I h
  refine wpAny_Assign_Name (thn (he pins s σ H _ I h) fun v s1 ⟨y, H1, I1, r1, q1⟩ => ?_) hs
  exact store_ok I1 hN hi hx r1 (fun s2 I2 => ⟨_, H1, I2, q1⟩) hf
def tAugS (to ti te : TE) (tget : V → V → Hp → VK → Prop) (tip : TIp) (tset : TSet) : TS := fun D σ H => to σ H fun o H1 => ti σ H1 fun i H2 => tget o i H2 fun x H3 => te σ H3 fun y H4 => tip x y H4 fun z H5 => tset o i z H5 fun H6 => D.nx σ H6
def PGet (X : Cx) (t : V → V → Hp → VK → Prop) : Prop :=
  ∀ (pins : List (Addr × Obj)) (s : Shared) (σ : St) (H : Hp) (o i : V) (ov iv : Value) (Q : VK), Inv X pins σ H s → RelV o ov → RelV i iv → t o i H Q →
    wpAny (model X.prog X.w) X.A (getItem ov iv) (EP X pins σ Q) X.xe s
theorem ps_augS {o i e : Expr} {to ti te : TE} {tget : V → V → Hp → VK → Prop} {tip : TIp} {tset : TSet} {op : Operator} {tpos : Pos} (ho : PE X o to) (hi : PE X i ti) (hg : PGet X tget) (he : PE X e te) (hp : PIp X op tip) (hs : PSet X tset)
    (ha : ∀ ov iv new, augStore i ov iv new = (do holding [new, ov, iv] (setItem ov iv new); release [new, ov, iv] []; pure .next) := by intros; rfl) : PS X (.AugAssign (.Subscript o i tpos) op e pos) (tAugS to ti te tget tip tset) := by
  intro pins s σ H D I h
  refine wpAny_AugAssign_SubscriptAny (thn (ho pins s σ H _ I h) fun ov s1 ⟨x1, H1, I1, r1, q1⟩ => ?_) ha
  refine thn (hi pins s1 σ H1 _ I1 q1) fun iv s2 ⟨x2, H2, I2, r2, q2⟩ => ?_
  refine thn (hg pins s2 σ H2 x1 x2 ov iv _ I2 r1 r2 q2) fun old s3 ⟨x3, H3, I3, r3, q3⟩ => ?_
  refine thn (he pins s3 σ H3 _ I3 q3) fun v s4 ⟨x4, H4, I4, r4, q4⟩ => ?_
  refine thn (hp pins s4 σ H4 x3 x4 old v _ I4 r3 r4 q4) fun new s5 ⟨x5, H5, I5, r5, q5⟩ => ?_
  exact thn (hs pins s5 σ H5 x1 x2 x5 ov iv new _ I5 r1 r2 r5 q5) fun _ s6 ⟨H6, I6, q6⟩ => ⟨σ, H6, I6, q6⟩
def ipI (f : Int → Int → Int) : TIp := fun x y H Q => ∃ i j, x = .int i ∧ y = .int j ∧ Q (.int (f i j)) H
theorem ip_add : PIp X .Add (ipI fun i j => i + j) := by
  intro pins s σ H x y v u Q I r1 r2 h
  obtain ⟨i, j, e1, e2, q⟩ := h
  subst e1; subst e2
  obtain ⟨t, rfl⟩ := r1
  obtain ⟨t', rfl⟩ := r2
  exact iadd_int ⟨.int _, H, I.tok _, ⟨_, rfl⟩, q⟩
end

section
variable {X : Cx} {pos : Pos}
def tWhile (c : TT) (tb : TS) : TS := fun D σ H => ∃ W : Nat → St → Hp → Prop, (∃ m, W m σ H) ∧ ∀ m σ H, W m σ H →
  c σ H fun b H1 => if b = true then ∃ N : St → Hp → Prop, (∀ σ' H', N σ' H' → ∃ m', m' < m ∧ W m' σ' H') ∧ tb { D with nx := N, ct := N, bk := D.nx } σ H1 else D.nx σ H1
theorem ps_while {c : Expr} {body : List Stmt} {tc : TT} {tb : TS} (hp : PassesOwn (model X.prog X.w) X.A X.env X.xe) (hc : PT X c tc) (hb : PSs X body tb) : PS X (.While c body [] pos) (tWhile tc tb) := by
  intro pins s σ H D I h
  obtain ⟨W, ⟨m0, w0⟩, turn⟩ := h
  refine wpAny_While (codeAny_whileLoop (fun n s' => ∃ σ' H', Inv X pins σ' H' s' ∧ W n σ' H') ?_ m0 ⟨σ, H, I, w0⟩)
  rintro n s1 ⟨σ1, H1, I1, w1⟩
  refine wpAny_passesOwn hp (thn (hc pins s1 σ1 H1 _ I1 (turn n σ1 H1 w1)) fun b s2 ⟨H2, I2, q2⟩ => ?_)
  cases b with
  | true =>
    obtain ⟨N, hN, q2⟩ := q2
    rw [if_pos rfl]
    refine wpAny_passesOwn hp (thn (hb pins s2 σ1 H2 _ I2 q2) fun f s3 q3 => ?_)
    cases f with
    | next =>
      obtain ⟨σ3, H3, I3, n3⟩ := q3
      obtain ⟨m', hm, w3⟩ := hN σ3 H3 n3
      exact ⟨m', hm, σ3, H3, I3, w3⟩
    | cont =>
      obtain ⟨σ3, H3, I3, n3⟩ := q3
      obtain ⟨m', hm, w3⟩ := hN σ3 H3 n3
      exact ⟨m', hm, σ3, H3, I3, w3⟩
    | brk => exact q3
    | ret v => exact q3
  | false =>
    rw [if_neg Bool.false_ne_true]
    exact wpAny_execs_nil ⟨σ1, H2, I2, q2⟩
end

structure It where
  go : Nat → Hp → Prop
  yld : Nat → Hp → V → Hp → Prop
  stop : Nat → Hp → Prop
def FpOk (X : Cx) (pins : List (Addr × Obj)) (H : Hp) (b : Addr) : Prop :=
  H b = none ∧ b ≠ X.env.locals ∧ b ∉ X.fs ∧ (b ∈ X.ex ∨ X.s₀.heap.objs.size ≤ b) ∧ (∀ x c, X.env.cells.lookup x = some c → c ≠ b) ∧ ∀ p ∈ X.pn ++ pins, p.1 ≠ b
theorem Inv.fpOk {X : Cx} {pins : List (Addr × Obj)} {σ : St} {H H' : Hp} {s : Shared} {b : Addr} (I : Inv X pins σ H s) (hb : s.heap.objs.size ≤ b) (hn : H' b = none) : FpOk X pins H' b := by
  refine ⟨hn, Nat.ne_of_gt (Nat.lt_of_lt_of_le I.lt hb), I.nofs hb, .inr (Nat.le_trans I.sz hb), fun x c e z => ?_, fun p hp z => ?_⟩
  · obtain ⟨v, q⟩ := I.cell x c e
    exact absurd (Nat.lt_of_lt_of_le q.lt (by rw [z]; exact hb)) (Nat.lt_irrefl _)
  · exact absurd (Nat.lt_of_lt_of_le (Heap.lt_size (I.pin p hp).1) (by rw [z]; exact hb)) (Nat.lt_irrefl _)
structure Turn (P : Program) (w : World) (K : PySem.W.Frag) (tg : Expr) (J : It) (fp : List Addr) (it : Addr) (tn : Nat → Heap → Prop) : Prop where
  mem : it ∈ fp
  obj : ∀ i h, tn i h → ∀ b ∈ fp, ∃ o, h.get? b = some o ∧ ∀ v, o.data ≠ .cell v
  keep : ∀ i h h', tn i h → (∀ b ∈ fp, ∀ o, h.get? b = some o → h'.get? b = some o) → tn i h'
  item : ∀ (X : Cx), X.prog = P → X.w = w → X.K = K → X.calm = true → ∀ (i : Nat) (pins : List (Addr × Obj)) (s : Shared) (σ : St) (H : Hp) (E : Value → Shared → Prop), Inv X pins σ H s → (∀ b ∈ fp, FpOk X pins H b) → tn i s.heap → J.go i H →
    wpAny (model P w) X.A (pyNext (.ref it)) (fun r s1 => ∃ u, r = some u ∧
      wpAny (model P w) X.A (letOwnedTupleGo tg (.ref it) u) (fun _ s2 => ∃ x H', Inv X pins σ H' s2 ∧ RelV x u ∧ J.yld i H x H' ∧ tn (i + 1) s2.heap ∧ ∀ b ∈ fp, H' b = none) E s1) E s
  done : ∀ (X : Cx), X.prog = P → X.w = w → X.K = K → X.calm = true → ∀ (i : Nat) (pins : List (Addr × Obj)) (s : Shared) (σ : St) (H : Hp) (E : Value → Shared → Prop), Inv X pins σ H s → (∀ b ∈ fp, FpOk X pins H b) → tn i s.heap → J.stop i H →
    wpAny (model P w) X.A (pyNext (.ref it)) (fun r s1 => r = none ∧ Inv X pins σ H s1) E s
  self : ∀ (A : Around) (i : Nat) (s : Shared) (Q : Value → Shared → Prop) (E : Value → Shared → Prop), tn i s.heap → Q (.ref it) s → wpAny (model P w) A (pyIter (.ref it)) Q E s
abbrev TI := St → Hp → (It → Hp → Prop) → Prop
def PIE (X : Cx) (pins : List (Addr × Obj)) (σ : St) (tg : Expr) (R : It → Hp → Prop) (itv : Value) (s2 : Shared) : Prop :=
  ∃ (it : Addr) (fp : List Addr) (tn : Nat → Heap → Prop) (J : It) (H' : Hp), itv = .ref it ∧ Inv X pins σ H' s2 ∧ Turn X.prog X.w X.K tg J fp it tn ∧ tn 0 s2.heap ∧ (∀ b ∈ fp, FpOk X pins H' b) ∧ R J H'
def PI (X : Cx) (tg iter : Expr) (wi : TI) : Prop :=
  ∀ (pins : List (Addr × Obj)) (s : Shared) (σ : St) (H : Hp) (R : It → Hp → Prop), Inv X pins σ H s → wi σ H R →
    wpAny (model X.prog X.w) X.A (eval iter X.env) (fun v s1 => wpAny (model X.prog X.w) X.A (pyIter v) (PIE X pins σ tg R) X.xe s1) X.xe s
theorem go_of {M : Model} {A : Around} {E : Value → Shared → Prop} {s : Shared} {tg : Expr} {it : Addr} {u : Value} {o : Obj} {n : String} {vs : Array Value} {Q : Unit → Shared → Prop} (ho : s.heap.get? it = some o) (hc : o.cls = .type n) (hd : o.data = .fields vs)
    (hn : ["enumerate", "zip", "dict_itemiterator", "dict_reverseitemiterator", "odict_iterator", "itertools.zip_longest", "itertools.pairwise"].contains n = false) (hQ : Q () s) : wpAny M A (letOwnedTupleGo tg (.ref it) u) Q E s := by
  unfold letOwnedTupleGo
  cases tg <;> first
    | exact wpAny_pure hQ
    | (cases u <;> first
        | exact wpAny_pure hQ
        | (refine wpAny_bind (wpAny_load ho ?_)
           rw [hc, hd]
           show wpAny M A (if (["enumerate", "zip", "dict_itemiterator", "dict_reverseitemiterator", "odict_iterator", "itertools.zip_longest", "itertools.pairwise"].contains n && vs[0]? == some (rawInt _)) = true then _ else _) Q E s
           rw [if_neg (by intro h; rw [hn, Bool.false_and] at h; cases h)]
           exact wpAny_pure hQ))
def Itl (K : PySem.W.Frag) (a : Addr) : It :=
  ⟨fun i H => ∃ xs x, SqL K H a xs ∧ xs[i]? = some x, fun i H x H' => H' = H ∧ ∀ xs, SqL K H a xs → xs[i]? = some x, fun i H => ∃ xs, SqL K H a xs ∧ xs.length ≤ i⟩
def Itt (K : PySem.W.Frag) (a : Addr) : It :=
  ⟨fun i H => ∃ xs x, SqT K H a xs ∧ xs[i]? = some x, fun i H x H' => H' = H ∧ ∀ xs, SqT K H a xs → xs[i]? = some x, fun i H => ∃ xs, SqT K H a xs ∧ xs.length ≤ i⟩
def Itr (lo : Int) (n : Nat) : It := ⟨fun i _ => i < n, fun i H x H' => H' = H ∧ x = .int (lo + i), fun i _ => n ≤ i⟩
theorem turn_list {P : Program} {w : World} {K : PySem.W.Frag} {tg : Expr} (a it : Addr) : Turn P w K tg (Itl K a) [it] it (fun i h => h.IsListIter it a i) where
  mem := by simp
  obj := fun i h st b hb => by
    have e : b = it := by simpa using hb
    subst e
    obtain ⟨o, e, c, d⟩ := st
    exact ⟨o, e, fun v z => by rw [d] at z; cases z⟩
  keep := fun i h h' st k => st.at fun o e => k it (by simp) o e
  item := by
    intro X hP hw hK hc i pins s σ H E I hf st hg
    subst hP hw hK
    obtain ⟨xs, x, hq, hx⟩ := hg
    obtain ⟨its, rv, p, hz⟩ := I.list hq
    obtain ⟨u, hu, ru⟩ := rv.get hx
    obtain ⟨f0, f1, f2, f3, f4, f5⟩ := hf it (by simp)
    refine wpAny_pyNext_list_item st p.isList (x := u) (by simpa using hu) fun h' st' sb => ?_
    have I1 : Inv X pins σ H { s with heap := h' } := I.turned (t' := s.toks) (fun b o hb e => (sb.2 b hb).trans e) f0 f1 f3 f4 f5
    obtain ⟨o, e, c, d⟩ := id st'
    exact ⟨u, rfl, go_of (s := { s with heap := h' }) e c d (by decide) ⟨x, H, I1, ru, ⟨rfl, fun ys hy => by rw [I.list_inj hy hq]; exact hx⟩, st', fun b hb => (hf b hb).1⟩⟩
  done := by
    intro X hP hw hK hc i pins s σ H E I hf st hg
    subst hP hw hK
    obtain ⟨xs, hq, hx⟩ := hg
    obtain ⟨its, rv, p, hz⟩ := I.list hq
    obtain ⟨f0, f1, f2, f3, f4, f5⟩ := hf it (by simp)
    have hl := rv.length
    exact wpAny_pyNext_list_end (I.ok.hd hc) st p.isList (by simp; omega) fun h' eb => ⟨rfl, I.turned (t' := s.toks) (fun b o hb e => eb b o hb e) f0 f1 f3 f4 f5⟩
  self := fun _ _ _ _ _ st h => wpAny_pyIter_listiter st h
theorem turn_tuple {P : Program} {w : World} {K : PySem.W.Frag} {tg : Expr} (a it : Addr) : Turn P w K tg (Itt K a) [it] it (fun i h => h.IsTupleIter it a i) where
  mem := by simp
  obj := fun i h st b hb => by
    have e : b = it := by simpa using hb
    subst e
    obtain ⟨o, e, c, d⟩ := st
    exact ⟨o, e, fun v z => by rw [d] at z; cases z⟩
  keep := fun i h h' st k => st.at fun o e => k it (by simp) o e
  item := by
    intro X hP hw hK hc i pins s σ H E I hf st hg
    subst hP hw hK
    obtain ⟨xs, x, hq, hx⟩ := hg
    obtain ⟨its, rv, p, hz⟩ := I.tuple hq
    obtain ⟨u, hu, ru⟩ := rv.get hx
    obtain ⟨f0, f1, f2, f3, f4, f5⟩ := hf it (by simp)
    refine wpAny_pyNext_tuple_item st (show s.heap.IsTuple a its.toArray from p) (x := u) (by simpa using hu) fun h' st' sb => ?_
    have I1 : Inv X pins σ H { s with heap := h' } := I.turned (t' := s.toks) (fun b o hb e => (sb.2 b hb).trans e) f0 f1 f3 f4 f5
    obtain ⟨o, e, c, d⟩ := id st'
    exact ⟨u, rfl, go_of (s := { s with heap := h' }) e c d (by decide) ⟨x, H, I1, ru, ⟨rfl, fun ys hy => by rw [I.tuple_inj hy hq]; exact hx⟩, st', fun b hb => (hf b hb).1⟩⟩
  done := by
    intro X hP hw hK hc i pins s σ H E I hf st hg
    subst hP hw hK
    obtain ⟨xs, hq, hx⟩ := hg
    obtain ⟨its, rv, p, hz⟩ := I.tuple hq
    obtain ⟨f0, f1, f2, f3, f4, f5⟩ := hf it (by simp)
    have hl := rv.length
    exact wpAny_pyNext_tuple_end (I.ok.hd hc) st (show s.heap.IsTuple a its.toArray from p) (by simp; omega) fun h' eb => ⟨rfl, I.turned (t' := s.toks) (fun b o hb e => eb b o hb e) f0 f1 f3 f4 f5⟩
  self := fun _ _ _ _ _ st h => wpAny_pyIter_tupleiter st h
theorem turn_range {P : Program} {w : World} {K : PySem.W.Frag} {tg : Expr} (it : Addr) (lo : Int) (n : Nat) : Turn P w K tg (Itr lo n) [it] it (fun i h => IsRangeIter h it (lo + (i : Nat) * 1) ((n : Int) - (i : Nat)) 1) where
  mem := by simp
  obj := fun i h st b hb => by
    have e : b = it := by simpa using hb
    subst e
    exact ⟨_, st, fun v z => by
      have z' : Data.fields _ = Data.cell v := z
      cases z'⟩
  keep := fun i h h' st k => k it (by simp) _ st
  item := by
    intro X hP hw hK hc i pins s σ H E I hf st hg
    subst hP hw hK
    obtain ⟨f0, f1, f2, f3, f4, f5⟩ := hf it (by simp)
    have W := Walks.range (prog := X.prog) (w := X.w) (I.ok.hd hc) it lo 1 n
    refine W.item i s _ _ hg st fun v h' tk hv st' kk => ?_
    obtain ⟨t, rfl⟩ := hv
    have I1 : Inv X pins σ H { s with heap := h', toks := tk } := I.turned (fun b o hb e => kk b o (by simpa using hb) e) f0 f1 f3 f4 f5
    refine ⟨_, rfl, go_of (s := { s with heap := h', toks := tk }) (n := "range_iterator") st' rfl rfl (by decide) ⟨.int (lo + i), H, I1, ⟨t, ?_⟩, ⟨rfl, rfl⟩, st', fun b hb => (hf b hb).1⟩⟩
    rw [Int.mul_one]
  done := by
    intro X hP hw hK hc i pins s σ H E I hf st hg
    subst hP hw hK
    obtain ⟨f0, f1, f2, f3, f4, f5⟩ := hf it (by simp)
    exact wpAny_pyNext_range_end (I.ok.hd hc) st (by have : n ≤ i := hg; omega) fun h' eb => ⟨rfl, I.turned (t' := s.toks) (fun b o hb e => eb b o hb e) f0 f1 f3 f4 f5⟩
  self := fun _ _ _ _ _ st h => wpAny_pyIter_rangeiter st h
end L2

namespace L2
open PySem PySem.Spec PyProof.Rows
section
variable {X : Cx} {tg : Expr}
def iList (K : PySem.W.Frag) (tl : TE) : TI := fun σ H R => tl σ H fun x H1 => ∃ a, x = .ref a ∧ (∃ xs, SqL K H1 a xs) ∧ R (Itl K a) H1
def iTup (K : PySem.W.Frag) (tl : TE) : TI := fun σ H R => tl σ H fun x H1 => ∃ a, x = .ref a ∧ (∃ xs, SqT K H1 a xs) ∧ R (Itt K a) H1
theorem pi_list {l : Expr} {tl : TE} (hl : PE X l tl) : PI X tg l (iList X.K tl) := by
  intro pins s σ H R I h
  refine thn (hl pins s σ H _ I h) fun v s1 ⟨x, H1, I1, r1, q1⟩ => ?_
  obtain ⟨a, e, ⟨xs, hq⟩, q⟩ := q1
  subst e
  cases r1
  obtain ⟨its, rv, p, hz⟩ := I1.list hq
  refine wpAny_pyIter_list p.isList ?_
  refine ⟨s1.heap.objs.size, [s1.heap.objs.size], _, _, H1, rfl, I1.kept (t' := s1.toks) fun b o e => Heap.get?_push_of_some _ e, turn_list a _, ⟨_, Heap.get?_push_size _ rfl, rfl, rfl⟩, fun b hb => ?_, q⟩
  have e : b = s1.heap.objs.size := by simpa using hb
  subst e
  exact I1.fpOk (Nat.le_refl _) (I1.hok.fresh (Nat.le_refl _))
theorem pi_tup {l : Expr} {tl : TE} (hl : PE X l tl) : PI X tg l (iTup X.K tl) := by
  intro pins s σ H R I h
  refine thn (hl pins s σ H _ I h) fun v s1 ⟨x, H1, I1, r1, q1⟩ => ?_
  obtain ⟨a, e, ⟨xs, hq⟩, q⟩ := q1
  subst e
  cases r1
  obtain ⟨its, rv, p, hz⟩ := I1.tuple hq
  refine wpAny_pyIter_tuple (show s1.heap.IsTuple a its.toArray from p) ?_
  refine ⟨s1.heap.objs.size, [s1.heap.objs.size], _, _, H1, rfl, I1.kept (t' := s1.toks) fun b o e => Heap.get?_push_of_some _ e, turn_tuple a _, ⟨_, Heap.get?_push_size _ rfl, rfl, rfl⟩, fun b hb => ?_, q⟩
  have e : b = s1.heap.objs.size := by simpa using hb
  subst e
  exact I1.fpOk (Nat.le_refl _) (I1.hok.fresh (Nat.le_refl _))
theorem range_it {pins : List (Addr × Obj)} {σ : St} {H : Hp} {s : Shared} {R : It → Hp → Prop} {E : Value → Shared → Prop} {lo hi : Int} {t u v : Tok} {tk : Nat} (I : Inv X pins σ H s) (h1 : -(2 ^ 62) ≤ lo) (h2 : lo < 2 ^ 62) (h3 : -(2 ^ 62) ≤ hi) (h4 : hi < 2 ^ 62)
    (q : R (Itr lo (hi - lo).toNat) H) : wpAny (model X.prog X.w) X.A (pyIter (.ref s.heap.objs.size)) (PIE X pins σ tg R) E { s with heap := s.heap.push { cls := .type "range", data := .fields #[.int lo t, .int hi u, .int 1 v] }, toks := tk } := by
  refine wpAny_pyIter_range (IsRange.new ..) (small_one h1 h2 h3 h4) ?_
  have I1 : Inv X pins σ H { s with heap := s.heap.push { cls := .type "range", data := .fields #[.int lo t, .int hi u, .int 1 v] }, toks := tk } := I.kept fun b o e => Heap.get?_push_of_some _ e
  refine ⟨(s.heap.push { cls := .type "range", data := .fields #[.int lo t, .int hi u, .int 1 v] }).objs.size, [(s.heap.push { cls := .type "range", data := .fields #[.int lo t, .int hi u, .int 1 v] }).objs.size], _, _, H, rfl,
    I1.kept (t' := tk) fun b o e => Heap.get?_push_of_some _ e, turn_range _ lo (hi - lo).toNat, ?_, fun b hb => ?_, q⟩
  · have e1 : lo + ((0 : Nat) : Int) * 1 = lo := by simp
    have e2 : (((hi - lo).toNat : Nat) : Int) - ((0 : Nat) : Int) = Builtin.Range.rangeSize lo hi 1 := by rw [rangeSize_one]; split <;> omega
    show IsRangeIter _ _ (lo + ((0 : Nat) : Int) * 1) ((((hi - lo).toNat : Nat) : Int) - ((0 : Nat) : Int)) 1
    rw [e1, e2]
    exact Heap.get?_push_size _ rfl
  · have e : b = (s.heap.push { cls := .type "range", data := .fields #[.int lo t, .int hi u, .int 1 v] }).objs.size := by simpa using hb
    subst e
    exact I1.fpOk (Nat.le_refl _) (I1.hok.fresh (Nat.le_refl _))
def iRng1 (ta : TA) : TI := fun σ H R => ta σ H fun vs H1 => ∃ j : Int, vs = [.int j] ∧ -(2 ^ 62) ≤ j ∧ j < 2 ^ 62 ∧ R (Itr 0 j.toNat) H1
theorem pi_range1 {a : Expr} {ta : TA} {p pos : Pos} (hg : Gl X "range") (hm : X.mg "range" = none) (ha : PA X [a] ta) (hs : starEach [a] X.env = [(false, eval a X.env)] := by rfl) : PI X tg (.Call (.Name "range" p) [a] [] pos) (iRng1 ta) := by
  intro pins s σ H R I h
  refine Call_ (ld_blt I hg hm boot_range (PyProof.Rows.callWith_type1 (thn (ha pos pins s σ H _ I h) fun us s1 ⟨vs, H1, I1, r1, q1⟩ => ?_) hs rfl))
  obtain ⟨j, e, q1, q2, q⟩ := q1
  subst e
  cases r1 with
  | cons r rr =>
    cases rr
    obtain ⟨t, rfl⟩ := r
    exact call_range_1 (range_it I1 (by omega) (by omega) q1 q2 (by simpa using q))
def tFor (wi : TI) (g : TG) (tb : TS) : TS := fun D σ H => wi σ H fun J H1 => ∃ W : Nat → Nat → St → Hp → Prop, (∃ m, W 0 m σ H1) ∧ ∀ i m σ H, W i m σ H →
  (J.stop i H ∧ D.nx σ H) ∨ (J.go i H ∧ ∃ N : St → Hp → Prop, (∀ σ' H', N σ' H' → ∃ m', m' < m ∧ W (i + 1) m' σ' H') ∧ ∀ x H', J.yld i H x H' → g x σ H' fun σ2 H2 => tb { D with nx := N, ct := N, bk := D.nx } σ2 H2)
def pinsAt (fp : List Addr) (h : Heap) : List (Addr × Obj) := fp.filterMap fun b => (h.get? b).map fun o => (b, o)
theorem mem_pinsAt {fp : List Addr} {h : Heap} {b : Addr} {o : Obj} (hb : b ∈ fp) (e : h.get? b = some o) : (b, o) ∈ pinsAt fp h := List.mem_filterMap.mpr ⟨b, hb, by rw [e]; rfl⟩
theorem of_pinsAt {fp : List Addr} {h : Heap} {p : Addr × Obj} (hp : p ∈ pinsAt fp h) : p.1 ∈ fp ∧ h.get? p.1 = some p.2 := by
  obtain ⟨b, hb, e⟩ := List.mem_filterMap.mp hp
  cases q : h.get? b with
  | none => rw [q] at e; cases e
  | some o =>
    rw [q] at e
    have e' : (b, o) = p := Option.some.inj e
    subst e'
    exact ⟨hb, q⟩
theorem Inv.pinned {pins : List (Addr × Obj)} {σ : St} {H : Hp} {s : Shared} {fp : List Addr} (I : Inv X pins σ H s) (hf : ∀ b ∈ fp, FpOk X pins H b) (ho : ∀ b ∈ fp, ∃ o, s.heap.get? b = some o ∧ ∀ v, o.data ≠ .cell v) : Inv X (pins ++ pinsAt fp s.heap) σ H s :=
  I.pins_of fun p hp => (List.mem_append.mp hp).elim (fun z => I.pin p (List.mem_append_right _ z)) fun z => by
    obtain ⟨hb, e⟩ := of_pinsAt z
    obtain ⟨f0, f1, f2, _⟩ := hf p.1 hb
    obtain ⟨o, e', d⟩ := ho p.1 hb
    rw [e] at e'; cases e'
    exact ⟨e, f0, f1, f2, d⟩
theorem Inv.unpinned {pins pl : List (Addr × Obj)} {σ : St} {H : Hp} {s : Shared} (I : Inv X (pins ++ pl) σ H s) : Inv X pins σ H s := I.pins_of fun p hp => I.pin p (List.mem_append_right _ (List.mem_append_left _ hp))
theorem ps_for {iter : Expr} {body : List Stmt} {wi : TI} {g : TG} {tb : TS} {pos : Pos} (hp : PassesOwn (model X.prog X.w) X.A X.env X.xe) (hc : X.calm = true) (hi : PI X tg iter wi) (hg : PG X tg g) (hb : PSs X body tb)
    (hs : ∀ x, foldedSetIterable iter X.env x = pure x := by intro _; rfl) : PS X (.For tg iter body [] pos) (tFor wi g tb) := by
  intro pins s σ H D I h
  refine wpAny_For (thn (hi pins s σ H _ I h) fun v s1 h1 => thn h1 fun itv s2 h2 => ?_) hs
  obtain ⟨it, fp, tn, J, H2, e, I2, T, st2, f2, W, ⟨m0, w0⟩, turn⟩ := h2
  subst e
  -- what stays true of the iterator's objects through the loop
  have stat : ∀ {H' : Hp}, (∀ b ∈ fp, H' b = none) → ∀ b ∈ fp, FpOk X pins H' b := fun hn b hb => ⟨hn b hb, (f2 b hb).2⟩
  refine codeAny_forLoop_any (fun n s' => ∃ i σ' H', Inv X pins σ' H' s' ∧ tn i s'.heap ∧ (∀ b ∈ fp, H' b = none) ∧ W i n σ' H') ?_ m0 ⟨0, σ, H2, I2, st2, fun b hb => (f2 b hb).1, w0⟩
  rintro n s3 ⟨i, σ3, H3, I3, st3, fr3, w3⟩
  rcases turn i n σ3 H3 w3 with ⟨stop, qn⟩ | ⟨go, N, hN, step⟩
  · refine wpAny_passesOwn hp (thn (T.done X rfl rfl rfl hc i pins s3 σ3 H3 X.xe I3 (stat fr3) st3 stop) fun r s4 ⟨hr, I4⟩ => ?_)
    subst hr
    exact wpAny_execs_nil ⟨σ3, H3, I4, qn⟩
  · refine wpAny_passesOwn hp (thn (T.item X rfl rfl rfl hc i pins s3 σ3 H3 X.xe I3 (stat fr3) st3 go) fun r s4 ⟨u, hr, h4⟩ => ?_)
    subst hr
    refine wpAny_passesOwn hp (thn h4 fun _ s5 ⟨x, H5, I5, r5, y5, st5, fr5⟩ => ?_)
    have I5' := I5.pinned (stat fr5) (T.obj _ _ st5)
    refine wpAny_passesOwn hp (thn (hg _ s5 σ3 H5 x u _ I5' r5 (step x H5 y5)) fun _ s6 ⟨σ6, H6, I6, q6⟩ => ?_)
    refine wpAny_passesOwn hp (thn (hb _ s6 σ6 H6 _ I6 q6) fun f s7 q7 => ?_)
    have again : ∀ {σ7 : St} {H7 : Hp}, Inv X (pins ++ pinsAt fp s5.heap) σ7 H7 s7 → N σ7 H7 → ∃ m, m < n ∧ ∃ i σ' H', Inv X pins σ' H' s7 ∧ tn i s7.heap ∧ (∀ b ∈ fp, H' b = none) ∧ W i m σ' H' := fun {σ7 H7} I7 n7 => by
      obtain ⟨m', hm, w7⟩ := hN σ7 H7 n7
      refine ⟨m', hm, i + 1, σ7, H7, I7.unpinned, T.keep _ _ _ st5 fun b hb o e => (I7.pin (b, o) (List.mem_append_right _ (List.mem_append_right _ (mem_pinsAt hb e)))).1, fun b hb => ?_, w7⟩
      obtain ⟨o, e, d⟩ := T.obj _ _ st5 b hb
      exact (I7.pin (b, o) (List.mem_append_right _ (List.mem_append_right _ (mem_pinsAt hb e)))).2.1
    cases f with
    | next => obtain ⟨σ7, H7, I7, n7⟩ := q7; exact again I7 n7
    | cont => obtain ⟨σ7, H7, I7, n7⟩ := q7; exact again I7 n7
    | brk => obtain ⟨σ7, H7, I7, q7⟩ := q7; exact ⟨σ7, H7, I7.unpinned, q7⟩
    | ret v => obtain ⟨x7, σ7, H7, I7, r7, q7⟩ := q7; exact ⟨x7, σ7, H7, I7.unpinned, r7, q7⟩
end

theorem for_list {K : PySem.W.Frag} {a : Addr} {xs : List V} {g : TG} {tb : TS} {D : Ends} {σ : St} {H : Hp} (Pv : Nat → St → Hp → Prop) (h0 : Pv 0 σ H) (hl : ∀ i σ H, i ≤ xs.length → Pv i σ H → SqL K H a xs)
    (hs : ∀ i x σ H, xs[i]? = some x → Pv i σ H → g x σ H fun σ2 H2 => tb { D with nx := Pv (i + 1), ct := Pv (i + 1), bk := D.nx } σ2 H2) (hd : ∀ σ H, Pv xs.length σ H → D.nx σ H) :
    ∃ W : Nat → Nat → St → Hp → Prop, (∃ m, W 0 m σ H) ∧ ∀ i m σ H, W i m σ H →
      ((Itl K a).stop i H ∧ D.nx σ H) ∨ ((Itl K a).go i H ∧ ∃ N : St → Hp → Prop, (∀ σ' H', N σ' H' → ∃ m', m' < m ∧ W (i + 1) m' σ' H') ∧ ∀ x H', (Itl K a).yld i H x H' → g x σ H' fun σ2 H2 => tb { D with nx := N, ct := N, bk := D.nx } σ2 H2) := by
  refine ⟨fun i m σ H => m = xs.length - i ∧ i ≤ xs.length ∧ Pv i σ H, ⟨xs.length, by simp, Nat.zero_le _, h0⟩, ?_⟩
  rintro i m σ H ⟨rfl, hi, p⟩
  have q := hl i σ H hi p
  by_cases hlt : i < xs.length
  · refine .inr ⟨⟨xs, xs[i], q, by simp [hlt]⟩, Pv (i + 1), fun σ' H' p' => ⟨xs.length - (i + 1), by omega, rfl, hlt, p'⟩, fun x H' y => ?_⟩
    obtain ⟨e, y⟩ := y
    subst e
    exact hs i x σ _ (y xs q) p
  · have e : i = xs.length := by omega
    subst e
    exact .inl ⟨⟨xs, q, Nat.le_refl _⟩, hd σ H p⟩
theorem for_range {lo : Int} {n : Nat} {g : TG} {tb : TS} {D : Ends} {σ : St} {H : Hp} (Pv : Nat → St → Hp → Prop) (h0 : Pv 0 σ H)
    (hs : ∀ i σ H, i < n → Pv i σ H → g (.int (lo + i)) σ H fun σ2 H2 => tb { D with nx := Pv (i + 1), ct := Pv (i + 1), bk := D.nx } σ2 H2) (hd : ∀ σ H, Pv n σ H → D.nx σ H) :
    ∃ W : Nat → Nat → St → Hp → Prop, (∃ m, W 0 m σ H) ∧ ∀ i m σ H, W i m σ H →
      ((Itr lo n).stop i H ∧ D.nx σ H) ∨ ((Itr lo n).go i H ∧ ∃ N : St → Hp → Prop, (∀ σ' H', N σ' H' → ∃ m', m' < m ∧ W (i + 1) m' σ' H') ∧ ∀ x H', (Itr lo n).yld i H x H' → g x σ H' fun σ2 H2 => tb { D with nx := N, ct := N, bk := D.nx } σ2 H2) := by
  refine ⟨fun i m σ H => m = n - i ∧ i ≤ n ∧ Pv i σ H, ⟨n, by simp, Nat.zero_le _, h0⟩, ?_⟩
  rintro i m σ H ⟨rfl, hi, p⟩
  by_cases hlt : i < n
  · refine .inr ⟨hlt, Pv (i + 1), fun σ' H' p' => ⟨n - (i + 1), by omega, rfl, hlt, p'⟩, fun x H' y => ?_⟩
    obtain ⟨e, y⟩ := y
    subst e y
    exact hs i σ _ hlt p
  · have e : i = n := by omega
    subst e
    exact .inl ⟨Nat.le_refl _, hd σ H p⟩
end L2

namespace L2
open PySem PySem.Spec PyProof.Rows
abbrev R2 := V → V → Hp → VK → Prop
def OpR (X : Cx) (f : Value → Value → Sem Value) (r : R2) : Prop :=
  ∀ (pins : List (Addr × Obj)) (s : Shared) (σ : St) (H : Hp) (x y : V) (v u : Value) (Q : VK), Inv X pins σ H s → RelV x v → RelV y u → r x y H Q →
    wpAny (model X.prog X.w) X.A (f v u) (EP X pins σ Q) X.xe s
def UnR (X : Cx) (f : Value → Sem Value) (r : V → Hp → VK → Prop) : Prop :=
  ∀ (pins : List (Addr × Obj)) (s : Shared) (σ : St) (H : Hp) (x : V) (v : Value) (Q : VK), Inv X pins σ H s → RelV x v → r x H Q →
    wpAny (model X.prog X.w) X.A (f v) (EP X pins σ Q) X.xe s
def CallR (X : Cx) (f : Value) (r : List V → Hp → VK → Prop) : Prop :=
  ∀ (pins : List (Addr × Obj)) (s : Shared) (σ : St) (H : Hp) (xs : List V) (us : List Value) (Q : VK), Inv X pins σ H s → Vals xs us → r xs H Q →
    wpAny (model X.prog X.w) X.A (call f us) (EP X pins σ Q) X.xe s
def TruR (X : Cx) (r : V → Hp → (Bool → Hp → Prop) → Prop) : Prop :=
  ∀ (pins : List (Addr × Obj)) (s : Shared) (σ : St) (H : Hp) (x : V) (v : Value) (Q : Bool → Hp → Prop), Inv X pins σ H s → RelV x v → r x H Q →
    wpAny (model X.prog X.w) X.A (truthy v) (TP X pins σ Q) X.xe s
def tOp (r : R2) (ta tb : TE) : TE := fun σ H Q => ta σ H fun x H1 => tb σ H1 fun y H2 => r x y H2 Q
def tUn (r : V → Hp → VK → Prop) (ta : TE) : TE := fun σ H Q => ta σ H fun x H1 => r x H1 Q
def rI (C : Int → Int → Prop) (g : Int → Int → V) : R2 := fun x y H Q => ∃ i j, x = .int i ∧ y = .int j ∧ C i j ∧ Q (g i j) H
def rI0 (g : Int → Int → V) : R2 := fun x y H Q => ∃ i j, x = .int i ∧ y = .int j ∧ Q (g i j) H
def rU (g : Int → V) : V → Hp → VK → Prop := fun x H Q => ∃ i, x = .int i ∧ Q (g i) H
section
variable {X : Cx} {a b c : Expr} {ta tb tc : TE} {pos : Pos}
theorem binT (ha : PE X a ta) (hb : PE X b tb) {pins : List (Addr × Obj)} {s : Shared} {σ : St} {H : Hp} {R : V → V → Hp → Prop} (I : Inv X pins σ H s)
    (h : ta σ H fun x H1 => tb σ H1 fun y H2 => R x y H2) {Q : Value → Shared → Prop} {f : Value → Value → Sem Value}
    (hf : ∀ v u s2 x y H2, Inv X pins σ H2 s2 → RelV x v → RelV y u → R x y H2 → wpAny (model X.prog X.w) X.A (f v u) Q X.xe s2) :
    wpAny (model X.prog X.w) X.A (eval a X.env) (fun v s₁ => wpAny (model X.prog X.w) X.A (eval b X.env) (fun u s₂ => wpAny (model X.prog X.w) X.A (f v u) Q X.xe s₂) X.xe s₁) X.xe s := by
  refine thn (ha pins s σ H _ I h) fun v s1 ⟨x, H1, I1, r1, q1⟩ => ?_
  refine thn (hb pins s1 σ H1 _ I1 q1) fun u s2 ⟨y, H2, I2, r2, q2⟩ => ?_
  exact hf v u s2 x y H2 I2 r1 r2 q2
theorem pe_op {op : Operator} {r : R2} (ho : OpR X (binaryOp op) r) (ha : PE X a ta) (hb : PE X b tb) : PE X (.BinOp a op b pos) (tOp r ta tb) := by
  intro pins s σ H Q I h
  exact wpAny_BinOp (binT ha hb I h fun v u s2 x y H2 I2 rx ry q => ho pins s2 σ H2 x y v u Q I2 rx ry q)
theorem pe_un {op : UnaryOp} {r : V → Hp → VK → Prop} (ho : UnR X (unaryOp op) r) (ha : PE X a ta) : PE X (.UnaryOp op a pos) (tUn r ta) := by
  intro pins s σ H Q I h
  exact UnaryOp_ (thn (ha pins s σ H _ I h) fun v s1 ⟨x, H1, I1, r1, q1⟩ => ho pins s1 σ H1 x v Q I1 r1 q1)
theorem opI {f : Value → Value → Sem Value} {C : Int → Int → Prop} {g : Int → Int → Int}
    (rule : ∀ (i j : Int) (t u : Tok) (s : Shared) (Q : Value → Shared → Prop) (E : Value → Shared → Prop), C i j → Q (.int (g i j) s.toks) { s with toks := s.toks + 1 } → wpAny (model X.prog X.w) X.A (f (.int i t) (.int j u)) Q E s) :
    OpR X f (rI C fun i j => .int (g i j)) := by
  intro pins s σ H x y v u Q I rx ry h
  obtain ⟨i, j, rfl, rfl, hc, q⟩ := h
  obtain ⟨t, rfl⟩ := rx
  obtain ⟨t', rfl⟩ := ry
  exact rule i j t t' s _ _ hc ⟨.int (g i j), H, I.tok _, ⟨_, rfl⟩, q⟩
theorem opI0 {f : Value → Value → Sem Value} {g : Int → Int → Int}
    (rule : ∀ (i j : Int) (t u : Tok) (s : Shared) (Q : Value → Shared → Prop) (E : Value → Shared → Prop), Q (.int (g i j) s.toks) { s with toks := s.toks + 1 } → wpAny (model X.prog X.w) X.A (f (.int i t) (.int j u)) Q E s) :
    OpR X f (rI0 fun i j => .int (g i j)) := by
  intro pins s σ H x y v u Q I rx ry h
  obtain ⟨i, j, rfl, rfl, q⟩ := h
  obtain ⟨t, rfl⟩ := rx
  obtain ⟨t', rfl⟩ := ry
  exact rule i j t t' s _ _ ⟨.int (g i j), H, I.tok _, ⟨_, rfl⟩, q⟩
theorem opB0 {f : Value → Value → Sem Value} {g : Int → Int → Bool}
    (rule : ∀ (i j : Int) (t u : Tok) (s : Shared) (Q : Value → Shared → Prop) (E : Value → Shared → Prop), Q (.bool (g i j)) s → wpAny (model X.prog X.w) X.A (f (.int i t) (.int j u)) Q E s) :
    OpR X f (rI0 fun i j => .bl (g i j)) := by
  intro pins s σ H x y v u Q I rx ry h
  obtain ⟨i, j, rfl, rfl, q⟩ := h
  obtain ⟨t, rfl⟩ := rx
  obtain ⟨t', rfl⟩ := ry
  exact rule i j t t' s _ _ ⟨.bl (g i j), H, I, rfl, q⟩
def CDiv (i j : Int) : Prop := 0 < j ∧ j < 1073741824
def CMul (i j : Int) : Prop := (-(2 ^ 64) < i ∧ i < 2 ^ 64) ∨ (-(2 ^ 64) < j ∧ j < 2 ^ 64)
theorem CMul.ok {i j : Int} (h : CMul i j) : IntMulOk i j := by
  rcases h with ⟨h1, h2⟩ | ⟨h1, h2⟩
  · exact .of_left (intBits_le_64 h1 h2)
  · exact .of_right (intBits_le_64 h1 h2)
theorem op_add : OpR X (binaryOp .Add) (rI0 fun i j => .int (i + j)) := opI0 fun _ _ _ _ _ _ _ q => add_int q
theorem op_sub : OpR X (binaryOp .Sub) (rI0 fun i j => .int (i - j)) := opI0 fun _ _ _ _ _ _ _ q => sub_int q
theorem op_mul : OpR X (binaryOp .Mult) (rI CMul fun i j => .int (i * j)) := opI fun _ _ _ _ _ _ _ hc q => mul_int q hc.ok
theorem op_fdiv : OpR X (binaryOp .FloorDiv) (rI CDiv fun i j => .int (i / j)) := opI fun i j _ _ _ _ _ hc q => by
  have h1 : (0 : Int) < j := hc.1
  have h2 : j < 1073741824 := hc.2
  exact floordiv_int (by omega) (by rw [Int.fdiv_eq_ediv_of_nonneg i (by omega)]; exact q) (.inl (PyProof.noPylong_small (by omega)))
theorem op_mod : OpR X (binaryOp .Mod) (rI (fun _ j => 0 < j) fun i j => .int (i % j)) := opI fun i j _ _ _ _ _ hc q => by
  have h1 : (0 : Int) < j := hc
  exact mod_int' (by omega) (by rw [Int.fmod_eq_emod_of_nonneg i (by omega)]; exact q)
theorem unI {f : Value → Sem Value} {g : Int → Int}
    (rule : ∀ (i : Int) (t : Tok) (s : Shared) (Q : Value → Shared → Prop) (E : Value → Shared → Prop), Q (.int (g i) s.toks) { s with toks := s.toks + 1 } → wpAny (model X.prog X.w) X.A (f (.int i t)) Q E s) :
    UnR X f (rU fun i => .int (g i)) := by
  intro pins s σ H x v Q I rx h
  obtain ⟨i, rfl, q⟩ := h
  obtain ⟨t, rfl⟩ := rx
  exact rule i t s _ _ ⟨.int (g i), H, I.tok _, ⟨_, rfl⟩, q⟩
theorem un_neg : UnR X (unaryOp .USub) (rU fun i => .int (-i)) := unI fun _ _ _ _ _ q => neg_int q
end

def scal : V → V → Bool
  | .non, .non => true | .non, .int _ => true | .int _, .non => true | .non, .bl _ => true | .bl _, .non => true | .non, .str _ => true | .str _, .non => true
  | .int _, .int _ => true | .bl _, .bl _ => true | .str _, .str _ => true | .byt _, .byt _ => true
  | .int _, .str _ => true | .str _, .int _ => true | .bl _, .str _ => true | .str _, .bl _ => true
  | _, _ => false
def rEq : R2 := fun x y H Q => scal x y = true ∧ Q (.bl (decide (x = y))) H
def rNe : R2 := fun x y H Q => scal x y = true ∧ Q (.bl (!decide (x = y))) H
theorem dec_int {i j : Int} : decide (V.int i = V.int j) = (i == j) := by
  rw [Bool.eq_iff_iff]
  simp
theorem dec_bl {i j : Bool} : decide (V.bl i = V.bl j) = (i == j) := by
  rw [Bool.eq_iff_iff]
  simp
theorem dec_str {i j : Str} : decide (V.str i = V.str j) = (i == j) := by
  rw [Bool.eq_iff_iff]
  simp
theorem dec_byt {i j : Array UInt8} : decide (V.byt i = V.byt j) = (i.toList == j.toList) := by
  rw [Bool.eq_iff_iff]
  cases i
  cases j
  simp
section
variable {X : Cx} {a b c : Expr} {ta tb tc : TE} {pos : Pos}
theorem fin_bl {pins : List (Addr × Obj)} {σ : St} {H : Hp} {s : Shared} {Q : VK} {k k' : Bool} (I : Inv X pins σ H s) (q : Q (.bl k) H) (e : k = k') : EP X pins σ Q (.bool k') s := by
  subst e
  exact ⟨.bl k, H, I, rfl, q⟩
theorem op_eq : OpR X (compareOp .Eq) rEq := by
  intro pins s σ H x y v u Q I rx ry h
  obtain ⟨hs, q⟩ := h
  cases x with
  | non =>
    cases rx
    cases y with
    | non => cases ry; exact PySem.EqNone.eq_none_none (fin_bl I q (by simp))
    | bl j => cases ry; exact PySem.EqNone.eq_none_bool (fin_bl I q (by simp))
    | int j => obtain ⟨t', rfl⟩ := ry; exact PySem.EqNone.eq_none_int (fin_bl I q (by simp))
    | str j => obtain ⟨t', rfl⟩ := ry; exact PySem.EqNone.eq_none_str (fin_bl I q (by simp))
    | _ => exact absurd (show false = true from hs) Bool.false_ne_true
  | bl i =>
    cases rx
    cases y with
    | non => cases ry; exact PySem.EqNone.eq_bool_none (fin_bl I q (by simp))
    | bl j => cases ry; exact eq_bool (fin_bl I q dec_bl)
    | str j => obtain ⟨t', rfl⟩ := ry; exact PySem.EqMixed.eq_bool_str (fin_bl I q (by simp))
    | _ => exact absurd (show false = true from hs) Bool.false_ne_true
  | int i =>
    obtain ⟨t, rfl⟩ := rx
    cases y with
    | non => cases ry; exact PySem.EqNone.eq_int_none (fin_bl I q (by simp))
    | int j => obtain ⟨t', rfl⟩ := ry; exact eq_int (fin_bl I q dec_int)
    | str j => obtain ⟨t', rfl⟩ := ry; exact PySem.EqMixed.eq_int_str (fin_bl I q (by simp))
    | _ => exact absurd (show false = true from hs) Bool.false_ne_true
  | str i =>
    obtain ⟨t, rfl⟩ := rx
    cases y with
    | non => cases ry; exact PySem.EqNone.eq_str_none (fin_bl I q (by simp))
    | bl j => cases ry; exact PySem.EqMixed.eq_str_bool (fin_bl I q (by simp))
    | int j => obtain ⟨t', rfl⟩ := ry; exact PySem.EqMixed.eq_str_int (fin_bl I q (by simp))
    | str j => obtain ⟨t', rfl⟩ := ry; exact eq_str (fin_bl I q dec_str)
    | _ => exact absurd (show false = true from hs) Bool.false_ne_true
  | byt i =>
    obtain ⟨t, rfl⟩ := rx
    cases y with
    | byt j => obtain ⟨t', rfl⟩ := ry; exact PySem.W.eq_bytes (fin_bl I q dec_byt)
    | _ => exact absurd (show false = true from hs) Bool.false_ne_true
  | _ => cases y <;> exact absurd (show false = true from hs) Bool.false_ne_true
theorem op_ne : OpR X (compareOp .NotEq) rNe := by
  intro pins s σ H x y v u Q I rx ry h
  obtain ⟨hs, q⟩ := h
  cases x with
  | non =>
    cases rx
    cases y with
    | non => cases ry; exact PySem.EqNone.ne_none_none (fin_bl I q (by simp))
    | bl j => cases ry; exact PySem.EqNone.ne_none_bool (fin_bl I q (by simp))
    | int j => obtain ⟨t', rfl⟩ := ry; exact PySem.EqNone.ne_none_int (fin_bl I q (by simp))
    | str j => obtain ⟨t', rfl⟩ := ry; exact PySem.EqNone.ne_none_str (fin_bl I q (by simp))
    | _ => exact absurd (show false = true from hs) Bool.false_ne_true
  | bl i =>
    cases rx
    cases y with
    | non => cases ry; exact PySem.EqNone.ne_bool_none (fin_bl I q (by simp))
    | bl j => cases ry; exact ne_bool (fin_bl I q (congrArg not dec_bl))
    | str j => obtain ⟨t', rfl⟩ := ry; exact PySem.EqMixed.ne_bool_str (fin_bl I q (by simp))
    | _ => exact absurd (show false = true from hs) Bool.false_ne_true
  | int i =>
    obtain ⟨t, rfl⟩ := rx
    cases y with
    | non => cases ry; exact PySem.EqNone.ne_int_none (fin_bl I q (by simp))
    | int j => obtain ⟨t', rfl⟩ := ry; exact ne_int (fin_bl I q (congrArg not dec_int))
    | str j => obtain ⟨t', rfl⟩ := ry; exact PySem.EqMixed.ne_int_str (fin_bl I q (by simp))
    | _ => exact absurd (show false = true from hs) Bool.false_ne_true
  | str i =>
    obtain ⟨t, rfl⟩ := rx
    cases y with
    | non => cases ry; exact PySem.EqNone.ne_str_none (fin_bl I q (by simp))
    | bl j => cases ry; exact PySem.EqMixed.ne_str_bool (fin_bl I q (by simp))
    | int j => obtain ⟨t', rfl⟩ := ry; exact PySem.EqMixed.ne_str_int (fin_bl I q (by simp))
    | str j => obtain ⟨t', rfl⟩ := ry; exact ne_str (fin_bl I q (congrArg not dec_str))
    | _ => exact absurd (show false = true from hs) Bool.false_ne_true
  | byt i =>
    obtain ⟨t, rfl⟩ := rx
    cases y with
    | byt j => obtain ⟨t', rfl⟩ := ry; exact PySem.W.ne_bytes (fin_bl I q (congrArg not dec_byt))
    | _ => exact absurd (show false = true from hs) Bool.false_ne_true
  | _ => cases y <;> exact absurd (show false = true from hs) Bool.false_ne_true
theorem op_lt : OpR X (compareOp .Lt) (rI0 fun i j => .bl (decide (i < j))) := opB0 fun _ _ _ _ _ _ _ q => lt_int q
theorem op_le : OpR X (compareOp .LtE) (rI0 fun i j => .bl (decide (i ≤ j))) := opB0 fun _ _ _ _ _ _ _ q => le_int q
theorem op_gt : OpR X (compareOp .Gt) (rI0 fun i j => .bl (decide (j < i))) := opB0 fun _ _ _ _ _ _ _ q => gt_int q
theorem op_ge : OpR X (compareOp .GtE) (rI0 fun i j => .bl (decide (j ≤ i))) := opB0 fun _ _ _ _ _ _ _ q => ge_int q
theorem op_isN : OpR X (compareOp .Is) (fun x y H Q => y = .non ∧ Q (.bl (decide (x = .non))) H) := by
  intro pins s σ H x y v u Q I rx ry h
  obtain ⟨rfl, q⟩ := h
  cases ry
  refine is_none_gen (fin_bl I q ?_)
  cases x <;> first
    | (cases rx; rfl)
    | (obtain ⟨t, rfl⟩ := rx; rfl)
theorem op_notN : OpR X (compareOp .IsNot) (fun x y H Q => y = .non ∧ Q (.bl (!decide (x = .non))) H) := by
  intro pins s σ H x y v u Q I rx ry h
  obtain ⟨rfl, q⟩ := h
  cases ry
  refine isnot_none_gen (fin_bl I q ?_)
  cases x <;> first
    | (cases rx; rfl)
    | (obtain ⟨t, rfl⟩ := rx; rfl)
theorem nomark (b : Expr) {op : CmpOp} (h : op ≠ .In := by decide) (h2 : op ≠ .NotIn := by decide) : behindInMarks op b = false := by
  have e1 : (op == CmpOp.In) = false := by cases op <;> first | rfl | exact absurd rfl h
  have e2 : (op == CmpOp.NotIn) = false := by cases op <;> first | rfl | exact absurd rfl h2
  cases b <;> simp [behindInMarks, e1, e2]
theorem pe_cmpR {op : CmpOp} {r : R2} (ho : OpR X (compareOp op) r) (ha : PE X a ta) (hb : PE X b tb) (hm : behindInMarks op b = false) : PE X (.Compare a [op] [b] pos) (tOp r ta tb) := by
  intro pins s σ H Q I h
  exact wpAny_Compare1 (binT ha hb I h fun v u s2 x y H2 I2 rx ry q => ho pins s2 σ H2 x y v u Q I2 rx ry q) hm
def tTest (t : TE) : TT := fun σ H Q => t σ H fun x H' => ∃ k, x = .bl k ∧ Q k H'
theorem pt_cmpR {op : CmpOp} {r : R2} (ho : OpR X (compareOp op) r) (ha : PE X a ta) (hb : PE X b tb) (hm : behindInMarks op b = false) : PT X (.Compare a [op] [b] pos) (tTest (tOp r ta tb)) := by
  intro pins s σ H Q I h
  refine wpAny_isTrue_Compare1 (thn (ha pins s σ H _ I h) fun v s1 ⟨x, H1, I1, r1, q1⟩ => thn (hb pins s1 σ H1 _ I1 q1) fun u s2 ⟨y, H2, I2, r2, q2⟩ =>
    thn (ho pins s2 σ H2 x y v u _ I2 r1 r2 q2) fun c s3 ⟨z, H3, I3, r3, k, e, q3⟩ => ?_) hm
  subst e
  cases r3
  exact wpAny_truthy_bool ⟨H3, I3, q3⟩
def tChain (r r' : R2) (ta tb tc : TE) : TE := fun σ H Q => ta σ H fun x H1 => tb σ H1 fun y H2 => r x y H2 fun z H3 => ∃ k, z = .bl k ∧
  (if k = true then tc σ H3 fun w' H4 => r' y w' H4 Q else Q (.bl false) H3)
theorem pe_chain {op op' : CmpOp} {r r' : R2} (ho : OpR X (compareOp op) r) (ho' : OpR X (compareOp op') r') (ha : PE X a ta) (hb : PE X b tb) (hc : PE X c tc)
    (hm : lastMarks [op, op'] [b, c] = false := by with_unfolding_all rfl) : PE X (.Compare a [op, op'] [b, c] pos) (tChain r r' ta tb tc) := by
  intro pins s σ H Q I h
  refine Compare_chain (thn (ha pins s σ H _ I h) fun v s1 ⟨x, H1, I1, r1, q1⟩ => chain_link (thn (hb pins s1 σ H1 _ I1 q1) fun u s2 ⟨y, H2, I2, r2, q2⟩ =>
    thn (ho pins s2 σ H2 x y v u _ I2 r1 r2 q2) fun d s3 ⟨z, H3, I3, r3, k, e, q3⟩ => ?_)) hm
  subst e
  cases r3
  refine wpAny_truthy_bool ?_
  cases k with
  | false => exact ite_ff ⟨.bl false, H3, I3, rfl, q3⟩
  | true => exact ite_tt (chain_last (thn (hc pins s3 σ H3 _ I3 q3) fun w' s4 ⟨z', H4, I4, r4, q4⟩ => ho' pins s4 σ H4 y z' u w' Q I4 r2 r4 q4))
def TruV (K : PySem.W.Frag) (x : V) (H : Hp) (k : Bool) : Prop :=
  match x with
  | .non => k = false
  | .bl b => k = b
  | .int i => k = (i != 0)
  | .str y => y.length ≤ sizeLine ∧ k = ((y.length : Int) != 0)
  | .byt y => y.size ≤ sizeLine ∧ k = ((y.size : Int) != 0)
  | .ref p => (∃ xs, SqL K H p xs ∧ k = !xs.isEmpty) ∨ (∃ xs, SqT K H p xs ∧ k = !xs.isEmpty) ∨ ∃ kvs, H p = some (.dK kvs) ∧ k = !kvs.isEmpty
  | _ => False
theorem isEmpty_kv {κ : Type} {kvs : List (κ × V)} {vs : List (κ × Value)} (r : KV kvs vs) : (!vs.isEmpty) = !kvs.isEmpty := by
  cases r <;> rfl
theorem isEmpty_of {xs : List V} {its : List Value} (r : Vals xs its) : (!its.toArray.isEmpty) = !xs.isEmpty := by
  cases r <;> simp
theorem line63 : (sizeLine : Nat) < 2 ^ 63 := by rw [sizeLine_eq]; decide
theorem tru_ok : TruR X (fun x H Q => ∃ k, TruV X.K x H k ∧ Q k H) := by
  intro pins s σ H x v Q I rx h
  obtain ⟨k, e, q⟩ := h
  have hl := line63
  have hs : sizeLine = 16777216 := sizeLine_eq
  cases x with
  | non =>
    cases rx
    have e' : k = false := e
    subst e'
    exact truthy_none ⟨H, I, q⟩
  | bl b =>
    cases rx
    have e' : k = b := e
    subst e'
    exact wpAny_truthy_bool ⟨H, I, q⟩
  | int i =>
    obtain ⟨t, rfl⟩ := rx
    have e' : k = (i != 0) := e
    subst e'
    exact PySem.P.truthy_int ⟨H, I, q⟩
  | str y =>
    obtain ⟨t, rfl⟩ := rx
    obtain ⟨hy, e'⟩ : y.length ≤ sizeLine ∧ k = ((y.length : Int) != 0) := e
    subst e'
    exact PySem.P.truthy_str (by omega) ⟨H, I.tok _, q⟩
  | byt y =>
    obtain ⟨t, rfl⟩ := rx
    obtain ⟨hy, e'⟩ : y.size ≤ sizeLine ∧ k = ((y.size : Int) != 0) := e
    subst e'
    exact PySem.W.truthy_bytes (by omega) ⟨H, I.tok _, q⟩
  | ref p =>
    cases rx
    have e' : (∃ xs, SqL X.K H p xs ∧ k = !xs.isEmpty) ∨ (∃ xs, SqT X.K H p xs ∧ k = !xs.isEmpty) ∨ ∃ kvs, H p = some (.dK kvs) ∧ k = !kvs.isEmpty := e
    rcases e' with ⟨xs, hx, e'⟩ | ⟨xs, hx, e'⟩ | ⟨kvs, hx, e'⟩
    · subst e'
      obtain ⟨its, r, pl, hz⟩ := I.list hx
      have hlen := r.length
      exact wpAny_truthy_list pl.isList (by simp only [List.size_toArray]; omega) ⟨H, I.tok _, by rw [isEmpty_of r]; exact q⟩
    · subst e'
      obtain ⟨its, r, pl, hz⟩ := I.tuple hx
      have hlen := r.length
      exact truthy_tuple pl (by simp only [List.size_toArray]; omega) ⟨H, I.tok _, by rw [isEmpty_of r]; exact q⟩
    · subst e'
      obtain ⟨hz, hS, vs, r, m⟩ : kvs.length ≤ sizeLine ∧ (p == sysModules) = false ∧ ∃ vs, KV kvs vs ∧ s.heap.DictOf (mixKind X.prog X.w) p vs := I.hok p _ hx
      have hlen : kvs.length = vs.length := Paired.length r
      exact wpAny_truthy_dict hS m (by omega) ⟨H, I.tok _, by rw [isEmpty_kv r]; exact q⟩
  | _ => exact (show False from e).elim
theorem pt_truth (ha : PE X a ta) (he : ∀ whole, isTrue a X.env whole = (do let v ← whole; standAt a.pos; holding [v] (truthy v))) :
    PT X a (fun σ H Q => ta σ H fun x H' => ∃ k, TruV X.K x H' k ∧ Q k H') := by
  intro pins s σ H Q I h
  exact isTrue_plain (thn (ha pins s σ H _ I h) fun v s1 ⟨x, H1, I1, r1, q1⟩ => tru_ok pins s1 σ H1 x v Q I1 r1 q1) (he _)
theorem vals1 {x : V} {us : List Value} (r : Vals [x] us) : ∃ u, us = [u] ∧ RelV x u := by
  cases r with
  | cons r1 r2 => cases r2; exact ⟨_, rfl, r1⟩
theorem vals2 {x y : V} {us : List Value} (r : Vals [x, y] us) : ∃ u w', us = [u, w'] ∧ RelV x u ∧ RelV y w' := by
  cases r with
  | cons r1 r2 =>
    cases r2 with
    | cons r3 r4 => cases r4; exact ⟨_, _, rfl, r1, r3⟩
theorem call_max2 (hc : X.calm = true) : CallR X (.builtin "max") (fun xs H Q => ∃ i j, xs = [.int i, .int j] ∧ Q (.int (if j > i then j else i)) H) := by
  intro pins s σ H xs us Q I r h
  obtain ⟨i, j, rfl, q⟩ := h
  obtain ⟨u, w', rfl, ⟨t, rfl⟩, ⟨t', rfl⟩⟩ := vals2 r
  refine max_two_ints (I.ok.hd hc) fun h' tk k => ⟨_, H, I.kept k, ?_, q⟩
  by_cases hj : j > i
  · rw [if_pos hj, if_pos hj]; exact ⟨_, rfl⟩
  · rw [if_neg hj, if_neg hj]; exact ⟨_, rfl⟩
end
end L2

namespace L2
open PySem PySem.Spec PyProof.Rows
structure ObjM (h : Heap) (x dx C : Addr) (mA : Str → Option Value) : Prop where
  obj : h.get? x = some (PySem.W.instObj C dx)
  ns : h.Ns1 dx mA
  ne : dx ≠ x
theorem lookIn_ns {h : Heap} {dx : Addr} {mA : Str → Option Value} (n : h.Ns1 dx mA) : ∃ od, h.get? dx = some od ∧ ∀ name, PySem.W.lookIn name od = some (mA name) := by
  obtain ⟨o, es, ep, ho, hd, hk, _, hm⟩ := n
  refine ⟨o, ho, fun name => ?_⟩
  have e := hm name
  unfold nsFind findBy at e
  rw [← Array.find?_toList] at e
  unfold PySem.W.lookIn
  rw [hd]
  dsimp only
  split
  · rename_i y q
    rw [q] at e
    exact congrArg some e
  · rename_i q
    rw [q] at e
    have a : es.toList.any (·.refKey) = false := by
      rw [List.any_eq_false]
      intro y hy
      obtain ⟨z, t, hkey⟩ := hk y (Array.mem_toList_iff.mp hy)
      simp [DictEntry.refKey, hkey]
    have a' : ¬ es.toList.any (·.refKey) = true := by rw [a]; exact Bool.false_ne_true
    rw [if_neg a']
    exact congrArg some e
theorem ObjM.look {h : Heap} {x dx C : Addr} {mA : Str → Option Value} (I : ObjM h x dx C mA) : ∃ od, PySem.W.InstAt h x (PySem.W.instObj C dx) C (some od) ∧ ∀ name, PySem.W.lookIn name od = some (mA name) :=
  let ⟨od, ho, hl⟩ := lookIn_ns I.ns
  ⟨od, ⟨I.obj, rfl, rfl, ho⟩, hl⟩
section
variable {prog : Program} {w : World} {A : Around} {E : Value → Shared → Prop} {s : Shared} {K : PySem.W.Frag} {x dx C f : Addr} {mA : Str → Option Value} {name : Str} {v : Value}
end

section
variable {P : Program} {w : World} {H H' : Hp} {h h' : Heap} {a C dx : Addr} {fs fs' : List (Str × V)}
theorem ins_get (hok : HOk P w H h) (e : H a = some (.ins C dx fs)) : ∃ mA, ObjM h a dx C mA ∧ (∀ f, RelO (fs.lookup f) (mA f)) ∧ PySem.Within mA (fs.map (·.1)) ∧ fs.length ≤ 1000 ∧ H dx = some (.own a) := by
  obtain ⟨d, z, ne, ob, mA, n, r, q⟩ := (show ObjOk P w H h a (.ins C dx fs) from hok a _ e)
  exact ⟨mA, ⟨ob, n, ne⟩, r, q, z, d⟩
end

structure Cls (K : PySem.W.Frag) (C : Addr) : Prop where
  pg : PySem.W.plainGet K C Str.empty = true
  hd : PySem.W.hasDictIn K C = true
  po : PySem.W.plainOver K C = true
  sa : PySem.W.findIn K (.ref C) "__setattr__" = some (some (.builtin "object.__setattr__"))
theorem Cls.get {K : PySem.W.Frag} {C : Addr} (c : Cls K C) (f : Str) : PySem.W.plainGet K C f = true := c.pg
section
variable {X : Cx} {pins : List (Addr × Obj)} {σ : St} {H : Hp} {s : Shared} {a C dx : Addr} {fs : List (Str × V)} {f : Str} {v : V} {A : Around} {E : Value → Shared → Prop}
end

section
variable {X : Cx} {o e value : Expr} {f : Str} {pos pos' tpos : Pos} {ta tv : TE}
end

section
variable {X : Cx} {pins : List (Addr × Obj)} {σ : St} {H : Hp} {s : Shared} {A : Around} {E : Value → Shared → Prop} {Q : Value → Shared → Prop} {c : Value} {b : Bool}
inductive TyOf (K : PySem.W.Frag) (H : Hp) : V → Value → Prop where
  | non : TyOf K H .non (.type "NoneType")
  | bl (x : Bool) : TyOf K H (.bl x) (.type "bool")
  | int (i : Int) : TyOf K H (.int i) (.type "int")
  | str (x : Str) : TyOf K H (.str x) (.type "str")
  | flt (x : UInt64) : TyOf K H (.flt x) (.type "float")
  | lst {a : Addr} {xs : List V} (e : H a = some (.lst xs)) : TyOf K H (.ref a) (.type "list")
  | frz {a : Addr} {o : Obj} {xs : List V} (e : H a = some (.frz o (.lst xs))) : TyOf K H (.ref a) (.type "list")
  | tup {a : Addr} {xs : List V} (e : H a = some (.tup xs)) : TyOf K H (.ref a) (.type "tuple")
  | dK {a : Addr} {kvs : List (Key × V)} (e : H a = some (.dK kvs)) : TyOf K H (.ref a) (.type "dict")
  | dT {a : Addr} {kvs : List (List Key × V)} (e : H a = some (.dT kvs)) : TyOf K H (.ref a) (.type "dict")
  | ins {a C dx : Addr} {fs : List (Str × V)} (e : H a = some (.ins C dx fs)) (cl : Cls K C) (ha : PySem.W.findIn K (.ref C) "__class__" = some (some (.builtin "object.__class__")))
      (hn : PySem.W.specialIn K (.builtin "object.__class__") "__get__" = some (some (.builtin "getset_descriptor.__get__"))) (htk : PySem.W.takesIn K (.builtin "object.__class__") = some true)
      (hm : PySem.W.mroIn K C (.type "object") = some true) : TyOf K H (.ref a) (.ref C)
theorem isinst_ok {x : V} {u t : Value} (I : Inv X pins σ H s) (rx : RelV x u) (ty : TyOf X.K H x t) (e : PySem.W.kitOne X.K t c = some b) (h : ∀ tk, Q (.bool b) { s with toks := tk }) :
    wpAny (model X.prog X.w) A (call (.builtin "isinstance") [u, c]) Q E s := by
  cases ty with
  | non => cases (show u = Value.none from rx); exact PySem.W.kia_one PySem.W.kitx_none I.kIn True.intro e (fun z => nomatch z) h
  | bl y => cases (show u = Value.bool y from rx); exact PySem.W.kia_one PySem.W.kitx_bool I.kIn True.intro e (fun z => nomatch z) h
  | int i => obtain ⟨t, q⟩ := (show ∃ t, u = Value.int i t from rx); cases q; exact PySem.W.kia_one PySem.W.kitx_int I.kIn True.intro e (fun z => nomatch z) h
  | str y => obtain ⟨t, q⟩ := (show ∃ t, u = Value.str y t from rx); cases q; exact PySem.W.kia_one PySem.W.kitx_str I.kIn True.intro e (fun z => nomatch z) h
  | flt y => obtain ⟨t, q⟩ := (show ∃ t, u = Value.float y t from rx); cases q; exact PySem.W.kia_one PySem.W.kitx_float I.kIn True.intro e (fun z => nomatch z) h
  | @lst a xs ea =>
    cases (show u = Value.ref a from rx)
    obtain ⟨_, _, n, _, h1⟩ := (show ObjOk X.prog X.w H s.heap a (.lst xs) from I.hok a _ ea)
    exact PySem.W.kia_one PySem.W.kitx_list I.kIn ⟨_, h1, rfl⟩ e (fun z => nomatch z) h
  | @frz a ob xs ea =>
    cases (show u = Value.ref a from rx)
    obtain ⟨_, _, _, n, _, h1⟩ := (show ObjOk X.prog X.w H s.heap a (.frz ob (.lst xs)) from I.hok a _ ea)
    exact PySem.W.kia_one PySem.W.kitx_list I.kIn ⟨_, h1, rfl⟩ e (fun z => nomatch z) h
  | @tup a xs ea =>
    cases (show u = Value.ref a from rx)
    obtain ⟨_, _, _, p⟩ := (show ObjOk X.prog X.w H s.heap a (.tup xs) from I.hok a _ ea)
    obtain ⟨o, h1, h2, _⟩ := p
    exact PySem.W.kia_one PySem.W.kitx_tuple I.kIn ⟨o, h1, h2⟩ e (fun z => nomatch z) h
  | @dK a kvs ea =>
    cases (show u = Value.ref a from rx)
    obtain ⟨_, _, vs, _, p⟩ := (show ObjOk X.prog X.w H s.heap a (.dK kvs) from I.hok a _ ea)
    obtain ⟨o, es, ep, h1, h2, _⟩ := p
    exact PySem.W.kia_one PySem.W.kitx_dict I.kIn ⟨o, h1, h2.1⟩ e (fun z => nomatch z) h
  | @dT a kvs ea =>
    cases (show u = Value.ref a from rx)
    obtain ⟨_, _, xs, _, o, es, ep, h1, h2, _⟩ := (show ObjOk X.prog X.w H s.heap a (.dT kvs) from I.hok a _ ea)
    exact PySem.W.kia_one PySem.W.kitx_dict I.kIn ⟨o, h1, h2.1⟩ e (fun z => nomatch z) h
  | @ins a C dx fs ea cl ha hn htk hm =>
    cases (show u = Value.ref a from rx)
    obtain ⟨mA, O, _⟩ := ins_get I.hok ea
    obtain ⟨od, J, _⟩ := O.look
    exact PySem.W.kia_one (PySem.W.kitx_own (cl.get _) cl.hd ha hn htk hm) I.kIn J e (fun z => nomatch z) h
end
end L2

namespace L2
open PySem PySem.Spec PyProof.Rows
structure Room (k : Nat) (A : Around) : Prop where
  hd : A.handled = none
  dp : A.depth + 3 * k + 5 < recursionLimit
  un : A.units + 16 * k + 200 < cLine
theorem Room.mono {j k : Nat} {A : Around} (r : Room k A) (h : j ≤ k) : Room j A := ⟨r.hd, by have := r.dp; omega, by have := r.un; omega⟩
theorem Room.deeper {k : Nat} {A : Around} (r : Room (k + 1) A) (env : Env) : Room k (A.deeper env) :=
  ⟨r.hd, by have := r.dp; show A.depth + 1 + 3 * k + 5 < _; omega, by have := r.un; show A.units + 3 + 16 * k + 200 < _; omega⟩
theorem Room.depth {k : Nat} {A : Around} (r : Room k A) : A.depth < recursionLimit := by have := r.dp; omega
theorem Room.units {k : Nat} {A : Around} (r : Room k A) : A.units + 64 < cLine := by have := r.un; omega
def tNil : TA := fun _ H Q => Q [] H
def tCons (ta : TE) (tr : TA) : TA := fun σ H Q => ta σ H fun x H1 => tr σ H1 fun xs H2 => Q (x :: xs) H2
section
variable {X : Cx} {e : Expr} {es : List Expr} {te : TE} {t : TA} {pos : Pos}
theorem pa_nil : PA X [] tNil := fun _ _ _ _ H Q I h => Calls.spliced_nil ⟨[], H, I, .nil, h⟩
theorem pa_cons (ha : PE X e te) (hr : PA X es t) (hs : starEach (e :: es) X.env = (false, eval e X.env) :: starEach es X.env := by rfl) : PA X (e :: es) (tCons te t) := by
  intro pos pins s σ H Q I h
  rw [hs]
  show wpAny _ _ (spliced ((false, eval e X.env) :: backTo pos (starEach es X.env))) _ _ s
  refine Calls.spliced_cons (thn (ha pins s σ H _ I h) fun u s1 ⟨x, H1, I1, r1, q1⟩ => ?_)
  exact thn (hr pos pins s1 σ H1 _ I1 q1) fun us s2 ⟨xs, H2, I2, r2, q2⟩ => ⟨x :: xs, H2, I2, .cons r1 r2, q2⟩
def tTup (t : TA) : TE := fun σ H Q => t σ H fun xs H1 => xs.length ≤ sizeLine ∧ ∀ p, H1 p = none → Q (.ref p) (upd H1 p (.tup xs))
def tLst (t : TA) : TE := fun σ H Q => t σ H fun xs H1 => xs.length ≤ sizeLine ∧ ∀ p, H1 p = none → Q (.ref p) (upd H1 p (.lst xs))
theorem pe_tup {x1} (h : PA X es t) : PE X (.Tuple es x1 pos) (tTup t) := by
  intro pins s σ H Q I hq
  refine wpAny_Tuple_spliced (thn (h pos pins s σ H _ I hq) fun us s1 ⟨xs, H1, I1, r, z, q⟩ => ⟨by rw [← r.length]; exact z, ?_⟩)
  have hf : H1 s1.heap.objs.size = none := I1.hok.fresh (Nat.le_refl _)
  refine ⟨.ref s1.heap.objs.size, upd H1 s1.heap.objs.size (.tup xs), I1.laid (t' := s1.toks) (fun b u e => Heap.get?_push_of_some _ e) (Nat.le_refl _) ?_, rfl, q _ hf⟩
  exact ⟨z, us, r, ⟨_, Heap.get?_push_size _ rfl, rfl, _, rfl⟩⟩
theorem pe_lst (h : PA X es t) : PE X (.List es pos) (tLst t) := by
  intro pins s σ H Q I hq
  refine wpAny_List_spliced (thn (h pos pins s σ H _ I hq) fun us s1 ⟨xs, H1, I1, r, z, q⟩ => ⟨by rw [← r.length]; exact z, ?_⟩)
  have hf : H1 s1.heap.objs.size = none := I1.hok.fresh (Nat.le_refl _)
  refine ⟨.ref s1.heap.objs.size, upd H1 s1.heap.objs.size (.lst xs), I1.laid (t' := s1.toks) (fun b u e => Heap.get?_push_of_some _ e) (Nat.le_refl _) ?_, rfl, q _ hf⟩
  exact ⟨z, us, 0, r, Heap.get?_push_size _ rfl⟩
end

abbrev Sp := List V → Hp → VK → XK → Prop
abbrev CXT := List Env → Hp → Shared → XK → Value → Shared → Prop
structure Env0 (P : Program) (w : World) (K : PySem.W.Frag) (mg : Str → Option Value) (base : Heap) (A : Around) (outer : List Env) (s : Shared) (H : Hp) : Prop where
  frames : A.frames = some outer
  mod : Mod K mg base
  bs : ∀ b o, base.get? b = some o → s.heap.get? b = some o ∧ H b = none
  bsz : base.objs.size ≤ s.heap.objs.size
  funs : s.heap.FunFrames base outer
  frf : ∀ b ∈ frs outer, H b = none
  hok : HOk P w H s.heap
  bare : AllBare s.gens
def CE (outer : List Env) (P : Program) (w : World) (H : Hp) (s : Shared) (Q : VK) (u : Value) (s' : Shared) : Prop :=
  ∃ v H', s'.os = s.os ∧ AllBare s'.gens ∧ Un (frs outer) [] H H' s.heap s'.heap ∧ HOk P w H' s'.heap ∧ RelV v u ∧ Q v H'
def CR (CX : CXT) (outer : List Env) (P : Program) (w : World) (H : Hp) (s : Shared) (Q : VK) (E : XK) (r : Result) (s' : Shared) : Prop :=
  match r with
  | .ok (.ret u) => CE outer P w H s Q u s'
  | .ok _ => False
  | .error e => CX outer H s E e s'
structure FnOk (P : Program) (w : World) (K : PySem.W.Frag) (mg : Str → Option Value) (base : Heap) (CX : CXT) (k : Nat) (f : Addr) (fd : FuncData) (ps : List Str) (sp : Sp) : Prop where
  len : ∀ vs H Q E, sp vs H Q E → vs.length = ps.length
  run : ∀ (A : Around) (outer : List Env) (s : Shared) (H : Hp) (args : Args) (us : List Value) (vs : List V) (Q : VK) (E : XK), Room k A → Env0 P w K mg base A outer s H → BindsTo s fd args (ps.zip us) → Vals vs us → sp vs H Q E →
    codeAny (model P w) A (.call (.ref f) args) (CR CX outer P w H s Q E) s
section
variable {X : Cx} {pins : List (Addr × Obj)} {σ : St} {H : Hp} {s s' : Shared}
theorem Inv.env0 (I : Inv X pins σ H s) : Env0 X.prog X.w X.K X.mg X.base X.A X.stack s H :=
  ⟨I.ok.frames, I.ok.mod, I.bs, Nat.le_trans I.ok.bsz I.sz, I.stack, I.stkFree, I.hok, I.bare⟩
theorem Inv.after {Q : VK} {u : Value} (I : Inv X pins σ H s) (h : CE X.stack X.prog X.w H s Q u s') : EP X pins σ Q u s' := by
  obtain ⟨v, H', os, bare, un, hok, r, q⟩ := h
  obtain ⟨hh, g, d, t, os'⟩ := s'
  obtain rfl : os' = s.os := os
  exact ⟨v, H', I.call (h' := hh) (g' := g) (d' := d) (t' := t) (ch := []) un hok bare (fun b z => absurd z (by simp)), r, q⟩
end

def tCall (sp : Sp) (dvs : List V) (E : XK) (t : TA) : TE := fun σ H Q => t σ H fun vs H1 => sp (vs ++ dvs) H1 Q E
def Binds (K : PySem.W.Frag) (fd : FuncData) (ps : List Str) (ds : List Value) : Prop :=
  ∀ (s : Shared) (us : List Value), K.In s.heap → (us ++ ds).length = ps.length → BindsTo s fd ⟨us, []⟩ (ps.zip (us ++ ds))
theorem Binds.all {K : PySem.W.Frag} {fd : FuncData} {ps : List Str} (h : ∀ us : List Value, us.length = ps.length → bindArgs fd ⟨us, []⟩ = pure (ps.zip us)) : Binds K fd ps [] := fun s us _ hl => by
  rw [List.append_nil] at hl ⊢
  exact .of_eq (h us hl)
def Passes (CX : CXT) (X : Cx) (E : XK) : Prop := ∀ (pins : List (Addr × Obj)) (σ : St) (H : Hp) (s : Shared) (e : Value) (s' : Shared), Inv X pins σ H s → CX X.stack H s E e s' → X.xe e s'
section
variable {X : Cx} {CX : CXT} {k : Nat} {f C : Addr} {fd : FuncData} {ps : List Str} {sp : Sp} {dvs : List V} {ds : List Value} {E : XK} {x m : Str} {p pos apos : Pos} {e o : Expr} {es : List Expr} {ta : TE} {t : TA}
theorem run_fn {pins : List (Addr × Obj)} {σ : St} {H : Hp} {s : Shared} {Q : VK} {us : List Value} {vs : List V} (F : FnOk X.prog X.w X.K X.mg X.base CX k f fd ps sp) (hr : Room k X.A) (hb : Binds X.K fd ps ds) (hd : Vals dvs ds) (hx : Passes CX X E)
    (I : Inv X pins σ H s) (r : Vals vs us) (h : sp (vs ++ dvs) H Q E) : wpAny (model X.prog X.w) X.A (call (.ref f) us) (EP X pins σ Q) X.xe s := by
  have r2 : Vals (vs ++ dvs) (us ++ ds) := r.append hd
  have hl : (us ++ ds).length = ps.length := by rw [← r2.length]; exact F.len _ _ _ _ h
  refine wpAny_call (codeAny_mono (F.run X.A X.stack s H ⟨us, []⟩ (us ++ ds) (vs ++ dvs) Q E hr I.env0 (hb s us I.kIn hl) r2 h) fun r s' hq => ?_)
  cases r with
  | error e => exact hx pins σ H s e s' I hq
  | ok fl =>
    cases fl with
    | ret u => exact I.after hq
    | next => exact False.elim hq
    | brk => exact False.elim hq
    | cont => exact False.elim hq
theorem pe_call (F : FnOk X.prog X.w X.K X.mg X.base CX k f fd ps sp) (hr : Room k X.A) (hg : Gl X x) (hm : X.mg x = some (.ref f)) (hk : PySem.W.keepIn X.K (.ref f) = true) (hb : Binds X.K fd ps ds) (hd : Vals dvs ds) (hx : Passes CX X E)
    (ha : PA X (e :: es) t) (hdb : (x == ("__debug__" : Str)) = false := by decide) (he : starEach (e :: es) X.env = (false, eval e X.env) :: starEach es X.env := by rfl) (hpl : (backTo pos (starEach es X.env)).any (·.1) = false := by rfl) :
    PE X (.Call (.Name x p) (e :: es) [] pos) (tCall sp dvs E t) := by
  intro pins s σ H Q I h
  refine wpAny_Call_Name_kw (ld_glob I hg hm ?_ hdb)
  refine PySem.W.callWith_K (h₀ := X.base) I.ok.mod.kin hk (thn (ha pos pins s σ H _ I h) fun us s1 ⟨vs, H1, I1, r, q⟩ => ⟨I1.kIn, ?_⟩) he hpl
  exact run_fn F hr hb hd hx I1 r q
end

section
variable {X : Cx} {CX : CXT} {k : Nat} {f C : Addr} {fd : FuncData} {ps ks : List Str} {sp : Sp} {E : XK} {x m : Str} {p pos apos kpos : Pos} {e o : Expr} {es : List Expr} {kws : List Keyword} {te ta : TE} {t tk : TA} {nm : Option Str}
variable {g : List Value → List Value → List Value} {gV : List V → List V → List V}
end

structure FnScope (N P : List Str) (sc : Scope) : Prop where
  kind : sc.kind = .function
  co : sc.isCoroutine = false
  gen : sc.isGenerator = false
  nd : N.Nodup
  pre : N.take P.length = P
  par : ∀ x ∈ P, sc.names.lookup x = some .local ∨ sc.names.lookup x = some .cell
  nofree : ∀ y ∈ sc.names, y.2 ≠ .free
theorem bindL_out {kindOf : Str → Option NameKind} {x : Str} : ∀ {binds : List (Str × Value)} {m : Str → Option Value}, (∀ v, (x, v) ∉ binds) → bindL kindOf binds m x = m x
  | [], _, _ => rfl
  | (n, v) :: r, m, h => by
    unfold bindL
    rw [bindL_out fun w hw => h w (List.mem_cons_of_mem _ hw)]
    split
    · have : x ≠ n := by rintro rfl; exact h v List.mem_cons_self
      simp [this]
    · rfl
theorem bindC_out {kindOf : Str → Option NameKind} {x : Str} : ∀ {binds : List (Str × Value)} {m : Str → Option Value}, (∀ v, (x, v) ∉ binds) → bindC kindOf binds m x = m x
  | [], _, _ => rfl
  | (n, v) :: r, m, h => by
    unfold bindC
    rw [bindC_out fun w hw => h w (List.mem_cons_of_mem _ hw)]
    split
    · rfl
    · have : x ≠ n := by rintro rfl; exact h v List.mem_cons_self
      simp [this]
theorem bindL_get {kindOf : Str → Option NameKind} {x : Str} {v : Value} : ∀ {P : List Str} {vs : List Value} {i : Nat} {m : Str → Option Value}, P.Nodup → P[i]? = some x → vs[i]? = some v → kindOf x = some .local →
    bindL kindOf (P.zip vs) m x = some v
  | [], _, _, _, _, h, _, _ => by simp at h
  | _ :: _, [], _, _, _, _, h, _ => by simp at h
  | p :: P, w :: vs, 0, m, nd, h1, h2, hk => by
    simp at h1 h2; subst h1; subst h2
    show bindL kindOf ((p, w) :: P.zip vs) m p = _
    unfold bindL
    rw [bindL_out fun v hv => (List.nodup_cons.mp nd).1 (List.of_mem_zip hv).1, if_pos hk]
    simp
  | p :: P, w :: vs, i + 1, m, nd, h1, h2, hk => by
    show bindL kindOf ((p, w) :: P.zip vs) m x = _
    unfold bindL
    exact bindL_get (i := i) (List.nodup_cons.mp nd).2 (by simpa using h1) (by simpa using h2) hk
theorem bindC_get {kindOf : Str → Option NameKind} {x : Str} {v : Value} : ∀ {P : List Str} {vs : List Value} {i : Nat} {m : Str → Option Value}, P.Nodup → P[i]? = some x → vs[i]? = some v → kindOf x ≠ some .local →
    bindC kindOf (P.zip vs) m x = some v
  | [], _, _, _, _, h, _, _ => by simp at h
  | _ :: _, [], _, _, _, _, h, _ => by simp at h
  | p :: P, w :: vs, 0, m, nd, h1, h2, hk => by
    simp at h1 h2; subst h1; subst h2
    show bindC kindOf ((p, w) :: P.zip vs) m p = _
    unfold bindC
    rw [bindC_out fun v hv => (List.nodup_cons.mp nd).1 (List.of_mem_zip hv).1, if_neg hk]
    simp
  | p :: P, w :: vs, i + 1, m, nd, h1, h2, hk => by
    show bindC kindOf ((p, w) :: P.zip vs) m x = _
    unfold bindC
    exact bindC_get (i := i) (List.nodup_cons.mp nd).2 (by simpa using h1) (by simpa using h2) hk
def start (N : List Str) (vs : List V) : St := vs.map some ++ List.replicate (N.length - vs.length) none
def cxOf (CX : CXT) (P : Program) (w : World) (K : PySem.W.Frag) (mg : Str → Option Value) (base : Heap) (N : List Str) (qual : Str) (scope : Scope) (f : Addr) (cd : Value) (A : Around) (outer : List Env) (s : Shared) (H : Hp) (E : XK) : Cx where
  prog := P
  w := w
  K := K
  mg := mg
  base := base
  A := A.deeper (envOfC qual scope s.heap.objs.size f cd)
  N := N
  s₀ := s
  H₀ := H
  env := envOfC qual scope s.heap.objs.size f cd
  outer := outer
  stack := envOfC qual scope s.heap.objs.size f cd :: outer
  ex := []
  calm := true
  fn := fun _ => true
  pn := []
  xe := fun e s' => wpAny (model P w) (A.deeper (envOfC qual scope s.heap.objs.size f cd)) (leaving (envOfC qual scope s.heap.objs.size f cd) e) (fun _ s'' => CX outer H s E e s'') (fun e' s'' => CX outer H s E e' s'') s'
theorem cell_has {sc : Scope} {n : Nat} {x : Str} (h : sc.names.lookup x = some .cell) : ∃ c, (cellsFrom n sc.names []).lookup x = some c := by
  have q := PySem.W.cellsFrom_some sc.names n [] (.inl h)
  exact Option.isSome_iff_exists.mp q
theorem inv_start {CX : CXT} {P : Program} {w : World} {K : PySem.W.Frag} {mg : Str → Option Value} {base : Heap} {N ps : List Str} {qual : Str} {scope : Scope} {f : Addr} {cd : Value} {A : Around} {outer : List Env} {s s1 : Shared} {H : Hp} {E : XK} {us : List Value} {vs : List V}
    (S : FnScope N ps scope) (hd : A.handled = none) (e0 : Env0 P w K mg base A outer s H) (hl : vs.length = ps.length) (r : Vals vs us)
    (x : InCallC s s.heap.objs.size (bindL (envOfC qual scope s.heap.objs.size f cd).kindOf (ps.zip us) fun _ => none) (cellsFrom (s.heap.objs.size + 1) scope.names []) (bindC (envOfC qual scope s.heap.objs.size f cd).kindOf (ps.zip us) fun _ => none) s1) :
    Inv (cxOf CX P w K mg base N qual scope f cd A outer s H E) [] (start N vs) H s1 := by
  have hpl : ps.length ≤ N.length := by have := congrArg List.length S.pre; rw [List.length_take] at this; omega
  obtain ⟨h1, tk, rfl, hk⟩ := x.done
  have noA : ∀ b : Addr, b ∉ (cxOf CX P w K mg base N qual scope f cd A outer s H E).ex := fun b z => absurd (show b ∈ ([] : List Addr) from z) (by simp)
  refine ⟨⟨e0.mod, S.kind, rfl, rfl, Nat.le_refl _, fun y z c h1 h2 => ?_, fun y hy => ?_, fun y c _ h => ?_, fun _ => hd, Around.frames_deeper e0.frames, .inr ⟨rfl, rfl⟩, fun b z => absurd z (noA b), e0.bs, e0.bsz, fun b _ _ => noA b, fun b z => absurd z (noA b), e0.funs, e0.frf⟩,
    rfl, e0.bare, Un.kept hk, ⟨_, x.toInCall.ns, fun i y v h1 h2 h3 => ?_⟩, fun y c h => ⟨_, x.cell y c h⟩, e0.hok.fresh (Nat.le_refl _), fun y c h => ?_, fun p hp => absurd (show p ∈ ([] : List (Addr × Obj)) from hp) (by simp), e0.hok.kept hk, ?_⟩
  · exact name_of_addr x.apart (PySem.mem_of_lookup h1) (PySem.mem_of_lookup h2)
  · have hy : scope.names.lookup y = some .cell ∨ scope.names.lookup y = some .free := hy
    rcases hy with hy | hy
    · exact cell_has hy
    · exact absurd rfl (S.nofree _ (PySem.mem_of_lookup hy))
  · exact Nat.le_of_lt (x.above y c (PySem.mem_of_lookup h))
  · have hi : i < vs.length := by
      unfold start at h2
      by_cases hi : i < vs.length
      · exact hi
      · rw [List.getElem?_append_right (by simpa using hi)] at h2
        rw [List.getElem?_replicate] at h2
        split at h2 <;> cases h2
    have ha : vs[i]? = some v := by
      unfold start at h2
      rw [List.getElem?_append_left (by simpa using hi), List.getElem?_map] at h2
      cases e : vs[i]? with
      | none => rw [e] at h2; cases h2
      | some a => rw [e] at h2; cases h2; rfl
    obtain ⟨u, hu, rv⟩ := r.get ha
    have hp : ps[i]? = some y := by
      rw [← S.pre, List.getElem?_take_of_lt (by omega)]; exact h1
    have ndP : ps.Nodup := by rw [← S.pre]; exact S.nd.sublist (List.take_sublist _ _)
    refine ⟨u, rv, ?_⟩
    rcases S.par y (List.mem_of_getElem? hp) with k | k
    · exact .inl ⟨k, bindL_get ndP hp hu k⟩
    · obtain ⟨c, e⟩ := cell_has (n := s.heap.objs.size + 1) k
      refine .inr ⟨.inl k, c, e, ?_⟩
      have q := x.cell y c e
      rw [bindC_get ndP hp hu (by show scope.names.lookup y ≠ _; rw [k]; decide)] at q
      exact q
  · exact e0.hok.fresh (Nat.le_of_lt (x.above y c (PySem.mem_of_lookup h)))
  · unfold start
    show _ = N.length
    rw [List.length_append, List.length_map, List.length_replicate]
    omega
theorem fn_of {CX : CXT} {P : Program} {w : World} {K : PySem.W.Frag} {mg : Str → Option Value} {base : Heap} {k : Nat} {f : Addr} {name qual : Str} {params : Arguments} {body : List Stmt} {scope : Scope} {dV kV doc pm cdv ct oc : Value} {an od : Option Addr}
    {osl : Array (Option Value)} {N ps : List Str} {sp : Sp} (lk : K.lookup f = some ⟨oc, od, .func (PySem.W.fnOf name qual params body scope dV kV doc pm an cdv ct), osl⟩) (hcd : PySem.W.codeIn K cdv qual = true) (S : FnScope N ps scope)
    (len : ∀ vs H Q E, sp vs H Q E → vs.length = ps.length)
    (hbody : ∀ (A : Around) (outer : List Env) (s : Shared) (H : Hp) (vs : List V) (Q : VK) (E : XK), Room k (A.deeper (envOfC qual scope s.heap.objs.size f cdv)) → sp vs H Q E →
      ∃ t, PSs (cxOf CX P w K mg base N qual scope f cdv A outer s H E) body t ∧ t { nx := fun _ H' => Q .non H', rt := Q } (start N vs) H) :
    FnOk P w K mg base CX (k + 1) f (PySem.W.fnOf name qual params body scope dV kV doc pm an cdv ct) ps sp := by
  refine ⟨len, fun A outer s H args us vs Q E hr e0 hb r hsp => ?_⟩
  have hl := len _ _ _ _ hsp
  have KX : K.In s.heap := e0.mod.kin.keeps fun b o e => (e0.bs b o e).1
  have lim : s.heap.NoLimit := e0.mod.nolimit.keeps fun b o e => (e0.bs b o e).1
  have hkind : ∀ y ∈ ps.zip us, scope.names.lookup y.1 = some .local ∨ (scope.names.lookup y.1 = some .cell ∧ ((cellsFrom (s.heap.objs.size + 1) scope.names []).lookup y.1).isSome = true) := fun ⟨n, v⟩ hy => by
    rcases S.par n (List.of_mem_zip hy).1 with q | q
    · exact .inl q
    · exact .inr ⟨q, PySem.W.cellsFrom_some _ _ _ (.inl q)⟩
  refine codeAny_call_function hr.depth (KX _ _ lk) rfl S.co S.gen rfl (PySem.W.codeRec_of KX hcd) (hb _ _ _ _ ?_)
  refine wpAny_newFunctionEnv_cells S.kind hkind fun env he s1 x => ?_
  subst he
  refine ⟨lim.keeps x.toInCall.keep, codeAny_func ?_⟩
  obtain ⟨t, ht, hq⟩ := hbody A outer s H vs Q E (hr.deeper _) hsp
  have I : Inv (cxOf CX P w K mg base N qual scope f cdv A outer s H E) [] (start N vs) H s1 := inv_start S hr.hd e0 hl r x
  refine wpAny_mono (ht [] s1 (start N vs) H _ I hq) (fun fl s' hs => ?_) fun e s' hs => hs
  have fin : ∀ {σ' : St} {H' : Hp} {v : V} {u : Value}, Inv (cxOf CX P w K mg base N qual scope f cdv A outer s H E) [] σ' H' s' → RelV v u → Q v H' → CE outer P w H s Q u s' :=
    fun {σ' H' v u} J rv q => ⟨v, H', J.os, J.bare, J.base, J.hok, rv, q⟩
  cases fl with
  | ret u =>
    obtain ⟨v, σ', H', J, rv, q⟩ := hs
    exact fin J rv q
  | next =>
    obtain ⟨σ', H', J, q⟩ := hs
    exact fin (v := V.non) (u := Value.none) J rfl q
  | brk =>
    obtain ⟨_, _, _, q⟩ := hs
    exact False.elim q
  | cont =>
    obtain ⟨_, _, _, q⟩ := hs
    exact False.elim q
end L2

namespace L2
open PySem PySem.Spec PyProof.Rows
section
variable {X : Cx} {x : Str} {p pos : Pos} {e : Expr} {es : List Expr} {t : TA} {id T : String} {r : List V → Hp → VK → Prop}
def tCB (r : List V → Hp → VK → Prop) (t : TA) : TE := fun σ H Q => t σ H fun vs H1 => r vs H1 Q
theorem pe_callB (hc : CallR X (.builtin id) r) (hg : Gl X x) (hm : X.mg x = none) (hv : bootBuiltins x = some (.builtin id)) (ha : PA X (e :: es) t) (hn : x ≠ "__name__" := by decide) (hdb : (x == ("__debug__" : Str)) = false := by decide)
    (he : starEach (e :: es) X.env = (false, eval e X.env) :: starEach es X.env := by rfl) (hpl : (backTo pos (starEach es X.env)).any (·.1) = false := by rfl) : PE X (.Call (.Name x p) (e :: es) [] pos) (tCB r t) := by
  intro pins s σ H Q I h
  refine wpAny_Call_Name_kw (ld_blt I hg hm hv ?_ hn hdb)
  exact PyProof.Rows.callWith_builtin1 (thn (ha pos pins s σ H _ I h) fun us s1 ⟨vs, H1, I1, r1, q1⟩ => hc pins s1 σ H1 vs us Q I1 r1 q1) he hpl
theorem pe_callTy (hc : CallR X (.type T) r) (hg : Gl X x) (hm : X.mg x = none) (hv : bootBuiltins x = some (.type T)) (ha : PA X (e :: es) t) (hn : x ≠ "__name__" := by decide) (hdb : (x == ("__debug__" : Str)) = false := by decide)
    (he : starEach (e :: es) X.env = (false, eval e X.env) :: starEach es X.env := by rfl) (hpl : (backTo pos (starEach es X.env)).any (·.1) = false := by rfl) : PE X (.Call (.Name x p) (e :: es) [] pos) (tCB r t) := by
  intro pins s σ H Q I h
  refine wpAny_Call_Name_kw (ld_blt I hg hm hv ?_ hn hdb)
  exact PyProof.Rows.callWith_type1 (thn (ha pos pins s σ H _ I h) fun us s1 ⟨vs, H1, I1, r1, q1⟩ => hc pins s1 σ H1 vs us Q I1 r1 q1) he hpl
end
end L2

namespace HT
open PySem PyProof.Rows
section
open PySem.SeqAt
open PySem.AutoSeq1 (wpAny_loadPart')
open PySem.MeetsSeq PySem.MeetsSeq2 PySem.MeetsSeq3
end

section
variable {prog : Program} {w : World} {A : Around} {E : Value → Shared → Prop} {s : Shared}
def sIx (n d : Nat) : Option Int → Nat
  | none => d
  | some v => if v < 0 then (v + (n : Int)).toNat else min v.toNat n
end
end HT

namespace L2
open PySem PySem.Spec PyProof.Rows
abbrev TO := St → Hp → (Option Int → Hp → Prop) → Prop
def PO (X : Cx) (e : Option Expr) (t : TO) : Prop :=
  ∀ (pins : List (Addr × Obj)) (s : Shared) (σ : St) (H : Hp) (Q : Option Int → Hp → Prop), Inv X pins σ H s → t σ H Q →
    wpAny (model X.prog X.w) X.A (evalPart e X.env) (fun u s' => ∃ o H', Inv X pins σ H' s' ∧ IsPart u o ∧ Q o H') X.xe s
def tNoPart : TO := fun _ H Q => Q none H
def tPart (t : TE) : TO := fun σ H Q => t σ H fun x H1 => ∃ i, x = .int i ∧ Q (some i) H1
section
variable {X : Cx} {e : Expr} {te : TE} {lo hi : Option Expr} {tl th : TO} {pos p2 : Pos}
theorem po_none : PO X none tNoPart := by
  intro pins s σ H Q I h
  rw [evalPart_none]
  exact wpAny_pure ⟨none, H, I, .none, h⟩
theorem po_some (h : PE X e te) : PO X (some e) (tPart te) := by
  intro pins s σ H Q I hw
  rw [evalPart_some]
  refine thn (h pins s σ H _ I hw) fun u s1 ⟨x, H1, I1, r1, q1⟩ => ?_
  obtain ⟨i, rfl, q⟩ := q1
  obtain ⟨t, rfl⟩ := r1
  exact ⟨some i, H1, I1, .int i t, q⟩
def SlR (X : Cx) (r : V → Option Int → Option Int → Hp → VK → Prop) : Prop :=
  ∀ (pins : List (Addr × Obj)) (s : Shared) (σ : St) (H : Hp) (x : V) (v vl vu : Value) (lo hi : Option Int) (sl : Addr) (Q : VK), Inv X pins σ H s → RelV x v → s.heap.IsSliceOf sl vl vu .none → IsPart vl lo → IsPart vu hi → r x lo hi H Q →
    ∃ T id, typeLookup (.type T) "__getitem__" = pure (some (.builtin id)) ∧ s.TypeIs v T ∧ wpAny (model X.prog X.w) X.A (getItem v (.ref sl)) (EP X pins σ Q) X.xe s
def tSl (r : V → Option Int → Option Int → Hp → VK → Prop) (te : TE) (tl th : TO) : TE := fun σ H Q => te σ H fun x H1 => tl σ H1 fun l H2 => th σ H2 fun u H3 => r x l u H3 Q
theorem pe_slice {r : V → Option Int → Option Int → Hp → VK → Prop} (hr : SlR X r) (he : PE X e te) (hl : PO X lo tl) (hu : PO X hi th) : PE X (.Subscript e (.Slice lo hi none p2) pos) (tSl r te tl th) := by
  intro pins s σ H Q I h
  refine Subscript_ (thn (he pins s σ H _ I h) fun v s1 ⟨x, H1, I1, r1, q1⟩ => ?_)
  refine wpAny_Slice (thn (hl pins s1 σ H1 _ I1 q1) fun vl s2 ⟨l, H2, I2, pl, q2⟩ => thn (hu pins s2 σ H2 _ I2 q2) fun vu s3 ⟨u, H3, I3, pu, q3⟩ => ?_)
  rw [evalPart_none]
  refine wpAny_pure ?_
  have I4 : Inv X pins σ H3 { s3 with heap := s3.heap.push { cls := .type "slice", data := .fields #[vl, vu, .none] } } := I3.kept (t' := s3.toks) fun b ob q => Heap.get?_push_of_some _ q
  obtain ⟨T, id, hT, ht, hg⟩ := hr pins { s3 with heap := s3.heap.push { cls := .type "slice", data := .fields #[vl, vu, .none] } } σ H3 x v vl vu l u s3.heap.objs.size Q I4 r1 (Heap.IsSliceOf.new ..) pl pu q3
  show wpAny (model X.prog X.w) X.A (subscriptTail e (.Slice lo hi none p2) v (.ref s3.heap.objs.size)) (EP X pins σ Q) X.xe { s3 with heap := s3.heap.push { cls := .type "slice", data := .fields #[vl, vu, .none] } }
  exact tail_any (ops := [.ref s3.heap.objs.size, v]) ht hT hg (by with_unfolding_all rfl)
def cutV (xs : List V) (lo hi : Option Int) : List V := (xs.drop (HT.sIx xs.length 0 lo)).take (HT.sIx xs.length xs.length hi - HT.sIx xs.length 0 lo)
theorem cutV_length (xs : List V) (lo hi : Option Int) : (cutV xs lo hi).length ≤ xs.length := by
  unfold cutV
  rw [List.length_take, List.length_drop]
  omega
end
end L2

namespace L2
open PySem PySem.Spec PyProof.Rows
def ixN (n : Nat) (i : Int) : Option Nat := if 0 ≤ i then (if i < n then some i.toNat else none) else if -(n : Int) ≤ i then some (i + n).toNat else none
def atI {α : Type} (xs : List α) (i : Int) : Option α := (ixN xs.length i).bind fun j => xs[j]?
theorem ixN_seq {n : Nat} {i : Int} {j : Nat} (h : ixN n i = some j) : seqIndex? i n = some j ∧ j < n ∧ -(n : Int) ≤ i ∧ i < n := by
  unfold ixN at h
  by_cases h0 : 0 ≤ i
  · rw [if_pos h0] at h
    by_cases h1 : i < n
    · rw [if_pos h1] at h
      have e : i.toNat = j := Option.some.inj h
      exact ⟨by rw [seqIndex_of h0 h1, e], by omega, by omega, h1⟩
    · rw [if_neg h1] at h; cases h
  · rw [if_neg h0] at h
    by_cases h1 : -(n : Int) ≤ i
    · rw [if_pos h1] at h
      have e : (i + n).toNat = j := Option.some.inj h
      exact ⟨by rw [seqIndex_neg (by omega) h1, e], by omega, h1, by omega⟩
    · rw [if_neg h1] at h; cases h
theorem atI_get {α : Type} {xs : List α} {i : Int} {v : α} (h : atI xs i = some v) : ∃ j, seqIndex? i xs.length = some j ∧ xs[j]? = some v ∧ j < xs.length ∧ -(xs.length : Int) ≤ i ∧ i < xs.length := by
  unfold atI at h
  cases e : ixN xs.length i with
  | none => rw [e] at h; cases h
  | some j =>
    rw [e] at h
    obtain ⟨h1, h2, h3, h4⟩ := ixN_seq e
    exact ⟨j, h1, h, h2, h3, h4⟩
theorem atI_nat {α : Type} {xs : List α} {j : Nat} {v : α} (h : xs[j]? = some v) : atI xs (j : Int) = some v := by
  have hj : j < xs.length := (List.getElem?_eq_some_iff.mp h).1
  have e : ixN xs.length (j : Int) = some j := by
    unfold ixN
    rw [if_pos (by omega), if_pos (by omega)]; simp
  unfold atI; rw [e]; exact h
def PlainIx (b : Expr) : Prop := ∀ o i, subscripted b false o i = operate [o, i] (getItem o i)
def IxR (X : Cx) (r : R2) : Prop :=
  ∀ (value slice : Expr) (pins : List (Addr × Obj)) (s : Shared) (σ : St) (H : Hp) (x y : V) (v u : Value) (Q : VK), Inv X pins σ H s → RelV x v → RelV y u → r x y H Q →
    subscripted slice false v u = operate [v, u] (getItem v u) → wpAny (model X.prog X.w) X.A (subscriptTail value slice v u) (EP X pins σ Q) X.xe s
def MtR (X : Cx) (id : String) (r : V → List V → Hp → VK → Prop) : Prop :=
  ∀ (pins : List (Addr × Obj)) (s : Shared) (σ : St) (H : Hp) (x : V) (xs : List V) (v : Value) (us : List Value) (Q : VK), Inv X pins σ H s → RelV x v → Vals xs us → r x xs H Q →
    wpAny (model X.prog X.w) X.A (call (.builtin id) (v :: us)) (EP X pins σ Q) X.xe s
section
variable {X : Cx} {a b : Expr} {ta tb : TE} {pos : Pos}
theorem pe_ix {r : R2} (hr : IxR X r) (ha : PE X a ta) (hb : PE X b tb) (hs : PlainIx b) : PE X (.Subscript a b pos) (tOp r ta tb) := by
  intro pins s σ H Q I h
  exact Subscript_ (binT ha hb I h fun v u s2 x y H2 I2 rx ry q => hr a b pins s2 σ H2 x y v u Q I2 rx ry q (hs _ _))
def rIxL (K : PySem.W.Frag) : R2 := fun x y H Q => ∃ p xs i v, x = .ref p ∧ y = .int i ∧ SqL K H p xs ∧ atI xs i = some v ∧ Q v H
def rIxT (K : PySem.W.Frag) : R2 := fun x y H Q => ∃ p xs i v, x = .ref p ∧ y = .int i ∧ SqT K H p xs ∧ atI xs i = some v ∧ Q v H
theorem ix_list : IxR X (rIxL X.K) := by
  intro value slice pins s σ H x y v u Q I rx ry h hs
  obtain ⟨p, xs, i, z, rfl, rfl, hq, he, q⟩ := h
  cases rx
  obtain ⟨t, rfl⟩ := ry
  obtain ⟨its, r, pl, hz⟩ := I.list hq
  obtain ⟨j, h1, h2, h3, h4, h5⟩ := atI_get he
  obtain ⟨w, ew, rw'⟩ := r.get h2
  have hl := r.length
  have hn := line63
  have fin : EP X pins σ Q w s := ⟨z, H, I, rw', q⟩
  by_cases h0 : 0 ≤ i
  · have hj : i.toNat = j := by
      rw [seqIndex_of h0 h5] at h1
      exact Option.some.inj h1
    exact item_listR pl.isList h0 (by omega) (by rw [hj]; simpa using ew) fin hs
  · have hj : (i + (its.toArray.size : Int)).toNat = j := by
      rw [seqIndex_neg (by omega) h4] at h1
      rw [List.size_toArray, ← hl]
      exact Option.some.inj h1
    exact subscriptTail_builtinR (x := w) pl.isList.typeIs slot_list_getitem.lookup
      (wpAny_getItem_list_neg (Q := fun r s' => r = w ∧ EP X pins σ Q r s') pl.isList (by omega) (by rw [List.size_toArray] <;> omega) (by omega) (by rw [hj]; simpa using ew) ⟨rfl, fin⟩) hs
theorem ix_tup : IxR X (rIxT X.K) := by
  intro value slice pins s σ H x y v u Q I rx ry h hs
  obtain ⟨p, xs, i, z, rfl, rfl, hq, he, q⟩ := h
  cases rx
  obtain ⟨t, rfl⟩ := ry
  obtain ⟨its, r, pl, hz⟩ := I.tuple hq
  obtain ⟨j, h1, h2, h3, h4, h5⟩ := atI_get he
  obtain ⟨w, ew, rw'⟩ := r.get h2
  have hl := r.length
  have hn := line63
  have fin : EP X pins σ Q w s := ⟨z, H, I, rw', q⟩
  exact subscriptTail_builtinR (x := w) pl.typeIs slot_tuple_getitem.lookup
    (getItem_tuple (j := j) (Q := fun r s' => r = w ∧ EP X pins σ Q r s') pl (by omega) (by omega) (by rw [List.size_toArray, ← hl]; exact h1) (by simpa using ew) ⟨rfl, fin⟩) hs
theorem mapSeq_set (its : List Value) (n j : Nat) (u : Value) : Obj.mapSeq (·.setIfInBounds j u) { cls := .type "list", data := .seq its.toArray n } = { cls := .type "list", data := .seq (its.set j u).toArray n } := by
  simp [Obj.mapSeq]
theorem Inv.lst {pins : List (Addr × Obj)} {σ : St} {H : Hp} {s : Shared} {p : Addr} {xs : List V} (I : Inv X pins σ H s) (h : H p = some (.lst xs)) :
    ∃ (its : List Value) (n : Nat), Vals xs its ∧ s.heap.get? p = some { cls := .type "list", data := .seq its.toArray n } ∧ xs.length ≤ sizeLine := by
  obtain ⟨z, its, n, r, e⟩ := I.hok p _ h
  exact ⟨its, n, r, e, z⟩
theorem Inv.lstUpd {pins : List (Addr × Obj)} {σ : St} {H : Hp} {s : Shared} {p : Addr} {xs ys : List V} {its its' : List Value} {n n' : Nat} {f : Obj → Obj} (I : Inv X pins σ H s) (h : H p = some (.lst xs))
    (ho : s.heap.get? p = some { cls := .type "list", data := .seq its.toArray n }) (hf : f { cls := .type "list", data := .seq its.toArray n } = { cls := .type "list", data := .seq its'.toArray n' }) (r : Vals ys its') (hz : ys.length ≤ sizeLine) (t : Nat) :
    Inv X pins σ (upd H p (.lst ys)) { s with heap := s.heap.update p f, toks := t } := by
  have e : (s.heap.update p f).get? p = some { cls := .type "list", data := .seq its'.toArray n' } := by
    rw [Heap.get?_update_self f ho (by rw [hf] <;> rfl), hf]
  refine I.write (x := p) (e := p) (by rw [h]; trivial) (.inl rfl) (fun b u hb q => (Heap.get?_update_other _ _ (Ne.symm hb)).trans q) ⟨_, e⟩ ?_
  exact ⟨hz, its', n', r, e⟩
def rSetL : V → V → V → Hp → (Hp → Prop) → Prop := fun o i v H Q => ∃ p xs k j, o = .ref p ∧ i = .int k ∧ H p = some (.lst xs) ∧ ixN xs.length k = some j ∧ Q (upd H p (.lst (xs.set j v)))
theorem set_list : PSet X rSetL := by
  intro pins s σ H o i v ov iv u Q I ro ri rv h
  obtain ⟨p, xs, k, j, rfl, rfl, hp, hj, q⟩ := h
  cases ro
  obtain ⟨t, rfl⟩ := ri
  obtain ⟨its, n, r, ho, hz⟩ := I.lst hp
  obtain ⟨h1, h2, h3, h4⟩ := ixN_seq hj
  have hl := r.length
  have hn := line63
  have I' : Inv X pins σ (upd H p (.lst (xs.set j v))) { s with heap := s.heap.update p (Obj.mapSeq (·.setIfInBounds j u)) } :=
    I.lstUpd hp ho (mapSeq_set its n j u) (r.set rv j) (by rw [List.length_set]; exact hz) s.toks
  by_cases h0 : 0 ≤ k
  · have hk : k.toNat = j := by
      rw [seqIndex_of h0 h4] at h1
      exact Option.some.inj h1
    exact PySem.W.ki_setAt ho h0 (by omega) (by rw [List.size_toArray, ← hl]; exact h4) (by rw [hk]; exact ⟨_, I', q⟩)
  · have hk : (k + (its.toArray.size : Int)).toNat = j := by
      rw [seqIndex_neg (by omega) h3] at h1
      rw [List.size_toArray, ← hl]
      exact Option.some.inj h1
    exact PySem.W.ki_setBack ho (by omega) (by rw [List.size_toArray, ← hl]; exact h3) (by omega) (by rw [hk]; exact ⟨_, I', q⟩)
theorem slice_bounds (lo hi : Option Int) (n : Nat) : (sliceBounds lo hi none n).1 = ((HT.sIx n 0 lo : Nat) : Int) ∧ (sliceBounds lo hi none n).2.1 = ((HT.sIx n n hi : Nat) : Int) ∧ (sliceBounds lo hi none n).2.2 = 1 := by
  refine ⟨?_, ?_, rfl⟩
  · cases lo with
    | none => simp [sliceBounds, HT.sIx]
    | some i =>
      simp only [sliceBounds, HT.sIx, Option.getD_none, show (1 : Int) > 0 by decide, if_true]
      by_cases h : i < 0
      · simp only [h, if_true] <;> omega
      · simp only [h, if_false] <;> omega
  · cases hi with
    | none => simp [sliceBounds, HT.sIx]
    | some i =>
      simp only [sliceBounds, HT.sIx, Option.getD_none, show (1 : Int) > 0 by decide, if_true]
      by_cases h : i < 0
      · simp only [h, if_true] <;> omega
      · simp only [h, if_false] <;> omega
theorem slicePick_cut (its : List Value) (lo hi : Option Int) : slicePick its.toArray lo hi none = ((its.drop (HT.sIx its.length 0 lo)).take (HT.sIx its.length its.length hi - HT.sIx its.length 0 lo)).toArray := by
  obtain ⟨h1, h2, h3⟩ := slice_bounds lo hi its.toArray.size
  unfold slicePick
  rw [h1, h2, h3]
  simp only [sliceRange_one, pick_run, List.size_toArray] <;> rfl
def rSlL (K : PySem.W.Frag) : V → Option Int → Option Int → Hp → VK → Prop := fun x lo hi H Q => ∃ a xs, x = .ref a ∧ SqL K H a xs ∧ ∀ p, H p = none → Q (.ref p) (upd H p (.lst (cutV xs lo hi)))
theorem sl_list : SlR X (rSlL X.K) := by
  intro pins s σ H x v vl vu lo hi sl Q I rx hs pl pu h
  obtain ⟨a, xs, rfl, hx, q⟩ := h
  cases rx
  obtain ⟨its, r, ht, hz⟩ := I.list hx
  have hlen := r.length
  refine ⟨"list", _, slot_list_getitem.lookup, ht.isList.typeIs, ?_⟩
  refine wpAny_getItem_list_slice ht.isList hs pl pu .none (by simp) ?_ (by rw [List.size_toArray] <;> omega)
  rw [slicePick_cut, ← hlen]
  refine ⟨.ref s.heap.objs.size, _, I.laid (t' := s.toks) (o := .lst (cutV xs lo hi)) (fun b ob q => Heap.get?_push_of_some _ q) (Nat.le_refl _) ?_, rfl, q _ (I.hok.fresh (Nat.le_refl _))⟩
  exact ⟨Nat.le_trans (cutV_length xs lo hi) hz, _, 0, (r.drop (HT.sIx xs.length 0 lo)).take (HT.sIx xs.length xs.length hi - HT.sIx xs.length 0 lo), Heap.get?_push_size _ rfl⟩
def flatV : V → Bool
  | .non => true
  | .bl _ => true
  | .int _ => true
  | .str _ => true
  | _ => false
def eqV : V → V → Bool
  | .non, .non => true
  | .bl a, .bl b => a == b
  | .bl a, .int b => (if a then 1 else 0) == b
  | .int a, .bl b => a == (if b then 1 else 0)
  | .int a, .int b => a == b
  | .str a, .str b => a == b
  | _, _ => false
theorem eqAt_V {A : Around} {s : Shared} {y x : V} {u v : Value} (ry : RelV y u) (rx : RelV x v) (fy : flatV y = true) (fx : flatV x = true) : SeqAt.EqAt A s u v (eqV y x) := by
  cases y with
  | non =>
    cases ry
    cases x with
    | non => cases rx; exact SeqAt.EqAt.same _
    | bl b => cases rx; exact SeqAt.EqAt.none_bool b
    | int b => obtain ⟨t, rfl⟩ := rx; exact SeqAt.EqAt.none_int b t
    | str b => obtain ⟨t, rfl⟩ := rx; exact SeqAt.EqAt.none_str b t
    | _ => exact absurd (show false = true from fx) Bool.false_ne_true
  | bl a =>
    cases ry
    cases x with
    | non => cases rx; exact SeqAt.EqAt.bool_none a
    | bl b => cases rx; exact SeqAt.EqAt.bool_bool a b
    | int b => obtain ⟨t, rfl⟩ := rx; exact SeqAt.EqAt.bool_int a b t
    | str b => obtain ⟨t, rfl⟩ := rx; exact SeqAt.EqAt.bool_str a b t
    | _ => exact absurd (show false = true from fx) Bool.false_ne_true
  | int a =>
    obtain ⟨t', rfl⟩ := ry
    cases x with
    | non => cases rx; exact SeqAt.EqAt.int_none a t'
    | bl b => cases rx; exact SeqAt.EqAt.int_bool a t' b
    | int b => obtain ⟨t, rfl⟩ := rx; exact SeqAt.EqAt.int_int a t' b t
    | str b => obtain ⟨t, rfl⟩ := rx; exact SeqAt.EqAt.int_str a t' b t
    | _ => exact absurd (show false = true from fx) Bool.false_ne_true
  | str a =>
    obtain ⟨t', rfl⟩ := ry
    cases x with
    | non => cases rx; exact SeqAt.EqAt.str_none a t'
    | bl b => cases rx; exact SeqAt.EqAt.str_bool a t' b
    | int b => obtain ⟨t, rfl⟩ := rx; exact SeqAt.EqAt.str_int a t' b t
    | str b => obtain ⟨t, rfl⟩ := rx; exact SeqAt.EqAt.str_str a t' b t
    | _ => exact absurd (show false = true from fx) Bool.false_ne_true
  | _ => exact absurd (show false = true from fy) Bool.false_ne_true
def eqU (x : V) (u : Value) : Bool := match u with
  | .none => eqV .non x
  | .bool b => eqV (.bl b) x
  | .int i _ => eqV (.int i) x
  | .str z _ => eqV (.str z) x
  | _ => false
theorem eqU_of {x y : V} {u : Value} (r : RelV y u) (f : flatV y = true) : eqU x u = eqV y x := by
  cases y with
  | non => cases r; rfl
  | bl b => cases r; rfl
  | int i => obtain ⟨t, rfl⟩ := r; rfl
  | str z => obtain ⟨t, rfl⟩ := r; rfl
  | _ => exact absurd (show false = true from f) Bool.false_ne_true
theorem any_eqU {x : V} : ∀ {xs : List V} {us : List Value}, Vals xs us → xs.all flatV = true → us.any (eqU x) = xs.any fun y => eqV y x
  | _, _, .nil, _ => rfl
  | y :: xs, u :: us, .cons r t, f => by
    rw [List.all_cons, Bool.and_eq_true] at f
    rw [List.any_cons, List.any_cons, eqU_of r f.1, any_eqU t f.2]
theorem mem_eqAt {A : Around} {s : Shared} {x : V} {v : Value} (rx : RelV x v) (fx : flatV x = true) : ∀ {xs : List V} {us : List Value}, Vals xs us → xs.all flatV = true → ∀ u ∈ us, SeqAt.EqAt A s u v (eqU x u)
  | _, _, .nil, _ => fun u hu => by cases hu
  | y :: xs, u :: us, .cons r t, f => fun u' hu => by
    rw [List.all_cons, Bool.and_eq_true] at f
    rcases List.mem_cons.mp hu with rfl | hu
    · rw [eqU_of r f.1]; exact eqAt_V r rx f.1 fx
    · exact mem_eqAt rx fx t f.2 u' hu
def inV (x : V) (xs : List V) : Bool := xs.any fun y => eqV y x
def rIn (K : PySem.W.Frag) (neg : Bool) : R2 := fun x y H Q => ∃ p xs, y = .ref p ∧ (SqL K H p xs ∨ SqT K H p xs) ∧ flatV x = true ∧ xs.all flatV = true ∧ Q (.bl (if neg then !inV x xs else inV x xs)) H
theorem op_in_seq : OpR X (compareOp .In) (rIn X.K false) := by
  intro pins s σ H x y v u Q I rx ry h
  obtain ⟨p, xs, rfl, hq, fx, fs, q⟩ := h
  cases ry
  rcases hq with hq | hq
  · obtain ⟨its, r, pl, hz⟩ := I.list hq
    refine SeqAt.in_listAt (eqU x) pl.isList (fun w hw => mem_eqAt rx fx r fs w (by simpa using hw)) ⟨.bl _, H, I, rfl, ?_⟩
    rw [show its.toArray.any (eqU x) = its.any (eqU x) by simp, any_eqU r fs]
    exact q
  · obtain ⟨its, r, pl, hz⟩ := I.tuple hq
    refine SeqAt.in_tupleAt (eqU x) pl (fun w hw => mem_eqAt rx fx r fs w (by simpa using hw)) ⟨.bl _, H, I, rfl, ?_⟩
    rw [show its.toArray.any (eqU x) = its.any (eqU x) by simp, any_eqU r fs]
    exact q
theorem op_notIn_seq : OpR X (compareOp .NotIn) (rIn X.K true) := by
  intro pins s σ H x y v u Q I rx ry h
  obtain ⟨p, xs, rfl, hq, fx, fs, q⟩ := h
  cases ry
  rcases hq with hq | hq
  · obtain ⟨its, r, pl, hz⟩ := I.list hq
    refine SeqAt.notIn_listAt (eqU x) pl.isList (fun w hw => mem_eqAt rx fx r fs w (by simpa using hw)) ⟨.bl _, H, I, rfl, ?_⟩
    rw [show its.toArray.any (eqU x) = its.any (eqU x) by simp, any_eqU r fs]
    exact q
  · obtain ⟨its, r, pl, hz⟩ := I.tuple hq
    refine SeqAt.notIn_tupleAt (eqU x) pl (fun w hw => mem_eqAt rx fx r fs w (by simpa using hw)) ⟨.bl _, H, I, rfl, ?_⟩
    rw [show its.toArray.any (eqU x) = its.any (eqU x) by simp, any_eqU r fs]
    exact q
theorem call_len_seq : CallR X (.builtin "len") (fun xs H Q => ∃ p ys, xs = [.ref p] ∧ (SqL X.K H p ys ∨ SqT X.K H p ys) ∧ Q (.int ys.length) H) := by
  intro pins s σ H xs us Q I r h
  obtain ⟨p, ys, rfl, hq, q⟩ := h
  obtain ⟨u, rfl, rx⟩ := vals1 r
  cases rx
  have hn := line63
  rcases hq with hq | hq
  · obtain ⟨its, r', pl, hz⟩ := I.list hq
    have hlen := r'.length
    exact Calls.call_len_list pl.isList (by simp only [List.size_toArray] <;> omega) ⟨.int ys.length, H, I.tok _, ⟨s.toks + 1, by rw [List.size_toArray, hlen]⟩, q⟩
  · obtain ⟨its, r', pl, hz⟩ := I.tuple hq
    have hlen := r'.length
    exact len_tuple pl (by simp only [List.size_toArray] <;> omega) ⟨.int ys.length, H, I.tok _, ⟨s.toks + 1, by rw [List.size_toArray, hlen]⟩, q⟩
theorem call_list_of : CallR X (.type "list") (fun xs H Q => ∃ p ys, xs = [.ref p] ∧ (SqL X.K H p ys ∨ SqT X.K H p ys) ∧ ∀ l, H l = none → Q (.ref l) (upd H l (.lst ys))) := by
  intro pins s σ H xs us Q I r h
  obtain ⟨p, ys, rfl, hq, q⟩ := h
  obtain ⟨u, rfl, rx⟩ := vals1 r
  cases rx
  have fin : ∀ (its : List Value), Vals ys its → ys.length ≤ sizeLine → ∀ (h' : Heap) (c' : Nat), (∀ b o', s.heap.get? b = some o' → h'.get? b = some o') →
      h'.get? s.heap.objs.size = some { cls := .type "list", dict := none, data := .seq its.toArray c', slots := #[] } → EP X pins σ Q (.ref s.heap.objs.size) { s with heap := h' } := fun its r' hz h' c' kp e =>
    ⟨.ref s.heap.objs.size, _, I.laid (t' := s.toks) kp (Nat.le_refl _) (show ObjOk X.prog X.w _ h' _ (.lst ys) from ⟨hz, its, c', r', e⟩), rfl, q _ (I.hok.fresh (Nat.le_refl _))⟩
  rcases hq with hq | hq
  · obtain ⟨its, r', pl, hz⟩ := I.list hq
    have hlen := r'.length
    obtain ⟨o, ho, hc, n, hd⟩ := pl.isList
    exact call_list_seq p (.inl rfl) ho hc hd (fun h' c' kp e => fin its r' hz h' c' kp e) (by simp only [List.size_toArray] <;> omega)
  · obtain ⟨its, r', pl, hz⟩ := I.tuple hq
    have hlen := r'.length
    obtain ⟨o, ho, hc, n, hd⟩ := pl
    exact call_list_seq p (.inr rfl) ho hc hd (fun h' c' kp e => fin its r' hz h' c' kp e) (by simp only [List.size_toArray] <;> omega)
def tyV (K : PySem.W.Frag) (T : String) (x : V) (H : Hp) : Prop := match x with
  | .str _ => T = "str"
  | .int _ => T = "int"
  | .ref p => (T = "list" ∧ ∃ xs, SqL K H p xs) ∨ (T = "tuple" ∧ ∃ o, K.lookup p = some o ∧ o.cls = .type "tuple" ∧ o.dict = none) ∨
      (T = "dict" ∧ ((∃ kvs, H p = some (.dK kvs)) ∨ ∃ kvs, H p = some (.dT kvs))) ∨ (T = "set" ∧ ∃ S n, H p = some (.set S n))
  | _ => False
theorem tyV_is {pins : List (Addr × Obj)} {σ : St} {H : Hp} {s : Shared} {T : String} {x : V} {v : Value} (I : Inv X pins σ H s) (r : RelV x v) (ty : tyV X.K T x H) :
    s.TypeIs v T ∧ ∀ a, v = .ref a → ∃ ob, s.heap.get? a = some ob ∧ ob.dict = none := by
  cases x with
  | str z =>
    obtain ⟨t, rfl⟩ := r
    cases (show T = "str" from ty)
    exact ⟨typeIs_str s z t, fun _ e => nomatch e⟩
  | int i =>
    obtain ⟨t, rfl⟩ := r
    cases (show T = "int" from ty)
    exact ⟨typeIs_int s i t, fun _ e => nomatch e⟩
  | ref p =>
    cases r
    rcases ty with ⟨rfl, xs, hq⟩ | ⟨rfl, o, hk, hc, hd⟩ | ⟨rfl, hk⟩ | ⟨rfl, S, n, hk⟩
    · obtain ⟨its, _, pl, _⟩ := I.list hq
      refine ⟨pl.isList.typeIs, fun a e => ?_⟩
      cases e
      obtain ⟨o, n, e, c, hd, _⟩ := pl
      exact ⟨o, e, hd⟩
    · refine ⟨⟨o, I.kIn p o hk, hc⟩, fun a e => ?_⟩
      cases e
      exact ⟨o, I.kIn _ o hk, hd⟩
    · have z : ∃ o, s.heap.get? p = some o ∧ o.ExactDict := by
        rcases hk with ⟨kvs, hk⟩ | ⟨kvs, hk⟩
        · obtain ⟨_, _, _, _, o, _, _, e, ex, _⟩ := I.hok p _ hk
          exact ⟨o, e, ex⟩
        · obtain ⟨_, _, _, _, o, _, _, e, ex, _⟩ := I.hok p _ hk
          exact ⟨o, e, ex⟩
      obtain ⟨o, e, ex⟩ := z
      refine ⟨⟨o, e, ex.1⟩, fun a e2 => ?_⟩
      cases e2
      exact ⟨o, e, ex.2.1⟩
    · obtain ⟨o, _, _, _, e, ex, _⟩ := I.hok p _ hk
      refine ⟨⟨o, e, ex.1⟩, fun a e2 => ?_⟩
      cases e2
      exact ⟨o, e, ex.2.1⟩
  | _ => exact False.elim ty
def tBM (K : PySem.W.Frag) (T : String) (r : V → List V → Hp → VK → Prop) (to : TE) (t : TA) : TE := fun σ H Q => to σ H fun x H1 => tyV K T x H1 ∧ t σ H1 fun xs H2 => r x xs H2 Q
variable {o e : Expr} {es : List Expr} {to : TE} {t : TA} {name : Str} {apos cpos : Pos} {T id : String} {r : V → List V → Hp → VK → Prop}
theorem pe_bm (pa : PlainAttrs T) (slot : Slot T name id) (hty : typeOf (.builtin id) = pure (.type "method_descriptor")) (hm : MtR X id r) (ho : PE X o to) (ha : PA X (e :: es) t)
    (hbase : attributeBase o name X.env (eval o X.env) = eval o X.env := by rfl)
    (hfew : ((backTo cpos (starEach (e :: es) X.env)).all (fun x => !x.1) && (backToKw cpos (keywordEach [] X.env)).all (fun x => x.1.isSome)
      && decide ((e :: es).length + ([] : List Keyword).length + (if ([] : List Keyword).isEmpty then 0 else 1) < 30)) = true := by rfl)
    (hline : (apos.endLine == cpos.line) = true := by rfl) (hs : starEach (e :: es) X.env = (false, eval e X.env) :: starEach es X.env := by rfl) (hplain : (backTo cpos (starEach es X.env)).any (·.1) = false := by rfl) :
    PE X (.Call (.Attribute o name apos) (e :: es) [] cpos) (tBM X.K T r to t) := by
  intro pins s σ H Q I h
  refine wpAny_Call_method_late hbase hfew hline rfl (thn (ho pins s σ H _ I h) fun v s1 ⟨x, H1, I1, r1, ty, q1⟩ => ?_)
  obtain ⟨h1, h2⟩ := tyV_is I1 r1 ty
  refine ⟨T, id, pa, slot, hty, h1, h2, ?_⟩
  have hA := ha cpos pins s1 σ H1 _ I1 q1
  rw [hs] at hA ⊢
  refine Calls.callWith_builtin (by show (false || (backTo cpos (starEach es X.env)).any (·.1)) = false; rw [hplain] <;> rfl) (Calls.evalArgs_plain ?_)
  exact thn hA fun us s2 ⟨vs, H2, I2, r2, q2⟩ => hm pins s2 σ H2 x vs v us Q I2 r1 r2 q2
end
end L2

namespace L2
open PySem PySem.Spec PyProof.Rows
def MtM (X : Cx) (id : String) (r : V → List V → Hp → VK → Prop) : Prop :=
  ∀ (pins : List (Addr × Obj)) (s : Shared) (σ : St) (H : Hp) (x : V) (xs : List V) (v : Value) (us : List Value) (Q : VK), Inv X pins σ H s → RelV x v → Vals xs us → r x xs H Q →
    wpAny (model X.prog X.w) X.A (call (.builtin id) (v :: us)) (EP X pins σ Q) X.xe s
theorem Vals.one : ∀ {x : V} {us : List Value}, Vals [x] us → ∃ u, us = [u] ∧ RelV x u
  | _, _, .cons r .nil => ⟨_, rfl, r⟩
theorem Vals.rep {xs : List V} {us : List Value} (h : Vals xs us) : ∀ k : Nat, Vals (List.replicate k xs).flatten (List.replicate k us).flatten
  | 0 => .nil
  | k + 1 => by
    rw [List.replicate_succ, List.replicate_succ, List.flatten_cons, List.flatten_cons]
    exact Vals.append h (Vals.rep h k)
theorem foldl_rep (its : List Value) : ∀ (k : Nat) (acc : List Value),
    List.foldl (fun x1 x2 => x1 ++ x2) acc.toArray (List.replicate k its.toArray) = (acc ++ (List.replicate k its).flatten).toArray
  | 0, acc => by simp
  | k + 1, acc => by
    have e : acc.toArray ++ its.toArray = (acc ++ its).toArray := by simp
    have e2 : (acc ++ its) ++ (List.replicate k its).flatten = acc ++ (List.replicate (k + 1) its).flatten := by
      rw [List.replicate_succ, List.flatten_cons, List.append_assoc]
    rw [← e2, ← foldl_rep its k (acc ++ its), ← e, List.replicate_succ, List.foldl_cons]
section
variable {X : Cx} {pins : List (Addr × Obj)} {σ : St} {H : Hp} {s : Shared} {l b : Addr} {xs ys zs : List V}
theorem Inv.lset {its its' : List Value} {n : Nat} {f : Array Value → Array Value} {t' : Nat} (I : Inv X pins σ H s) (hH : H l = some (.lst xs))
    (e : s.heap.get? l = some { cls := .type "list", data := .seq its.toArray n }) (hf : f its.toArray = its'.toArray) (hv : Vals ys its') (hz : ys.length ≤ sizeLine) :
    Inv X pins σ (upd H l (.lst ys)) { s with heap := s.heap.update l (Obj.mapSeq f), toks := t' } := by
  have q := PySem.IsL.update e f
  rw [hf] at q
  refine I.write (x := l) (e := l) (by rw [hH]; exact trivial) (.inl rfl) (fun b' u hb hu => (Heap.get?_update_other s.heap (Obj.mapSeq f) (Ne.symm hb)).trans hu) ⟨_, q⟩ ?_
  exact ⟨hz, its', _, hv, q⟩
theorem Inv.lnew {its : List Value} {t' : Nat} (I : Inv X pins σ H s) (hv : Vals ys its) (hz : ys.length ≤ sizeLine) :
    Inv X pins σ (upd H s.heap.objs.size (.lst ys)) { s with heap := s.heap.push { cls := .type "list", data := .seq its.toArray }, toks := t' } :=
  I.laid (fun _ _ q => Heap.get?_push_of_some _ q) (Nat.le_refl _) ⟨hz, its, 0, hv, Heap.get?_push_size _ rfl⟩
theorem Inv.fresh (I : Inv X pins σ H s) : H s.heap.objs.size = none := I.hok.fresh (Nat.le_refl _)
theorem Inv.lstM (I : Inv X pins σ H s) (hH : H l = some (.lst xs)) : xs.length ≤ sizeLine ∧ ∃ (its : List Value) (n : Nat), Vals xs its ∧ xs.length = its.length ∧ s.heap.get? l = some { cls := .type "list", data := .seq its.toArray n } := by
  obtain ⟨z, its, n, r, e⟩ := I.hok l _ hH
  exact ⟨z, its, n, r, r.length, e⟩
theorem notLongL {n : Nat} (h : n ≤ sizeLine) : Builtin.List.listTooLong n = false := by
  unfold Builtin.List.listTooLong
  exact decide_eq_false (by omega)
end

section
variable {X : Cx}
def rAppend : V → List V → Hp → VK → Prop := fun x vs H Q => ∃ l xs y, x = .ref l ∧ vs = [y] ∧ H l = some (.lst xs) ∧ xs.length < sizeLine ∧ Q .non (upd H l (.lst (xs ++ [y])))
theorem mt_append : MtM X "list.append" rAppend := by
  intro pins s σ H x vs v us Q I rx rv h
  obtain ⟨l, xs, y, rfl, rfl, hH, hz, q⟩ := h
  cases rx
  obtain ⟨u, rfl, ru⟩ := rv.one
  obtain ⟨z, its, n, r, hl, e⟩ := I.lstM hH
  refine call_meets F.slot_list_append ⟨_, e, rfl⟩ F.entry_list_append (F.args_list_append_2 _ _) (PySem.list_append l its.toArray n u (by rw [List.size_toArray]; omega)) ⟨e, ?_⟩
  refine ⟨.non, _, I.lset (its' := its ++ [u]) hH e (by simp) (r.append (.cons ru .nil)) ?_, rfl, q⟩
  rw [List.length_append, List.length_singleton]
  omega
def rCat : R2 := fun x y H Q => ∃ l b xs zs, x = .ref l ∧ y = .ref b ∧ H l = some (.lst xs) ∧ H b = some (.lst zs) ∧ xs.length + zs.length ≤ sizeLine ∧ ∀ p, H p = none → Q (.ref p) (upd H p (.lst (xs ++ zs)))
theorem op_cat : OpR X (binaryOp .Add) rCat := by
  intro pins s σ H x y v u Q I rx ry h
  obtain ⟨l, b, xs, zs, rfl, rfl, hH, hB, hz, q⟩ := h
  cases rx
  cases ry
  obtain ⟨z, its, n, r, hl, e⟩ := I.lstM hH
  obtain ⟨z2, its2, n2, r2, hl2, e2⟩ := I.lstM hB
  refine PySem.P.add_list e e2 ?_ (by rw [List.size_toArray, List.size_toArray]; omega)
  have ea : its.toArray ++ its2.toArray = (its ++ its2).toArray := by simp
  rw [ea]
  exact ⟨.ref _, _, I.lnew (t' := s.toks) (r.append r2) (by rw [List.length_append]; omega), rfl, q _ I.fresh⟩
def rRep : R2 := fun x y H Q => ∃ l k xs, x = .ref l ∧ y = .int k ∧ H l = some (.lst xs) ∧ -(2 ^ 63) ≤ k ∧ k < 2 ^ 63 ∧ xs.length * k.toNat ≤ sizeLine ∧
  ∀ p, H p = none → Q (.ref p) (upd H p (.lst (List.replicate k.toNat xs).flatten))
theorem len_rep {α : Type} (xs : List α) (k : Nat) : (List.replicate k xs).flatten.length = k * xs.length := by
  induction k with
  | zero => simp
  | succ k ih => rw [List.replicate_succ, List.flatten_cons, List.length_append, ih, Nat.succ_mul, Nat.add_comm]
theorem op_rep : OpR X (binaryOp .Mult) rRep := by
  intro pins s σ H x y v u Q I rx ry h
  obtain ⟨l, k, xs, rfl, rfl, hH, h1, h2, hz, q⟩ := h
  cases rx
  obtain ⟨t, rfl⟩ := ry
  obtain ⟨z, its, n, r, hl, e⟩ := I.lstM hH
  have hlen : its.toArray.size * k.toNat ≤ sizeLine := by rw [List.size_toArray, ← hl]; exact hz
  have hcap : ¬ its.toArray.size * k.toNat > (2 ^ 63 - 1) / 8 := by
    have : (sizeLine : Nat) ≤ (2 ^ 63 - 1) / 8 := by decide
    omega
  have hfit : ¬ (!Builtin.List.listFitsIndex k) = true := by
    rw [fitsIndex_both h1 h2]
    exact Bool.false_ne_true
  have hlong : ¬ Builtin.List.listTooLong (its.toArray.size * k.toNat) = true := by
    rw [notLongL hlen]
    exact Bool.false_ne_true
  have hnew : List.foldl (fun x1 x2 => x1 ++ x2) #[] (List.replicate (if its.toArray.isEmpty = true then 0 else k.toNat) its.toArray) = (List.replicate k.toNat its).flatten.toArray := by
    have f0 : ∀ m : Nat, List.foldl (fun x1 x2 => x1 ++ x2) #[] (List.replicate m its.toArray) = (List.replicate m its).flatten.toArray := fun m => by
      have := foldl_rep its m []
      rw [List.nil_append] at this
      exact this
    rw [f0]
    cases its with
    | nil => simp
    | cons a r' => rw [if_neg (by simp)]
  refine wpAny_binaryOp_repeat_ref (T := "list") (U := "int") (by decide) ⟨_, e, rfl⟩ (fun s' => typeIs_int s' k t) noFill_list_mul F.fills_int_mul F.slot_int_rmul repeat_list F.slot_int_index.lookup
    (call_meets F.slot_int_rmul (typeIs_int s k t) F.entry_int_rmul (F.args_int_rmul_2 _ _) (int___rmul___int_list k t l its.toArray n)
      ⟨e, rfl, ⟨_, e, rfl⟩, call_meets F.slot_list_mul ⟨_, e, rfl⟩ F.entry_list_mul (F.args_list_mul_2 _ _) (AutoListH.list___mul___list_int_3 l its.toArray n k t hfit hcap hlong) ⟨e, ?_⟩⟩)
  rw [hnew]
  exact ⟨.ref _, _, I.lnew (t' := s.toks) (r.rep k.toNat) (by rw [len_rep, Nat.mul_comm]; exact hz), rfl, q _ I.fresh⟩
end

section
variable {prog : Program} {w : World} {A : Around} {E : Value → Shared → Prop} {s : Shared}
set_option maxRecDepth 100000 in
end

section
variable {X : Cx}
end
end L2

namespace Att
open PySem PySem.W PySem.Calls PyProof.Rows
theorem ints_of_wellAll {P : Params} {h : Heap} : ∀ (ns : List Int) (vs : List Value), WellAll P h vs (ns.map WData.int) → IntsAre vs ns := by
  intro ns
  induction ns with
  | nil =>
    intro vs w
    rw [List.map_nil] at w
    cases w
    exact .nil
  | cons n ns ih =>
    intro vs w
    rw [List.map_cons] at w
    cases w with
    | cons a b =>
      cases a
      exact .cons _ _ (ih _ b)
theorem script_of {l : OpenLaw} {n : Nat} (hn : l.most = some n) {P : Params} {h : Heap} {args : List WData} {vals : List Value}
    (hpre : l.row.toRowW.claim.pre args = true) (hwl : WellAll P h vals args) :
    ∃ a vs ns, vals = [Value.ref a] ∧ args = [WData.list (ns.map WData.int)] ∧ h.get? a = some { cls := .type "list", data := .seq vs.toArray } ∧ IntsAre vs ns ∧ ns.length ≤ n := by
  have hsh : WShape.hasAll [] args [.list .int] = true := (pre_splitW hpre).1
  have hc : l.pre.holds [] { args := args } = true := (pre_splitW hpre).2
  obtain ⟨d, r, rfl, h1, h2⟩ := hasAllW_cons hsh
  obtain rfl := hasAllW_nil h2
  obtain ⟨xs, rfl, h3⟩ := hasW_list h1
  obtain ⟨ns, rfl⟩ := items_int h3
  have hlen : ns.length ≤ n := by
    unfold OpenLaw.pre at hc
    have h4 : (WTm.not (.lt (.lit (.int (n : Int))) (.len (.arg 0)))).holds [] { args := [.list (ns.map .int)] } = true := by
      have h4 := (holds_andW hc).1
      rw [hn] at h4
      exact h4
    have h5 := condW_of h4 (w_not (w_lt w_lit (w_len_list (w_arg rfl))))
    rw [List.length_map] at h5
    refine Nat.le_of_not_lt fun q => ?_
    have q' : (n : Int) < ((ns.length : Nat) : Int) := by omega
    first
      | (rw [decide_eq_true q'] at h5; exact absurd h5 (by decide))
      | (simp at h5; omega)
  cases hwl with
  | cons w1 w2 =>
    cases w2
    cases w1 with
    | list ho hall => exact ⟨_, _, ns, rfl, rfl, ho, ints_of_wellAll ns _ hall, hlen⟩
theorem post_true (l : OpenLaw) (args : List WData) : l.row.toRowW.claim.post args (.bool true) args = true :=
  postW_of (r := l.row.toRowW) (X := (true == true))
    (show WShape.has [] (.bool true) .bool = true by first | rfl | decide | simp [WShape.has, WShape.arms, WShape.armsAll])
    (show (WTm.eq .res (.lit (.bool true))).value [] { args := args, res := some (.bool true), after := args } = some (.bool (true == true)) from w_eq_bool (w_res rfl) w_lit) rfl
theorem attach_call {l : OpenLaw} {n : Nat} {q : Program} {loose : List Str} {XP : (Str → Option Value) → Heap → Prop} {YP : World → Heap → Prop} {d : DefRec}
    (hn : l.most = some n) (hdf : d.params.defaults = [])
    (call : ∀ (w : World) (s₀ s₁ : Shared) (mg mb : Str → Option Value) (fa : Addr) (o : Obj) (pm cd doc : Value) (a : Addr) (vs : List Value) (ns : List Int),
      Ground q loose [] XP w s₀ mg mb s₁.heap → YP w s₁.heap →
      s₁.heap.get? fa = some o → o.data = .func (docDef d.name d.params d.body d.scope pm cd doc) → s₁.heap.CodeRec cd d.name → mg d.name = some (.ref fa) →
      s₁.heap.get? a = some { cls := .type "list", data := .seq vs.toArray } → IntsAre vs ns → ns.length ≤ n → s₁.gens = #[] →
      codeAny (model l.prog w) callerA (.call (.ref fa) ⟨[.ref a], []⟩) (fun r s' => r = .ok (.ret (.bool true)) ∧ OldK s₁.heap s'.heap ∧ s'.os = s₁.os ∧ AllBare s'.gens) s₁) :
    WalkO q loose XP YP l.row.toRowW d [] (fun f vs => PySem.call f vs) := by
  intro w s₀ s₁ mg mb G Y fa o pm cd doc dV kV ho hd hcd hD hmg hg args vals as hpre hlay hrd hwl hlo
  obtain rfl : dV = .none := Dflts.none hD hdf
  obtain rfl : kV = .none := Dflts.noKw hD
  obtain ⟨a, vs, ns, rfl, rfl, hobj, hints, hlen⟩ := script_of hn hpre hwl
  refine enter_call (codeAny_mono (call w s₀ s₁ mg mb fa o pm cd doc a vs ns G Y ho (fd_plain hd) hcd hmg hobj hints hlen hg) fun r s' hq => ?_)
  obtain ⟨rfl, h2, h3, h4⟩ := hq
  exact ⟨.inl ⟨.bool true, .bool true, [], rfl, fun _ => rfl, .bool true, post_true l _, fun _ => ⟨List.Pairwise.nil, fun _ hm => (nomatch hm)⟩⟩, h2, h3, h4⟩
section
variable {prog : Program} {w : World} {A : Around} {E : Value → Shared → Prop} {s : Shared} {K : Frag}
end
end Att

namespace L2
open PySem PySem.Spec PyProof.Rows
theorem vals_ints : ∀ {vs : List Value} {ns : List Int}, IntsAre vs ns → Vals (ns.map V.int) vs
  | _, _, .nil => .nil
  | _, _, .cons n t h => .cons ⟨t, rfl⟩ (vals_ints h)
def Only (H : Hp) : Prop := ∀ b, H b = none ∨ ∃ o xs, H b = some (.frz o (.lst xs))
theorem law_call {P : Program} {w : World} {K : PySem.W.Frag} {mg mb : Str → Option Value} {CX : CXT} {k : Nat} {fa a : Addr} {fd : FuncData} {x : Str} {sp : Sp} {s₁ : Shared} {vs : List Value} {ns : List Int}
    (KX : K.In s₁.heap) (hns : s₁.heap.Ns mainGlobals mg) (hb : s₁.heap.Ns builtinsNs mb) (hbb : ∀ x : Str, x ≠ "__name__" → mb x = bootBuiltins x) (hlim : s₁.heap.NoLimit) (hg : s₁.gens = #[])
    (ha : s₁.heap.get? a = some { cls := .type "list", data := .seq vs.toArray }) (hi : IntsAre vs ns) (hl : ns.length ≤ sizeLine) (hr : Room k callerA)
    (F : ∀ base : Heap, K.In base → base.Ns mainGlobals mg → FnOk P w K mg base CX k fa fd [x] sp) (hbind : ∀ (s : Shared) (u : Value), BindsTo s fd ⟨[u], []⟩ [(x, u)])
    (hsp : ∀ H : Hp, Only H → SqL K H a (ns.map V.int) → sp [.ref a] H (fun v _ => v = .bl true) fun _ _ _ => False)
    (hCX : ∀ H e s', CX [] H s₁ (fun _ _ _ => False) e s' → False) :
    codeAny (model P w) callerA (.call (.ref fa) ⟨[.ref a], []⟩) (fun r s' => r = .ok (.ret (.bool true)) ∧ OldK s₁.heap s'.heap ∧ s'.os = s₁.os ∧ AllBare s'.gens) s₁ := by
  have rv := vals_ints hi
  have lenV := hi.length
  -- from an abstract heap in which nothing but the script may be tracked
  have core : ∀ H : Hp, Only H → SqL K H a (ns.map V.int) → HOk P w H s₁.heap → (∀ b, H b ≠ none → b = a) → (H a ≠ none → K.lookup a = none) →
      codeAny (model P w) callerA (.call (.ref fa) ⟨[.ref a], []⟩) (fun r s' => r = .ok (.ret (.bool true)) ∧ OldK s₁.heap s'.heap ∧ s'.os = s₁.os ∧ AllBare s'.gens) s₁ := by
    intro H hO hS hok hA hK
    have base_of : ∀ {b : Addr} {o : Obj}, s₁.heap.get? b = some o → H b = none → (hidT s₁.heap H).get? b = some o := fun e n => hidT_get e n
    have noA : ∀ {b : Addr} {o : Obj} {es : Array DictEntry} {ep : Nat}, s₁.heap.get? b = some o → o.data = .dict es ep → H b = none := fun {b o es ep} e d => by
      cases q : H b with
      | none => rfl
      | some u =>
        have e' : b = a := hA b (by rw [q]; simp)
        subst e'
        rw [ha] at e; cases e
        have d' : Data.seq vs.toArray _ = Data.dict es ep := d
        cases d'
    have nsK : ∀ {b : Addr} {m : Str → Option Value}, s₁.heap.Ns b m → (hidT s₁.heap H).Ns b m := fun {b m} ⟨o, es, ep, e, d, r⟩ => ⟨o, es, ep, base_of e (noA e d), d, r⟩
    have hKb : K.In (hidT s₁.heap H) := fun b o e => base_of (KX b o e) (by
      cases q : H b with
      | none => rfl
      | some u =>
        have e' : b = a := hA b (by rw [q]; simp)
        subst e'
        rw [hK (by rw [q]; simp)] at e; cases e)
    have hM : Mod K mg (hidT s₁.heap H) := ⟨hKb, nsK hns, ⟨mb, nsK hb, hbb⟩, let ⟨mc, h1, h2⟩ := hlim; ⟨mc, nsK h1, h2⟩⟩
    have e0 : Env0 P w K mg (hidT s₁.heap H) callerA [] s₁ H := ⟨rfl, hM, fun b o e => of_hidT e, Nat.le_of_eq (hidT_size _ _), trivial, fun b hb => absurd (show b ∈ ([] : List Addr) from hb) (by simp), hok, .of_eq hg⟩
    refine codeAny_mono ((F _ hKb (nsK hns)).run callerA [] s₁ H ⟨[.ref a], []⟩ [.ref a] [.ref a] _ _ hr e0 (hbind s₁ (.ref a)) (.cons rfl .nil) (hsp H hO hS)) fun r s' h => ?_
    cases r with
    | error e => exact (hCX H e s' h).elim
    | ok fl =>
      cases fl with
      | next => exact False.elim h
      | brk => exact False.elim h
      | cont => exact False.elim h
      | ret u =>
        obtain ⟨v, H', os, bare, un, hok', r', q⟩ := h
        have q' : v = .bl true := q
        subst q'
        obtain rfl : u = Value.bool true := r'
        refine ⟨rfl, OldK.of_keep fun b o e => ?_, os, bare⟩
        cases q : H b with
        | none => exact un.keep b o e q (by intro z; exact absurd (show b ∈ ([] : List Addr) from z) (by simp)) (by simp)
        | some u =>
          rcases hO b with z | ⟨ob, xs, z⟩
          · rw [q] at z; cases z
          · have z2 := un.frzs b ob _ z
            obtain ⟨e1, _⟩ := hok b _ z
            obtain ⟨e2, _⟩ := hok' b _ z2
            rw [e] at e1; cases e1
            exact e2
  cases hk : K.lookup a with
  | some o =>
    -- the script is one of the module's own objects
    have e := KX a o hk
    rw [ha] at e
    cases e
    refine core (fun _ => none) (fun _ => .inl rfl) (.inr ⟨_, vs.toArray, _, hk, rfl, rfl, rfl, by rw [List.size_toArray, lenV]; exact hl, by simpa using rv⟩) (fun b u z => by have z' : (none : Option HO) = some u := z; cases z') (fun b z => absurd rfl z) fun z => absurd rfl z
  | none =>
    refine core (fun b => if b = a then some (.frz { cls := .type "list", data := .seq vs.toArray } (.lst (ns.map V.int))) else none) (fun b => ?_) (.inl (.inr ⟨{ cls := .type "list", data := .seq vs.toArray }, if_pos rfl⟩)) (fun b u z => ?_) (fun b z => ?_) fun _ => hk
    · by_cases hb : b = a
      · exact .inr ⟨_, _, if_pos hb⟩
      · exact .inl (if_neg hb)
    · by_cases hb : b = a
      · have z' := (if_pos hb).symm.trans z
        cases z'
        subst hb
        exact ⟨ha, by rw [List.length_map]; exact hl, vs, _, rv, ha⟩
      · have z' := (if_neg hb).symm.trans z
        cases z'
    · by_cases hb : b = a
      · exact hb
      · exact absurd (if_neg hb) z
end L2

namespace L2
open PySem PySem.Spec PyProof.Rows
theorem walk_of {l : PySem.W.OpenLaw} {n k : Nat} {q : Program} {loose : List Str} {XP : (Str → Option Value) → Heap → Prop} {YP : World → Heap → Prop} {d : DefRec} {K : Params → PySem.W.Frag} {CX : World → CXT} {sp : World → Sp} {x : Str}
    (hn : l.most = some n) (hn2 : n ≤ sizeLine) (hdf : d.params.defaults = []) (hr : Room k callerA)
    (hY : ∀ (w : World) (h : Heap), YP w h → (K w.params).In h)
    (F : ∀ (w : World) (mg : Str → Option Value) (fa : Addr) (h : Heap), (K w.params).In h → h.Ns mainGlobals mg → mg d.name = some (.ref fa) →
      ∃ fd : FuncData, (∀ (s : Shared) (u : Value), BindsTo s fd ⟨[u], []⟩ [(x, u)]) ∧
        ∀ base : Heap, (K w.params).In base → base.Ns mainGlobals mg → FnOk l.prog w (K w.params) mg base (CX w) k fa fd [x] (sp w))
    (hsp : ∀ (w : World) (H : Hp) (a : Addr) (ns : List Int), ns.length ≤ n → Only H → SqL (K w.params) H a (ns.map V.int) → sp w [.ref a] H (fun v _ => v = .bl true) fun _ _ _ => False)
    (hCX : ∀ (w : World) (H : Hp) (s : Shared) (e : Value) (s' : Shared), CX w [] H s (fun _ _ _ => False) e s' → False) :
    PySem.W.WalkO q loose XP YP l.row.toRowW d [] (fun f vs => PySem.call f vs) := by
  refine Att.attach_call hn hdf fun w s₀ s₁ mg mb fa o pm cd doc a vs ns G Y ho hd hcd hmg hobj hints hlen hg => ?_
  have KX := hY w _ Y
  obtain ⟨fd, hb, hF⟩ := F w mg fa _ KX G.T.g hmg
  exact law_call KX G.T.g G.T.b G.T.builtins G.T.nolimit hg hobj hints (Nat.le_trans hlen hn2) hr hF hb (fun H hO hS => hsp w H a ns hlen hO hS) fun H e s' => hCX w H s₁ e s'
end L2

namespace L2
open PySem PySem.Spec PyProof.Rows
def defArgs (s : Stmt) : Arguments := match s with
  | .FunctionDef _ a _ _ _ _ _ _ _ _ => a
  | _ => { posonlyargs := [], args := [], vararg := none, kwonlyargs := [], kw_defaults := [], kwarg := none, defaults := [] }
def defBody (s : Stmt) : List Stmt := match s with
  | .FunctionDef _ _ b _ _ _ _ _ _ _ => b
  | _ => []
def defScope (s : Stmt) : Scope := match s with
  | .FunctionDef _ _ _ _ _ _ sc _ _ _ => sc
  | _ => { kind := .function, names := [], isGenerator := false, isCoroutine := false }
abbrev E0 : XK := fun _ _ _ => False
structure Fun (K : PySem.W.Frag) (x qual : Str) (st : Stmt) (f : Addr) (fd : FuncData) : Prop where
  ex : ∃ (oc : Value) (od : Option Addr) (kV doc pm : Value) (an : Option Addr) (cdv ct : Value) (osl : Array (Option Value)),
    fd = PySem.W.fnOf x qual (defArgs st) (defBody st) (defScope st) .none kV doc pm an cdv ct ∧ K.lookup f = some ⟨oc, od, .func fd, osl⟩ ∧ PySem.W.codeIn K cdv qual = true
  kp : PySem.W.keepIn K (.ref f) = true
section
variable {P : Program} {w : World} {K : PySem.W.Frag} {mg : Str → Option Value} {base : Heap}
theorem Fun.binds {x qual : Str} {st : Stmt} {f : Addr} {fd : FuncData} {ps : List Str} (F : Fun K x qual st f fd)
    (h : ∀ (kV doc pm : Value) (an : Option Addr) (cdv ct : Value) (us : List Value), us.length = ps.length → bindArgs (PySem.W.fnOf x qual (defArgs st) (defBody st) (defScope st) .none kV doc pm an cdv ct) ⟨us, []⟩ = pure (ps.zip us)) : Binds K fd ps [] := by
  obtain ⟨oc, od, kV, doc, pm, an, cdv, ct, osl, rfl, lk, hcd⟩ := F.ex
  exact .all (h kV doc pm an cdv ct)
theorem fun_mk {x qual : Str} {st : Stmt} {f : Addr} {oc : Value} {od an : Option Addr} {osl : Array (Option Value)} {kV doc pm cdv ct : Value} (l : K.lookup f = some ⟨oc, od, .func (PySem.W.fnOf x qual (defArgs st) (defBody st) (defScope st) .none kV doc pm an cdv ct), osl⟩)
    (c : PySem.W.codeIn K cdv qual = true) (k : PySem.W.keepIn K (.ref f) = true) : Fun K x qual st f (PySem.W.fnOf x qual (defArgs st) (defBody st) (defScope st) .none kV doc pm an cdv ct) := ⟨⟨oc, od, kV, doc, pm, an, cdv, ct, osl, rfl, l, c⟩, k⟩
end
section
variable {X : Cx}
theorem pv (i : Nat) {x : Str} {pos : Pos} (hN : X.N[i]? = some x := by rfl) (hv : Vis X.env.scope x := by first | exact Or.inl rfl | exact Or.inr (Or.inl rfl) | exact Or.inr (Or.inr rfl)) (hd : (x == ("__debug__" : Str)) = false := by decide)
    (hcd : (x == ("__classdict__" : Str)) = false := by decide) : PE X (.Name x pos) (tVar i) := pe_var hN hv hd hcd
end

theorem iteF {A B : Prop} (h : B) : if false = true then A else B := by
  rw [if_neg Bool.false_ne_true]
  exact h
theorem iteT {A B : Prop} (h : A) : if true = true then A else B := by
  rw [if_pos rfl]
  exact h
theorem iteNS {c A B : Prop} [Decidable c] (hc : c) (h : B) : if (!decide c) = true then A else B := by
  rw [decide_eq_true hc]
  exact iteF h
def Same (H H' : Hp) : Prop := ∀ b o, H b = some o → H' b = some o
theorem Same.refl (H : Hp) : Same H H := fun _ _ h => h
theorem Same.trans {H H1 H2 : Hp} (a : Same H H1) (b : Same H1 H2) : Same H H2 := fun c o h => b c o (a c o h)
theorem Same.free {H H' : Hp} (e : Same H H') {l : Addr} (h : H' l = Option.none) : H l = Option.none := by
  cases q : H l with
  | none => rfl
  | some o =>
    rw [e l o q] at h
    cases h
theorem Same.seq {K : PySem.W.Frag} {H H' : Hp} {a : Addr} {xs : List V} (e : Same H H') (h : SqL K H a xs) : SqL K H' a xs := by
  rcases h with (h | ⟨o, h⟩) | h
  · exact .inl (.inl (e _ _ h))
  · exact .inl (.inr ⟨o, e _ _ h⟩)
  · exact .inr h
end L2

namespace L2
open PySem PySem.Spec PyProof.Rows
theorem ObjOk.there {P : Program} {w : World} {H : Hp} {h : Heap} {a : Addr} {o : HO} (x : ObjOk P w H h a o) : ∃ ob, h.get? a = some ob := by
  cases o with
  | lst xs => obtain ⟨_, _, _, _, e⟩ := x; exact ⟨_, e⟩
  | tup xs => obtain ⟨_, _, _, p⟩ := x; obtain ⟨o, e, _⟩ := p; exact ⟨_, e⟩
  | dK kvs => obtain ⟨_, _, _, _, o, _, _, e, _⟩ := x; exact ⟨_, e⟩
  | dT kvs => obtain ⟨_, _, _, _, o, _, _, e, _⟩ := x; exact ⟨_, e⟩
  | set S n => obtain ⟨o, _, _, _, e, _⟩ := x; exact ⟨_, e⟩
  | ins C dx fs => obtain ⟨_, _, _, e, _⟩ := x; exact ⟨_, e⟩
  | own y => obtain ⟨_, e⟩ := x; exact ⟨_, e⟩
  | xd fs => obtain ⟨_, ⟨_, _, _, e, _⟩, _⟩ := x; exact ⟨_, e⟩
  | rng lo hi => obtain ⟨_, _, _, e⟩ := x; exact ⟨_, e⟩
  | frz ob u => obtain ⟨e, _⟩ := x; exact ⟨_, e⟩
  | tbl ps => exact ⟨_, (show h.get? a = some _ from x)⟩
  | met f y => exact ⟨_, (show h.get? a = some _ from x)⟩
  | ext φ => obtain ⟨_, ⟨_, e⟩, _⟩ := x; exact ⟨_, e⟩
structure Fly (P : Program) (w : World) (outer : List Env) (H : Hp) (s : Shared) (C : Addr) (H' : Hp) (a : Addr) (s' : Shared) : Prop where
  os : s'.os = s.os
  bare : AllBare s'.gens
  body : ∃ B a0, Heap.FlyingW B outer a (.ref C) a0 s'.heap ∧ HOk P w H' B ∧
    (∀ b o, s.heap.get? b = some o → H b = none → b ∉ frs outer → B.get? b = some o) ∧ (∀ b o, s.heap.get? b = some o → b ∉ frs outer → ∃ o', B.get? b = some o')
  slot : ∀ b o, s.heap.get? b = some o → H b = none → b ∈ frs outer → ∃ sl, s'.heap.get? b = some { o with slots := sl }
  free : ∀ b o, s.heap.get? b = some o → H b = none → H' b = none
  tups : ∀ b xs, H b = some (.tup xs) → H' b = some (.tup xs)
  frzs : ∀ b o u, H b = some (.frz o u) → H' b = some (.frz o u)
  tbls : ∀ b ps, H b = some (.tbl ps) → ∃ more, H' b = some (.tbl (ps ++ more))
def CX1 (P : Program) (w : World) : CXT := fun outer H s E e s' => ∃ a C H', e = .ref a ∧ Fly P w outer H s C H' a s' ∧ E (.ref C) none H'
structure Own (X : Cx) : Prop where
  stk : X.stack = X.env :: X.outer
  fr : X.env.frame = some X.env.locals
  ex : X.ex = []
section
variable {X : Cx} {pins : List (Addr × Obj)} {σ : St} {H : Hp} {s : Shared}
theorem Own.noex (O : Own X) (b : Addr) : b ∉ X.ex := by rw [O.ex]; simp
theorem Own.frs (O : Own X) : frs X.stack = X.env.locals :: frs X.outer := by rw [O.stk]; unfold L2.frs; rw [List.filterMap_cons, O.fr]
theorem Own.notStk (O : Own X) (I : Inv X pins σ H s) {b : Addr} {o : Obj} (e : X.s₀.heap.get? b = some o) (hb : b ∉ X.fs) : b ∉ L2.frs X.stack := by
  rw [O.frs]
  intro z
  rcases List.mem_cons.mp z with z | z
  · exact absurd (Nat.lt_of_lt_of_le (Heap.lt_size e) I.ok.above) (by rw [z]; exact Nat.lt_irrefl _)
  · exact hb z
theorem throw_ok {e C : Addr} {h1 : Heap} {vs : List Value} {tk : Nat} {Q : Unit → Shared → Prop} {E' : Value → Shared → Prop} (O : Own X) (I : Inv X pins σ H s) (hx : Heap.MadeExcOf s.heap h1 e (.ref C) vs)
    (hQ : ∀ s', Fly X.prog X.w X.outer X.H₀ X.s₀ C H e s' → Q () s') : wpAny (model X.prog X.w) X.A (leaving X.env (.ref e)) Q E' { s with heap := h1, toks := tk } := by
  have hin : ∀ env ∈ X.stack, ∀ b, env.frame = some b → b ∈ frs X.stack := fun env he b hb => List.mem_filterMap.mpr ⟨env, he, hb⟩
  have hst := PySem.W.funFrames_hide I.stack hin
  have hfr : X.A.frames = some (X.env :: X.outer) := by rw [I.ok.frames, O.stk]
  rw [O.stk] at hst
  refine wpAny_leaves_madeW (s := { s with heap := h1, toks := tk }) (base := PySem.W.hideAll s.heap (frs X.stack)) (h := s.heap) hfr O.fr (fun b o q => PySem.W.of_hideAll _ q) (by rw [O.stk]; exact hst) hx fun h' t x1 x2 x3 x4 => ?_
  refine hQ _ ⟨I.os, I.bare, ⟨_, _, x1, fun a o ha => ?_, fun b o q n hb => ?_, fun b o q hb => ?_⟩, fun b o q n hb => ?_, fun b o q n => I.base.free b o q n (O.noex b), I.base.tups, I.base.frzs, I.base.tbls⟩
  · refine (I.hok a o ha).stay (fun b u hb q => PySem.W.hideAll_get _ q fun z => ?_) (fun _ q => q) fun _ _ q => q
    have f := I.stkFree b z
    rcases hb with rfl | hb
    · rw [ha] at f; cases f
    · rw [hb] at f; cases f
  · exact PySem.W.hideAll_get _ (I.base.keep b o q n hb (O.noex b)) (O.notStk I q hb)
  · obtain ⟨o', e'⟩ := I.base.there b o q (O.noex b)
    exact ⟨o', PySem.W.hideAll_get _ e' (O.notStk I q hb)⟩
  · obtain ⟨sl, e1⟩ := I.base.slot b o q n hb (O.noex b)
    obtain ⟨_, o2, ho2, hd⟩ := I.ok.funs.mem hb
    rw [q] at ho2; cases ho2
    obtain ⟨sl', e2⟩ := x4 b _ (hx.keeps b _ e1) hd
    exact ⟨sl', e2⟩
theorem fly_on {e C : Addr} {H' : Hp} {s' : Shared} {Q : Unit → Shared → Prop} {E' : Value → Shared → Prop} (O : Own X) (I : Inv X pins σ H s) (F : Fly X.prog X.w X.stack H s C H' e s')
    (hQ : ∀ s', Fly X.prog X.w X.outer X.H₀ X.s₀ C H' e s' → Q () s') : wpAny (model X.prog X.w) X.A (leaving X.env (.ref e)) Q E' s' := by
  have hfr : X.A.frames = some (X.env :: X.outer) := by rw [I.ok.frames, O.stk]
  obtain ⟨B, a0, hfl, hok, hk, ht⟩ := F.body
  have hfl' := hfl
  rw [O.stk] at hfl'
  refine wpAny_leaves_onW hfr O.fr hfl' fun h' x1 x2 => ?_
  refine hQ _ ⟨F.os.trans I.os, F.bare, ⟨B, a0, x1, hok, fun b o q n hb => ?_, fun b o q hb => ?_⟩, fun b o q n hb => ?_, fun b o q n => ?_, fun b xs q => F.tups b xs (I.base.tups b xs q), fun b o u q => F.frzs b o u (I.base.frzs b o u q), fun b ps q => ?_⟩
  · exact hk b o (I.base.keep b o q n hb (O.noex b)) (I.base.free b o q n (O.noex b)) (O.notStk I q hb)
  · obtain ⟨o', e'⟩ := I.base.there b o q (O.noex b)
    exact ht b o' e' (O.notStk I q hb)
  · obtain ⟨sl, e1⟩ := I.base.slot b o q n hb (O.noex b)
    obtain ⟨sl', e2⟩ := F.slot b _ e1 (I.base.free b o q n (O.noex b)) (by rw [O.frs]; exact List.mem_cons_of_mem _ hb)
    obtain ⟨_, o2, ho2, hd⟩ := I.ok.funs.mem hb
    rw [q] at ho2; cases ho2
    obtain ⟨sl2, e3⟩ := x2 b _ e2 hd
    exact ⟨sl2, e3⟩
  · obtain ⟨o', e'⟩ := I.base.there b o q (O.noex b)
    exact F.free b o' e' (I.base.free b o q n (O.noex b))
  · obtain ⟨m1, e1⟩ := I.base.tbls b ps q
    obtain ⟨m2, e2⟩ := F.tbls b _ e1
    exact ⟨m1 ++ m2, by rw [e2, Array.append_assoc]⟩
end

def Throws (X : Cx) (E : XK) : Prop := ∀ (pins : List (Addr × Obj)) (σ : St) (H : Hp) (s : Shared) (e C : Addr) (h1 : Heap) (vs : List Value), Inv X pins σ H s → Heap.MadeExcOf s.heap h1 e (.ref C) vs → E (.ref C) none H → X.xe (.ref e) { s with heap := h1 }
section
variable {P : Program} {w : World} {K : PySem.W.Frag} {mg : Str → Option Value} {base : Heap} {N : List Str} {qual : Str} {scope : Scope} {f : Addr} {cd : Value} {A : Around} {outer : List Env} {s : Shared} {H : Hp} {E : XK}
abbrev cx1 (P : Program) (w : World) (K : PySem.W.Frag) (mg : Str → Option Value) (base : Heap) (N : List Str) (qual : Str) (scope : Scope) (f : Addr) (cd : Value) (A : Around) (outer : List Env) (s : Shared) (H : Hp) (E : XK) : Cx :=
  cxOf (CX1 P w) P w K mg base N qual scope f cd A outer s H E
theorem own1 : Own (cx1 P w K mg base N qual scope f cd A outer s H E) := ⟨rfl, rfl, rfl⟩
theorem pass1 : Passes (CX1 P w) (cx1 P w K mg base N qual scope f cd A outer s H E) E := by
  intro pins σ H2 s2 e s' I h
  obtain ⟨a, C, H', rfl, F, hE⟩ := h
  exact fly_on (X := cx1 P w K mg base N qual scope f cd A outer s H E) own1 I F fun s'' F' => ⟨a, C, H', rfl, F', hE⟩
theorem throws1 : Throws (cx1 P w K mg base N qual scope f cd A outer s H E) E := by
  intro pins σ H2 s2 e C h1 vs I hx hE
  exact throw_ok (X := cx1 P w K mg base N qual scope f cd A outer s H E) (tk := s2.toks) own1 I hx fun s'' F' => ⟨e, C, H2, rfl, F', hE⟩
theorem powns1 : PassesOwn (model (cx1 P w K mg base N qual scope f cd A outer s H E).prog (cx1 P w K mg base N qual scope f cd A outer s H E).w) (cx1 P w K mg base N qual scope f cd A outer s H E).A (cx1 P w K mg base N qual scope f cd A outer s H E).env (cx1 P w K mg base N qual scope f cd A outer s H E).xe := PassesOwn.leaving
end
theorem pass10 {P : Program} {w : World} {X : Cx} : Passes (CX1 P w) X E0 := by
  rintro pins σ H s e s' I ⟨a, C, H', _, _, h⟩
  exact h.elim
theorem Fun.ok1 {P : Program} {w : World} {K : PySem.W.Frag} {mg : Str → Option Value} {base : Heap} {x qual : Str} {st : Stmt} {f : Addr} {fd : FuncData} {N ps : List Str} {k : Nat} {sp : Sp} (F : Fun K x qual st f fd) (S : FnScope N ps (defScope st))
    (len : ∀ vs H Q E, sp vs H Q E → vs.length = ps.length)
    (hbody : ∀ (cdv : Value) (A : Around) (outer : List Env) (s : Shared) (H : Hp) (vs : List V) (Q : VK) (E : XK), Room k (A.deeper (envOfC qual (defScope st) s.heap.objs.size f cdv)) → sp vs H Q E →
      ∃ t, PSs (cx1 P w K mg base N qual (defScope st) f cdv A outer s H E) (defBody st) t ∧ t { nx := fun _ H' => Q .non H', rt := Q } (start N vs) H) : FnOk P w K mg base (CX1 P w) (k + 1) f fd ps sp := by
  obtain ⟨oc, od, kV, doc, pm, an, cdv, ct, osl, rfl, lk, hcd⟩ := F.ex
  exact fn_of lk hcd S len fun A outer s H vs Q E hr hsp => hbody cdv A outer s H vs Q E hr hsp
def bmV : List Value := [.type "ValueError", .type "Exception", .type "BaseException", .type "object"]
structure ExC (K : PySem.W.Frag) (mg : Str → Option Value) (x : Str) (C : Addr) : Prop where
  mg : mg x = some (.ref C)
  ex : PySem.W.excIn K C bmV "ValueError.__new__" = true
theorem own_of {K : PySem.W.Frag} {mg : Str → Option Value} {h : Heap} {x : Str} {C : Addr} (e : ExC K mg x C) (X : K.In h) : OwnCls x C bmV "ValueError.__new__" mg h := by
  refine ⟨e.mg, ?_⟩
  have q := e.ex
  unfold PySem.W.excIn at q
  split at q
  · rename_i dd cd sl ho
    split at q
    · rename_i C' bm k0 k1 k2 k3 n k5 hm hs
      simp only [Bool.and_eq_true, beq_iff_eq, Bool.not_eq_true'] at q
      obtain ⟨⟨⟨⟨⟨rfl, rfl⟩, hdel⟩, ht⟩, hok⟩, hni⟩ := q
      obtain ⟨nm, bs, mro, ns, qn, hd, sn, sub, ab, col, del⟩ := cd
      dsimp only at hm hdel hok hni
      subst hm hdel
      have hsl : sl = #[k0, k1, k2, k3, some (.builtin "ValueError.__new__"), k5] := by
        obtain ⟨l⟩ := sl
        simp only at hs
        rw [hs]
      subst hsl
      exact ⟨bm, ns, nm, qn, bs, hd, sn, sub, ab, col, dd, k0, k1, k2, k3, k5, _, X _ _ ho, .of_isNs (PySem.W.isNs_of_in X hok), PySem.W.nsMap_none_of_in X hok hni, PySem.W.tail_of_in X ht⟩
    · cases q
  · cases q
def tRaise (C : Addr) (E : XK) (t : TA) : TS := fun _ σ H => t σ H fun vs H1 => vs.length ≤ sizeLine ∧ E (.ref C) none H1
theorem ps_raise {X : Cx} {E : XK} {x : Str} {C : Addr} {np cpos pos : Pos} {e : Expr} {es : List Expr} {t : TA} (hc : X.calm = true) (ht : Throws X E) (hC : ExC X.K X.mg x C) (hg : Gl X x) (ha : PA X (e :: es) t)
    (he : starEach (e :: es) X.env = (false, eval e X.env) :: starEach es X.env := by rfl) (hplain : (backTo cpos (starEach es X.env)).any (·.1) = false := by rfl) (hd : (x == ("__debug__" : Str)) = false := by decide) :
    PS X (.Raise (some (.Call (.Name x np) (e :: es) [] cpos)) none pos) (tRaise C E t) := by
  intro pins s σ H D I h
  obtain ⟨tl, N, nm, q, bs, hdct, sn, sub, ab, col, dd, k0, k1, k2, k3, k5, mN, hC', hN, hni, T⟩ := (own_of hC I.mod.kin).obj
  have FB := PySem.F.excBase_ValueError
  refine wpAny_Raise_call_subT (C := C) (nm := nm) (q := q) (N := N) (bs := bs) (bm := tl) (hdct := hdct) (sn := sn) (sub := sub) (ab := ab) (col := col) (dd := dd) (k0 := k0) (k1 := k1) (k2 := k2) (k3 := k3) (k5 := k5)
    FB (mN := mN) (T.hasType FB.hasBase) (I.ok.hd hc) (by rw [he]; show (false || (backTo cpos (starEach es X.env)).any (·.1)) = false; rw [hplain]; rfl) hni (ld_glob I hg hC.mg ⟨rfl, ?_⟩ hd)
  have hA := ha cpos pins s σ H _ I h
  rw [he] at hA ⊢
  refine Calls.evalArgs_plain (thn hA fun us s2 ⟨vs, H2, I2, r, z, hE⟩ => ?_)
  exact ⟨rfl, by rw [← r.length]; exact z, I2.bk _ _ hC', hN.keeps I2.bk, T.keeps I2.bk, fun h' e hm => ht pins σ H2 s2 e C h' us I2 hm hE⟩
def excO (a C : Addr) : HO := .ext fun h => ∃ o vs, h.get? a = some o ∧ o.cls = .ref C ∧ o.data = .fields vs
theorem excO_ok {P : Program} {w : World} {H : Hp} {h : Heap} {a C : Addr} {o : Obj} {vs : Array Value} (e : h.get? a = some o) (hc : o.cls = .ref C) (hd : o.data = .fields vs) : ObjOk P w H h a (excO a C) :=
  ⟨⟨o, vs, e, hc, hd⟩, ⟨o, e⟩, fun h1 h2 ⟨o1, vs1, e1, c1, d1⟩ k => ⟨o1, vs1, k o1 e1, c1, d1⟩⟩
def catchE (K : PySem.W.Frag) (c : Value) (n i : Nat) (ts : TS) (D : Ends) : XK := fun cls _ H' => ∃ C, cls = .ref C ∧ PySem.W.exmOne K (.ref C) c = some true ∧ ∀ a, H' a = none →
  ts { nx := fun σ' H2 => D.nx (σ'.set i none) H2, rt := D.rt, bk := fun σ' H2 => D.bk (σ'.set i none) H2, ct := fun σ' H2 => D.ct (σ'.set i none) H2 } ((List.replicate n none).set i (some (.ref a))) (upd H' a (excO a C))
def tTry (K : PySem.W.Frag) (c : Value) (n i : Nat) (tb : XK → TS) (ts : TS) : TS := fun D σ H => tb (catchE K c n i ts D) D σ H
section
variable {X : Cx} {pins : List (Addr × Obj)} {σ : St} {H H' : Hp} {s s' : Shared}
theorem Inv.recx {A' : Around} {calm' : Bool} {pn' : List (Addr × Obj)} {xe' : Value → Shared → Prop} {pins' : List (Addr × Obj)} (I : Inv X pins σ H s) (hfr : A'.frames = some X.stack) (hd : calm' = true → A'.handled = none) (hp : ∀ p ∈ pn' ++ pins', p ∈ X.pn ++ pins) :
    Inv { X with A := A', calm := calm', pn := pn', xe := xe' } pins' σ H s :=
  ⟨⟨I.ok.mod, I.ok.kind, I.ok.glob, I.ok.blt, I.ok.above, I.ok.inj, I.ok.has, I.ok.cab, hd, hfr, I.ok.stk, I.ok.exf, I.ok.bs, I.ok.bsz, I.ok.noex, I.ok.exfs, I.ok.funs, I.ok.frf⟩,
    I.os, I.bare, I.base, I.loc, I.cell, I.free, I.freeC, fun p h => I.pin p (hp p h), I.hok, I.len⟩
theorem fly_landed {e C : Addr} {B : Heap} {a0 : Value} {h2 : Heap} {tk : Nat} (I : Inv X pins σ H s) (F : Fly X.prog X.w X.stack H s C H' e s')
    (hfl : Heap.FlyingW B X.stack e (.ref C) a0 h2) (hok : HOk X.prog X.w H' B) (hk : ∀ b o, s.heap.get? b = some o → H b = none → b ∉ frs X.stack → B.get? b = some o) (ht : ∀ b o, s.heap.get? b = some o → b ∉ frs X.stack → ∃ o', B.get? b = some o')
    (hsl : s'.heap.UpToSlots h2) : H' e = none ∧ Inv X pins σ (upd H' e (excO e C)) { s' with heap := h2, toks := tk } := by
  obtain ⟨f1, f2, f3, f4⟩ := id hfl
  have hfree : H' e = none := by
    cases q : H' e with
    | none => rfl
    | some u =>
      obtain ⟨ob, z⟩ := (hok e u q).there
      rw [f2] at z; cases z
  obtain ⟨oe, vs, hoe, hoc, hod, _⟩ := hfl.first
  have hfresh : s.heap.get? e = none := by
    cases q : s.heap.get? e with
    | none => rfl
    | some o =>
      by_cases hb : e ∈ frs X.stack
      · obtain ⟨sl, z⟩ := F.slot e o q (I.stkFree e hb) hb
        obtain ⟨_, o2, ho2, hd⟩ := I.stack.mem hb
        rw [q] at ho2; cases ho2
        obtain ⟨sl', z2⟩ := hsl e _ z hd
        rw [hoe] at z2; cases z2
        exact absurd hod (hd vs)
      · obtain ⟨o', z⟩ := ht e o q hb
        rw [f2] at z; cases z
  have kp : ∀ b u, B.get? b = some u → h2.get? b = some u := f1
  refine ⟨hfree, I.call' (s' := { s' with heap := h2, toks := tk }) (ch := []) F.os ⟨fun b o q n hb _ => kp b o (hk b o q n hb), fun b o q n hb _ => ?_, fun b o q n _ => ?_, fun b o q _ => ?_, fun b xs q => ?_, fun b o u q => ?_, fun b ps q => ?_⟩ ?_ F.bare (fun b z => absurd z (by simp))⟩
  · obtain ⟨sl, z⟩ := F.slot b o q n hb
    obtain ⟨_, o2, ho2, hd⟩ := I.stack.mem hb
    rw [q] at ho2; cases ho2
    obtain ⟨sl', z2⟩ := hsl b _ z hd
    exact ⟨sl', z2⟩
  · rw [upd_ne (fun z => by rw [z, hfresh] at q; cases q)]
    exact F.free b o q n
  · by_cases hb : b ∈ frs X.stack
    · obtain ⟨sl, z⟩ := F.slot b o q (I.stkFree b hb) hb
      obtain ⟨_, o2, ho2, hd⟩ := I.stack.mem hb
      rw [q] at ho2; cases ho2
      obtain ⟨sl', z2⟩ := hsl b _ z hd
      exact ⟨_, z2⟩
    · obtain ⟨o', z⟩ := ht b o q hb
      exact ⟨o', kp _ _ z⟩
  · have z := F.tups b xs q
    rw [upd_ne (ne_of_none z hfree)]; exact z
  · have z := F.frzs b o u q
    rw [upd_ne (ne_of_none z hfree)]; exact z
  · obtain ⟨m, z⟩ := F.tbls b ps q
    exact ⟨m, by rw [upd_ne (ne_of_none z hfree)]; exact z⟩
  · intro b u q
    by_cases hb : b = e
    · subst hb
      rw [upd_same] at q; cases q
      exact excO_ok hoe hoc hod
    · rw [upd_ne hb] at q
      exact (hok b u q).stay (fun c v _ z => kp c v z) (fun c z => by rw [upd_ne (ne_of_none z hfree)]; exact z) fun c xs z => by rw [upd_ne (ne_of_none z hfree)]; exact z
theorem name_goes {n : Str} {i : Nat} {pos : Pos} {A' : Around} {E : Value → Shared → Prop} {Q : Unit → Shared → Prop} (I : Inv X pins σ H s) (hN : X.N.Nodup) (hi : X.N[i]? = some n) (hl : X.env.scope.names.lookup n = some .local)
    (h : ∀ s', Inv X pins (σ.set i none) H s' → Q () s') : wpAny (model X.prog X.w) A' (do bindName X.env n .none; unbindBehindTheSuite X.env n pos) Q E s := by
  obtain ⟨m, hn, hloc⟩ := id I.loc
  have hcls : (X.env.scope.kind == .class || (X.env.scope.kind == .module && X.env.locals != X.env.globals)) = false := by rw [I.ok.kind]; rfl
  refine wpAny_nameGoes_keeps hl hn hcls fun h' v hn' hs => h _ ?_
  obtain ⟨oL, _, _, hoL, _⟩ := id hn
  have ext : ∀ b o, b ≠ X.env.locals → s.heap.get? b = some o → h'.get? b = some o := fun b o hb e => (hs.2 b hb).trans e
  have tracked : HOk X.prog X.w H h' := fun b ob e => (I.hok b ob e).stay (fun c w' hc q => ext c w' (by
    rintro rfl
    rcases hc with rfl | hc
    · rw [I.free] at e; cases e
    · rw [I.free] at hc; cases hc) q) (fun _ q => q) fun _ _ q => q
  have neL : ∀ b o, X.s₀.heap.get? b = some o → b ≠ X.env.locals := fun b o e => Nat.ne_of_lt (Nat.lt_of_lt_of_le (Heap.lt_size e) I.ok.above)
  refine ⟨I.ok, I.os, I.bare, ⟨fun b o e n hb hx => ext b o (neL b o e) (I.base.keep b o e n hb hx), fun b o e n hb hx => ?_, I.base.free, fun b o e hx => ?_, I.base.tups, I.base.frzs, I.base.tbls⟩, ⟨_, hn', fun j y v' e1 e2 e3 => ?_⟩, fun y c e => ?_, I.free, I.freeC, fun p hp => ?_, tracked, by rw [List.length_set]; exact I.len⟩
  · obtain ⟨sl, e1⟩ := I.base.slot b o e n hb hx
    exact ⟨sl, ext b _ (neL b o e) e1⟩
  · obtain ⟨o', e1⟩ := I.base.there b o e hx
    exact ⟨o', ext b _ (neL b o e) e1⟩
  · have hj : j ≠ i := by
      rintro rfl
      rw [List.getElem?_set] at e2
      simp at e2
    rw [List.getElem?_set_ne (Ne.symm hj)] at e2
    obtain ⟨u', r', q⟩ := hloc j y v' e1 e2 e3
    have hy : y ≠ n := fun e => hj (nodup_ix hN e1 (e ▸ hi))
    refine ⟨u', r', ?_⟩
    rcases q with ⟨k, e⟩ | ⟨k, c, e, z⟩
    · exact .inl ⟨k, by simp [hy, e]⟩
    · obtain ⟨o, ho, hd⟩ := z
      exact .inr ⟨k, c, e, o, ext c o (I.cne y c e) ho, hd⟩
  · obtain ⟨v, o, ho, hd⟩ := I.cell y c e
    exact ⟨v, o, ext c o (I.cne y c e) ho, hd⟩
  · obtain ⟨e, n, ne, nf, d⟩ := I.pin p hp
    exact ⟨ext p.1 p.2 ne e, n, ne, nf, d⟩
theorem ps_try {n : Str} {i : Nat} {x : Str} {c : Value} {body : List Stmt} {b₀ : Stmt} {suite : List Stmt} {np hpos pos : Pos} {tb : XK → TS} {ts : TS} (O : Own X) (hc : X.calm = true)
    (hb : ∀ (xe' : Value → Shared → Prop) (pn' : List (Addr × Obj)) (E : XK), Passes (CX1 X.prog X.w) { X with xe := xe', pn := pn' } E → PSs { X with xe := xe', pn := pn' } body (tb E))
    (hs : ∀ (A' : Around), PSs { X with A := A', calm := false, xe := fun _ _ => False } (b₀ :: suite) ts)
    (hN : X.N.Nodup) (hi : X.N[i]? = some n) (hl : X.env.scope.names.lookup n = some .local) (hg : Gl X x) (hm : X.mg x = some c) (hd : (x == ("__debug__" : Str)) = false := by decide) :
    PS X (.Try body [.ExceptHandler (some (.Name x np)) (some n) (b₀ :: suite) hpos] [] [] pos) (tTry X.K c X.N.length i tb ts) := by
  intro pins s σ H D I h
  refine wpAny_Try_except ?_
  let xe' : Value → Shared → Prop := fun e s₁ => wpAny (model X.prog X.w) X.A (noteFrame e X.env) (fun _ s₂ => wpAny (model X.prog X.w) X.A (setFlight e none) (fun _ s₃ => wpAny (model X.prog X.w) X.A (handleBy e X.env [.ExceptHandler (some (.Name x np)) (some n) (b₀ :: suite) hpos]) (SP X pins D) X.xe s₃) X.xe s₂) X.xe s₁
  have hp : Passes (CX1 X.prog X.w) { X with xe := xe', pn := X.pn ++ pins } (catchE X.K c X.N.length i ts D) := by
    intro pins2 σ2 H2 s2 e s' I2 hcx
    obtain ⟨a, C, H', rfl, F, C', hC', hex, hts⟩ := hcx
    cases hC'
    have I2' : Inv X pins σ2 H2 s2 := I2.recx (X := { X with xe := xe', pn := X.pn ++ pins }) (A' := X.A) (calm' := X.calm) (pn' := X.pn) (xe' := X.xe) (pins' := pins) I.ok.frames I.ok.hd (fun p z => List.mem_append_left _ z)
    have F' : Fly X.prog X.w X.stack H2 s2 C H' a s' := F
    obtain ⟨B, a0, hfl, hok, hk, ht⟩ := F'.body
    have hfr : X.A.frames = some (X.env :: X.outer) := by rw [I.ok.frames, O.stk]
    have hfl' := hfl
    rw [O.stk] at hfl'
    show wpAny _ _ _ _ _ _
    refine wpAny_looks_onW hfr O.fr hfl' fun h4 held4 sm4 => ?_
    refine wpAny_landsW held4 fun h5 fl5 sm5 => ?_
    have fl5' : Heap.FlyingW B X.stack a (.ref C) a0 h5 := by rw [O.stk]; exact fl5
    obtain ⟨hfree, I5⟩ := fly_landed (tk := s'.toks) I2' F' fl5' hok hk ht (sm4.trans sm5)
    have LT : PySem.W.Looks (model X.prog X.w) h5 (typeOf (.ref a)) (.ref C) := by
      obtain ⟨ob, hob, hc⟩ := fl5.there
      exact hc ▸ (PySem.W.Looks.ld hob).andThen .now
    have I5m : Inv { X with A := X.A.mark (some (.ref a)), calm := false, xe := fun _ _ => False } pins (List.replicate X.N.length none) (upd H' a (excO a C)) { s' with heap := h5 } :=
      (I5.recx (A' := X.A.mark (some (.ref a))) (calm' := false) (pn' := X.pn) (xe' := fun _ _ => False) (pins' := pins) (by show (X.A.mark _).frames = _; exact I.ok.frames) (fun z => nomatch z) (fun p z => z)).weak
        (by rw [List.length_replicate]; exact I5.len.symm) (fun j v z => by
          rw [List.getElem?_replicate] at z
          split at z <;> cases z)
    refine wpAny_handleBy_cons (codeAny_handlers_test (ld_glob (X := { X with A := X.A.mark (some (.ref a)), calm := false, xe := fun _ _ => False }) I5m hg hm ?_ hd)) (by intro q; cases q)
    refine (PySem.W.exm_one I5.kIn LT hex).here ?_
    show codeAny _ _ (.handlers (.ref a) [.ExceptHandler none (some n) (b₀ :: suite) hpos] X.env) _ _
    refine codeAny_handlers_suite_as ?_
    refine lands_againW fl5 fun h6 fl6 sm6 => ?_
    have fl6' : Heap.FlyingW B X.stack a (.ref C) a0 h6 := by rw [O.stk]; exact fl6
    obtain ⟨_, I6⟩ := fly_landed (tk := s'.toks) I2' F' fl6' hok hk ht ((sm4.trans sm5).trans sm6)
    have I6m : Inv { X with A := X.A.mark (some (.ref a)), calm := false, xe := fun _ _ => False } pins (List.replicate X.N.length none) (upd H' a (excO a C)) { s' with heap := h6 } :=
      (I6.recx (A' := X.A.mark (some (.ref a))) (calm' := false) (pn' := X.pn) (xe' := fun _ _ => False) (pins' := pins) (by show (X.A.mark _).frames = _; exact I.ok.frames) (fun z => nomatch z) (fun p z => z)).weak
        (by rw [List.length_replicate]; exact I6.len.symm) (fun j v z => by
          rw [List.getElem?_replicate] at z
          split at z <;> cases z)
    refine store_ok (X := { X with A := X.A.mark (some (.ref a)), calm := false, xe := fun _ _ => False }) (v := .ref a) I6m hN hi (Or.inl hl) rfl (fun s7 I7 => ?_) (.inr hl)
    refine wpAny_mono (hs (X.A.mark (some (.ref a))) pins s7 _ _ _ I7 (hts a hfree)) (fun f s8 q8 => ?_) fun _ _ z => False.elim z
    have back : ∀ {σ8 : St} {H8 : Hp}, Inv { X with A := X.A.mark (some (.ref a)), calm := false, xe := fun _ _ => False } pins σ8 H8 s8 → Inv X pins σ8 H8 s8 := fun {σ8 H8} J =>
      J.recx (X := { X with A := X.A.mark (some (.ref a)), calm := false, xe := fun _ _ => False }) (A' := X.A) (calm' := X.calm) (pn' := X.pn) (xe' := X.xe) (pins' := pins) I.ok.frames I.ok.hd (fun p z => z)
    cases f with
    | next => obtain ⟨σ8, H8, I8, q⟩ := q8; exact name_goes (back I8) hN hi hl fun s9 I9 => ⟨_, H8, I9, q⟩
    | brk => obtain ⟨σ8, H8, I8, q⟩ := q8; exact name_goes (back I8) hN hi hl fun s9 I9 => ⟨_, H8, I9, q⟩
    | cont => obtain ⟨σ8, H8, I8, q⟩ := q8; exact name_goes (back I8) hN hi hl fun s9 I9 => ⟨_, H8, I9, q⟩
    | ret u => obtain ⟨v8, σ8, H8, I8, r8, q⟩ := q8; exact name_goes (back I8) hN hi hl fun s9 I9 => ⟨v8, _, H8, I9, r8, q⟩
  have I0 : Inv { X with xe := xe', pn := X.pn ++ pins } [] σ H s := I.recx (A' := X.A) (calm' := X.calm) (pn' := X.pn ++ pins) (xe' := xe') (pins' := []) I.ok.frames I.ok.hd (fun p z => by simpa using z)
  refine wpAny_mono (hb xe' (X.pn ++ pins) _ hp [] s σ H D I0 h) (fun f s1 q1 => ?_) fun e s1 z => z
  have back : ∀ {σ8 : St} {H8 : Hp}, Inv { X with xe := xe', pn := X.pn ++ pins } [] σ8 H8 s1 → Inv X pins σ8 H8 s1 := fun {σ8 H8} J =>
    J.recx (X := { X with xe := xe', pn := X.pn ++ pins }) (A' := X.A) (calm' := X.calm) (pn' := X.pn) (xe' := X.xe) (pins' := pins) I.ok.frames I.ok.hd (fun p z => by simpa using z)
  cases f with
  | next => obtain ⟨σ8, H8, I8, q⟩ := q1; exact wpAny_execs_nil ⟨σ8, H8, back I8, q⟩
  | brk => obtain ⟨σ8, H8, I8, q⟩ := q1; exact ⟨σ8, H8, back I8, q⟩
  | cont => obtain ⟨σ8, H8, I8, q⟩ := q1; exact ⟨σ8, H8, back I8, q⟩
  | ret u => obtain ⟨v8, σ8, H8, I8, r8, q⟩ := q1; exact ⟨v8, σ8, H8, back I8, r8, q⟩
end
end L2

namespace L2
open PySem PySem.Spec PyProof.Rows
def clOf (cells : List (Str × Addr)) : List (Str × NameKind) → List (Str × Addr) → List (Str × Addr)
  | [], cs => cs
  | (n, k) :: r, cs => if (k == .free) = true then (match cells.lookup n with | some c => clOf cells r ((n, c) :: cs) | none => clOf cells r cs) else clOf cells r cs
theorem closure_loop {env : Env} : ∀ (names : List (Str × NameKind)) (cs : List (Str × Addr)), (∀ y ∈ names, y.2 = .free → ∃ c, env.cells.lookup y.1 = some c) →
    (forIn names cs fun (x : Str × NameKind) (r : List (Str × Addr)) => (match x with
      | (name, kind) => (if (kind == NameKind.free) = true then do
          let a ← cellOf env name
          pure (ForInStep.yield ((name, a) :: r))
        else pure (ForInStep.yield r) : Sem (ForInStep (List (Str × Addr)))))) = (pure (clOf env.cells names cs) : Sem (List (Str × Addr)))
  | [], cs, _ => rfl
  | (n, k) :: r, cs, h => by
    rw [List.forIn_cons]
    have ih := fun cs => closure_loop r cs fun y hy => h y (List.mem_cons_of_mem _ hy)
    by_cases hk : (k == NameKind.free) = true
    · obtain ⟨c, hc⟩ := h (n, k) List.mem_cons_self (by simpa using hk)
      have e : cellOf env n = pure c := by unfold cellOf; rw [hc]
      simp only [hk, if_true, e]
      show _ = pure (clOf env.cells ((n, k) :: r) cs)
      rw [clOf, if_pos hk, hc]
      exact ih _
    · simp only [hk]
      show _ = pure (clOf env.cells ((n, k) :: r) cs)
      rw [clOf, if_neg hk]
      exact ih _
theorem closure_of {scope : Scope} {env : Env} (h : ∀ y ∈ scope.names, y.2 = .free → ∃ c, env.cells.lookup y.1 = some c) : closureFor scope env = pure (clOf env.cells scope.names []) := by
  have e := closure_loop (env := env) scope.names [] h
  unfold closureFor
  first
    | (simp only [bind_pure_comp] at e ⊢; rw [e]; rfl)
    | (rw [e]; rfl)
    | exact e
theorem clOf_sub {cells : List (Str × Addr)} : ∀ {names : List (Str × NameKind)} {cs : List (Str × Addr)}, (∀ y c, cs.lookup y = some c → cells.lookup y = some c) → ∀ y c, (clOf cells names cs).lookup y = some c → cells.lookup y = some c
  | [], _, h, y, c, e => h y c e
  | (n, k) :: r, cs, h, y, c, e => by
    rw [clOf] at e
    split at e
    · cases q : cells.lookup n with
      | none => rw [q] at e; exact clOf_sub h y c e
      | some a =>
        rw [q] at e
        refine clOf_sub (fun z d hz => ?_) y c e
        rw [List.lookup_cons] at hz
        by_cases b : (z == n) = true
        · rw [b] at hz
          have : z = n := by simpa using b
          cases hz
          rw [this]; exact q
        · have b' : (z == n) = false := by simpa using b
          rw [b'] at hz
          exact h z d hz
    · exact clOf_sub h y c e
theorem clOf_more {cells : List (Str × Addr)} : ∀ {names : List (Str × NameKind)} {cs : List (Str × Addr)} {y : Str}, (∃ c, cs.lookup y = some c) → ∃ c, (clOf cells names cs).lookup y = some c
  | [], _, _, h => h
  | (n, k) :: r, cs, y, h => by
    rw [clOf]
    split
    · cases q : cells.lookup n with
      | none => exact clOf_more h
      | some a =>
        refine clOf_more ?_
        rw [List.lookup_cons]
        cases (y == n) with
        | true => exact ⟨a, rfl⟩
        | false => exact h
    · exact clOf_more h
theorem clOf_has {cells : List (Str × Addr)} : ∀ {names : List (Str × NameKind)} {cs : List (Str × Addr)} {y : Str}, (y, NameKind.free) ∈ names → (∃ c, cells.lookup y = some c) → ∃ c, (clOf cells names cs).lookup y = some c
  | [], _, _, h, _ => nomatch h
  | (n, k) :: r, cs, y, h, hc => by
    rw [clOf]
    rcases List.mem_cons.mp h with e | h
    · cases e
      rw [if_pos (by decide)]
      obtain ⟨c, hc⟩ := hc
      rw [hc]
      refine clOf_more ⟨c, ?_⟩
      rw [List.lookup_cons]
      simp
    · split
      · cases q : cells.lookup n with
        | none => exact clOf_has h hc
        | some a => exact clOf_has h hc
      · exact clOf_has h hc
def compN (x : Str) (N : List Str) (js : List Nat) : List Str := x :: js.map fun j => N.getD j Str.empty
def compSt (v : Option V) (σ : St) (js : List Nat) : St := v :: js.map fun j => (σ[j]?).getD none
def compOk (scope : Scope) (env : Env) (x : Str) (N : List Str) (js : List Nat) : Bool :=
  (scope.kind == .function) && (scope.names.lookup x == some .local) &&
  scope.names.all (fun y => y.2 != .cell && (y.2 != .local || scope.names.lookup y.1 == some .local) && (y.2 != .free || env.kindOf y.1 == some .cell || env.kindOf y.1 == some .free)) &&
  js.all (fun j => decide (j < N.length) && scope.names.lookup (N.getD j Str.empty) == some .free)
def compCx (X : Cx) (scope : Scope) (x : Str) (js : List Nat) (C : Addr) (s₁ : Shared) (H₁ : Hp) (fp : List Addr) : Cx :=
  { X with N := compN x X.N js, s₀ := s₁, H₀ := H₁, env := compEnvC scope (clOf X.env.cells scope.names []) C X.env, outer := X.stack, stack := X.stack, ex := fp, fn := fun _ => false, pn := [], xe := fun _ _ => False }
theorem mem_of_lookup' {names : List (Str × NameKind)} {y : Str} {k : NameKind} (h : names.lookup y = some k) : (y, k) ∈ names := PySem.mem_of_lookup h
theorem relabel_kind {scope : Scope} {env : Env} {y : Str} {k : NameKind} (h : (relabel scope env).names.lookup y = some k) : ∃ k0, (y, k0) ∈ scope.names ∧ (k = k0 ∨ (k = .cell ∧ k0 = .free)) := by
  have m := mem_of_lookup' h
  unfold relabel at m
  obtain ⟨⟨n, k0⟩, hm, e⟩ := List.mem_map.mp m
  dsimp only at e
  split at e
  · rename_i hc
    cases e
    simp only [Bool.and_eq_true, beq_iff_eq] at hc
    exact ⟨k0, hm, .inr ⟨rfl, hc.1.1⟩⟩
  · cases e
    exact ⟨k, hm, .inl rfl⟩
theorem lookup_relabel_free {env : Env} : ∀ {names : List (Str × NameKind)} {x : Str}, names.lookup x = some .free →
    (names.map fun (n, k) => if (k == NameKind.free && env.scope.kind == .function && env.kindOf n == some .cell) then (n, NameKind.cell) else (n, k)).lookup x = some .cell ∨
    (names.map fun (n, k) => if (k == NameKind.free && env.scope.kind == .function && env.kindOf n == some .cell) then (n, NameKind.cell) else (n, k)).lookup x = some .free
  | [], _, h => by simp at h
  | (n, k) :: r, x, h => by
    have ih := @lookup_relabel_free env r x
    show List.lookup x ((if (k == NameKind.free && env.scope.kind == .function && env.kindOf n == some .cell) = true then (n, NameKind.cell) else (n, k)) :: _) = _ ∨ List.lookup x ((if (k == NameKind.free && env.scope.kind == .function && env.kindOf n == some .cell) = true then (n, NameKind.cell) else (n, k)) :: _) = _
    cases hx : x == n with
    | true =>
      simp only [List.lookup_cons, hx] at h
      cases h
      by_cases hc : (NameKind.free == NameKind.free && env.scope.kind == .function && env.kindOf n == some .cell) = true
      · rw [if_pos hc]; left; simp [List.lookup_cons, hx]
      · rw [if_neg hc]; right; simp [List.lookup_cons, hx]
    | false =>
      simp only [List.lookup_cons, hx] at h
      by_cases hc : (k == NameKind.free && env.scope.kind == .function && env.kindOf n == some .cell) = true
      · rw [if_pos hc]; simp only [List.lookup_cons, hx]; exact ih h
      · rw [if_neg hc]; simp only [List.lookup_cons, hx]; exact ih h
structure CompOk (scope : Scope) (env : Env) (x : Str) (N : List Str) (js : List Nat) : Prop where
  kind : scope.kind = .function
  x : scope.names.lookup x = some .local
  nocell : ∀ y ∈ scope.names, y.2 ≠ .cell
  loc : ∀ y ∈ scope.names, y.2 = .local → scope.names.lookup y.1 = some .local
  fr : ∀ y ∈ scope.names, y.2 = .free → env.kindOf y.1 = some .cell ∨ env.kindOf y.1 = some .free
  js : ∀ j ∈ js, j < N.length ∧ scope.names.lookup (N.getD j Str.empty) = some .free
theorem compOk_of {scope : Scope} {env : Env} {x : Str} {N : List Str} {js : List Nat} (h : compOk scope env x N js = true) : CompOk scope env x N js := by
  unfold compOk at h
  simp only [Bool.and_eq_true, List.all_eq_true, beq_iff_eq, Bool.or_eq_true, bne_iff_ne, decide_eq_true_eq] at h
  obtain ⟨⟨⟨h1, h2⟩, h3⟩, h4⟩ := h
  refine ⟨h1, h2, fun y hy => (h3 y hy).1.1, fun y hy e => ?_, fun y hy e => ?_, h4⟩
  · rcases (h3 y hy).1.2 with z | z
    · exact absurd e z
    · exact z
  · rcases (h3 y hy).2 with (z | z) | z
    · exact absurd e z
    · exact .inl z
    · exact .inr z
section
variable {X : Cx} {pins : List (Addr × Obj)} {σ : St} {H H₁ : Hp} {s s₁ : Shared} {scope : Scope} {x : Str} {js : List Nat} {C : Addr} {fp : List Addr}
theorem comp_cells (O : CompOk scope X.env x X.N js) (I : Inv X pins σ H s) : ∀ y ∈ scope.names, y.2 = .free → ∃ c, X.env.cells.lookup y.1 = some c := fun y hy e => I.ok.has y.1 (O.fr y hy e)
theorem cl_sub : ∀ y c, (clOf X.env.cells scope.names []).lookup y = some c → X.env.cells.lookup y = some c := clOf_sub fun y c e => by simp at e
theorem comp_ok (O : CompOk scope X.env x X.N js) (I : Inv X pins σ H₁ s₁) (hc : X.calm = true) (hC : s₁.heap.objs.size ≤ C) (hf : ∀ b ∈ fp, FpOk X pins H₁ b) (hfx : ∀ b ∈ fp, X.base.get? b = none) (hlt : ∀ b ∈ fp, b < s₁.heap.objs.size) : (compCx X scope x js C s₁ H₁ fp).Ok := by
  refine ⟨I.ok.mod, O.kind, I.ok.glob, I.ok.blt, hC, fun y z c h1 h2 => I.ok.inj y z c (cl_sub y c h1) (cl_sub z c h2), fun y hy => ?_, (fun y c h => nomatch h), I.ok.hd, I.ok.frames, .inl rfl, fun b hb => ⟨?_, fun y c e => ?_⟩, I.bs, Nat.le_trans I.ok.bsz I.sz, fun b o e hb => ?_, fun b hb hs => ?_, I.stack, I.stkFree⟩
  · have hy' : (relabel scope X.env).names.lookup y = some .cell ∨ (relabel scope X.env).names.lookup y = some .free := hy
    have : ∃ k0, (y, k0) ∈ scope.names ∧ k0 = .free := by
      rcases hy' with z | z
      · obtain ⟨k0, hm, h⟩ := relabel_kind z
        rcases h with h | h
        · exact absurd h.symm (O.nocell _ hm)
        · exact ⟨k0, hm, h.2⟩
      · obtain ⟨k0, hm, h⟩ := relabel_kind z
        rcases h with h | h
        · exact ⟨k0, hm, h.symm⟩
        · cases h.1
    obtain ⟨k0, hm, e⟩ := this
    subst e
    exact clOf_has hm (comp_cells O I _ hm rfl)
  · exact Nat.ne_of_lt (Nat.lt_of_lt_of_le (hlt b hb) hC)
  · exact (hf b hb).2.2.2.2.1 y c (cl_sub y c e)
  · have e' : X.base.get? b = some o := e
    rw [hfx b hb] at e'; cases e'
  · have hs' : b ∈ frs X.stack := hs
    rcases List.mem_cons.mp (I.stkSub b hs') with z | z
    · exact (hf b hb).2.1 z
    · exact (hf b hb).2.2.1 z
theorem fp_base (I : Inv X pins σ H s) {b : Addr} (f : FpOk X pins H b) : X.base.get? b = none := by
  rcases f.2.2.2.1 with z | z
  · cases q : X.base.get? b with
    | none => rfl
    | some o => exact absurd z (I.ok.noex b o q)
  · exact Heap.get?_none_of_le (Nat.le_trans I.ok.bsz z)
theorem comp_inv {s₃ : Shared} {m : Str → Option Value} (O : CompOk scope X.env x X.N js) (I : Inv X pins σ H₁ s₁) (hc : X.calm = true) (hC : s₁.heap.objs.size ≤ C) (hf : ∀ b ∈ fp, FpOk X pins H₁ b) (hlt : ∀ b ∈ fp, b < s₁.heap.objs.size)
    (hos : s₃.os = s₁.os) (hg : AllBare s₃.gens) (hk : ∀ b o, s₁.heap.get? b = some o → s₃.heap.get? b = some o) (hn : s₃.heap.Ns C m) : Inv (compCx X scope x js C s₁ H₁ fp) [] (compSt none σ js) H₁ s₃ := by
  refine ⟨comp_ok O I hc hC hf (fun b hb => fp_base I (hf b hb)) hlt, hos, hg, Un.kept hk, ⟨m, hn, fun i y v e1 e2 e3 => ?_⟩, fun y c e => ?_, I.hok.fresh hC, fun y c e => I.freeC y c (cl_sub y c e), fun p hp => ?_, I.hok.kept hk, ?_⟩
  · cases i with
    | zero =>
      have e2' : (some (none : Option V)) = some (some v) := e2
      cases e2'
    | succ k =>
      have e1' : (js.map fun j => X.N.getD j Str.empty)[k]? = some y := e1
      have e2' : (js.map fun j => (σ[j]?).getD none)[k]? = some (some v) := e2
      rw [List.getElem?_map] at e1' e2'
      cases q : js[k]? with
      | none => rw [q] at e1'; cases e1'
      | some j =>
        rw [q] at e1' e2'
        have ey : X.N.getD j Str.empty = y := Option.some.inj e1'
        have ev : (σ[j]?).getD none = some v := Option.some.inj e2'
        obtain ⟨hj, hfree⟩ := O.js j (List.mem_of_getElem? q)
        rw [ey] at hfree
        have hNj : X.N[j]? = some y := by
          rw [List.getD_eq_getElem?_getD, List.getElem?_eq_getElem hj] at ey
          rw [List.getElem?_eq_getElem hj]
          exact congrArg some ey
        have hσ : σ[j]? = some (some v) := by
          cases z : σ[j]? with
          | none => rw [z] at ev; cases ev
          | some o => rw [z] at ev; exact congrArg some ev
        have hkind := O.fr (y, .free) (mem_of_lookup' hfree) rfl
        obtain ⟨mX, hnX, hl⟩ := I.loc
        obtain ⟨u, r, l⟩ := hl j y v hNj hσ (by
          rcases hkind with z | z
          · exact .inr (.inl z)
          · exact .inr (.inr z))
        refine ⟨u, r, ?_⟩
        rcases l with ⟨z, _⟩ | ⟨_, c, hcell, hv⟩
        · rcases hkind with z2 | z2
          · rw [z] at z2; cases z2
          · rw [z] at z2; cases z2
        · obtain ⟨c', hc'⟩ := clOf_has (cells := X.env.cells) (cs := []) (mem_of_lookup' hfree) ⟨c, hcell⟩
          have : c' = c := by
            have z := cl_sub y c' hc'
            rw [hcell] at z; cases z; rfl
          subst this
          obtain ⟨o, ho, hd⟩ := hv
          exact .inr ⟨lookup_relabel_free hfree, c', hc', o, hk _ _ ho, hd⟩
  · obtain ⟨v, o, ho, hd⟩ := I.cell y c (cl_sub y c e)
    exact ⟨v, o, hk _ _ ho, hd⟩
  · exact absurd (show p ∈ ([] : List (Addr × Obj)) from hp) (by simp)
  · show (compSt none σ js).length = (compN x X.N js).length
    unfold compSt compN
    simp
end

theorem compLoop_any {prog : Program} {w : World} {A : Around} {R : Result → Shared → Prop} {s : Shared} {elt target iter : Expr} {ifs : List Expr} {scope : Scope} {pos : Pos} {it acc : Value} {env : Env} (I : Nat → Shared → Prop)
    (turn : ∀ n s, I n s → wpAny (model prog w) A (pyNext it) (fun r s₁ => match r with
      | none => R (.ok .next) s₁
      | some v => wpAny (model prog w) A (letOwnedTupleGo target it v) (fun _ s₁ => wpAny (model prog w) A (assign target env v) (fun _ s₂ =>
          wpAny (model prog w) A (forIn ifs true fun c r => if r = true then do let ok ← isTrue c env (eval c env); pure (ForInStep.yield ok) else pure (ForInStep.yield r)) (fun ok s₃ =>
            if ok = true then wpAny (model prog w) A (eval elt env) (fun x s₄ =>
              wpAny (model prog w) A (call (.builtin "list.append") [acc, x]) (fun _ s₅ => ∃ m, m < n ∧ I m s₅) (fun _ _ => False) s₄) (fun _ _ => False) s₃
            else ∃ m, m < n ∧ I m s₃) (fun _ _ => False) s₂) (fun _ _ => False) s₁) (fun _ _ => False) s₁) (fun _ _ => False) s)
    (n : Nat) (h : I n s) : codeAny (model prog w) A (.compLoop (.ListComp elt [⟨target, iter, ifs, 0⟩] scope pos) 0 it acc env) R s := by
  refine codeAny_loop rfl I (fun n s hI => ?_) n h
  show wpAny _ A ((compTurn (.ListComp elt [⟨target, iter, ifs, 0⟩] scope pos) 0 it acc env).onRaise (fun x => do noteFrame x env; theTreesLotGoes x)) _ _ s
  refine wpAny_noted ?_
  rw [compTurn_list]
  refine wpAny_bind (wpAny_standAt (wpAny_bind (wpAny_mono (turn n s hI) (fun r s₁ h₁ => ?_) fun _ _ h' => False.elim h')))
  cases r with
  | none => exact wpAny_pure h₁
  | some v =>
    refine wpAny_bind (wpAny_mono h₁ (fun _ s₁ h₁ => ?_) fun _ _ h' => False.elim h')
    refine wpAny_bind (wpAny_mono h₁ (fun _ s₂ h₂ => wpAny_bind (wpAny_mono h₂ (fun ok s₃ h₃ => ?_) fun _ _ h' => False.elim h')) fun _ _ h' => False.elim h')
    cases ok with
    | false => exact wpAny_pure ⟨rfl, h₃⟩
    | true =>
      exact wpAny_bind (wpAny_bind (wpAny_mono h₃ (fun x s₄ h₄ => wpAny_bind (wpAny_mono h₄ (fun _ s₅ h₅ => wpAny_pure (wpAny_pure ⟨rfl, h₅⟩)) fun _ _ h' => False.elim h')) fun _ _ h' => False.elim h'))
def tests : Option TT → TT
  | none => fun _ H Q => Q true H
  | some t => t
def PTests (Y : Cx) : List Expr → Option TT → Prop
  | [], none => True
  | [c], some t => PT Y c t
  | _, _ => False
theorem tests_ok {Y : Cx} {ifs : List Expr} {ot : Option TT} (h : PTests Y ifs ot) (hx : Y.xe = fun _ _ => False) {pins : List (Addr × Obj)} {s : Shared} {σ : St} {H : Hp} {Q : Bool → Hp → Prop} (I : Inv Y pins σ H s) (q : tests ot σ H Q) :
    wpAny (model Y.prog Y.w) Y.A (forIn ifs true fun c r => if r = true then do let ok ← isTrue c Y.env (eval c Y.env); pure (ForInStep.yield ok) else pure (ForInStep.yield r)) (TP Y pins σ Q) (fun _ _ => False) s := by
  match ifs, ot, h with
  | [], none, _ => exact wpAny_tests_nil ⟨H, I, q⟩
  | [c], some t, h =>
    have z := h pins s σ H Q I q
    rw [hx] at z
    exact wpAny_tests_one z
def compGo (J : It) (js : List Nat) (ot : Option TT) (te : TE) (σ : St) (H1 : Hp) (Fin : List V → Hp → Prop) : Prop :=
  ∃ W : Nat → Nat → List V → Hp → Prop, (∃ m, W 0 m [] H1) ∧ ∀ i m ys H, W i m ys H →
    (J.stop i H ∧ Fin ys H) ∨ (J.go i H ∧ ys.length < sizeLine ∧ ∀ x H', J.yld i H x H' → tests ot (compSt (some x) σ js) H' fun b H2 =>
      if b = true then te (compSt (some x) σ js) H2 fun y H3 => ∃ m', m' < m ∧ W (i + 1) m' (ys ++ [y]) H3 else ∃ m', m' < m ∧ W (i + 1) m' ys H2)
section
variable {X : Cx} {pins : List (Addr × Obj)} {σ : St} {H₁ : Hp} {s₁ : Shared} {scope : Scope} {x : Str} {js : List Nat} {elt iter : Expr} {ifs : List Expr} {ot : Option TT} {te : TE} {px pos : Pos}
theorem comp_block {it : Addr} {fp : List Addr} {tn : Nat → Heap → Prop} {J : It} {Fin : List V → Hp → Prop} {RR : Value → Addr → Result → Shared → Prop} {E : Value → Shared → Prop} (hok : compOk scope X.env x X.N js = true) (hnd : (compN x X.N js).Nodup) (hc : X.calm = true)
    (he : ∀ C s₁ H₁ fp, PE (compCx X scope x js C s₁ H₁ fp) elt te) (ht : ∀ C s₁ H₁ fp, PTests (compCx X scope x js C s₁ H₁ fp) ifs ot)
    (I : Inv X pins σ H₁ s₁) (T : Turn X.prog X.w X.K (.Name x px) J fp it tn) (st : tn 0 s₁.heap) (hf : ∀ b ∈ fp, FpOk X pins H₁ b) (go : compGo J js ot te σ H₁ Fin)
    (hRR : ∀ D C ys H' s' m, H' D = none → Inv X pins σ (upd H' D (.lst ys)) s' → s'.heap.Ns C m → s₁.heap.objs.size ≤ C → upd H' D (.lst ys) C = none → Fin ys H' → RR (.ref D) C (.ok .next) s') :
    wpAny (model X.prog X.w) X.A (newList []) (fun acc s₃ => wpAny (model X.prog X.w) X.A (newFunctionEnv scope X.env.globals (clOf X.env.cells scope.names []) [] X.env.qual none .none (some X.env)) (fun cenv s₄ =>
      codeAny (model X.prog X.w) X.A (.compStart (.ListComp elt [⟨.Name x px, iter, ifs, 0⟩] scope pos) 0 (.ref it) acc { cenv with scope := relabel scope X.env }) (RR acc cenv.locals) s₄) E s₃) E s₁ := by
  have O := compOk_of hok
  have hlt : ∀ b ∈ fp, b < s₁.heap.objs.size := fun b hb => by
    obtain ⟨o, e, _⟩ := T.obj _ _ st b hb
    exact Heap.lt_size e
  refine wpAny_newObj_type (wpAny_newFunctionEnv O.nocell (by intro y hy; simp at hy) (fun h₁ hns₁ hsb₁ => ?_) O.kind)
  dsimp only at hns₁ hsb₁ ⊢
  generalize hH2 : s₁.heap.push { cls := .type "list", dict := none, data := .seq ([] : List Value).toArray } = H2 at hns₁ hsb₁ ⊢
  have hC : H2.objs.size = s₁.heap.objs.size + 1 := by rw [← hH2, Heap.size_push]
  have hDC : s₁.heap.objs.size ≠ H2.objs.size := by rw [hC]; exact Nat.ne_of_lt (Nat.lt_succ_self _)
  have hCle : s₁.heap.objs.size ≤ H2.objs.size := by rw [hC]; exact Nat.le_succ _
  have below : ∀ b, b < s₁.heap.objs.size → b ≠ H2.objs.size ∧ b ≠ s₁.heap.objs.size := fun b hb => ⟨by rw [hC]; exact Nat.ne_of_lt (Nat.lt_succ_of_lt hb), Nat.ne_of_lt hb⟩
  have old : ∀ b o, s₁.heap.get? b = some o → h₁.get? b = some o := fun b o e => hsb₁.extBut b o (below b (Heap.lt_size e)).1 (Heap.get?_push_of_some _ (hH2 ▸ Heap.get?_push_of_some _ e))
  have hacc : h₁.get? s₁.heap.objs.size = some { cls := .type "list", data := .seq ([] : List Value).toArray } := hsb₁.extBut _ _ hDC (Heap.get?_push_of_some _ (hH2 ▸ Heap.get?_push_size _ rfl))
  have st₁ : tn 0 h₁ := T.keep _ _ _ st fun b _ o e => old b o e
  generalize hD : s₁.heap.objs.size = D at *
  generalize hCC : H2.objs.size = C at *
  have hDf : D ∉ fp := fun hb => absurd (hlt D hb) (by rw [← hD]; exact Nat.lt_irrefl _)
  have dcell : ∀ y c, X.env.cells.lookup y = some c → c ≠ D := fun y c e z => by
    obtain ⟨v, q⟩ := I.cell y c e
    exact absurd q.lt (by rw [z, ← hD]; exact Nat.lt_irrefl _)
  have dfs : D ∉ frs X.stack := fun hb => by
    obtain ⟨_, o, ho, _⟩ := I.stack.mem hb
    exact absurd (Heap.lt_size ho) (by rw [← hD]; exact Nat.lt_irrefl _)
  obtain ⟨W, ⟨m0, w0⟩, turn⟩ := go
  have I3 : Inv (compCx X scope x js C s₁ H₁ fp) [] (compSt none σ js) H₁ { s₁ with heap := h₁, toks := s₁.toks + ([] : List (Str × Value)).length } :=
    comp_inv O I hc (by first | exact hCle | (rw [hD]; exact hCle)) hf (fun b hb => by first | exact hlt b hb | (rw [hD]; exact hlt b hb)) rfl I.bare old hns₁
  have stat : ∀ {H' : Hp}, (∀ b ∈ fp, H' b = none) → ∀ b ∈ fp, FpOk (compCx X scope x js C s₁ H₁ fp) [] H' b := fun {H'} hn b hb => by
    have f := hf b hb
    refine ⟨hn b hb, (below b (hlt b hb)).1, fun z => ?_, .inl hb, fun y c e => f.2.2.2.2.1 y c (cl_sub y c e), fun p hp => absurd (show p ∈ ([] : List (Addr × Obj)) from hp) (by simp)⟩
    have z' : b ∈ frs X.stack := z
    rcases List.mem_cons.mp (I.stkSub b z') with q | q
    · exact f.2.1 q
    · exact f.2.2.1 q
  have loop : ∀ s₃ : Shared, s₃ = { s₁ with heap := h₁, toks := s₁.toks + ([] : List (Str × Value)).length } →
      codeAny (model X.prog X.w) X.A (.compLoop (.ListComp elt [⟨.Name x px, iter, ifs, 0⟩] scope pos) 0 (.ref it) (.ref D) (compEnvC scope (clOf X.env.cells scope.names []) C X.env)) (RR (.ref D) C) s₃ := by
    rintro s₃ rfl
    refine compLoop_any (fun n s' => ∃ i ys its nn H' v0, Inv (compCx X scope x js C s₁ H₁ fp) [] (compSt v0 σ js) H' s' ∧ tn i s'.heap ∧ (∀ b ∈ fp, H' b = none) ∧ H' D = none ∧ s'.heap.get? D = some { cls := .type "list", data := .seq (its : List Value).toArray nn } ∧ Vals ys its ∧ ys.length ≤ sizeLine ∧ W i n ys H') ?_ m0
      ⟨0, [], [], 0, H₁, none, I3, st₁, fun b hb => (hf b hb).1, I.hok.fresh (by rw [hD]; exact Nat.le_refl _), hacc, .nil, Nat.zero_le _, w0⟩
    rintro n s4 ⟨i, ys, its, nn, H4, v0, I4, st4, fr4, fD4, oD4, rv4, z4, w4⟩
    have I4' : Inv (compCx X scope x js C s₁ H₁ fp) [(D, { cls := .type "list", data := .seq its.toArray nn })] (compSt v0 σ js) H4 s4 := I4.pins_of fun p hp => by
      have e : p = (D, { cls := .type "list", data := .seq its.toArray nn }) := by simpa using hp
      subst e
      exact ⟨oD4, fD4, hDC, dfs, fun v z => by cases z⟩
    have statD : ∀ {H' : Hp}, (∀ b ∈ fp, H' b = none) → ∀ b ∈ fp, FpOk (compCx X scope x js C s₁ H₁ fp) [(D, { cls := .type "list", data := .seq its.toArray nn })] H' b := fun {H'} hn b hb => by
      obtain ⟨f0, f1, f2, f3, f4, _⟩ := stat hn b hb
      refine ⟨f0, f1, f2, f3, f4, fun p hp => ?_⟩
      have hp' : p ∈ [(D, ({ cls := .type "list", data := .seq its.toArray nn } : Obj))] := hp
      have e : p = (D, { cls := .type "list", data := .seq its.toArray nn }) := by simpa using hp'
      subst e
      exact fun z => hDf (by rw [show D = b from z]; exact hb)
    rcases turn i n ys H4 w4 with ⟨stop, fin⟩ | ⟨go, hlen, step⟩
    · refine thn (T.done (compCx X scope x js C s₁ H₁ fp) rfl rfl rfl hc i _ s4 _ H4 _ I4' (statD fr4) st4 stop) fun r s5 ⟨hr, I5⟩ => ?_
      subst hr
      show RR (.ref D) C (.ok .next) s5
      have oD5 : s5.heap.get? D = some { cls := .type "list", data := .seq its.toArray nn } := (I5.pin (D, _) (List.mem_append_right _ List.mem_cons_self)).1
      obtain ⟨m5, hn5, _⟩ := I5.loc
      have nD : ∀ b o, s₁.heap.get? b = some o → b ≠ D := fun b o e => by rw [← hD]; exact Nat.ne_of_lt (Heap.lt_size e)
      have U : Un (frs X.stack) fp H₁ H4 s₁.heap s5.heap := I5.base
      have IX : Inv X pins σ (upd H4 D (.lst ys)) s5 := I.call' (s' := s5) (ch := fp) I5.os
        ⟨U.keep, U.slot, fun b o e n hb => by rw [upd_ne (nD b o e)]; exact U.free b o e n hb, U.there, fun b xs e => by
          have z := U.tups b xs e
          rw [upd_ne (ne_of_none z fD4)]; exact z, fun b o u e => by
          have z := U.frzs b o u e
          rw [upd_ne (ne_of_none z fD4)]; exact z, fun b ps e => by
          obtain ⟨mr, z⟩ := U.tbls b ps e
          exact ⟨mr, by rw [upd_ne (ne_of_none z fD4)]; exact z⟩⟩ (fun b u e => by
            by_cases hb : b = D
            · subst hb
              rw [upd_same] at e; cases e
              exact ⟨z4, its, nn, rv4, oD5⟩
            · rw [upd_ne hb] at e
              exact (I5.hok b u e).stay (fun c v _ z => z) (fun c z => by rw [upd_ne (ne_of_none z fD4)]; exact z) fun c xs z => by rw [upd_ne (ne_of_none z fD4)]; exact z) I5.bare
        (fun b hb => ⟨(hf b hb).2.2.2.1, (hf b hb).2.1, (hf b hb).2.2.2.2.1, (hf b hb).2.2.2.2.2⟩)
      exact hRR D C ys H4 s5 m5 fD4 IX hn5 (by first | exact hCle | (rw [hD]; exact hCle)) (by rw [upd_ne (Ne.symm hDC)]; exact I5.free) fin
    · refine thn (T.item (compCx X scope x js C s₁ H₁ fp) rfl rfl rfl hc i _ s4 _ H4 _ I4' (statD fr4) st4 go) fun r s5 ⟨u, hr, h5⟩ => ?_
      subst hr
      refine thn h5 fun _ s6 ⟨xv, H6, I6, r6, y6, st6, fr6⟩ => ?_
      have I6' := I6.pinned (statD fr6) (T.obj _ _ st6)
      have hxl : (compCx X scope x js C s₁ H₁ fp).env.scope.names.lookup x = some .local := lookup_relabel_local O.x
      refine wpAny_assign_Name (store_ok (X := compCx X scope x js C s₁ H₁ fp) (i := 0) (x := x) I6' hnd rfl (Or.inl hxl) r6 (fun s7 I7 => ?_) (.inr hxl))
      have I7' : Inv (compCx X scope x js C s₁ H₁ fp) ([(D, { cls := .type "list", data := .seq its.toArray nn })] ++ pinsAt fp s6.heap) (compSt (some xv) σ js) H6 s7 := I7
      refine thn (tests_ok (ht C s₁ H₁ fp) rfl I7' (step xv H6 y6)) fun ok s8 ⟨H8, I8, q8⟩ => ?_
      have keepT : ∀ {s' : Shared} {H' : Hp}, Inv (compCx X scope x js C s₁ H₁ fp) ([(D, { cls := .type "list", data := .seq its.toArray nn })] ++ pinsAt fp s6.heap) (compSt (some xv) σ js) H' s' →
          s'.heap.get? D = some { cls := .type "list", data := .seq its.toArray nn } ∧ H' D = none ∧ (∀ b ∈ fp, ∀ o, s6.heap.get? b = some o → s'.heap.get? b = some o) ∧ ∀ b ∈ fp, H' b = none := fun {s' H'} J => by
        have pD := J.pin (D, { cls := .type "list", data := .seq its.toArray nn }) (List.mem_append_right _ (List.mem_append_left _ List.mem_cons_self))
        refine ⟨pD.1, pD.2.1, fun b hb o e => (J.pin (b, o) (List.mem_append_right _ (List.mem_append_right _ (mem_pinsAt hb e)))).1, fun b hb => ?_⟩
        obtain ⟨o, e, _⟩ := T.obj _ _ st6 b hb
        exact (J.pin (b, o) (List.mem_append_right _ (List.mem_append_right _ (mem_pinsAt hb e)))).2.1
      cases ok with
      | false =>
        rw [if_neg Bool.false_ne_true] at q8 ⊢
        obtain ⟨m', hm, w8⟩ := q8
        obtain ⟨k1, k2, k3, k4⟩ := keepT I8
        exact ⟨m', hm, i + 1, ys, its, nn, H8, some xv, I8.pins_of (fun p hp => absurd hp (by simp)), T.keep _ _ _ st6 k3, k4, k2, k1, rv4, z4, w8⟩
      | true =>
        rw [if_pos rfl] at q8 ⊢
        refine thn (he C s₁ H₁ fp _ s8 _ H8 _ I8 q8) fun u9 s9 ⟨y, H9, I9, r9, m', hm, w9⟩ => ?_
        obtain ⟨k1, k2, k3, k4⟩ := keepT I9
        have hsz : its.toArray.size < sizeLine := by rw [List.size_toArray, ← rv4.length]; exact hlen
        refine call_meets F.slot_list_append ⟨_, k1, rfl⟩ F.entry_list_append (F.args_list_append_2 _ _) (PySem.list_append D its.toArray nn u9 (by omega)) ⟨k1, ?_⟩
        have I9' : Inv (compCx X scope x js C s₁ H₁ fp) [] (compSt (some xv) σ js) H9 s9 := I9.pins_of (fun p hp => absurd hp (by simp))
        have q := PySem.IsL.update k1 (fun a => a.push u9)
        simp only [List.push_toArray] at q
        exact ⟨m', hm, i + 1, ys ++ [y], its ++ [u9], _, H9, some xv, I9'.turned (it := D) (fun b o hb e => (Heap.get?_update_other s9.heap _ (Ne.symm hb)).trans e) k2 hDC (.inr (by first | exact Nat.le_refl _ | (show s₁.heap.objs.size ≤ D; rw [hD]; exact Nat.le_refl _))) (fun yy c e => dcell yy c (cl_sub yy c e)) (fun p hp => absurd (show p ∈ ([] : List (Addr × Obj)) from hp) (by simp)),
          T.keep _ _ _ st6 (fun b hb o e => (Heap.get?_update_other s9.heap _ (fun z => hDf (by rw [z]; exact hb))).trans (k3 b hb o e)), k4, k2, q, rv4.append (.cons r9 .nil), (by rw [List.length_append, List.length_singleton]; exact hlen), w9⟩
  exact codeAny_compStart_list (loop _ rfl) (T.self _ 0 _ _ _ st₁ (loop _ rfl))
def tComp (wi : TI) (js : List Nat) (ot : Option TT) (te : TE) : TE := fun σ H Q => wi σ H fun J H1 => compGo J js ot te σ H1 fun ys H' => ∀ p, H' p = none → Q (.ref p) (upd H' p (.lst ys))
theorem pe_comp {wi : TI} (js : List Nat) (hc : X.calm = true) (hi : PI X (.Name x px) iter wi) (he : ∀ C s₁ H₁ fp, PE (compCx X scope x js C s₁ H₁ fp) elt te) (ht : ∀ C s₁ H₁ fp, PTests (compCx X scope x js C s₁ H₁ fp) ifs ot)
    (hok : compOk scope X.env x X.N js = true) (hnd : (compN x X.N js).Nodup) (hs : ∀ x, foldedSetIterable iter X.env x = pure x := by intro _; rfl) :
    PE X (.ListComp elt [⟨.Name x px, iter, ifs, 0⟩] scope pos) (tComp wi js ot te) := by
  intro pins s σ H Q I h
  have O := compOk_of hok
  rw [eval_ListComp]
  refine wpAny_comprehension_free (use := none) rfl hs (closure_of (comp_cells O I)) O.kind O.loc (thn (hi pins s σ H _ I h) fun v s1 h1 => thn h1 fun itv s2 h2 => ?_)
  obtain ⟨it, fp, tn, J, H2, e, I2, T, st2, f2, go⟩ := h2
  subst e
  refine comp_block (RR := fun acc C => compPost (model X.prog X.w) X.A X.xe none (EP X pins σ Q) acc C) hok hnd hc he ht I2 T st2 f2 go ?_
  intro D C ys H' s' m hD I' hn hC hCn fin
  have f := I2.fpOk hC hCn
  exact ⟨m, hn, fun h'' hs'' => ⟨.ref D, _, I'.turned (it := C) (t' := s'.toks) (fun b o hb e => hs''.extBut b o hb e) hCn f.2.1 f.2.2.2.1 f.2.2.2.2.1 f.2.2.2.2.2, rfl, fin D hD⟩⟩
def tSetComp (wi : TI) (js : List Nat) (ot : Option TT) (te : TE) (i : Nat) : TS := fun D σ H => wi σ H fun J H1 => compGo J js ot te σ H1 fun ys H' => ∀ p, H' p = none → D.nx (σ.set i (some (.ref p))) (upd H' p (.lst ys))
theorem ps_setcomp {wi : TI} {y : Str} {py spos : Pos} (i : Nat) (js : List Nat) (hc : X.calm = true) (hN : X.N.Nodup) (hy : X.N[i]? = some y) (hl : X.env.scope.names.lookup y = some .local) (hi : PI X (.Name x px) iter wi) (he : ∀ C s₁ H₁ fp, PE (compCx X scope x js C s₁ H₁ fp) elt te) (ht : ∀ C s₁ H₁ fp, PTests (compCx X scope x js C s₁ H₁ fp) ifs ot)
    (hok : compOk scope X.env x X.N js = true) (hnd : (compN x X.N js).Nodup)
    (hsw : swapsWith (.ListComp elt [⟨.Name x px, iter, ifs, 0⟩] scope pos) (some (.Name y py)) spos.line X.env = pure true := by rfl) (hs : ∀ x, foldedSetIterable iter X.env x = pure x := by intro _; rfl) :
    PS X (.Assign [.Name y py] (.ListComp elt [⟨.Name x px, iter, ifs, 0⟩] scope pos) spos) (tSetComp wi js ot te i) := by
  intro pins s σ H D I h
  have O := compOk_of hok
  rw [exec_Assign_Name_used _ _ _ _ hsw]
  refine wpAny_bind (wpAny_standAt (wpAny_bind ?_))
  show wpAny _ X.A (do let _ ← comprehension (.ListComp elt [⟨.Name x px, iter, ifs, 0⟩] scope pos) scope X.env _ (newList []) false (eval iter X.env) (some (assign (.Name y py) X.env))) _ _ s
  refine wpAny_bind (wpAny_mono (wpAny_comprehension_free (use := some (assign (.Name y py) X.env)) (Q := fun _ s' => SP X pins D .next s') rfl hs (closure_of (comp_cells O I)) O.kind O.loc
    (thn (hi pins s σ H _ I h) fun v s1 h1 => thn h1 fun itv s2 h2 => ?_)) (fun _ s' hq => wpAny_pure (wpAny_pure hq)) fun _ _ e => e)
  obtain ⟨it, fp, tn, J, H2, e, I2, T, st2, f2, go⟩ := h2
  subst e
  refine comp_block (RR := fun acc C => compPost (model X.prog X.w) X.A X.xe (some (assign (.Name y py) X.env)) (fun _ s' => SP X pins D .next s') acc C) hok hnd hc he ht I2 T st2 f2 go ?_
  intro D' C ys H' s' m hD I' hn hC hCn fin
  have f := I2.fpOk hC hCn
  show wpAny _ X.A (assign (.Name y py) X.env (.ref D')) _ _ _
  refine wpAny_assign_Name (store_ok2 (v := .ref D') I' hN hy (Or.inl hl) rfl (fun s'' I'' hch => ?_) (.inr hl))
  obtain ⟨a, sb, ha⟩ := hch
  have haC : C ≠ a := by
    rcases ha with z | z
    · rw [z]; exact f.2.1
    · exact Ne.symm (f.2.2.2.2.1 _ _ z)
  refine ⟨m, hn.at' (fun o e => sb.extBut _ o haC e), fun h'' hs'' => ⟨_, _, I''.turned (it := C) (t' := s''.toks) (fun b o hb e => hs''.extBut b o hb e) hCn f.2.1 f.2.2.2.1 f.2.2.2.2.1 f.2.2.2.2.2, fin D' hD⟩⟩
end
end L2

namespace L2
open PySem PySem.Spec PyProof.Rows
def Ite (K : PySem.W.Frag) (a : Addr) : It :=
  ⟨fun i H => ∃ xs x, SqL K H a xs ∧ xs[i]? = some x, fun i H v H' => ∃ p x, v = .ref p ∧ H p = none ∧ H' = upd H p (.tup [.int i, x]) ∧ ∀ xs, SqL K H a xs → xs[i]? = some x, fun i H => ∃ xs, SqL K H a xs ∧ xs.length ≤ i⟩
theorem turn_enum {P : Program} {w : World} {K : PySem.W.Frag} {elts : List Expr} {x1 : Nat} {tpos : Pos} (a e it : Addr) (hne : e ≠ it) :
    Turn P w K (.Tuple elts x1 tpos) (Ite K a) [e, it] e (fun i h => ∃ old, IsEnum h e it (i : Int) old ∧ h.IsListIter it a i) where
  mem := by simp
  obj := fun i h st b hb => by
    obtain ⟨old, he, o, ho, c, d⟩ := st
    have hb' : b = e ∨ b = it := by simpa using hb
    rcases hb' with rfl | rfl
    · exact ⟨_, he, fun v z => by
        have z' : Data.fields _ = Data.cell v := z
        cases z'⟩
    · exact ⟨o, ho, fun v z => by rw [d] at z; cases z⟩
  keep := fun i h h' st k => by
    obtain ⟨old, he, hit⟩ := st
    exact ⟨old, k e (by simp) _ he, hit.at fun o q => k it (by simp) o q⟩
  item := by
    intro X hP hw hK hc i pins s σ H E I hf st hg
    subst hP hw hK
    obtain ⟨xs, x, hq, hx⟩ := hg
    obtain ⟨old, he, hit⟩ := st
    obtain ⟨its, rv, p, hz⟩ := I.list hq
    obtain ⟨u, hu, ru⟩ := rv.get hx
    obtain ⟨f0, f1, f2, f3, f4, f5⟩ := hf e (by simp)
    obtain ⟨g0, g1, g2, g3, g4, g5⟩ := hf it (by simp)
    refine wpAny_pyNext_enum_item he hit p.isList (x := u) (by simpa using hu) hne fun h' heo hit' ht hsz hk => ?_
    have hfr : H s.heap.objs.size = none := I.hok.fresh (Nat.le_refl _)
    have nP : ∀ b o, s.heap.get? b = some o → b ≠ s.heap.objs.size := fun b o q => Nat.ne_of_lt (Heap.lt_size q)
    have nE : ∀ b o, H b = some o → b ≠ e ∧ b ≠ it := fun b o q => ⟨(fun z => by rw [z, f0] at q; cases q), (fun z => by rw [z, g0] at q; cases q)⟩
    have kk : ∀ b o, b ∉ [e, it] → s.heap.get? b = some o → h'.get? b = some o := fun b o hb q => hk b o (fun z => hb (by simp [z])) (fun z => hb (by simp [z])) q
    have I1 : Inv X pins σ (upd H s.heap.objs.size (.tup [.int i, x])) { s with heap := h', toks := s.toks + 1 } := by
      refine I.step (g' := s.gens) (d' := s.drawn) (ch := [e, it]) (fun b hb => ?_) (fun b o _ _ hc q _ => kk b o hc q) (fun b o _ _ hc q _ => ⟨o.slots, kk b o hc q⟩) (fun b o _ q n => by rw [upd_ne (nP b o q)]; exact n)
        (fun b o hc q => ⟨o, kk b o hc q⟩) (fun b ys q => by rw [upd_ne (ne_of_none q hfr)]; exact q) (fun b o v q => by rw [upd_ne (ne_of_none q hfr)]; exact q) (fun b ps q => ⟨#[], by rw [upd_ne (ne_of_none q hfr), q]; simp⟩) (fun m hm => ?_) (fun b v q => ?_) I.bare
      · have hb' : b = e ∨ b = it := by simpa using hb
        rcases hb' with rfl | rfl
        · exact ⟨f3, f1, f4, f5⟩
        · exact ⟨g3, g1, g4, g5⟩
      · obtain ⟨o, es, ep, ho, r⟩ := hm
        exact ⟨o, es, ep, kk _ o (by simp; exact ⟨Ne.symm f1, Ne.symm g1⟩) ho, r⟩
      · by_cases hb : b = s.heap.objs.size
        · subst hb
          rw [upd_same] at q; cases q
          exact ⟨by show 2 ≤ sizeLine; decide, [.int i s.toks, u], .cons ⟨_, rfl⟩ (.cons ru .nil), ⟨_, ht, rfl, _, rfl⟩⟩
        · rw [upd_ne hb] at q
          refine (I.hok b v q).stay (fun c o hc z => hk c o ?_ ?_ z) (fun c z => by rw [upd_ne (ne_of_none z hfr)]; exact z) fun c ys z => by rw [upd_ne (ne_of_none z hfr)]; exact z
          · rcases hc with rfl | hc
            · exact (nE _ _ q).1
            · exact (nE _ _ hc).1
          · rcases hc with rfl | hc
            · exact (nE _ _ q).2
            · exact (nE _ _ hc).2
    refine ⟨_, rfl, ?_⟩
    have hep : e ≠ s.heap.objs.size := nP e _ he
    refine wpAny_letOwnedTupleGo_enum (s := { s with heap := h', toks := s.toks + 1 }) heo fun h2 he2 sb => ?_
    have I2 : Inv X pins σ (upd H s.heap.objs.size (.tup [.int i, x])) { s with heap := h2, toks := s.toks + 1 } := Inv.turned (s := { s with heap := h', toks := s.toks + 1 }) (t' := s.toks + 1) (it := e) I1 (fun b o hb q => (sb.2 b hb).trans q) (by rw [upd_ne hep]; exact f0) f1 f3 f4 f5
    have hi2 : (((i + 1 : Nat) : Int)) = (i : Int) + 1 := by omega
    refine ⟨.ref s.heap.objs.size, _, I2, rfl, ⟨s.heap.objs.size, x, rfl, hfr, rfl, fun ys hy => by rw [I.list_inj hy hq]; exact hx⟩, ⟨u, by rw [hi2]; exact he2, hit'.at fun o q => (sb.2 it (Ne.symm hne)).trans q⟩, fun b hb => ?_⟩
    have hb' : b = e ∨ b = it := by simpa using hb
    obtain ⟨o2, ho2, _⟩ := id hit
    rcases hb' with rfl | rfl
    · rw [upd_ne hep]; exact f0
    · rw [upd_ne (nP _ _ ho2)]; exact g0
  done := by
    intro X hP hw hK hc i pins s σ H E I hf st hg
    subst hP hw hK
    obtain ⟨xs, hq, hx⟩ := hg
    obtain ⟨old, he, hit⟩ := st
    obtain ⟨its, rv, p, hz⟩ := I.list hq
    obtain ⟨g0, g1, g2, g3, g4, g5⟩ := hf it (by simp)
    have hl := rv.length
    exact wpAny_pyNext_enum_end (I.ok.hd hc) he hit p.isList (by simp; omega) fun h' eb => ⟨rfl, I.turned (t' := s.toks) (fun b o hb q => eb b o hb q) g0 g1 g3 g4 g5⟩
  self := fun _ _ _ _ _ st h => by
    obtain ⟨old, he, _⟩ := st
    exact wpAny_pyIter_enum he h
def iEnum (K : PySem.W.Frag) (ta : TA) : TI := fun σ H R => ta σ H fun vs H1 => ∃ a, vs = [.ref a] ∧ (∃ xs, SqL K H1 a xs) ∧ R (Ite K a) H1
theorem pi_enum {X : Cx} {elts : List Expr} {x1 : Nat} {tpos : Pos} {l : Expr} {ta : TA} {p pos : Pos} (hg : Gl X "enumerate") (hm : X.mg "enumerate" = none) (ha : PA X [l] ta) (hs : starEach [l] X.env = [(false, eval l X.env)] := by rfl) :
    PI X (.Tuple elts x1 tpos) (.Call (.Name "enumerate" p) [l] [] pos) (iEnum X.K ta) := by
  intro pins s σ H R I h
  refine Call_ (ld_blt I hg hm boot_enumerate (PyProof.Rows.callWith_type1 (thn (ha pos pins s σ H _ I h) fun us s1 ⟨vs, H1, I1, r1, q1⟩ => ?_) hs rfl))
  obtain ⟨a, e, ⟨xs, hq⟩, q⟩ := q1
  subst e
  obtain ⟨u, rfl, ru⟩ := r1.one
  cases ru
  obtain ⟨its, rv, pl, hz⟩ := I1.list hq
  refine call_enumerate_list pl.isList fun h' he hit hsz hk => wpAny_pyIter_enum he ?_
  have I2 : Inv X pins σ H1 { s1 with heap := h' } := I1.kept (t' := s1.toks) hk
  refine ⟨s1.heap.objs.size + 1, [s1.heap.objs.size + 1, s1.heap.objs.size], _, _, H1, rfl, I2, turn_enum a _ _ (Nat.succ_ne_self _), ⟨.none, he, hit⟩, fun b hb => ?_, q⟩
  have hb' : b = s1.heap.objs.size + 1 ∨ b = s1.heap.objs.size := by simpa using hb
  have hle : s1.heap.objs.size ≤ b := by rcases hb' with rfl | rfl <;> omega
  exact I1.fpOk hle (I1.hok.fresh hle)
theorem for_enum {K : PySem.W.Frag} {a : Addr} {xs : List V} {g : TG} {tb : TS} {D : Ends} {σ : St} {H : Hp} (Pv : Nat → St → Hp → Prop) (h0 : Pv 0 σ H) (hl : ∀ i σ H, i ≤ xs.length → Pv i σ H → SqL K H a xs)
    (hs : ∀ i x σ H p, xs[i]? = some x → Pv i σ H → H p = none → g (.ref p) σ (upd H p (.tup [.int i, x])) fun σ2 H2 => tb { D with nx := Pv (i + 1), ct := Pv (i + 1), bk := D.nx } σ2 H2) (hd : ∀ σ H, Pv xs.length σ H → D.nx σ H) :
    ∃ W : Nat → Nat → St → Hp → Prop, (∃ m, W 0 m σ H) ∧ ∀ i m σ H, W i m σ H →
      ((Ite K a).stop i H ∧ D.nx σ H) ∨ ((Ite K a).go i H ∧ ∃ N : St → Hp → Prop, (∀ σ' H', N σ' H' → ∃ m', m' < m ∧ W (i + 1) m' σ' H') ∧ ∀ x H', (Ite K a).yld i H x H' → g x σ H' fun σ2 H2 => tb { D with nx := N, ct := N, bk := D.nx } σ2 H2) := by
  refine ⟨fun i m σ H => m = xs.length - i ∧ i ≤ xs.length ∧ Pv i σ H, ⟨xs.length, by simp, Nat.zero_le _, h0⟩, ?_⟩
  rintro i m σ H ⟨rfl, hi, p⟩
  have q := hl i σ H hi p
  by_cases hlt : i < xs.length
  · refine .inr ⟨⟨xs, xs[i], q, by simp [hlt]⟩, Pv (i + 1), fun σ' H' p' => ⟨xs.length - (i + 1), by omega, rfl, hlt, p'⟩, fun x H' y => ?_⟩
    obtain ⟨pp, z, rfl, hn, rfl, y⟩ := y
    exact hs i z σ H pp (y xs q) p hn
  · have e : i = xs.length := by omega
    subst e
    exact .inl ⟨⟨xs, q, Nat.le_refl _⟩, hd σ H p⟩
def Itd (lo : Int) (n : Nat) : It := ⟨fun i _ => i < n, fun i H x H' => H' = H ∧ x = .int (lo - i), fun i _ => n ≤ i⟩
theorem turn_down {P : Program} {w : World} {K : PySem.W.Frag} {tg : Expr} (it : Addr) (lo : Int) (n : Nat) : Turn P w K tg (Itd lo n) [it] it (fun i h => IsRangeIter h it (lo + (i : Nat) * (-1)) ((n : Int) - (i : Nat)) (-1)) where
  mem := by simp
  obj := fun i h st b hb => by
    have e : b = it := by simpa using hb
    subst e
    exact ⟨_, st, fun v z => by
      have z' : Data.fields _ = Data.cell v := z
      cases z'⟩
  keep := fun i h h' st k => k it (by simp) _ st
  item := by
    intro X hP hw hK hc i pins s σ H E I hf st hg
    subst hP hw hK
    obtain ⟨f0, f1, f2, f3, f4, f5⟩ := hf it (by simp)
    have W := Walks.range (prog := X.prog) (w := X.w) (I.ok.hd hc) it lo (-1) n
    refine W.item i s _ _ hg st fun v h' tk hv st' kk => ?_
    obtain ⟨t, rfl⟩ := hv
    have I1 : Inv X pins σ H { s with heap := h', toks := tk } := I.turned (fun b o hb e => kk b o (by simpa using hb) e) f0 f1 f3 f4 f5
    refine ⟨_, rfl, go_of (s := { s with heap := h', toks := tk }) (n := "range_iterator") st' rfl rfl (by decide) ⟨.int (lo - i), H, I1, ⟨t, ?_⟩, ⟨rfl, rfl⟩, st', fun b hb => (hf b hb).1⟩⟩
    rw [show lo + (i : Int) * (-1) = lo - i by omega]
  done := by
    intro X hP hw hK hc i pins s σ H E I hf st hg
    subst hP hw hK
    obtain ⟨f0, f1, f2, f3, f4, f5⟩ := hf it (by simp)
    exact wpAny_pyNext_range_end (I.ok.hd hc) st (by have : n ≤ i := hg; omega) fun h' eb => ⟨rfl, I.turned (t' := s.toks) (fun b o hb e => eb b o hb e) f0 f1 f3 f4 f5⟩
  self := fun _ _ _ _ _ st h => wpAny_pyIter_rangeiter st h
end L2
namespace L2
open PySem PySem.Spec PyProof.Rows
theorem rangeSize_down (a b : Int) : Builtin.Range.rangeSize a b (-1) = if a > b then a - b else 0 := by
  unfold Builtin.Range.rangeSize
  rw [if_neg (by decide)]
  split
  · rw [show -(-1 : Int) = 1 by decide, Int.ediv_one]; omega
  · rfl
theorem small_down {a b : Int} (ha : -(2 ^ 62) ≤ a) (ha' : a < 2 ^ 62) (hb : -(2 ^ 62) ≤ b) (hb' : b < 2 ^ 62) : Builtin.Range.small a b (-1) = true := by
  unfold Builtin.Range.small
  rw [rangeSize_down]
  simp only [Builtin.Range.rangeFitsLong, Bool.and_eq_true, Bool.or_eq_true, decide_eq_true_eq, beq_iff_eq, show ¬ ((-1 : Int) > 0) by decide, if_false]
  split <;> omega
def iRngD (ta : TA) : TI := fun σ H R => ta σ H fun vs H1 => ∃ i j : Int, vs = [.int i, .int j, .int (-1)] ∧ (-(2 ^ 62) ≤ i ∧ i < 2 ^ 62 ∧ -(2 ^ 62) ≤ j ∧ j < 2 ^ 62) ∧ R (Itd i (i - j).toNat) H1
theorem pi_down {X : Cx} {tg : Expr} {a b c : Expr} {ta : TA} {p pos : Pos} (hg : Gl X "range") (hm : X.mg "range" = none) (ha : PA X [a, b, c] ta)
    (hs : starEach [a, b, c] X.env = (false, eval a X.env) :: starEach [b, c] X.env := by rfl) (hpl : (backTo pos (starEach [b, c] X.env)).any (·.1) = false := by rfl) :
    PI X tg (.Call (.Name "range" p) [a, b, c] [] pos) (iRngD ta) := by
  intro pins s σ H R I h
  refine Call_ (ld_blt I hg hm boot_range (PyProof.Rows.callWith_type1 (thn (ha pos pins s σ H _ I h) fun us s1 ⟨vs, H1, I1, r1, q1⟩ => ?_) hs hpl))
  obtain ⟨i, j, e, ⟨q1, q2, q3, q4⟩, q⟩ := q1
  subst e
  cases r1 with
  | cons r rr =>
    cases rr with
    | cons r' rr =>
      cases rr with
      | cons r'' rr =>
        cases rr
        obtain ⟨t, rfl⟩ := r
        obtain ⟨t', rfl⟩ := r'
        obtain ⟨t'', rfl⟩ := r''
        refine call_range_3 (by decide) ?_ (Or.inl (PyProof.noPylong_small (by decide)))
        refine wpAny_pyIter_range (IsRange.new ..) (small_down q1 q2 q3 q4) ?_
        have I2 : Inv X pins σ H1 { s1 with heap := s1.heap.push { cls := .type "range", data := .fields #[.int i t, .int j t', .int (-1) t''] } } := I1.kept (t' := s1.toks) fun b o e => Heap.get?_push_of_some _ e
        refine ⟨(s1.heap.push { cls := .type "range", data := .fields #[.int i t, .int j t', .int (-1) t''] }).objs.size, [(s1.heap.push { cls := .type "range", data := .fields #[.int i t, .int j t', .int (-1) t''] }).objs.size], _, _, H1, rfl,
          I2.kept (t' := s1.toks) fun b o e => Heap.get?_push_of_some _ e, turn_down _ i (i - j).toNat, ?_, fun b hb => ?_, q⟩
        · have e1 : i + ((0 : Nat) : Int) * (-1) = i := by simp
          have e2 : (((i - j).toNat : Nat) : Int) - ((0 : Nat) : Int) = Builtin.Range.rangeSize i j (-1) := by rw [rangeSize_down]; split <;> omega
          show IsRangeIter _ _ (i + ((0 : Nat) : Int) * (-1)) ((((i - j).toNat : Nat) : Int) - ((0 : Nat) : Int)) (-1)
          rw [e1, e2]
          exact Heap.get?_push_size _ rfl
        · have e : b = (s1.heap.push { cls := .type "range", data := .fields #[.int i t, .int j t', .int (-1) t''] }).objs.size := by simpa using hb
          subst e
          exact I2.fpOk (Nat.le_refl _) (I2.hok.fresh (Nat.le_refl _))
theorem for_down {lo : Int} {n : Nat} {g : TG} {tb : TS} {D : Ends} {σ : St} {H : Hp} (Pv : Nat → St → Hp → Prop) (h0 : Pv 0 σ H)
    (hs : ∀ i σ H, i < n → Pv i σ H → g (.int (lo - i)) σ H fun σ2 H2 => tb { D with nx := Pv (i + 1), ct := Pv (i + 1), bk := D.nx } σ2 H2) (hd : ∀ σ H, Pv n σ H → D.nx σ H) :
    ∃ W : Nat → Nat → St → Hp → Prop, (∃ m, W 0 m σ H) ∧ ∀ i m σ H, W i m σ H →
      ((Itd lo n).stop i H ∧ D.nx σ H) ∨ ((Itd lo n).go i H ∧ ∃ N : St → Hp → Prop, (∀ σ' H', N σ' H' → ∃ m', m' < m ∧ W (i + 1) m' σ' H') ∧ ∀ x H', (Itd lo n).yld i H x H' → g x σ H' fun σ2 H2 => tb { D with nx := N, ct := N, bk := D.nx } σ2 H2) := by
  refine ⟨fun i m σ H => m = n - i ∧ i ≤ n ∧ Pv i σ H, ⟨n, by simp, Nat.zero_le _, h0⟩, ?_⟩
  rintro i m σ H ⟨rfl, hi, p⟩
  by_cases hlt : i < n
  · refine .inr ⟨hlt, Pv (i + 1), fun σ' H' p' => ⟨n - (i + 1), by omega, rfl, hlt, p'⟩, fun x H' y => ?_⟩
    obtain ⟨e, y⟩ := y
    subst e y
    exact hs i σ _ hlt p
  · have e : i = n := by omega
    subst e
    exact .inl ⟨Nat.le_refl _, hd σ H p⟩
end L2

namespace L2
open PySem PySem.Spec PyProof.Rows
section
variable {X : Cx}
def clsV : V → Option Value
  | .ty n => some (.type n)
  | .ref C => some (.ref C)
  | _ => none
theorem clsV_rel {y : V} {c u : Value} (h : clsV y = some c) (r : RelV y u) : u = c := by
  cases y with
  | ty n => cases h; exact r
  | ref C => cases h; exact r
  | _ => cases h
theorem call_isi : CallR X (.builtin "isinstance") (fun xs H Q => ∃ x y c t b, xs = [x, y] ∧ clsV y = some c ∧ TyOf X.K H x t ∧ PySem.W.kitOne X.K t c = some b ∧ Q (.bl b) H) := by
  intro pins s σ H xs us Q I r h
  obtain ⟨x, y, c, t, b, rfl, hc, ty, hk, q⟩ := h
  obtain ⟨u, w', rfl, rx, ry⟩ := vals2 r
  obtain rfl := clsV_rel hc ry
  exact isinst_ok I rx ty hk fun tk => ⟨.bl b, H, I.tok tk, rfl, q⟩
def rBest (K : PySem.W.Frag) (better : Int → Int → Prop) : List V → Hp → VK → Prop := fun xs H Q => ∃ p ns, xs = [.ref p] ∧ (SqL K H p (ns.map V.int) ∨ SqT K H p (ns.map V.int)) ∧ ns ≠ [] ∧ ∀ M, M ∈ ns → (∀ a ∈ ns, better a M) → Q (.int M) H
theorem countP_eqU {x : V} : ∀ {xs : List V} {us : List Value}, Vals xs us → xs.all flatV = true → us.countP (eqU x) = xs.countP fun y => eqV y x
  | _, _, .nil, _ => rfl
  | y :: xs, u :: us, .cons r t, f => by
    rw [List.all_cons, Bool.and_eq_true] at f
    rw [List.countP_cons, List.countP_cons, eqU_of r f.1, countP_eqU t f.2]
def rCount (K : PySem.W.Frag) : V → List V → Hp → VK → Prop := fun x vs H Q => ∃ p xs y, x = .ref p ∧ vs = [y] ∧ SqL K H p xs ∧ flatV y = true ∧ xs.all flatV = true ∧ Q (.int ((xs.countP fun z => eqV z y : Nat) : Int)) H
theorem mt_count : MtR X "list.count" (rCount X.K) := by
  intro pins s σ H x vs v us Q I rx rv h
  obtain ⟨p, xs, y, rfl, rfl, hq, fy, fx, q⟩ := h
  cases rx
  obtain ⟨u, rfl, ru⟩ := rv.one
  obtain ⟨its, r, pl, hz⟩ := I.list hq
  obtain ⟨⟨cls, dd, data, sl⟩, ho, hc, n, hd⟩ := pl.isList
  simp only at hc hd
  subst hc hd
  refine call_meets F.slot_list_count ⟨_, ho, rfl⟩ F.entry_list_count (F.args_list_count_2 _ _) (SeqAt.list_countAt p its.toArray n dd sl u (eqU y)) ⟨ho, fun z hz => mem_eqAt ru fy r fx z (by simpa using hz), ?_⟩
  refine ⟨.int _, H, I.tok _, ⟨_, rfl⟩, ?_⟩
  rw [show its.toArray.toList = its from rfl, countP_eqU r fx]
  exact q
def rIndex (K : PySem.W.Frag) : V → List V → Hp → VK → Prop := fun x vs H Q => ∃ p xs y j, x = .ref p ∧ vs = [y] ∧ SqL K H p xs ∧ flatV y = true ∧ xs.all flatV = true ∧ (∃ z, xs[j]? = some z ∧ eqV z y = true) ∧ (∀ (m : Nat) z, m < j → xs[m]? = some z → eqV z y = false) ∧ Q (.int (j : Int)) H
theorem mt_index : MtR X "list.index" (rIndex X.K) := by
  intro pins s σ H x vs v us Q I rx rv h
  obtain ⟨p, xs, y, j, rfl, rfl, hq, fy, fx, ⟨zj, hj, hit⟩, hno, q⟩ := h
  cases rx
  obtain ⟨u, rfl, ru⟩ := rv.one
  obtain ⟨its, r, pl, hz⟩ := I.list hq
  obtain ⟨⟨cls, dd, data, sl⟩, ho, hc, n, hd⟩ := pl.isList
  simp only at hc hd
  subst hc hd
  obtain ⟨uj, huj, ruj⟩ := r.get hj
  have hjl : j < its.length := (List.getElem?_eq_some_iff.mp huj).1
  have hjs : j < its.toArray.size := by rw [List.size_toArray]; exact hjl
  have flat : ∀ {z : V} {k : Nat}, xs[k]? = some z → flatV z = true := fun {z k} e => List.all_eq_true.mp fx z (List.mem_of_getElem? e)
  have hsm : (j : Int) < 2 ^ 63 - 1 := by
    have h1 := r.length
    have h2 := line63
    have h3 : (sizeLine : Nat) < 2 ^ 62 := by rw [sizeLine_eq]; decide
    have : j < sizeLine := by omega
    have : (j : Int) < 2 ^ 62 := by exact_mod_cast Nat.lt_trans this h3
    omega
  refine call_meets F.slot_list_index ⟨_, ho, rfl⟩ F.entry_list_index (F.args_list_index_2 _ _) (SeqAt.list_indexAt p its.toArray n dd sl u (eqU y) j hjs hsm ?_ ?_) ⟨ho, fun z hz => mem_eqAt ru fy r fx z (by simpa using hz), ?_⟩
  · have e : its.toArray[j] = uj := by
      have := (List.getElem?_eq_some_iff.mp huj).2
      simpa using this
    rw [e, eqU_of ruj (flat hj)]; exact hit
  · intro m hm hmj
    have hml : m < its.length := by rw [List.size_toArray] at hm; exact hm
    have hmx : m < xs.length := by rw [r.length]; exact hml
    obtain ⟨um, hum, rum⟩ := r.get (List.getElem?_eq_getElem hmx)
    have e : its.toArray[m] = um := by
      have := (List.getElem?_eq_some_iff.mp hum).2
      simpa using this
    rw [e, eqU_of rum (flat (List.getElem?_eq_getElem hmx))]
    exact hno m _ hmj (List.getElem?_eq_getElem hmx)
  · exact ⟨.int _, H, I.tok _, ⟨_, rfl⟩, q⟩
end

inductive Dt where
  | non | bl (b : Bool) | int (i : Int) | str (x : Str) | lst (ds : List Dt) | tup (ds : List Dt)
mutual
def Deep (K : PySem.W.Frag) (H : Hp) : Dt → V → Prop
  | .non, v => v = .non
  | .bl b, v => v = .bl b
  | .int i, v => v = .int i
  | .str x, v => v = .str x
  | .lst ds, v => ∃ a xs, v = .ref a ∧ SqL K H a xs ∧ Deeps K H ds xs
  | .tup ds, v => ∃ a xs, v = .ref a ∧ SqT K H a xs ∧ Deeps K H ds xs
def Deeps (K : PySem.W.Frag) (H : Hp) : List Dt → List V → Prop
  | [], xs => xs = []
  | d :: ds, xs => ∃ x r, xs = x :: r ∧ Deep K H d x ∧ Deeps K H ds r
end
mutual
def Dt.dp : Dt → Nat
  | .lst ds => 1 + Dt.dps ds
  | .tup ds => 1 + Dt.dps ds
  | _ => 0
def Dt.dps : List Dt → Nat
  | [] => 0
  | d :: ds => max d.dp (Dt.dps ds)
end
section
variable {X : Cx} {pins : List (Addr × Obj)} {σ : St} {H : Hp} {s : Shared}
theorem all_true : ∀ l : List Nat, (l.all fun _ => true) = true
  | [] => rfl
  | _ :: r => by rw [List.all_cons, all_true r]; rfl
theorem in1_units (A : Around) : A.in1.units = A.units + 1 := rfl
mutual
theorem same_at (I : Inv X pins σ H s) : ∀ (d : Dt) {v z : V} {u1 u2 : Value} {A : Around}, Deep X.K H d v → Deep X.K H d z → RelV v u1 → RelV z u2 → A.units + d.dp < cLine → SeqAt.EqAt A s u1 u2 true
  | .non, v, z, u1, u2, A, h1, h2, r1, r2, _ => by
    have h1 : v = .non := by simpa only [Deep] using h1
    have h2 : z = .non := by simpa only [Deep] using h2
    subst h1 h2; cases r1; cases r2; exact SeqAt.EqAt.same _
  | .bl b, v, z, u1, u2, A, h1, h2, r1, r2, _ => by
    have h1 : v = .bl b := by simpa only [Deep] using h1
    have h2 : z = .bl b := by simpa only [Deep] using h2
    subst h1 h2; cases r1; cases r2; exact SeqAt.EqAt.same _
  | .int i, v, z, u1, u2, A, h1, h2, r1, r2, _ => by
    have h1 : v = .int i := by simpa only [Deep] using h1
    have h2 : z = .int i := by simpa only [Deep] using h2
    subst h1 h2; obtain ⟨t, rfl⟩ := r1; obtain ⟨t', rfl⟩ := r2
    have := SeqAt.EqAt.int_int (A := A) (s := s) i t i t'
    rwa [beq_self_eq_true] at this
  | .str x, v, z, u1, u2, A, h1, h2, r1, r2, _ => by
    have h1 : v = .str x := by simpa only [Deep] using h1
    have h2 : z = .str x := by simpa only [Deep] using h2
    subst h1 h2; obtain ⟨t, rfl⟩ := r1; obtain ⟨t', rfl⟩ := r2
    have := SeqAt.EqAt.str_str (A := A) (s := s) x t x t'
    rwa [beq_self_eq_true] at this
  | .lst ds, v, z, u1, u2, A, h1, h2, r1, r2, hu => by
    obtain ⟨a, xs, rfl, q1, d1⟩ : ∃ a xs, v = .ref a ∧ SqL X.K H a xs ∧ Deeps X.K H ds xs := by simpa only [Deep] using h1
    obtain ⟨b, ys, rfl, q2, d2⟩ : ∃ a xs, z = .ref a ∧ SqL X.K H a xs ∧ Deeps X.K H ds xs := by simpa only [Deep] using h2
    cases r1; cases r2
    have hu' : A.units + (1 + Dt.dps ds) < cLine := by simpa only [Dt.dp] using hu
    obtain ⟨its, rv, p, _⟩ := I.list q1
    obtain ⟨its2, rv2, p2, _⟩ := I.list q2
    obtain ⟨hl, hall⟩ := same_ats I ds d1 d2 rv rv2 (A := A.in1) (by rw [in1_units]; omega)
    by_cases hab : a = b
    · subst hab; exact SeqAt.EqAt.same _
    · refine SeqAt.EqAt.of_refs hab ?_
      have := SeqAt.RcAt.lists (A := A) (e := fun _ => true) p.isList p2.isList (by simpa using hl) (by omega) (fun j h1 h2 => by
        have := hall j _ _ (List.getElem?_eq_getElem (by simpa using h1)) (List.getElem?_eq_getElem (by simpa using h2))
        simpa using this)
      simpa [all_true] using this
  | .tup ds, v, z, u1, u2, A, h1, h2, r1, r2, hu => by
    obtain ⟨a, xs, rfl, q1, d1⟩ : ∃ a xs, v = .ref a ∧ SqT X.K H a xs ∧ Deeps X.K H ds xs := by simpa only [Deep] using h1
    obtain ⟨b, ys, rfl, q2, d2⟩ : ∃ a xs, z = .ref a ∧ SqT X.K H a xs ∧ Deeps X.K H ds xs := by simpa only [Deep] using h2
    cases r1; cases r2
    have hu' : A.units + (1 + Dt.dps ds) < cLine := by simpa only [Dt.dp] using hu
    obtain ⟨its, rv, p, _⟩ := I.tuple q1
    obtain ⟨its2, rv2, p2, _⟩ := I.tuple q2
    obtain ⟨hl, hall⟩ := same_ats I ds d1 d2 rv rv2 (A := A.in1) (by rw [in1_units]; omega)
    by_cases hab : a = b
    · subst hab; exact SeqAt.EqAt.same _
    · refine SeqAt.EqAt.of_refs hab ?_
      have := SeqAt.RcAt.tuples (A := A) (e := fun _ => true) p p2 (by omega) (fun j h1 h2 => by
        have := hall j _ _ (List.getElem?_eq_getElem (by simpa using h1)) (List.getElem?_eq_getElem (by simpa using h2))
        simpa using this)
      simpa [hl, all_true] using this
theorem same_ats (I : Inv X pins σ H s) : ∀ (ds : List Dt) {xs ys : List V} {us ws : List Value} {A : Around}, Deeps X.K H ds xs → Deeps X.K H ds ys → Vals xs us → Vals ys ws → A.units + Dt.dps ds < cLine →
    us.length = ws.length ∧ ∀ (j : Nat) (u w' : Value), us[j]? = some u → ws[j]? = some w' → SeqAt.EqAt A s u w' true
  | [], xs, ys, us, ws, A, h1, h2, r1, r2, _ => by
    have h1 : xs = [] := by simpa only [Deeps] using h1
    have h2 : ys = [] := by simpa only [Deeps] using h2
    subst h1 h2
    cases r1; cases r2
    exact ⟨rfl, fun j u w' e => by simp at e⟩
  | d :: ds, xs, ys, us, ws, A, h1, h2, r1, r2, hu => by
    obtain ⟨x, xr, rfl, d1, e1⟩ : ∃ x r, xs = x :: r ∧ Deep X.K H d x ∧ Deeps X.K H ds r := by simpa only [Deeps] using h1
    obtain ⟨y, yr, rfl, d2, e2⟩ : ∃ x r, ys = x :: r ∧ Deep X.K H d x ∧ Deeps X.K H ds r := by simpa only [Deeps] using h2
    have hu' : A.units + max d.dp (Dt.dps ds) < cLine := by simpa only [Dt.dps] using hu
    cases r1 with
    | cons ra rb =>
      cases r2 with
      | cons rc rd =>
        obtain ⟨hl, hall⟩ := same_ats I ds e1 e2 rb rd (A := A) (by omega)
        refine ⟨by simp [hl], fun j u w' q1 q2 => ?_⟩
        cases j with
        | zero =>
          simp at q1 q2
          subst q1 q2
          exact same_at I d d1 d2 ra rc (by omega)
        | succ j => exact hall j u w' (by simpa using q1) (by simpa using q2)
end
end
end L2

namespace L2
open PySem PySem.Spec PyProof.Rows
section
variable {X : Cx} {pins : List (Addr × Obj)} {σ : St} {H : Hp} {s : Shared}
def rEqD (K : PySem.W.Frag) : R2 := fun x y H Q => ∃ d a b, x = .ref a ∧ y = .ref b ∧ Deep K H d x ∧ Deep K H d y ∧ d.dp ≤ 8 ∧ Q (.bl true) H
theorem rc_same (I : Inv X pins σ H s) {d : Dt} {a b : Addr} {A : Around} (h1 : Deep X.K H d (.ref a)) (h2 : Deep X.K H d (.ref b)) (hu : A.units + d.dp < cLine) : SeqAt.RcAt A s (.ref a) (.ref b) true := by
  cases d with
  | lst ds =>
    obtain ⟨a', xs, e1, q1, d1⟩ : ∃ a' xs, V.ref a = .ref a' ∧ SqL X.K H a' xs ∧ Deeps X.K H ds xs := by simpa only [Deep] using h1
    obtain ⟨b', ys, e2, q2, d2⟩ : ∃ a' xs, V.ref b = .ref a' ∧ SqL X.K H a' xs ∧ Deeps X.K H ds xs := by simpa only [Deep] using h2
    cases e1; cases e2
    have hu' : A.units + (1 + Dt.dps ds) < cLine := by simpa only [Dt.dp] using hu
    obtain ⟨its, rv, p, _⟩ := I.list q1
    obtain ⟨its2, rv2, p2, _⟩ := I.list q2
    obtain ⟨hl, hall⟩ := same_ats I ds d1 d2 rv rv2 (A := A.in1) (by rw [in1_units]; omega)
    have := SeqAt.RcAt.lists (A := A) (e := fun _ => true) p.isList p2.isList (by simpa using hl) (by omega) (fun j h1 h2 => by
        have := hall j _ _ (List.getElem?_eq_getElem (by simpa using h1)) (List.getElem?_eq_getElem (by simpa using h2))
        simpa using this)
    simpa [all_true] using this
  | tup ds =>
    obtain ⟨a', xs, e1, q1, d1⟩ : ∃ a' xs, V.ref a = .ref a' ∧ SqT X.K H a' xs ∧ Deeps X.K H ds xs := by simpa only [Deep] using h1
    obtain ⟨b', ys, e2, q2, d2⟩ : ∃ a' xs, V.ref b = .ref a' ∧ SqT X.K H a' xs ∧ Deeps X.K H ds xs := by simpa only [Deep] using h2
    cases e1; cases e2
    have hu' : A.units + (1 + Dt.dps ds) < cLine := by simpa only [Dt.dp] using hu
    obtain ⟨its, rv, p, _⟩ := I.tuple q1
    obtain ⟨its2, rv2, p2, _⟩ := I.tuple q2
    obtain ⟨hl, hall⟩ := same_ats I ds d1 d2 rv rv2 (A := A.in1) (by rw [in1_units]; omega)
    have := SeqAt.RcAt.tuples (A := A) (e := fun _ => true) p p2 (by omega) (fun j h1 h2 => by
        have := hall j _ _ (List.getElem?_eq_getElem (by simpa using h1)) (List.getElem?_eq_getElem (by simpa using h2))
        simpa using this)
    simpa [hl, all_true] using this
  | non => have h : V.ref a = .non := by simpa only [Deep] using h1
           cases h
  | bl b' => have h : V.ref a = .bl b' := by simpa only [Deep] using h1
             cases h
  | int i => have h : V.ref a = .int i := by simpa only [Deep] using h1
             cases h
  | str x => have h : V.ref a = .str x := by simpa only [Deep] using h1
             cases h
theorem op_eqD {k : Nat} (hr : Room k X.A) : OpR X (compareOp .Eq) (rEqD X.K) := by
  intro pins s σ H x y v u Q I rx ry h
  obtain ⟨d, a, b, rfl, rfl, h1, h2, hd, q⟩ := h
  cases rx; cases ry
  have hu := hr.units
  exact rc_same I h1 h2 (by omega) X.prog X.w X.xe _ ⟨.bl true, H, I, rfl, q⟩
def rNeD (K : PySem.W.Frag) : R2 := fun x y H Q => ∃ d a b, x = .ref a ∧ y = .ref b ∧ Deep K H d x ∧ Deep K H d y ∧ d.dp ≤ 8 ∧ Q (.bl false) H
theorem deeps_ints {K : PySem.W.Frag} {H : Hp} : ∀ ns : List Int, Deeps K H (ns.map Dt.int) (ns.map V.int)
  | [] => by simp only [List.map_nil, Deeps]
  | n :: r => by
    simp only [List.map_cons, Deeps, Deep]
    exact ⟨_, _, rfl, rfl, deeps_ints r⟩
theorem deeps_bls {K : PySem.W.Frag} {H : Hp} : ∀ ns : List Bool, Deeps K H (ns.map Dt.bl) (ns.map V.bl)
  | [] => by simp only [List.map_nil, Deeps]
  | n :: r => by
    simp only [List.map_cons, Deeps, Deep]
    exact ⟨_, _, rfl, rfl, deeps_bls r⟩
theorem deeps_strs {K : PySem.W.Frag} {H : Hp} : ∀ ns : List Str, Deeps K H (ns.map Dt.str) (ns.map V.str)
  | [] => by simp only [List.map_nil, Deeps]
  | n :: r => by
    simp only [List.map_cons, Deeps, Deep]
    exact ⟨_, _, rfl, rfl, deeps_strs r⟩
theorem dps_ints : ∀ ns : List Int, Dt.dps (ns.map Dt.int) = 0
  | [] => rfl
  | n :: r => by simp only [List.map_cons, Dt.dps, Dt.dp, dps_ints r]; rfl
theorem dps_bls : ∀ ns : List Bool, Dt.dps (ns.map Dt.bl) = 0
  | [] => rfl
  | n :: r => by simp only [List.map_cons, Dt.dps, Dt.dp, dps_bls r]; rfl
theorem dps_strs : ∀ ns : List Str, Dt.dps (ns.map Dt.str) = 0
  | [] => rfl
  | n :: r => by simp only [List.map_cons, Dt.dps, Dt.dp, dps_strs r]; rfl
theorem deep_lst {K : PySem.W.Frag} {H : Hp} {a : Addr} {xs : List V} {ds : List Dt} (q : SqL K H a xs) (d : Deeps K H ds xs) : Deep K H (.lst ds) (.ref a) := by
  simp only [Deep]; exact ⟨a, xs, rfl, q, d⟩
theorem deep_tup {K : PySem.W.Frag} {H : Hp} {a : Addr} {xs : List V} {ds : List Dt} (q : SqT K H a xs) (d : Deeps K H ds xs) : Deep K H (.tup ds) (.ref a) := by
  simp only [Deep]; exact ⟨a, xs, rfl, q, d⟩
def rGetL (K : PySem.W.Frag) : R2 := fun x y H Q => ∃ p xs i v, x = .ref p ∧ y = .int i ∧ SqL K H p xs ∧ 0 ≤ i ∧ xs[i.toNat]? = some v ∧ Q v H
theorem get_list : PGet X (rGetL X.K) := by
  intro pins s σ H x y ov iv Q I rx ry h
  obtain ⟨p, xs, i, z, rfl, rfl, hq, h0, he, q⟩ := h
  cases rx
  obtain ⟨t, rfl⟩ := ry
  obtain ⟨its, r, pl, hz⟩ := I.list hq
  obtain ⟨w, ew, rw'⟩ := r.get he
  have hl := r.length
  have hn := line63
  have hlt : i.toNat < its.length := (List.getElem?_eq_some_iff.mp ew).1
  exact wpAny_getItem_list pl.isList h0 (by omega) (by simpa using ew) ⟨z, H, I, rw', q⟩
def rRange1 : List V → Hp → VK → Prop := fun xs H Q => ∃ j : Int, xs = [.int j] ∧ -(2 ^ 62) ≤ j ∧ j < 2 ^ 62 ∧ ∀ p, H p = none → Q (.ref p) (upd H p (.rng 0 j))
theorem call_range1 : CallR X (.type "range") rRange1 := by
  intro pins s σ H xs us Q I r h
  obtain ⟨j, rfl, h1, h2, q⟩ := h
  obtain ⟨u, rfl, t, rfl⟩ := vals1 r
  refine call_range_1 ?_
  have hf : H s.heap.objs.size = none := I.hok.fresh (Nat.le_refl _)
  exact ⟨.ref s.heap.objs.size, _, I.laid (o := .rng 0 j) (fun b o e => Heap.get?_push_of_some _ e) (Nat.le_refl _) ⟨_, _, _, Heap.get?_push_size _ rfl⟩, rfl, q _ hf⟩
structure Df (P : Program) (w : World) (K : PySem.W.Frag) (mg : Str → Option Value) (base : Heap) (x : Str) (k : Nat) (ps : List Str) (sp : Sp) : Prop where
  ex : ∃ f fd, mg x = some (.ref f) ∧ PySem.W.keepIn K (.ref f) = true ∧ Binds K fd ps [] ∧ FnOk P w K mg base (CX1 P w) k f fd ps sp
theorem pe_own {k : Nat} {x : Str} {ps : List Str} {sp : Sp} {E : XK} {p pos : Pos} {e : Expr} {es : List Expr} {t : TA} (D : Df X.prog X.w X.K X.mg X.base x k ps sp) (hr : Room k X.A) (hg : Gl X x) (hx : Passes (CX1 X.prog X.w) X E) (ha : PA X (e :: es) t)
    (hdb : (x == ("__debug__" : Str)) = false := by decide) (he : starEach (e :: es) X.env = (false, eval e X.env) :: starEach es X.env := by rfl) (hpl : (backTo pos (starEach es X.env)).any (·.1) = false := by rfl) :
    PE X (.Call (.Name x p) (e :: es) [] pos) (tCall sp [] E t) := by
  obtain ⟨f, fd, hm, hk, hb, F⟩ := D.ex
  exact pe_call F hr hg hm hk hb .nil hx ha hdb he hpl
def PJ (X : Cx) (es : List Expr) (t : Str → TE) : Prop :=
  ∀ (out : Str) (pins : List (Addr × Obj)) (s : Shared) (σ : St) (H : Hp) (Q : VK), Inv X pins σ H s → t out σ H Q → wpAny (model X.prog X.w) X.A (joinParts out (evalEach es X.env)) (EP X pins σ Q) X.xe s
theorem pj_nil : PJ X [] (fun out _ H Q => out.length ≤ sizeLine ∧ Q (.str out) H) := by
  intro out pins s σ H Q I h
  exact joinParts_nil ⟨.str out, H, I.tok _, ⟨_, rfl⟩, h.2⟩ h.1
theorem pj_cons {e : Expr} {es : List Expr} {te : TE} {t : Str → TE} (he : PE X e te) (hr : PJ X es t) (hs : evalEach (e :: es) X.env = eval e X.env :: evalEach es X.env := by rfl) :
    PJ X (e :: es) (fun out σ H Q => te σ H fun v H1 => ∃ y, v = .str y ∧ (out ++ y).length ≤ sizeLine ∧ t (out ++ y) σ H1 Q) := by
  intro out pins s σ H Q I h
  rw [hs]
  refine joinParts_cons (thn (he pins s σ H _ I h) fun v s1 ⟨x, H1, I1, r1, y, e1, z, q⟩ => ?_)
  subst e1
  obtain ⟨tk, rfl⟩ := r1
  exact ⟨z, hr (out ++ y) pins s1 σ H1 Q I1 q⟩
theorem pe_fstr {e1 e2 : Expr} {es : List Expr} {t : Str → TE} {pos : Pos} (h : PJ X (e1 :: e2 :: es) t) : PE X (.JoinedStr (e1 :: e2 :: es) pos) (t Str.empty) := by
  intro pins s σ H Q I hq
  exact JoinedStr_many (h Str.empty pins s σ H Q I hq)
theorem pe_fv {e : Expr} {te : TE} {pos : Pos} (he : PE X e te) : PE X (.FormattedValue e (-1) none pos) (fun σ H Q => te σ H fun v H1 => ∃ i : Int, v = .int i ∧ i.natAbs.log2 < 1920 ∧ Q (.str (toString i)) H1) := by
  intro pins s σ H Q I h
  refine FormattedValue_plain (thn (he pins s σ H _ I h) fun v s1 ⟨x, H1, I1, r1, i, e1, z, q⟩ => ?_)
  subst e1
  obtain ⟨tk, rfl⟩ := r1
  exact formatField_int_small z ⟨.str _, H1, I1.tok _, ⟨_, rfl⟩, q⟩
end
end L2

namespace L2
open PySem PySem.Spec PyProof.Rows
structure ExTy (K : PySem.W.Frag) (C : Addr) : Prop where
  ga : PySem.W.findIn K (.ref C) "__getattribute__" = some (some (.builtin "BaseException.__getattribute__"))
  gx : PySem.W.findIn K (.ref C) "__getattr__" = some none
  cl : PySem.W.findIn K (.ref C) "__class__" = some (some (.builtin "object.__class__"))
  ob : PySem.W.subIn K (.ref C) (.type "object") = some true
  be : PySem.W.subIn K (.ref C) (.type "BaseException") = some true
  ty : PySem.W.kitCls K (.ref C) (.ref C) = some true
section
variable {K : PySem.W.Frag} {C : Addr} {prog : Program} {w : World} {A : Around} {E : Value → Shared → Prop} {h : Heap} {g : Array GenState} {d : Drawn} {t : Nat} {os : OsState} {a : Addr} {o : Obj}
theorem exc_get {R : Result → Shared → Prop} (T : ExTy K C) (X : K.In h) (hx : h.get? a = some o) (hc : o.cls = .ref C) (hq : R (.ok (.ret (.ref C))) ⟨h, g, d, t, os⟩) :
    codeAny (model prog w) A (.call (.builtin "getset_descriptor.__get__") ⟨[.builtin "object.__class__", .ref a, .ref C], []⟩) R ⟨h, g, d, t, os⟩ := by
  have hT5 : (⟨h, g, d, t, os⟩ : Shared).TypeIs (.builtin "object.__class__") "getset_descriptor" := F.typeOf_object_class
  have LS : PySem.W.Looks (model prog w) h (isSubtype (.ref C) (.type (".".intercalate ("object.__class__".cutAt '.').dropLast))) true := by
    rw [F.owner_object_class]; exact PySem.W.looks_subIn X T.ob
  refine codeAny_call_builtin F.slot_gs_get.plain F.entry_gs_get (F.slot_gs_get.check _ _ _ _ _ _ _ _ hT5 (F.args_gs_get _ _ _) ?_)
  repeat (any_goals (first | assumption | (with_reducible refine wpAny_loadPart_at hx ?_; rw [hc]) | (with_reducible refine LS.at ?_) | wp_step))
  refine ⟨Code.quiet_builtin _ (by decide +kernel), codeAny_builtin F.entry_object_class ?_⟩
  repeat (any_goals (first | assumption | (with_reducible refine wpAny_loadPart_at hx ?_; rw [hc]) | wp_step))
theorem exc_entry {tk : Tok} {Q : Fin → Shared → Prop} (T : ExTy K C) (X : K.In h) (hx : h.get? a = some o) (hc : o.cls = .ref C) (hq : Q (.done (.ret (.ref C))) ⟨h, g, d, t, os⟩) :
    wpAny (model prog w) A (Builtin.«object.__getattribute__» ⟨[.ref a, .str "__class__" tk], []⟩) Q E ⟨h, g, d, t, os⟩ := by
  have hT5 : (⟨h, g, d, t, os⟩ : Shared).TypeIs (.builtin "object.__class__") "getset_descriptor" := F.typeOf_object_class
  have f5 := F.typeOf_object_class
  have f6 := F.slot_gs_get.lookup
  have f7 := F.slot_gs_set.lookup
  have L1 := PySem.W.looks_findIn (M := model prog w) X T.cl
  repeat (any_goals (first | assumption | (with_reducible refine wpAny_loadPart_at hx ?_; rw [hc]) | (with_reducible refine L1.at ?_) | wp_step))
  refine exc_get T X hx hc ?_
  repeat (any_goals (first | assumption | wp_step))
theorem exc_check {M : Model} {nameV : Value} {Q : Unit → Shared → Prop} (T : ExTy K C) (X : K.In h) (hx : h.get? a = some o) (hc : o.cls = .ref C) (hq : Q () ⟨h, g, d, t, os⟩) : wpAny M A (checkBuiltinCall "BaseException.__getattribute__" ⟨[.ref a, nameV], []⟩) Q E ⟨h, g, d, t, os⟩ := by
  have hk : builtinKind "BaseException.__getattribute__" = some .slot := by decide +kernel
  have hsplit : splitId "BaseException.__getattribute__" = some ("BaseException", "__getattribute__") := by decide +kernel
  have ha := F.args_bexc_ga (.ref a) nameV
  have LS := PySem.W.looks_subIn (M := M) X T.be
  simp only [checkBuiltinCall, hk, hsplit]
  refine wpAny_bind ?_
  · unfold isInstance
    repeat (first | (with_reducible refine wpAny_loadPart_at hx ?_; rw [hc]) | (with_reducible refine LS.at ?_) | wp_step)
    exact hq
theorem exc_call {tk : Tok} {R : Result → Shared → Prop} (T : ExTy K C) (X : K.In h) (hx : h.get? a = some o) (hc : o.cls = .ref C) (hq : R (.ok (.ret (.ref C))) ⟨h, g, d, t, os⟩) :
    codeAny (model prog w) A (.call (.builtin "BaseException.__getattribute__") ⟨[.ref a, .str "__class__" tk], []⟩) R ⟨h, g, d, t, os⟩ :=
  codeAny_call_builtin (by decide +kernel) F.entry_bexc_ga (exc_check T X hx hc (exc_entry T X hx hc hq))
theorem exc_by {tk : Tok} {Q : Value → Shared → Prop} (T : ExTy K C) (X : K.In h) (hx : h.get? a = some o) (hc : o.cls = .ref C) (hq : Q (.ref C) ⟨h, g, d, t, os⟩) : wpAny (model prog w) A (getAttrBy (.ref a) (.str "__class__" tk) false) Q E ⟨h, g, d, t, os⟩ := by
  have f3 : bindSpecial (.builtin "BaseException.__getattribute__") (.ref a) = pure (.builtin "BaseException.__getattribute__", [.ref a]) := PySem.F.excAttr_ValueError.ga.bind (.ref a)
  have L1 := PySem.W.looks_findIn (M := model prog w) X T.ga
  have L2 := PySem.W.looks_findIn (M := model prog w) X T.gx
  have hx0 : (false && onTheHeap (Value.builtin "BaseException.__getattribute__")) = false := rfl
  have hx2 : (Value.builtin "BaseException.__getattribute__" == Value.builtin "object.__getattribute__") = false := by decide +kernel
  have hx1 : (onTheHeap (Value.ref C) && Value.builtin "BaseException.__getattribute__" == Value.builtin "object.__getattribute__") = false := by rw [hx2]; rfl
  repeat (any_goals (first | assumption | (with_reducible refine wpAny_loadPart_at hx ?_; rw [hc]) | (with_reducible refine L1.at ?_) | (with_reducible refine L2.at ?_) | wp_step))
  refine exc_call T X hx hc ?_
  repeat (any_goals (first | assumption | wp_step))
theorem exc_attr {Q : Option Value → Shared → Prop} (T : ExTy K C) (X : K.In h) (hx : h.get? a = some o) (hc : o.cls = .ref C) (hq : Q (some (.ref C)) ⟨h, g, d, t + 1, os⟩) : wpAny (model prog w) A (getAttr? (.ref a) "__class__") Q E ⟨h, g, d, t, os⟩ := by
  unfold getAttr? getAttrBy?
  repeat (any_goals (first | assumption | with_reducible apply exc_by T X hx hc | wp_step))
theorem kitx_exc (T : ExTy K C) : PySem.W.KitX K (.ref a) (.ref C) (fun h => ∃ o vs, h.get? a = some o ∧ o.cls = .ref C ∧ o.data = .fields vs) where
  ty := fun _ _ _ ⟨o, _, h1, h2, _⟩ => h2 ▸ (PySem.W.Looks.ld h1).andThen .now
  it := fun _ _ X _ => (PySem.W.kit_cls X T.ty).2.1
  ne := fun h tp dd its n sl X htp => by
    refine Bool.eq_false_iff.mpr fun q => ?_
    have e : C = tp := Value.ref.inj (beq_iff_eq.mp q)
    subst e
    have z : (if ((PySem.W.clsIn K C).isSome && PySem.W.typeIn K (.ref C) == some (.type "type")) = true then PySem.W.subIn K (.ref C) (.ref C) else none) = some true := T.ty
    by_cases hC : ((PySem.W.clsIn K C).isSome && PySem.W.typeIn K (.ref C) == some (.type "type")) = true
    · rw [Bool.and_eq_true] at hC
      have z0 := hC.1
      unfold PySem.W.clsIn at z0
      split at z0
      · rename_i c' d' cd' sl' ho
        have z2 := (X _ _ ho).symm.trans htp
        cases z2
      · cases z0
    · rw [if_neg hC] at z; cases z
  ca := fun {_ _ _ _ _ s} X ⟨o, _, h1, h2, _⟩ k => by
    obtain ⟨hh, gg, dd, tt, oo⟩ := s
    exact exc_attr T X h1 h2 k
end
section
variable {X : Cx}
theorem call_isiX : CallR X (.builtin "isinstance") (fun xs H Q => ∃ a y c C b, xs = [.ref a, y] ∧ clsV y = some c ∧ H a = some (excO a C) ∧ ExTy X.K C ∧ PySem.W.kitOne X.K (.ref C) c = some b ∧ Q (.bl b) H) := by
  intro pins s σ H xs us Q I r h
  obtain ⟨a, y, c, C, b, rfl, hc, ha, T, hk, q⟩ := h
  obtain ⟨u, w', rfl, rx, ry⟩ := vals2 r
  obtain rfl := clsV_rel hc ry
  cases rx
  obtain ⟨p, _, _⟩ := I.hok a _ ha
  exact PySem.W.kia_one (kitx_exc T) I.kIn p hk (fun z => nomatch z) fun tk => ⟨.bl b, H, I.tok tk, rfl, q⟩
theorem ints_at {ns : List Int} {its : List Value} (r : Vals (ns.map V.int) its) {i : Nat} {v : Value} (e : its.toArray[i]? = some v) : i < ns.length ∧ ∃ t, v = .int (ns.getD i 0) t := by
  have e' : its[i]? = some v := by simpa using e
  have hl := r.length
  rw [List.length_map] at hl
  have hi : i < ns.length := by rw [hl]; exact (List.getElem?_eq_some_iff.mp e').1
  refine ⟨hi, ?_⟩
  obtain ⟨u, hu, ru⟩ := r.get (i := i) (x := .int (ns.getD i 0)) (by rw [List.getElem?_map, List.getD_eq_getElem?_getD, List.getElem?_eq_getElem hi]; rfl)
  rw [e'] at hu; cases hu
  exact ru
theorem getD_in {ns : List Int} {i : Nat} (h : i < ns.length) : ns.getD i 0 ∈ ns := by
  rw [List.getD_eq_getElem?_getD, List.getElem?_eq_getElem h]
  exact List.getElem_mem h
theorem in_getD {ns : List Int} {a : Int} (h : a ∈ ns) : ∃ j, j < ns.length ∧ ns.getD j 0 = a := by
  obtain ⟨j, hj⟩ := List.getElem?_of_mem h
  have hl := (List.getElem?_eq_some_iff.mp hj).1
  exact ⟨j, hl, by rw [List.getD_eq_getElem?_getD, hj]; rfl⟩
theorem pos_of_ne {α : Type} {l : List α} (h : l ≠ []) : 0 < l.length := by cases l with
  | nil => exact absurd rfl h
  | cons a r => simp
theorem kept_of_push {h : Heap} {ob : Obj} {h' : Heap} (k : ∀ b o, b ∉ [h.objs.size] → (h.push ob).get? b = some o → h'.get? b = some o) : ∀ b o, h.get? b = some o → h'.get? b = some o := fun b o e =>
  k b o (by simp; exact Nat.ne_of_lt (Heap.lt_size e)) (Heap.get?_push_of_some _ e)
theorem call_maxL (hc : X.calm = true) : CallR X (.builtin "max") (rBest X.K fun a M => a ≤ M) := by
  intro pins s σ H xs us Q I r h
  obtain ⟨p, ns, rfl, hq, hne, q⟩ := h
  obtain ⟨u, rfl, rx⟩ := vals1 r
  cases rx
  have hpos := pos_of_ne hne
  obtain ⟨b1, b2⟩ := argBest_gt (fun i => ns.getD i 0) (ns.length - 1)
  have fin : ∀ {its : List Value} {v : Value} {h' : Heap} {tk : Nat}, Vals (ns.map V.int) its → its.toArray[argBest (fun i j => decide (ns.getD i 0 > ns.getD j 0)) (its.toArray.size - 1)]? = some v → (∀ b o, s.heap.get? b = some o → h'.get? b = some o) → EP X pins σ Q v { s with heap := h', toks := tk } := fun {its v h' tk} rv e k => by
    have hl := rv.length
    rw [List.length_map] at hl
    rw [List.size_toArray, ← hl] at e
    obtain ⟨_, t, rfl⟩ := ints_at rv e
    refine ⟨.int _, H, I.kept k, ⟨t, rfl⟩, q _ (getD_in (by omega)) fun a ha => ?_⟩
    obtain ⟨j, hj, rfl⟩ := in_getD ha
    exact b2 j (by omega)
  rcases hq with hq | hq
  · obtain ⟨its, rv, pl, hz⟩ := I.list hq
    have hl := rv.length
    rw [List.length_map] at hl
    refine call_max_walk (wpAny_pyIter_list pl.isList ?_)
    have hpl : p < s.heap.objs.size := by obtain ⟨o, e, _⟩ := pl.isList; exact Heap.lt_size e
    refine ⟨_, _, _, _, _, _, _, rfl, Walks.list (A := X.A.in1) (I.ok.hd hc) s.heap.objs.size p (Nat.ne_of_lt hpl) its.toArray, ⟨⟨_, Heap.get?_push_size _ rfl, rfl, rfl⟩, pl.isList.push _⟩, fun b hb => ?_, by rw [List.size_toArray]; omega, CmpOf.ints_gt (fun i => ns.getD i 0) (fun i v e => (ints_at rv e).2), fun v h' tk hP hk => fin rv hP (kept_of_push hk)⟩
    have hb' : b = s.heap.objs.size ∨ b = p := by simpa using hb
    show b < (s.heap.push _).objs.size
    rw [Heap.size_push]
    rcases hb' with rfl | rfl
    · exact Nat.lt_succ_self _
    · exact Nat.lt_succ_of_lt hpl
  · obtain ⟨its, rv, pl, hz⟩ := I.tuple hq
    have hl := rv.length
    rw [List.length_map] at hl
    refine call_max_walk (wpAny_pyIter_tuple (show s.heap.IsTuple p its.toArray from pl) ?_)
    have hpl : p < s.heap.objs.size := by obtain ⟨o, e, _⟩ := pl; exact Heap.lt_size e
    obtain ⟨o, e, c1, n1, d1⟩ := id pl
    refine ⟨_, _, _, _, _, _, _, rfl, Walks.tuple (A := X.A.in1) (I.ok.hd hc) s.heap.objs.size p (Nat.ne_of_lt hpl) its.toArray, ⟨⟨_, Heap.get?_push_size _ rfl, rfl, rfl⟩, ⟨o, Heap.get?_push_of_some _ e, c1, n1, d1⟩⟩, fun b hb => ?_, by rw [List.size_toArray]; omega, CmpOf.ints_gt (fun i => ns.getD i 0) (fun i v e => (ints_at rv e).2), fun v h' tk hP hk => fin rv hP (kept_of_push hk)⟩
    have hb' : b = s.heap.objs.size ∨ b = p := by simpa using hb
    show b < (s.heap.push _).objs.size
    rw [Heap.size_push]
    rcases hb' with rfl | rfl
    · exact Nat.lt_succ_self _
    · exact Nat.lt_succ_of_lt hpl
theorem call_minL (hc : X.calm = true) : CallR X (.builtin "min") (rBest X.K fun a M => M ≤ a) := by
  intro pins s σ H xs us Q I r h
  obtain ⟨p, ns, rfl, hq, hne, q⟩ := h
  obtain ⟨u, rfl, rx⟩ := vals1 r
  cases rx
  have hpos := pos_of_ne hne
  obtain ⟨b1, b2⟩ := argBest_lt (fun i => ns.getD i 0) (ns.length - 1)
  have fin : ∀ {its : List Value} {v : Value} {h' : Heap} {tk : Nat}, Vals (ns.map V.int) its → its.toArray[argBest (fun i j => decide (ns.getD i 0 < ns.getD j 0)) (its.toArray.size - 1)]? = some v → (∀ b o, s.heap.get? b = some o → h'.get? b = some o) → EP X pins σ Q v { s with heap := h', toks := tk } := fun {its v h' tk} rv e k => by
    have hl := rv.length
    rw [List.length_map] at hl
    rw [List.size_toArray, ← hl] at e
    obtain ⟨_, t, rfl⟩ := ints_at rv e
    refine ⟨.int _, H, I.kept k, ⟨t, rfl⟩, q _ (getD_in (by omega)) fun a ha => ?_⟩
    obtain ⟨j, hj, rfl⟩ := in_getD ha
    exact b2 j (by omega)
  rcases hq with hq | hq
  · obtain ⟨its, rv, pl, hz⟩ := I.list hq
    have hl := rv.length
    rw [List.length_map] at hl
    refine call_min_walk (wpAny_pyIter_list pl.isList ?_)
    have hpl : p < s.heap.objs.size := by obtain ⟨o, e, _⟩ := pl.isList; exact Heap.lt_size e
    refine ⟨_, _, _, _, _, _, _, rfl, Walks.list (A := X.A.in1) (I.ok.hd hc) s.heap.objs.size p (Nat.ne_of_lt hpl) its.toArray, ⟨⟨_, Heap.get?_push_size _ rfl, rfl, rfl⟩, pl.isList.push _⟩, fun b hb => ?_, by rw [List.size_toArray]; omega, CmpOf.ints_lt (fun i => ns.getD i 0) (fun i v e => (ints_at rv e).2), fun v h' tk hP hk => fin rv hP (kept_of_push hk)⟩
    have hb' : b = s.heap.objs.size ∨ b = p := by simpa using hb
    show b < (s.heap.push _).objs.size
    rw [Heap.size_push]
    rcases hb' with rfl | rfl
    · exact Nat.lt_succ_self _
    · exact Nat.lt_succ_of_lt hpl
  · obtain ⟨its, rv, pl, hz⟩ := I.tuple hq
    have hl := rv.length
    rw [List.length_map] at hl
    refine call_min_walk (wpAny_pyIter_tuple (show s.heap.IsTuple p its.toArray from pl) ?_)
    have hpl : p < s.heap.objs.size := by obtain ⟨o, e, _⟩ := pl; exact Heap.lt_size e
    obtain ⟨o, e, c1, n1, d1⟩ := id pl
    refine ⟨_, _, _, _, _, _, _, rfl, Walks.tuple (A := X.A.in1) (I.ok.hd hc) s.heap.objs.size p (Nat.ne_of_lt hpl) its.toArray, ⟨⟨_, Heap.get?_push_size _ rfl, rfl, rfl⟩, ⟨o, Heap.get?_push_of_some _ e, c1, n1, d1⟩⟩, fun b hb => ?_, by rw [List.size_toArray]; omega, CmpOf.ints_lt (fun i => ns.getD i 0) (fun i v e => (ints_at rv e).2), fun v h' tk hP hk => fin rv hP (kept_of_push hk)⟩
    have hb' : b = s.heap.objs.size ∨ b = p := by simpa using hb
    show b < (s.heap.push _).objs.size
    rw [Heap.size_push]
    rcases hb' with rfl | rfl
    · exact Nat.lt_succ_self _
    · exact Nat.lt_succ_of_lt hpl
theorem bls_at {bs : List Bool} {its : List Value} (r : Vals (bs.map V.bl) its) {i : Nat} {v : Value} (e : its.toArray[i]? = some v) : v = .bool (bs.getD i true) := by
  have e' : its[i]? = some v := by simpa using e
  have hl := r.length
  rw [List.length_map] at hl
  have hi : i < bs.length := by rw [hl]; exact (List.getElem?_eq_some_iff.mp e').1
  obtain ⟨u, hu, ru⟩ := r.get (i := i) (x := .bl (bs.getD i true)) (by rw [List.getElem?_map, List.getD_eq_getElem?_getD, List.getElem?_eq_getElem hi]; rfl)
  rw [e'] at hu; cases hu
  exact ru
theorem range_all (bs : List Bool) : ((List.range bs.length).all fun i => bs.getD i true) = bs.all id := by
  induction bs with
  | nil => rfl
  | cons b r ih =>
    rw [List.length_cons, List.range_succ_eq_map, List.all_cons, List.all_map, List.all_cons, ← ih]
    rfl
def rAll (K : PySem.W.Frag) : List V → Hp → VK → Prop := fun xs H Q => ∃ (p : Addr) (bs : List Bool), xs = [.ref p] ∧ SqL K H p (bs.map V.bl) ∧ Q (.bl (bs.all id)) H
theorem call_all (hc : X.calm = true) : CallR X (.builtin "all") (rAll X.K) := by
  intro pins s σ H xs us Q I r h
  obtain ⟨p, bs, rfl, hq, q⟩ := h
  obtain ⟨u, rfl, rx⟩ := vals1 r
  cases rx
  obtain ⟨its, rv, pl, hz⟩ := I.list hq
  have hl := rv.length
  rw [List.length_map] at hl
  refine call_all_walk (wpAny_pyIter_list pl.isList ?_)
  have hpl : p < s.heap.objs.size := by obtain ⟨o, e, _⟩ := pl.isList; exact Heap.lt_size e
  refine ⟨_, _, _, _, _, _, fun i => bs.getD i true, rfl, Walks.list (A := X.A.in1) (I.ok.hd hc) s.heap.objs.size p (Nat.ne_of_lt hpl) its.toArray, ⟨⟨_, Heap.get?_push_size _ rfl, rfl, rfl⟩, pl.isList.push _⟩, fun i v s' Q' E' hP hQ => ?_, fun h' tk hk => ?_⟩
  · obtain rfl := bls_at rv hP
    exact wpAny_truthy_bool hQ
  · refine ⟨.bl _, H, I.kept (kept_of_push hk), rfl, ?_⟩
    rw [List.size_toArray, ← hl, range_all]
    exact q
def rangeL (lo : Int) (n : Nat) : List Int := (List.range n).map fun (i : Nat) => lo + (i : Int)
def rListRng : List V → Hp → VK → Prop := fun xs H Q => ∃ p lo hi, xs = [.ref p] ∧ H p = some (.rng lo hi) ∧ (-(2 ^ 62) ≤ lo ∧ lo < 2 ^ 62 ∧ -(2 ^ 62) ≤ hi ∧ hi < 2 ^ 62) ∧ (hi - lo).toNat ≤ sizeLine ∧ (hi - lo).toNat ≤ 2 ^ 24 ∧ ∀ l, H l = none → Q (.ref l) (upd H l (.lst ((rangeL lo (hi - lo).toNat).map V.int)))
theorem vals_of_items {lo : Int} : ∀ {n : Nat} {acc : List Value}, acc.length = n → (∀ (j : Nat) v, acc[j]? = some v → ∃ t, v = .int (lo + j) t) → Vals ((rangeL lo n).map V.int) acc := by
  intro n acc hl ha
  unfold rangeL
  rw [List.map_map]
  induction n generalizing acc lo with
  | zero =>
    cases acc with
    | nil => exact .nil
    | cons a r => simp at hl
  | succ n ih =>
    cases acc with
    | nil => simp at hl
    | cons a r =>
      rw [List.range_succ_eq_map, List.map_cons, List.map_map]
      obtain ⟨t, rfl⟩ := ha 0 a rfl
      refine .cons ⟨t, by simp⟩ ?_
      have := ih (lo := lo + 1) (acc := r) (by simpa using hl) (fun j v e => by
        obtain ⟨t, rfl⟩ := ha (j + 1) v (by simpa using e)
        exact ⟨t, by congr 1; push_cast; omega⟩)
      refine cast ?_ this
      congr 1
      refine List.map_congr_left fun i _ => ?_
      simp only [Function.comp]
      congr 1
      push_cast
      omega
theorem call_list_rng (hc : X.calm = true) : CallR X (.type "list") rListRng := by
  intro pins s σ H xs us Q I r h
  obtain ⟨p, lo, hi, rfl, hp, ⟨h1, h2, h3, h4⟩, hz, hz2, q⟩ := h
  obtain ⟨u, rfl, rx⟩ := vals1 r
  cases rx
  obtain ⟨t, u, v, e⟩ := I.hok p _ hp
  have hf : H s.heap.objs.size = none := I.hok.fresh (Nat.le_refl _)
  have hsz : Builtin.Range.rangeSize lo hi 1 = ((hi - lo).toNat : Nat) := by rw [rangeSize_one]; split <;> omega
  refine call_list_range (I.ok.hd hc) (r := p) e (small_one h1 h2 h3 h4) hsz hz2 fun h' tk acc' c' hk hl hit => ?_
  refine ⟨.ref s.heap.objs.size, _, I.laid (o := .lst ((rangeL lo (hi - lo).toNat).map V.int)) hk (Nat.le_refl _) ?_, rfl, q _ hf⟩
  refine ⟨by rw [List.length_map, rangeL, List.length_map, List.length_range]; exact hz, acc'.toList, c', vals_of_items (by rw [Array.length_toList]; exact hit.1) (fun j v e => ?_), by simpa using hl⟩
  obtain ⟨t, rfl⟩ := hit.2 j v (by simpa using e)
  exact ⟨t, by rw [Int.mul_one]⟩
theorem rcne_same {pins : List (Addr × Obj)} {σ : St} {H : Hp} {s : Shared} (I : Inv X pins σ H s) {d : Dt} {a b : Addr} {A : Around} (h1 : Deep X.K H d (.ref a)) (h2 : Deep X.K H d (.ref b)) (hu : A.units + d.dp < cLine) : SeqAt.RcNeAt A s (.ref a) (.ref b) false := by
  cases d with
  | lst ds =>
    obtain ⟨a', xs, e1, q1, d1⟩ : ∃ a' xs, V.ref a = .ref a' ∧ SqL X.K H a' xs ∧ Deeps X.K H ds xs := by simpa only [Deep] using h1
    obtain ⟨b', ys, e2, q2, d2⟩ : ∃ a' xs, V.ref b = .ref a' ∧ SqL X.K H a' xs ∧ Deeps X.K H ds xs := by simpa only [Deep] using h2
    cases e1; cases e2
    have hu' : A.units + (1 + Dt.dps ds) < cLine := by simpa only [Dt.dp] using hu
    obtain ⟨its, rv, p, _⟩ := I.list q1
    obtain ⟨its2, rv2, p2, _⟩ := I.list q2
    obtain ⟨hl, hall⟩ := same_ats I ds d1 d2 rv rv2 (A := A.in1) (by rw [in1_units]; omega)
    have := SeqAt.RcNeAt.lists (A := A) (e := fun _ => true) p.isList p2.isList (by simpa using hl) (by omega) (fun j h1 h2 => by
        have := hall j _ _ (List.getElem?_eq_getElem (by simpa using h1)) (List.getElem?_eq_getElem (by simpa using h2))
        simpa using this)
    simpa [all_true] using this
  | tup ds =>
    obtain ⟨a', xs, e1, q1, d1⟩ : ∃ a' xs, V.ref a = .ref a' ∧ SqT X.K H a' xs ∧ Deeps X.K H ds xs := by simpa only [Deep] using h1
    obtain ⟨b', ys, e2, q2, d2⟩ : ∃ a' xs, V.ref b = .ref a' ∧ SqT X.K H a' xs ∧ Deeps X.K H ds xs := by simpa only [Deep] using h2
    cases e1; cases e2
    have hu' : A.units + (1 + Dt.dps ds) < cLine := by simpa only [Dt.dp] using hu
    obtain ⟨its, rv, p, _⟩ := I.tuple q1
    obtain ⟨its2, rv2, p2, _⟩ := I.tuple q2
    obtain ⟨hl, hall⟩ := same_ats I ds d1 d2 rv rv2 (A := A.in1) (by rw [in1_units]; omega)
    have := SeqAt.RcNeAt.tuples (A := A) (e := fun _ => true) p p2 (by omega) (fun j h1 h2 => by
        have := hall j _ _ (List.getElem?_eq_getElem (by simpa using h1)) (List.getElem?_eq_getElem (by simpa using h2))
        simpa using this)
    simpa [hl, all_true] using this
  | non => have h : V.ref a = .non := by simpa only [Deep] using h1
           cases h
  | bl b' => have h : V.ref a = .bl b' := by simpa only [Deep] using h1
             cases h
  | int i => have h : V.ref a = .int i := by simpa only [Deep] using h1
             cases h
  | str x => have h : V.ref a = .str x := by simpa only [Deep] using h1
             cases h
theorem op_neD {k : Nat} (hr : Room k X.A) : OpR X (compareOp .NotEq) (rNeD X.K) := by
  intro pins s σ H x y v u Q I rx ry h
  obtain ⟨d, a, b, rfl, rfl, h1, h2, hd, q⟩ := h
  cases rx; cases ry
  have hu := hr.units
  exact rcne_same I h1 h2 (by omega) X.prog X.w X.xe _ ⟨.bl false, H, I, rfl, q⟩
end
end L2

namespace NM
theorem foldl_take {α β : Type} (f : β → α → β) (b : β) (xs : List α) (i : Nat) (x : α) (h : xs[i]? = some x) :
    (xs.take (i+1)).foldl f b = f ((xs.take i).foldl f b) x := by
  rw [List.take_succ, h]
  simp [List.foldl_append]
def stepOk (ahead : Int) (l : List Int) : Bool := decide (l.length = 2) && l.all (fun v => decide (0 ≤ v) && decide (v < ahead))
def stepsOk (wide : Int) (steps : List (List Int)) : Prop := ∀ (k : Nat) l, steps[k]? = some l → stepOk (wide + k) l = true
def outsOk (lim : Int) (outs : List Int) : Prop := ∀ v ∈ outs, 0 ≤ v ∧ v < lim
structure Good (wide : Int) (steps : List (List Int)) (outs : List Int) : Prop where
  lo : 1 ≤ wide
  hi : wide ≤ 64
  len : steps.length ≤ 500
  st : stepsOk wide steps
  ol : (outs.length : Int) = wide
  ou : outsOk (wide + steps.length) outs
instance (wide : Int) (steps : List (List Int)) : Decidable (stepsOk wide steps) :=
  decidable_of_iff (∀ k, k < steps.length → ∀ l, steps[k]? = some l → stepOk (wide + k) l = true)
    ⟨fun h k l e => h k (List.getElem?_eq_some_iff.mp e).1 l e, fun h k _ l e => h k l e⟩
instance (lim : Int) (outs : List Int) : Decidable (outsOk lim outs) := by unfold outsOk; exact inferInstance
instance (wide : Int) (steps : List (List Int)) (outs : List Int) : Decidable (Good wide steps outs) :=
  decidable_of_iff (1 ≤ wide ∧ wide ≤ 64 ∧ steps.length ≤ 500 ∧ stepsOk wide steps ∧ (outs.length : Int) = wide ∧ outsOk (wide + steps.length) outs)
    ⟨fun ⟨a, b, c, d, e, f⟩ => ⟨a, b, c, d, e, f⟩, fun ⟨a, b, c, d, e, f⟩ => ⟨a, b, c, d, e, f⟩⟩
structure NetN where
  w : Nat
  st : List (Nat × Nat)
  ou : List Nat
structure NetN.Ok (N : NetN) : Prop where
  lo : 1 ≤ N.w
  hi : N.w ≤ 64
  len : N.st.length ≤ 500
  s1 : ∀ k p, N.st[k]? = some p → p.1 < N.w + k ∧ p.2 < N.w + k
  ol : N.ou.length = N.w
  ob : ∀ v ∈ N.ou, v < N.w + N.st.length
def pairI (p : Nat × Nat) : List Int := [(p.1 : Int), (p.2 : Int)]
def NetN.steps (N : NetN) : List (List Int) := N.st.map pairI
def NetN.outs (N : NetN) : List Int := N.ou.map Int.ofNat
theorem pair_of {ahead : Int} {l : List Int} (h : stepOk ahead l = true) : ∃ a b : Nat, l = pairI (a, b) ∧ (a : Int) < ahead ∧ (b : Int) < ahead := by
  unfold stepOk at h
  simp only [Bool.and_eq_true, decide_eq_true_eq, List.all_eq_true] at h
  obtain ⟨hl, ha⟩ := h
  match l, hl with
  | [x, y], _ =>
    obtain ⟨x0, x1⟩ := ha x (by simp)
    obtain ⟨y0, y1⟩ := ha y (by simp)
    exact ⟨x.toNat, y.toNat, by simp only [pairI]; rw [Int.toNat_of_nonneg x0, Int.toNat_of_nonneg y0], by rw [Int.toNat_of_nonneg x0]; exact x1, by rw [Int.toNat_of_nonneg y0]; exact y1⟩
theorem steps_of {wide : Int} : ∀ {steps : List (List Int)} {k0 : Nat}, (∀ (k : Nat) l, steps[k]? = some l → stepOk (wide + (k0 + k : Nat)) l = true) →
    ∃ st : List (Nat × Nat), steps = st.map pairI ∧ ∀ (k : Nat) p, st[k]? = some p → (p.1 : Int) < wide + (k0 + k : Nat) ∧ (p.2 : Int) < wide + (k0 + k : Nat)
  | [], _, _ => ⟨[], rfl, fun k p h => by simp at h⟩
  | l :: r, k0, h => by
    obtain ⟨a, b, e, h1, h2⟩ := pair_of (h 0 l rfl)
    obtain ⟨st, e2, h3⟩ := steps_of (steps := r) (k0 := k0 + 1) (fun k l hl => by
      have := h (k+1) l (by simpa using hl)
      rw [show k0 + 1 + k = k0 + (k + 1) by omega]; exact this)
    refine ⟨(a, b) :: st, by rw [e, e2]; rfl, fun k p hp => ?_⟩
    cases k with
    | zero =>
      simp at hp; subst hp
      exact ⟨by simpa using h1, by simpa using h2⟩
    | succ k =>
      have := h3 k p (by simpa using hp)
      rw [show k0 + (k + 1) = k0 + 1 + k by omega]; exact this
theorem outs_of : ∀ {outs : List Int} {lim : Int}, outsOk lim outs → ∃ ou : List Nat, outs = ou.map Int.ofNat ∧ ∀ v ∈ ou, (v : Int) < lim
  | [], _, _ => ⟨[], rfl, fun v h => by simp at h⟩
  | x :: r, lim, h => by
    obtain ⟨x0, x1⟩ := h x (by simp)
    obtain ⟨ou, e, h2⟩ := outs_of (outs := r) (lim := lim) (fun v hv => h v (by simp [hv]))
    refine ⟨x.toNat :: ou, by rw [e]; simp [Int.toNat_of_nonneg x0], fun v hv => ?_⟩
    rcases List.mem_cons.mp hv with rfl | hv
    · omega
    · exact h2 v hv
theorem Good.net {wide : Int} {steps : List (List Int)} {outs : List Int} (g : Good wide steps outs) :
    ∃ N : NetN, N.Ok ∧ wide = (N.w : Int) ∧ steps = N.steps ∧ outs = N.outs := by
  obtain ⟨st, e1, h1⟩ := steps_of (wide := wide) (steps := steps) (k0 := 0) (fun k l hl => by rw [Nat.zero_add]; exact g.st k l hl)
  obtain ⟨ou, e2, h2⟩ := outs_of g.ou
  have lo := g.lo
  have hi := g.hi
  have ol := g.ol
  have hw : ((wide.toNat : Nat) : Int) = wide := Int.toNat_of_nonneg (by omega)
  refine ⟨⟨wide.toNat, st, ou⟩, ⟨?_, ?_, ?_, fun k p hp => ?_, ?_, fun v hv => ?_⟩, hw.symm, e1, e2⟩
  · show 1 ≤ wide.toNat; omega
  · show wide.toNat ≤ 64; omega
  · have := g.len; rw [e1] at this; simpa using this
  · have := h1 k p hp
    show p.1 < wide.toNat + k ∧ p.2 < wide.toNat + k
    constructor <;> omega
  · show ou.length = wide.toNat
    have : outs.length = ou.length := by rw [e2]; simp
    omega
  · have := h2 v hv
    show v < wide.toNat + st.length
    have : steps.length = st.length := by rw [e1]; simp
    omega
theorem NetN.Ok.good {N : NetN} (o : N.Ok) : Good (N.w : Int) N.steps N.outs where
  lo := by have := o.lo; omega
  hi := by have := o.hi; omega
  len := by unfold NetN.steps; simpa using o.len
  st := fun k l hl => by
    unfold NetN.steps at hl
    rw [List.getElem?_map] at hl
    cases e : N.st[k]? with
    | none => rw [e] at hl; cases hl
    | some p =>
      rw [e] at hl
      obtain ⟨h1, h2⟩ := o.s1 k p e
      cases (Option.some.inj hl)
      simp only [stepOk, pairI, List.length_cons, List.length_nil, List.all_cons, List.all_nil]
      simp
      omega
  ol := by unfold NetN.outs; simp [o.ol]
  ou := fun v hv => by
    unfold NetN.outs at hv
    obtain ⟨u, hu, rfl⟩ := List.mem_map.mp hv
    have := o.ob u hu
    unfold NetN.steps
    simp only [List.length_map]
    constructor
    · simp
    · show (u : Int) < _; omega
def deeper (a b : Int) : Int := if b > a then b else a
def dstep (f : List Int) (p : Nat × Nat) : List Int := f ++ [1 + deeper (f.getD p.1 0) (f.getD p.2 0)]
def NetN.depths (N : NetN) : List Int := N.st.foldl dstep (List.replicate N.w 0)
def NetN.depthsTo (N : NetN) (i : Nat) : List Int := (N.st.take i).foldl dstep (List.replicate N.w 0)
theorem len_foldl_dstep : ∀ (st : List (Nat × Nat)) (f : List Int), (st.foldl dstep f).length = f.length + st.length
  | [], f => by simp
  | p :: r, f => by
    rw [List.foldl_cons, len_foldl_dstep r]; simp [dstep]; omega
theorem NetN.depthsTo_len (N : NetN) (i : Nat) : (N.depthsTo i).length = N.w + (N.st.take i).length := by
  unfold NetN.depthsTo; rw [len_foldl_dstep]; simp
theorem NetN.depthsTo_zero (N : NetN) : N.depthsTo 0 = List.replicate N.w 0 := by simp [NetN.depthsTo]
theorem NetN.depthsTo_succ (N : NetN) {i : Nat} {p : Nat × Nat} (h : N.st[i]? = some p) : N.depthsTo (i+1) = dstep (N.depthsTo i) p := foldl_take _ _ _ _ _ h
theorem NetN.depthsTo_all (N : NetN) : N.depthsTo N.st.length = N.depths := by simp [NetN.depthsTo, NetN.depths]
inductive NetN.Under (N : NetN) (r : Nat) : Nat → Prop
  | self : NetN.Under N r r
  | l {k : Nat} {p : Nat × Nat} : NetN.Under N r (N.w + k) → N.st[k]? = some p → NetN.Under N r p.1
  | r {k : Nat} {p : Nat × Nat} : NetN.Under N r (N.w + k) → N.st[k]? = some p → NetN.Under N r p.2
def NetN.Used (N : NetN) (v : Nat) : Prop := ∃ o ∈ N.ou, N.Under o v
def markOuts (ou : List Nat) (m : List Bool) : List Bool := ou.foldl (fun m o => m.set o true) m
def NetN.bstep (N : NetN) (k : Nat) (m : List Bool) : List Bool :=
  if m.getD (N.w + k) false = true then (m.set (N.st.getD k (0,0)).1 true).set (N.st.getD k (0,0)).2 true else m
def NetN.back (N : NetN) : Nat → List Bool → List Bool
  | 0, m => m
  | k+1, m => N.back k (N.bstep k m)
def NetN.marks0 (N : NetN) : List Bool := markOuts N.ou (List.replicate (N.w + N.st.length) false)
def NetN.used (N : NetN) : List Bool := N.back N.st.length N.marks0
def NetN.backTo (N : NetN) : Nat → List Bool
  | 0 => N.marks0
  | i+1 => N.bstep (N.st.length - 1 - i) (N.backTo i)
theorem back_backTo (N : NetN) : ∀ (j i : Nat), i + j = N.st.length → N.back j (N.backTo i) = N.backTo (i + j)
  | 0, i, _ => rfl
  | j+1, i, h => by
    have e : N.st.length - 1 - i = j := by omega
    show N.back j (N.bstep j (N.backTo i)) = _
    have : N.bstep j (N.backTo i) = N.backTo (i+1) := by
      show _ = N.bstep (N.st.length - 1 - i) (N.backTo i)
      rw [e]
    rw [this, back_backTo N j (i+1) (by omega)]
    congr 1; omega
theorem NetN.used_backTo (N : NetN) : N.backTo N.st.length = N.used := by
  have := back_backTo N N.st.length 0 (by omega)
  rw [Nat.zero_add] at this
  exact this.symm
theorem markOuts_len : ∀ (ou : List Nat) (m : List Bool), (markOuts ou m).length = m.length
  | [], _ => rfl
  | o :: r, m => by
    show (markOuts r (m.set o true)).length = _
    rw [markOuts_len r]; simp
theorem NetN.bstep_len (N : NetN) (k : Nat) (m : List Bool) : (N.bstep k m).length = m.length := by unfold NetN.bstep; split <;> simp
theorem NetN.backTo_len (N : NetN) : ∀ i, (N.backTo i).length = N.w + N.st.length
  | 0 => by show (markOuts _ _).length = _; rw [markOuts_len]; simp
  | i+1 => by show (N.bstep _ _).length = _; rw [N.bstep_len, N.backTo_len i]
theorem getD_set_true (m : List Bool) (i j : Nat) (hi : i < m.length) : (m.set i true).getD j false = true ↔ j = i ∨ m.getD j false = true := by
  simp only [List.getD_eq_getElem?_getD, List.getElem?_set]
  by_cases e : i = j
  · subst e; simp [hi]
  · simp [e, Ne.symm e]
theorem markOuts_iff : ∀ (ou : List Nat) (m : List Bool), (∀ o ∈ ou, o < m.length) → ∀ j, (markOuts ou m).getD j false = true ↔ j ∈ ou ∨ m.getD j false = true
  | [], m, _, j => by simp [markOuts]
  | o :: r, m, h, j => by
    show (markOuts r (m.set o true)).getD j false = true ↔ _
    rw [markOuts_iff r _ (fun o' h' => by rw [List.length_set]; exact h o' (by simp [h'])) j, getD_set_true m o j (h o (by simp))]
    simp only [List.mem_cons]
    constructor
    · rintro (h1 | h1 | h1)
      · exact .inl (.inr h1)
      · exact .inl (.inl h1)
      · exact .inr h1
    · rintro ((h1 | h1) | h1)
      · exact .inr (.inl h1)
      · exact .inl h1
      · exact .inr (.inr h1)
structure BInv (N : NetN) (i : Nat) (m : List Bool) : Prop where
  len : m.length = N.w + N.st.length
  outs : ∀ o ∈ N.ou, m.getD o false = true
  sound : ∀ j, m.getD j false = true → N.Used j
  done : ∀ k p, N.st.length - i ≤ k → N.st[k]? = some p → m.getD (N.w + k) false = true → m.getD p.1 false = true ∧ m.getD p.2 false = true
theorem binv_zero {N : NetN} (o : N.Ok) : BInv N 0 N.marks0 := by
  have hb : ∀ x ∈ N.ou, x < (List.replicate (N.w + N.st.length) false).length := fun x hx => by simpa using o.ob x hx
  refine ⟨by show (markOuts _ _).length = _; rw [markOuts_len]; simp, fun x hx => ?_, fun j hj => ?_, fun k p hk hp => ?_⟩
  · exact (markOuts_iff _ _ hb x).mpr (.inl hx)
  · rcases (markOuts_iff _ _ hb j).mp hj with h | h
    · exact ⟨j, h, .self⟩
    · simp only [List.getD_eq_getElem?_getD, List.getElem?_replicate] at h
      split at h <;> cases h
  · have := (List.getElem?_eq_some_iff.mp hp).1; omega
theorem binv_succ {N : NetN} (o : N.Ok) {i : Nat} {m : List Bool} (hi : i < N.st.length) (b : BInv N i m) : BInv N (i+1) (N.bstep (N.st.length - 1 - i) m) := by
  have hk : N.st.length - 1 - i < N.st.length := by omega
  obtain ⟨p, hp⟩ : ∃ p, N.st[N.st.length - 1 - i]? = some p := ⟨_, List.getElem?_eq_getElem hk⟩
  have hD : N.st.getD (N.st.length - 1 - i) (0,0) = p := by rw [List.getD_eq_getElem?_getD, hp]; rfl
  obtain ⟨l1, l2⟩ := o.s1 _ p hp
  have m1 : p.1 < m.length := by rw [b.len]; omega
  have m2 : p.2 < m.length := by rw [b.len]; omega
  unfold NetN.bstep
  rw [hD]
  split
  · rename_i hm
    have it : ∀ j, ((m.set p.1 true).set p.2 true).getD j false = true ↔ j = p.2 ∨ j = p.1 ∨ m.getD j false = true := fun j => by
      rw [getD_set_true _ _ _ (by rw [List.length_set]; exact m2), getD_set_true _ _ _ m1]
    refine ⟨by simp [b.len], fun x hx => (it x).mpr (.inr (.inr (b.outs x hx))), fun j hj => ?_, fun k q hk' hq hmk => ?_⟩
    · obtain ⟨r, hr, hu⟩ := b.sound _ hm
      rcases (it j).mp hj with rfl | rfl | h
      · exact ⟨r, hr, .r hu hp⟩
      · exact ⟨r, hr, .l hu hp⟩
      · exact b.sound j h
    · have hmk' : m.getD (N.w + k) false = true := by
        rcases (it _).mp hmk with h | h | h
        · omega
        · omega
        · exact h
      by_cases e : k = N.st.length - 1 - i
      · subst e
        rw [hp] at hq; cases hq
        exact ⟨(it _).mpr (.inr (.inl rfl)), (it _).mpr (.inl rfl)⟩
      · obtain ⟨d1, d2⟩ := b.done k q (by omega) hq hmk'
        exact ⟨(it _).mpr (.inr (.inr d1)), (it _).mpr (.inr (.inr d2))⟩
  · rename_i hm
    refine ⟨b.len, b.outs, b.sound, fun k q hk' hq hmk => ?_⟩
    by_cases e : k = N.st.length - 1 - i
    · subst e; exact absurd hmk hm
    · exact b.done k q (by omega) hq hmk
theorem binv_to {N : NetN} (o : N.Ok) : ∀ i, i ≤ N.st.length → BInv N i (N.backTo i)
  | 0, _ => binv_zero o
  | i+1, h => binv_succ o (by omega) (binv_to o i (by omega))
theorem NetN.Ok.under_lt {N : NetN} (o : N.Ok) {r v : Nat} (h : N.Under r v) (hr : r < N.w + N.st.length) : v < N.w + N.st.length := by
  induction h with
  | self => exact hr
  | l _ hp _ => have := (o.s1 _ _ hp).1; have := (List.getElem?_eq_some_iff.mp hp).1; omega
  | r _ hp _ => have := (o.s1 _ _ hp).2; have := (List.getElem?_eq_some_iff.mp hp).1; omega
theorem used_of_under {N : NetN} {m : List Bool} (b : BInv N N.st.length m) {r : Nat} (hr : r ∈ N.ou) {j : Nat} (hu : N.Under r j) : m.getD j false = true := by
  induction hu with
  | self => exact b.outs r hr
  | l _ hp ih => exact (b.done _ _ (by omega) hp ih).1
  | r _ hp ih => exact (b.done _ _ (by omega) hp ih).2
theorem NetN.Ok.used_iff {N : NetN} (o : N.Ok) (j : Nat) : N.used.getD j false = true ↔ N.Used j := by
  have b := binv_to o N.st.length (Nat.le_refl _)
  rw [N.used_backTo] at b
  exact ⟨b.sound j, fun ⟨r, hr, hu⟩ => used_of_under b hr hu⟩
theorem NetN.used_len (N : NetN) : N.used.length = N.w + N.st.length := by rw [← N.used_backTo]; exact N.backTo_len _
def bump (c : List Int) (i : Nat) : List Int := c.set i (c.getD i 0 + 1)
def fstep (c : List Int) (p : Nat × Nat) : List Int := bump (bump c p.1) p.2
def NetN.fanS (N : NetN) (i : Nat) : List Int := (N.st.take i).foldl fstep (List.replicate (N.w + N.st.length) 0)
def NetN.fanO (N : NetN) (i : Nat) : List Int := (N.ou.take i).foldl bump (N.fanS N.st.length)
def NetN.fan (N : NetN) : List Int := N.fanO N.ou.length
theorem NetN.fanS_zero (N : NetN) : N.fanS 0 = List.replicate (N.w + N.st.length) 0 := by simp [NetN.fanS]
theorem NetN.fanS_succ (N : NetN) {i : Nat} {p : Nat × Nat} (h : N.st[i]? = some p) : N.fanS (i+1) = fstep (N.fanS i) p := foldl_take _ _ _ _ _ h
theorem NetN.fanO_zero (N : NetN) : N.fanO 0 = N.fanS N.st.length := by simp [NetN.fanO]
theorem NetN.fanO_succ (N : NetN) {i : Nat} {o : Nat} (h : N.ou[i]? = some o) : N.fanO (i+1) = bump (N.fanO i) o := foldl_take _ _ _ _ _ h
theorem bump_len (c : List Int) (i : Nat) : (bump c i).length = c.length := by simp [bump]
theorem fstep_len (c : List Int) (p : Nat × Nat) : (fstep c p).length = c.length := by simp [fstep, bump_len]
theorem foldl_len {α : Type} (f : List Int → α → List Int) (hf : ∀ c a, (f c a).length = c.length) : ∀ (l : List α) (c : List Int), (l.foldl f c).length = c.length
  | [], _ => rfl
  | a :: r, c => by rw [List.foldl_cons, foldl_len f hf r, hf]
theorem NetN.fanS_len (N : NetN) (i : Nat) : (N.fanS i).length = N.w + N.st.length := by unfold NetN.fanS; rw [foldl_len _ fstep_len]; simp
theorem NetN.fanO_len (N : NetN) (i : Nat) : (N.fanO i).length = N.w + N.st.length := by unfold NetN.fanO; rw [foldl_len _ bump_len, N.fanS_len]
theorem bump_getD (c : List Int) (i j : Nat) (hi : i < c.length) : (bump c i).getD j 0 = c.getD j 0 + (if i = j then 1 else 0) := by
  unfold bump
  simp only [List.getD_eq_getElem?_getD, List.getElem?_set]
  by_cases e : i = j
  · subst e; simp [hi]
  · simp [e]
def flat (st : List (Nat × Nat)) : List Nat := st.flatMap fun p => [p.1, p.2]
theorem foldl_bump : ∀ (l : List Nat) (c : List Int) (j : Nat), (∀ i ∈ l, i < c.length) → (l.foldl bump c).getD j 0 = c.getD j 0 + (l.count j : Int)
  | [], c, j, _ => by simp
  | i :: r, c, j, h => by
    rw [List.foldl_cons, foldl_bump r _ j (fun x hx => by rw [bump_len]; exact h x (by simp [hx])), bump_getD _ _ _ (h i (by simp)), List.count_cons]
    by_cases e : i = j
    · subst e; simp; omega
    · simp [e]
theorem foldl_fstep : ∀ (st : List (Nat × Nat)) (c : List Int), st.foldl fstep c = (flat st).foldl bump c
  | [], _ => rfl
  | p :: r, c => by
    rw [List.foldl_cons, foldl_fstep r]
    simp [flat, fstep]
theorem NetN.Ok.fan_getD {N : NetN} (o : N.Ok) (j : Nat) : N.fan.getD j 0 = ((N.ou ++ flat N.st).count j : Int) := by
  unfold NetN.fan NetN.fanO NetN.fanS
  rw [List.take_length, List.take_length, foldl_fstep]
  have hf : ∀ i ∈ flat N.st, i < (List.replicate (N.w + N.st.length) (0 : Int)).length := fun i hi => by
    unfold flat at hi
    obtain ⟨p, hp, hi⟩ := List.mem_flatMap.mp hi
    obtain ⟨k, hk⟩ := List.getElem?_of_mem hp
    have := (List.getElem?_eq_some_iff.mp hk).1
    obtain ⟨h1, h2⟩ := o.s1 k p hk
    simp at hi ⊢
    rcases hi with rfl | rfl <;> omega
  rw [foldl_bump _ _ _ (fun i hi => by rw [foldl_len _ bump_len]; simpa using o.ob i hi), foldl_bump _ _ _ hf, List.count_append]
  simp [List.getD_eq_getElem?_getD, List.getElem?_replicate]
  split <;> simp <;> omega
end NM
namespace NM
def missing (m : Nat) (xs : List Nat) : Nat := (List.range m).countP fun v => decide (v ∉ xs)
theorem countP_lt {α : Type} {p q : α → Bool} : ∀ {l : List α}, (∀ x ∈ l, q x = true → p x = true) → (∃ x ∈ l, p x = true ∧ q x = false) → l.countP q + 1 ≤ l.countP p
  | [], _, ⟨_, h, _⟩ => nomatch h
  | a :: r, h, ⟨x, hx, hp, hq⟩ => by
    rw [List.countP_cons, List.countP_cons]
    rcases List.mem_cons.mp hx with rfl | hx
    · have : r.countP q ≤ r.countP p := List.countP_mono_left fun y hy => h y (List.mem_cons_of_mem _ hy)
      simp [hp, hq]; omega
    · have ih := countP_lt (l := r) (fun y hy => h y (List.mem_cons_of_mem _ hy)) ⟨x, hx, hp, hq⟩
      by_cases ha : q a = true
      · have := h a List.mem_cons_self ha
        simp [ha, this]; omega
      · simp [ha]; omega
theorem missing_le {m : Nat} {xs ys : List Nat} (h : ∀ v ∈ xs, v ∈ ys) : missing m ys ≤ missing m xs := by
  unfold missing
  refine List.countP_mono_left fun v _ hv => ?_
  simp only [decide_eq_true_eq] at hv ⊢
  exact fun z => hv (h v z)
theorem missing_lt {m : Nat} {xs ys : List Nat} (h : ∀ v ∈ xs, v ∈ ys) {v : Nat} (hv : v < m) (h1 : v ∉ xs) (h2 : v ∈ ys) : missing m ys + 1 ≤ missing m xs := by
  unfold missing
  refine countP_lt (fun x _ hx => ?_) ⟨v, List.mem_range.mpr hv, by simpa using h1, by simpa using h2⟩
  simp only [decide_eq_true_eq] at hx ⊢
  exact fun z => hx (h x z)
theorem missing_one {m r : Nat} (hr : r < m) : missing m [r] + 1 ≤ m := by
  have h := missing_lt (m := m) (xs := []) (ys := [r]) (fun v z => nomatch z) hr (by simp) (by simp)
  have h2 : missing m [] = m := by unfold missing; simp
  omega
def NetN.grow (N : NetN) (xs : List Nat) (x : Nat) : List Nat :=
  if x < N.w then xs else xs ++ [(N.st.getD (x - N.w) (0, 0)).1, (N.st.getD (x - N.w) (0, 0)).2].filter fun v => decide (v ∉ xs)
structure UInv (N : NetN) (r : Nat) (xs : List Nat) (at' : Nat) : Prop where
  self : r ∈ xs
  sound : ∀ v ∈ xs, N.Under r v
  done : ∀ i k p, i < at' → xs[i]? = some (N.w + k) → N.st[k]? = some p → p.1 ∈ xs ∧ p.2 ∈ xs
  le : at' ≤ xs.length
  room : xs.length + 2 * missing (N.w + N.st.length) xs ≤ 2 * (N.w + N.st.length) + 1
theorem uinv_zero {N : NetN} {r : Nat} (hr : r < N.w + N.st.length) : UInv N r [r] 0 := by
  have := missing_one hr
  refine ⟨by simp, fun v hv => ?_, fun i k p h => absurd h (Nat.not_lt_zero _), Nat.zero_le _, ?_⟩
  · have : v = r := by simpa using hv
    subst this; exact .self
  · simp only [List.length_cons, List.length_nil]; omega
theorem grow_sub {N : NetN} {xs : List Nat} {x : Nat} : ∀ v ∈ xs, v ∈ N.grow xs x := fun v hv => by
  unfold NetN.grow; split
  · exact hv
  · exact List.mem_append_left _ hv
theorem uinv_step {N : NetN} (o : N.Ok) {r : Nat} (hr : r < N.w + N.st.length) {xs : List Nat} {a x : Nat} (u : UInv N r xs a) (hx : xs[a]? = some x) :
    UInv N r (N.grow xs x) (a + 1) ∧ 2 * missing (N.w + N.st.length) (N.grow xs x) + ((N.grow xs x).length - (a + 1)) < 2 * missing (N.w + N.st.length) xs + (xs.length - a) := by
  have hal : a < xs.length := (List.getElem?_eq_some_iff.mp hx).1
  have hxu : N.Under r x := u.sound x (List.mem_of_getElem? hx)
  have hxl : x < N.w + N.st.length := o.under_lt hxu hr
  by_cases hw : x < N.w
  · have e : N.grow xs x = xs := by unfold NetN.grow; rw [if_pos hw]
    rw [e]
    refine ⟨⟨u.self, u.sound, fun i k p hi hk hp => ?_, hal, u.room⟩, by omega⟩
    by_cases h : i = a
    · subst h
      rw [hx] at hk
      have : x = N.w + k := Option.some.inj hk
      omega
    · exact u.done i k p (by omega) hk hp
  · have hk : x - N.w < N.st.length := by omega
    obtain ⟨p, hp⟩ : ∃ p, N.st[x - N.w]? = some p := ⟨_, List.getElem?_eq_getElem hk⟩
    have hD : N.st.getD (x - N.w) (0, 0) = p := by rw [List.getD_eq_getElem?_getD, hp]; rfl
    have e : N.grow xs x = xs ++ [p.1, p.2].filter fun v => decide (v ∉ xs) := by unfold NetN.grow; rw [if_neg hw, hD]
    have hxe : x = N.w + (x - N.w) := by omega
    have u1 : N.Under r p.1 := .l (k := x - N.w) (by rw [← hxe]; exact hxu) hp
    have u2 : N.Under r p.2 := .r (k := x - N.w) (by rw [← hxe]; exact hxu) hp
    have l1 := o.under_lt u1 hr
    have l2 := o.under_lt u2 hr
    have in1 : p.1 ∈ N.grow xs x := by
      rw [e]
      by_cases h : p.1 ∈ xs
      · exact List.mem_append_left _ h
      · exact List.mem_append_right _ (List.mem_filter.mpr ⟨by simp, by simpa using h⟩)
    have in2 : p.2 ∈ N.grow xs x := by
      rw [e]
      by_cases h : p.2 ∈ xs
      · exact List.mem_append_left _ h
      · exact List.mem_append_right _ (List.mem_filter.mpr ⟨by simp, by simpa using h⟩)
    have hsub := grow_sub (N := N) (xs := xs) (x := x)
    have hle := missing_le (m := N.w + N.st.length) hsub
    have hlen : (N.grow xs x).length = xs.length + ([p.1, p.2].filter fun v => decide (v ∉ xs)).length := by rw [e, List.length_append]
    have key : ([p.1, p.2].filter fun v => decide (v ∉ xs)).length + 2 * missing (N.w + N.st.length) (N.grow xs x) ≤ 2 * missing (N.w + N.st.length) xs := by
      by_cases h1 : p.1 ∈ xs
      · by_cases h2 : p.2 ∈ xs
        · simp [h1, h2]; omega
        · have := missing_lt hsub l2 h2 in2
          simp [h1, h2]; omega
      · have := missing_lt hsub l1 h1 in1
        by_cases h2 : p.2 ∈ xs
        · simp [h1, h2]; omega
        · simp [h1, h2]; omega
    have hr2 := u.room
    refine ⟨⟨hsub _ u.self, fun v hv => ?_, fun i k q hi hk' hq => ?_, by rw [hlen]; omega, by omega⟩, by omega⟩
    · rw [e] at hv
      rcases List.mem_append.mp hv with h | h
      · exact u.sound v h
      · have := (List.mem_filter.mp h).1
        simp at this
        rcases this with rfl | rfl
        · exact u1
        · exact u2
    · by_cases h : i = a
      · subst h
        rw [e, List.getElem?_append_left hal, hx] at hk'
        have e2 : x = N.w + k := Option.some.inj hk'
        have e3 : x - N.w = k := by omega
        rw [e3] at hp
        rw [hp] at hq; cases hq
        exact ⟨in1, in2⟩
      · have hil : i < xs.length := by omega
        rw [e, List.getElem?_append_left hil] at hk'
        obtain ⟨d1, d2⟩ := u.done i k q (by omega) hk' hq
        exact ⟨hsub _ d1, hsub _ d2⟩
theorem uinv_end {N : NetN} {r : Nat} {xs : List Nat} (u : UInv N r xs xs.length) (v : Nat) : v ∈ xs ↔ N.Under r v := by
  refine ⟨u.sound v, fun h => ?_⟩
  induction h with
  | self => exact u.self
  | l _ hp ih =>
    obtain ⟨i, hi⟩ := List.getElem?_of_mem ih
    exact (u.done i _ _ (List.getElem?_eq_some_iff.mp hi).1 hi hp).1
  | r _ hp ih =>
    obtain ⟨i, hi⟩ := List.getElem?_of_mem ih
    exact (u.done i _ _ (List.getElem?_eq_some_iff.mp hi).1 hi hp).2
end NM

namespace L2
open PySem NM
theorem iteNT {c A B : Prop} [Decidable c] (hc : ¬ c) (h : A) : if (!decide c) = true then A else B := by
  rw [decide_eq_false hc]
  exact iteT h
theorem Same.upd {H H' : Hp} {l : Addr} {o : HO} (s : Same H H') (n : H l = Option.none) : Same H (upd H' l o) := fun b u e => by
  rw [upd_ne (ne_of_none e n)]
  exact s b u e
theorem Same.new {H : Hp} {l : Addr} {o : HO} (n : H l = Option.none) : Same H (L2.upd H l o) := (Same.refl H).upd n
inductive StepsAt (H : Hp) : List V → List (List Int) → Prop
  | nil : StepsAt H [] []
  | cons {r : Addr} {l : List Int} {rs : List V} {ls : List (List Int)} : H r = some (.tup (l.map V.int)) → StepsAt H rs ls → StepsAt H (.ref r :: rs) (l :: ls)
theorem StepsAt.mono {H H' : Hp} (s : Same H H') : ∀ {rs : List V} {ls : List (List Int)}, StepsAt H rs ls → StepsAt H' rs ls
  | _, _, .nil => .nil
  | _, _, .cons h t => .cons (s _ _ h) (t.mono s)
theorem StepsAt.length {H : Hp} : ∀ {rs : List V} {ls : List (List Int)}, StepsAt H rs ls → rs.length = ls.length
  | _, _, .nil => rfl
  | _, _, .cons _ t => by simp [t.length]
theorem StepsAt.get {H : Hp} : ∀ {rs : List V} {ls : List (List Int)}, StepsAt H rs ls → ∀ {i : Nat} {v : V}, rs[i]? = some v → ∃ r l, v = .ref r ∧ ls[i]? = some l ∧ H r = some (.tup (l.map V.int))
  | _, _, .nil, i, v, e => by simp at e
  | _, _, .cons (r := r) (l := l) h t, 0, v, e => by simp at e; exact ⟨r, l, e.symm, rfl, h⟩
  | _, _, .cons h t, i + 1, v, e => by simpa using t.get (i := i) (v := v) (by simpa using e)
theorem StepsAt.get' {H : Hp} {rs : List V} {ls : List (List Int)} (s : StepsAt H rs ls) {i : Nat} {l : List Int} (e : ls[i]? = some l) : ∃ r, rs[i]? = some (.ref r) ∧ H r = some (.tup (l.map V.int)) := by
  have hl : i < rs.length := by rw [s.length]; exact (List.getElem?_eq_some_iff.mp e).1
  obtain ⟨r, l', e1, e2, h⟩ := s.get (List.getElem?_eq_getElem hl)
  rw [e] at e2; cases e2
  exact ⟨r, by rw [List.getElem?_eq_getElem hl, e1], h⟩
theorem StepsAt.snoc {H : Hp} {r : Addr} {l : List Int} : ∀ {rs : List V} {ls : List (List Int)}, StepsAt H rs ls → H r = some (.tup (l.map V.int)) → StepsAt H (rs ++ [.ref r]) (ls ++ [l])
  | _, _, .nil, h => .cons h .nil
  | _, _, .cons h t, h' => .cons h (t.snoc h')
theorem StepsAt.append {H : Hp} : ∀ {rs qs : List V} {ls ms : List (List Int)}, StepsAt H rs ls → StepsAt H qs ms → StepsAt H (rs ++ qs) (ls ++ ms)
  | _, _, _, _, .nil, h => h
  | _, _, _, _, .cons h t, h' => .cons h (t.append h')
theorem StepsAt.take {H : Hp} : ∀ {rs : List V} {ls : List (List Int)} (n : Nat), StepsAt H rs ls → StepsAt H (rs.take n) (ls.take n)
  | _, _, 0, _ => .nil
  | _, _, _ + 1, .nil => .nil
  | _, _, n + 1, .cons h t => .cons h (t.take n)
theorem StepsAt.drop {H : Hp} : ∀ {rs : List V} {ls : List (List Int)} (n : Nat), StepsAt H rs ls → StepsAt H (rs.drop n) (ls.drop n)
  | _, _, 0, h => h
  | _, _, _ + 1, .nil => .nil
  | _, _, n + 1, .cons _ t => t.drop n
structure NetAt (H : Hp) (a : Addr) (wide : Int) (steps : List (List Int)) (outs : List Int) (sa oa : Addr) (rs : List V) : Prop where
  net : H a = some (.tup [.int wide, .ref sa, .ref oa])
  sts : H sa = some (.lst rs)
  st : StepsAt H rs steps
  ots : H oa = some (.lst (outs.map V.int))
theorem NetAt.mono {H H' : Hp} {a sa oa : Addr} {wide : Int} {steps : List (List Int)} {outs : List Int} {rs : List V} (n : NetAt H a wide steps outs sa oa rs) (s : Same H H') : NetAt H' a wide steps outs sa oa rs :=
  ⟨s _ _ n.net, s _ _ n.sts, n.st.mono s, s _ _ n.ots⟩
def spWhole : Sp := fun vs H Q _ => ∃ i : Int, vs = [.int i] ∧ Q (.bl true) H
def spWithin : Sp := fun vs H Q _ => ∃ v lo hi : Int, vs = [.int v, .int lo, .int hi] ∧ Q (.bl (decide (lo ≤ v) && decide (v ≤ hi))) H
def nodeB (v ahead : Int) : Bool := decide (0 ≤ v) && decide (v < ahead)
def spNode : Sp := fun vs H Q _ => ∃ v ahead : Int, vs = [.int v, .int ahead] ∧ Q (.bl (nodeB v ahead)) H
def spStep : Sp := fun vs H Q _ => ∃ (r : Addr) (l : List Int) (ahead : Int), vs = [.ref r, .int ahead] ∧ H r = some (.tup (l.map V.int)) ∧ Q (.bl (stepOk ahead l)) H
def spWide (CB : Addr) : Sp := fun vs H Q E => ∃ i : Int, vs = [.int i] ∧ ((1 ≤ i ∧ i ≤ 64) → Q .non H) ∧ (¬ (1 ≤ i ∧ i ≤ 64) → E (.ref CB) none H)
def spSteps (CB : Addr) : Sp := fun vs H Q E => ∃ (i : Int) (sa : Addr) (rs : List V) (ls : List (List Int)), vs = [.int i, .ref sa] ∧ H sa = some (.lst rs) ∧ StepsAt H rs ls ∧
  ∀ H', Same H H' → ((ls.length ≤ 500 ∧ stepsOk i ls) → Q .non H') ∧ (¬ (ls.length ≤ 500 ∧ stepsOk i ls) → E (.ref CB) none H')
def spOuts (CB : Addr) : Sp := fun vs H Q E => ∃ (i : Int) (sa oa : Addr) (rs : List V) (outs : List Int), vs = [.int i, .ref sa, .ref oa] ∧ outs.length ≤ 10000 ∧ H sa = some (.lst rs) ∧ H oa = some (.lst (outs.map V.int)) ∧
  ∀ H', Same H H' → (((outs.length : Int) = i ∧ outsOk (i + rs.length) outs) → Q .non H') ∧ (¬ ((outs.length : Int) = i ∧ outsOk (i + rs.length) outs) → E (.ref CB) none H')
def spLook (CB : Addr) : Sp := fun vs H Q E => ∃ (a sa oa : Addr) (rs : List V) (wide : Int) (steps : List (List Int)) (outs : List Int), vs = [.ref a] ∧ outs.length ≤ 10000 ∧ NetAt H a wide steps outs sa oa rs ∧
  ∀ H', Same H H' → (Good wide steps outs → Q .non H') ∧ (¬ Good wide steps outs → E (.ref CB) none H')
def spNetFn (CB : Addr) (R : NetN → Hp → VK → Prop) : Sp := fun vs H Q E => ∃ (a sa oa : Addr) (rs : List V) (wide : Int) (steps : List (List Int)) (outs : List Int), vs = [.ref a] ∧ outs.length ≤ 10000 ∧ NetAt H a wide steps outs sa oa rs ∧
  ∀ H', Same H H' → (∀ N : NetN, N.Ok → wide = N.w → steps = N.steps → outs = N.outs → R N H' Q) ∧ (¬ Good wide steps outs → E (.ref CB) none H')
def tellInts (f : NetN → List Int) : NetN → Hp → VK → Prop := fun N H Q => ∀ l, H l = some (.lst ((f N).map V.int)) → Q (.ref l) H
def tellBls (f : NetN → List Bool) : NetN → Hp → VK → Prop := fun N H Q => ∀ l, H l = some (.lst ((f N).map V.bl)) → Q (.ref l) H
def outDepths (N : NetN) : List Int := N.ou.map fun o => N.depths.getD o 0
def tellBest (f : NetN → List Int) : NetN → Hp → VK → Prop := fun N H Q => ∀ M, M ∈ f N → (∀ a ∈ f N, a ≤ M) → Q (.int M) H
def spNetOk (R : NetN → Hp → VK → Prop) : Sp := fun vs H Q _ => ∃ (a sa oa : Addr) (rs : List V) (N : NetN), vs = [.ref a] ∧ NetAt H a N.w N.steps N.outs sa oa rs ∧ N.Ok ∧ ∀ H', Same H H' → R N H' Q
end L2
namespace L2
open PySem NM PyProof.Rows
theorem fA (p : Str) (hp : p.length ≤ 1000) : (Str.empty ++ p).length ≤ sizeLine := by
  rw [strLen_append, sizeLine_eq]; show 0 + p.length ≤ _; omega
theorem fI {i : Int} (h : i.natAbs.log2 < 1920) : (Str.ofString (toString i)).length ≤ 1921 := by
  have e := int_text_length_le (k := 1920) (by decide) h
  rw [PySem.ofString_length]; omega
theorem fB (p : Str) (hp : p.length ≤ 1000) {i : Int} (h : i.natAbs.log2 < 1920) : (Str.empty ++ p ++ Str.ofString (toString i)).length ≤ sizeLine := by
  have := fI h
  rw [strLen_append, strLen_append, sizeLine_eq]; show 0 + p.length + _ ≤ _; omega
theorem fC (p q : Str) (hp : p.length ≤ 1000) (hq : q.length ≤ 1000) {i : Int} (h : i.natAbs.log2 < 1920) : (Str.empty ++ p ++ Str.ofString (toString i) ++ q).length ≤ sizeLine := by
  have := fI h
  rw [strLen_append, strLen_append, strLen_append, sizeLine_eq]; show 0 + p.length + _ + _ ≤ _; omega
theorem log2_small {i : Nat} (h : i ≤ 16777216) : ((i : Int).natAbs).log2 < 1920 := by
  rw [Int.natAbs_natCast]
  have h1 : i.log2 ≤ i := Nat.log2_le_self i
  by_cases hi : i = 0
  · subst hi; decide
  · exact Nat.lt_of_lt_of_le (Nat.log2_lt hi |>.mpr (Nat.lt_of_le_of_lt h (by decide : 16777216 < 2 ^ 25))) (by decide)
theorem iteB {b : Bool} {A B : Prop} (h1 : b = true → A) (h2 : b = false → B) : if b = true then A else B := by
  cases b with
  | true => exact iteT (h1 rfl)
  | false => exact iteF (h2 rfl)
theorem iteN {b : Bool} {A B : Prop} (h1 : b = false → A) (h2 : b = true → B) : if (!b) = true then A else B := by
  cases b with
  | true => exact iteF (h2 rfl)
  | false => exact iteT (h1 rfl)
end L2
namespace L2
open PySem NM PyProof.Rows
theorem atI_ints {xs : List Int} {j : Nat} (h : j < xs.length) : atI (xs.map V.int) (j : Int) = some (.int (xs.getD j 0)) :=
  atI_nat (by rw [List.getElem?_map, List.getElem?_eq_getElem h, List.getD_eq_getElem?_getD, List.getElem?_eq_getElem h]; rfl)
theorem atI_bls {xs : List Bool} {j : Nat} (h : j < xs.length) : atI (xs.map V.bl) (j : Int) = some (.bl (xs.getD j false)) :=
  atI_nat (by rw [List.getElem?_map, List.getElem?_eq_getElem h, List.getD_eq_getElem?_getD, List.getElem?_eq_getElem h]; rfl)
theorem ixN_nat {n j : Nat} (h : j < n) : ixN n (j : Int) = some j := by
  unfold ixN
  rw [if_pos (by omega), if_pos (by omega)]
  simp
theorem rep_one {α : Type} (x : α) : ∀ n : Nat, (List.replicate n [x]).flatten = List.replicate n x
  | 0 => rfl
  | n + 1 => by rw [List.replicate_succ, List.flatten_cons, rep_one x n]; rfl
theorem rep_int (n : Nat) : (List.replicate n [V.int 0]).flatten = (List.replicate n (0 : Int)).map V.int := by rw [rep_one, List.map_replicate]
theorem rep_bl (n : Nat) : (List.replicate n [V.bl false]).flatten = (List.replicate n false).map V.bl := by rw [rep_one, List.map_replicate]
theorem fits {n : Nat} (h : n ≤ 10000) : n ≤ sizeLine := by rw [sizeLine_eq]; omega
theorem fitsL {n : Nat} (h : n ≤ 10000) : n < sizeLine := by rw [sizeLine_eq]; omega
theorem NetN.Ok.steps_get {N : NetN} {H : Hp} {rs : List V} (st : StepsAt H rs N.steps) {i : Nat} {x : V} (hx : rs[i]? = some x) : ∃ r p, x = .ref r ∧ N.st[i]? = some p ∧ H r = some (.tup [.int p.1, .int p.2]) := by
  obtain ⟨r, l, e, hl, hr⟩ := st.get hx
  unfold NetN.steps at hl
  rw [List.getElem?_map] at hl
  obtain ⟨p, hp, rfl⟩ := Option.map_eq_some_iff.mp hl
  exact ⟨r, p, e, hp, hr⟩
theorem steps_len {N : NetN} : N.steps.length = N.st.length := by unfold NetN.steps; simp
theorem outs_len {N : NetN} : N.outs.length = N.ou.length := by unfold NetN.outs; simp
theorem outs_get {N : NetN} {i : Nat} {x : V} (hx : (N.outs.map V.int)[i]? = some x) : ∃ o, N.ou[i]? = some o ∧ x = .int (o : Nat) := by
  unfold NetN.outs at hx
  rw [List.map_map, List.getElem?_map] at hx
  obtain ⟨o, ho, rfl⟩ := Option.map_eq_some_iff.mp hx
  exact ⟨o, ho, rfl⟩
end L2
namespace L2
theorem ints_get {xs : List Int} {j : Nat} (h : j < xs.length) : (xs.map V.int)[((j : Nat) : Int).toNat]? = some (.int (xs.getD j 0)) := by
  rw [Int.toNat_natCast, List.getElem?_map, List.getElem?_eq_getElem h, List.getD_eq_getElem?_getD, List.getElem?_eq_getElem h]; rfl
end L2
namespace L2
open PySem PyProof.Rows
theorem comp_list {K : PySem.W.Frag} {a : Addr} {xs : List V} {js : List Nat} {te : TE} {σ : St} {H : Hp} {Fin : List V → Hp → Prop} (Pv : Nat → List V → Hp → Prop) (h0 : Pv 0 [] H) (hl : ∀ i ys H, i ≤ xs.length → Pv i ys H → SqL K H a xs) (hz : ∀ i ys H, i < xs.length → Pv i ys H → ys.length < sizeLine)
    (hs : ∀ i x ys H (T : V → Hp → Prop), xs[i]? = some x → Pv i ys H → (∀ y H2, Pv (i + 1) (ys ++ [y]) H2 → T y H2) → te (compSt (some x) σ js) H T) (hd : ∀ ys H, Pv xs.length ys H → Fin ys H) : compGo (Itl K a) js none te σ H Fin := by
  refine ⟨fun i m ys H => m = xs.length - i ∧ i ≤ xs.length ∧ Pv i ys H, ⟨xs.length, by simp, Nat.zero_le _, h0⟩, ?_⟩
  rintro i m ys H ⟨rfl, hi, p⟩
  have q := hl i ys H hi p
  by_cases hlt : i < xs.length
  · refine .inr ⟨⟨xs, xs[i], q, by simp [hlt]⟩, hz i ys H hlt p, fun x H' y => ?_⟩
    obtain ⟨e, y⟩ := y
    subst e
    unfold tests
    simp only [if_true]
    exact hs i x ys _ _ (y xs q) p fun y H2 p2 => ⟨xs.length - (i + 1), by omega, rfl, hlt, p2⟩
  · have e : i = xs.length := by omega
    subst e
    exact .inl ⟨⟨xs, q, Nat.le_refl _⟩, hd ys H p⟩
theorem comp_tupIf {K : PySem.W.Frag} {a : Addr} {xs : List V} {js : List Nat} {tt : TT} {te : TE} {σ : St} {H : Hp} {Fin : List V → Hp → Prop} (Pv : Nat → List V → Hp → Prop) (h0 : Pv 0 [] H) (hl : ∀ i ys H, i ≤ xs.length → Pv i ys H → SqT K H a xs) (hz : ∀ i ys H, i < xs.length → Pv i ys H → ys.length < sizeLine)
    (hs : ∀ i x ys H (T : V → Hp → Prop) (T0 : Hp → Prop), xs[i]? = some x → Pv i ys H → (∀ y H2, Pv (i + 1) (ys ++ [y]) H2 → T y H2) → (∀ H2, Pv (i + 1) ys H2 → T0 H2) → tt (compSt (some x) σ js) H fun b H2 => if b = true then te (compSt (some x) σ js) H2 T else T0 H2) (hd : ∀ ys H, Pv xs.length ys H → Fin ys H) : compGo (Itt K a) js (some tt) te σ H Fin := by
  refine ⟨fun i m ys H => m = xs.length - i ∧ i ≤ xs.length ∧ Pv i ys H, ⟨xs.length, by simp, Nat.zero_le _, h0⟩, ?_⟩
  rintro i m ys H ⟨rfl, hi, p⟩
  have q := hl i ys H hi p
  by_cases hlt : i < xs.length
  · refine .inr ⟨⟨xs, xs[i], q, by simp [hlt]⟩, hz i ys H hlt p, fun x H' y => ?_⟩
    obtain ⟨e, y⟩ := y
    subst e
    exact hs i x ys _ _ _ (y xs q) p (fun y H2 p2 => ⟨xs.length - (i + 1), by omega, rfl, hlt, p2⟩) fun H2 p2 => ⟨xs.length - (i + 1), by omega, rfl, hlt, p2⟩
  · have e : i = xs.length := by omega
    subst e
    exact .inl ⟨⟨xs, q, Nat.le_refl _⟩, hd ys H p⟩
theorem comp_range {lo : Int} {n : Nat} {js : List Nat} {te : TE} {σ : St} {H : Hp} {Fin : List V → Hp → Prop} (Pv : Nat → List V → Hp → Prop) (h0 : Pv 0 [] H) (hz : ∀ i ys H, i < n → Pv i ys H → ys.length < sizeLine)
    (hs : ∀ i ys H (T : V → Hp → Prop), i < n → Pv i ys H → (∀ y H2, Pv (i + 1) (ys ++ [y]) H2 → T y H2) → te (compSt (some (.int (lo + i))) σ js) H T) (hd : ∀ ys H, Pv n ys H → Fin ys H) : compGo (Itr lo n) js none te σ H Fin := by
  refine ⟨fun i m ys H => m = n - i ∧ i ≤ n ∧ Pv i ys H, ⟨n, by simp, Nat.zero_le _, h0⟩, ?_⟩
  rintro i m ys H ⟨rfl, hi, p⟩
  by_cases hlt : i < n
  · refine .inr ⟨hlt, hz i ys H hlt p, fun x H' y => ?_⟩
    obtain ⟨e, y⟩ := y
    subst e y
    unfold tests
    simp only [if_true]
    exact hs i ys _ _ hlt p fun y H2 p2 => ⟨n - (i + 1), by omega, rfl, hlt, p2⟩
  · have e : i = n := by omega
    subst e
    exact .inl ⟨Nat.le_refl _, hd ys H p⟩
end L2

namespace L2
open PySem PyProof.Rows
def rLenS (K : PySem.W.Frag) : List V → Hp → VK → Prop := fun xs H Q => ∃ p ys, xs = [.ref p] ∧ (SqL K H p ys ∨ SqT K H p ys) ∧ Q (.int (ys.length : Nat)) H
theorem call_lenS {X : Cx} : CallR X (.builtin "len") (rLenS X.K) := call_len_seq
def rIsi (K : PySem.W.Frag) : List V → Hp → VK → Prop := fun xs H Q => ∃ x y c t b, xs = [x, y] ∧ clsV y = some c ∧ TyOf K H x t ∧ PySem.W.kitOne K t c = some b ∧ Q (.bl b) H
theorem call_isiK {X : Cx} : CallR X (.builtin "isinstance") (rIsi X.K) := call_isi
def nodupS : List Str → Bool
  | [] => true
  | a :: r => !(r.contains a) && nodupS r
theorem nodupS_of : ∀ {l : List Str}, nodupS l = true → l.Nodup
  | [], _ => List.nodup_nil
  | a :: r, h => by
    unfold nodupS at h
    rw [Bool.and_eq_true] at h
    refine List.nodup_cons.mpr ⟨fun z => ?_, nodupS_of h.2⟩
    have : r.contains a = true := List.contains_iff_mem.mpr z
    rw [this] at h
    exact absurd h.1 (by decide)
end L2
namespace L2
open PySem NM PyProof.Rows
def spCell (K : PySem.W.Frag) : Sp := fun vs H Q _ => ∃ (a : Addr) (ns : List Int) (k : Int), vs = [.ref a, .int k] ∧ SqL K H a (ns.map V.int) ∧ ∀ i : Int, Q (.int i) H
def spMix (K : PySem.W.Frag) : Sp := fun vs H Q _ => ∃ (a : Addr) (ns : List Int) (k : Int), vs = [.ref a, .int k] ∧ SqL K H a (ns.map V.int) ∧ ∀ i : Int, 0 ≤ i → Q (.int i) H
def spDrawn (K : PySem.W.Frag) : Sp := fun vs H Q _ => ∃ (a : Addr) (ns : List Int) (k most : Int), vs = [.ref a, .int k, .int most] ∧ 1 ≤ most ∧ most ≤ 64 ∧ SqL K H a (ns.map V.int) ∧
  ∀ (H' : Hp) (n sa oa : Addr) (rs : List V) (wide : Int) (steps : List (List Int)) (outs : List Int), Same H H' → NetAt H' n wide steps outs sa oa rs → 1 ≤ wide → wide ≤ most → steps.length ≤ 8 → (∀ l ∈ steps, l.length = 2) → (outs.length : Int) = wide → Q (.ref n) H'
theorem mod_at {ns : List Int} {k : Int} (h : ns ≠ []) : ∃ z, atI (ns.map V.int) (k % (((ns.map V.int).length : Nat) : Int)) = some (.int z) := by
  have hp := pos_of_ne h
  rw [List.length_map]
  have h0 := Int.emod_nonneg k (show ((ns.length : Nat) : Int) ≠ 0 by omega)
  have h1 := Int.emod_lt_of_pos k (show 0 < ((ns.length : Nat) : Int) by omega)
  have e : k % ((ns.length : Nat) : Int) = (((k % ((ns.length : Nat) : Int)).toNat : Nat) : Int) := by omega
  rw [e]
  exact ⟨_, atI_ints (by omega)⟩
theorem at4 {a b c d i : Int} (h0 : 0 ≤ i) (h1 : i < 4) : ∃ z, atI [V.int a, V.int b, V.int c, V.int d] i = some (.int z) := by
  have : i = 0 ∨ i = 1 ∨ i = 2 ∨ i = 3 := by omega
  rcases this with rfl | rfl | rfl | rfl <;> exact ⟨_, rfl⟩
end L2

namespace L2
theorem StepsAt.keep {H H' : Hp} : ∀ {rs : List V} {ls : List (List Int)}, StepsAt H rs ls → (∀ r u, H r = some (.tup u) → H' r = some (.tup u)) → StepsAt H' rs ls
  | _, _, .nil, _ => .nil
  | _, _, .cons h t, k => .cons (k _ _ h) (t.keep k)
end L2
namespace L2
open PySem NM PyProof.Rows
def spDeep : Sp := fun vs H Q _ => ∃ (a sa oa : Addr) (rs : List V) (N : NetN) (v : Nat), vs = [.ref a, .int (v : Nat)] ∧ NetAt H a N.w N.steps N.outs sa oa rs ∧ N.Ok ∧ v < N.w + N.st.length ∧ ∀ H', Same H H' → Q (.int (N.depths.getD v 0)) H'
def spUnder : Sp := fun vs H Q _ => ∃ (a sa oa : Addr) (rs : List V) (N : NetN) (v : Nat), vs = [.ref a, .int (v : Nat)] ∧ NetAt H a N.w N.steps N.outs sa oa rs ∧ N.Ok ∧ v < N.w + N.st.length ∧
  ∀ (H' : Hp) (l : Addr) (xs : List Nat), Same H H' → H' l = some (.lst (xs.map fun u => V.int (u : Nat))) → (∀ u, u ∈ xs ↔ N.Under v u) → xs.length ≤ 2 * (N.w + N.st.length) + 1 → Q (.ref l) H'
def spGood : Sp := fun vs H Q _ => ∃ (a sa oa : Addr) (rs : List V) (wide : Int) (steps : List (List Int)) (outs : List Int), vs = [.ref a] ∧ NetAt H a wide steps outs sa oa rs ∧ steps.length ≤ 10000 ∧ outs.length ≤ 10000 ∧ Q (.bl (decide (Good wide steps outs))) H
theorem atI_nats {xs : List Nat} {j : Nat} {x : Nat} (h : xs[j]? = some x) : atI (xs.map fun u => V.int (u : Nat)) (j : Int) = some (.int (x : Nat)) :=
  atI_nat (by rw [List.getElem?_map, h]; rfl)
theorem inV_nats {x : Nat} : ∀ {xs : List Nat}, inV (.int (x : Nat)) (xs.map fun u => V.int (u : Nat)) = decide (x ∈ xs)
  | [] => rfl
  | y :: r => by
    have ih := inV_nats (x := x) (xs := r)
    unfold inV at ih ⊢
    rw [List.map_cons, List.any_cons, ih]
    show ((y : Int) == (x : Int) || decide (x ∈ r)) = _
    by_cases e : x = y
    · subst e; simp
    · have : ¬ ((y : Int) = (x : Int)) := by omega
      simp [e, this]
theorem flat_nats (xs : List Nat) : (xs.map fun u => V.int (u : Nat)).all flatV = true := by
  rw [List.all_map]; exact List.all_eq_true.mpr fun _ _ => rfl
end L2
namespace L2
open PySem NM PyProof.Rows
theorem boot_ValueError : bootBuiltins "ValueError" = some (.type "ValueError") := by decide +kernel
theorem iteDF {c A B : Prop} [Decidable c] (hc : ¬ c) (h : B) : if decide c = true then A else B := by
  rw [decide_eq_false hc]; exact iteF h
theorem iteDT {c A B : Prop} [Decidable c] (hc : c) (h : A) : if decide c = true then A else B := by
  rw [decide_eq_true hc]; exact iteT h
def spRefusal (CB : Addr) : Sp := fun vs H Q _ => ∃ e : Addr, vs = [.ref e] ∧ H e = some (excO e CB) ∧ ∀ H', Same H H' → Q (.str "net") H'
structure Told (way : Int) (N : NetN) (H : Hp) (Q : VK) : Prop where
  t0 : way = 0 → Q .non H
  t1 : way = 1 → tellInts NetN.depths N H Q
  t2 : way = 2 → tellBest outDepths N H Q
  t3 : way = 3 → tellBls NetN.used N H Q
  t4 : way = 4 → tellInts NetN.fan N H Q
def spTold : Sp := fun vs H Q _ => ∃ (way : Int) (a sa oa : Addr) (rs : List V) (wide : Int) (steps : List (List Int)) (outs : List Int), vs = [.int way, .ref a] ∧ 0 ≤ way ∧ way ≤ 4 ∧ outs.length ≤ 10000 ∧ NetAt H a wide steps outs sa oa rs ∧
  ∀ H', Same H H' → (¬ Good wide steps outs → Q (.str "net") H') ∧ (∀ N : NetN, N.Ok → wide = N.w → steps = N.steps → outs = N.outs → Told way N H' Q)
end L2
namespace L2
open PySem NM PyProof.Rows
theorem new_at {H : Hp} {t x : Addr} {o u : HO} (hn : H t = Option.none) (h : H x = some u) : L2.upd H t o x = some u := (Same.new hn) _ _ h
theorem same_new {H G : Hp} {t : Addr} {o : HO} (s : Same H G) (hn : G t = Option.none) : Same H (L2.upd G t o) := s.trans (Same.new hn)
def cutL {α : Type} (xs : List α) (lo hi : Option Int) : List α := (xs.drop (HT.sIx xs.length 0 lo)).take (HT.sIx xs.length xs.length hi - HT.sIx xs.length 0 lo)
theorem cut_map {xs : List Int} {lo hi : Option Int} : cutV (xs.map V.int) lo hi = (cutL xs lo hi).map V.int := by
  unfold cutV cutL
  rw [List.length_map, ← List.map_drop, ← List.map_take]
theorem cut_len {α : Type} {xs : List α} {lo hi : Option Int} : (cutL xs lo hi).length ≤ xs.length := by
  unfold cutL
  rw [List.length_take, List.length_drop]
  omega
theorem StepsAt.cut {H : Hp} {rs : List V} {ls : List (List Int)} (s : StepsAt H rs ls) (lo hi : Option Int) : StepsAt H (cutV rs lo hi) (cutL ls lo hi) := by
  unfold cutV cutL
  rw [s.length]
  exact (s.drop _).take _
def spSpoilt : Sp := fun vs H Q _ => ∃ (n sa oa : Addr) (rs : List V) (num wide : Int) (steps : List (List Int)) (outs : List Int), vs = [.ref n, .int num] ∧ 0 ≤ num ∧ NetAt H n wide steps outs sa oa rs ∧ 1 ≤ wide ∧ wide ≤ 64 ∧ steps.length ≤ 8 ∧ (outs.length : Int) = wide ∧
  ∀ (H' : Hp) (n' sa' oa' : Addr) (rs' : List V) (wide' : Int) (steps' : List (List Int)) (outs' : List Int), Same H H' → NetAt H' n' wide' steps' outs' sa' oa' rs' → steps'.length ≤ 10000 → outs'.length ≤ 10000 → Q (.ref n') H'
theorem pick4 {α : Type} {a b c d : α} {i : Int} (h0 : 0 ≤ i) (h1 : i < 4) {R : α → Prop} (ha : R a) (hb : R b) (hc : R c) (hd : R d) : ∃ z, atI [a, b, c, d] i = some z ∧ R z := by
  have : i = 0 ∨ i = 1 ∨ i = 2 ∨ i = 3 := by omega
  rcases this with rfl | rfl | rfl | rfl
  · exact ⟨a, rfl, ha⟩
  · exact ⟨b, rfl, hb⟩
  · exact ⟨c, rfl, hc⟩
  · exact ⟨d, rfl, hd⟩
theorem pick3 {α : Type} {a b c : α} {i : Int} (h0 : 0 ≤ i) (h1 : i < 3) {R : α → Prop} (ha : R a) (hb : R b) (hc : R c) : ∃ z, atI [a, b, c] i = some z ∧ R z := by
  have : i = 0 ∨ i = 1 ∨ i = 2 := by omega
  rcases this with rfl | rfl | rfl
  · exact ⟨a, rfl, ha⟩
  · exact ⟨b, rfl, hb⟩
  · exact ⟨c, rfl, hc⟩
theorem steps_rep {H : Hp} {r : Addr} {l : List Int} (h : H r = some (.tup (l.map V.int))) : ∀ n : Nat, StepsAt H (List.replicate n (V.ref r)) (List.replicate n l)
  | 0 => .nil
  | n + 1 => by rw [List.replicate_succ, List.replicate_succ]; exact .cons h (steps_rep h n)
theorem netAt_new {H : Hp} {n sa oa : Addr} {wide : Int} {steps : List (List Int)} {outs : List Int} {rs : List V} (hn : H n = Option.none) (h1 : H sa = some (.lst rs)) (h2 : StepsAt H rs steps) (h3 : H oa = some (.lst (outs.map V.int))) :
    NetAt (L2.upd H n (.tup [.int wide, .ref sa, .ref oa])) n wide steps outs sa oa rs := ⟨upd_same, new_at hn h1, h2.mono (Same.new hn), new_at hn h3⟩
end L2

namespace L2
open PySem NM PyProof.Rows
theorem pairI_inj : ∀ {a b : List (Nat × Nat)}, a.map pairI = b.map pairI → a = b
  | [], [], _ => rfl
  | [], _ :: _, h => by simp at h
  | _ :: _, [], h => by simp at h
  | p :: r, q :: t, h => by
    rw [List.map_cons, List.map_cons] at h
    obtain ⟨h1, h2⟩ := List.cons.inj h
    unfold pairI at h1
    simp only [List.cons.injEq, and_true] at h1
    have e1 : p.1 = q.1 := by omega
    have e2 : p.2 = q.2 := by omega
    rw [pairI_inj h2, show p = q from Prod.ext e1 e2]
theorem ofNat_inj : ∀ {a b : List Nat}, a.map Int.ofNat = b.map Int.ofNat → a = b
  | [], [], _ => rfl
  | [], _ :: _, h => by simp at h
  | _ :: _, [], h => by simp at h
  | p :: r, q :: t, h => by
    rw [List.map_cons, List.map_cons] at h
    obtain ⟨h1, h2⟩ := List.cons.inj h
    rw [ofNat_inj h2, show p = q from Int.ofNat.inj h1]
theorem net_inj {N M : NetN} (h1 : (N.w : Int) = M.w) (h2 : N.steps = M.steps) (h3 : N.outs = M.outs) : N = M := by
  obtain ⟨w, st, ou⟩ := N
  obtain ⟨w', st', ou'⟩ := M
  have e1 : w = w' := by
    have : (w : Int) = (w' : Int) := h1
    omega
  have e2 : st = st' := pairI_inj h2
  have e3 : ou = ou' := ofNat_inj h3
  rw [e1, e2, e3]
section
variable {N : NetN} {H : Hp} {Q : VK}
theorem Told.of0 (h : Q .non H) : Told 0 N H Q := ⟨fun _ => h, fun z => absurd z (by decide), fun z => absurd z (by decide), fun z => absurd z (by decide), fun z => absurd z (by decide)⟩
theorem Told.of1 (h : tellInts NetN.depths N H Q) : Told 1 N H Q := ⟨fun z => absurd z (by decide), fun _ => h, fun z => absurd z (by decide), fun z => absurd z (by decide), fun z => absurd z (by decide)⟩
theorem Told.of2 (h : tellBest outDepths N H Q) : Told 2 N H Q := ⟨fun z => absurd z (by decide), fun z => absurd z (by decide), fun _ => h, fun z => absurd z (by decide), fun z => absurd z (by decide)⟩
theorem Told.of3 (h : tellBls NetN.used N H Q) : Told 3 N H Q := ⟨fun z => absurd z (by decide), fun z => absurd z (by decide), fun z => absurd z (by decide), fun _ => h, fun z => absurd z (by decide)⟩
theorem Told.of4 (h : tellInts NetN.fan N H Q) : Told 4 N H Q := ⟨fun z => absurd z (by decide), fun z => absurd z (by decide), fun z => absurd z (by decide), fun z => absurd z (by decide), fun _ => h⟩
end
theorem list_by_range {α : Type} {xs : List α} {f : Nat → α} (d : α) {m : Nat} (hl : xs.length = m) (h : ∀ j, j < m → xs.getD j d = f j) : xs = (List.range m).map f := by
  refine List.ext_getElem? fun j => ?_
  by_cases hj : j < m
  · have := h j hj
    rw [List.getD_eq_getElem?_getD, List.getElem?_eq_getElem (by omega)] at this
    rw [List.getElem?_eq_getElem (by omega), List.getElem?_map, List.getElem?_range hj]
    exact congrArg some this
  · rw [List.getElem?_eq_none (by omega), List.getElem?_eq_none (by rw [List.length_map, List.length_range]; omega)]
theorem used_eq {N : NetN} (o : N.Ok) {xs : List Nat} (h : ∀ u, u ∈ xs ↔ N.Used u) : N.used = (List.range (N.w + N.st.length)).map fun v => decide (v ∈ xs) := by
  refine list_by_range false N.used_len fun j _ => ?_
  by_cases c : j ∈ xs
  · rw [decide_eq_true c]; exact (o.used_iff j).mpr ((h j).mp c)
  · rw [decide_eq_false c]
    cases z : N.used.getD j false with
    | false => rfl
    | true => exact absurd ((h j).mpr ((o.used_iff j).mp z)) c
theorem fan_len (N : NetN) : N.fan.length = N.w + N.st.length := N.fanO_len _
theorem fan_eq {N : NetN} (o : N.Ok) : N.fan = (List.range (N.w + N.st.length)).map fun v => (((N.ou ++ flat N.st).count v : Nat) : Int) :=
  list_by_range 0 (fan_len N) fun j _ => o.fan_getD j
theorem count_nats {x : Nat} : ∀ {xs : List Nat}, (xs.map fun u => V.int (u : Nat)).countP (fun z => eqV z (.int (x : Nat))) = xs.count x
  | [] => rfl
  | y :: r => by
    rw [List.map_cons, List.countP_cons, count_nats (x := x) (xs := r), List.count_cons]
    have e : eqV (V.int (y : Nat)) (V.int (x : Nat)) = (y == x) := by
      show ((y : Int) == (x : Int)) = (y == x)
      by_cases c : y = x
      · subst c; simp
      · have : ¬ ((y : Int) = (x : Int)) := by omega
        rw [beq_eq_false_iff_ne.mpr this, beq_eq_false_iff_ne.mpr c]
    rw [e]
theorem flat_snoc {st : List (Nat × Nat)} {i : Nat} {p : Nat × Nat} (h : st[i]? = some p) : flat (st.take (i + 1)) = flat (st.take i) ++ [p.1, p.2] := by
  unfold flat
  rw [List.take_add_one, h, List.flatMap_append]
  rfl
theorem outs_nats (N : NetN) : N.outs.map V.int = N.ou.map fun u => V.int (u : Nat) := by unfold NetN.outs; rw [List.map_map]; rfl
def dStep (l : List Int) : Dt := .tup (l.map Dt.int)
def dNet (wide : Int) (steps : List (List Int)) (outs : List Int) : Dt := .tup [.int wide, .lst (steps.map dStep), .lst (outs.map Dt.int)]
theorem deeps_steps {K : PySem.W.Frag} {H : Hp} : ∀ {rs : List V} {ls : List (List Int)}, StepsAt H rs ls → Deeps K H (ls.map dStep) rs
  | _, _, .nil => by simp only [List.map_nil, Deeps]
  | _, _, .cons (l := l) h t => by
    simp only [List.map_cons, Deeps]
    exact ⟨_, _, rfl, deep_tup (SqT.of h) (deeps_ints l), deeps_steps t⟩
theorem deep_net {K : PySem.W.Frag} {H : Hp} {a sa oa : Addr} {wide : Int} {steps : List (List Int)} {outs : List Int} {rs : List V} (n : NetAt H a wide steps outs sa oa rs) : Deep K H (dNet wide steps outs) (.ref a) := by
  refine deep_tup (SqT.of n.net) ?_
  simp only [Deeps, Deep]
  exact ⟨_, _, rfl, rfl, _, _, rfl, ⟨_, _, rfl, SqL.of n.sts, deeps_steps n.st⟩, _, _, rfl, ⟨_, _, rfl, SqL.of n.ots, deeps_ints outs⟩, rfl⟩
theorem dps_steps : ∀ ls : List (List Int), Dt.dps (ls.map dStep) ≤ 1
  | [] => by simp only [List.map_nil, Dt.dps]; omega
  | l :: r => by
    have := dps_steps r
    simp only [List.map_cons, Dt.dps, dStep, Dt.dp, dps_ints]
    show max (1 + 0) (Dt.dps (r.map dStep)) ≤ 1
    omega
theorem dp_net {wide : Int} {steps : List (List Int)} {outs : List Int} : (dNet wide steps outs).dp ≤ 8 := by
  have := dps_steps steps
  simp only [dNet, Dt.dp, Dt.dps, dps_ints]
  omega
theorem dp_lst {ds : List Dt} (h : Dt.dps ds = 0) : (Dt.lst ds).dp ≤ 8 := by simp only [Dt.dp, h]; omega
theorem take_snoc {α β : Type} {f : α → β} {xs : List α} {i : Nat} {x : α} (h : xs[i]? = some x) : (xs.take (i + 1)).map f = (xs.take i).map f ++ [f x] := by
  rw [List.take_add_one, h, List.map_append]; rfl
theorem getD_some {α : Type} {xs : List α} {i : Nat} (d : α) (h : i < xs.length) : xs[i]? = some (xs.getD i d) := by
  rw [List.getD_eq_getElem?_getD, List.getElem?_eq_getElem h]; rfl
end L2

namespace K1
open PySem L2 NM PyProof.Rows
def top (i : Nat) : Stmt := PySem.Challenge.pw_sumspan_k01_nets.main.body.getD i (.Pass ⟨0, 0, 0, 0⟩)
structure Txt (K : PySem.W.Frag) (mg : Str → Option Value) (CB CK CR CT CW CS : Addr) : Prop where
  x_BadNet : ExC K mg "BadNet" CB
  g_BadNet : mg "BadNet" = some (.ref CB)
  g_BadKind : mg "BadKind" = some (.ref CK)
  g_BadRow : mg "BadRow" = some (.ref CR)
  g_BadText : mg "BadText" = some (.ref CT)
  g_Wrong : mg "Wrong" = some (.ref CW)
  g_SumError : mg "SumError" = some (.ref CS)
  e_BadNet : ExTy K CB
  k_BadKind : PySem.W.kitOne K (.ref CB) (.ref CK) = some false
  k_BadNet : PySem.W.kitOne K (.ref CB) (.ref CB) = some true
  k_BadRow : PySem.W.kitOne K (.ref CB) (.ref CR) = some false
  k_BadText : PySem.W.kitOne K (.ref CB) (.ref CT) = some false
  k_Wrong : PySem.W.kitOne K (.ref CB) (.ref CW) = some false
  k_ValueError : PySem.W.kitOne K (.ref CB) (.type "ValueError") = some true
  m_SumError : PySem.W.exmOne K (.ref CB) (.ref CS) = some true
  g_MOST_THINGS : ∃ t, mg "MOST_THINGS" = some (.int 64 t)
  g_MOST_STEPS : ∃ t, mg "MOST_STEPS" = some (.int 500 t)
  z_isinstance : mg "isinstance" = none
  z_int : mg "int" = none
  z_bool : mg "bool" = none
  z_tuple : mg "tuple" = none
  z_list : mg "list" = none
  z_len : mg "len" = none
  z_max : mg "max" = none
  z_min : mg "min" = none
  z_range : mg "range" = none
  z_enumerate : mg "enumerate" = none
  z_all : mg "all" = none
  z_ValueError : mg "ValueError" = none
local macro_rules | `(tactic| walk_at "hp") => `(tactic| (repeat (first | exact upd_same | assumption | refine new_at (by assumption) ?_)))
local macro_rules | `(tactic| walk_at "sm") => `(tactic| (repeat (first | exact Same.refl _ | assumption | refine same_new ?_ (by assumption))))
section
variable {P : Program} {w : World} {K : PySem.W.Frag} {mg : Str → Option Value} {base : Heap} {CB CK CR CT CW CS : Addr}
abbrev s_is_whole : Stmt := top 8
theorem sc_is_whole : FnScope ["value"] ["value"] (defScope s_is_whole) := ⟨rfl, rfl, rfl, by decide +kernel, rfl, by decide +kernel, by decide +kernel⟩
theorem ok_is_whole {f : Addr} {fd : FuncData} (F : Fun K "is_whole" "is_whole" s_is_whole f fd) (T : Txt K mg CB CK CR CT CW CS)  : FnOk P w K mg base (CX1 P w) 1 f fd ["value"] (spWhole) := by
  refine F.ok1 sc_is_whole (fun vs H Q E h => ?_) (fun cdv A outer s H vs Q E hr h => ?_)
  · obtain ⟨i, rfl, q⟩ := h; rfl
  · obtain ⟨i, rfl, q⟩ := h
    have nd := sc_is_whole.nd
    refine ⟨_, (pss_one (ps_ret (pe_and (pe_callB call_isi rfl T.z_isinstance boot_isinstance (pa_cons (pv 0) (pa_cons (pe_bltn (v := .ty "int") rfl T.z_int boot_int rfl) pa_nil))) (pe_one (pe_not (pe_callB call_isi rfl T.z_isinstance boot_isinstance (pa_cons (pv 0) (pa_cons (pe_bltn (v := .ty "bool") rfl T.z_bool boot_bool rfl) pa_nil)))))))), ?_⟩
    refine ⟨_, rfl, _, _, _, _, true, rfl, rfl, .int i, rfl, true, rfl, iteT ?_⟩
    exact ⟨_, rfl, _, _, _, _, false, rfl, rfl, .int i, (by kernel_rfl), false, rfl, q⟩
abbrev s_is_within : Stmt := top 9
theorem sc_is_within : FnScope ["value", "least", "most"] ["value", "least", "most"] (defScope s_is_within) := ⟨rfl, rfl, rfl, by decide +kernel, rfl, by decide +kernel, by decide +kernel⟩
theorem ok_is_within {f : Addr} {fd : FuncData} (F : Fun K "is_within" "is_within" s_is_within f fd) (T : Txt K mg CB CK CR CT CW CS) (d_is_whole : Df P w K mg base "is_whole" 1 ["value"] (spWhole)) : FnOk P w K mg base (CX1 P w) 2 f fd ["value", "least", "most"] (spWithin) := by
  refine F.ok1 sc_is_within (fun vs H Q E h => ?_) (fun cdv A outer s H vs Q E hr h => ?_)
  · obtain ⟨v, lo, hi, rfl, q⟩ := h; rfl
  · obtain ⟨v, lo, hi, rfl, q⟩ := h
    have nd := sc_is_within.nd
    refine ⟨_, (pss_one (ps_ret (pe_and (pe_own d_is_whole (hr.mono (by first | decide | omega)) rfl pass1 (pa_cons (pv 0) pa_nil)) (pe_one (pe_chain op_le op_le (pv 1) (pv 0) (pv 2)))))), ?_⟩
    refine ⟨_, rfl, _, rfl, true, rfl, iteT ?_⟩
    refine ⟨_, rfl, _, rfl, _, _, rfl, rfl, _, rfl, ?_⟩
    cases hv : decide (lo ≤ v) with
    | true =>
      rw [hv] at q
      exact iteT ⟨_, rfl, _, _, rfl, rfl, q⟩
    | false =>
      rw [hv] at q
      exact iteF q
abbrev s_is_node : Stmt := top 13
theorem sc_is_node : FnScope ["value", "ahead"] ["value", "ahead"] (defScope s_is_node) := ⟨rfl, rfl, rfl, by decide +kernel, rfl, by decide +kernel, by decide +kernel⟩
theorem ok_is_node {f : Addr} {fd : FuncData} (F : Fun K "is_node" "is_node" s_is_node f fd) (T : Txt K mg CB CK CR CT CW CS) (d_is_within : Df P w K mg base "is_within" 2 ["value", "least", "most"] (spWithin)) : FnOk P w K mg base (CX1 P w) 3 f fd ["value", "ahead"] (spNode) := by
  refine F.ok1 sc_is_node (fun vs H Q E h => ?_) (fun cdv A outer s H vs Q E hr h => ?_)
  · obtain ⟨v, ahead, rfl, q⟩ := h; rfl
  · obtain ⟨v, ahead, rfl, q⟩ := h
    have nd := sc_is_node.nd
    refine ⟨_, (pss_one (ps_ret (pe_own d_is_within (hr.mono (by first | decide | omega)) rfl pass1 (pa_cons (pv 0) (pa_cons pe_int (pa_cons (pe_op op_sub (pv 1) pe_int) pa_nil)))))), ?_⟩
    refine ⟨_, rfl, _, rfl, _, _, rfl, rfl, v, 0, ahead - 1, rfl, ?_⟩
    have e : (decide (0 ≤ v) && decide (v ≤ ahead - 1)) = nodeB v ahead := by
      unfold nodeB
      congr 1
      exact decide_eq_decide.mpr ⟨fun h => by omega, fun h => by omega⟩
    rw [e]
    exact q
abbrev s_is_step : Stmt := top 14
theorem sc_is_step : FnScope ["value", "ahead"] ["value", "ahead"] (defScope s_is_step) := ⟨rfl, rfl, rfl, by decide +kernel, rfl, by decide +kernel, by decide +kernel⟩
theorem ok_is_step {f : Addr} {fd : FuncData} (F : Fun K "is_step" "is_step" s_is_step f fd) (T : Txt K mg CB CK CR CT CW CS) (d_is_node : Df P w K mg base "is_node" 3 ["value", "ahead"] (spNode)) : FnOk P w K mg base (CX1 P w) 4 f fd ["value", "ahead"] (spStep) := by
  refine F.ok1 sc_is_step (fun vs H Q E h => ?_) (fun cdv A outer s H vs Q E hr h => ?_)
  · obtain ⟨r, l, ahead, rfl, hr0, q⟩ := h; rfl
  · obtain ⟨r, l, ahead, rfl, hr0, q⟩ := h
    have nd := sc_is_step.nd
    refine ⟨_, (pss_cons (ps_if (PW.pt (pw_or (pt_not (pt_truth (pe_callB call_isi rfl T.z_isinstance boot_isinstance (pa_cons (pv 0) (pa_cons (pe_bltn (v := .ty "tuple") rfl T.z_tuple boot_tuple rfl) pa_nil))) (fun _ => rfl))) (pw_or1 (pt_cmpR op_ne (pe_callB call_len_seq rfl T.z_len boot_len (pa_cons (pv 0) pa_nil)) pe_int (nomark _)))))
       (pss_one (ps_ret pe_bl))
       pss_nil)
       (pss_one (ps_ret (pe_and (pe_own d_is_node (hr.mono (by first | decide | omega)) rfl pass1 (pa_cons (pe_ix ix_tup (pv 0) pe_int (fun _ _ => rfl)) (pa_cons (pv 1) pa_nil))) (pe_one (pe_own d_is_node (hr.mono (by first | decide | omega)) rfl pass1 (pa_cons (pe_ix ix_tup (pv 0) pe_int (fun _ _ => rfl)) (pa_cons (pv 1) pa_nil)))))))), ?_⟩
    refine ⟨_, rfl, _, _, _, _, true, rfl, rfl, .tup hr0, rfl, true, rfl, iteF ?_⟩
    refine ⟨_, rfl, _, _, rfl, .inr (SqT.of hr0), rfl, _, rfl, ?_⟩
    by_cases hl : l.length = 2
    · refine iteNS (by rw [List.length_map, hl]; rfl) ?_
      match l, hl with
      | [x, y], _ =>
        refine ⟨_, rfl, _, _, _, _, rfl, rfl, SqT.of hr0, rfl, _, rfl, _, _, rfl, _, rfl, ?_⟩
        have e : stepOk ahead [x, y] = (nodeB x ahead && nodeB y ahead) := by
          simp [stepOk, nodeB]
        rw [e] at q
        cases hx : nodeB x ahead with
        | false =>
          rw [hx] at q
          exact iteF q
        | true =>
          rw [hx] at q
          exact iteT ⟨_, rfl, _, _, _, _, rfl, rfl, SqT.of hr0, rfl, _, rfl, _, _, rfl, q⟩
    · have e : stepOk ahead l = false := by simp [stepOk, hl]
      rw [e] at q
      refine iteNT (fun z => hl ?_) q
      rw [List.length_map] at z
      have := V.int.inj z
      omega
abbrev s_look_wide : Stmt := top 16
theorem sc_look_wide : FnScope ["wide"] ["wide"] (defScope s_look_wide) := ⟨rfl, rfl, rfl, by decide +kernel, rfl, by decide +kernel, by decide +kernel⟩
theorem ok_look_wide {f : Addr} {fd : FuncData} (F : Fun K "look_wide" "look_wide" s_look_wide f fd) (T : Txt K mg CB CK CR CT CW CS) (d_is_within : Df P w K mg base "is_within" 2 ["value", "least", "most"] (spWithin)) : FnOk P w K mg base (CX1 P w) 3 f fd ["wide"] (spWide CB) := by
  refine F.ok1 sc_look_wide (fun vs H Q E h => ?_) (fun cdv A outer s H vs Q E hr h => ?_)
  · obtain ⟨i, rfl, q1, q2⟩ := h; rfl
  · obtain ⟨i, rfl, q1, q2⟩ := h
    have nd := sc_look_wide.nd
    refine ⟨_, (pss_one (ps_if (pt_not (pt_truth (pe_own d_is_within (hr.mono (by first | decide | omega)) rfl pass1 (pa_cons (pv 0) (pa_cons pe_int (pa_cons (pe_glob (v := .int 64) rfl T.g_MOST_THINGS.choose_spec ⟨_, rfl⟩) pa_nil)))) (fun _ => rfl)))
       (pss_one (ps_raise rfl throws1 T.x_BadNet rfl (pa_cons (pe_fstr (pj_cons pe_str (pj_cons (pe_fv (pe_glob (v := .int 64) rfl T.g_MOST_THINGS.choose_spec ⟨_, rfl⟩)) (pj_cons pe_str pj_nil)))) pa_nil)))
       pss_nil)), ?_⟩
    refine ⟨_, rfl, i, 1, 64, rfl, ?_⟩
    refine ⟨_, rfl, ?_⟩
    refine iteN (fun h2 => ?_) (fun h2 => ?_)
    · exact ⟨_, rfl, fA _ (by decide), _, rfl, (by decide), _, rfl, fB _ (by decide) (by decide), _, rfl, fC _ _ (by decide) (by decide) (by decide), fC _ _ (by decide) (by decide) (by decide), (by decide), q2 (fun z => by simp at h2; omega)⟩
    · exact q1 (by simp at h2; omega)
abbrev s_look_steps : Stmt := top 17
theorem sc_look_steps : FnScope ["wide", "steps", "place", "step"] ["wide", "steps"] (defScope s_look_steps) := ⟨rfl, rfl, rfl, by decide +kernel, rfl, by decide +kernel, by decide +kernel⟩
theorem ok_look_steps {f : Addr} {fd : FuncData} (F : Fun K "look_steps" "look_steps" s_look_steps f fd) (T : Txt K mg CB CK CR CT CW CS) (d_is_step : Df P w K mg base "is_step" 4 ["value", "ahead"] (spStep)) : FnOk P w K mg base (CX1 P w) 5 f fd ["wide", "steps"] (spSteps CB) := by
  refine F.ok1 sc_look_steps (fun vs H Q E h => ?_) (fun cdv A outer s H vs Q E hr h => ?_)
  · obtain ⟨i, sa, rs, ls, rfl, hsa, hst, k⟩ := h; rfl
  · obtain ⟨i, sa, rs, ls, rfl, hsa, hst, k⟩ := h
    have nd := sc_look_steps.nd
    refine ⟨_, (pss_cons (ps_if (PW.pt (pw_or (pt_not (pt_truth (pe_callB call_isi rfl T.z_isinstance boot_isinstance (pa_cons (pv 1) (pa_cons (pe_bltn (v := .ty "list") rfl T.z_list boot_list rfl) pa_nil))) (fun _ => rfl))) (pw_or1 (pt_cmpR op_gt (pe_callB call_len_seq rfl T.z_len boot_len (pa_cons (pv 1) pa_nil)) (pe_glob (v := .int 500) rfl T.g_MOST_STEPS.choose_spec ⟨_, rfl⟩) (nomark _)))))
       (pss_one (ps_raise rfl throws1 T.x_BadNet rfl (pa_cons (pe_fstr (pj_cons pe_str (pj_cons (pe_fv (pe_glob (v := .int 500) rfl T.g_MOST_STEPS.choose_spec ⟨_, rfl⟩)) (pj_cons pe_str pj_nil)))) pa_nil)))
       pss_nil)
       (pss_one (ps_for powns1 rfl (pi_enum rfl T.z_enumerate (pa_cons (pv 1) pa_nil)) (pg_tup rfl (pgs_cons (pg_name (i := 2) nd rfl (Or.inl rfl)) (pgs_cons (pg_name (i := 3) nd rfl (Or.inl rfl)) pgs_nil)))
       (pss_one (ps_if (pt_not (pt_truth (pe_own d_is_step (hr.mono (by first | decide | omega)) rfl pass1 (pa_cons (pv 3) (pa_cons (pe_op op_add (pv 0) (pv 2)) pa_nil))) (fun _ => rfl)))
       (pss_one (ps_raise rfl throws1 T.x_BadNet rfl (pa_cons (pe_fstr (pj_cons pe_str (pj_cons (pe_fv (pv 2)) (pj_cons pe_str pj_nil)))) pa_nil)))
       pss_nil))))), ?_⟩
    have hll := hst.length
    refine ⟨_, rfl, _, _, _, _, true, rfl, rfl, .lst hsa, rfl, true, rfl, iteF ?_⟩
    refine ⟨_, rfl, _, _, rfl, .inl (SqL.of hsa), _, _, rfl, rfl, _, rfl, ?_⟩
    refine iteB (fun h1 => ?_) (fun h1 => ?_)
    · refine ⟨_, rfl, fA _ (by decide), _, rfl, (by decide), _, rfl, fB _ (by decide) (by decide), _, rfl, fC _ _ (by decide) (by decide) (by decide), fC _ _ (by decide) (by decide) (by decide), (by decide), (k H (Same.refl H)).2 (fun z => by simp at h1; omega)⟩
    · refine ⟨_, rfl, sa, rfl, ⟨_, SqL.of hsa⟩, for_enum (K := K) (a := sa) (xs := rs) (fun j σ2 H2 => ∃ v2 v3, σ2 = [some (.int i), some (.ref sa), v2, v3] ∧ Same H H2 ∧ ∀ (m : Nat) l, m < j → ls[m]? = some l → stepOk (i + m) l = true)
        ⟨_, _, rfl, Same.refl H, fun m l hm => absurd hm (Nat.not_lt_zero _)⟩ (fun j σ2 H2 _ ⟨_, _, _, s2, _⟩ => SqL.of (s2 _ _ hsa)) ?_ ?_⟩
      · rintro j x σ2 H2 p hx ⟨v2, v3, rfl, s2, hok⟩ hp
        obtain ⟨r, l, rfl, hl, hr0⟩ := hst.get hx
        have s3 : Same H (upd H2 p (.tup [.int j, .ref r])) := s2.upd (s2.free hp)
        refine ⟨p, _, rfl, SqT.of upd_same, rfl, _, _, rfl, _, _, rfl, rfl, ?_⟩
        refine ⟨_, rfl, _, rfl, _, rfl, _, _, rfl, rfl, r, l, _, rfl, s3 _ _ hr0, _, rfl, ?_⟩
        have hj : j ≤ 16777216 := by
          have := (List.getElem?_eq_some_iff.mp hx).1
          simp at h1
          omega
        refine iteN (fun h2 => ?_) (fun h2 => ?_)
        · refine ⟨_, rfl, fA _ (by decide), _, rfl, _, rfl, log2_small hj, _, rfl, fB _ (by decide) (log2_small hj), _, rfl, fC _ _ (by decide) (by decide) (log2_small hj), fC _ _ (by decide) (by decide) (log2_small hj), (show 1 ≤ sizeLine by decide), (k _ s3).2 (fun z => ?_)⟩
          have := z.2 j l hl
          rw [h2] at this; cases this
        · refine ⟨_, _, rfl, s3, fun m l' hm hl' => ?_⟩
          by_cases e : m = j
          · subst e
            rw [hl] at hl'; cases hl'
            exact h2
          · exact hok m l' (by omega) hl'
      · rintro σ2 H2 ⟨v2, v3, rfl, s2, hok⟩
        refine (k H2 s2).1 ⟨by simp at h1; omega, fun m l hl => hok m l ?_ hl⟩
        rw [hll]; exact (List.getElem?_eq_some_iff.mp hl).1
abbrev s_look_outs : Stmt := top 18
theorem sc_look_outs : FnScope ["wide", "steps", "outs", "place", "out"] ["wide", "steps", "outs"] (defScope s_look_outs) := ⟨rfl, rfl, rfl, by decide +kernel, rfl, by decide +kernel, by decide +kernel⟩
theorem ok_look_outs {f : Addr} {fd : FuncData} (F : Fun K "look_outs" "look_outs" s_look_outs f fd) (T : Txt K mg CB CK CR CT CW CS) (d_is_node : Df P w K mg base "is_node" 3 ["value", "ahead"] (spNode)) : FnOk P w K mg base (CX1 P w) 4 f fd ["wide", "steps", "outs"] (spOuts CB) := by
  refine F.ok1 sc_look_outs (fun vs H Q E h => ?_) (fun cdv A outer s H vs Q E hr h => ?_)
  · obtain ⟨i, sa, oa, rs, outs, rfl, hol, hsa, hoa, k⟩ := h; rfl
  · obtain ⟨i, sa, oa, rs, outs, rfl, hol, hsa, hoa, k⟩ := h
    have nd := sc_look_outs.nd
    refine ⟨_, (pss_cons (ps_if (PW.pt (pw_or (pt_not (pt_truth (pe_callB call_isi rfl T.z_isinstance boot_isinstance (pa_cons (pv 2) (pa_cons (pe_bltn (v := .ty "list") rfl T.z_list boot_list rfl) pa_nil))) (fun _ => rfl))) (pw_or1 (pt_cmpR op_ne (pe_callB call_len_seq rfl T.z_len boot_len (pa_cons (pv 2) pa_nil)) (pv 0) (nomark _)))))
       (pss_one (ps_raise rfl throws1 T.x_BadNet rfl (pa_cons pe_str pa_nil)))
       pss_nil)
       (pss_one (ps_for powns1 rfl (pi_enum rfl T.z_enumerate (pa_cons (pv 2) pa_nil)) (pg_tup rfl (pgs_cons (pg_name (i := 3) nd rfl (Or.inl rfl)) (pgs_cons (pg_name (i := 4) nd rfl (Or.inl rfl)) pgs_nil)))
       (pss_one (ps_if (pt_not (pt_truth (pe_own d_is_node (hr.mono (by first | decide | omega)) rfl pass1 (pa_cons (pv 4) (pa_cons (pe_op op_add (pv 0) (pe_callB call_len_seq rfl T.z_len boot_len (pa_cons (pv 1) pa_nil))) pa_nil))) (fun _ => rfl)))
       (pss_one (ps_raise rfl throws1 T.x_BadNet rfl (pa_cons (pe_fstr (pj_cons pe_str (pj_cons (pe_fv (pv 3)) (pj_cons pe_str pj_nil)))) pa_nil)))
       pss_nil))))), ?_⟩
    refine ⟨_, rfl, _, _, _, _, true, rfl, rfl, .lst hoa, rfl, true, rfl, iteF ?_⟩
    refine ⟨_, rfl, _, _, rfl, .inl (SqL.of hoa), _, rfl, rfl, _, rfl, ?_⟩
    by_cases h1 : (outs.length : Int) = i
    · refine iteNS (by rw [List.length_map, h1]) ?_
      refine ⟨_, rfl, oa, rfl, ⟨_, SqL.of hoa⟩, for_enum (K := K) (a := oa) (xs := outs.map V.int) (fun j σ2 H2 => ∃ v2 v3, σ2 = [some (.int i), some (.ref sa), some (.ref oa), v2, v3] ∧ Same H H2 ∧ ∀ (m : Nat) v, m < j → outs[m]? = some v → 0 ≤ v ∧ v < i + rs.length)
        ⟨_, _, rfl, Same.refl H, fun m l hm => absurd hm (Nat.not_lt_zero _)⟩ (fun j σ2 H2 _ ⟨_, _, _, s2, _⟩ => SqL.of (s2 _ _ hoa)) ?_ ?_⟩
      · rintro j x σ2 H2 p hx ⟨v2, v3, rfl, s2, hok⟩ hp
        rw [List.getElem?_map] at hx
        obtain ⟨v, hv, rfl⟩ := Option.map_eq_some_iff.mp hx
        have s3 : Same H (upd H2 p (.tup [.int j, .int v])) := s2.upd (s2.free hp)
        refine ⟨p, _, rfl, SqT.of upd_same, rfl, _, _, rfl, _, _, rfl, rfl, ?_⟩
        refine ⟨_, rfl, _, rfl, _, rfl, _, _, rfl, .inl (SqL.of (s3 _ _ hsa)), _, _, rfl, rfl, v, _, rfl, _, rfl, ?_⟩
        have hj : j ≤ 16777216 := by
          have h3 := (List.getElem?_eq_some_iff.mp hv).1
          omega
        refine iteN (fun h2 => ?_) (fun h2 => ?_)
        · refine ⟨_, rfl, fA _ (by decide), _, rfl, _, rfl, log2_small hj, _, rfl, fB _ (by decide) (log2_small hj), _, rfl, fC _ _ (by decide) (by decide) (log2_small hj), fC _ _ (by decide) (by decide) (log2_small hj), (show 1 ≤ sizeLine by decide), (k _ s3).2 (fun z => ?_)⟩
          have := z.2 v (List.mem_of_getElem? hv)
          unfold nodeB at h2
          simp at h2
          omega
        · refine ⟨_, _, rfl, s3, fun m v' hm hv' => ?_⟩
          by_cases e : m = j
          · subst e
            rw [hv] at hv'; cases hv'
            unfold nodeB at h2
            simp at h2
            omega
          · exact hok m v' (by omega) hv'
      · rintro σ2 H2 ⟨v2, v3, rfl, s2, hok⟩
        refine (k H2 s2).1 ⟨h1, fun v hv => ?_⟩
        obtain ⟨m, hm⟩ := List.getElem?_of_mem hv
        exact hok m v (by rw [List.length_map]; exact (List.getElem?_eq_some_iff.mp hm).1) hm
    · refine iteNT (fun z => h1 ?_) ⟨by decide, (k H (Same.refl H)).2 (fun z => h1 z.1)⟩
      rw [List.length_map] at z
      exact V.int.inj z
abbrev s_look_net : Stmt := top 15
theorem sc_look_net : FnScope ["net"] ["net"] (defScope s_look_net) := ⟨rfl, rfl, rfl, by decide +kernel, rfl, by decide +kernel, by decide +kernel⟩
theorem ok_look_net {f : Addr} {fd : FuncData} (F : Fun K "look_net" "look_net" s_look_net f fd) (T : Txt K mg CB CK CR CT CW CS) (d_look_wide : Df P w K mg base "look_wide" 3 ["wide"] (spWide CB)) (d_look_steps : Df P w K mg base "look_steps" 5 ["wide", "steps"] (spSteps CB)) (d_look_outs : Df P w K mg base "look_outs" 4 ["wide", "steps", "outs"] (spOuts CB)) : FnOk P w K mg base (CX1 P w) 6 f fd ["net"] (spLook CB) := by
  refine F.ok1 sc_look_net (fun vs H Q E h => ?_) (fun cdv A outer s H vs Q E hr h => ?_)
  · obtain ⟨a, sa, oa, rs, wide, steps, outs, rfl, hol, n, k⟩ := h; rfl
  · obtain ⟨a, sa, oa, rs, wide, steps, outs, rfl, hol, n, k⟩ := h
    have nd := sc_look_net.nd
    refine ⟨_, (pss_cons (ps_if (PW.pt (pw_or (pt_not (pt_truth (pe_callB call_isi rfl T.z_isinstance boot_isinstance (pa_cons (pv 0) (pa_cons (pe_bltn (v := .ty "tuple") rfl T.z_tuple boot_tuple rfl) pa_nil))) (fun _ => rfl))) (pw_or1 (pt_cmpR op_ne (pe_callB call_len_seq rfl T.z_len boot_len (pa_cons (pv 0) pa_nil)) pe_int (nomark _)))))
       (pss_one (ps_raise rfl throws1 T.x_BadNet rfl (pa_cons pe_str pa_nil)))
       pss_nil)
       (pss_cons (ps_expr (pe_own d_look_wide (hr.mono (by first | decide | omega)) rfl pass1 (pa_cons (pe_ix ix_tup (pv 0) pe_int (fun _ _ => rfl)) pa_nil)))
       (pss_cons (ps_expr (pe_own d_look_steps (hr.mono (by first | decide | omega)) rfl pass1 (pa_cons (pe_ix ix_tup (pv 0) pe_int (fun _ _ => rfl)) (pa_cons (pe_ix ix_tup (pv 0) pe_int (fun _ _ => rfl)) pa_nil))))
       (pss_one (ps_expr (pe_own d_look_outs (hr.mono (by first | decide | omega)) rfl pass1 (pa_cons (pe_ix ix_tup (pv 0) pe_int (fun _ _ => rfl)) (pa_cons (pe_ix ix_tup (pv 0) pe_int (fun _ _ => rfl)) (pa_cons (pe_ix ix_tup (pv 0) pe_int (fun _ _ => rfl)) pa_nil))))))))), ?_⟩
    have hll := n.st.length
    refine ⟨_, rfl, _, _, _, _, true, rfl, rfl, .tup n.net, rfl, true, rfl, iteF ?_⟩
    refine ⟨_, rfl, _, _, rfl, .inr (SqT.of n.net), rfl, _, rfl, iteNS rfl ?_⟩
    refine ⟨_, rfl, _, _, _, _, rfl, rfl, SqT.of n.net, rfl, wide, rfl, fun h1 => ?_, fun h1 => (k H (Same.refl H)).2 (fun g => h1 ⟨g.lo, g.hi⟩)⟩
    refine ⟨_, rfl, _, _, _, _, rfl, rfl, SqT.of n.net, rfl, _, rfl, _, _, _, _, rfl, rfl, SqT.of n.net, rfl, wide, sa, rs, steps, rfl, n.sts, n.st, fun H2 s2 => ⟨fun h2 => ?_, fun h2 => (k H2 s2).2 (fun g => h2 ⟨g.len, g.st⟩)⟩⟩
    have n2 := n.mono s2
    refine ⟨_, rfl, _, _, _, _, rfl, rfl, SqT.of n2.net, rfl, _, rfl, _, _, _, _, rfl, rfl, SqT.of n2.net, rfl, _, rfl, _, _, _, _, rfl, rfl, SqT.of n2.net, rfl, wide, sa, oa, rs, outs, rfl, hol, n2.sts, n2.ots, fun H3 s3 => ⟨fun h3 => ?_, fun h3 => (k H3 (s2.trans s3)).2 (fun g => h3 ⟨g.ol, by rw [hll]; exact g.ou⟩)⟩⟩
    rw [hll] at h3
    exact (k H3 (s2.trans s3)).1 ⟨h1.1, h1.2, h2.1, h2.2, h3.1, h3.2⟩
abbrev s_depths : Stmt := top 19
theorem sc_depths : FnScope ["net", "found", "step"] ["net"] (defScope s_depths) := ⟨rfl, rfl, rfl, by decide +kernel, rfl, by decide +kernel, by decide +kernel⟩
theorem ok_depths {f : Addr} {fd : FuncData} (F : Fun K "depths" "depths" s_depths f fd) (T : Txt K mg CB CK CR CT CW CS) (d_look_net : Df P w K mg base "look_net" 6 ["net"] (spLook CB)) : FnOk P w K mg base (CX1 P w) 7 f fd ["net"] (spNetFn CB (tellInts NetN.depths)) := by
  refine F.ok1 sc_depths (fun vs H Q E h => ?_) (fun cdv A outer s H vs Q E hr h => ?_)
  · obtain ⟨a, sa, oa, rs, wide, steps, outs, rfl, hol, n, k⟩ := h; rfl
  · obtain ⟨a, sa, oa, rs, wide, steps, outs, rfl, hol, n, k⟩ := h
    have nd := sc_depths.nd
    refine ⟨_, (pss_cons (ps_expr (pe_own d_look_net (hr.mono (by first | decide | omega)) rfl pass1 (pa_cons (pv 0) pa_nil)))
       (pss_cons (ps_set (i := 1) nd rfl (Or.inl rfl) (pe_op op_rep (pe_lst (pa_cons pe_int pa_nil)) (pe_ix ix_tup (pv 0) pe_int (fun _ _ => rfl))))
       (pss_cons (ps_for powns1 rfl (pi_list (pe_ix ix_tup (pv 0) pe_int (fun _ _ => rfl))) (pg_name (i := 2) nd rfl (Or.inl rfl))
       (pss_one (ps_expr (pe_bm PySem.F.plainAttrs_list PySem.F.slot_list_append PySem.F.type_list_append mt_append (pv 1) (pa_cons (pe_op op_add pe_int (pe_callB (call_max2 rfl) rfl T.z_max boot_max (pa_cons (pe_ix ix_list (pv 1) (pe_ix ix_tup (pv 2) pe_int (fun _ _ => rfl)) (fun _ _ => rfl)) (pa_cons (pe_ix ix_list (pv 1) (pe_ix ix_tup (pv 2) pe_int (fun _ _ => rfl)) (fun _ _ => rfl)) pa_nil)))) pa_nil)))))
       (pss_one (ps_ret (pv 1)))))), ?_⟩
    refine ⟨_, rfl, a, sa, oa, rs, wide, steps, outs, rfl, hol, n, fun H2 s2 => ⟨fun g => ?_, fun g => (k H2 s2).2 g⟩⟩
    obtain ⟨N, hN, rfl, rfl, rfl⟩ := g.net
    have n2 := n.mono s2
    have hw := hN.hi
    have hln := hN.len
    refine ⟨(show 1 ≤ sizeLine by decide), fun q hq => ?_⟩
    have s3 : Same H2 (upd H2 q (.lst [.int 0])) := Same.new hq
    refine ⟨_, rfl, _, _, _, _, rfl, rfl, SqT.of (s3 _ _ n2.net), rfl, q, _, _, rfl, rfl, upd_same, by omega, by omega, fits (by simp; omega), fun l hl => ?_⟩
    have hlH : H2 l = none := s3.free hl
    have s4 : ∀ o, Same H2 (upd (upd H2 q (.lst [.int 0])) l o) := fun o => s3.upd hlH
    rw [Int.toNat_natCast, rep_int]
    refine ⟨_, rfl, _, _, _, _, rfl, rfl, SqT.of (s4 _ _ _ n2.net), rfl, sa, rfl, ⟨_, SqL.of (s4 _ _ _ n2.sts)⟩, for_list (K := K) (a := sa) (xs := rs) (fun i σ3 H3 => ∃ v, σ3 = [some (.ref a), some (.ref l), v] ∧ Same H2 H3 ∧ H3 l = some (.lst ((N.depthsTo i).map V.int)))
      ⟨_, rfl, s4 _, by rw [upd_same, N.depthsTo_zero]⟩ (fun i σ3 H3 _ ⟨_, _, s5, _⟩ => SqL.of (s5 _ _ n2.sts)) ?_ ?_⟩
    · rintro i x σ3 H3 hx ⟨v, rfl, s5, hl3⟩
      obtain ⟨r, p, rfl, hp, hr0⟩ := NetN.Ok.steps_get n2.st hx
      obtain ⟨p1, p2⟩ := hN.s1 i p hp
      have hil := (List.getElem?_eq_some_iff.mp hp).1
      have hlen := N.depthsTo_len i
      rw [List.length_take] at hlen
      have hr3 := s5 _ _ hr0
      refine ⟨_, rfl, .inl ⟨rfl, _, SqL.of hl3⟩, _, rfl, _, rfl, r, _, _, _, rfl, rfl, SqT.of hr3, rfl, l, _, _, _, rfl, rfl, SqL.of hl3, atI_ints (by omega),
        _, rfl, _, rfl, r, _, _, _, rfl, rfl, SqT.of hr3, rfl, l, _, _, _, rfl, rfl, SqL.of hl3, atI_ints (by omega), _, _, rfl, _, _, rfl, rfl, l, _, _, rfl, rfl, hl3, fitsL (by rw [List.length_map]; omega), ?_⟩
      refine ⟨_, rfl, s5.upd hlH, ?_⟩
      rw [upd_same, N.depthsTo_succ hp, dstep, List.map_append]
      rfl
    · rintro σ3 H3 ⟨v, rfl, s5, hl3⟩
      refine ⟨_, rfl, ?_⟩
      have e : rs.length = N.st.length := by rw [n2.st.length, steps_len]
      rw [e, N.depthsTo_all] at hl3
      exact (k H3 (s2.trans s5)).1 N hN rfl rfl rfl l hl3
abbrev s_used_nodes : Stmt := top 22
theorem sc_used_nodes : FnScope ["net", "wide", "steps", "marks", "out", "place"] ["net"] (defScope s_used_nodes) := ⟨rfl, rfl, rfl, by decide +kernel, rfl, by decide +kernel, by decide +kernel⟩
theorem ok_used_nodes {f : Addr} {fd : FuncData} (F : Fun K "used_nodes" "used_nodes" s_used_nodes f fd) (T : Txt K mg CB CK CR CT CW CS)  : FnOk P w K mg base (CX1 P w) 1 f fd ["net"] (spNetOk (tellBls NetN.used)) := by
  refine F.ok1 sc_used_nodes (fun vs H Q E h => ?_) (fun cdv A outer s H vs Q E hr h => ?_)
  · obtain ⟨a, sa, oa, rs, N, rfl, n, hN, k⟩ := h; rfl
  · obtain ⟨a, sa, oa, rs, N, rfl, n, hN, k⟩ := h
    have nd := sc_used_nodes.nd
    refine ⟨_, (pss_cons (ps_set (i := 1) nd rfl (Or.inl rfl) (pe_ix ix_tup (pv 0) pe_int (fun _ _ => rfl)))
       (pss_cons (ps_set (i := 2) nd rfl (Or.inl rfl) (pe_ix ix_tup (pv 0) pe_int (fun _ _ => rfl)))
       (pss_cons (ps_set (i := 3) nd rfl (Or.inl rfl) (pe_op op_rep (pe_lst (pa_cons pe_bl pa_nil)) (pe_op op_add (pv 1) (pe_callB call_len_seq rfl T.z_len boot_len (pa_cons (pv 2) pa_nil)))))
       (pss_cons (ps_for powns1 rfl (pi_list (pe_ix ix_tup (pv 0) pe_int (fun _ _ => rfl))) (pg_name (i := 4) nd rfl (Or.inl rfl))
       (pss_one (ps_asg pe_bl (pg_sub (pv 3) (pv 4) set_list))))
       (pss_cons (ps_for powns1 rfl (pi_down rfl T.z_range (pa_cons (pe_op op_sub (pe_callB call_len_seq rfl T.z_len boot_len (pa_cons (pv 2) pa_nil)) pe_int) (pa_cons (pe_un un_neg pe_int) (pa_cons (pe_un un_neg pe_int) pa_nil)))) (pg_name (i := 5) nd rfl (Or.inl rfl))
       (pss_one (ps_if (pt_truth (pe_ix ix_list (pv 3) (pe_op op_add (pv 1) (pv 5)) (fun _ _ => rfl)) (fun _ => rfl))
       (pss_cons (ps_asg pe_bl (pg_sub (pv 3) (pe_ix ix_tup (pe_ix ix_list (pv 2) (pv 5) (fun _ _ => rfl)) pe_int (fun _ _ => rfl)) set_list))
       (pss_one (ps_asg pe_bl (pg_sub (pv 3) (pe_ix ix_tup (pe_ix ix_list (pv 2) (pv 5) (fun _ _ => rfl)) pe_int (fun _ _ => rfl)) set_list))))
       pss_nil)))
       (pss_one (ps_ret (pv 3)))))))), ?_⟩
    have hw := hN.hi
    have hln := hN.len
    have hrl : rs.length = N.st.length := by rw [n.st.length, steps_len]
    refine ⟨_, rfl, _, _, _, _, rfl, rfl, SqT.of n.net, rfl, ?_⟩
    refine ⟨_, rfl, _, _, _, _, rfl, rfl, SqT.of n.net, rfl, ?_⟩
    refine ⟨(show 1 ≤ sizeLine by decide), fun q hq => ?_⟩
    have s3 : Same H (upd H q (.lst [.bl false])) := Same.new hq
    refine ⟨_, rfl, _, rfl, _, _, rfl, .inl (SqL.of (s3 _ _ n.sts)), _, _, rfl, rfl, q, _, _, rfl, rfl, upd_same, by omega, by omega, fits (by simp; omega), fun l hl => ?_⟩
    have hlH : H l = none := s3.free hl
    have s4 : ∀ o, Same H (upd (upd H q (.lst [.bl false])) l o) := fun o => s3.upd hlH
    have e1 : ((N.w : Int) + (rs.length : Int)).toNat = N.w + N.st.length := by omega
    rw [e1, rep_bl]
    refine ⟨_, rfl, _, _, _, _, rfl, rfl, SqT.of (s4 _ _ _ n.net), rfl, oa, rfl, ⟨_, SqL.of (s4 _ _ _ n.ots)⟩, for_list (K := K) (a := oa) (xs := N.outs.map V.int) (fun i σ3 H3 => ∃ v v', σ3 = [some (.ref a), some (.int N.w), some (.ref sa), some (.ref l), v, v'] ∧ Same H H3 ∧ H3 l = some (.lst ((markOuts (N.ou.take i) (List.replicate (N.w + N.st.length) false)).map V.bl)))
      ⟨_, _, rfl, s4 _, by rw [upd_same]; rfl⟩ (fun i σ3 H3 _ ⟨_, _, _, s5, _⟩ => SqL.of (s5 _ _ n.ots)) ?_ ?_⟩
    · rintro i x σ3 H3 hx ⟨v, v', rfl, s5, hl3⟩
      obtain ⟨o, ho, rfl⟩ := outs_get hx
      have hob := hN.ob o (List.mem_of_getElem? ho)
      refine ⟨_, rfl, _, rfl, l, _, _, o, rfl, rfl, hl3, ixN_nat (by rw [List.length_map, markOuts_len, List.length_replicate]; exact hob), ?_⟩
      refine ⟨_, _, rfl, s5.upd hlH, ?_⟩
      rw [upd_same]
      unfold markOuts
      rw [foldl_take _ _ _ _ _ ho, List.map_set]
    · rintro σ3 H3 ⟨v, v', rfl, s5, hl3⟩
      have e0 : markOuts (N.ou.take (N.outs.map V.int).length) (List.replicate (N.w + N.st.length) false) = N.marks0 := by
        rw [List.length_map, outs_len, List.take_length]; rfl
      rw [e0] at hl3
      refine ⟨_, rfl, _, _, rfl, .inl (SqL.of (s5 _ _ n.sts)), _, _, rfl, rfl, _, rfl, _, rfl, _, _, rfl, ⟨by omega, by omega, by omega, by omega⟩, ?_⟩
      have e2 : ((rs.length : Int) - 1 - -1).toNat = N.st.length := by omega
      rw [e2]
      refine for_down (lo := (rs.length : Int) - 1) (n := N.st.length) (fun i σ3 H3 => ∃ v v', σ3 = [some (.ref a), some (.int N.w), some (.ref sa), some (.ref l), v, v'] ∧ Same H H3 ∧ H3 l = some (.lst ((N.backTo i).map V.bl)))
        ⟨_, _, rfl, s5, hl3⟩ ?_ ?_
      · rintro i σ3 H3 hi ⟨v, v', rfl, s5, hl3⟩
        have hk : N.st.length - 1 - i < N.st.length := by omega
        have e3 : (rs.length : Int) - 1 - (i : Int) = ((N.st.length - 1 - i : Nat) : Int) := by omega
        have e4 : (N.w : Int) + ((N.st.length - 1 - i : Nat) : Int) = ((N.w + (N.st.length - 1 - i) : Nat) : Int) := by omega
        have hbl := N.backTo_len i
        obtain ⟨p, hp⟩ : ∃ p, N.st[N.st.length - 1 - i]? = some p := ⟨_, List.getElem?_eq_getElem hk⟩
        obtain ⟨p1, p2⟩ := hN.s1 _ p hp
        rw [e3]
        refine ⟨_, rfl, _, rfl, _, rfl, _, _, rfl, rfl, l, _, _, .bl ((N.backTo i).getD (N.w + (N.st.length - 1 - i)) false), rfl, rfl, SqL.of hl3, (by rw [e4]; exact atI_bls (by omega)), _, rfl, ?_⟩
        have hD : N.st.getD (N.st.length - 1 - i) (0, 0) = p := by rw [List.getD_eq_getElem?_getD, hp]; rfl
        refine iteB (fun h1 => ?_) (fun h1 => ?_)
        · obtain ⟨x, hx⟩ : ∃ x, rs[N.st.length - 1 - i]? = some x := ⟨_, List.getElem?_eq_getElem (by omega)⟩
          obtain ⟨r, p', rfl, hp', hr0⟩ := NetN.Ok.steps_get n.st hx
          rw [hp] at hp'; cases hp'
          refine ⟨_, rfl, _, rfl, _, rfl, sa, _, _, _, rfl, rfl, SqL.of (s5 _ _ n.sts), atI_nat hx, r, _, _, _, rfl, rfl, SqT.of (s5 _ _ hr0), rfl, l, _, _, p.1, rfl, rfl, hl3, ixN_nat (by rw [List.length_map]; omega), ?_⟩
          have s6 : ∀ o, Same H (upd H3 l o) := fun o => s5.upd hlH
          refine ⟨_, rfl, _, rfl, _, rfl, sa, _, _, _, rfl, rfl, SqL.of (s6 _ _ _ n.sts), atI_nat hx, r, _, _, _, rfl, rfl, SqT.of (s6 _ _ _ hr0), rfl, l, _, _, p.2, rfl, rfl, upd_same, ixN_nat (by rw [List.length_set, List.length_map]; omega), ?_⟩
          refine ⟨_, _, rfl, (s6 _).upd hlH, ?_⟩
          rw [upd_same]
          show _ = some (HO.lst ((N.bstep (N.st.length - 1 - i) (N.backTo i)).map V.bl))
          unfold NetN.bstep
          rw [if_pos h1, hD, List.map_set, List.map_set]
        · refine ⟨_, _, rfl, s5, ?_⟩
          show _ = some (HO.lst ((N.bstep (N.st.length - 1 - i) (N.backTo i)).map V.bl))
          unfold NetN.bstep
          rw [if_neg (by rw [h1]; exact Bool.false_ne_true)]
          exact hl3
      · rintro σ3 H3 ⟨v, v', rfl, s5, hl3⟩
        refine ⟨_, rfl, ?_⟩
        rw [N.used_backTo] at hl3
        exact k H3 s5 l hl3
abbrev s_used : Stmt := top 21
theorem sc_used : FnScope ["net"] ["net"] (defScope s_used) := ⟨rfl, rfl, rfl, by decide +kernel, rfl, by decide +kernel, by decide +kernel⟩
theorem ok_used {f : Addr} {fd : FuncData} (F : Fun K "used" "used" s_used f fd) (T : Txt K mg CB CK CR CT CW CS) (d_look_net : Df P w K mg base "look_net" 6 ["net"] (spLook CB)) (d_used_nodes : Df P w K mg base "used_nodes" 1 ["net"] (spNetOk (tellBls NetN.used))) : FnOk P w K mg base (CX1 P w) 7 f fd ["net"] (spNetFn CB (tellBls NetN.used)) := by
  refine F.ok1 sc_used (fun vs H Q E h => ?_) (fun cdv A outer s H vs Q E hr h => ?_)
  · obtain ⟨a, sa, oa, rs, wide, steps, outs, rfl, hol, n, k⟩ := h; rfl
  · obtain ⟨a, sa, oa, rs, wide, steps, outs, rfl, hol, n, k⟩ := h
    have nd := sc_used.nd
    refine ⟨_, (pss_cons (ps_expr (pe_own d_look_net (hr.mono (by first | decide | omega)) rfl pass1 (pa_cons (pv 0) pa_nil)))
       (pss_one (ps_ret (pe_own d_used_nodes (hr.mono (by first | decide | omega)) rfl pass1 (pa_cons (pv 0) pa_nil))))), ?_⟩
    refine ⟨_, rfl, a, sa, oa, rs, wide, steps, outs, rfl, hol, n, fun H2 s2 => ⟨fun g => ?_, fun g => (k H2 s2).2 g⟩⟩
    obtain ⟨N, hN, rfl, rfl, rfl⟩ := g.net
    exact ⟨_, rfl, a, sa, oa, rs, N, rfl, n.mono s2, hN, fun H3 s3 => (k H3 (s2.trans s3)).1 N hN rfl rfl rfl⟩
abbrev s_fan : Stmt := top 23
theorem sc_fan : FnScope ["net", "counts", "step", "out"] ["net"] (defScope s_fan) := ⟨rfl, rfl, rfl, by decide +kernel, rfl, by decide +kernel, by decide +kernel⟩
theorem ok_fan {f : Addr} {fd : FuncData} (F : Fun K "fan" "fan" s_fan f fd) (T : Txt K mg CB CK CR CT CW CS) (d_look_net : Df P w K mg base "look_net" 6 ["net"] (spLook CB)) : FnOk P w K mg base (CX1 P w) 7 f fd ["net"] (spNetFn CB (tellInts NetN.fan)) := by
  refine F.ok1 sc_fan (fun vs H Q E h => ?_) (fun cdv A outer s H vs Q E hr h => ?_)
  · obtain ⟨a, sa, oa, rs, wide, steps, outs, rfl, hol, n, k⟩ := h; rfl
  · obtain ⟨a, sa, oa, rs, wide, steps, outs, rfl, hol, n, k⟩ := h
    have nd := sc_fan.nd
    refine ⟨_, (pss_cons (ps_expr (pe_own d_look_net (hr.mono (by first | decide | omega)) rfl pass1 (pa_cons (pv 0) pa_nil)))
       (pss_cons (ps_set (i := 1) nd rfl (Or.inl rfl) (pe_op op_rep (pe_lst (pa_cons pe_int pa_nil)) (pe_op op_add (pe_ix ix_tup (pv 0) pe_int (fun _ _ => rfl)) (pe_callB call_len_seq rfl T.z_len boot_len (pa_cons (pe_ix ix_tup (pv 0) pe_int (fun _ _ => rfl)) pa_nil)))))
       (pss_cons (ps_for powns1 rfl (pi_list (pe_ix ix_tup (pv 0) pe_int (fun _ _ => rfl))) (pg_name (i := 2) nd rfl (Or.inl rfl))
       (pss_cons (ps_augS (pv 1) (pe_ix ix_tup (pv 2) pe_int (fun _ _ => rfl)) get_list pe_int ip_add set_list)
       (pss_one (ps_augS (pv 1) (pe_ix ix_tup (pv 2) pe_int (fun _ _ => rfl)) get_list pe_int ip_add set_list))))
       (pss_cons (ps_for powns1 rfl (pi_list (pe_ix ix_tup (pv 0) pe_int (fun _ _ => rfl))) (pg_name (i := 3) nd rfl (Or.inl rfl))
       (pss_one (ps_augS (pv 1) (pv 3) get_list pe_int ip_add set_list)))
       (pss_one (ps_ret (pv 1))))))), ?_⟩
    refine ⟨_, rfl, a, sa, oa, rs, wide, steps, outs, rfl, hol, n, fun H2 s2 => ⟨fun g => ?_, fun g => (k H2 s2).2 g⟩⟩
    obtain ⟨N, hN, rfl, rfl, rfl⟩ := g.net
    have n2 := n.mono s2
    have hw := hN.hi
    have hln := hN.len
    have hrl : rs.length = N.st.length := by rw [n2.st.length, steps_len]
    refine ⟨(show 1 ≤ sizeLine by decide), fun q hq => ?_⟩
    have s3 : Same H2 (upd H2 q (.lst [.int 0])) := Same.new hq
    refine ⟨_, rfl, _, _, _, _, rfl, rfl, SqT.of (s3 _ _ n2.net), rfl, _, rfl, _, _, _, _, rfl, rfl, SqT.of (s3 _ _ n2.net), rfl, _, _, rfl, .inl (SqL.of (s3 _ _ n2.sts)), _, _, rfl, rfl, q, _, _, rfl, rfl, upd_same, by omega, by omega, fits (by simp; omega), fun l hl => ?_⟩
    have hlH : H2 l = none := s3.free hl
    have s4 : ∀ o, Same H2 (upd (upd H2 q (.lst [.int 0])) l o) := fun o => s3.upd hlH
    have e1 : ((N.w : Int) + (rs.length : Int)).toNat = N.w + N.st.length := by omega
    rw [e1, rep_int]
    refine ⟨_, rfl, _, _, _, _, rfl, rfl, SqT.of (s4 _ _ _ n2.net), rfl, sa, rfl, ⟨_, SqL.of (s4 _ _ _ n2.sts)⟩, for_list (K := K) (a := sa) (xs := rs) (fun i σ3 H3 => ∃ v v', σ3 = [some (.ref a), some (.ref l), v, v'] ∧ Same H2 H3 ∧ H3 l = some (.lst ((N.fanS i).map V.int)))
      ⟨_, _, rfl, s4 _, by rw [upd_same, N.fanS_zero]⟩ (fun i σ3 H3 _ ⟨_, _, _, s5, _⟩ => SqL.of (s5 _ _ n2.sts)) ?_ ?_⟩
    · rintro i x σ3 H3 hx ⟨v, v', rfl, s5, hl3⟩
      obtain ⟨r, p, rfl, hp, hr0⟩ := NetN.Ok.steps_get n2.st hx
      obtain ⟨p1, p2⟩ := hN.s1 i p hp
      have hil := (List.getElem?_eq_some_iff.mp hp).1
      have hlen := N.fanS_len i
      have b1 : p.1 < (N.fanS i).length := by omega
      have b2 : p.2 < (NM.bump (N.fanS i) p.1).length := by rw [bump_len]; omega
      refine ⟨_, rfl, _, rfl, r, _, _, _, rfl, rfl, SqT.of (s5 _ _ hr0), rfl, l, _, _, _, rfl, rfl, SqL.of hl3, (by omega), ints_get b1, _, _, rfl, rfl, l, _, _, p.1, rfl, rfl, hl3, ixN_nat (by rw [List.length_map]; exact b1), ?_⟩
      have s6 : ∀ o, Same H2 (upd H3 l o) := fun o => s5.upd hlH
      have e5 : ((N.fanS i).map V.int).set p.1 (.int ((N.fanS i).getD p.1 0 + 1)) = (NM.bump (N.fanS i) p.1).map V.int := by unfold NM.bump; rw [List.map_set]
      rw [e5]
      refine ⟨_, rfl, _, rfl, r, _, _, _, rfl, rfl, SqT.of (s6 _ _ _ hr0), rfl, l, _, _, _, rfl, rfl, SqL.of upd_same, (by omega), ints_get b2, _, _, rfl, rfl, l, _, _, p.2, rfl, rfl, upd_same, ixN_nat (by rw [List.length_map]; exact b2), ?_⟩
      refine ⟨_, _, rfl, (s6 _).upd hlH, ?_⟩
      rw [upd_same, N.fanS_succ hp]
      show some (HO.lst _) = some (HO.lst ((NM.bump (NM.bump (N.fanS i) p.1) p.2).map V.int))
      simp only [NM.bump, List.map_set]
    · rintro σ3 H3 ⟨v, v', rfl, s5, hl3⟩
      rw [hrl] at hl3
      refine ⟨_, rfl, _, _, _, _, rfl, rfl, SqT.of (s5 _ _ n2.net), rfl, oa, rfl, ⟨_, SqL.of (s5 _ _ n2.ots)⟩, for_list (K := K) (a := oa) (xs := N.outs.map V.int) (fun i σ3 H3 => ∃ v v', σ3 = [some (.ref a), some (.ref l), v, v'] ∧ Same H2 H3 ∧ H3 l = some (.lst ((N.fanO i).map V.int)))
        ⟨_, _, rfl, s5, by rw [N.fanO_zero]; exact hl3⟩ (fun i σ3 H3 _ ⟨_, _, _, s5, _⟩ => SqL.of (s5 _ _ n2.ots)) ?_ ?_⟩
      · rintro i x σ3 H3 hx ⟨v, v', rfl, s5, hl3⟩
        obtain ⟨o, ho, rfl⟩ := outs_get hx
        have hob := hN.ob o (List.mem_of_getElem? ho)
        have hlen := N.fanO_len i
        have b1 : o < (N.fanO i).length := by omega
        refine ⟨_, rfl, _, rfl, l, _, _, _, rfl, rfl, SqL.of hl3, (by omega), ints_get b1, _, _, rfl, rfl, l, _, _, o, rfl, rfl, hl3, ixN_nat (by rw [List.length_map]; exact b1), ?_⟩
        refine ⟨_, _, rfl, s5.upd hlH, ?_⟩
        rw [upd_same, N.fanO_succ ho]
        unfold NM.bump
        rw [List.map_set]
      · rintro σ3 H3 ⟨v, v', rfl, s5, hl3⟩
        refine ⟨_, rfl, ?_⟩
        rw [List.length_map, outs_len] at hl3
        exact (k H3 (s2.trans s5)).1 N hN rfl rfl rfl l hl3
abbrev s_depth : Stmt := top 20
theorem sc_depth : FnScope ["net", "found"] ["net"] (defScope s_depth) := ⟨rfl, rfl, rfl, by decide +kernel, rfl, by decide +kernel, by decide +kernel⟩
theorem ok_depth {f : Addr} {fd : FuncData} (F : Fun K "depth" "depth" s_depth f fd) (T : Txt K mg CB CK CR CT CW CS) (d_depths : Df P w K mg base "depths" 7 ["net"] (spNetFn CB (tellInts NetN.depths))) : FnOk P w K mg base (CX1 P w) 8 f fd ["net"] (spNetFn CB (tellBest outDepths)) := by
  refine F.ok1 sc_depth (fun vs H Q E h => ?_) (fun cdv A outer s H vs Q E hr h => ?_)
  · obtain ⟨a, sa, oa, rs, wide, steps, outs, rfl, hol, n, k⟩ := h; rfl
  · obtain ⟨a, sa, oa, rs, wide, steps, outs, rfl, hol, n, k⟩ := h
    have nd := sc_depth.nd
    refine ⟨_, (pss_cons (ps_set (i := 1) nd rfl (Or.inr rfl) (pe_own d_depths (hr.mono (by first | decide | omega)) rfl pass1 (pa_cons (pv 0) pa_nil)))
       (pss_one (ps_ret (pe_callB (call_maxL rfl) rfl T.z_max boot_max (pa_cons (pe_comp (ot := none) [1] rfl (pi_list (pe_ix ix_tup (pv 0) pe_int (fun _ _ => rfl))) (fun _ _ _ _ => (pe_ix (show IxR _ (rIxL K) from ix_list) (pv 1) (pv 0) (fun _ _ => rfl))) (fun _ _ _ _ => trivial) rfl (nodupS_of rfl)) pa_nil))))), ?_⟩
    refine ⟨_, rfl, a, sa, oa, rs, wide, steps, outs, rfl, hol, n, fun H2 s2 => ⟨fun N hN e1 e2 e3 => ?_, fun g => (k H2 s2).2 g⟩⟩
    subst e1 e2 e3
    intro l hl
    have n2 := n.mono s2
    have hw := hN.hi
    have hol := hN.ol
    have hdl : N.depths.length = N.w + N.st.length := by rw [← N.depthsTo_all, N.depthsTo_len, List.take_length]
    refine ⟨_, rfl, _, _, _, _, rfl, rfl, SqT.of n2.net, rfl, oa, rfl, ⟨_, SqL.of n2.ots⟩, ?_⟩
    refine comp_list (K := K) (a := oa) (xs := N.outs.map V.int) (fun i ys H3 => Same H2 H3 ∧ ys = ((N.ou.take i).map fun o => N.depths.getD o 0).map V.int) ⟨Same.refl H2, rfl⟩ (fun i ys H3 _ ⟨s3, _⟩ => SqL.of (s3 _ _ n2.ots)) (fun i ys H3 _ ⟨_, e⟩ => ?_) ?_ ?_
    · rw [e, List.length_map, List.length_map, List.length_take]
      exact fitsL (by omega)
    · rintro i x ys H3 R hx ⟨s3, rfl⟩ kR
      obtain ⟨o, ho, rfl⟩ := outs_get hx
      have hob := hN.ob o (List.mem_of_getElem? ho)
      refine ⟨_, rfl, _, rfl, l, _, _, _, rfl, rfl, SqL.of (s3 _ _ hl), atI_ints (by omega), kR _ _ ⟨s3, ?_⟩⟩
      rw [List.take_add_one, ho, List.map_append, List.map_append]
      rfl
    · rintro ys H3 ⟨s3, rfl⟩
      intro p hp
      have e : ((N.ou.take (N.outs.map V.int).length).map fun o => N.depths.getD o 0) = outDepths N := by
        rw [List.length_map, outs_len, List.take_length]; rfl
      rw [e]
      refine ⟨p, _, rfl, .inl (SqL.of upd_same), ?_, fun M hM hb => (k _ ((s2.trans s3).trans (Same.new hp))).1 N hN rfl rfl rfl M hM hb⟩
      unfold outDepths
      intro z
      have z2 := congrArg List.length z
      rw [List.length_map, List.length_nil] at z2
      have := hN.lo
      omega
abbrev s__law_cell : Stmt := top 25
theorem sc__law_cell : FnScope ["_law_script", "_law_k"] ["_law_script", "_law_k"] (defScope s__law_cell) := ⟨rfl, rfl, rfl, by decide +kernel, rfl, by decide +kernel, by decide +kernel⟩
theorem ok__law_cell {f : Addr} {fd : FuncData} (F : Fun K "_law_cell" "_law_cell" s__law_cell f fd) (T : Txt K mg CB CK CR CT CW CS)  : FnOk P w K mg base (CX1 P w) 1 f fd ["_law_script", "_law_k"] (spCell K) := by
  refine F.ok1 sc__law_cell (fun vs H Q E h => ?_) (fun cdv A outer s H vs Q E hr h => ?_)
  · obtain ⟨a, ns, k, rfl, S, q⟩ := h; rfl
  · obtain ⟨a, ns, k, rfl, S, q⟩ := h
    have nd := sc__law_cell.nd
    refine ⟨_, (pss_cons (ps_if (pt_truth (pv 0) (fun _ => rfl))
       (pss_one (ps_ret (pe_ix ix_list (pv 0) (pe_op op_mod (pv 1) (pe_callB call_len_seq rfl T.z_len boot_len (pa_cons (pv 0) pa_nil))) (fun _ _ => rfl))))
       pss_nil)
       (pss_one (ps_ret pe_int))), ?_⟩
    refine ⟨_, rfl, _, .inl ⟨_, S, rfl⟩, iteN (fun h1 => ?_) (fun h1 => q 0)⟩
    have hne : ns ≠ [] := fun z => by rw [z] at h1; cases h1
    obtain ⟨z, hz⟩ := mod_at (k := k) hne
    have hp := pos_of_ne hne
    exact ⟨_, rfl, _, rfl, _, rfl, _, _, rfl, .inl S, _, _, rfl, rfl, (by rw [List.length_map]; omega), a, _, _, _, rfl, rfl, S, hz, q _⟩
abbrev s__law_mix : Stmt := top 26
theorem sc__law_mix : FnScope ["_law_script", "_law_k", "_law_number"] ["_law_script", "_law_k"] (defScope s__law_mix) := ⟨rfl, rfl, rfl, by decide +kernel, rfl, by decide +kernel, by decide +kernel⟩
theorem ok__law_mix {f : Addr} {fd : FuncData} (F : Fun K "_law_mix" "_law_mix" s__law_mix f fd) (T : Txt K mg CB CK CR CT CW CS) (d__law_cell : Df P w K mg base "_law_cell" 1 ["_law_script", "_law_k"] (spCell K)) : FnOk P w K mg base (CX1 P w) 2 f fd ["_law_script", "_law_k"] (spMix K) := by
  refine F.ok1 sc__law_mix (fun vs H Q E h => ?_) (fun cdv A outer s H vs Q E hr h => ?_)
  · obtain ⟨a, ns, k, rfl, S, q⟩ := h; rfl
  · obtain ⟨a, ns, k, rfl, S, q⟩ := h
    have nd := sc__law_mix.nd
    refine ⟨_, (pss_cons (ps_set (i := 2) nd rfl (Or.inl rfl) (pe_op op_mod (pe_op op_add (pe_own d__law_cell (hr.mono (by first | decide | omega)) rfl pass1 (pa_cons (pv 0) (pa_cons (pv 1) pa_nil))) (pe_op op_mul pe_int (pe_op op_add (pv 1) pe_int))) pe_int))
       (pss_cons (ps_set (i := 2) nd rfl (Or.inl rfl) (pe_op op_mod (pe_op op_mul (pv 2) pe_int) pe_int))
       (pss_one (ps_ret (pe_op op_mod (pe_op op_add (pe_op op_mul (pe_op op_fdiv (pv 2) pe_int) pe_int) (pv 2)) pe_int))))), ?_⟩
    refine ⟨_, rfl, _, rfl, a, ns, k, rfl, S, fun i => ?_⟩
    refine ⟨_, rfl, _, _, rfl, rfl, _, _, rfl, rfl, .inl ⟨by decide, by decide⟩, _, _, rfl, rfl, _, _, rfl, rfl, (show (0 : Int) < 4294967291 by decide), ?_⟩
    refine ⟨_, rfl, _, _, rfl, rfl, .inr ⟨by decide, by decide⟩, _, _, rfl, rfl, (show (0 : Int) < 4294967279 by decide), ?_⟩
    refine ⟨_, rfl, _, _, rfl, rfl, ⟨by decide, by decide⟩, _, _, rfl, rfl, .inr ⟨by decide, by decide⟩, _, rfl, _, _, rfl, rfl, _, _, rfl, rfl, (show (0 : Int) < 4294967231 by decide), ?_⟩
    exact q _ (Int.emod_nonneg _ (by decide))
abbrev s__law_whole : Stmt := top 27
theorem sc__law_whole : FnScope ["_law_found"] ["_law_found"] (defScope s__law_whole) := ⟨rfl, rfl, rfl, by decide +kernel, rfl, by decide +kernel, by decide +kernel⟩
theorem ok__law_whole {f : Addr} {fd : FuncData} (F : Fun K "_law_whole" "_law_whole" s__law_whole f fd) (T : Txt K mg CB CK CR CT CW CS)  : FnOk P w K mg base (CX1 P w) 1 f fd ["_law_found"] (spWhole) := by
  refine F.ok1 sc__law_whole (fun vs H Q E h => ?_) (fun cdv A outer s H vs Q E hr h => ?_)
  · obtain ⟨i, rfl, q⟩ := h; rfl
  · obtain ⟨i, rfl, q⟩ := h
    have nd := sc__law_whole.nd
    refine ⟨_, (pss_one (ps_ret (pe_and (pe_callB call_isi rfl T.z_isinstance boot_isinstance (pa_cons (pv 0) (pa_cons (pe_bltn (v := .ty "int") rfl T.z_int boot_int rfl) pa_nil))) (pe_one (pe_not (pe_callB call_isi rfl T.z_isinstance boot_isinstance (pa_cons (pv 0) (pa_cons (pe_bltn (v := .ty "bool") rfl T.z_bool boot_bool rfl) pa_nil)))))))), ?_⟩
    refine ⟨_, rfl, _, _, _, _, true, rfl, rfl, .int i, rfl, true, rfl, iteT ?_⟩
    exact ⟨_, rfl, _, _, _, _, false, rfl, rfl, .int i, (by kernel_rfl), false, rfl, q⟩
abbrev s__law_net : Stmt := top 28
theorem sc__law_net : FnScope ["_law_script", "_law_k", "_law_most", "_law_wide", "_law_steps", "_law_j", "_law_number", "_law_other", "_law_one", "_law_outs"] ["_law_script", "_law_k", "_law_most"] (defScope s__law_net) := ⟨rfl, rfl, rfl, by decide +kernel, rfl, by decide +kernel, by decide +kernel⟩
theorem ok__law_net {f : Addr} {fd : FuncData} (F : Fun K "_law_net" "_law_net" s__law_net f fd) (T : Txt K mg CB CK CR CT CW CS) (d__law_mix : Df P w K mg base "_law_mix" 2 ["_law_script", "_law_k"] (spMix K)) : FnOk P w K mg base (CX1 P w) 3 f fd ["_law_script", "_law_k", "_law_most"] (spDrawn K) := by
  refine F.ok1 sc__law_net (fun vs H Q E h => ?_) (fun cdv A outer s H vs Q E hr h => ?_)
  · obtain ⟨a, ns, k, most, rfl, m1, m2, S, q⟩ := h; rfl
  · obtain ⟨a, ns, k, most, rfl, m1, m2, S, q⟩ := h
    have nd := sc__law_net.nd
    refine ⟨_, (pss_cons (ps_set (i := 3) nd rfl (Or.inr rfl) (pe_op op_add pe_int (pe_op op_mod (pe_own d__law_mix (hr.mono (by first | decide | omega)) rfl pass1 (pa_cons (pv 0) (pa_cons (pv 1) pa_nil))) (pv 2))))
       (pss_cons (ps_set (i := 4) nd rfl (Or.inr rfl) (pe_lst pa_nil))
       (pss_cons (ps_for powns1 rfl (pi_range1 rfl T.z_range (pa_cons (pe_op op_mod (pe_own d__law_mix (hr.mono (by first | decide | omega)) rfl pass1 (pa_cons (pv 0) (pa_cons (pe_op op_add (pv 1) pe_int) pa_nil))) pe_int) pa_nil)) (pg_name (i := 5) nd rfl (Or.inl rfl))
       (pss_cons (ps_set (i := 6) nd rfl (Or.inl rfl) (pe_own d__law_mix (hr.mono (by first | decide | omega)) rfl pass1 (pa_cons (pv 0) (pa_cons (pe_op op_add (pe_op op_add (pv 1) pe_int) (pv 5)) pa_nil))))
       (pss_cons (ps_set (i := 7) nd rfl (Or.inl rfl) (pe_op op_mod (pe_op op_fdiv (pv 6) pe_int) (pe_op op_add (pv 3) (pv 5))))
       (pss_cons (ps_set (i := 8) nd rfl (Or.inl rfl) (pe_ix ix_list (pe_lst (pa_cons (pe_callB (call_max2 rfl) rfl T.z_max boot_max (pa_cons pe_int (pa_cons (pe_op op_sub (pv 7) pe_int) pa_nil))) (pa_cons (pe_op op_mod (pv 6) (pe_op op_add (pv 3) (pv 5))) (pa_cons (pv 7) (pa_cons (pe_op op_sub (pe_op op_add (pv 3) (pv 5)) pe_int) pa_nil))))) (pe_op op_mod (pe_op op_fdiv (pv 6) pe_int) pe_int) (fun _ _ => rfl)))
       (pss_one (ps_expr (pe_bm PySem.F.plainAttrs_list PySem.F.slot_list_append PySem.F.type_list_append mt_append (pv 4) (pa_cons (pe_tup (pa_cons (pv 8) (pa_cons (pv 7) pa_nil))) pa_nil))))))))
       (pss_cons (ps_setcomp (ot := none) 9 [0, 1, 3, 4] rfl nd rfl rfl (pi_range1 rfl T.z_range (pa_cons (pv 3) pa_nil)) (fun _ _ _ _ => (pe_op op_mod (pe_own d__law_mix (hr.mono (by first | decide | omega)) rfl pass10 (pa_cons (pv 1) (pa_cons (pe_op op_add (pe_op op_add (pv 2) pe_int) (pv 0)) pa_nil))) (pe_op op_add (pv 3) (pe_callB (show CallR _ _ (rLenS K) from call_lenS) rfl T.z_len boot_len (pa_cons (pv 4) pa_nil))))) (fun _ _ _ _ => trivial) rfl (nodupS_of rfl))
       (pss_one (ps_ret (pe_tup (pa_cons (pv 3) (pa_cons (pv 4) (pa_cons (pv 9) pa_nil)))))))))), ?_⟩
    refine ⟨_, rfl, _, rfl, a, ns, k, rfl, S, fun i hi => ?_⟩
    refine ⟨_, rfl, _, _, rfl, rfl, (by omega), _, _, rfl, rfl, ?_⟩
    have w0 := Int.emod_nonneg i (show most ≠ 0 by omega)
    have w1 := Int.emod_lt_of_pos i (show 0 < most by omega)
    generalize hw : i % most = w' at w0 w1 ⊢
    refine ⟨(show 0 ≤ sizeLine by decide), fun sa hsa => ?_⟩
    have s1 : ∀ o, Same H (upd H sa o) := fun o => Same.new hsa
    refine ⟨_, rfl, _, rfl, _, _, rfl, rfl, a, ns, _, rfl, (s1 _).seq S, fun i2 hi2 => ?_⟩
    have c0 := Int.emod_nonneg i2 (show (9 : Int) ≠ 0 by decide)
    have c1 := Int.emod_lt_of_pos i2 (show (0 : Int) < 9 by decide)
    refine ⟨_, _, rfl, rfl, (show (0 : Int) < 9 by decide), _, rfl, (by omega), (by omega), ?_⟩
    generalize i2 % 9 = c at c0 c1 ⊢
    refine for_range (lo := 0) (n := c.toNat) (fun j σ2 H2 => ∃ rs ls v5 v6 v7 v8 v9, σ2 = [some (.ref a), some (.int k), some (.int most), some (.int (1 + w')), some (.ref sa), v5, v6, v7, v8, v9] ∧ Same H H2 ∧ H2 sa = some (.lst rs) ∧ StepsAt H2 rs ls ∧ ls.length = j ∧ ∀ l ∈ ls, l.length = 2)
      ⟨[], [], _, _, _, _, _, rfl, s1 _, upd_same, .nil, rfl, fun l z => nomatch z⟩ ?_ ?_
    · rintro j σ2 H2 hj ⟨rs, ls, v5, v6, v7, v8, v9, rfl, s2, hs2, st2, hll, h2⟩
      refine ⟨_, rfl, _, rfl, _, _, rfl, rfl, _, rfl, _, _, rfl, rfl, a, ns, _, rfl, s2.seq S, fun num hn => ?_⟩
      have pos : 0 < 1 + w' + (0 + (j : Int)) := by omega
      refine ⟨_, rfl, _, _, rfl, rfl, ⟨by decide, by decide⟩, _, rfl, _, rfl, _, _, rfl, rfl, _, _, rfl, rfl, pos, ?_⟩
      have d0 := Int.emod_nonneg (num / 4096) (show (4 : Int) ≠ 0 by decide)
      have d1 := Int.emod_lt_of_pos (num / 4096) (show (0 : Int) < 4 by decide)
      refine ⟨_, rfl, _, _, rfl, rfl, _, _, rfl, _, rfl, _, rfl, _, rfl, _, _, rfl, rfl, _, _, rfl, rfl, pos, _, rfl, _, rfl, _, rfl, _, _, rfl, rfl, _, _, rfl, rfl, (show 4 ≤ sizeLine by decide), fun q4 hq4 => ?_⟩
      obtain ⟨one, hone⟩ := at4 (a := (if num / 64 % (1 + w' + (0 + (j : Int))) - 1 > 0 then num / 64 % (1 + w' + (0 + (j : Int))) - 1 else 0)) (b := num % (1 + w' + (0 + (j : Int)))) (c := num / 64 % (1 + w' + (0 + (j : Int)))) (d := 1 + w' + (0 + (j : Int)) - 1) d0 d1
      refine ⟨_, rfl, _, _, rfl, rfl, ⟨by decide, by decide⟩, _, _, rfl, rfl, (show (0 : Int) < 4 by decide), q4, _, _, _, rfl, rfl, SqL.of upd_same, hone, ?_⟩
      have s3 : ∀ o, Same H2 (upd H2 q4 o) := fun o => Same.new hq4
      refine ⟨_, rfl, .inl ⟨rfl, _, SqL.of (s3 _ _ _ hs2)⟩, _, rfl, _, rfl, (show 2 ≤ sizeLine by decide), fun t ht => ?_⟩
      have s4 : ∀ o o', Same H2 (upd (upd H2 q4 o) t o') := fun o o' => (s3 o).upd ((s3 _).free ht)
      refine ⟨sa, _, _, rfl, rfl, s4 _ _ _ _ hs2, fitsL (by rw [st2.length]; omega), ?_⟩
      have hsaH : ∀ o o' o2, Same H (upd (upd (upd H2 q4 o) t o') sa o2) := fun o o' o2 => ((s2.trans (s4 o o'))).upd hsa
      have ne : ∀ r u, H2 r = some (.tup u) → r ≠ sa := fun r u e => ne_of e hs2 (by intro z; cases z)
      have tne : t ≠ sa := fun z => by rw [z] at ht; rw [s3 _ _ _ hs2] at ht; cases ht
      refine ⟨rs ++ [.ref t], ls ++ [[one, num / 64 % (1 + w' + (0 + (j : Int)))]], _, _, _, _, _, rfl, hsaH _ _ _, upd_same, ?_, by rw [List.length_append, hll]; rfl, fun l hl => ?_⟩
      · refine StepsAt.snoc (st2.keep fun r u e => ?_) ?_
        · rw [upd_ne (ne r u e)]
          exact s4 _ _ _ _ e
        · rw [upd_ne tne, upd_same]
          rfl
      · rcases List.mem_append.mp hl with z | z
        · exact h2 l z
        · have : l = [one, num / 64 % (1 + w' + (0 + (j : Int)))] := by simpa using z
          rw [this]; rfl
    · rintro σ2 H2 ⟨rs, ls, v5, v6, v7, v8, v9, rfl, s2, hs2, st2, hll, h2⟩
      have hrl := st2.length
      refine ⟨_, rfl, _, rfl, (by omega), (by omega), ?_⟩
      refine comp_range (lo := 0) (n := (1 + w').toNat) (fun j ys H3 => ∃ os : List Int, Same H2 H3 ∧ ys = os.map V.int ∧ os.length = j) ⟨[], Same.refl H2, rfl, rfl⟩ (fun j ys H3 hj ⟨os, _, e, hl⟩ => ?_) ?_ ?_
      · rw [e, List.length_map, hl]
        exact fitsL (by omega)
      · rintro j ys H3 R hj ⟨os, s3, rfl, hl⟩ kR
        refine ⟨_, rfl, _, rfl, _, _, rfl, rfl, _, rfl, _, _, rfl, rfl, a, ns, _, rfl, (s2.trans s3).seq S, fun num hn => ?_⟩
        refine ⟨_, rfl, _, rfl, _, _, rfl, .inl (SqL.of (s3 _ _ hs2)), _, _, rfl, rfl, _, _, rfl, rfl, (by omega), kR _ _ ⟨os ++ [_], s3, by rw [List.map_append]; rfl, by rw [List.length_append, hl]; rfl⟩⟩
      · rintro ys H3 ⟨os, s3, rfl, hl⟩
        intro oa hoa
        refine ⟨_, rfl, _, rfl, _, rfl, (show 3 ≤ sizeLine by decide), fun n hn => ?_⟩
        have s4 : ∀ o, Same H2 (upd H3 oa o) := fun o => s3.upd (s3.free hoa)
        have hn2 : ∀ o, H3 oa = none → upd H3 oa o n = none → n ≠ oa := fun o _ z e => by rw [e, upd_same] at z; cases z
        have nne := hn2 _ hoa hn
        have s5 : ∀ o o', Same H2 (upd (upd H3 oa o) n o') := fun o o' => (s4 o).upd ((s4 _).free hn)
        refine q _ n sa oa rs (1 + w') ls os ((s2.trans (s5 _ _))) ⟨upd_same, s5 _ _ _ _ hs2, st2.mono (s5 _ _), ?_⟩ (by omega) (by omega) (by omega) h2 (by omega)
        rw [upd_ne (Ne.symm nne), upd_same]
abbrev s__law_refusal : Stmt := top 29
theorem sc__law_refusal : FnScope ["_law_kept", "_law_kinds"] ["_law_kept"] (defScope s__law_refusal) := ⟨rfl, rfl, rfl, by decide +kernel, rfl, by decide +kernel, by decide +kernel⟩
theorem ok__law_refusal {f : Addr} {fd : FuncData} (F : Fun K "_law_refusal" "_law_refusal" s__law_refusal f fd) (T : Txt K mg CB CK CR CT CW CS)  : FnOk P w K mg base (CX1 P w) 1 f fd ["_law_kept"] (spRefusal CB) := by
  refine F.ok1 sc__law_refusal (fun vs H Q E h => ?_) (fun cdv A outer s H vs Q E hr h => ?_)
  · obtain ⟨e, rfl, he, k⟩ := h; rfl
  · obtain ⟨e, rfl, he, k⟩ := h
    have nd := sc__law_refusal.nd
    refine ⟨_, (pss_cons (ps_if (pt_cmpR op_isN (pv 0) pe_non (nomark _))
       (pss_one (ps_ret pe_str))
       pss_nil)
       (pss_cons (ps_set (i := 1) nd rfl (Or.inl rfl) (pe_lst (pa_cons (pe_callB call_isiX rfl T.z_isinstance boot_isinstance (pa_cons (pv 0) (pa_cons (pe_glob (v := .ref _) rfl T.g_BadKind rfl) pa_nil))) (pa_cons (pe_callB call_isiX rfl T.z_isinstance boot_isinstance (pa_cons (pv 0) (pa_cons (pe_glob (v := .ref _) rfl T.g_BadNet rfl) pa_nil))) (pa_cons (pe_callB call_isiX rfl T.z_isinstance boot_isinstance (pa_cons (pv 0) (pa_cons (pe_glob (v := .ref _) rfl T.g_BadRow rfl) pa_nil))) pa_nil)))))
       (pss_cons (ps_set (i := 1) nd rfl (Or.inl rfl) (pe_op op_cat (pv 1) (pe_lst (pa_cons (pe_callB call_isiX rfl T.z_isinstance boot_isinstance (pa_cons (pv 0) (pa_cons (pe_glob (v := .ref _) rfl T.g_BadText rfl) pa_nil))) (pa_cons (pe_callB call_isiX rfl T.z_isinstance boot_isinstance (pa_cons (pv 0) (pa_cons (pe_glob (v := .ref _) rfl T.g_Wrong rfl) pa_nil))) pa_nil)))))
       (pss_cons (ps_if (PW.pt (pw_or (pt_cmpR op_ne (pe_bm PySem.F.plainAttrs_list PySem.F.slot_list_count PySem.F.type_list_count mt_count (pv 1) (pa_cons pe_bl pa_nil)) pe_int (nomark _)) (pw_or1 (pt_not (pt_truth (pe_callB call_isiX rfl T.z_isinstance boot_isinstance (pa_cons (pv 0) (pa_cons (pe_bltn (v := .ty "ValueError") rfl T.z_ValueError boot_ValueError rfl) pa_nil))) (fun _ => rfl))))))
       (pss_one (ps_ret pe_str))
       pss_nil)
       (pss_one (ps_ret (pe_ix ix_list (pe_lst (pa_cons pe_str (pa_cons pe_str (pa_cons pe_str (pa_cons pe_str (pa_cons pe_str pa_nil)))))) (pe_bm PySem.F.plainAttrs_list PySem.F.slot_list_index PySem.F.type_list_index mt_index (pv 1) (pa_cons pe_bl pa_nil)) (fun _ _ => rfl)))))))), ?_⟩
    refine ⟨_, rfl, rfl, _, rfl, iteDF (by intro z; cases z) ?_⟩
    refine ⟨_, rfl, e, _, _, CB, _, rfl, rfl, he, T.e_BadNet, T.k_BadKind, _, rfl, e, _, _, CB, _, rfl, rfl, he, T.e_BadNet, T.k_BadNet, _, rfl, e, _, _, CB, _, rfl, rfl, he, T.e_BadNet, T.k_BadRow, (show 3 ≤ sizeLine by decide), fun q1 h1 => ?_⟩
    have s1 : ∀ o, Same H (upd H q1 o) := fun o => Same.new h1
    refine ⟨_, rfl, _, rfl, e, _, _, CB, _, rfl, rfl, s1 _ _ _ he, T.e_BadNet, T.k_BadText, _, rfl, e, _, _, CB, _, rfl, rfl, s1 _ _ _ he, T.e_BadNet, T.k_Wrong, (show 2 ≤ sizeLine by decide), fun q2 h2 => ?_⟩
    have n21 : q1 ≠ q2 := fun z => by rw [← z, upd_same] at h2; cases h2
    have s2 : ∀ o o', Same H (upd (upd H q1 o) q2 o') := fun o o' => (s1 o).upd ((s1 _).free h2)
    refine ⟨q1, q2, [.bl false, .bl true, .bl false], [.bl false, .bl false], rfl, rfl, (by rw [upd_ne n21]; exact upd_same), upd_same, (show 5 ≤ sizeLine by decide), fun q3 h3 => ?_⟩
    have s3 : ∀ o o' o'', Same H (upd (upd (upd H q1 o) q2 o') q3 o'') := fun o o' o'' => (s2 o o').upd ((s2 _ _).free h3)
    refine ⟨_, rfl, .inl ⟨rfl, _, SqL.of upd_same⟩, q3, _, _, rfl, rfl, SqL.of upd_same, rfl, rfl, rfl, _, rfl, iteNS rfl ?_⟩
    refine ⟨_, rfl, e, _, _, CB, _, rfl, rfl, s3 _ _ _ _ _ he, T.e_BadNet, T.k_ValueError, _, rfl, iteF ?_⟩
    refine ⟨(show 5 ≤ sizeLine by decide), fun q4 h4 => ?_⟩
    have n34 : q3 ≠ q4 := fun z => by rw [← z, upd_same] at h4; cases h4
    refine ⟨_, rfl, .inl ⟨rfl, _, SqL.of (by rw [upd_ne n34]; exact upd_same)⟩, q3, _, _, 1, rfl, rfl, SqL.of (by rw [upd_ne n34]; exact upd_same), rfl, rfl, ⟨_, rfl, rfl⟩, fun m z hm hz => ?_, q4, _, _, _, rfl, rfl, SqL.of upd_same, rfl, k _ ((s3 _ _ _).upd ((s3 _ _ _).free h4))⟩
    have : m = 0 := by omega
    subst this
    cases hz
    rfl
abbrev s__law_deep : Stmt := top 33
theorem sc__law_deep : FnScope ["_law_net_here", "_law_node", "_law_far", "_law_one", "_law_other"] ["_law_net_here", "_law_node"] (defScope s__law_deep) := ⟨rfl, rfl, rfl, by decide +kernel, rfl, by decide +kernel, by decide +kernel⟩
theorem ok__law_deep {f : Addr} {fd : FuncData} (F : Fun K "_law_deep" "_law_deep" s__law_deep f fd) (T : Txt K mg CB CK CR CT CW CS)  : FnOk P w K mg base (CX1 P w) 1 f fd ["_law_net_here", "_law_node"] (spDeep) := by
  refine F.ok1 sc__law_deep (fun vs H Q E h => ?_) (fun cdv A outer s H vs Q E hr h => ?_)
  · obtain ⟨a, sa, oa, rs, N, v, rfl, n2, hN, hv, k⟩ := h; rfl
  · obtain ⟨a, sa, oa, rs, N, v, rfl, n2, hN, hv, k⟩ := h
    have nd := sc__law_deep.nd
    refine ⟨_, (pss_cons (ps_set (i := 2) nd rfl (Or.inl rfl) (pe_op op_rep (pe_lst (pa_cons pe_int pa_nil)) (pe_ix ix_tup (pv 0) pe_int (fun _ _ => rfl))))
       (pss_cons (ps_for powns1 rfl (pi_list (pe_ix ix_tup (pv 0) pe_int (fun _ _ => rfl))) (pg_tup rfl (pgs_cons (pg_name (i := 3) nd rfl (Or.inl rfl)) (pgs_cons (pg_name (i := 4) nd rfl (Or.inl rfl)) pgs_nil)))
       (pss_one (ps_expr (pe_bm PySem.F.plainAttrs_list PySem.F.slot_list_append PySem.F.type_list_append mt_append (pv 2) (pa_cons (pe_op op_add (pe_callB (call_max2 rfl) rfl T.z_max boot_max (pa_cons (pe_ix ix_list (pv 2) (pv 3) (fun _ _ => rfl)) (pa_cons (pe_ix ix_list (pv 2) (pv 4) (fun _ _ => rfl)) pa_nil))) pe_int) pa_nil)))))
       (pss_one (ps_ret (pe_ix ix_list (pv 2) (pv 1) (fun _ _ => rfl)))))), ?_⟩
    have hw := hN.hi
    have hln := hN.len
    refine ⟨(show 1 ≤ sizeLine by decide), fun q hq => ?_⟩
    have s3 : Same H (upd H q (.lst [.int 0])) := Same.new hq
    refine ⟨_, rfl, _, _, _, _, rfl, rfl, SqT.of (s3 _ _ n2.net), rfl, q, _, _, rfl, rfl, upd_same, by omega, by omega, fits (by simp; omega), fun l hl => ?_⟩
    have hlH : H l = none := s3.free hl
    have s4 : ∀ o, Same H (upd (upd H q (.lst [.int 0])) l o) := fun o => s3.upd hlH
    rw [Int.toNat_natCast, rep_int]
    refine ⟨_, rfl, _, _, _, _, rfl, rfl, SqT.of (s4 _ _ _ n2.net), rfl, sa, rfl, ⟨_, SqL.of (s4 _ _ _ n2.sts)⟩, for_list (K := K) (a := sa) (xs := rs) (fun i σ3 H3 => ∃ v3 v4, σ3 = [some (.ref a), some (.int (v : Nat)), some (.ref l), v3, v4] ∧ Same H H3 ∧ H3 l = some (.lst ((N.depthsTo i).map V.int)))
      ⟨_, _, rfl, s4 _, by rw [upd_same, N.depthsTo_zero]⟩ (fun i σ3 H3 _ ⟨_, _, _, s5, _⟩ => SqL.of (s5 _ _ n2.sts)) ?_ ?_⟩
    · rintro i x σ3 H3 hx ⟨v3, v4, rfl, s5, hl3⟩
      obtain ⟨r, p, rfl, hp, hr0⟩ := NetN.Ok.steps_get n2.st hx
      obtain ⟨p1, p2⟩ := hN.s1 i p hp
      have hil := (List.getElem?_eq_some_iff.mp hp).1
      have hlen := N.depthsTo_len i
      rw [List.length_take] at hlen
      have hr3 := s5 _ _ hr0
      refine ⟨r, _, rfl, SqT.of hr3, rfl, _, _, rfl, _, _, rfl, rfl, ?_⟩
      refine ⟨_, rfl, .inl ⟨rfl, _, SqL.of hl3⟩, _, rfl, _, rfl, l, _, _, _, rfl, rfl, SqL.of hl3, atI_ints (by omega),
        _, rfl, _, rfl, l, _, _, _, rfl, rfl, SqL.of hl3, atI_ints (by omega), _, _, rfl, _, _, rfl, rfl, l, _, _, rfl, rfl, hl3, fitsL (by rw [List.length_map]; omega), ?_⟩
      refine ⟨_, _, rfl, s5.upd hlH, ?_⟩
      rw [upd_same, N.depthsTo_succ hp, dstep, List.map_append, Int.add_comm 1]
      rfl
    · rintro σ3 H3 ⟨v3, v4, rfl, s5, hl3⟩
      have e : rs.length = N.st.length := by rw [n2.st.length, steps_len]
      rw [e, N.depthsTo_all] at hl3
      have hdl : N.depths.length = N.w + N.st.length := by rw [← N.depthsTo_all, N.depthsTo_len, List.take_length]
      exact ⟨_, rfl, _, rfl, l, _, _, _, rfl, rfl, SqL.of hl3, atI_ints (by omega), k H3 s5⟩
abbrev s__law_good : Stmt := top 31
theorem sc__law_good : FnScope ["_law_net_here", "_law_wide", "_law_steps", "_law_outs", "_law_k"] ["_law_net_here"] (defScope s__law_good) := ⟨rfl, rfl, rfl, by decide +kernel, rfl, by decide +kernel, by decide +kernel⟩
theorem ok__law_good {f : Addr} {fd : FuncData} (F : Fun K "_law_good" "_law_good" s__law_good f fd) (T : Txt K mg CB CK CR CT CW CS)  : FnOk P w K mg base (CX1 P w) 1 f fd ["_law_net_here"] (spGood) := by
  refine F.ok1 sc__law_good (fun vs H Q E h => ?_) (fun cdv A outer s H vs Q E hr h => ?_)
  · obtain ⟨a, sa, oa, rs, wide, steps, outs, rfl, n, h1, h2, q⟩ := h; rfl
  · obtain ⟨a, sa, oa, rs, wide, steps, outs, rfl, n, h1, h2, q⟩ := h
    have nd := sc__law_good.nd
    refine ⟨_, (pss_cons (ps_asg (pv 0) (pg_tup rfl (pgs_cons (pg_name (i := 1) nd rfl (Or.inl rfl)) (pgs_cons (pg_name (i := 2) nd rfl (Or.inl rfl)) (pgs_cons (pg_name (i := 3) nd rfl (Or.inl rfl)) pgs_nil)))))
       (pss_cons (ps_if (PW.pt (pw_or (pt_cmpR op_lt (pv 1) pe_int (nomark _)) (pw_or1 (pt_cmpR op_ne (pe_callB call_len_seq rfl T.z_len boot_len (pa_cons (pv 3) pa_nil)) (pv 1) (nomark _)))))
       (pss_one (ps_ret pe_bl))
       pss_nil)
       (pss_cons (ps_for powns1 rfl (pi_range1 rfl T.z_range (pa_cons (pe_callB call_len_seq rfl T.z_len boot_len (pa_cons (pv 2) pa_nil)) pa_nil)) (pg_name (i := 4) nd rfl (Or.inl rfl))
       (pss_one (ps_if (PW.pt (pw_or (pt_cmpR op_ne (pe_callB call_len_seq rfl T.z_len boot_len (pa_cons (pe_ix ix_list (pv 2) (pv 4) (fun _ _ => rfl)) pa_nil)) pe_int (nomark _)) (pw_or (pt_cmpR op_lt (pe_callB (call_minL rfl) rfl T.z_min boot_min (pa_cons (pe_ix ix_list (pv 2) (pv 4) (fun _ _ => rfl)) pa_nil)) pe_int (nomark _)) (pw_or1 (pt_cmpR op_ge (pe_callB (call_maxL rfl) rfl T.z_max boot_max (pa_cons (pe_ix ix_list (pv 2) (pv 4) (fun _ _ => rfl)) pa_nil)) (pe_op op_add (pv 1) (pv 4)) (nomark _))))))
       (pss_one (ps_ret pe_bl))
       pss_nil)))
       (pss_cons (ps_if (PW.pt (pw_or (pt_cmpR op_gt (pv 1) pe_int (nomark _)) (pw_or1 (pt_cmpR op_gt (pe_callB call_len_seq rfl T.z_len boot_len (pa_cons (pv 2) pa_nil)) pe_int (nomark _)))))
       (pss_one (ps_ret pe_bl))
       pss_nil)
       (pss_one (ps_ret (pe_and (pe_cmpR op_ge (pe_callB (call_minL rfl) rfl T.z_min boot_min (pa_cons (pv 3) pa_nil)) pe_int (nomark _)) (pe_one (pe_cmpR op_lt (pe_callB (call_maxL rfl) rfl T.z_max boot_max (pa_cons (pv 3) pa_nil)) (pe_op op_add (pv 1) (pe_callB call_len_seq rfl T.z_len boot_len (pa_cons (pv 2) pa_nil))) (nomark _)))))))))), ?_⟩
    have hrl := n.st.length
    refine ⟨_, rfl, a, _, rfl, SqT.of n.net, rfl, _, _, rfl, _, _, rfl, _, _, rfl, rfl, ?_⟩
    refine ⟨_, rfl, _, _, rfl, rfl, _, rfl, iteB (fun b1 => ?_) (fun b1 => ?_)⟩
    · refine iteT ?_
      have e : decide (Good wide steps outs) = false := decide_eq_false fun g => by have := g.lo; simp at b1; omega
      rw [e] at q; exact q
    refine ⟨_, rfl, _, _, rfl, .inl (SqL.of n.ots), _, rfl, rfl, _, rfl, ?_⟩
    by_cases b2 : (outs.length : Int) = wide
    · refine iteNS (by rw [List.length_map, b2]) ?_
      refine ⟨_, rfl, _, _, rfl, .inl (SqL.of n.sts), _, rfl, (by omega), (by omega), ?_⟩
      refine for_range (lo := 0) (n := (rs.length : Int).toNat) (fun j σ2 H2 => ∃ v4, H2 = H ∧ σ2 = [some (.ref a), some (.int wide), some (.ref sa), some (.ref oa), v4] ∧ ∀ (m : Nat) l, m < j → steps[m]? = some l → stepOk (wide + m) l = true)
        ⟨_, rfl, rfl, fun m l z => absurd z (Nat.not_lt_zero _)⟩ ?_ ?_
      · rintro j σ2 H2 hj ⟨v4, rfl, rfl, hok⟩
        have hjl : j < steps.length := by omega
        obtain ⟨l, hl⟩ : ∃ l, steps[j]? = some l := ⟨_, List.getElem?_eq_getElem hjl⟩
        obtain ⟨r, hx, hr0⟩ := n.st.get' hl
        have hat : atI rs (0 + (j : Int)) = some (.ref r) := by rw [Int.zero_add]; exact atI_nat hx
        have bad : stepOk (wide + j) l = false → Q (.bl false) H2 := fun z => by
          have e : decide (Good wide steps outs) = false := decide_eq_false fun g => by
            have := g.st j l hl
            rw [z] at this; cases this
          rw [e] at q; exact q
        refine ⟨_, rfl, _, rfl, sa, _, _, _, rfl, rfl, SqL.of n.sts, hat, _, _, rfl, .inr (SqT.of hr0), rfl, _, rfl, ?_⟩
        by_cases hl2 : l.length = 2
        · refine iteNS (by rw [List.length_map, hl2]; rfl) ?_
          match l, hl2 with
          | [x, y], _ =>
            refine ⟨_, rfl, _, rfl, sa, _, _, _, rfl, rfl, SqL.of n.sts, hat, r, [x, y], rfl, .inr (SqT.of hr0), (by simp), fun M hM hb => ?_⟩
            have hxM := hb x (by simp)
            have hyM := hb y (by simp)
            have hMxy : M = x ∨ M = y := by simpa using hM
            refine ⟨_, _, rfl, rfl, _, rfl, iteB (fun c1 => ?_) (fun c1 => ?_)⟩
            · refine iteT (bad ?_)
              have c1' : M < 0 := by simpa using c1
              cases z : stepOk (wide + j) [x, y] with
              | false => rfl
              | true =>
                simp [stepOk] at z
                omega
            refine ⟨_, rfl, _, rfl, sa, _, _, _, rfl, rfl, SqL.of n.sts, hat, r, [x, y], rfl, .inr (SqT.of hr0), (by simp), fun M2 hM2 hb2 => ?_⟩
            have hxM2 := hb2 x (by simp)
            have hyM2 := hb2 y (by simp)
            have hM2xy : M2 = x ∨ M2 = y := by simpa using hM2
            have c1' : 0 ≤ M := by simp at c1; omega
            refine ⟨_, rfl, _, rfl, _, _, rfl, rfl, _, _, rfl, rfl, _, rfl, iteB (fun c2 => ?_) (fun c2 => ?_)⟩
            · refine bad ?_
              have c2' : wide + (0 + (j : Int)) ≤ M2 := by simpa using c2
              cases z : stepOk (wide + j) [x, y] with
              | false => rfl
              | true =>
                simp [stepOk] at z
                omega
            · refine ⟨_, rfl, rfl, fun m l' hm hl' => ?_⟩
              by_cases e : m = j
              · subst e
                rw [hl] at hl'; cases hl'
                have c2' : ¬ wide + (0 + (m : Int)) ≤ M2 := by simpa using c2
                simp [stepOk]
                omega
              · exact hok m l' (by omega) hl'
        · refine iteNT (fun z => hl2 ?_) (iteT (bad (by simp [stepOk, hl2])))
          rw [List.length_map] at z
          have := V.int.inj z
          omega
      · rintro σ2 H2 ⟨v4, rfl, rfl, hok⟩
        have hst : stepsOk wide steps := fun m l hl => hok m l (by have := (List.getElem?_eq_some_iff.mp hl).1; omega) hl
        have b1' : ¬ wide < 1 := by simpa using b1
        have fals : ¬ Good wide steps outs → Q (.bl false) H2 := fun z => by rw [decide_eq_false z] at q; exact q
        refine ⟨_, rfl, _, _, rfl, rfl, _, rfl, iteB (fun c1 => ?_) (fun c1 => ?_)⟩
        · exact iteT (fals fun g => by have := g.hi; simp at c1; omega)
        refine ⟨_, rfl, _, _, rfl, .inl (SqL.of n.sts), _, _, rfl, rfl, _, rfl, iteB (fun c2 => ?_) (fun c2 => ?_)⟩
        · exact fals fun g => by have := g.len; simp at c2; omega
        have hne : outs ≠ [] := fun z => by rw [z] at b2; simp at b2; omega
        refine ⟨_, rfl, oa, outs, rfl, .inl (SqL.of n.ots), hne, fun M hM hb => ⟨_, _, rfl, rfl, _, rfl, iteB (fun c3 => ?_) (fun c3 => ?_)⟩⟩
        · refine ⟨_, rfl, oa, outs, rfl, .inl (SqL.of n.ots), hne, fun M2 hM2 hb2 => ⟨_, rfl, _, rfl, _, _, rfl, .inl (SqL.of n.sts), _, _, rfl, rfl, _, _, rfl, rfl, ?_⟩⟩
          have c3' : 0 ≤ M := by simpa using c3
          have e : decide (Good wide steps outs) = decide (M2 < wide + (rs.length : Int)) := by
            refine decide_eq_decide.mpr ⟨fun g => ?_, fun z => ⟨by omega, by simp at c1; omega, by simp at c2; omega, hst, b2, fun v hv => ?_⟩⟩
            · have := (g.ou M2 hM2).2
              omega
            · have := hb v hv
              have := hb2 v hv
              omega
          rw [e] at q; exact q
        · exact fals fun g => by
            have := (g.ou M hM).1
            simp at c3
            omega
    · refine iteNT (fun z => b2 ?_) ?_
      · rw [List.length_map] at z
        exact V.int.inj z
      · have e : decide (Good wide steps outs) = false := decide_eq_false fun g => b2 g.ol
        rw [e] at q; exact q
abbrev s__law_under : Stmt := top 34
theorem sc__law_under : FnScope ["_law_net_here", "_law_node", "_law_found", "_law_at"] ["_law_net_here", "_law_node"] (defScope s__law_under) := ⟨rfl, rfl, rfl, by decide +kernel, rfl, by decide +kernel, by decide +kernel⟩
theorem ok__law_under {f : Addr} {fd : FuncData} (F : Fun K "_law_under" "_law_under" s__law_under f fd) (T : Txt K mg CB CK CR CT CW CS)  : FnOk P w K mg base (CX1 P w) 1 f fd ["_law_net_here", "_law_node"] (spUnder) := by
  refine F.ok1 sc__law_under (fun vs H Q E h => ?_) (fun cdv A outer s H vs Q E hr h => ?_)
  · obtain ⟨a, sa, oa, rs, N, v, rfl, n, hN, hv, k⟩ := h; rfl
  · obtain ⟨a, sa, oa, rs, N, v, rfl, n, hN, hv, k⟩ := h
    have nd := sc__law_under.nd
    refine ⟨_, (pss_cons (ps_set (i := 2) nd rfl (Or.inr rfl) (pe_lst (pa_cons (pv 1) pa_nil)))
       (pss_cons (ps_set (i := 3) nd rfl (Or.inl rfl) pe_int)
       (pss_cons (ps_while powns1 (pt_cmpR op_lt (pv 3) (pe_callB call_len_seq rfl T.z_len boot_len (pa_cons (pv 2) pa_nil)) (nomark _))
       (pss_cons (ps_if (pt_cmpR op_ge (pe_ix ix_list (pv 2) (pv 3) (fun _ _ => rfl)) (pe_ix ix_tup (pv 0) pe_int (fun _ _ => rfl)) (nomark _))
       (pss_one (ps_set (i := 2) nd rfl (Or.inr rfl) (pe_op op_cat (pv 2) (pe_comp (ot := some _) [2] rfl (pi_tup (pe_ix ix_list (pe_ix ix_tup (pv 0) pe_int (fun _ _ => rfl)) (pe_op op_sub (pe_ix ix_list (pv 2) (pv 3) (fun _ _ => rfl)) (pe_ix ix_tup (pv 0) pe_int (fun _ _ => rfl))) (fun _ _ => rfl))) (fun _ _ _ _ => (pv 0)) (fun _ _ _ _ => (pt_cmpR (show OpR _ _ (rIn K true) from op_notIn_seq) (pv 0) (pv 1) (by with_unfolding_all rfl))) rfl (nodupS_of rfl)))))
       pss_nil)
       (pss_one (ps_set (i := 3) nd rfl (Or.inl rfl) (pe_op op_add (pv 3) pe_int)))))
       (pss_one (ps_ret (pv 2)))))), ?_⟩
    have hw := hN.hi
    have hln := hN.len
    have hrl : rs.length = N.st.length := by rw [n.st.length, steps_len]
    refine ⟨_, rfl, (show 1 ≤ sizeLine by decide), fun q hq => ?_⟩
    have s1 : ∀ o, Same H (upd H q o) := fun o => Same.new hq
    refine ⟨fun m σ2 H2 => ∃ (l : Addr) (xs : List Nat) (at' : Nat), σ2 = [some (.ref a), some (.int (v : Nat)), some (.ref l), some (.int (at' : Nat))] ∧ Same H H2 ∧ H2 l = some (.lst (xs.map fun u => V.int (u : Nat))) ∧ UInv N v xs at' ∧ m = 2 * missing (N.w + N.st.length) xs + (xs.length - at'),
      ⟨_, q, [v], 0, rfl, s1 _, upd_same, uinv_zero hv, rfl⟩, ?_⟩
    rintro m σ2 H2 ⟨l, xs, at', rfl, s2, hl, u, rfl⟩
    have hroom := u.room
    refine ⟨_, rfl, _, rfl, _, _, rfl, .inl (SqL.of hl), _, _, rfl, rfl, _, rfl, iteB (fun b1 => ?_) (fun b1 => ?_)⟩
    · have hat : at' < xs.length := by simp at b1; omega
      obtain ⟨x, hx⟩ : ∃ x, xs[at']? = some x := ⟨_, List.getElem?_eq_getElem hat⟩
      obtain ⟨u2, hm⟩ := uinv_step hN hv u hx
      have hxl := hN.under_lt (u.sound x (List.mem_of_getElem? hx)) hv
      refine ⟨fun σ3 H3 => ∃ (l : Addr), σ3 = [some (.ref a), some (.int (v : Nat)), some (.ref l), some (.int ((at' + 1 : Nat) : Int))] ∧ Same H H3 ∧ H3 l = some (.lst ((N.grow xs x).map fun u => V.int (u : Nat))), fun σ3 H3 ⟨l3, e, s3, hl3⟩ => ⟨_, hm, l3, N.grow xs x, at' + 1, e, s3, hl3, u2, rfl⟩, ?_⟩
      have e1 : (at' : Int) + 1 = ((at' + 1 : Nat) : Int) := by omega
      refine ⟨_, rfl, _, rfl, l, _, _, _, rfl, rfl, SqL.of hl, atI_nats hx, _, rfl, _, _, _, _, rfl, rfl, SqT.of (s2 _ _ n.net), rfl, _, _, rfl, rfl, _, rfl, iteB (fun b2 => ?_) (fun b2 => ?_)⟩
      · have hxw : ¬ x < N.w := by simp at b2; omega
        have hk : x - N.w < N.st.length := by omega
        obtain ⟨p, hp⟩ : ∃ p, N.st[x - N.w]? = some p := ⟨_, List.getElem?_eq_getElem hk⟩
        have hD : N.st.getD (x - N.w) (0, 0) = p := by rw [List.getD_eq_getElem?_getD, hp]; rfl
        obtain ⟨y, hy⟩ : ∃ y, rs[x - N.w]? = some y := ⟨_, List.getElem?_eq_getElem (by omega)⟩
        obtain ⟨r, p', rfl, hp', hr0⟩ := NetN.Ok.steps_get n.st hy
        rw [hp] at hp'; cases hp'
        have e2 : (x : Int) - (N.w : Int) = ((x - N.w : Nat) : Int) := by omega
        refine ⟨_, rfl, _, rfl, _, _, _, _, rfl, rfl, SqT.of (s2 _ _ n.net), rfl, _, rfl, _, rfl, l, _, _, _, rfl, rfl, SqL.of hl, atI_nats hx, _, rfl, _, _, _, _, rfl, rfl, SqT.of (s2 _ _ n.net), rfl, _, _, rfl, rfl, sa, _, _, .ref r, rfl, rfl, SqL.of (s2 _ _ n.sts), (by rw [e2]; exact atI_nat hy), r, rfl, ⟨_, SqT.of (s2 _ _ hr0)⟩, ?_⟩
        refine comp_tupIf (K := K) (a := r) (xs := [.int p.1, .int p.2]) (fun i ys H3 => Same H2 H3 ∧ ys = ((([p.1, p.2].take i).filter fun u => decide (u ∉ xs)).map fun u => V.int (u : Nat))) ⟨Same.refl H2, rfl⟩ (fun i ys H3 _ ⟨s3, _⟩ => SqT.of (s3 _ _ (s2 _ _ hr0))) (fun i ys H3 _ ⟨_, e⟩ => ?_) ?_ ?_
        · rw [e, List.length_map]
          refine fitsL (Nat.le_trans (List.length_filter_le _ _) ?_)
          rw [List.length_take]
          simp
          omega
        · rintro i z ys H3 R R0 hz ⟨s3, rfl⟩ kR kR0
          have hz2 : ∃ u : Nat, [p.1, p.2][i]? = some u ∧ z = .int (u : Nat) := by
            match i, hz with
            | 0, hz => exact ⟨p.1, rfl, (Option.some.inj hz).symm⟩
            | 1, hz => exact ⟨p.2, rfl, (Option.some.inj hz).symm⟩
            | i + 2, hz => simp at hz
          obtain ⟨uu, hu, rfl⟩ := hz2
          refine ⟨_, rfl, _, rfl, l, _, rfl, .inl (SqL.of (s3 _ _ hl)), rfl, flat_nats xs, _, rfl, ?_⟩
          rw [inV_nats]
          by_cases c : uu ∈ xs
          · rw [decide_eq_true c]
            refine iteF (kR0 _ ⟨s3, ?_⟩)
            rw [List.take_add_one, hu, List.filter_append]
            simp [c]
          · rw [decide_eq_false c]
            refine iteT ⟨_, rfl, kR _ _ ⟨s3, ?_⟩⟩
            rw [List.take_add_one, hu, List.filter_append, List.map_append]
            simp [c]
        · rintro ys H3 ⟨s3, rfl⟩
          intro p3 hp3
          have s4 : ∀ o, Same H2 (upd H3 p3 o) := fun o => s3.upd (s3.free hp3)
          have hlen : (([p.1, p.2].filter fun u => decide (u ∉ xs))).length ≤ 2 := List.length_filter_le _ _
          refine ⟨l, p3, _, _, rfl, rfl, s4 _ _ _ hl, upd_same, fits (by rw [List.length_map, List.length_map]; show xs.length + (([p.1, p.2].filter fun u => decide (u ∉ xs))).length ≤ 10000; omega), fun l4 hl4 => ?_⟩
          refine ⟨_, rfl, _, _, rfl, rfl, ?_⟩
          refine ⟨l4, congrArg (fun z => [some (V.ref a), some (V.int (v : Nat)), some (V.ref l4), some (V.int z)]) e1, ((s2.trans (s4 _))).upd ((s2.trans (s4 _)).free hl4), ?_⟩
          rw [upd_same]
          have e3 : N.grow xs x = xs ++ [p.1, p.2].filter fun v => decide (v ∉ xs) := by unfold NetN.grow; rw [if_neg hxw, hD]
          rw [e3, List.map_append]
          rfl
      · have hxw : x < N.w := by simp at b2; omega
        have e3 : N.grow xs x = xs := by unfold NetN.grow; rw [if_pos hxw]
        refine ⟨_, rfl, _, _, rfl, rfl, ?_⟩
        exact ⟨l, congrArg (fun z => [some (V.ref a), some (V.int (v : Nat)), some (V.ref l), some (V.int z)]) e1, s2, by rw [e3]; exact hl⟩
    · have hat : at' = xs.length := by
        have := u.le
        simp at b1
        omega
      subst hat
      exact ⟨_, rfl, k H2 l xs s2 hl (uinv_end u) (by omega)⟩
abbrev s__law_told : Stmt := top 32
theorem sc__law_told : FnScope ["_law_way", "_law_net_here", "_law_kept", "_law_found", "e"] ["_law_way", "_law_net_here"] (defScope s__law_told) := ⟨rfl, rfl, rfl, by decide +kernel, rfl, by decide +kernel, by decide +kernel⟩
theorem ok__law_told {f : Addr} {fd : FuncData} (F : Fun K "_law_told" "_law_told" s__law_told f fd) (T : Txt K mg CB CK CR CT CW CS) (d_look_net : Df P w K mg base "look_net" 6 ["net"] (spLook CB)) (d_depths : Df P w K mg base "depths" 7 ["net"] (spNetFn CB (tellInts NetN.depths))) (d_depth : Df P w K mg base "depth" 8 ["net"] (spNetFn CB (tellBest outDepths))) (d_used : Df P w K mg base "used" 7 ["net"] (spNetFn CB (tellBls NetN.used))) (d_fan : Df P w K mg base "fan" 7 ["net"] (spNetFn CB (tellInts NetN.fan))) (d__law_refusal : Df P w K mg base "_law_refusal" 1 ["_law_kept"] (spRefusal CB)) : FnOk P w K mg base (CX1 P w) 9 f fd ["_law_way", "_law_net_here"] (spTold) := by
  refine F.ok1 sc__law_told (fun vs H Q E h => ?_) (fun cdv A outer s H vs Q E hr h => ?_)
  · obtain ⟨way, a, sa, oa, rs, wide, steps, outs, rfl, w0, w4, hol, n, k⟩ := h; rfl
  · obtain ⟨way, a, sa, oa, rs, wide, steps, outs, rfl, w0, w4, hol, n, k⟩ := h
    have nd := sc__law_told.nd
    refine ⟨_, (pss_cons (ps_set (i := 2) nd rfl (Or.inl rfl) pe_non)
       (pss_cons (ps_set (i := 3) nd rfl (Or.inl rfl) pe_non)
       (pss_cons (ps_try (i := 4) own1 rfl (fun _ _ _ hp =>
       (pss_one (ps_if (pt_cmpR op_eq (pv 0) pe_int (nomark _))
       (pss_one (ps_set (i := 3) nd rfl (Or.inl rfl) (pe_own d_look_net (hr.mono (by first | decide | omega)) rfl hp (pa_cons (pv 1) pa_nil))))
       (pss_one (ps_if (pt_cmpR op_eq (pv 0) pe_int (nomark _))
       (pss_one (ps_set (i := 3) nd rfl (Or.inl rfl) (pe_own d_depths (hr.mono (by first | decide | omega)) rfl hp (pa_cons (pv 1) pa_nil))))
       (pss_one (ps_if (pt_cmpR op_eq (pv 0) pe_int (nomark _))
       (pss_one (ps_set (i := 3) nd rfl (Or.inl rfl) (pe_own d_depth (hr.mono (by first | decide | omega)) rfl hp (pa_cons (pv 1) pa_nil))))
       (pss_one (ps_set (i := 3) nd rfl (Or.inl rfl) (pe_ifExp (pt_cmpR op_eq (pv 0) pe_int (nomark _)) (pe_own d_used (hr.mono (by first | decide | omega)) rfl hp (pa_cons (pv 1) pa_nil)) (pe_own d_fan (hr.mono (by first | decide | omega)) rfl hp (pa_cons (pv 1) pa_nil)))))))))))) (fun _ => (pss_one (ps_set (i := 2) nd rfl (Or.inl rfl) (pv 4)))) nd rfl rfl rfl T.g_SumError)
       (pss_one (ps_ret (pe_ifExp (pt_cmpR op_isN (pv 2) pe_non (nomark _)) (pv 3) (pe_own d__law_refusal (hr.mono (by first | decide | omega)) rfl pass1 (pa_cons (pv 2) pa_nil)))))))), ?_⟩
    have bad : ∀ H2, Same H H2 → ¬ Good wide steps outs → Q (.str "net") H2 := fun H2 s2 g => (k H2 s2).1 g
    refine ⟨_, rfl, rfl, _, rfl, iteB (fun b0 => ?_) (fun b0 => ?_)⟩
    · have b0' : way = 0 := by simpa [dec_int] using b0
      refine ⟨_, rfl, a, sa, oa, rs, wide, steps, outs, rfl, hol, n, fun H2 s2 => ⟨fun g => ?_, fun g => ⟨CB, rfl, T.m_SumError, fun e he => ?_⟩⟩⟩
      · obtain ⟨N, hN, e1, e2, e3⟩ := g.net
        exact ⟨_, rfl, rfl, _, rfl, iteDT rfl ⟨_, rfl, ((k H2 s2).2 N hN e1 e2 e3).t0 b0'⟩⟩
      · exact ⟨_, rfl, _, rfl, rfl, _, rfl, iteDF (by intro z; cases z) ⟨_, rfl, e, rfl, upd_same, fun H3 s3 => bad H3 ((s2.trans (Same.new he)).trans s3) g⟩⟩
    refine ⟨_, rfl, rfl, _, rfl, iteB (fun b1 => ?_) (fun b1 => ?_)⟩
    · have b1' : way = 1 := by simpa [dec_int] using b1
      refine ⟨_, rfl, a, sa, oa, rs, wide, steps, outs, rfl, hol, n, fun H2 s2 => ⟨fun N hN e1 e2 e3 l hl => ?_, fun g => ⟨CB, rfl, T.m_SumError, fun e he => ?_⟩⟩⟩
      · exact ⟨_, rfl, rfl, _, rfl, iteDT rfl ⟨_, rfl, ((k H2 s2).2 N hN e1 e2 e3).t1 b1' l hl⟩⟩
      · exact ⟨_, rfl, _, rfl, rfl, _, rfl, iteDF (by intro z; cases z) ⟨_, rfl, e, rfl, upd_same, fun H3 s3 => bad H3 ((s2.trans (Same.new he)).trans s3) g⟩⟩
    refine ⟨_, rfl, rfl, _, rfl, iteB (fun b2 => ?_) (fun b2 => ?_)⟩
    · have b2' : way = 2 := by simpa [dec_int] using b2
      refine ⟨_, rfl, a, sa, oa, rs, wide, steps, outs, rfl, hol, n, fun H2 s2 => ⟨fun N hN e1 e2 e3 M hM hb => ?_, fun g => ⟨CB, rfl, T.m_SumError, fun e he => ?_⟩⟩⟩
      · exact ⟨_, rfl, rfl, _, rfl, iteDT rfl ⟨_, rfl, ((k H2 s2).2 N hN e1 e2 e3).t2 b2' M hM hb⟩⟩
      · exact ⟨_, rfl, _, rfl, rfl, _, rfl, iteDF (by intro z; cases z) ⟨_, rfl, e, rfl, upd_same, fun H3 s3 => bad H3 ((s2.trans (Same.new he)).trans s3) g⟩⟩
    refine ⟨_, rfl, rfl, _, rfl, iteB (fun b3 => ?_) (fun b3 => ?_)⟩
    · have b3' : way = 3 := by simpa [dec_int] using b3
      refine ⟨_, rfl, a, sa, oa, rs, wide, steps, outs, rfl, hol, n, fun H2 s2 => ⟨fun N hN e1 e2 e3 l hl => ?_, fun g => ⟨CB, rfl, T.m_SumError, fun e he => ?_⟩⟩⟩
      · exact ⟨_, rfl, rfl, _, rfl, iteDT rfl ⟨_, rfl, ((k H2 s2).2 N hN e1 e2 e3).t3 b3' l hl⟩⟩
      · exact ⟨_, rfl, _, rfl, rfl, _, rfl, iteDF (by intro z; cases z) ⟨_, rfl, e, rfl, upd_same, fun H3 s3 => bad H3 ((s2.trans (Same.new he)).trans s3) g⟩⟩
    · have b4' : way = 4 := by
        simp [dec_int] at b0 b1 b2 b3
        omega
      refine ⟨_, rfl, a, sa, oa, rs, wide, steps, outs, rfl, hol, n, fun H2 s2 => ⟨fun N hN e1 e2 e3 l hl => ?_, fun g => ⟨CB, rfl, T.m_SumError, fun e he => ?_⟩⟩⟩
      · exact ⟨_, rfl, rfl, _, rfl, iteDT rfl ⟨_, rfl, ((k H2 s2).2 N hN e1 e2 e3).t4 b4' l hl⟩⟩
      · exact ⟨_, rfl, _, rfl, rfl, _, rfl, iteDF (by intro z; cases z) ⟨_, rfl, e, rfl, upd_same, fun H3 s3 => bad H3 ((s2.trans (Same.new he)).trans s3) g⟩⟩
abbrev s__law_spoilt : Stmt := top 30
theorem sc__law_spoilt : FnScope ["_law_net_here", "_law_number", "_law_wide", "_law_steps", "_law_outs", "_law_way", "_law_at", "_law_bad", "_law_many"] ["_law_net_here", "_law_number"] (defScope s__law_spoilt) := ⟨rfl, rfl, rfl, by decide +kernel, rfl, by decide +kernel, by decide +kernel⟩
theorem ok__law_spoilt {f : Addr} {fd : FuncData} (F : Fun K "_law_spoilt" "_law_spoilt" s__law_spoilt f fd) (T : Txt K mg CB CK CR CT CW CS)  : FnOk P w K mg base (CX1 P w) 1 f fd ["_law_net_here", "_law_number"] (spSpoilt) := by
  refine F.ok1 sc__law_spoilt (fun vs H Q E h => ?_) (fun cdv A outer s H vs Q E hr h => ?_)
  · obtain ⟨n, sa, oa, rs, num, wide, steps, outs, rfl, hnum, N, w1, w2, hsl, hol, k⟩ := h; rfl
  · obtain ⟨n, sa, oa, rs, num, wide, steps, outs, rfl, hnum, N, w1, w2, hsl, hol, k⟩ := h
    have nd := sc__law_spoilt.nd
    refine ⟨_, (pss_cons (ps_asg (pv 0) (pg_tup rfl (pgs_cons (pg_name (i := 2) nd rfl (Or.inl rfl)) (pgs_cons (pg_name (i := 3) nd rfl (Or.inl rfl)) (pgs_cons (pg_name (i := 4) nd rfl (Or.inl rfl)) pgs_nil)))))
       (pss_cons (ps_set (i := 5) nd rfl (Or.inl rfl) (pe_op op_mod (pv 1) pe_int))
       (pss_cons (ps_set (i := 6) nd rfl (Or.inl rfl) (pe_op op_mod (pe_op op_fdiv (pv 1) pe_int) (pe_callB (call_max2 rfl) rfl T.z_max boot_max (pa_cons pe_int (pa_cons (pe_callB call_len_seq rfl T.z_len boot_len (pa_cons (pv 3) pa_nil)) pa_nil)))))
       (pss_cons (ps_if (PW.pt (pw_and (pt_cmpR op_lt (pv 5) pe_int (nomark _)) (pw_and1 (pt_truth (pv 3) (fun _ => rfl)))))
       (pss_cons (ps_set (i := 7) nd rfl (Or.inl rfl) (pe_ix ix_list (pe_lst (pa_cons (pe_tup (pa_cons (pe_un un_neg pe_int) (pa_cons pe_int pa_nil))) (pa_cons (pe_tup (pa_cons pe_int (pa_cons (pe_op op_add (pv 2) (pv 6)) pa_nil))) (pa_cons (pe_tup (pa_cons pe_int pa_nil)) (pa_cons (pe_tup (pa_cons pe_int (pa_cons (pe_op op_sub (pe_op op_add (pv 2) (pv 6)) pe_int) pa_nil))) pa_nil))))) (pe_op op_mod (pe_op op_fdiv (pv 1) pe_int) pe_int) (fun _ _ => rfl)))
       (pss_one (ps_ret (pe_tup (pa_cons (pv 2) (pa_cons (pe_op op_cat (pe_op op_cat (pe_slice sl_list (pv 3) po_none (po_some (pv 6))) (pe_lst (pa_cons (pv 7) pa_nil))) (pe_slice sl_list (pv 3) (po_some (pe_op op_add (pv 6) pe_int)) po_none)) (pa_cons (pv 4) pa_nil)))))))
       pss_nil)
       (pss_cons (ps_if (pt_cmpR op_eq (pv 5) pe_int (nomark _))
       (pss_one (ps_ret (pe_tup (pa_cons (pv 2) (pa_cons (pv 3) (pa_cons (pe_ix ix_list (pe_lst (pa_cons (pe_op op_cat (pv 4) (pe_lst (pa_cons pe_int pa_nil))) (pa_cons (pe_slice sl_list (pv 4) po_none (po_some (pe_un un_neg pe_int))) (pa_cons (pe_op op_cat (pe_lst (pa_cons (pe_un un_neg pe_int) pa_nil)) (pe_slice sl_list (pv 4) (po_some pe_int) po_none)) (pa_cons (pe_op op_cat (pe_slice sl_list (pv 4) po_none (po_some (pe_un un_neg pe_int))) (pe_lst (pa_cons (pe_op op_add (pv 2) (pe_callB call_len_seq rfl T.z_len boot_len (pa_cons (pv 3) pa_nil))) pa_nil))) pa_nil))))) (pe_op op_mod (pe_op op_fdiv (pv 1) pe_int) pe_int) (fun _ _ => rfl)) pa_nil))))))
       pss_nil)
       (pss_cons (ps_if (pt_cmpR op_eq (pv 5) pe_int (nomark _))
       (pss_cons (ps_set (i := 8) nd rfl (Or.inl rfl) (pe_ix ix_list (pe_lst (pa_cons pe_int (pa_cons pe_int (pa_cons pe_int pa_nil)))) (pe_op op_mod (pe_op op_fdiv (pv 1) pe_int) pe_int) (fun _ _ => rfl)))
       (pss_one (ps_ret (pe_tup (pa_cons (pv 8) (pa_cons (pe_lst pa_nil) (pa_cons (pe_callTy (call_list_rng rfl) rfl T.z_list boot_list (pa_cons (pe_callTy call_range1 rfl T.z_range boot_range (pa_cons (pv 8) pa_nil)) pa_nil)) pa_nil)))))))
       pss_nil)
       (pss_cons (ps_if (pt_cmpR op_eq (pv 5) pe_int (nomark _))
       (pss_one (ps_ret (pe_tup (pa_cons (pv 2) (pa_cons (pe_op op_rep (pe_lst (pa_cons (pe_tup (pa_cons pe_int (pa_cons pe_int pa_nil))) pa_nil)) (pe_ix ix_list (pe_lst (pa_cons pe_int (pa_cons pe_int (pa_cons pe_int pa_nil)))) (pe_op op_mod (pe_op op_fdiv (pv 1) pe_int) pe_int) (fun _ _ => rfl))) (pa_cons (pv 4) pa_nil))))))
       pss_nil)
       (pss_one (ps_ret (pv 0)))))))))), ?_⟩
    have hsts := N.sts
    have hots := N.ots
    have hrl := N.st.length
    refine ⟨_, rfl, n, _, rfl, SqT.of N.net, rfl, _, _, rfl, _, _, rfl, _, _, rfl, rfl, ?_⟩
    refine ⟨_, rfl, _, _, rfl, rfl, (show (0 : Int) < 8 by decide), ?_⟩
    have way0 := Int.emod_nonneg num (show (8 : Int) ≠ 0 by decide)
    refine ⟨_, rfl, _, _, rfl, rfl, ⟨by decide, by decide⟩, _, rfl, _, _, rfl, .inl (SqL.of hsts), _, _, rfl, _, _, rfl, rfl, (show (0 : Int) < if (rs.length : Int) > 1 then (rs.length : Int) else 1 by split <;> omega), ?_⟩
    have d0 := Int.emod_nonneg (num / 64) (show (4 : Int) ≠ 0 by decide)
    have d1 := Int.emod_lt_of_pos (num / 64) (show (0 : Int) < 4 by decide)
    have e0 := Int.emod_nonneg (num / 8) (show (4 : Int) ≠ 0 by decide)
    have e1 := Int.emod_lt_of_pos (num / 8) (show (0 : Int) < 4 by decide)
    have f0 := Int.emod_nonneg (num / 8) (show (3 : Int) ≠ 0 by decide)
    have f1 := Int.emod_lt_of_pos (num / 8) (show (0 : Int) < 3 by decide)
    refine ⟨_, rfl, _, _, rfl, rfl, _, rfl, iteB (fun c1 => ⟨_, rfl, _, .inl ⟨_, SqL.of hsts, rfl⟩, iteN (fun c2 => ?A) (fun c2 => ?B1)⟩) (fun c1 => iteF ?B2)⟩
    case A =>
      refine ⟨_, rfl, (show 2 ≤ sizeLine by decide), fun t1 h1 => ⟨_, rfl, _, rfl, _, _, rfl, rfl, (show 2 ≤ sizeLine by decide), fun t2 h2 => ⟨(show 1 ≤ sizeLine by decide), fun t3 h3 => ⟨_, rfl, _, rfl, _, _, rfl, rfl, _, _, rfl, rfl, (show 2 ≤ sizeLine by decide), fun t4 h4 => ⟨(show 4 ≤ sizeLine by decide), fun q hq => ?_⟩⟩⟩⟩⟩
      obtain ⟨z, hz, t, l, rfl, htl⟩ := pick4 (a := V.ref t1) (b := V.ref t2) (c := V.ref t3) (d := V.ref t4) d0 d1 (R := fun z => ∃ t l, z = V.ref t ∧ (upd (upd (upd (upd (upd H t1 (.tup [.int (-1), .int 0])) t2 (.tup [.int 0, .int (wide + (num / 8 % (if (rs.length : Int) > 1 then (rs.length : Int) else 1)))])) t3 (.tup [.int 0])) t4 (.tup [.int 0, .int (wide + (num / 8 % (if (rs.length : Int) > 1 then (rs.length : Int) else 1)) - 1)])) q (.lst [.ref t1, .ref t2, .ref t3, .ref t4])) t = some (.tup (List.map V.int l)))
        ⟨t1, [-1, 0], rfl, by walk_at "hp"⟩ ⟨t2, [0, wide + (num / 8 % (if (rs.length : Int) > 1 then (rs.length : Int) else 1))], rfl, by walk_at "hp"⟩ ⟨t3, [0], rfl, by walk_at "hp"⟩ ⟨t4, [0, wide + (num / 8 % (if (rs.length : Int) > 1 then (rs.length : Int) else 1)) - 1], rfl, by walk_at "hp"⟩
      refine ⟨_, rfl, _, _, rfl, rfl, ⟨by decide, by decide⟩, _, _, rfl, rfl, (show (0 : Int) < 4 by decide), q, _, _, _, rfl, rfl, SqL.of upd_same, hz, ?_⟩
      refine ⟨_, rfl, _, rfl, _, rfl, _, rfl, sa, rs, rfl, SqL.of (by walk_at "hp"), fun p1 g1 => ?_⟩
      refine ⟨_, rfl, (show 1 ≤ sizeLine by decide), fun p2 g2 => ?_⟩
      refine ⟨p1, p2, cutV rs none (some (num / 8 % (if (rs.length : Int) > 1 then (rs.length : Int) else 1))), [.ref t], rfl, rfl, (by walk_at "hp"), upd_same, fits (by have := cutV_length rs none (some (num / 8 % (if (rs.length : Int) > 1 then (rs.length : Int) else 1))); show _ + 1 ≤ 10000; omega), fun p3 g3 => ?_⟩
      refine ⟨_, rfl, _, rfl, _, _, rfl, rfl, _, rfl, sa, rs, rfl, SqL.of (by walk_at "hp"), fun p4 g4 => ?_⟩
      refine ⟨p3, p4, cutV rs none (some (num / 8 % (if (rs.length : Int) > 1 then (rs.length : Int) else 1))) ++ [.ref t], cutV rs (some ((num / 8 % (if (rs.length : Int) > 1 then (rs.length : Int) else 1)) + 1)) none, rfl, rfl, (by walk_at "hp"), upd_same, fits (by have := cutV_length rs none (some (num / 8 % (if (rs.length : Int) > 1 then (rs.length : Int) else 1))); have := cutV_length rs (some ((num / 8 % (if (rs.length : Int) > 1 then (rs.length : Int) else 1)) + 1)) none; rw [List.length_append]; show _ + 1 + _ ≤ 10000; omega), fun p5 g5 => ?_⟩
      refine ⟨_, rfl, (show 3 ≤ sizeLine by decide), fun n' hn' => ?_⟩
      refine k _ n' p5 oa _ wide ((cutL steps none (some (num / 8 % (if (rs.length : Int) > 1 then (rs.length : Int) else 1))) ++ [l]) ++ cutL steps (some ((num / 8 % (if (rs.length : Int) > 1 then (rs.length : Int) else 1)) + 1)) none) outs (by walk_at "sm") (netAt_new hn' upd_same (StepsAt.append (StepsAt.append ?_ (.cons ?_ .nil)) ?_) (by walk_at "hp")) (by have := cut_len (xs := steps) (lo := none) (hi := some (num / 8 % (if (rs.length : Int) > 1 then (rs.length : Int) else 1))); have := cut_len (xs := steps) (lo := some ((num / 8 % (if (rs.length : Int) > 1 then (rs.length : Int) else 1)) + 1)) (hi := none); rw [List.length_append, List.length_append]; show _ + 1 + _ ≤ 10000; omega) (by omega)
      · exact (N.st.mono (by walk_at "sm")).cut none (some (num / 8 % (if (rs.length : Int) > 1 then (rs.length : Int) else 1)))
      · walk_at "hp"
      · exact (N.st.mono (by walk_at "sm")).cut (some ((num / 8 % (if (rs.length : Int) > 1 then (rs.length : Int) else 1)) + 1)) none
    all_goals
      refine ⟨_, rfl, rfl, _, rfl, iteB (fun b2 => ?C2) (fun b2 => ⟨_, rfl, rfl, _, rfl, iteB (fun b3 => ?C3) (fun b3 => ⟨_, rfl, rfl, _, rfl, iteB (fun b4 => ?C4) (fun b4 => ?C5)⟩)⟩)⟩
      case C2 =>
        refine ⟨_, rfl, _, rfl, _, rfl, (show 1 ≤ sizeLine by decide), fun a1 g1 => ⟨oa, a1, outs.map V.int, [.int 0], rfl, rfl, (by walk_at "hp"), upd_same, fits (by rw [List.length_map]; show _ + 1 ≤ 10000; omega), fun l1 g2 => ?_⟩⟩
        refine ⟨_, rfl, _, rfl, _, rfl, oa, outs.map V.int, rfl, SqL.of (by walk_at "hp"), fun l2 g3 => ?_⟩
        refine ⟨_, rfl, (show 1 ≤ sizeLine by decide), fun a3 g4 => ⟨_, rfl, _, rfl, oa, outs.map V.int, rfl, SqL.of (by walk_at "hp"), fun c3 g5 => ⟨a3, c3, [.int (-1)], cutV (outs.map V.int) (some 1) none, rfl, rfl, (by walk_at "hp"), upd_same, fits (by have := cutV_length (outs.map V.int) (some 1) none; rw [List.length_map] at this; show 1 + _ ≤ 10000; omega), fun l3 g6 => ?_⟩⟩⟩
        refine ⟨_, rfl, _, rfl, _, rfl, oa, outs.map V.int, rfl, SqL.of (by walk_at "hp"), fun c4 g7 => ⟨_, rfl, _, rfl, _, _, rfl, .inl (SqL.of (by walk_at "hp")), _, _, rfl, rfl, (show 1 ≤ sizeLine by decide), fun a4 g8 => ⟨c4, a4, cutV (outs.map V.int) none (some (-1)), [.int (wide + (rs.length : Nat))], rfl, rfl, (by walk_at "hp"), upd_same, fits (by have := cutV_length (outs.map V.int) none (some (-1)); rw [List.length_map] at this; show _ + 1 ≤ 10000; omega), fun l4 g9 => ⟨(show 4 ≤ sizeLine by decide), fun q hq => ?_⟩⟩⟩⟩
        have q1 := cut_len (xs := outs) (lo := none) (hi := some (-1))
        have q2 := cut_len (xs := outs) (lo := some 1) (hi := none)
        obtain ⟨z, hz, t, os, rfl, hos, hlen⟩ := pick4 (a := V.ref l1) (b := V.ref l2) (c := V.ref l3) (d := V.ref l4) e0 e1 (R := fun z => ∃ (t : Addr) (os : List Int), z = V.ref t ∧ (upd (upd (upd (upd (upd (upd (upd (upd (upd (upd H a1 (.lst [.int 0])) l1 (.lst (outs.map V.int ++ [.int 0]))) l2 (.lst (cutV (outs.map V.int) none (some (-1))))) a3 (.lst [.int (-1)])) c3 (.lst (cutV (outs.map V.int) (some 1) none))) l3 (.lst ([.int (-1)] ++ cutV (outs.map V.int) (some 1) none))) c4 (.lst (cutV (outs.map V.int) none (some (-1))))) a4 (.lst [.int (wide + (rs.length : Nat))])) l4 (.lst (cutV (outs.map V.int) none (some (-1)) ++ [.int (wide + (rs.length : Nat))]))) q (.lst [.ref l1, .ref l2, .ref l3, .ref l4])) t = some (.lst (os.map V.int)) ∧ os.length ≤ 10000)
          ⟨l1, outs ++ [0], rfl, by rw [List.map_append]; walk_at "hp", by rw [List.length_append]; show _ + 1 ≤ 10000; omega⟩ ⟨l2, cutL outs none (some (-1)), rfl, by rw [← cut_map]; walk_at "hp", by omega⟩
          ⟨l3, [-1] ++ cutL outs (some 1) none, rfl, by rw [List.map_append, ← cut_map]; walk_at "hp", by rw [List.length_append]; show 1 + _ ≤ 10000; omega⟩ ⟨l4, cutL outs none (some (-1)) ++ [wide + (rs.length : Nat)], rfl, by rw [List.map_append, ← cut_map]; walk_at "hp", by rw [List.length_append]; show _ + 1 ≤ 10000; omega⟩
        refine ⟨_, rfl, _, _, rfl, rfl, ⟨by decide, by decide⟩, _, _, rfl, rfl, (show (0 : Int) < 4 by decide), q, _, _, _, rfl, rfl, SqL.of upd_same, hz, (show 3 ≤ sizeLine by decide), fun n' hn' => ?_⟩
        exact k _ n' sa t rs wide steps os (by walk_at "sm") (netAt_new hn' (by walk_at "hp") (N.st.mono (by walk_at "sm")) hos) (by omega) hlen
      case C3 =>
        refine ⟨(show 3 ≤ sizeLine by decide), fun q hq => ?_⟩
        obtain ⟨z, hz, m, rfl, m0, m1⟩ := pick3 (a := V.int 0) (b := V.int 64) (c := V.int 65) f0 f1 (R := fun z => ∃ m : Int, z = V.int m ∧ 0 ≤ m ∧ m ≤ 65) ⟨0, rfl, by decide, by decide⟩ ⟨64, rfl, by decide, by decide⟩ ⟨65, rfl, by decide, by decide⟩
        refine ⟨_, rfl, _, _, rfl, rfl, ⟨by decide, by decide⟩, _, _, rfl, rfl, (show (0 : Int) < 3 by decide), q, _, _, _, rfl, rfl, SqL.of upd_same, hz, ?_⟩
        refine ⟨_, rfl, (show 0 ≤ sizeLine by decide), fun p1 g1 => ⟨_, rfl, m, rfl, by omega, by omega, fun p2 g2 => ⟨p2, 0, m, rfl, upd_same, ⟨by omega, by omega, by omega, by omega⟩, fits (by omega), by omega, fun p3 g3 => ⟨(show 3 ≤ sizeLine by decide), fun n' hn' => ?_⟩⟩⟩⟩
        exact k _ n' p1 p3 [] m [] (rangeL 0 (m - 0).toNat) (by walk_at "sm") (netAt_new hn' (by walk_at "hp") .nil upd_same) (by simp) (by unfold rangeL; rw [List.length_map, List.length_range]; omega)
      case C4 =>
        refine ⟨_, rfl, (show 2 ≤ sizeLine by decide), fun t h1 => ⟨(show 1 ≤ sizeLine by decide), fun p1 g1 => ⟨(show 3 ≤ sizeLine by decide), fun q hq => ?_⟩⟩⟩
        obtain ⟨z, hz, m, rfl, m0, m1⟩ := pick3 (a := V.int 499) (b := V.int 500) (c := V.int 501) f0 f1 (R := fun z => ∃ m : Int, z = V.int m ∧ 0 ≤ m ∧ m ≤ 501) ⟨499, rfl, by decide, by decide⟩ ⟨500, rfl, by decide, by decide⟩ ⟨501, rfl, by decide, by decide⟩
        refine ⟨_, rfl, _, _, rfl, rfl, ⟨by decide, by decide⟩, _, _, rfl, rfl, (show (0 : Int) < 3 by decide), q, _, _, _, rfl, rfl, SqL.of upd_same, hz, ?_⟩
        refine ⟨p1, m, [.ref t], rfl, rfl, (by walk_at "hp"), by omega, by omega, fits (by show 1 * m.toNat ≤ 10000; omega), fun p2 g2 => ⟨_, rfl, (show 3 ≤ sizeLine by decide), fun n' hn' => ?_⟩⟩
        exact k _ n' p2 oa _ wide (List.replicate m.toNat [0, 0]) outs (by walk_at "sm") (netAt_new hn' upd_same (by rw [rep_one]; exact steps_rep (by walk_at "hp") m.toNat) (by walk_at "hp")) (by rw [List.length_replicate]; omega) (by omega)
      case C5 =>
        exact ⟨_, rfl, k H n sa oa rs wide steps outs (Same.refl H) N (by omega) (by omega)⟩
end
end K1

namespace K1
open PySem L2 NM PyProof.Rows
local macro_rules | `(tactic| walk_at "hp") => `(tactic| (repeat (first | exact upd_same | assumption | refine new_at (by assumption) ?_)))
local macro_rules | `(tactic| walk_at "sm") => `(tactic| (repeat (first | exact Same.refl _ | assumption | refine same_new ?_ (by assumption))))
section
variable {P : Program} {w : World} {K : PySem.W.Frag} {mg : Str → Option Value} {base : Heap} {CB CK CR CT CW CS : Addr}
abbrev s_law : Stmt := top 35
theorem sc_law : FnScope ["_law_script", "_law_net_here", "_law_handed", "_law_many", "_law_due", "_law_some", "_law_out", "_law_told_here", "_law_stands", "_law_step", "_law_found"] ["_law_script"] (defScope s_law) := ⟨rfl, rfl, rfl, by decide +kernel, rfl, by decide +kernel, by decide +kernel⟩
def spLaw (K : PySem.W.Frag) : Sp := fun vs H Q _ => ∃ (a : Addr) (ns : List Int), vs = [.ref a] ∧ SqL K H a (ns.map V.int) ∧ ∀ H', Q (.bl true) H'
theorem ok_law {f : Addr} {fd : FuncData} (F : Fun K "law" "law" s_law f fd) (T : Txt K mg CB CK CR CT CW CS) (d__law_mix : Df P w K mg base "_law_mix" 2 ["_law_script", "_law_k"] (spMix K)) (d__law_whole : Df P w K mg base "_law_whole" 1 ["_law_found"] (spWhole)) (d__law_net : Df P w K mg base "_law_net" 3 ["_law_script", "_law_k", "_law_most"] (spDrawn K)) (d__law_spoilt : Df P w K mg base "_law_spoilt" 1 ["_law_net_here", "_law_number"] (spSpoilt)) (d__law_good : Df P w K mg base "_law_good" 1 ["_law_net_here"] (spGood)) (d__law_told : Df P w K mg base "_law_told" 9 ["_law_way", "_law_net_here"] (spTold)) (d__law_deep : Df P w K mg base "_law_deep" 1 ["_law_net_here", "_law_node"] (spDeep)) (d__law_under : Df P w K mg base "_law_under" 1 ["_law_net_here", "_law_node"] (spUnder)) : FnOk P w K mg base (CX1 P w) 10 f fd ["_law_script"] (spLaw K) := by
  refine F.ok1 sc_law (fun vs H Q E h => ?_) (fun cdv A outer s H vs Q E hr h => ?_)
  · obtain ⟨a, ns, rfl, S, k⟩ := h; rfl
  · obtain ⟨a, ns, rfl, S, k⟩ := h
    have nd := sc_law.nd
    refine ⟨_, (pss_cons (ps_set (i := 1) nd rfl (Or.inr rfl) (pe_own d__law_spoilt (hr.mono (by first | decide | omega)) rfl pass1 (pa_cons (pe_own d__law_net (hr.mono (by first | decide | omega)) rfl pass1 (pa_cons (pv 0) (pa_cons pe_int (pa_cons pe_int pa_nil)))) (pa_cons (pe_own d__law_mix (hr.mono (by first | decide | omega)) rfl pass1 (pa_cons (pv 0) (pa_cons pe_int pa_nil))) pa_nil))))
       (pss_cons (ps_if (pt_not (pt_truth (pe_own d__law_good (hr.mono (by first | decide | omega)) rfl pass1 (pa_cons (pv 1) pa_nil)) (fun _ => rfl)))
       (pss_one (ps_ret (pe_cmpR (op_eqD hr) (pe_comp (ot := none) [1] rfl (pi_range1 rfl T.z_range (pa_cons pe_int pa_nil)) (fun _ _ _ _ => (pe_own d__law_told (hr.mono (by first | decide | omega)) rfl pass10 (pa_cons (pv 0) (pa_cons (pv 1) pa_nil)))) (fun _ _ _ _ => trivial) rfl (nodupS_of rfl)) (pe_op op_rep (pe_lst (pa_cons pe_str pa_nil)) pe_int) (nomark _))))
       pss_nil)
       (pss_cons (ps_set (i := 2) nd rfl (Or.inl rfl) (pe_tup (pa_cons (pe_ix ix_tup (pv 1) pe_int (fun _ _ => rfl)) (pa_cons (pe_callTy call_list_of rfl T.z_list boot_list (pa_cons (pe_ix ix_tup (pv 1) pe_int (fun _ _ => rfl)) pa_nil)) (pa_cons (pe_callTy call_list_of rfl T.z_list boot_list (pa_cons (pe_ix ix_tup (pv 1) pe_int (fun _ _ => rfl)) pa_nil)) pa_nil)))))
       (pss_cons (ps_set (i := 3) nd rfl (Or.inl rfl) (pe_op op_add (pe_ix ix_tup (pv 1) pe_int (fun _ _ => rfl)) (pe_callB call_len_seq rfl T.z_len boot_len (pa_cons (pe_ix ix_tup (pv 1) pe_int (fun _ _ => rfl)) pa_nil))))
       (pss_cons (ps_if (pt_cmpR op_gt (pe_callB call_len_seq rfl T.z_len boot_len (pa_cons (pe_ix ix_tup (pv 1) pe_int (fun _ _ => rfl)) pa_nil)) pe_int (nomark _))
       (pss_one (ps_ret (pe_cmpR op_isN (pe_own d__law_told (hr.mono (by first | decide | omega)) rfl pass1 (pa_cons pe_int (pa_cons (pv 2) pa_nil))) pe_non (nomark _))))
       pss_nil)
       (pss_cons (ps_set (i := 4) nd rfl (Or.inr rfl) (pe_comp (ot := none) [1] rfl (pi_range1 rfl T.z_range (pa_cons (pv 3) pa_nil)) (fun _ _ _ _ => (pe_own d__law_deep (hr.mono (by first | decide | omega)) rfl pass10 (pa_cons (pv 1) (pa_cons (pv 0) pa_nil)))) (fun _ _ _ _ => trivial) rfl (nodupS_of rfl)))
       (pss_cons (ps_if (PW.pt (pw_or (pt_cmpR op_notN (pe_own d__law_told (hr.mono (by first | decide | omega)) rfl pass1 (pa_cons pe_int (pa_cons (pv 2) pa_nil))) pe_non (nomark _)) (pw_or1 (pt_cmpR (op_neD hr) (pe_own d__law_told (hr.mono (by first | decide | omega)) rfl pass1 (pa_cons pe_int (pa_cons (pv 2) pa_nil))) (pv 4) (nomark _)))))
       (pss_one (ps_ret pe_bl))
       pss_nil)
       (pss_cons (ps_if (pt_cmpR op_ne (pe_own d__law_told (hr.mono (by first | decide | omega)) rfl pass1 (pa_cons pe_int (pa_cons (pv 2) pa_nil))) (pe_callB (call_maxL rfl) rfl T.z_max boot_max (pa_cons (pe_comp (ot := none) [4] rfl (pi_list (pe_ix ix_tup (pv 1) pe_int (fun _ _ => rfl))) (fun _ _ _ _ => (pe_ix (show IxR _ (rIxL K) from ix_list) (pv 1) (pv 0) (fun _ _ => rfl))) (fun _ _ _ _ => trivial) rfl (nodupS_of rfl)) pa_nil)) (nomark _))
       (pss_one (ps_ret pe_bl))
       pss_nil)
       (pss_cons (ps_set (i := 5) nd rfl (Or.inr rfl) (pe_lst pa_nil))
       (pss_cons (ps_for powns1 rfl (pi_list (pe_ix ix_tup (pv 1) pe_int (fun _ _ => rfl))) (pg_name (i := 6) nd rfl (Or.inl rfl))
       (pss_one (ps_set (i := 5) nd rfl (Or.inr rfl) (pe_op op_cat (pv 5) (pe_own d__law_under (hr.mono (by first | decide | omega)) rfl pass1 (pa_cons (pv 1) (pa_cons (pv 6) pa_nil)))))))
       (pss_cons (ps_set (i := 7) nd rfl (Or.inl rfl) (pe_own d__law_told (hr.mono (by first | decide | omega)) rfl pass1 (pa_cons pe_int (pa_cons (pv 2) pa_nil))))
       (pss_cons (ps_if (PW.pt (pw_or (pt_cmpR (op_neD hr) (pv 7) (pe_comp (ot := none) [5] rfl (pi_range1 rfl T.z_range (pa_cons (pv 3) pa_nil)) (fun _ _ _ _ => (pe_cmpR (show OpR _ _ (rIn K false) from op_in_seq) (pv 0) (pv 1) (by with_unfolding_all rfl))) (fun _ _ _ _ => trivial) rfl (nodupS_of rfl)) (nomark _)) (pw_or1 (pt_not (pt_truth (pe_callB (call_all rfl) rfl T.z_all boot_all (pa_cons (pe_comp (ot := none) [] rfl (pi_list (pv 7)) (fun _ _ _ _ => (pe_callB (show CallR _ _ (rIsi K) from call_isiK) rfl T.z_isinstance boot_isinstance (pa_cons (pv 0) (pa_cons (pe_bltn (v := .ty "bool") rfl T.z_bool boot_bool rfl) pa_nil)))) (fun _ _ _ _ => trivial) rfl (nodupS_of rfl)) pa_nil)) (fun _ => rfl))))))
       (pss_one (ps_ret pe_bl))
       pss_nil)
       (pss_cons (ps_set (i := 8) nd rfl (Or.inr rfl) (pe_callTy call_list_of rfl T.z_list boot_list (pa_cons (pe_ix ix_tup (pv 1) pe_int (fun _ _ => rfl)) pa_nil)))
       (pss_cons (ps_for powns1 rfl (pi_list (pe_ix ix_tup (pv 1) pe_int (fun _ _ => rfl))) (pg_name (i := 9) nd rfl (Or.inl rfl))
       (pss_one (ps_set (i := 8) nd rfl (Or.inr rfl) (pe_op op_cat (pv 8) (pe_callTy call_list_of rfl T.z_list boot_list (pa_cons (pv 9) pa_nil))))))
       (pss_cons (ps_set (i := 10) nd rfl (Or.inl rfl) (pe_own d__law_told (hr.mono (by first | decide | omega)) rfl pass1 (pa_cons pe_int (pa_cons (pv 2) pa_nil))))
       (pss_one (ps_ret (pe_and (pe_cmpR (op_eqD hr) (pv 10) (pe_comp (ot := none) [8] rfl (pi_range1 rfl T.z_range (pa_cons (pv 3) pa_nil)) (fun _ _ _ _ => (show PE _ _ (tBM K _ _ _ _) from (pe_bm PySem.F.plainAttrs_list PySem.F.slot_list_count PySem.F.type_list_count (show MtR _ _ (rCount K) from mt_count) (pv 1) (pa_cons (pv 0) pa_nil)))) (fun _ _ _ _ => trivial) rfl (nodupS_of rfl)) (nomark _)) (pe_and (pe_own d__law_whole (hr.mono (by first | decide | omega)) rfl pass1 (pa_cons (pe_ix ix_list (pv 10) pe_int (fun _ _ => rfl)) pa_nil)) (pe_one (pe_cmpR (op_eqD hr) (pv 2) (pv 1) (nomark _)))))))))))))))))))))), ?_⟩
    refine ⟨_, rfl, a, ns, 0, 6, rfl, by decide, by decide, S, fun H1 n0 sa0 oa0 rs0 wide0 steps0 outs0 s1 N1 w1 w2 hsl0 h20 hol0 => ?_⟩
    refine ⟨_, rfl, a, ns, 30, rfl, s1.seq S, fun num hnum => ?_⟩
    refine ⟨n0, sa0, oa0, rs0, num, wide0, steps0, outs0, rfl, hnum, N1, w1, by omega, hsl0, hol0, fun H2 n sa oa rs wide steps outs s2 N2 l1 l2 => ?_⟩
    refine ⟨_, rfl, n, sa, oa, rs, wide, steps, outs, rfl, N2, l1, l2, _, rfl, iteN (fun hb => ?_) (fun hg => ?_)⟩
    · have bad : ¬ Good wide steps outs := of_decide_eq_false hb
      refine ⟨5, rfl, by decide, by decide, ?_⟩
      refine comp_range (lo := 0) (n := 5) (fun i ys H3 => Same H2 H3 ∧ ys = List.replicate i (V.str "net")) ⟨Same.refl H2, rfl⟩ (fun i ys H3 _ ⟨_, e⟩ => ?_) ?_ ?_
      · rw [e, List.length_replicate]
        exact fitsL (by omega)
      · rintro i ys H3 R hi ⟨s3, rfl⟩ kR
        refine ⟨_, rfl, _, rfl, 0 + (i : Int), n, sa, oa, rs, wide, steps, outs, rfl, by omega, by omega, l2, N2.mono s3, fun H4 s4 => ⟨fun _ => kR _ _ ⟨s3.trans s4, ?_⟩, fun N hN e1 e2 e3 => ?_⟩⟩
        · rw [List.replicate_succ']
        · subst e1 e2 e3
          exact absurd hN.good bad
      · rintro ys H3 ⟨s3, rfl⟩
        intro p hp
        refine ⟨(show 1 ≤ sizeLine by decide), fun q hq => ?_⟩
        refine ⟨q, 5, _, rfl, rfl, upd_same, by decide, by decide, fits (by decide), fun l hl => ?_⟩
        refine ⟨.lst ((List.replicate 5 (Str.ofString "net")).map Dt.str), p, l, rfl, rfl, ?_, ?_, dp_lst (dps_strs _), k _⟩
        · exact deep_lst (SqL.of (new_at hl (new_at hq upd_same))) (deeps_strs (List.replicate 5 (Str.ofString "net")))
        · exact deep_lst (SqL.of upd_same) (deeps_strs (List.replicate 5 (Str.ofString "net")))
    obtain ⟨N, hN, rfl, rfl, rfl⟩ := (of_decide_eq_true hg).net
    have hw := hN.hi
    have hlo := hN.lo
    have hln := hN.len
    have hrl : rs.length = N.st.length := by rw [N2.st.length, steps_len]
    refine ⟨_, rfl, _, _, _, _, rfl, rfl, SqT.of N2.net, rfl, _, rfl, _, _, _, _, rfl, rfl, SqT.of N2.net, rfl, sa, rs, rfl, .inl (SqL.of N2.sts), fun sb hsb => ⟨_, rfl, _, _, _, _, rfl, rfl, SqT.of (new_at hsb N2.net), rfl, oa, _, rfl, .inl (SqL.of (new_at hsb N2.ots)), fun ob hob => ⟨(show 3 ≤ sizeLine by decide), fun hn hhn => ?_⟩⟩⟩
    have nd5 : NetAt (upd (upd (upd H2 sb (.lst rs)) ob (.lst (N.outs.map V.int))) hn (.tup [.int N.w, .ref sb, .ref ob])) hn N.w N.steps N.outs sb ob rs := netAt_new hhn (new_at hob upd_same) ((N2.st.mono (Same.new hsb)).mono (Same.new hob)) upd_same
    have nh5 : NetAt (upd (upd (upd H2 sb (.lst rs)) ob (.lst (N.outs.map V.int))) hn (.tup [.int N.w, .ref sb, .ref ob])) n N.w N.steps N.outs sa oa rs := ((N2.mono (Same.new hsb)).mono (Same.new hob)).mono (Same.new hhn)
    generalize (upd (upd (upd H2 sb (.lst rs)) ob (.lst (N.outs.map V.int))) hn (.tup [.int N.w, .ref sb, .ref ob])) = H5 at nd5 nh5 ⊢
    clear hhn hob hsb N2 s2 N1 hsl0 h20 hol0 w1 w2 s1
    refine ⟨_, rfl, _, _, _, _, rfl, rfl, SqT.of nh5.net, rfl, _, rfl, _, _, _, _, rfl, rfl, SqT.of nh5.net, rfl, _, _, rfl, .inl (SqL.of nh5.sts), _, _, rfl, rfl, ?_⟩
    refine ⟨_, rfl, _, _, _, _, rfl, rfl, SqT.of nh5.net, rfl, _, _, rfl, .inl (SqL.of nh5.sts), _, _, rfl, rfl, _, rfl, iteB (fun b20 => ?_) (fun b20 => ?_)⟩
    · refine ⟨_, rfl, 0, hn, sb, ob, rs, N.w, N.steps, N.outs, rfl, by decide, by decide, l2, nd5, fun H6 s6 => ⟨fun g => absurd hN.good g, fun N' hN' e1 e2 e3 => Told.of0 ⟨rfl, ?_⟩⟩⟩
      rw [decide_eq_true rfl]
      exact k _
    have h20 : N.st.length ≤ 20 := by simp at b20; omega
    have hmany : ((N.w : Int) + (rs.length : Int)).toNat = N.w + N.st.length := by omega
    have hdl : N.depths.length = N.w + N.st.length := by rw [← N.depthsTo_all, N.depthsTo_len, List.take_length]
    refine ⟨_, rfl, _, rfl, by omega, by omega, ?_⟩
    rw [hmany]
    refine comp_range (lo := 0) (n := N.w + N.st.length) (fun i ys H3 => Same H5 H3 ∧ ys = (N.depths.take i).map V.int) ⟨Same.refl H5, rfl⟩ (fun i ys H3 hi ⟨_, e⟩ => ?_) ?_ ?_
    · rw [e, List.length_map, List.length_take]
      exact fitsL (by omega)
    · rintro i ys H3 R hi ⟨s3, rfl⟩ kR
      refine ⟨_, rfl, _, rfl, n, sa, oa, rs, N, i, by rw [Int.zero_add]; rfl, nh5.mono s3, hN, hi, fun H4 s4 => kR _ _ ⟨s3.trans s4, ?_⟩⟩
      rw [take_snoc (getD_some 0 (by omega))]
    rintro ys H6 ⟨s6, rfl⟩
    intro dp hdp
    have hdp' : H5 dp = none := s6.free hdp
    rw [List.take_of_length_le (by omega)]
    have nh7 := (nh5.mono s6).mono (Same.new (o := .lst (N.depths.map V.int)) hdp)
    have s7 : Same H5 (upd H6 dp (.lst (N.depths.map V.int))) := s6.trans (Same.new hdp)
    have hd7 : upd H6 dp (.lst (N.depths.map V.int)) dp = some (.lst (N.depths.map V.int)) := upd_same
    generalize upd H6 dp (.lst (N.depths.map V.int)) = H7 at nh7 s7 hd7 ⊢
    clear hdp hdp' s6
    refine ⟨_, rfl, 0, hn, sb, ob, rs, N.w, N.steps, N.outs, rfl, by decide, by decide, l2, nd5.mono s7, fun H8 s8 => ?_⟩
    refine ⟨fun g => absurd hN.good g, fun N' hN' e1 e2 e3 => ?_⟩
    obtain rfl := net_inj e1 e2 e3
    clear hN' e1 e2 e3
    refine Told.of0 ⟨rfl, _, rfl, iteNS rfl ?_⟩
    refine ⟨_, rfl, 1, hn, sb, ob, rs, N.w, N.steps, N.outs, rfl, by decide, by decide, l2, nd5.mono (s7.trans s8), fun H9 s9 => ?_⟩
    refine ⟨fun g => absurd hN.good g, fun N' hN' e1 e2 e3 => ?_⟩
    obtain rfl := net_inj e1 e2 e3
    clear hN' e1 e2 e3
    refine Told.of1 fun l9 hl9 => ?_
    have hd9 := s9 _ _ (s8 _ _ hd7)
    have nh9 := (nh7.mono s8).mono s9
    refine ⟨_, rfl, .lst (N.depths.map Dt.int), l9, dp, rfl, rfl, deep_lst (SqL.of hl9) (deeps_ints _), deep_lst (SqL.of hd9) (deeps_ints _), dp_lst (dps_ints _), _, rfl, iteF ?_⟩
    have s59 := (s7.trans s8).trans s9
    clear s7 s8 s9 nh7 hd7 hl9
    refine ⟨_, rfl, 2, hn, sb, ob, rs, N.w, N.steps, N.outs, rfl, by decide, by decide, l2, nd5.mono s59, fun H10 s10 => ?_⟩
    refine ⟨fun g => absurd hN.good g, fun N' hN' e1 e2 e3 => ?_⟩
    obtain rfl := net_inj e1 e2 e3
    clear hN' e1 e2 e3
    refine Told.of2 fun M hM hMb => ?_
    have nh10 := nh9.mono s10
    have hd10 := s10 _ _ hd9
    have s510 := s59.trans s10
    have hol := hN.ol
    refine ⟨_, rfl, _, _, _, _, rfl, rfl, SqT.of nh10.net, rfl, oa, rfl, ⟨_, SqL.of nh10.ots⟩, ?_⟩
    refine comp_list (K := K) (a := oa) (xs := N.outs.map V.int) (fun i ys H3 => Same H10 H3 ∧ ys = ((N.ou.take i).map fun o => N.depths.getD o 0).map V.int) ⟨Same.refl H10, rfl⟩ (fun i ys H3 _ ⟨s3, _⟩ => SqL.of (s3 _ _ nh10.ots)) (fun i ys H3 _ ⟨_, e⟩ => ?_) ?_ ?_
    · rw [e, List.length_map, List.length_map, List.length_take]
      exact fitsL (by omega)
    · rintro i x ys H3 R hx ⟨s3, rfl⟩ kR
      obtain ⟨o, ho, rfl⟩ := outs_get hx
      have hob := hN.ob o (List.mem_of_getElem? ho)
      refine ⟨_, rfl, _, rfl, dp, _, _, _, rfl, rfl, SqL.of (s3 _ _ hd10), atI_ints (by omega), kR _ _ ⟨s3, ?_⟩⟩
      rw [List.take_add_one, ho, List.map_append, List.map_append]
      rfl
    rintro ys H11 ⟨s11, rfl⟩
    intro p hp
    have e : ((N.ou.take (N.outs.map V.int).length).map fun o => N.depths.getD o 0) = outDepths N := by
      rw [List.length_map, outs_len, List.take_length]; rfl
    rw [e]
    have hne : outDepths N ≠ [] := by
      unfold outDepths
      intro z
      have z2 := congrArg List.length z
      rw [List.length_map, List.length_nil] at z2
      omega
    refine ⟨p, _, rfl, .inl (SqL.of upd_same), hne, fun M2 hM2 hMb2 => ⟨rfl, _, rfl, iteNS (congrArg V.int (Int.le_antisymm (hMb2 _ hM) (hMb _ hM2))) ?_⟩⟩
    have s512 : Same H5 (upd H11 p (.lst ((outDepths N).map V.int))) := (s510.trans s11).trans (Same.new hp)
    generalize upd H11 p (.lst ((outDepths N).map V.int)) = H12 at s512 ⊢
    clear s11 hp s510 hd10 nh10 s10 s59 hd9 nh9 hM hMb hM2 hMb2 hne e
    refine ⟨(show 0 ≤ sizeLine by decide), fun q hq => ?_⟩
    have s513 : Same H5 (upd H12 q (.lst [])) := s512.trans (Same.new hq)
    have hq13 : upd H12 q (.lst []) q = some (.lst []) := upd_same
    generalize upd H12 q (.lst []) = H13 at s513 hq13 ⊢
    clear hq s512
    have nh13 := nh5.mono s513
    refine ⟨_, rfl, _, _, _, _, rfl, rfl, SqT.of nh13.net, rfl, oa, rfl, ⟨_, SqL.of nh13.ots⟩, for_list (K := K) (a := oa) (xs := N.outs.map V.int) (fun i σ3 H3 => ∃ (l : Addr) (xs : List Nat) (v6 : Option V), σ3 = [some (.ref a), some (.ref n), some (.ref hn), some (.int ((N.w : Int) + (rs.length : Int))), some (.ref dp), some (.ref l), v6, none, none, none, none] ∧ Same H13 H3 ∧ H3 l = some (.lst (xs.map fun u => V.int (u : Nat))) ∧ xs.length ≤ i * 169 ∧ ∀ u, u ∈ xs ↔ ∃ o ∈ N.ou.take i, N.Under o u)
      ⟨q, [], _, rfl, Same.refl _, hq13, by simp, fun u => by simp⟩ (fun i σ3 H3 _ ⟨_, _, _, _, s5, _⟩ => SqL.of (s5 _ _ nh13.ots)) ?_ ?_⟩
    · rintro i x σ3 H3 hx ⟨l, xs, v6, rfl, s14, hl3, hlen, hmem⟩
      obtain ⟨o, ho, rfl⟩ := outs_get hx
      have hil := (List.getElem?_eq_some_iff.mp ho).1
      have hob := hN.ob o (List.mem_of_getElem? ho)
      refine ⟨_, rfl, _, rfl, _, rfl, n, sa, oa, rs, N, o, rfl, nh13.mono s14, hN, hob, fun H4 l4 ys s6 hl4 hy hyl => ⟨l, l4, _, _, rfl, rfl, s6 _ _ hl3, hl4, by rw [List.length_map, List.length_map, sizeLine_eq]; omega, fun l5 hl5 => ?_⟩⟩
      refine ⟨l5, xs ++ ys, _, rfl, (s14.trans s6).trans (Same.new hl5), by rw [upd_same, List.map_append], by rw [List.length_append]; omega, fun u => ?_⟩
      rw [List.mem_append, hmem, hy, List.take_add_one, ho]
      constructor
      · rintro (⟨o', ho', hu⟩ | hu)
        · exact ⟨o', List.mem_append_left _ ho', hu⟩
        · exact ⟨o, List.mem_append_right _ (by simp), hu⟩
      · rintro ⟨o', ho', hu⟩
        rcases List.mem_append.mp ho' with z | z
        · exact .inl ⟨o', z, hu⟩
        · have : o' = o := by simpa using z
          subst this; exact .inr hu
    rintro σ3 H14 ⟨l, xs, v6, rfl, s14, hl14, hlen, hmem⟩
    rw [List.length_map, outs_len, List.take_length] at hmem
    have hue := used_eq hN hmem
    have s514 := s513.trans s14
    clear s513 s14 nh13 hq13
    refine ⟨_, rfl, 3, hn, sb, ob, rs, N.w, N.steps, N.outs, rfl, by decide, by decide, l2, nd5.mono s514, fun H15 s15 => ?_⟩
    refine ⟨fun g => absurd hN.good g, fun N' hN' e1 e2 e3 => ?_⟩
    obtain rfl := net_inj e1 e2 e3
    clear hN' e1 e2 e3
    refine Told.of3 fun l7 hl7 => ?_
    have hl15 := s15 _ _ hl14
    have s515 := s514.trans s15
    clear s514 s15 hl14
    refine ⟨_, rfl, _, rfl, _, rfl, by omega, by omega, ?_⟩
    rw [hmany]
    refine comp_range (lo := 0) (n := N.w + N.st.length) (fun i ys H3 => Same H15 H3 ∧ ys = ((List.range i).map fun v => decide (v ∈ xs)).map V.bl) ⟨Same.refl H15, rfl⟩ (fun i ys H3 hi ⟨_, e⟩ => ?_) ?_ ?_
    · rw [e, List.length_map, List.length_map, List.length_range]
      exact fitsL (by omega)
    · rintro i ys H3 R hi ⟨s3, rfl⟩ kR
      refine ⟨_, rfl, _, rfl, l, _, rfl, .inl (SqL.of (s3 _ _ hl15)), rfl, flat_nats xs, kR _ _ ⟨s3, ?_⟩⟩
      rw [Int.zero_add, inV_nats, List.range_succ, List.map_append, List.map_append]
      rfl
    rintro ys H16 ⟨s16, rfl⟩
    intro p16 hp16
    rw [← hue]
    refine ⟨.lst (N.used.map Dt.bl), l7, p16, rfl, rfl, deep_lst (SqL.of (new_at hp16 (s16 _ _ hl7))) (deeps_bls _), deep_lst (SqL.of upd_same) (deeps_bls _), dp_lst (dps_bls _), _, rfl, iteF ?_⟩
    have hl17 : upd H16 p16 (.lst (N.used.map V.bl)) l7 = some (.lst (N.used.map V.bl)) := new_at hp16 (s16 _ _ hl7)
    have s517 : Same H5 (upd H16 p16 (.lst (N.used.map V.bl))) := (s515.trans s16).trans (Same.new hp16)
    generalize upd H16 p16 (.lst (N.used.map V.bl)) = H17 at hl17 s517 ⊢
    clear s515 s16 hp16 hl15 hl7
    have hul := N.used_len
    refine ⟨_, rfl, l7, rfl, ⟨_, SqL.of hl17⟩, ?_⟩
    refine comp_list (K := K) (a := l7) (xs := N.used.map V.bl) (fun i ys H3 => Same H17 H3 ∧ ys = (List.replicate i true).map V.bl) ⟨Same.refl H17, rfl⟩ (fun i ys H3 _ ⟨s3, _⟩ => SqL.of (s3 _ _ hl17)) (fun i ys H3 hi ⟨_, e⟩ => ?_) ?_ ?_
    · rw [List.length_map] at hi
      rw [e, List.length_map, List.length_replicate]
      exact fitsL (by omega)
    · rintro i x ys H3 R hx ⟨s3, rfl⟩ kR
      rw [List.getElem?_map] at hx
      obtain ⟨b, hb, rfl⟩ := Option.map_eq_some_iff.mp hx
      refine ⟨_, rfl, _, _, _, _, true, rfl, rfl, .bl b, rfl, kR _ _ ⟨s3, ?_⟩⟩
      rw [List.replicate_succ', List.map_append]
      rfl
    rintro ys H18 ⟨s18, rfl⟩
    intro p18 hp18
    refine ⟨p18, _, rfl, SqL.of upd_same, _, rfl, iteN (fun z => ?_) (fun _ => ?_)⟩
    · exfalso
      have : (List.replicate (N.used.map V.bl).length true).all id = true := by rw [List.all_eq_true]; intro x hx; exact (List.mem_replicate.mp hx).2
      rw [this] at z
      cases z
    have s519 : Same H5 (upd H18 p18 (.lst ((List.replicate (N.used.map V.bl).length true).map V.bl))) := (s517.trans s18).trans (Same.new hp18)
    generalize upd H18 p18 (.lst ((List.replicate (N.used.map V.bl).length true).map V.bl)) = H19 at s519 ⊢
    clear s517 s18 hp18 hl17
    have nh19 := nh5.mono s519
    refine ⟨_, rfl, _, _, _, _, rfl, rfl, SqT.of nh19.net, rfl, oa, _, rfl, .inl (SqL.of nh19.ots), fun q20 hq20 => ?_⟩
    have s520 : Same H5 (upd H19 q20 (.lst (N.outs.map V.int))) := s519.trans (Same.new hq20)
    have hq20' : upd H19 q20 (.lst (N.outs.map V.int)) q20 = some (.lst (N.outs.map V.int)) := upd_same
    generalize upd H19 q20 (.lst (N.outs.map V.int)) = H20 at s520 hq20' ⊢
    have nh20 := nh5.mono s520
    refine ⟨_, rfl, _, _, _, _, rfl, rfl, SqT.of nh20.net, rfl, sa, rfl, ⟨_, SqL.of nh20.sts⟩, for_list (K := K) (a := sa) (xs := rs) (fun i σ3 H3 => ∃ (l8 : Addr) (v9 : Option V), σ3 = [some (.ref a), some (.ref n), some (.ref hn), some (.int ((N.w : Int) + (rs.length : Int))), some (.ref dp), some (.ref l), v6, some (.ref l7), some (.ref l8), v9, none] ∧ Same H20 H3 ∧ H3 l8 = some (.lst ((N.ou ++ flat (N.st.take i)).map fun u => V.int (u : Nat))) ∧ (flat (N.st.take i)).length = 2 * i)
      ⟨q20, _, rfl, Same.refl _, by rw [hq20', outs_nats]; simp [flat], by simp [flat]⟩ (fun i σ3 H3 _ ⟨_, _, _, s5, _⟩ => SqL.of (s5 _ _ nh20.sts)) ?_ ?_⟩
    · rintro i x σ3 H3 hx ⟨l8, v9, rfl, s21, hl8, hfl⟩
      obtain ⟨r, pr, rfl, hpr, hr0⟩ := NetN.Ok.steps_get nh20.st hx
      have hil := (List.getElem?_eq_some_iff.mp hpr).1
      refine ⟨_, rfl, _, rfl, r, _, rfl, .inr (SqT.of (s21 _ _ hr0)), fun q21 hq21 => ⟨l8, q21, _, _, rfl, rfl, new_at hq21 hl8, upd_same, ?_, fun l9 hl9 => ?_⟩⟩
      · rw [List.length_map, List.length_append, sizeLine_eq]
        show _ + 2 ≤ _
        omega
      refine ⟨l9, _, rfl, (s21.trans (Same.new hq21)).trans (Same.new hl9), ?_, ?_⟩
      · rw [upd_same, flat_snoc hpr, ← List.append_assoc]
        simp only [List.map_append]
        rfl
      · rw [flat_snoc hpr, List.length_append, hfl]
        show 2 * i + 2 = _
        omega
    rintro σ3 H21 ⟨l8, v9, rfl, s21, hl21, hfl⟩
    rw [hrl, List.take_length] at hl21
    have s521 := s520.trans s21
    clear s520 s21 nh20 hq20' hq20 nh19 s519
    refine ⟨_, rfl, 4, hn, sb, ob, rs, N.w, N.steps, N.outs, rfl, by decide, by decide, l2, nd5.mono s521, fun H22 s22 => ?_⟩
    refine ⟨fun g => absurd hN.good g, fun N' hN' e1 e2 e3 => ?_⟩
    obtain rfl := net_inj e1 e2 e3
    clear hN' e1 e2 e3
    refine Told.of4 fun l10 hl10 => ?_
    have hl22 := s22 _ _ hl21
    have s522 := s521.trans s22
    clear s521 s22 hl21
    refine ⟨_, rfl, _, rfl, _, rfl, by omega, by omega, ?_⟩
    rw [hmany]
    refine comp_range (lo := 0) (n := N.w + N.st.length) (fun i ys H3 => Same H22 H3 ∧ ys = ((List.range i).map fun v => (((N.ou ++ flat N.st).count v : Nat) : Int)).map V.int) ⟨Same.refl H22, rfl⟩ (fun i ys H3 hi ⟨_, e⟩ => ?_) ?_ ?_
    · rw [e, List.length_map, List.length_map, List.length_range]
      exact fitsL (by omega)
    · rintro i ys H3 R hi ⟨s3, rfl⟩ kR
      refine ⟨_, rfl, .inl ⟨rfl, _, SqL.of (s3 _ _ hl22)⟩, _, rfl, l8, _, _, rfl, rfl, SqL.of (s3 _ _ hl22), rfl, flat_nats _, kR _ _ ⟨s3, ?_⟩⟩
      rw [Int.zero_add, count_nats, List.range_succ, List.map_append, List.map_append]
      rfl
    rintro ys H23 ⟨s23, rfl⟩
    intro p23 hp23
    rw [← fan_eq hN]
    have hl24 : upd H23 p23 (.lst (N.fan.map V.int)) l10 = some (.lst (N.fan.map V.int)) := new_at hp23 (s23 _ _ hl10)
    have s524 : Same H5 (upd H23 p23 (.lst (N.fan.map V.int))) := (s522.trans s23).trans (Same.new hp23)
    refine ⟨.lst (N.fan.map Dt.int), l10, p23, rfl, rfl, deep_lst (SqL.of hl24) (deeps_ints _), deep_lst (SqL.of upd_same) (deeps_ints _), dp_lst (dps_ints _), _, rfl, iteT ?_⟩
    refine ⟨_, rfl, l10, _, _, _, rfl, rfl, SqL.of hl24, atI_ints (j := 0) (by rw [fan_len]; omega), _, rfl, _, rfl, iteT ?_⟩
    exact ⟨_, rfl, _, rfl, dNet N.w N.steps N.outs, hn, n, rfl, rfl, deep_net (nd5.mono s524), deep_net (nh5.mono s524), dp_net, k _⟩
end
end K1

namespace K1
open PySem L2 NM PyProof.Rows
theorem all_mk {l : PySem.W.OpenLaw} {w : World} {K : PySem.W.Frag} {h : Heap} {mg : Str → Option Value} {fa : Addr} {CB CK CR CT CW CS : Addr} (X : K.In h) (G : h.Ns mainGlobals mg) (hfa : mg "law" = some (.ref fa))
    {tg_MOST_THINGS : Tok}
    {tg_MOST_STEPS : Tok}
    {f_is_whole : Addr} {od_is_whole an_is_whole : Option Addr} {sl_is_whole : Array (Option Value)} {oc_is_whole kV_is_whole dc_is_whole pm_is_whole cd_is_whole ct_is_whole : Value}
    {f_is_within : Addr} {od_is_within an_is_within : Option Addr} {sl_is_within : Array (Option Value)} {oc_is_within kV_is_within dc_is_within pm_is_within cd_is_within ct_is_within : Value}
    {f_is_node : Addr} {od_is_node an_is_node : Option Addr} {sl_is_node : Array (Option Value)} {oc_is_node kV_is_node dc_is_node pm_is_node cd_is_node ct_is_node : Value}
    {f_is_step : Addr} {od_is_step an_is_step : Option Addr} {sl_is_step : Array (Option Value)} {oc_is_step kV_is_step dc_is_step pm_is_step cd_is_step ct_is_step : Value}
    {f_look_net : Addr} {od_look_net an_look_net : Option Addr} {sl_look_net : Array (Option Value)} {oc_look_net kV_look_net dc_look_net pm_look_net cd_look_net ct_look_net : Value}
    {f_look_wide : Addr} {od_look_wide an_look_wide : Option Addr} {sl_look_wide : Array (Option Value)} {oc_look_wide kV_look_wide dc_look_wide pm_look_wide cd_look_wide ct_look_wide : Value}
    {f_look_steps : Addr} {od_look_steps an_look_steps : Option Addr} {sl_look_steps : Array (Option Value)} {oc_look_steps kV_look_steps dc_look_steps pm_look_steps cd_look_steps ct_look_steps : Value}
    {f_look_outs : Addr} {od_look_outs an_look_outs : Option Addr} {sl_look_outs : Array (Option Value)} {oc_look_outs kV_look_outs dc_look_outs pm_look_outs cd_look_outs ct_look_outs : Value}
    {f_depths : Addr} {od_depths an_depths : Option Addr} {sl_depths : Array (Option Value)} {oc_depths kV_depths dc_depths pm_depths cd_depths ct_depths : Value}
    {f_depth : Addr} {od_depth an_depth : Option Addr} {sl_depth : Array (Option Value)} {oc_depth kV_depth dc_depth pm_depth cd_depth ct_depth : Value}
    {f_used : Addr} {od_used an_used : Option Addr} {sl_used : Array (Option Value)} {oc_used kV_used dc_used pm_used cd_used ct_used : Value}
    {f_used_nodes : Addr} {od_used_nodes an_used_nodes : Option Addr} {sl_used_nodes : Array (Option Value)} {oc_used_nodes kV_used_nodes dc_used_nodes pm_used_nodes cd_used_nodes ct_used_nodes : Value}
    {f_fan : Addr} {od_fan an_fan : Option Addr} {sl_fan : Array (Option Value)} {oc_fan kV_fan dc_fan pm_fan cd_fan ct_fan : Value}
    {f__law_cell : Addr} {od__law_cell an__law_cell : Option Addr} {sl__law_cell : Array (Option Value)} {oc__law_cell kV__law_cell dc__law_cell pm__law_cell cd__law_cell ct__law_cell : Value}
    {f__law_mix : Addr} {od__law_mix an__law_mix : Option Addr} {sl__law_mix : Array (Option Value)} {oc__law_mix kV__law_mix dc__law_mix pm__law_mix cd__law_mix ct__law_mix : Value}
    {f__law_whole : Addr} {od__law_whole an__law_whole : Option Addr} {sl__law_whole : Array (Option Value)} {oc__law_whole kV__law_whole dc__law_whole pm__law_whole cd__law_whole ct__law_whole : Value}
    {f__law_net : Addr} {od__law_net an__law_net : Option Addr} {sl__law_net : Array (Option Value)} {oc__law_net kV__law_net dc__law_net pm__law_net cd__law_net ct__law_net : Value}
    {f__law_refusal : Addr} {od__law_refusal an__law_refusal : Option Addr} {sl__law_refusal : Array (Option Value)} {oc__law_refusal kV__law_refusal dc__law_refusal pm__law_refusal cd__law_refusal ct__law_refusal : Value}
    {f__law_spoilt : Addr} {od__law_spoilt an__law_spoilt : Option Addr} {sl__law_spoilt : Array (Option Value)} {oc__law_spoilt kV__law_spoilt dc__law_spoilt pm__law_spoilt cd__law_spoilt ct__law_spoilt : Value}
    {f__law_good : Addr} {od__law_good an__law_good : Option Addr} {sl__law_good : Array (Option Value)} {oc__law_good kV__law_good dc__law_good pm__law_good cd__law_good ct__law_good : Value}
    {f__law_told : Addr} {od__law_told an__law_told : Option Addr} {sl__law_told : Array (Option Value)} {oc__law_told kV__law_told dc__law_told pm__law_told cd__law_told ct__law_told : Value}
    {f__law_deep : Addr} {od__law_deep an__law_deep : Option Addr} {sl__law_deep : Array (Option Value)} {oc__law_deep kV__law_deep dc__law_deep pm__law_deep cd__law_deep ct__law_deep : Value}
    {f__law_under : Addr} {od__law_under an__law_under : Option Addr} {sl__law_under : Array (Option Value)} {oc__law_under kV__law_under dc__law_under pm__law_under cd__law_under ct__law_under : Value}
    {f_law : Addr} {od_law an_law : Option Addr} {sl_law : Array (Option Value)} {oc_law kV_law dc_law pm_law cd_law ct_law : Value}
    (ag_BadNet : PySem.W.nsIn K mainGlobals "BadNet" = some (some (.ref CB)))
    (ag_BadKind : PySem.W.nsIn K mainGlobals "BadKind" = some (some (.ref CK)))
    (ag_BadRow : PySem.W.nsIn K mainGlobals "BadRow" = some (some (.ref CR)))
    (ag_BadText : PySem.W.nsIn K mainGlobals "BadText" = some (some (.ref CT)))
    (ag_Wrong : PySem.W.nsIn K mainGlobals "Wrong" = some (some (.ref CW)))
    (ag_SumError : PySem.W.nsIn K mainGlobals "SumError" = some (some (.ref CS)))
    (hx_BadNet : PySem.W.excIn K CB bmV "ValueError.__new__" = true)
    (he_BadNet0 : PySem.W.findIn K (.ref CB) "__getattribute__" = some (some (.builtin "BaseException.__getattribute__")))
    (he_BadNet1 : PySem.W.findIn K (.ref CB) "__getattr__" = some none)
    (he_BadNet2 : PySem.W.findIn K (.ref CB) "__class__" = some (some (.builtin "object.__class__")))
    (he_BadNet3 : PySem.W.subIn K (.ref CB) (.type "object") = some true)
    (he_BadNet4 : PySem.W.subIn K (.ref CB) (.type "BaseException") = some true)
    (he_BadNet5 : PySem.W.kitCls K (.ref CB) (.ref CB) = some true)
    (hk_BadKind : PySem.W.kitOne K (.ref CB) (.ref CK) = some false)
    (hk_BadNet : PySem.W.kitOne K (.ref CB) (.ref CB) = some true)
    (hk_BadRow : PySem.W.kitOne K (.ref CB) (.ref CR) = some false)
    (hk_BadText : PySem.W.kitOne K (.ref CB) (.ref CT) = some false)
    (hk_Wrong : PySem.W.kitOne K (.ref CB) (.ref CW) = some false)
    (hk_ValueError : PySem.W.kitOne K (.ref CB) (.type "ValueError") = some true)
    (hm_SumError : PySem.W.exmOne K (.ref CB) (.ref CS) = some true)
    (hg_MOST_THINGS : PySem.W.nsIn K mainGlobals "MOST_THINGS" = some (some (.int 64 tg_MOST_THINGS)))
    (hg_MOST_STEPS : PySem.W.nsIn K mainGlobals "MOST_STEPS" = some (some (.int 500 tg_MOST_STEPS)))
    (hz_isinstance : PySem.W.nsIn K mainGlobals "isinstance" = some none)
    (hz_int : PySem.W.nsIn K mainGlobals "int" = some none)
    (hz_bool : PySem.W.nsIn K mainGlobals "bool" = some none)
    (hz_tuple : PySem.W.nsIn K mainGlobals "tuple" = some none)
    (hz_list : PySem.W.nsIn K mainGlobals "list" = some none)
    (hz_len : PySem.W.nsIn K mainGlobals "len" = some none)
    (hz_max : PySem.W.nsIn K mainGlobals "max" = some none)
    (hz_min : PySem.W.nsIn K mainGlobals "min" = some none)
    (hz_range : PySem.W.nsIn K mainGlobals "range" = some none)
    (hz_enumerate : PySem.W.nsIn K mainGlobals "enumerate" = some none)
    (hz_all : PySem.W.nsIn K mainGlobals "all" = some none)
    (hz_ValueError : PySem.W.nsIn K mainGlobals "ValueError" = some none)
    (a_is_whole : PySem.W.nsIn K mainGlobals "is_whole" = some (some (.ref f_is_whole)))
    (l_is_whole : K.lookup f_is_whole = some ⟨oc_is_whole, od_is_whole, .func (PySem.W.fnOf "is_whole" "is_whole" (defArgs s_is_whole) (defBody s_is_whole) (defScope s_is_whole) .none kV_is_whole dc_is_whole pm_is_whole an_is_whole cd_is_whole ct_is_whole), sl_is_whole⟩)
    (c_is_whole : PySem.W.codeIn K cd_is_whole "is_whole" = true)
    (k_is_whole : PySem.W.keepIn K (.ref f_is_whole) = true)
    (a_is_within : PySem.W.nsIn K mainGlobals "is_within" = some (some (.ref f_is_within)))
    (l_is_within : K.lookup f_is_within = some ⟨oc_is_within, od_is_within, .func (PySem.W.fnOf "is_within" "is_within" (defArgs s_is_within) (defBody s_is_within) (defScope s_is_within) .none kV_is_within dc_is_within pm_is_within an_is_within cd_is_within ct_is_within), sl_is_within⟩)
    (c_is_within : PySem.W.codeIn K cd_is_within "is_within" = true)
    (k_is_within : PySem.W.keepIn K (.ref f_is_within) = true)
    (a_is_node : PySem.W.nsIn K mainGlobals "is_node" = some (some (.ref f_is_node)))
    (l_is_node : K.lookup f_is_node = some ⟨oc_is_node, od_is_node, .func (PySem.W.fnOf "is_node" "is_node" (defArgs s_is_node) (defBody s_is_node) (defScope s_is_node) .none kV_is_node dc_is_node pm_is_node an_is_node cd_is_node ct_is_node), sl_is_node⟩)
    (c_is_node : PySem.W.codeIn K cd_is_node "is_node" = true)
    (k_is_node : PySem.W.keepIn K (.ref f_is_node) = true)
    (a_is_step : PySem.W.nsIn K mainGlobals "is_step" = some (some (.ref f_is_step)))
    (l_is_step : K.lookup f_is_step = some ⟨oc_is_step, od_is_step, .func (PySem.W.fnOf "is_step" "is_step" (defArgs s_is_step) (defBody s_is_step) (defScope s_is_step) .none kV_is_step dc_is_step pm_is_step an_is_step cd_is_step ct_is_step), sl_is_step⟩)
    (c_is_step : PySem.W.codeIn K cd_is_step "is_step" = true)
    (k_is_step : PySem.W.keepIn K (.ref f_is_step) = true)
    (a_look_net : PySem.W.nsIn K mainGlobals "look_net" = some (some (.ref f_look_net)))
    (l_look_net : K.lookup f_look_net = some ⟨oc_look_net, od_look_net, .func (PySem.W.fnOf "look_net" "look_net" (defArgs s_look_net) (defBody s_look_net) (defScope s_look_net) .none kV_look_net dc_look_net pm_look_net an_look_net cd_look_net ct_look_net), sl_look_net⟩)
    (c_look_net : PySem.W.codeIn K cd_look_net "look_net" = true)
    (k_look_net : PySem.W.keepIn K (.ref f_look_net) = true)
    (a_look_wide : PySem.W.nsIn K mainGlobals "look_wide" = some (some (.ref f_look_wide)))
    (l_look_wide : K.lookup f_look_wide = some ⟨oc_look_wide, od_look_wide, .func (PySem.W.fnOf "look_wide" "look_wide" (defArgs s_look_wide) (defBody s_look_wide) (defScope s_look_wide) .none kV_look_wide dc_look_wide pm_look_wide an_look_wide cd_look_wide ct_look_wide), sl_look_wide⟩)
    (c_look_wide : PySem.W.codeIn K cd_look_wide "look_wide" = true)
    (k_look_wide : PySem.W.keepIn K (.ref f_look_wide) = true)
    (a_look_steps : PySem.W.nsIn K mainGlobals "look_steps" = some (some (.ref f_look_steps)))
    (l_look_steps : K.lookup f_look_steps = some ⟨oc_look_steps, od_look_steps, .func (PySem.W.fnOf "look_steps" "look_steps" (defArgs s_look_steps) (defBody s_look_steps) (defScope s_look_steps) .none kV_look_steps dc_look_steps pm_look_steps an_look_steps cd_look_steps ct_look_steps), sl_look_steps⟩)
    (c_look_steps : PySem.W.codeIn K cd_look_steps "look_steps" = true)
    (k_look_steps : PySem.W.keepIn K (.ref f_look_steps) = true)
    (a_look_outs : PySem.W.nsIn K mainGlobals "look_outs" = some (some (.ref f_look_outs)))
    (l_look_outs : K.lookup f_look_outs = some ⟨oc_look_outs, od_look_outs, .func (PySem.W.fnOf "look_outs" "look_outs" (defArgs s_look_outs) (defBody s_look_outs) (defScope s_look_outs) .none kV_look_outs dc_look_outs pm_look_outs an_look_outs cd_look_outs ct_look_outs), sl_look_outs⟩)
    (c_look_outs : PySem.W.codeIn K cd_look_outs "look_outs" = true)
    (k_look_outs : PySem.W.keepIn K (.ref f_look_outs) = true)
    (a_depths : PySem.W.nsIn K mainGlobals "depths" = some (some (.ref f_depths)))
    (l_depths : K.lookup f_depths = some ⟨oc_depths, od_depths, .func (PySem.W.fnOf "depths" "depths" (defArgs s_depths) (defBody s_depths) (defScope s_depths) .none kV_depths dc_depths pm_depths an_depths cd_depths ct_depths), sl_depths⟩)
    (c_depths : PySem.W.codeIn K cd_depths "depths" = true)
    (k_depths : PySem.W.keepIn K (.ref f_depths) = true)
    (a_depth : PySem.W.nsIn K mainGlobals "depth" = some (some (.ref f_depth)))
    (l_depth : K.lookup f_depth = some ⟨oc_depth, od_depth, .func (PySem.W.fnOf "depth" "depth" (defArgs s_depth) (defBody s_depth) (defScope s_depth) .none kV_depth dc_depth pm_depth an_depth cd_depth ct_depth), sl_depth⟩)
    (c_depth : PySem.W.codeIn K cd_depth "depth" = true)
    (k_depth : PySem.W.keepIn K (.ref f_depth) = true)
    (a_used : PySem.W.nsIn K mainGlobals "used" = some (some (.ref f_used)))
    (l_used : K.lookup f_used = some ⟨oc_used, od_used, .func (PySem.W.fnOf "used" "used" (defArgs s_used) (defBody s_used) (defScope s_used) .none kV_used dc_used pm_used an_used cd_used ct_used), sl_used⟩)
    (c_used : PySem.W.codeIn K cd_used "used" = true)
    (k_used : PySem.W.keepIn K (.ref f_used) = true)
    (a_used_nodes : PySem.W.nsIn K mainGlobals "used_nodes" = some (some (.ref f_used_nodes)))
    (l_used_nodes : K.lookup f_used_nodes = some ⟨oc_used_nodes, od_used_nodes, .func (PySem.W.fnOf "used_nodes" "used_nodes" (defArgs s_used_nodes) (defBody s_used_nodes) (defScope s_used_nodes) .none kV_used_nodes dc_used_nodes pm_used_nodes an_used_nodes cd_used_nodes ct_used_nodes), sl_used_nodes⟩)
    (c_used_nodes : PySem.W.codeIn K cd_used_nodes "used_nodes" = true)
    (k_used_nodes : PySem.W.keepIn K (.ref f_used_nodes) = true)
    (a_fan : PySem.W.nsIn K mainGlobals "fan" = some (some (.ref f_fan)))
    (l_fan : K.lookup f_fan = some ⟨oc_fan, od_fan, .func (PySem.W.fnOf "fan" "fan" (defArgs s_fan) (defBody s_fan) (defScope s_fan) .none kV_fan dc_fan pm_fan an_fan cd_fan ct_fan), sl_fan⟩)
    (c_fan : PySem.W.codeIn K cd_fan "fan" = true)
    (k_fan : PySem.W.keepIn K (.ref f_fan) = true)
    (a__law_cell : PySem.W.nsIn K mainGlobals "_law_cell" = some (some (.ref f__law_cell)))
    (l__law_cell : K.lookup f__law_cell = some ⟨oc__law_cell, od__law_cell, .func (PySem.W.fnOf "_law_cell" "_law_cell" (defArgs s__law_cell) (defBody s__law_cell) (defScope s__law_cell) .none kV__law_cell dc__law_cell pm__law_cell an__law_cell cd__law_cell ct__law_cell), sl__law_cell⟩)
    (c__law_cell : PySem.W.codeIn K cd__law_cell "_law_cell" = true)
    (k__law_cell : PySem.W.keepIn K (.ref f__law_cell) = true)
    (a__law_mix : PySem.W.nsIn K mainGlobals "_law_mix" = some (some (.ref f__law_mix)))
    (l__law_mix : K.lookup f__law_mix = some ⟨oc__law_mix, od__law_mix, .func (PySem.W.fnOf "_law_mix" "_law_mix" (defArgs s__law_mix) (defBody s__law_mix) (defScope s__law_mix) .none kV__law_mix dc__law_mix pm__law_mix an__law_mix cd__law_mix ct__law_mix), sl__law_mix⟩)
    (c__law_mix : PySem.W.codeIn K cd__law_mix "_law_mix" = true)
    (k__law_mix : PySem.W.keepIn K (.ref f__law_mix) = true)
    (a__law_whole : PySem.W.nsIn K mainGlobals "_law_whole" = some (some (.ref f__law_whole)))
    (l__law_whole : K.lookup f__law_whole = some ⟨oc__law_whole, od__law_whole, .func (PySem.W.fnOf "_law_whole" "_law_whole" (defArgs s__law_whole) (defBody s__law_whole) (defScope s__law_whole) .none kV__law_whole dc__law_whole pm__law_whole an__law_whole cd__law_whole ct__law_whole), sl__law_whole⟩)
    (c__law_whole : PySem.W.codeIn K cd__law_whole "_law_whole" = true)
    (k__law_whole : PySem.W.keepIn K (.ref f__law_whole) = true)
    (a__law_net : PySem.W.nsIn K mainGlobals "_law_net" = some (some (.ref f__law_net)))
    (l__law_net : K.lookup f__law_net = some ⟨oc__law_net, od__law_net, .func (PySem.W.fnOf "_law_net" "_law_net" (defArgs s__law_net) (defBody s__law_net) (defScope s__law_net) .none kV__law_net dc__law_net pm__law_net an__law_net cd__law_net ct__law_net), sl__law_net⟩)
    (c__law_net : PySem.W.codeIn K cd__law_net "_law_net" = true)
    (k__law_net : PySem.W.keepIn K (.ref f__law_net) = true)
    (a__law_refusal : PySem.W.nsIn K mainGlobals "_law_refusal" = some (some (.ref f__law_refusal)))
    (l__law_refusal : K.lookup f__law_refusal = some ⟨oc__law_refusal, od__law_refusal, .func (PySem.W.fnOf "_law_refusal" "_law_refusal" (defArgs s__law_refusal) (defBody s__law_refusal) (defScope s__law_refusal) .none kV__law_refusal dc__law_refusal pm__law_refusal an__law_refusal cd__law_refusal ct__law_refusal), sl__law_refusal⟩)
    (c__law_refusal : PySem.W.codeIn K cd__law_refusal "_law_refusal" = true)
    (k__law_refusal : PySem.W.keepIn K (.ref f__law_refusal) = true)
    (a__law_spoilt : PySem.W.nsIn K mainGlobals "_law_spoilt" = some (some (.ref f__law_spoilt)))
    (l__law_spoilt : K.lookup f__law_spoilt = some ⟨oc__law_spoilt, od__law_spoilt, .func (PySem.W.fnOf "_law_spoilt" "_law_spoilt" (defArgs s__law_spoilt) (defBody s__law_spoilt) (defScope s__law_spoilt) .none kV__law_spoilt dc__law_spoilt pm__law_spoilt an__law_spoilt cd__law_spoilt ct__law_spoilt), sl__law_spoilt⟩)
    (c__law_spoilt : PySem.W.codeIn K cd__law_spoilt "_law_spoilt" = true)
    (k__law_spoilt : PySem.W.keepIn K (.ref f__law_spoilt) = true)
    (a__law_good : PySem.W.nsIn K mainGlobals "_law_good" = some (some (.ref f__law_good)))
    (l__law_good : K.lookup f__law_good = some ⟨oc__law_good, od__law_good, .func (PySem.W.fnOf "_law_good" "_law_good" (defArgs s__law_good) (defBody s__law_good) (defScope s__law_good) .none kV__law_good dc__law_good pm__law_good an__law_good cd__law_good ct__law_good), sl__law_good⟩)
    (c__law_good : PySem.W.codeIn K cd__law_good "_law_good" = true)
    (k__law_good : PySem.W.keepIn K (.ref f__law_good) = true)
    (a__law_told : PySem.W.nsIn K mainGlobals "_law_told" = some (some (.ref f__law_told)))
    (l__law_told : K.lookup f__law_told = some ⟨oc__law_told, od__law_told, .func (PySem.W.fnOf "_law_told" "_law_told" (defArgs s__law_told) (defBody s__law_told) (defScope s__law_told) .none kV__law_told dc__law_told pm__law_told an__law_told cd__law_told ct__law_told), sl__law_told⟩)
    (c__law_told : PySem.W.codeIn K cd__law_told "_law_told" = true)
    (k__law_told : PySem.W.keepIn K (.ref f__law_told) = true)
    (a__law_deep : PySem.W.nsIn K mainGlobals "_law_deep" = some (some (.ref f__law_deep)))
    (l__law_deep : K.lookup f__law_deep = some ⟨oc__law_deep, od__law_deep, .func (PySem.W.fnOf "_law_deep" "_law_deep" (defArgs s__law_deep) (defBody s__law_deep) (defScope s__law_deep) .none kV__law_deep dc__law_deep pm__law_deep an__law_deep cd__law_deep ct__law_deep), sl__law_deep⟩)
    (c__law_deep : PySem.W.codeIn K cd__law_deep "_law_deep" = true)
    (k__law_deep : PySem.W.keepIn K (.ref f__law_deep) = true)
    (a__law_under : PySem.W.nsIn K mainGlobals "_law_under" = some (some (.ref f__law_under)))
    (l__law_under : K.lookup f__law_under = some ⟨oc__law_under, od__law_under, .func (PySem.W.fnOf "_law_under" "_law_under" (defArgs s__law_under) (defBody s__law_under) (defScope s__law_under) .none kV__law_under dc__law_under pm__law_under an__law_under cd__law_under ct__law_under), sl__law_under⟩)
    (c__law_under : PySem.W.codeIn K cd__law_under "_law_under" = true)
    (k__law_under : PySem.W.keepIn K (.ref f__law_under) = true)
    (a_law : PySem.W.nsIn K mainGlobals "law" = some (some (.ref f_law)))
    (l_law : K.lookup f_law = some ⟨oc_law, od_law, .func (PySem.W.fnOf "law" "law" (defArgs s_law) (defBody s_law) (defScope s_law) .none kV_law dc_law pm_law an_law cd_law ct_law), sl_law⟩)
    (c_law : PySem.W.codeIn K cd_law "law" = true)
    (k_law : PySem.W.keepIn K (.ref f_law) = true) :
    ∃ fd : FuncData, (∀ (s : Shared) (v : Value), BindsTo s fd ⟨[v], []⟩ [("_law_script", v)]) ∧ ∀ base : Heap, K.In base → base.Ns mainGlobals mg → FnOk l.prog w K mg base (CX1 l.prog w) 10 fa fd ["_law_script"] (spLaw K) := by
  have e := hfa.symm.trans (PySem.W.mg_of X G a_law)
  cases e
  have T : Txt K mg CB CK CR CT CW CS := ⟨⟨PySem.W.mg_of X G ag_BadNet, hx_BadNet⟩,
    PySem.W.mg_of X G ag_BadNet,
    PySem.W.mg_of X G ag_BadKind,
    PySem.W.mg_of X G ag_BadRow,
    PySem.W.mg_of X G ag_BadText,
    PySem.W.mg_of X G ag_Wrong,
    PySem.W.mg_of X G ag_SumError,
    ⟨he_BadNet0, he_BadNet1, he_BadNet2, he_BadNet3, he_BadNet4, he_BadNet5⟩,
    hk_BadKind,
    hk_BadNet,
    hk_BadRow,
    hk_BadText,
    hk_Wrong,
    hk_ValueError,
    hm_SumError,
    ⟨_, PySem.W.mg_of X G hg_MOST_THINGS⟩,
    ⟨_, PySem.W.mg_of X G hg_MOST_STEPS⟩,
    PySem.W.mg_none_of X G hz_isinstance,
    PySem.W.mg_none_of X G hz_int,
    PySem.W.mg_none_of X G hz_bool,
    PySem.W.mg_none_of X G hz_tuple,
    PySem.W.mg_none_of X G hz_list,
    PySem.W.mg_none_of X G hz_len,
    PySem.W.mg_none_of X G hz_max,
    PySem.W.mg_none_of X G hz_min,
    PySem.W.mg_none_of X G hz_range,
    PySem.W.mg_none_of X G hz_enumerate,
    PySem.W.mg_none_of X G hz_all,
    PySem.W.mg_none_of X G hz_ValueError⟩
  have F_is_whole := fun_mk (st := s_is_whole) l_is_whole c_is_whole k_is_whole
  have b_is_whole := F_is_whole.binds (ps := ["value"]) fun _ _ _ _ _ _ us hl => match us, hl with | [_], _ => rfl
  have d_is_whole : ∀ base, Df l.prog w K mg base "is_whole" 1 ["value"] (spWhole) := fun base => ⟨f_is_whole, _, PySem.W.mg_of X G a_is_whole, k_is_whole, b_is_whole, ok_is_whole F_is_whole T⟩
  have F_used_nodes := fun_mk (st := s_used_nodes) l_used_nodes c_used_nodes k_used_nodes
  have b_used_nodes := F_used_nodes.binds (ps := ["net"]) fun _ _ _ _ _ _ us hl => match us, hl with | [_], _ => rfl
  have d_used_nodes : ∀ base, Df l.prog w K mg base "used_nodes" 1 ["net"] (spNetOk (tellBls NetN.used)) := fun base => ⟨f_used_nodes, _, PySem.W.mg_of X G a_used_nodes, k_used_nodes, b_used_nodes, ok_used_nodes F_used_nodes T⟩
  have F__law_cell := fun_mk (st := s__law_cell) l__law_cell c__law_cell k__law_cell
  have b__law_cell := F__law_cell.binds (ps := ["_law_script", "_law_k"]) fun _ _ _ _ _ _ us hl => match us, hl with | [_, _], _ => rfl
  have d__law_cell : ∀ base, Df l.prog w K mg base "_law_cell" 1 ["_law_script", "_law_k"] (spCell K) := fun base => ⟨f__law_cell, _, PySem.W.mg_of X G a__law_cell, k__law_cell, b__law_cell, ok__law_cell F__law_cell T⟩
  have F__law_whole := fun_mk (st := s__law_whole) l__law_whole c__law_whole k__law_whole
  have b__law_whole := F__law_whole.binds (ps := ["_law_found"]) fun _ _ _ _ _ _ us hl => match us, hl with | [_], _ => rfl
  have d__law_whole : ∀ base, Df l.prog w K mg base "_law_whole" 1 ["_law_found"] (spWhole) := fun base => ⟨f__law_whole, _, PySem.W.mg_of X G a__law_whole, k__law_whole, b__law_whole, ok__law_whole F__law_whole T⟩
  have F__law_refusal := fun_mk (st := s__law_refusal) l__law_refusal c__law_refusal k__law_refusal
  have b__law_refusal := F__law_refusal.binds (ps := ["_law_kept"]) fun _ _ _ _ _ _ us hl => match us, hl with | [_], _ => rfl
  have d__law_refusal : ∀ base, Df l.prog w K mg base "_law_refusal" 1 ["_law_kept"] (spRefusal CB) := fun base => ⟨f__law_refusal, _, PySem.W.mg_of X G a__law_refusal, k__law_refusal, b__law_refusal, ok__law_refusal F__law_refusal T⟩
  have F__law_spoilt := fun_mk (st := s__law_spoilt) l__law_spoilt c__law_spoilt k__law_spoilt
  have b__law_spoilt := F__law_spoilt.binds (ps := ["_law_net_here", "_law_number"]) fun _ _ _ _ _ _ us hl => match us, hl with | [_, _], _ => rfl
  have d__law_spoilt : ∀ base, Df l.prog w K mg base "_law_spoilt" 1 ["_law_net_here", "_law_number"] (spSpoilt) := fun base => ⟨f__law_spoilt, _, PySem.W.mg_of X G a__law_spoilt, k__law_spoilt, b__law_spoilt, ok__law_spoilt F__law_spoilt T⟩
  have F__law_good := fun_mk (st := s__law_good) l__law_good c__law_good k__law_good
  have b__law_good := F__law_good.binds (ps := ["_law_net_here"]) fun _ _ _ _ _ _ us hl => match us, hl with | [_], _ => rfl
  have d__law_good : ∀ base, Df l.prog w K mg base "_law_good" 1 ["_law_net_here"] (spGood) := fun base => ⟨f__law_good, _, PySem.W.mg_of X G a__law_good, k__law_good, b__law_good, ok__law_good F__law_good T⟩
  have F__law_deep := fun_mk (st := s__law_deep) l__law_deep c__law_deep k__law_deep
  have b__law_deep := F__law_deep.binds (ps := ["_law_net_here", "_law_node"]) fun _ _ _ _ _ _ us hl => match us, hl with | [_, _], _ => rfl
  have d__law_deep : ∀ base, Df l.prog w K mg base "_law_deep" 1 ["_law_net_here", "_law_node"] (spDeep) := fun base => ⟨f__law_deep, _, PySem.W.mg_of X G a__law_deep, k__law_deep, b__law_deep, ok__law_deep F__law_deep T⟩
  have F__law_under := fun_mk (st := s__law_under) l__law_under c__law_under k__law_under
  have b__law_under := F__law_under.binds (ps := ["_law_net_here", "_law_node"]) fun _ _ _ _ _ _ us hl => match us, hl with | [_, _], _ => rfl
  have d__law_under : ∀ base, Df l.prog w K mg base "_law_under" 1 ["_law_net_here", "_law_node"] (spUnder) := fun base => ⟨f__law_under, _, PySem.W.mg_of X G a__law_under, k__law_under, b__law_under, ok__law_under F__law_under T⟩
  have F_is_within := fun_mk (st := s_is_within) l_is_within c_is_within k_is_within
  have b_is_within := F_is_within.binds (ps := ["value", "least", "most"]) fun _ _ _ _ _ _ us hl => match us, hl with | [_, _, _], _ => rfl
  have d_is_within : ∀ base, Df l.prog w K mg base "is_within" 2 ["value", "least", "most"] (spWithin) := fun base => ⟨f_is_within, _, PySem.W.mg_of X G a_is_within, k_is_within, b_is_within, ok_is_within F_is_within T (d_is_whole base)⟩
  have F__law_mix := fun_mk (st := s__law_mix) l__law_mix c__law_mix k__law_mix
  have b__law_mix := F__law_mix.binds (ps := ["_law_script", "_law_k"]) fun _ _ _ _ _ _ us hl => match us, hl with | [_, _], _ => rfl
  have d__law_mix : ∀ base, Df l.prog w K mg base "_law_mix" 2 ["_law_script", "_law_k"] (spMix K) := fun base => ⟨f__law_mix, _, PySem.W.mg_of X G a__law_mix, k__law_mix, b__law_mix, ok__law_mix F__law_mix T (d__law_cell base)⟩
  have F_is_node := fun_mk (st := s_is_node) l_is_node c_is_node k_is_node
  have b_is_node := F_is_node.binds (ps := ["value", "ahead"]) fun _ _ _ _ _ _ us hl => match us, hl with | [_, _], _ => rfl
  have d_is_node : ∀ base, Df l.prog w K mg base "is_node" 3 ["value", "ahead"] (spNode) := fun base => ⟨f_is_node, _, PySem.W.mg_of X G a_is_node, k_is_node, b_is_node, ok_is_node F_is_node T (d_is_within base)⟩
  have F_look_wide := fun_mk (st := s_look_wide) l_look_wide c_look_wide k_look_wide
  have b_look_wide := F_look_wide.binds (ps := ["wide"]) fun _ _ _ _ _ _ us hl => match us, hl with | [_], _ => rfl
  have d_look_wide : ∀ base, Df l.prog w K mg base "look_wide" 3 ["wide"] (spWide CB) := fun base => ⟨f_look_wide, _, PySem.W.mg_of X G a_look_wide, k_look_wide, b_look_wide, ok_look_wide F_look_wide T (d_is_within base)⟩
  have F__law_net := fun_mk (st := s__law_net) l__law_net c__law_net k__law_net
  have b__law_net := F__law_net.binds (ps := ["_law_script", "_law_k", "_law_most"]) fun _ _ _ _ _ _ us hl => match us, hl with | [_, _, _], _ => rfl
  have d__law_net : ∀ base, Df l.prog w K mg base "_law_net" 3 ["_law_script", "_law_k", "_law_most"] (spDrawn K) := fun base => ⟨f__law_net, _, PySem.W.mg_of X G a__law_net, k__law_net, b__law_net, ok__law_net F__law_net T (d__law_mix base)⟩
  have F_is_step := fun_mk (st := s_is_step) l_is_step c_is_step k_is_step
  have b_is_step := F_is_step.binds (ps := ["value", "ahead"]) fun _ _ _ _ _ _ us hl => match us, hl with | [_, _], _ => rfl
  have d_is_step : ∀ base, Df l.prog w K mg base "is_step" 4 ["value", "ahead"] (spStep) := fun base => ⟨f_is_step, _, PySem.W.mg_of X G a_is_step, k_is_step, b_is_step, ok_is_step F_is_step T (d_is_node base)⟩
  have F_look_outs := fun_mk (st := s_look_outs) l_look_outs c_look_outs k_look_outs
  have b_look_outs := F_look_outs.binds (ps := ["wide", "steps", "outs"]) fun _ _ _ _ _ _ us hl => match us, hl with | [_, _, _], _ => rfl
  have d_look_outs : ∀ base, Df l.prog w K mg base "look_outs" 4 ["wide", "steps", "outs"] (spOuts CB) := fun base => ⟨f_look_outs, _, PySem.W.mg_of X G a_look_outs, k_look_outs, b_look_outs, ok_look_outs F_look_outs T (d_is_node base)⟩
  have F_look_steps := fun_mk (st := s_look_steps) l_look_steps c_look_steps k_look_steps
  have b_look_steps := F_look_steps.binds (ps := ["wide", "steps"]) fun _ _ _ _ _ _ us hl => match us, hl with | [_, _], _ => rfl
  have d_look_steps : ∀ base, Df l.prog w K mg base "look_steps" 5 ["wide", "steps"] (spSteps CB) := fun base => ⟨f_look_steps, _, PySem.W.mg_of X G a_look_steps, k_look_steps, b_look_steps, ok_look_steps F_look_steps T (d_is_step base)⟩
  have F_look_net := fun_mk (st := s_look_net) l_look_net c_look_net k_look_net
  have b_look_net := F_look_net.binds (ps := ["net"]) fun _ _ _ _ _ _ us hl => match us, hl with | [_], _ => rfl
  have d_look_net : ∀ base, Df l.prog w K mg base "look_net" 6 ["net"] (spLook CB) := fun base => ⟨f_look_net, _, PySem.W.mg_of X G a_look_net, k_look_net, b_look_net, ok_look_net F_look_net T (d_look_wide base) (d_look_steps base) (d_look_outs base)⟩
  have F_depths := fun_mk (st := s_depths) l_depths c_depths k_depths
  have b_depths := F_depths.binds (ps := ["net"]) fun _ _ _ _ _ _ us hl => match us, hl with | [_], _ => rfl
  have d_depths : ∀ base, Df l.prog w K mg base "depths" 7 ["net"] (spNetFn CB (tellInts NetN.depths)) := fun base => ⟨f_depths, _, PySem.W.mg_of X G a_depths, k_depths, b_depths, ok_depths F_depths T (d_look_net base)⟩
  have F_used := fun_mk (st := s_used) l_used c_used k_used
  have b_used := F_used.binds (ps := ["net"]) fun _ _ _ _ _ _ us hl => match us, hl with | [_], _ => rfl
  have d_used : ∀ base, Df l.prog w K mg base "used" 7 ["net"] (spNetFn CB (tellBls NetN.used)) := fun base => ⟨f_used, _, PySem.W.mg_of X G a_used, k_used, b_used, ok_used F_used T (d_look_net base) (d_used_nodes base)⟩
  have F_fan := fun_mk (st := s_fan) l_fan c_fan k_fan
  have b_fan := F_fan.binds (ps := ["net"]) fun _ _ _ _ _ _ us hl => match us, hl with | [_], _ => rfl
  have d_fan : ∀ base, Df l.prog w K mg base "fan" 7 ["net"] (spNetFn CB (tellInts NetN.fan)) := fun base => ⟨f_fan, _, PySem.W.mg_of X G a_fan, k_fan, b_fan, ok_fan F_fan T (d_look_net base)⟩
  have F_depth := fun_mk (st := s_depth) l_depth c_depth k_depth
  have b_depth := F_depth.binds (ps := ["net"]) fun _ _ _ _ _ _ us hl => match us, hl with | [_], _ => rfl
  have d_depth : ∀ base, Df l.prog w K mg base "depth" 8 ["net"] (spNetFn CB (tellBest outDepths)) := fun base => ⟨f_depth, _, PySem.W.mg_of X G a_depth, k_depth, b_depth, ok_depth F_depth T (d_depths base)⟩
  have F__law_told := fun_mk (st := s__law_told) l__law_told c__law_told k__law_told
  have b__law_told := F__law_told.binds (ps := ["_law_way", "_law_net_here"]) fun _ _ _ _ _ _ us hl => match us, hl with | [_, _], _ => rfl
  have d__law_told : ∀ base, Df l.prog w K mg base "_law_told" 9 ["_law_way", "_law_net_here"] (spTold) := fun base => ⟨f__law_told, _, PySem.W.mg_of X G a__law_told, k__law_told, b__law_told, ok__law_told F__law_told T (d_look_net base) (d_depths base) (d_depth base) (d_used base) (d_fan base) (d__law_refusal base)⟩
  have F_law := fun_mk (st := s_law) l_law c_law k_law
  exact ⟨PySem.W.fnOf "law" "law" (defArgs s_law) (defBody s_law) (defScope s_law) .none kV_law dc_law pm_law an_law cd_law ct_law, fun s v => .of_eq rfl, fun base _ _ => ok_law F_law T (d__law_mix base) (d__law_whole base) (d__law_net base) (d__law_spoilt base) (d__law_good base) (d__law_told base) (d__law_deep base) (d__law_under base)⟩
theorem walk {l : PySem.W.OpenLaw} {q : Program} {loose : List Str} {XP : (Str → Option Value) → Heap → Prop} {YP : World → Heap → Prop} {d : DefRec} {K : Params → PySem.W.Frag} (hn : l.most = some 63) (hdf : d.params.defaults = [])
    (hY : ∀ (w : World) (h : Heap), YP w h → (K w.params).In h)
    (F : ∀ (w : World) (mg : Str → Option Value) (fa : Addr) (h : Heap), (K w.params).In h → h.Ns mainGlobals mg → mg d.name = some (.ref fa) →
      ∃ fd : FuncData, (∀ (s : Shared) (u : Value), BindsTo s fd ⟨[u], []⟩ [("_law_script", u)]) ∧ ∀ base : Heap, (K w.params).In base → base.Ns mainGlobals mg → FnOk l.prog w (K w.params) mg base (CX1 l.prog w) 10 fa fd ["_law_script"] (spLaw (K w.params))) :
    PySem.W.WalkO q loose XP YP l.row.toRowW d [] (fun f vs => PySem.call f vs) :=
  L2.walk_of (n := 63) (k := 10) (x := "_law_script") (CX := fun w => CX1 l.prog w) (sp := fun w => spLaw (K w.params)) hn (by decide) hdf ⟨rfl, by decide, by decide⟩ hY F (fun _ _ a ns hl _ hS => ⟨a, ns, rfl, hS, fun _ => rfl⟩) fun _ _ _ _ _ z => by
    obtain ⟨_, _, _, _, _, z⟩ := z
    exact z
end K1
open PySem PySem.W PyProof.Rows
set_option maxRecDepth 100000 in
set_option maxHeartbeats 0 in
theorem PySem.Challenge.cw_sumspan_k01_nets_holds : PySem.Challenge.rw_sumspan_k01_nets.Holds := by
  w_on; o_law; k_head; (case hw => w_witness2)
  k_fill
  refine K1.walk (l := PySem.Challenge.rw_sumspan_k01_nets) rfl rfl (fun w h Y => PySem.W.kIn_of Y) ?F
  case F =>
    intro w mg fa h KX G hmg
    refine' K1.all_mk KX G hmg ?ag_BadNet ?ag_BadKind ?ag_BadRow ?ag_BadText ?ag_Wrong ?ag_SumError ?hx_BadNet ?he_BadNet0 ?he_BadNet1 ?he_BadNet2 ?he_BadNet3 ?he_BadNet4 ?he_BadNet5 ?hk_BadKind ?hk_BadNet ?hk_BadRow ?hk_BadText ?hk_Wrong ?hk_ValueError ?hm_SumError ?hg_MOST_THINGS ?hg_MOST_STEPS ?hz_isinstance ?hz_int ?hz_bool ?hz_tuple ?hz_list ?hz_len ?hz_max ?hz_min ?hz_range ?hz_enumerate ?hz_all ?hz_ValueError ?a_is_whole ?l_is_whole ?c_is_whole ?k_is_whole ?a_is_within ?l_is_within ?c_is_within ?k_is_within ?a_is_node ?l_is_node ?c_is_node ?k_is_node ?a_is_step ?l_is_step ?c_is_step ?k_is_step ?a_look_net ?l_look_net ?c_look_net ?k_look_net ?a_look_wide ?l_look_wide ?c_look_wide ?k_look_wide ?a_look_steps ?l_look_steps ?c_look_steps ?k_look_steps ?a_look_outs ?l_look_outs ?c_look_outs ?k_look_outs ?a_depths ?l_depths ?c_depths ?k_depths ?a_depth ?l_depth ?c_depth ?k_depth ?a_used ?l_used ?c_used ?k_used ?a_used_nodes ?l_used_nodes ?c_used_nodes ?k_used_nodes ?a_fan ?l_fan ?c_fan ?k_fan ?a__law_cell ?l__law_cell ?c__law_cell ?k__law_cell ?a__law_mix ?l__law_mix ?c__law_mix ?k__law_mix ?a__law_whole ?l__law_whole ?c__law_whole ?k__law_whole ?a__law_net ?l__law_net ?c__law_net ?k__law_net ?a__law_refusal ?l__law_refusal ?c__law_refusal ?k__law_refusal ?a__law_spoilt ?l__law_spoilt ?c__law_spoilt ?k__law_spoilt ?a__law_good ?l__law_good ?c__law_good ?k__law_good ?a__law_told ?l__law_told ?c__law_told ?k__law_told ?a__law_deep ?l__law_deep ?c__law_deep ?k__law_deep ?a__law_under ?l__law_under ?c__law_under ?k__law_under ?a_law ?l_law ?c_law ?k_law
    (case ag_BadNet => k_is)
    (case ag_BadKind => k_is)
    (case ag_BadRow => k_is)
    (case ag_BadText => k_is)
    (case ag_Wrong => k_is)
    (case ag_SumError => k_is)
    (case hx_BadNet => first | kernel_rfl | rfl)
    (case he_BadNet0 => k_is)
    (case he_BadNet1 => k_is)
    (case he_BadNet2 => k_is)
    (case he_BadNet3 => k_is)
    (case he_BadNet4 => k_is)
    (case he_BadNet5 => first | kernel_rfl | rfl)
    (case hk_BadKind => first | kernel_rfl | rfl)
    (case hk_BadNet => first | kernel_rfl | rfl)
    (case hk_BadRow => first | kernel_rfl | rfl)
    (case hk_BadText => first | kernel_rfl | rfl)
    (case hk_Wrong => first | kernel_rfl | rfl)
    (case hk_ValueError => first | kernel_rfl | rfl)
    (case hm_SumError => first | kernel_rfl | rfl)
    (case hg_MOST_THINGS => k_is)
    (case hg_MOST_STEPS => k_is)
    (case hz_isinstance => k_is)
    (case hz_int => k_is)
    (case hz_bool => k_is)
    (case hz_tuple => k_is)
    (case hz_list => k_is)
    (case hz_len => k_is)
    (case hz_max => k_is)
    (case hz_min => k_is)
    (case hz_range => k_is)
    (case hz_enumerate => k_is)
    (case hz_all => k_is)
    (case hz_ValueError => k_is)
    (case a_is_whole => k_is)
    (case l_is_whole => k_is)
    (case c_is_whole => k_is)
    (case k_is_whole => k_is)
    (case a_is_within => k_is)
    (case l_is_within => k_is)
    (case c_is_within => k_is)
    (case k_is_within => k_is)
    (case a_is_node => k_is)
    (case l_is_node => k_is)
    (case c_is_node => k_is)
    (case k_is_node => k_is)
    (case a_is_step => k_is)
    (case l_is_step => k_is)
    (case c_is_step => k_is)
    (case k_is_step => k_is)
    (case a_look_net => k_is)
    (case l_look_net => k_is)
    (case c_look_net => k_is)
    (case k_look_net => k_is)
    (case a_look_wide => k_is)
    (case l_look_wide => k_is)
    (case c_look_wide => k_is)
    (case k_look_wide => k_is)
    (case a_look_steps => k_is)
    (case l_look_steps => k_is)
    (case c_look_steps => k_is)
    (case k_look_steps => k_is)
    (case a_look_outs => k_is)
    (case l_look_outs => k_is)
    (case c_look_outs => k_is)
    (case k_look_outs => k_is)
    (case a_depths => k_is)
    (case l_depths => k_is)
    (case c_depths => k_is)
    (case k_depths => k_is)
    (case a_depth => k_is)
    (case l_depth => k_is)
    (case c_depth => k_is)
    (case k_depth => k_is)
    (case a_used => k_is)
    (case l_used => k_is)
    (case c_used => k_is)
    (case k_used => k_is)
    (case a_used_nodes => k_is)
    (case l_used_nodes => k_is)
    (case c_used_nodes => k_is)
    (case k_used_nodes => k_is)
    (case a_fan => k_is)
    (case l_fan => k_is)
    (case c_fan => k_is)
    (case k_fan => k_is)
    (case a__law_cell => k_is)
    (case l__law_cell => k_is)
    (case c__law_cell => k_is)
    (case k__law_cell => k_is)
    (case a__law_mix => k_is)
    (case l__law_mix => k_is)
    (case c__law_mix => k_is)
    (case k__law_mix => k_is)
    (case a__law_whole => k_is)
    (case l__law_whole => k_is)
    (case c__law_whole => k_is)
    (case k__law_whole => k_is)
    (case a__law_net => k_is)
    (case l__law_net => k_is)
    (case c__law_net => k_is)
    (case k__law_net => k_is)
    (case a__law_refusal => k_is)
    (case l__law_refusal => k_is)
    (case c__law_refusal => k_is)
    (case k__law_refusal => k_is)
    (case a__law_spoilt => k_is)
    (case l__law_spoilt => k_is)
    (case c__law_spoilt => k_is)
    (case k__law_spoilt => k_is)
    (case a__law_good => k_is)
    (case l__law_good => k_is)
    (case c__law_good => k_is)
    (case k__law_good => k_is)
    (case a__law_told => k_is)
    (case l__law_told => k_is)
    (case c__law_told => k_is)
    (case k__law_told => k_is)
    (case a__law_deep => k_is)
    (case l__law_deep => k_is)
    (case c__law_deep => k_is)
    (case k__law_deep => k_is)
    (case a__law_under => k_is)
    (case l__law_under => k_is)
    (case c__law_under => k_is)
    (case k__law_under => k_is)
    (case a_law => k_is)
    (case l_law => k_is)
    (case c_law => k_is)
    (case k_law => k_is)
