import PyProof.Rows.All
import Wide.All
import OpenK.AllK
import Wide.FinOn
import Lean
import PyProof.EqAt
import PyProof.EqKinds
import PyProof.TupleCall
import PySem.Challenge.RW_sumspan_k10_whole_judged
import KE.KFind
noncomputable section
set_option Elab.async false
set_option linter.all false
set_option maxRecDepth 100000
set_option maxHeartbeats 4000000
set_option compiler.extract_closed false
set_option genSizeOf false
namespace L2
theorem ns_ {α:Type}{a:α}{C:Prop}(h:none=some a):C:=nomatch h
theorem sn_ {α:Type}{a:α}{C:Prop}(h:some a=none):C:=nomatch h
theorem ob_aa {P0:Prop}{P1:Prop}{P2:Prop}{Z:Prop}(h:P0∧P1∧P2) (k:P0→P1→P2→Z):Z:=by
 obtain ⟨h1,h2,h3⟩:=h
 exact k h1 h2 h3
theorem ob_aaa {P0:Prop}{P1:Prop}{P2:Prop}{P3:Prop}{Z:Prop}(h:P0∧P1∧P2∧P3) (k:P0→P1→P2→P3→Z):Z:=by
 obtain ⟨h1,h2,h3,h4⟩:=h
 exact k h1 h2 h3 h4
theorem ob_aaaa {P0:Prop}{P1:Prop}{P2:Prop}{P3:Prop}{P4:Prop}{Z:Prop}(h:P0∧P1∧P2∧P3∧P4) (k:P0→P1→P2→P3→P4→Z):Z:=by
 obtain ⟨h1,h2,h3,h4,h5⟩:=h
 exact k h1 h2 h3 h4 h5
theorem ob_aea {P0:Prop}{α1:Type}{P1:α1→Prop}{P2:α1→Prop}{Z:Prop}(h:P0∧∃x1,P1 x1∧P2 x1) (k:P0→∀x1,P1 x1→P2 x1→Z):Z:=by
 obtain ⟨h1,x1,h2,h3⟩:=h
 exact k h1 x1 h2 h3
theorem ob_aeeaa {P0:Prop}{α1:Type}{α2:Type}{P1:α1→α2→Prop}{P2:α1→α2→Prop}{P3:α1→α2→Prop}{Z:Prop}(h:P0∧∃x1,∃x2,P1 x1 x2∧P2 x1 x2∧P3 x1 x2) (k:P0→∀x1,∀x2,P1 x1 x2→P2 x1 x2→P3 x1 x2→Z):Z:=by
 obtain ⟨h1,x1,x2,h2,h3,h4⟩:=h
 exact k h1 x1 x2 h2 h3 h4
theorem ob_ea {α1:Type}{P0:α1→Prop}{P1:α1→Prop}{Z:Prop}(h:∃x1,P0 x1∧P1 x1) (k:∀x1,P0 x1→P1 x1→Z):Z:=by
 obtain ⟨x1,h1,h2⟩:=h
 exact k x1 h1 h2
theorem ob_eaa {α1:Type}{P0:α1→Prop}{P1:α1→Prop}{P2:α1→Prop}{Z:Prop}(h:∃x1,P0 x1∧P1 x1∧P2 x1) (k:∀x1,P0 x1→P1 x1→P2 x1→Z):Z:=by
 obtain ⟨x1,h1,h2,h3⟩:=h
 exact k x1 h1 h2 h3
theorem ob_eaaaa {α1:Type}{P0:α1→Prop}{P1:α1→Prop}{P2:α1→Prop}{P3:α1→Prop}{P4:α1→Prop}{Z:Prop}(h:∃x1,P0 x1∧P1 x1∧P2 x1∧P3 x1∧P4 x1) (k:∀x1,P0 x1→P1 x1→P2 x1→P3 x1→P4 x1→Z):Z:=by
 obtain ⟨x1,h1,h2,h3,h4,h5⟩:=h
 exact k x1 h1 h2 h3 h4 h5
theorem ob_ee {α1:Type}{α2:Type}{P0:α1→α2→Prop}{Z:Prop}(h:∃x1,∃x2,P0 x1 x2) (k:∀x1,∀x2,P0 x1 x2→Z):Z:=by
 obtain ⟨x1,x2,h1⟩:=h
 exact k x1 x2 h1
theorem ob_eea {α1:Type}{α2:Type}{P0:α1→α2→Prop}{P1:α1→α2→Prop}{Z:Prop}(h:∃x1,∃x2,P0 x1 x2∧P1 x1 x2) (k:∀x1,∀x2,P0 x1 x2→P1 x1 x2→Z):Z:=by
 obtain ⟨x1,x2,h1,h2⟩:=h
 exact k x1 x2 h1 h2
theorem ob_eeaa {α1:Type}{α2:Type}{P0:α1→α2→Prop}{P1:α1→α2→Prop}{P2:α1→α2→Prop}{Z:Prop}(h:∃x1,∃x2,P0 x1 x2∧P1 x1 x2∧P2 x1 x2) (k:∀x1,∀x2,P0 x1 x2→P1 x1 x2→P2 x1 x2→Z):Z:=by
 obtain ⟨x1,x2,h1,h2,h3⟩:=h
 exact k x1 x2 h1 h2 h3
theorem ob_eeaaa {α1:Type}{α2:Type}{P0:α1→α2→Prop}{P1:α1→α2→Prop}{P2:α1→α2→Prop}{P3:α1→α2→Prop}{Z:Prop}(h:∃x1,∃x2,P0 x1 x2∧P1 x1 x2∧P2 x1 x2∧P3 x1 x2) (k:∀x1,∀x2,P0 x1 x2→P1 x1 x2→P2 x1 x2→P3 x1 x2→Z):Z:=by
 obtain ⟨x1,x2,h1,h2,h3,h4⟩:=h
 exact k x1 x2 h1 h2 h3 h4
theorem ob_eeeaaaa {α1:Type}{α2:Type}{α3:Type}{P0:α1→α2→α3→Prop}{P1:α1→α2→α3→Prop}{P2:α1→α2→α3→Prop}{P3:α1→α2→α3→Prop}{P4:α1→α2→α3→Prop}{Z:Prop}(h:∃x1,∃x2,∃x3,P0 x1 x2 x3∧P1 x1 x2 x3∧P2 x1 x2 x3∧P3 x1 x2 x3∧P4 x1 x2 x3) (k:∀x1,∀x2,∀x3,P0 x1 x2 x3→P1 x1 x2 x3→P2 x1 x2 x3→P3 x1 x2 x3→P4 x1 x2 x3→Z):Z:=by
 obtain ⟨x1,x2,x3,h1,h2,h3,h4,h5⟩:=h
 exact k x1 x2 x3 h1 h2 h3 h4 h5
theorem ob_eeeeeeeeeaa {α1:Type}{α2:Type}{α3:Type}{α4:Type}{α5:Type}{α6:Type}{α7:Type}{α8:Type}{α9:Type}{P0:α1→α2→α3→α4→α5→α6→α7→α8→α9→Prop}{P1:α1→α2→α3→α4→α5→α6→α7→α8→α9→Prop}{P2:α1→α2→α3→α4→α5→α6→α7→α8→α9→Prop}{Z:Prop}(h:∃x1,∃x2,∃x3,∃x4,∃x5,∃x6,∃x7,∃x8,∃x9,P0 x1 x2 x3 x4 x5 x6 x7 x8 x9∧P1 x1 x2 x3 x4 x5 x6 x7 x8 x9∧P2 x1 x2 x3 x4 x5 x6 x7 x8 x9) (k:∀x1,∀x2,∀x3,∀x4,∀x5,∀x6,∀x7,∀x8,∀x9,P0 x1 x2 x3 x4 x5 x6 x7 x8 x9→P1 x1 x2 x3 x4 x5 x6 x7 x8 x9→P2 x1 x2 x3 x4 x5 x6 x7 x8 x9→Z):Z:=by
 obtain ⟨x1,x2,x3,x4,x5,x6,x7,x8,x9,h1,h2,h3⟩:=h
 exact k x1 x2 x3 x4 x5 x6 x7 x8 x9 h1 h2 h3
theorem ob_eeeeeeeeeeeeeeeeeaaa {α1:Type}{α2:Type}{α3:Type}{α4:Type}{α5:Type}{α6:Type}{α7:Type}{α8:Type}{α9:Type}{α10:Type}{α11:Type}{α12:Type}{α13:Type}{α14:Type}{α15:Type}{α16:Type}{α17:Type}{P0:α1→α2→α3→α4→α5→α6→α7→α8→α9→α10→α11→α12→α13→α14→α15→α16→α17→Prop}{P1:α1→α2→α3→α4→α5→α6→α7→α8→α9→α10→α11→α12→α13→α14→α15→α16→α17→Prop}{P2:α1→α2→α3→α4→α5→α6→α7→α8→α9→α10→α11→α12→α13→α14→α15→α16→α17→Prop}{P3:α1→α2→α3→α4→α5→α6→α7→α8→α9→α10→α11→α12→α13→α14→α15→α16→α17→Prop}{Z:Prop}(h:∃x1,∃x2,∃x3,∃x4,∃x5,∃x6,∃x7,∃x8,∃x9,∃x10,∃x11,∃x12,∃x13,∃x14,∃x15,∃x16,∃x17,P0 x1 x2 x3 x4 x5 x6 x7 x8 x9 x10 x11 x12 x13 x14 x15 x16 x17∧P1 x1 x2 x3 x4 x5 x6 x7 x8 x9 x10 x11 x12 x13 x14 x15 x16 x17∧P2 x1 x2 x3 x4 x5 x6 x7 x8 x9 x10 x11 x12 x13 x14 x15 x16 x17∧P3 x1 x2 x3 x4 x5 x6 x7 x8 x9 x10 x11 x12 x13 x14 x15 x16 x17) (k:∀x1,∀x2,∀x3,∀x4,∀x5,∀x6,∀x7,∀x8,∀x9,∀x10,∀x11,∀x12,∀x13,∀x14,∀x15,∀x16,∀x17,P0 x1 x2 x3 x4 x5 x6 x7 x8 x9 x10 x11 x12 x13 x14 x15 x16 x17→P1 x1 x2 x3 x4 x5 x6 x7 x8 x9 x10 x11 x12 x13 x14 x15 x16 x17→P2 x1 x2 x3 x4 x5 x6 x7 x8 x9 x10 x11 x12 x13 x14 x15 x16 x17→P3 x1 x2 x3 x4 x5 x6 x7 x8 x9 x10 x11 x12 x13 x14 x15 x16 x17→Z):Z:=by
 obtain ⟨x1,x2,x3,x4,x5,x6,x7,x8,x9,x10,x11,x12,x13,x14,x15,x16,x17,h1,h2,h3,h4⟩:=h
 exact k x1 x2 x3 x4 x5 x6 x7 x8 x9 x10 x11 x12 x13 x14 x15 x16 x17 h1 h2 h3 h4
open PySem PySem.Spec PyProof.Rows
abbrev Key:=Sum Int Str
def keyIs:Key→Value→Bool
 | .inl k,v=>Value.isInt k v
 | .inr x,v=>Value.isStrOf x v
def keyH (w:World):Key→Int
 | .inl k=>hashInt k
 | .inr x=>hashStr w x
theorem keyIs_shape:∀{k:Key}{v:Value},keyIs k v=true→(∃i t,k=Sum.inl i∧v=Value.int i t)∨(∃x t,k=Sum.inr x∧v=Value.str x t)
 | .inl i,v,h=>by
  obtain ⟨t,e⟩:=Value.isInt_shape (k:=i) (v:=v) h
  exact .inl ⟨i,t,rfl,e⟩
 | .inr x,v,h=>by
  obtain ⟨t,e⟩:=Value.isStrOf_shape (x:=x) (v:=v) h
  exact .inr ⟨x,t,rfl,e⟩
theorem keyIs_int (i:Int) (t:Tok):keyIs (.inl i) (.int i t)=true:=by simp [keyIs,Value.isInt]
theorem keyIs_str (x:Str) (t:Tok):keyIs (.inr x) (.str x t)=true:=by simp [keyIs,Value.isStrOf]
theorem key_ll (a b:Int):decide ((Sum.inl a:Key)=Sum.inl b)=(a==b):=by
 by_cases e:a=b
 ·subst e;simp
 ·have h:¬(Sum.inl a:Key)=Sum.inl b:=fun q=>e (Sum.inl.inj q)
  rw [decide_eq_false h]
  exact (beq_eq_false_iff_ne.mpr e).symm
theorem key_rr (a b:Str):decide ((Sum.inr a:Key)=Sum.inr b)=decide (a=b):=by
 by_cases e:a=b
 ·subst e;simp
 ·have h:¬(Sum.inr a:Key)=Sum.inr b:=fun q=>e (Sum.inr.inj q)
  rw [decide_eq_false h,decide_eq_false e]
theorem key_lr (a:Int) (b:Str):decide ((Sum.inl a:Key)=Sum.inr b)=false:=decide_eq_false (fun q=>nomatch q)
theorem key_rl (a:Str) (b:Int):decide ((Sum.inr a:Key)=Sum.inl b)=false:=decide_eq_false (fun q=>nomatch q)
def mixKind (prog:Program) (w:World):PySem.KeyKind prog w Key where
 is:=keyIs
 hash:=keyH w
 inj:=fun v a b ha hb=>by
  rcases keyIs_shape ha with ⟨i,t,rfl,rfl⟩|⟨x,t,rfl,rfl⟩
  ·rcases keyIs_shape hb with ⟨j,u,rfl,e⟩|⟨y,u,rfl,e⟩
   ·injection e with e1 _;rw [e1]
   ·exact nomatch e
  ·rcases keyIs_shape hb with ⟨j,u,rfl,e⟩|⟨y,u,rfl,e⟩
   ·exact nomatch e
   ·injection e with e1 _;rw [e1]
 byValue:=fun k v h=>by
  rcases keyIs_shape h with ⟨i,t,rfl,rfl⟩|⟨x,t,rfl,rfl⟩ <;> rfl
 pyHash:=fun hv h=>by
  rcases keyIs_shape hv with ⟨i,t,rfl,rfl⟩|⟨x,t,rfl,rfl⟩
  ·exact wpAny_pyHash_int h
  ·exact wpAny_pyHash_str h
 eqBool:=fun hu hv h=>by
  rcases keyIs_shape hu with ⟨i,t,rfl,rfl⟩|⟨x,t,rfl,rfl⟩
  ·rcases keyIs_shape hv with ⟨j,u,rfl,rfl⟩|⟨y,u,rfl,rfl⟩
   ·rw [key_ll] at h;exact wpAny_eqBool_int h
   ·rw [key_lr] at h;exact SeqAt.EqAt.int_str i t y u _ _ _ _ h
  ·rcases keyIs_shape hv with ⟨j,u,rfl,rfl⟩|⟨y,u,rfl,rfl⟩
   ·rw [key_rl] at h;exact SeqAt.EqAt.str_int x t j u _ _ _ _ h
   ·rw [key_rr] at h;exact wpAny_eqBool_str h
 «strs» := fun k x t v h=>by
  rcases keyIs_shape h with ⟨i,u,rfl,e⟩|⟨y,u,rfl,e⟩
  ·exact nomatch e
  ·injection e with e1 _
   subst e1
   cases v <;> rfl
theorem mixKind_int (prog:Program) (w:World) (i:Int) (t:Tok):(mixKind prog w).is (.inl i) (.int i t)=true:=keyIs_int i t
theorem mixKind_str (prog:Program) (w:World) (x:Str) (t:Tok):(mixKind prog w).is (.inr x) (.str x t)=true:=keyIs_str x t
end L2

namespace L2
open PySem PySem.Spec PyProof.Rows
inductive V where
 | non|bl (b:Bool)|int (i:Int)|str (x:Str)|byt (b:Array UInt8)|flt (b:UInt64)|ref (a:Addr)|ty (n:String)
 deriving DecidableEq
def RelV:V→Value→Prop
 | .non,u=>u=Value.none
 | .bl b,u=>u=Value.bool b
 | .int i,u=>∃t,u=Value.int i t
 | .str x,u=>∃t,u=Value.str x t
 | .byt b,u=>∃t,u=Value.bytes b t
 | .flt b,u=>∃t,u=Value.float b t
 | .ref a,u=>u=Value.ref a
 | .ty n,u=>u=Value.type n
abbrev Vals:List V→List Value→Prop:=Paired RelV
theorem Vals.length {xs:List V}{us:List Value}(r:Vals xs us):xs.length=us.length:=Paired.length r
theorem Vals.get {xs:List V}{us:List Value}{i:Nat}{x:V}(h:Vals xs us) (e:xs[i]? = some x):∃u,us[i]? = some u∧RelV x u:=by
 induction h generalizing i with
 | nil=>exact L2.ns_ e
 | cons r t ih=>cases i with
  | zero=>exact⟨_,rfl,Option.some.inj e ▸ r⟩
  | succ i=>exact ih e
theorem Vals.set {x:V}{u:Value}(r:RelV x u) {xs:List V}{us:List Value}(i:Nat) (h:Vals xs us):Vals (xs.set i x) (us.set i u):=by
 induction h generalizing i with
 | nil=>exact .nil
 | cons q t ih=>cases i with
  | zero=>exact .cons r t
  | succ i=>exact .cons q (ih i)
theorem Vals.append {xs ys:List V}{us ws:List Value}(h:Vals xs us) (s:Vals ys ws):Vals (xs++ys) (us++ws):=by
 induction h with
 | nil=>exact s
 | cons r _ ih=>exact .cons r ih
theorem Vals.take {xs:List V}{us:List Value}(n:Nat) (h:Vals xs us):Vals (xs.take n) (us.take n):=by
 induction h generalizing n with
 | nil=>cases n <;> exact .nil
 | cons r t ih=>cases n with
  | zero=>exact .nil
  | succ n=>exact .cons r (ih n)
theorem Vals.drop {xs:List V}{us:List Value}(n:Nat) (h:Vals xs us):Vals (xs.drop n) (us.drop n):=by
 induction h generalizing n with
 | nil=>cases n <;> exact .nil
 | cons r t ih=>cases n with
  | zero=>exact .cons r t
  | succ n=>exact ih n
def RelO:Option V→Option Value→Prop
 | some v,some u=>RelV v u
 | none,none=>True
 | _,_=>False
def KV {κ:Type}:List (κ × V)→List (κ × Value)→Prop:=Paired fun (p:κ × V) (q:κ × Value)=>p.1=q.1∧RelV p.2 q.2
def kV:Key→V
 | .inl i=>.int i
 | .inr x=>.str x
inductive HO where
 /-- a list -/
 | lst (xs:List V)
 /-- a tuple (never changes) -/
 | tup (xs:List V)
 /-- a dict whose keys are ints and texts; one whose keys are tuples of ints and texts (the empty one is both) -/
 | dK (kvs:List (Key × V))|dT (kvs:List (List Key × V))
 /-- a set of ints: its members, its size -/
 | set (S:Int→Bool) (n:Nat)
 /-- an instance of the class at C, its dict at dx, its attributes -/
 | ins (C dx:Addr) (fs:List (Str × V))
 /-- the dict of the instance at x -/
 | own (x:Addr)
 /-- the dict of an exception -/
 | xd (fs:List (Str × V))
 /-- a bound method, f of x -/
 | met (f x:Addr)
 /-- a range object lo, lo + 1, .. below hi -/
 | rng (lo hi:Int)
 /-- a thing that is known to the object (the script; a dict while a loop walks it): read, never written while it is so -/
 | frz (o:Obj) (u:HO)
 /-- a code object's table -/
 | tbl (ps:Array Value)
 /-- any other thing, by what is true of its one object (a def of one's own: SetO a S n := HO.ext fun h => ..) -/
 | ext (φ:Heap→Prop)
abbrev Hp:=Addr→Option HO
def upd (H:Hp) (a:Addr) (o:HO):Hp:=fun b=>if b=a then some o else H b
theorem upd_same {H:Hp}{a:Addr}{o:HO}:upd H a o a=some o:=by unfold upd;rw [if_pos rfl]
theorem upd_ne {H:Hp}{a b:Addr}{o:HO}(h:b≠a):upd H a o b=H b:=by unfold upd;rw [if_neg h]
theorem ne_of {H:Hp}{a b:Addr}{o u:HO}(h:H a=some o) (h':H b=some u) (d:o≠u):a≠b:=by
 intro e;subst e;rw [h] at h';exact d (Option.some.inj h')
theorem ne_of_none {H:Hp}{a b:Addr}{o:HO}(h:H a=some o) (h':H b=none):a≠b:=by
 intro e;subst e;rw [h] at h';exact L2.sn_ h'
section
variable (P:Program) (w:World)
def ObjOk (H:Hp) (h:Heap) (a:Addr):HO→Prop
 | .lst xs=>xs.length≤sizeLine∧∃(its:List Value) (n:Nat),Vals xs its∧h.get? a=some { cls:=.type "list", data:=.seq its.toArray n }
 | .tup xs=>xs.length≤sizeLine∧∃its:List Value,Vals xs its∧IsTup h a its.toArray
 | .dK kvs=>kvs.length≤sizeLine∧(a==sysModules)=false∧∃vs,KV kvs vs∧h.DictOf (mixKind P w) a vs
 | .dT kvs=>kvs.length≤sizeLine∧(a==sysModules)=false∧∃xs:List (List Key × Addr × Value),
   Paired (fun (p:List Key × V) (q:List Key × Addr × Value)=>p.1=q.1∧H q.2.1=some (.tup (p.1.map kV))∧RelV p.2 q.2.2) kvs xs ∧
   ∃o es ep,h.get? a=some o∧o.ExactDict∧o.data=.dict es ep∧es.toList=xs.map (entryOfKey (tupleKind (mixKind P w)))∧(xs.map (·.1)).Nodup
 | .set S n=>h.SetOf (intKind P w) a S n
 | .ins C dx fs=>H dx=some (.own a)∧fs.length≤1000∧dx≠a∧h.get? a=some (PySem.W.instObj C dx) ∧
   ∃mA,h.Ns1 dx mA∧(∀f,RelO (fs.lookup f) (mA f))∧PySem.Within mA (fs.map (·.1))
 | .own _=>∃o,h.get? a=some o
 | .xd fs=>∃mA,h.Ns1 a mA∧∀f,RelO (fs.lookup f) (mA f)
 | .rng lo hi=>∃t u v,h.get? a=some { cls:=.type "range", data:=.fields #[.int lo t,.int hi u,.int 1 v] }
 | .frz o u=>h.get? a=some o∧ObjOk H h a u
 | .tbl ps=>h.get? a=some { cls:=.none,data:=.fields ps }
 | .met f x=>h.get? a=some (PySem.W.methodObj (.ref f) (.ref x))
 | .ext φ=>φ h∧(∃o,h.get? a=some o)∧∀h1 h2:Heap,φ h1→(∀o,h1.get? a=some o→h2.get? a=some o)→φ h2
def HOk (H:Hp) (h:Heap):Prop:=∀a o,H a=some o→ObjOk P w H h a o
end

section
variable {P:Program}{w:World}{H H':Hp}{h h':Heap}{a:Addr}{o:HO}
theorem ObjOk.lt (x:ObjOk P w H h a o):a<h.objs.size:=by
 cases o with
 | lst xs=>obtain ⟨_,_,_,_,e⟩:=x;exact Heap.lt_size e
 | tup xs=>obtain ⟨_,_,_,p⟩:=x;exact p.lt
 | dK kvs=>obtain ⟨_,_,_,_,o,_,_,e,_⟩:=x;exact Heap.lt_size e
 | dT kvs=>obtain ⟨_,_,_,_,o,_,_,e,_⟩:=x;exact Heap.lt_size e
 | set S n=>obtain ⟨o,_,_,_,e,_⟩:=x;exact Heap.lt_size e
 | ins C dx fs=>obtain ⟨_,_,_,e,_⟩:=x;exact Heap.lt_size e
 | own y=>obtain ⟨_,e⟩:=x;exact Heap.lt_size e
 | xd fs=>obtain ⟨_,⟨_,_,_,e,_⟩,_⟩:=x;exact Heap.lt_size e
 | rng lo hi=>obtain ⟨_,_,_,e⟩:=x;exact Heap.lt_size e
 | frz ob u=>obtain ⟨e,_⟩:=x;exact Heap.lt_size e
 | tbl ps=>exact Heap.lt_size (show h.get? a=some _ from x)
 | met f y=>exact Heap.lt_size (show h.get? a=some _ from x)
 | ext φ=>obtain ⟨_,⟨_,e⟩,_⟩:=x;exact Heap.lt_size e
theorem Paired.mapP {α β:Type}{F G:α→β→Prop}{l₁:List α}{l₂:List β}(r:Paired F l₁ l₂) (f:∀a b,F a b→G a b):Paired G l₁ l₂:=by
 induction r with
 | nil=>exact .nil
 | cons r _ ih=>exact .cons (f _ _ r) ih
theorem ObjOk.stay (x:ObjOk P w H h a o) (k:∀b u,(b=a∨H b=some (.own a))→h.get? b=some u→h'.get? b=some u)
  (ho:∀b,H b=some (.own a)→H' b=some (.own a)) (ht:∀b xs,H b=some (.tup xs)→H' b=some (.tup xs)):ObjOk P w H' h' a o:=by
 induction o with
 | lst xs=>obtain ⟨z,its,n,r,e⟩:=x;exact⟨z,its,n,r,k _ _ (.inl rfl) e⟩
 | tup xs=>obtain ⟨z,its,r,ob,e,c⟩:=x;exact⟨z,its,r,ob,k _ _ (.inl rfl) e,c⟩
 | dK kvs=>obtain ⟨z,y,vs,r,ob,es,ep,e,c⟩:=x;exact⟨z,y,vs,r,ob,es,ep,k _ _ (.inl rfl) e,c⟩
 | dT kvs =>
  obtain ⟨z,y,xs,r,ob,es,ep,e,c⟩:=x
  exact⟨z,y,xs,Paired.mapP r fun p q z=>⟨z.1,ht _ _ z.2.1,z.2.2⟩,ob,es,ep,k _ _ (.inl rfl) e,c⟩
 | set S n=>obtain ⟨ob,es,ep,t,e,c⟩:=x;exact⟨ob,es,ep,t,k _ _ (.inl rfl) e,c⟩
 | ins C dx fs =>
  obtain ⟨d,z,ne,e,mA,⟨od,es,ep,e2,c⟩,r⟩:=x
  exact⟨ho _ d,z,ne,k _ _ (.inl rfl) e,mA,⟨od,es,ep,k _ _ (.inr d) e2,c⟩,r⟩
 | own y=>obtain ⟨ob,e⟩:=x;exact⟨ob,k _ _ (.inl rfl) e⟩
 | xd fs=>obtain ⟨mA,⟨od,es,ep,e,c⟩,r⟩:=x;exact⟨mA,⟨od,es,ep,k _ _ (.inl rfl) e,c⟩,r⟩
 | rng lo hi=>obtain ⟨t,u,v,e⟩:=x;exact⟨t,u,v,k _ _ (.inl rfl) e⟩
 | frz ob u ih=>obtain ⟨e,q⟩:=x;exact⟨k _ _ (.inl rfl) e,ih q⟩
 | tbl ps =>
  have e:h.get? a=some { cls:=.none,data:=.fields ps }:=x
  show h'.get? a=some { cls:=.none,data:=.fields ps }
  exact k a _ (.inl rfl) e
 | met f y =>
  have e:h.get? a=some (PySem.W.methodObj (.ref f) (.ref y)):=x
  show h'.get? a=some (PySem.W.methodObj (.ref f) (.ref y))
  exact k a _ (.inl rfl) e
 | ext φ=>obtain ⟨p,⟨o,e⟩,st⟩:=x;exact⟨st _ _ p fun o q=>k _ _ (.inl rfl) q,⟨o,k _ _ (.inl rfl) e⟩,st⟩
theorem HOk.lt (x:HOk P w H h) (e:H a=some o):a<h.objs.size:=(x a o e).lt
theorem HOk.fresh (x:HOk P w H h) (e:h.objs.size≤a):H a=none:=by
 cases q:H a with
 | none=>rfl
 | some u=>exact absurd (Nat.lt_of_lt_of_le (x.lt q) e) (Nat.lt_irrefl _)
theorem HOk.kept (x:HOk P w H h) (k:∀b u,h.get? b=some u→h'.get? b=some u):HOk P w H h':=fun a o e =>
 (x a o e).stay (fun b u _ q=>k b u q) (fun _ q=>q) fun _ _ q=>q
theorem HOk.laid (x:HOk P w H h) (k:∀b u,h.get? b=some u→h'.get? b=some u) (hp:h.objs.size≤a) (new:ObjOk P w (upd H a o) h' a o):HOk P w (upd H a o) h':=fun b u e=>by
 have hn:=x.fresh hp
 by_cases hb:b=a
 ·subst hb;rw [upd_same] at e;obtain rfl:=Option.some.inj e;exact new
 ·rw [upd_ne hb] at e
  exact (x b u e).stay (fun c v _ q=>k c v q) (fun c q=>by rw [upd_ne (ne_of_none q hn)];exact q) fun c xs q=>by rw [upd_ne (ne_of_none q hn)];exact q
end

def Rd (H:Hp) (a:Addr) (u:HO):Prop:=H a=some u ∨ ∃o,H a=some (.frz o u)
theorem Rd.ok {P:Program}{w:World}{H:Hp}{h:Heap}{a:Addr}{u:HO}(r:Rd H a u) (x:HOk P w H h):ObjOk P w H h a u:=by
 rcases r with r|⟨o,r⟩
 ·exact x a u r
 ·obtain ⟨_,q⟩:=x a _ r
  exact q
def Mut:Option HO→Prop
 | some (.lst _)=>True
 | some (.dK _)=>True
 | some (.dT _)=>True
 | some (.set _ _)=>True
 | some (.ins _ _ _)=>True
 | some (.ext _)=>True
 | _=>False
section
variable {P:Program}{w:World}{H:Hp}{h h':Heap}{x e:Addr}{o':HO}
theorem HOk.write (ok:HOk P w H h) (mu:Mut (H x)) (he:e=x∨H e=some (.own x)) (k:∀b u,b≠e→h.get? b=some u→h'.get? b=some u) (heo:∃u,h'.get? e=some u)
  (new:ObjOk P w (upd H x o') h' x o'):HOk P w (upd H x o') h':=fun b u q=>by
 have nown:∀c y,H c=some (.own y)→c≠x:=fun c y r z=>by subst z;rw [r] at mu;exact mu
 have ntup:∀c xs,H c=some (.tup xs)→c≠x:=fun c xs r z=>by subst z;rw [r] at mu;exact mu
 by_cases hb:b=x
 ·subst hb;rw [upd_same] at q;obtain rfl:=Option.some.inj q;exact new
 ·rw [upd_ne hb] at q
  by_cases hbe:b=e
  ·have q':H b=some (.own x):=by
    rcases he with z|z
    ·exact absurd (hbe.trans z) hb
    ·rw [hbe];exact z
   rw [q] at q';obtain rfl:=Option.some.inj q'
   obtain ⟨v,hv⟩:=heo
   exact⟨v,by rw [hbe];exact hv⟩
  ·refine (ok b u q).stay (fun c v hc r=>k c v ?_ r) (fun c r=>by rw [upd_ne (nown c b r)];exact r) fun c xs r=>by rw [upd_ne (ntup c xs r)];exact r
   rcases hc with rfl|hc
   ·exact hbe
   ·rintro rfl
    rcases he with z|z
    ·exact nown c b hc z
    ·rw [hc] at z;cases z;exact hb rfl
end

structure Un (fs ex:List Addr) (H H':Hp) (h h':Heap):Prop where
 keep:∀b o,h.get? b=some o→H b=none→b ∉ fs→b ∉ ex→h'.get? b=some o
 slot:∀b o,h.get? b=some o→H b=none→b∈fs→b ∉ ex→∃sl,h'.get? b=some { o with slots:=sl }
 free:∀b o,h.get? b=some o→H b=none→b ∉ ex→H' b=none
 there:∀b o,h.get? b=some o→b ∉ ex→∃o',h'.get? b=some o'
 tups:∀b xs,H b=some (.tup xs)→H' b=some (.tup xs)
 frzs:∀b o u,H b=some (.frz o u)→H' b=some (.frz o u)
 tbls:∀b ps,H b=some (.tbl ps)→∃more,H' b=some (.tbl (ps++more))
section
variable {fs fs' ex ex':List Addr}{H H1 H2:Hp}{h h1 h2 h':Heap}{a x e:Addr}{o:HO}
theorem Un.any (u:Un fs ex H H1 h h1) {b:Addr}{ob:Obj}(q:h.get? b=some ob) (n:H b=none) (hx:b ∉ ex):∃sl,h1.get? b=some { ob with slots:=sl }:=by
 by_cases hb:b∈fs
 ·exact u.slot b ob q n hb hx
 ·exact⟨ob.slots,u.keep b ob q n hb hx⟩
theorem Un.kept (k:∀b u,h.get? b=some u→h'.get? b=some u):Un fs ex H H h h' :=
 ⟨fun b ob q _ _ _=>k b ob q,fun b ob q _ _ _=>⟨ob.slots,k b ob q⟩,fun _ _ _ n _=>n,fun b ob q _=>⟨ob,k b ob q⟩,fun _ _ q=>q,fun _ _ _ q=>q,fun _ ps q=>⟨#[],by rw [q];simp⟩⟩
theorem Un.refl:Un fs ex H H h h:=Un.kept fun _ _ q=>q
theorem Un.laid (k:∀b u,h.get? b=some u→h'.get? b=some u) (hp:h.objs.size≤a) (hn:H a=none):Un fs ex H (upd H a o) h h' where
 keep:=fun b u q _ _ _=>k b u q
 slot:=fun b u q _ _ _=>⟨u.slots,k b u q⟩
 free:=fun b u q n _=>by rw [upd_ne (Nat.ne_of_lt (Nat.lt_of_lt_of_le (Heap.lt_size q) hp))];exact n
 there:=fun b u q _=>⟨u,k b u q⟩
 tups:=fun b xs q=>by rw [upd_ne (ne_of_none q hn)];exact q
 frzs:=fun b u xs q=>by rw [upd_ne (ne_of_none q hn)];exact q
 tbls:=fun b ps q=>⟨#[],by rw [upd_ne (ne_of_none q hn),q];simp⟩
theorem Un.write (mu:Mut (H x)) (he:e=x∨H e=some (.own x)) (k:∀b u,b≠e→h.get? b=some u→h'.get? b=some u) (heo:∃u,h'.get? e=some u):Un fs ex H (upd H x o) h h':=by
 have hx:∀b,H b=none→b≠x:=fun b n z=>by subst z;rw [n] at mu;exact mu
 have hb:∀b,H b=none→b≠e:=fun b n z=>by
  subst z
  rcases he with r|r
  ·exact hx b n r
  ·rw [n] at r;exact L2.ns_ r
 have hm:∀b u,H b=some u→¬Mut (some u)→b≠x:=fun b u q nm z=>by subst z;rw [q] at mu;exact nm mu
 refine⟨fun b u q n _ _=>k b u (hb b n) q,fun b u q n _ _=>⟨u.slots,k b u (hb b n) q⟩,fun b u q n _=>by rw [upd_ne (hx b n)];exact n,fun b u q _=>?_,
  fun b xs q=>by rw [upd_ne (hm b _ q fun z=>z)];exact q,fun b u xs q=>by rw [upd_ne (hm b _ q fun z=>z)];exact q,fun b ps q=>⟨#[],by rw [upd_ne (hm b _ q fun z=>z),q];simp⟩⟩
 by_cases hbe:b=e
 ·subst hbe;exact heo
 ·exact⟨u,k b u hbe q⟩
end

def trk (h:Heap) (H:Hp):List Addr:=(List.range h.objs.size).filter fun a=>(H a).isSome
def hidT (h:Heap) (H:Hp):Heap:=PySem.W.hideAll h (trk h H)
theorem hidT_size (h:Heap) (H:Hp):(hidT h H).objs.size=h.objs.size:=PySem.W.hideAll_size _ _
theorem hidT_get {h:Heap}{H:Hp}{b:Addr}{o:Obj}(e:h.get? b=some o) (n:H b=none):(hidT h H).get? b=some o :=
 PySem.W.hideAll_get _ e fun hm=>by
  have q:(H b).isSome=true:=(List.mem_filter.mp hm).2
  rw [n] at q;simp at q
theorem of_hidT {h:Heap}{H:Hp}{b:Addr}{o:Obj}(e:(hidT h H).get? b=some o):h.get? b=some o∧H b=none:=by
 have e':h.get? b=some o:=PySem.W.of_hideAll (trk h H) e
 refine⟨e',?_⟩
 cases q:H b with
 | none=>rfl
 | some x =>
  have hm:b∈trk h H:=List.mem_filter.mpr ⟨List.mem_range.mpr (Heap.lt_size e'),by simp [q]⟩
  have z:(hidT h H).get? b=none:=PySem.W.hideAll_none (trk h H) hm
  rw [z] at e;exact L2.ns_ e
end L2

namespace L2
open PySem PySem.Spec PyProof.Rows
structure Mod (K:PySem.W.Frag) (mg:Str→Option Value) (base:Heap):Prop where
 kin:K.In base
 glob:base.Ns mainGlobals mg
 blt:∃mb,base.Ns builtinsNs mb∧∀x:Str,x ≠ "__name__" → mb x=bootBuiltins x
 nolimit:base.NoLimit
structure Cx where
 prog:Program
 w:World
 K:PySem.W.Frag
 mg:Str→Option Value
 base:Heap
 A:Around
 N:List Str
 s₀:Shared
 H₀:Hp
 env:Env
 outer:List Env
 stack:List Env
 ex:List Addr
 fn:Str→Bool
 calm:Bool
 pn:List (Addr × Obj)
 xe:Value→Shared→Prop
def frs (l:List Env):List Addr:=l.filterMap (·.frame)
abbrev Cx.fs (X:Cx):List Addr:=frs X.outer
def Vis (sc:Scope) (x:Str):Prop:=sc.names.lookup x=some .local∨sc.names.lookup x=some .cell∨sc.names.lookup x=some .free
def Loc (sc:Scope) (x:Str):Prop:=sc.names.lookup x=some .local∨sc.names.lookup x=some .cell
def Look (env:Env) (h:Heap) (m:Str→Option Value) (x:Str) (u:Value):Prop :=
 (env.kindOf x=some .local∧m x=some u)∨((env.kindOf x=some .cell∨env.kindOf x=some .free)∧∃c,env.cells.lookup x=some c∧h.IsCell c (some u))
structure Cx.Ok (X:Cx):Prop where
 mod:Mod X.K X.mg X.base
 kind:X.env.scope.kind=.function
 glob:X.env.globals=mainGlobals
 blt:X.env.builtins=builtinsNs
 above:X.s₀.heap.objs.size≤X.env.locals
 inj:∀x y c,X.env.cells.lookup x=some c→X.env.cells.lookup y=some c→x=y
 has:∀x,(X.env.kindOf x=some .cell∨X.env.kindOf x=some .free)→∃c,X.env.cells.lookup x=some c
 cab:∀x c,X.fn x=true→X.env.cells.lookup x=some c→X.s₀.heap.objs.size≤c
 hd:X.calm=true→X.A.handled=none
 frames:X.A.frames=some X.stack
 stk:X.stack=X.outer∨(X.stack=X.env::X.outer∧X.env.frame=some X.env.locals)
 exf:∀b∈X.ex,b≠X.env.locals∧∀x c,X.env.cells.lookup x=some c→c≠b
 bs:∀b o,X.base.get? b=some o→X.s₀.heap.get? b=some o∧X.H₀ b=none
 bsz:X.base.objs.size≤X.s₀.heap.objs.size
 noex:∀b o,X.base.get? b=some o→b ∉ X.ex
 exfs:∀b∈X.ex,b ∉ X.fs
 funs:X.s₀.heap.FunFrames X.base X.outer
 frf:∀b∈X.fs,X.H₀ b=none
structure Inv (X:Cx) (pins:List (Addr × Obj)) (σ:List (Option V)) (H:Hp) (s:Shared):Prop where
 ok:X.Ok
 os:s.os=X.s₀.os
 bare:AllBare s.gens
 base:Un X.fs X.ex X.H₀ H X.s₀.heap s.heap
 loc:∃m,s.heap.Ns X.env.locals m∧∀(i:Nat) (x:Str) (v:V),X.N[i]? = some x→σ[i]? = some (some v)→Vis X.env.scope x→∃u,RelV v u∧Look X.env s.heap m x u
 cell:∀x c,X.env.cells.lookup x=some c→∃v,s.heap.IsCell c v
 free:H X.env.locals=none
 freeC:∀x c,X.env.cells.lookup x=some c→H c=none
 pin:∀p∈X.pn++pins,s.heap.get? p.1=some p.2∧H p.1=none∧p.1≠X.env.locals∧p.1 ∉ X.fs∧∀v,p.2.data ≠ .cell v
 hok:HOk X.prog X.w H s.heap
 len:σ.length=X.N.length
section
variable {X:Cx}{pins:List (Addr × Obj)}{σ:List (Option V)}{H H':Hp}{s:Shared}{h':Heap}
theorem Cx.Ok.nofr (ok:X.Ok) {b:Addr}{o:Obj}(e:X.base.get? b=some o):b ∉ X.fs:=fun hb=>by
 have:=(ok.funs.mem hb).1
 rw [e] at this;exact L2.sn_ this
theorem Inv.bs (I:Inv X pins σ H s):∀b o,X.base.get? b=some o→s.heap.get? b=some o∧H b=none:=fun b o e =>
 ⟨I.base.keep b o (I.ok.bs b o e).1 (I.ok.bs b o e).2 (I.ok.nofr e) (I.ok.noex b o e),I.base.free b o (I.ok.bs b o e).1 (I.ok.bs b o e).2 (I.ok.noex b o e)⟩
theorem Inv.bk (I:Inv X pins σ H s):∀b o,X.base.get? b=some o→s.heap.get? b=some o:=fun b o e=>(I.bs b o e).1
theorem Inv.mod (I:Inv X pins σ H s):Mod X.K X.mg X.base:=I.ok.mod
theorem Inv.kIn (I:Inv X pins σ H s):X.K.In s.heap:=I.ok.mod.kin.keeps I.bk
theorem Inv.nolimit (I:Inv X pins σ H s):s.heap.NoLimit:=I.ok.mod.nolimit.keeps I.bk
theorem Inv.lt (I:Inv X pins σ H s):X.env.locals<s.heap.objs.size:=let ⟨_,hn,_⟩:=I.loc;hn.lt
theorem Inv.sz (I:Inv X pins σ H s):X.s₀.heap.objs.size≤s.heap.objs.size:=Nat.le_trans I.ok.above (Nat.le_of_lt I.lt)
theorem Inv.nofs (I:Inv X pins σ H s) {a:Addr}(h:s.heap.objs.size≤a):a ∉ X.fs:=fun hb=>by
 obtain ⟨_,o,ho,_⟩:=I.ok.funs.mem hb
 exact absurd (Nat.lt_of_lt_of_le (Heap.lt_size ho) (Nat.le_trans I.sz h)) (Nat.lt_irrefl _)
theorem Inv.cne (I:Inv X pins σ H s):∀x c,X.env.cells.lookup x=some c→c≠X.env.locals:=fun x c e z=>by
 obtain ⟨v,o,ho,hd⟩:=I.cell x c e
 obtain ⟨m,⟨o',es,ep,ho',hd',_⟩,_⟩:=I.loc
 rw [z,ho'] at ho;obtain rfl:=Option.some.inj ho;rw [hd'] at hd;cases hd
theorem Inv.funs (I:Inv X pins σ H s):s.heap.FunFrames X.base X.outer:=by
 have all:∀(l:List Env),(∀b∈frs l,b∈X.fs)→X.s₀.heap.FunFrames X.base l→s.heap.FunFrames X.base l:=by
  intro l
  induction l with
  | nil=>intro _ _;trivial
  | cons env r ih =>
   intro hs hl
   obtain ⟨hk,⟨L,o,hf,hn,ho,hd⟩,hr⟩:=hl
   have hL:L∈X.fs:=hs L (by unfold frs;rw [List.filterMap_cons,hf];exact List.mem_cons_self)
   obtain ⟨sl,e⟩:=I.base.slot L o ho (I.ok.frf L hL) hL fun z=>I.ok.exfs L z hL
   exact⟨hk,⟨L,_,hf,hn,e,hd⟩,ih (fun b hb=>hs b (by unfold frs;rw [List.filterMap_cons,hf];exact List.mem_cons_of_mem _ hb)) hr⟩
 exact all X.outer (fun _ hb=>hb) I.ok.funs
theorem Inv.stack (I:Inv X pins σ H s):s.heap.FunFrames X.base X.stack:=by
 rcases I.ok.stk with e|⟨e,hf⟩
 ·rw [e];exact I.funs
 ·rw [e]
  obtain ⟨m,hn,_⟩:=I.loc
  refine .cons (by rw [I.ok.kind];decide) hf hn ?_ I.funs
  exact Heap.get?_none_of_le (Nat.le_trans I.ok.bsz I.ok.above)
theorem Inv.stkSub (I:Inv X pins σ H s):∀b∈frs X.stack,b∈X.env.locals::X.fs:=fun b hb=>by
 rcases I.ok.stk with e|⟨e,hf⟩
 ·rw [e] at hb;exact List.mem_cons_of_mem _ hb
 ·rw [e] at hb
  unfold frs at hb
  rw [List.filterMap_cons,hf] at hb
  exact hb
theorem Inv.stkFree (I:Inv X pins σ H s):∀b∈frs X.stack,H b=none:=fun b hb=>by
 rcases List.mem_cons.mp (I.stkSub b hb) with e|hb
 ·rw [e];exact I.free
 ·obtain ⟨_,o,ho,_⟩:=I.ok.funs.mem hb
  exact I.base.free b o ho (I.ok.frf b hb) fun z=>I.ok.exfs b z hb
theorem Inv.step {g':Array GenState}{t':Nat}{d':Drawn}{ch:List Addr}(I:Inv X pins σ H s)
  (hch:∀b∈ch,(b∈X.ex∨X.s₀.heap.objs.size≤b)∧b≠X.env.locals∧(∀x c,X.env.cells.lookup x=some c→c≠b)∧∀p∈X.pn++pins,p.1≠b)
  (keep:∀b o,b≠X.env.locals→b ∉ X.fs→b ∉ ch→s.heap.get? b=some o→H b=none→h'.get? b=some o)
  (slot:∀b o,b≠X.env.locals→b∈X.fs→b ∉ ch→s.heap.get? b=some o→H b=none→∃sl,h'.get? b=some { o with slots:=sl }) (free:∀b o,b ∉ ch→s.heap.get? b=some o→H b=none→H' b=none)
  (there:∀b o,b ∉ ch→s.heap.get? b=some o→∃o',h'.get? b=some o')
  (tups:∀b xs,H b=some (.tup xs)→H' b=some (.tup xs)) (frzs:∀b o u,H b=some (.frz o u)→H' b=some (.frz o u)) (tbls:∀b ps,H b=some (.tbl ps)→∃more,H' b=some (.tbl (ps++more)))
  (ns:∀m,s.heap.Ns X.env.locals m→h'.Ns X.env.locals m) (hok:HOk X.prog X.w H' h') (hg:AllBare g') :
  Inv X pins σ H' { s with heap:=h',gens:=g',drawn:=d',toks:=t' }:=by
 have neL:∀b o,X.s₀.heap.get? b=some o→b≠X.env.locals:=fun b o e=>Nat.ne_of_lt (Nat.lt_of_lt_of_le (Heap.lt_size e) I.ok.above)
 have neC:∀b o,X.s₀.heap.get? b=some o→b ∉ X.ex→b ∉ ch:=fun b o e hx hb=>by
  rcases (hch b hb).1 with z|z
  ·exact hx z
  ·exact absurd (Nat.lt_of_lt_of_le (Heap.lt_size e) z) (Nat.lt_irrefl _)
 have cellK:∀x c,X.env.cells.lookup x=some c→∀v,s.heap.IsCell c v→h'.IsCell c v:=fun x c e v ⟨o,ho,hd⟩=>by
  have nch:c ∉ ch:=fun z=>(hch c z).2.2.1 x c e rfl
  by_cases hc:c∈X.fs
  ·obtain ⟨sl,q⟩:=slot c o (I.cne x c e) hc nch ho (I.freeC x c e)
   exact⟨_,q,hd⟩
  ·exact⟨o,keep c o (I.cne x c e) hc nch ho (I.freeC x c e),hd⟩
 refine⟨I.ok,I.os,hg,⟨fun b o e n hb hx=>?_,fun b o e n hb hx=>?_,fun b o e n hx=>?_,fun b o e hx=>?_,fun b xs e=>tups b xs (I.base.tups b xs e),fun b o xs e=>frzs b o xs (I.base.frzs b o xs e),fun b ps e=>?_⟩,?_,fun x c e=>?_,?_,fun x c e=>?_,fun p hp=>?_,hok,I.len⟩
 ·exact keep b o (neL b o e) hb (neC b o e hx) (I.base.keep b o e n hb hx) (I.base.free b o e n hx)
 ·obtain ⟨sl,e1⟩:=I.base.slot b o e n hb hx
  obtain ⟨sl',e2⟩:=slot b _ (neL b o e) hb (neC b o e hx) e1 (I.base.free b o e n hx)
  exact⟨sl',e2⟩
 ·obtain ⟨o',e1⟩:=I.base.there b o e hx
  exact free b o' (neC b o e hx) e1 (I.base.free b o e n hx)
 ·obtain ⟨o',e1⟩:=I.base.there b o e hx
  exact there b o' (neC b o e hx) e1
 ·obtain ⟨m1,e1⟩:=I.base.tbls b ps e
  obtain ⟨m2,e2⟩:=tbls b _ e1
  exact⟨m1++m2,by rw [e2,Array.append_assoc]⟩
 ·refine L2.ob_ea I.loc fun m hn hl=>?_
  refine⟨m,ns m hn,fun i x v e1 e2 e3=>?_⟩
  obtain ⟨u,r,l⟩:=hl i x v e1 e2 e3
  refine⟨u,r,?_⟩
  rcases l with l|⟨k,c,e,z⟩
  ·exact .inl l
  ·exact .inr ⟨k,c,e,cellK x c e _ z⟩
 ·obtain ⟨v,z⟩:=I.cell x c e
  exact⟨v,cellK x c e v z⟩
 ·obtain ⟨m,⟨o,_,_,ho,_⟩,_⟩:=I.loc
  exact free _ o (fun z=>(hch _ z).2.1 rfl) ho I.free
 ·obtain ⟨v,o,ho,hd⟩:=I.cell x c e
  exact free c o (fun z=>(hch c z).2.2.1 x c e rfl) ho (I.freeC x c e)
 ·refine L2.ob_aaaa (I.pin p hp) fun e n ne nf d=>?_
  have nch:p.1 ∉ ch:=fun z=>(hch p.1 z).2.2.2 p hp rfl
  exact⟨keep p.1 p.2 ne nf nch e n,free p.1 p.2 nch e n,ne,nf,d⟩
theorem Inv.un {t':Nat}(I:Inv X pins σ H s) (u:Un X.fs [] H H' s.heap h') (hok:HOk X.prog X.w H' h'):Inv X pins σ H' { s with heap:=h',toks:=t' }:=by
 obtain ⟨m,⟨o,es,ep,ho,r⟩,_⟩:=id I.loc
 obtain ⟨sl,hL⟩:=u.any ho I.free (by simp)
 exact I.step (g':=s.gens) (d':=s.drawn) (ch:=[]) (fun _ z=>nomatch z) (fun b o _ hb _ e n=>u.keep b o e n hb (by simp)) (fun b o _ hb _ e n=>u.slot b o e n hb (by simp)) (fun b o _ e n=>u.free b o e n (by simp)) (fun b o _ e=>u.there b o e (by simp)) u.tups u.frzs u.tbls (fun m' hm=>by
  obtain ⟨o',es',ep',ho',r'⟩:=hm
  rw [ho] at ho';cases ho'
  exact⟨_,es',ep',hL,r'⟩) hok I.bare
theorem Inv.call {g':Array GenState}{t':Nat}{d':Drawn}{ch:List Addr}(I:Inv X pins σ H s) (u:Un (frs X.stack) ch H H' s.heap h') (hok:HOk X.prog X.w H' h') (hg:AllBare g')
  (hch:∀b∈ch,(b∈X.ex∨X.s₀.heap.objs.size≤b)∧b≠X.env.locals∧(∀x c,X.env.cells.lookup x=some c→c≠b)∧∀p∈X.pn++pins,p.1≠b) :
  Inv X pins σ H' { s with heap:=h',gens:=g',drawn:=d',toks:=t' }:=by
 obtain ⟨m,⟨o,es,ep,ho,r⟩,_⟩:=id I.loc
 obtain ⟨sl,hL⟩:=u.any ho I.free fun z=>(hch _ z).2.1 rfl
 exact I.step (ch:=ch) hch (fun b o hL hb hc e n=>u.keep b o e n (fun z=>(List.mem_cons.mp (I.stkSub b z)).elim hL hb) hc) (fun b o _ _ hc e n=>u.any e n hc) (fun b o hc e n=>u.free b o e n hc) (fun b o hc e=>u.there b o e hc) u.tups u.frzs u.tbls (fun m' hm=>by
  obtain ⟨o',es',ep',ho',r'⟩:=hm
  rw [ho] at ho';cases ho'
  exact⟨_,es',ep',hL,r'⟩) hok hg
theorem Inv.turned {t':Nat}{it:Addr}(I:Inv X pins σ H s) (k:∀b o,b≠it→s.heap.get? b=some o→h'.get? b=some o) (hn:H it=none) (hL:it≠X.env.locals)
  (h1:it∈X.ex∨X.s₀.heap.objs.size≤it) (h2:∀x c,X.env.cells.lookup x=some c→c≠it) (h3:∀p∈X.pn++pins,p.1≠it):Inv X pins σ H { s with heap:=h',toks:=t' }:=by
 have nit:∀b u,H b=some u→b≠it:=fun b u e z=>by rw [z,hn] at e;exact L2.ns_ e
 refine I.step (g':=s.gens) (d':=s.drawn) (ch:=[it]) (fun b hb=>?_) (fun b o _ _ hc e _=>k b o (fun z=>hc (by simp [z])) e) (fun b o _ _ hc e _=>⟨o.slots,k b o (fun z=>hc (by simp [z])) e⟩) (fun _ _ _ _ n=>n)
  (fun b o hc e=>⟨o,k b o (fun z=>hc (by simp [z])) e⟩) (fun _ _ e=>e) (fun _ _ _ e=>e) (fun b ps e=>⟨#[],by rw [e];simp⟩) (fun m hm=>?_) (fun b u e=>?_) I.bare
 ·have e:b=it:=by simpa using hb
  subst e
  exact⟨h1,hL,h2,h3⟩
 ·obtain ⟨o,es,ep,ho,r⟩:=hm
  exact⟨o,es,ep,k _ o (Ne.symm hL) ho,r⟩
 ·refine (I.hok b u e).stay (fun c v hc q=>k c v ?_ q) (fun _ q=>q) fun _ _ q=>q
  rcases hc with z|z
  ·rw [z];exact nit b u e
  ·exact nit c _ z
theorem Inv.tok (I:Inv X pins σ H s) (t:Nat):Inv X pins σ H { s with toks:=t }:=I.un (h':=s.heap) (t':=t) Un.refl I.hok
theorem Inv.kept {t':Nat}(I:Inv X pins σ H s) (k:∀b u,s.heap.get? b=some u→h'.get? b=some u):Inv X pins σ H { s with heap:=h',toks:=t' }:=I.un (Un.kept k) (I.hok.kept k)
theorem Inv.laid {a:Addr}{o:HO}{t':Nat}(I:Inv X pins σ H s) (k:∀b u,s.heap.get? b=some u→h'.get? b=some u) (hp:s.heap.objs.size≤a) (new:ObjOk X.prog X.w (upd H a o) h' a o) :
  Inv X pins σ (upd H a o) { s with heap:=h',toks:=t' }:=I.un (Un.laid k hp (I.hok.fresh hp)) (I.hok.laid k hp new)
theorem Inv.write {x e:Addr}{o:HO}{t':Nat}(I:Inv X pins σ H s) (mu:Mut (H x)) (he:e=x∨H e=some (.own x)) (k:∀b u,b≠e→s.heap.get? b=some u→h'.get? b=some u) (heo:∃u,h'.get? e=some u)
  (new:ObjOk X.prog X.w (upd H x o) h' x o):Inv X pins σ (upd H x o) { s with heap:=h',toks:=t' }:=I.un (Un.write mu he k heo) (I.hok.write mu he k heo new)
theorem Inv.weak {σ':List (Option V)}(I:Inv X pins σ H s) (hl:σ'.length=σ.length) (w:∀(i:Nat) v,σ'[i]? = some (some v)→σ[i]? = some (some v)):Inv X pins σ' H s :=
 ⟨I.ok,I.os,I.bare,I.base,let ⟨m,hn,hl'⟩:=I.loc;⟨m,hn,fun i x v e1 e2 e3=>hl' i x v e1 (w i v e2) e3⟩,I.cell,I.free,I.freeC,I.pin,I.hok,hl.trans I.len⟩
theorem Inv.pins_of {pins':List (Addr × Obj)}(I:Inv X pins σ H s) (h:∀p∈pins',s.heap.get? p.1=some p.2∧H p.1=none∧p.1≠X.env.locals∧p.1 ∉ X.fs∧∀v,p.2.data ≠ .cell v):Inv X pins' σ H s :=
 ⟨I.ok,I.os,I.bare,I.base,I.loc,I.cell,I.free,I.freeC,fun p hp=>(List.mem_append.mp hp).elim (fun z=>I.pin p (List.mem_append_left _ z)) (h p),I.hok,I.len⟩
theorem nodup_ix {N:List Str}(hN:N.Nodup) {i j:Nat}{x:Str}(a:N[i]? = some x) (b:N[j]? = some x):i=j:=by
 obtain ⟨h1,e1⟩:=List.getElem?_eq_some_iff.mp a
 obtain ⟨h2,e2⟩:=List.getElem?_eq_some_iff.mp b
 exact (List.getElem_inj hN).mp (e1.trans e2.symm)
theorem store_ok2 {M:Model}{A:Around}{E:Value→Shared→Prop}{i:Nat}{x:Str}{v:V}{u:Value}{Q:Unit→Shared→Prop}(I:Inv X pins σ H s) (hN:X.N.Nodup) (hi:X.N[i]? = some x) (hx:Loc X.env.scope x) (r:RelV v u)
  (h:∀s',Inv X pins (σ.set i (some v)) H s'→(∃a,Heap.SameBut a s.heap s'.heap∧(a=X.env.locals∨X.env.cells.lookup x=some a))→Q () s') (hf:X.fn x=true∨X.env.scope.names.lookup x=some .local:=by first|exact .inl rfl|exact .inr rfl|assumption):wpAny M A (storeName X.env x u) Q E s:=by
 obtain ⟨m,hn,hl⟩:=id I.loc
 have hcls:(X.env.scope.kind == .class || (X.env.scope.kind == .module && X.env.locals != X.env.globals))=false:=by rw [I.ok.kind];rfl
 have hiσ:i<σ.length:=by rw [I.len];exact (List.getElem?_eq_some_iff.mp hi).1
 have cne:=I.cne
 have tracked:∀{a:Addr}{h':Heap},(∃o,s.heap.get? a=some o∧H a=none)→Heap.SameBut a s.heap h'→HOk X.prog X.w H h':=fun {a h'} ha hs b ob e=>by
  obtain ⟨_,_,hfree⟩:=ha
  refine (I.hok b ob e).stay (fun c w' hc q=>(hs.2 c ?_).trans q) (fun _ q=>q) fun _ _ q=>q
  rintro rfl
  rcases hc with rfl|hc
  ·rw [hfree] at e;exact L2.ns_ e
  ·rw [hfree] at hc;exact L2.ns_ hc
 rcases hx with hk|hk
 ·refine wpAny_storeName_local hk hn (fun h' hn' hs=>?_) hcls
  obtain ⟨oL,_,_,hoL,_⟩:=id hn
  refine h _ ⟨I.ok,I.os,I.bare,⟨fun b o e n hb hx=>?_,fun b o e n hb hx=>?_,I.base.free,fun b o e hx=>?_,I.base.tups,I.base.frzs,I.base.tbls⟩,⟨_,hn',fun j y v' e1 e2 e3=>?_⟩,fun y c e=>?_,I.free,I.freeC,fun p hp=>?_,tracked ⟨oL,hoL,I.free⟩ hs,by simpa using I.len⟩ ⟨_,hs,.inl rfl⟩
  ·exact (hs.2 b (Nat.ne_of_lt (Nat.lt_of_lt_of_le (Heap.lt_size e) I.ok.above))).trans (I.base.keep b o e n hb hx)
  ·obtain ⟨sl,e1⟩:=I.base.slot b o e n hb hx
   exact⟨sl,(hs.2 b (Nat.ne_of_lt (Nat.lt_of_lt_of_le (Heap.lt_size e) I.ok.above))).trans e1⟩
  ·obtain ⟨o',e1⟩:=I.base.there b o e hx
   exact⟨o',(hs.2 b (Nat.ne_of_lt (Nat.lt_of_lt_of_le (Heap.lt_size e) I.ok.above))).trans e1⟩
  ·by_cases hj:j=i
   ·subst hj
    rw [hi] at e1;cases e1
    rw [List.getElem?_set_self hiσ] at e2
    cases e2
    exact⟨u,r,.inl ⟨hk,by simp⟩⟩
   ·rw [List.getElem?_set_ne (Ne.symm hj)] at e2
    refine L2.ob_ea (hl j y v' e1 e2 e3) fun u' r' q=>?_
    refine⟨u',r',?_⟩
    rcases q with ⟨k,e⟩|⟨k,c,e,z⟩
    ·refine .inl ⟨k,?_⟩
     have:y≠x:=fun e=>hj (nodup_ix hN e1 (e ▸ hi))
     simp [this,e]
    ·exact .inr ⟨k,c,e,z.sameBut hs (cne y c e)⟩
  ·obtain ⟨w',z⟩:=I.cell y c e
   exact⟨w',z.sameBut hs (cne y c e)⟩
  ·refine L2.ob_aaaa (I.pin p hp) fun e n ne nf d=>?_
   exact⟨(hs.2 p.1 ne).trans e,n,ne,nf,d⟩
 ·have hfn:X.fn x=true:=by
   rcases hf with z|z
   ·exact z
   ·rw [z] at hk;cases hk
  obtain ⟨c,hc⟩:=I.ok.has x (.inl hk)
  obtain ⟨w',z⟩:=I.cell x c hc
  refine wpAny_storeName_cell I.ok.kind hk hc z (fun h' hc' hs=>?_)
  obtain ⟨oc,hoc,hocd⟩:=id z
  refine h { s with heap:=h' } ⟨I.ok,I.os,I.bare,⟨fun b o e n hb hx=>?_,fun b o e n hb hx=>?_,I.base.free,fun b o e hx=>?_,I.base.tups,I.base.frzs,I.base.tbls⟩,⟨m,hn.sameBut hs (Ne.symm (cne x c hc)),fun j y v' e1 e2 e3=>?_⟩,fun y c' e=>?_,I.free,I.freeC,fun p hp=>?_,tracked ⟨oc,hoc,I.freeC x c hc⟩ hs,by simpa using I.len⟩ ⟨c,hs,.inr hc⟩
  ·exact (hs.2 b (Nat.ne_of_lt (Nat.lt_of_lt_of_le (Heap.lt_size e) (I.ok.cab x c hfn hc)))).trans (I.base.keep b o e n hb hx)
  ·obtain ⟨sl,e1⟩:=I.base.slot b o e n hb hx
   exact⟨sl,(hs.2 b (Nat.ne_of_lt (Nat.lt_of_lt_of_le (Heap.lt_size e) (I.ok.cab x c hfn hc)))).trans e1⟩
  ·obtain ⟨o',e1⟩:=I.base.there b o e hx
   exact⟨o',(hs.2 b (Nat.ne_of_lt (Nat.lt_of_lt_of_le (Heap.lt_size e) (I.ok.cab x c hfn hc)))).trans e1⟩
  ·by_cases hj:j=i
   ·subst hj
    rw [hi] at e1;cases e1
    rw [List.getElem?_set_self hiσ] at e2
    cases e2
    exact⟨u,r,.inr ⟨.inl hk,c,hc,hc'⟩⟩
   ·rw [List.getElem?_set_ne (Ne.symm hj)] at e2
    refine L2.ob_ea (hl j y v' e1 e2 e3) fun u' r' q=>?_
    refine⟨u',r',?_⟩
    rcases q with q|⟨k,c',e,z'⟩
    ·exact .inl q
    ·refine .inr ⟨k,c',e,z'.sameBut hs ?_⟩
     rintro rfl
     exact hj (nodup_ix hN e1 (I.ok.inj _ _ _ e hc ▸ hi))
  ·by_cases hcc:c'=c
   ·subst hcc;exact⟨_,hc'⟩
   ·obtain ⟨w2,z2⟩:=I.cell y c' e
    exact⟨w2,z2.sameBut hs hcc⟩
  ·refine L2.ob_aaaa (I.pin p hp) fun e n ne nf d=>?_
   refine⟨(hs.2 p.1 ?_).trans e,n,ne,nf,d⟩
   intro q
   rw [q,hoc] at e
   have q':oc=p.2:=Option.some.inj e
   exact d w' (by rw [←q'];exact hocd)
theorem store_ok {M:Model}{A:Around}{E:Value→Shared→Prop}{i:Nat}{x:Str}{v:V}{u:Value}{Q:Unit→Shared→Prop}(I:Inv X pins σ H s) (hN:X.N.Nodup) (hi:X.N[i]? = some x) (hx:Loc X.env.scope x) (r:RelV v u)
  (h:∀s',Inv X pins (σ.set i (some v)) H s'→Q () s') (hf:X.fn x=true∨X.env.scope.names.lookup x=some .local:=by first|exact .inl rfl|exact .inr rfl|assumption):wpAny M A (storeName X.env x u) Q E s :=
 store_ok2 I hN hi hx r (fun s' I' _=>h s' I') hf
theorem Inv.call' {s':Shared}{ch:List Addr}(I:Inv X pins σ H s) (ho:s'.os=s.os) (u:Un (frs X.stack) ch H H' s.heap s'.heap) (hok:HOk X.prog X.w H' s'.heap) (hg:AllBare s'.gens)
  (hch:∀b∈ch,(b∈X.ex∨X.s₀.heap.objs.size≤b)∧b≠X.env.locals∧(∀x c,X.env.cells.lookup x=some c→c≠b)∧∀p∈X.pn++pins,p.1≠b):Inv X pins σ H' s':=by
 obtain ⟨h',g',d',t',o'⟩:=s'
 have e:o'=s.os:=ho
 subst e
 exact I.call (g':=g') (t':=t') (d':=d') u hok hg hch
end

abbrev XK:=Value→Option Addr→Hp→Prop
abbrev St:=List (Option V)
abbrev VK:=V→Hp→Prop
abbrev TE:=St→Hp→VK→Prop
abbrev TT:=St→Hp→(Bool→Hp→Prop)→Prop
abbrev TA:=St→Hp→(List V→Hp→Prop)→Prop
structure Ends where
 nx:St→Hp→Prop
 rt:VK
 bk:St→Hp→Prop:=fun _ _=>False
 ct:St→Hp→Prop:=fun _ _=>False
abbrev TS:=Ends→St→Hp→Prop
def Ends.nxt (D:Ends) (k:St→Hp→Prop):Ends:={ D with nx:=k }
def Ends.lp (D:Ends) (N:St→Hp→Prop):Ends:={ D with nx:=N,ct:=N,bk:=D.nx }
def onI (x:V) (k:Int→Prop):Prop:=match x with
 | .int i=>k i
 | _=>False
def onB (x:V) (k:Bool→Prop):Prop:=match x with
 | .bl i=>k i
 | _=>False
def onO (o:Option (Option V)) (k:V→Prop):Prop:=match o with
 | some (some v)=>k v
 | _=>False
def onT (b:Bool) (q:Prop):Prop:=match b with
 | true=>q
 | false=>False
def onL (vs:List V) (k:V→List V→Prop):Prop:=match vs with
 | v::r=>k v r
 | []=>False
def onN (vs:List V) (q:Prop):Prop:=match vs with
 | []=>q
 | _::_=>False
theorem onI.ex {x:V}{k:Int→Prop}(h:onI x k):∃i,x=.int i∧k i:=by
 cases x with
 | int i=>exact⟨i,rfl,h⟩
 | _=>exact h.elim
theorem onB.ex {x:V}{k:Bool→Prop}(h:onB x k):∃i,x=.bl i∧k i:=by
 cases x with
 | bl i=>exact⟨i,rfl,h⟩
 | _=>exact h.elim
theorem onO.ex {o:Option (Option V)}{k:V→Prop}(h:onO o k):∃v,o=some (some v)∧k v:=by
 cases o with
 | none=>exact h.elim
 | some o=>cases o with
  | none=>exact h.elim
  | some v=>exact⟨v,rfl,h⟩
theorem onT.ex {b:Bool}{q:Prop}(h:onT b q):b=true∧q:=by
 cases b with
 | true=>exact⟨rfl,h⟩
 | false=>exact h.elim
theorem onL.ex {vs:List V}{k:V→List V→Prop}(h:onL vs k):∃v r,vs=v::r∧k v r:=by
 cases vs with
 | nil=>exact h.elim
 | cons v r=>exact⟨v,r,rfl,h⟩
theorem onN.ex {vs:List V}{q:Prop}(h:onN vs q):vs=[]∧q:=by
 cases vs with
 | nil=>exact⟨rfl,h⟩
 | cons v r=>exact h.elim
theorem onO.of {o:Option (Option V)}{k:V→Prop}{v:V}(e:o=some (some v)) (h:k v):onO o k:=by subst e;exact h
inductive EP (X:Cx) (pins:List (Addr × Obj)) (σ:St) (Q:VK) (u:Value) (s':Shared)  : Prop
 | mk:∀v H',(Inv X pins σ H' s')→(RelV v u)→(Q v H')→EP X pins σ Q u s'
inductive TP (X:Cx) (pins:List (Addr × Obj)) (σ:St) (Q:Bool→Hp→Prop) (b:Bool) (s':Shared)  : Prop
 | mk:∀H',(Inv X pins σ H' s')→(Q b H')→TP X pins σ Q b s'
inductive AP (X:Cx) (pins:List (Addr × Obj)) (σ:St) (Q:List V→Hp→Prop) (us:List Value) (s':Shared)  : Prop
 | mk:∀vs H',(Inv X pins σ H' s')→(Vals vs us)→(Q vs H')→AP X pins σ Q us s'
inductive SN (X:Cx) (pins:List (Addr × Obj)) (N:St→Hp→Prop) (s':Shared):Prop
 | mk:∀σ' H',Inv X pins σ' H' s'→N σ' H'→SN X pins N s'
inductive SR (X:Cx) (pins:List (Addr × Obj)) (R:VK) (u:Value) (s':Shared):Prop
 | mk:∀v σ' H',Inv X pins σ' H' s'→RelV v u→R v H'→SR X pins R u s'
def SP (X:Cx) (pins:List (Addr × Obj)) (D:Ends) (f:Flow) (s':Shared):Prop :=
 match f with
 | .next=>SN X pins D.nx s'
 | .brk=>SN X pins D.bk s'
 | .cont=>SN X pins D.ct s'
 | .ret u=>SR X pins D.rt u s'
def PE (X:Cx) (e:Expr) (t:TE):Prop :=
 ∀(pins:List (Addr × Obj)) (s:Shared) (σ:St) (H:Hp) (Q:VK),Inv X pins σ H s→t σ H Q→wpAny (model X.prog X.w) X.A (eval e X.env) (EP X pins σ Q) X.xe s
def PT (X:Cx) (e:Expr) (t:TT):Prop :=
 ∀(pins:List (Addr × Obj)) (s:Shared) (σ:St) (H:Hp) (Q:Bool→Hp→Prop),Inv X pins σ H s→t σ H Q→wpAny (model X.prog X.w) X.A (isTrue e X.env (eval e X.env)) (TP X pins σ Q) X.xe s
def PW (X:Cx) (e:Expr) (t:TT):Prop :=
 ∀(whole:Sem Value) (pins:List (Addr × Obj)) (s:Shared) (σ:St) (H:Hp) (Q:Bool→Hp→Prop),Inv X pins σ H s→t σ H Q→wpAny (model X.prog X.w) X.A (isTrue e X.env whole) (TP X pins σ Q) X.xe s
theorem PW.pt {X:Cx}{e:Expr}{t:TT}(h:PW X e t):PT X e t:=h _
def PA (X:Cx) (es:List Expr) (t:TA):Prop :=
 ∀(pos:Pos) (pins:List (Addr × Obj)) (s:Shared) (σ:St) (H:Hp) (Q:List V→Hp→Prop),Inv X pins σ H s→t σ H Q→wpAny (model X.prog X.w) X.A (spliced (backTo pos (starEach es X.env))) (AP X pins σ Q) X.xe s
def PS (X:Cx) (st:Stmt) (t:TS):Prop :=
 ∀(pins:List (Addr × Obj)) (s:Shared) (σ:St) (H:Hp) (D:Ends),Inv X pins σ H s→t D σ H→wpAny (model X.prog X.w) X.A (exec st X.env) (SP X pins D) X.xe s
def PSs (X:Cx) (st:List Stmt) (t:TS):Prop :=
 ∀(pins:List (Addr × Obj)) (s:Shared) (σ:St) (H:Hp) (D:Ends),Inv X pins σ H s→t D σ H→wpAny (model X.prog X.w) X.A (execs st X.env) (SP X pins D) X.xe s
theorem thn {α:Type}{t:Sem α}{Q Q':α→Shared→Prop}{M:Model}{A:Around}{E:Value→Shared→Prop}{s:Shared}(h:wpAny M A t Q E s) (hQ:∀a s,Q a s→Q' a s):wpAny M A t Q' E s:=wpAny_mono h hQ fun _ _ x=>x
end L2

namespace L2
open PySem PySem.Spec PyProof.Rows
section
variable {X:Cx}
def tVar (i:Nat):TE:=fun σ H Q=>onO σ[i]? fun v=>Q v H
theorem tVar.ex {i:Nat}{σ:St}{H:Hp}{Q:VK}(h:tVar i σ H Q):∃v,σ[i]? = some (some v)∧Q v H:=onO.ex h
theorem tVar.of {i:Nat}{σ:St}{H:Hp}{Q:VK}{v:V}(e:σ[i]? = some (some v)) (h:Q v H):tVar i σ H Q:=onO.of e h
def tC (v:V):TE:=fun _ H Q=>Q v H
theorem pe_var {i:Nat}{x:Str}{pos:Pos}(hN:X.N[i]? = some x) (hv:Vis X.env.scope x) (hd:(x==("__debug__" : Str))=false:=by decide) (hcd:(x==("__classdict__" : Str))=false:=by decide):PE X (.Name x pos) (tVar i):=by
 intro pins s σ H Q I h
 refine L2.ob_ea (tVar.ex h) fun v e h=>?_
 refine L2.ob_ea I.loc fun m hn hl=>?_
 refine L2.ob_ea (hl i x v hN e hv) fun u r l=>?_
 have fin:EP X pins σ Q u s:=⟨v,H,I,r,h⟩
 rcases l with ⟨hk,hm⟩|⟨hk,c,hc,hcell⟩
 ·exact wpAny_Name (wpAny_loadName_local I.ok.kind hk hn hm fin) hd
 ·rcases hk with hk|hk
  ·exact wpAny_Name (wpAny_loadName_cell I.ok.kind hk hc hcell fin) hd
  ·exact wpAny_Name (wpAny_loadName_free I.ok.kind hk hc hcell fin hcd) hd
theorem pe_int {i j pos}:PE X (.Constant (.int i) j pos) (tC (.int i)):=fun _ _ _ H _ I h=>wpAny_Constant_int ⟨.int i,H,I.tok _,⟨_,rfl⟩,h⟩
theorem pe_bl {b j pos}:PE X (.Constant (.bool b) j pos) (tC (.bl b)):=fun _ _ _ H _ I h=>Constant_bool ⟨.bl b,H,I,rfl,h⟩
theorem pe_non {j pos}:PE X (.Constant .none j pos) (tC .non):=fun _ _ _ H _ I h=>Constant_none ⟨.non,H,I,rfl,h⟩
theorem pe_str {x j pos}:PE X (.Constant (.str x) j pos) (tC (.str x)):=fun _ _ _ H _ I h=>Calls.Constant_str ⟨.str x,H,I.tok _,⟨_,rfl⟩,h⟩
def Gl (X:Cx) (x:Str):Prop:=X.env.kindOf x=some .globalImplicit
theorem ld_glob {E:Value→Shared→Prop}{pins:List (Addr × Obj)}{s:Shared}{σ:St}{H:Hp}{x:Str}{u:Value}{pos:Pos}{Q:Value→Shared→Prop}(I:Inv X pins σ H s) (hg:Gl X x) (hm:X.mg x=some u) (h:Q u s)
  (hd:(x==("__debug__" : Str))=false:=by decide):wpAny (model X.prog X.w) X.A (eval (.Name x pos) X.env) Q E s :=
 Calls.Name_function_global I.ok.kind hg (Calls.loadGlobal_global (by rw [I.ok.glob];exact I.mod.glob.keeps I.bk) hm h) hd
theorem ld_blt {E:Value→Shared→Prop}{pins:List (Addr × Obj)}{s:Shared}{σ:St}{H:Hp}{x:Str}{u:Value}{pos:Pos}{Q:Value→Shared→Prop}(I:Inv X pins σ H s) (hg:Gl X x) (hm:X.mg x=none) (hv:bootBuiltins x=some u) (h:Q u s)
  (hn:x ≠ "__name__" := by decide) (hd:(x==("__debug__" : Str))=false:=by decide):wpAny (model X.prog X.w) X.A (eval (.Name x pos) X.env) Q E s:=by
 obtain ⟨mb,h1,h2⟩:=I.mod.blt
 exact Calls.Name_function_global I.ok.kind hg (Calls.loadGlobal_builtin (by rw [I.ok.glob];exact I.mod.glob.keeps I.bk) hm (by rw [I.ok.blt];exact h1.keeps I.bk) ((h2 x hn).trans hv) h) hd
theorem pe_glob {x:Str}{v:V}{u:Value}{pos:Pos}(hg:Gl X x) (hm:X.mg x=some u) (r:RelV v u) (hd:(x==("__debug__" : Str))=false:=by decide):PE X (.Name x pos) (tC v) :=
 fun _ _ _ H _ I h=>ld_glob I hg hm ⟨v,H,I,r,h⟩ hd
theorem pe_bltn {x:Str}{v:V}{u:Value}{pos:Pos}(hg:Gl X x) (hm:X.mg x=none) (hv:bootBuiltins x=some u) (r:RelV v u) (hn:x ≠ "__name__" := by decide) (hd:(x==("__debug__" : Str))=false:=by decide):PE X (.Name x pos) (tC v) :=
 fun _ _ _ H _ I h=>ld_blt I hg hm hv ⟨v,H,I,r,h⟩ hn hd
variable {a b:Expr}{ta tb:TE}{pos:Pos}
def PC (X:Cx) (op:CmpOp) (a b:Expr) (t:TE):Prop :=
 ∀(pins:List (Addr × Obj)) (s:Shared) (σ:St) (H:Hp) (Q:VK),Inv X pins σ H s→t σ H Q →
  wpAny (model X.prog X.w) X.A (eval a X.env) (fun v s₁=>wpAny (model X.prog X.w) X.A (eval b X.env) (fun u s₂=>wpAny (model X.prog X.w) X.A (compareOp op v u) (EP X pins σ Q) X.xe s₂) X.xe s₁) X.xe s
def tB_b (Q:Bool→Hp→Prop) (x:V) (H1:Hp):Prop:=onB x fun c=>Q c H1
theorem tB_b.ex {Q:Bool→Hp→Prop}{x:V}{H1:Hp}(h:tB_b Q x H1):∃c,x=.bl c∧Q c H1:=onB.ex h
def tB (t:TE):TT:=fun σ H Q=>t σ H (tB_b Q)
theorem pt_cmp {op:CmpOp}{t:TE}(h:PC X op a b t) (h1:behindInMarks op b=false:=by first|exact nobehind _ (by decide) (by decide)|rfl):PT X (.Compare a [op] [b] pos) (tB t):=by
 intro pins s σ H Q I hw
 refine wpAny_isTrue_Compare1 (thn (h pins s σ H _ I hw) fun v s1 h1=>thn h1 fun u s2 h2=>thn h2 fun c s3 ⟨x,H1,I1,r1,q1⟩=>?_) h1
 obtain ⟨d,rfl,q⟩:=tB_b.ex q1
 cases r1
 exact wpAny_truthy_bool ⟨H1,I1,q⟩
theorem pt_val {e:Expr}{t:TE}(h:PE X e t) (he:∀whole,isTrue e X.env whole=(do let v ←whole;standAt e.pos;holding [v] (truthy v)):=by intro _;rfl):PT X e (tB t):=by
 intro pins s σ H Q I hw
 refine isTrue_plain (thn (h pins s σ H _ I hw) fun v s1 ⟨x,H1,I1,r1,q1⟩=>?_) (he _)
 obtain ⟨d,rfl,q⟩:=tB_b.ex q1
 cases r1
 exact wpAny_truthy_bool ⟨H1,I1,q⟩
variable {tA tB':TT}{rest:List Expr}
def tAnd (t u:TT):TT:=fun σ H Q=>t σ H fun c H1=>if c=true then u σ H1 Q else Q false H1
def tOr (t u:TT):TT:=fun σ H Q=>t σ H fun c H1=>if c=true then Q true H1 else u σ H1 Q
def tNot (t:TT):TT:=fun σ H Q=>t σ H fun c H1=>Q (!c) H1
theorem pw_and1 (ha:PT X a tA):PW X (.BoolOp .And [a] pos) tA:=by
 intro wh pins s σ H Q I h
 refine isTrue_and (thn (ha pins s σ H Q I h) fun c s1 e=>?_)
 cases c with
 | true=>exact isTrue_and_nil e
 | false=>exact e
theorem pw_or1 (ha:PT X a tA):PW X (.BoolOp .Or [a] pos) tA:=by
 intro wh pins s σ H Q I h
 refine isTrue_or (thn (ha pins s σ H Q I h) fun c s1 e=>?_)
 cases c with
 | false=>exact isTrue_or_nil e
 | true=>exact e
theorem pw_and (ha:PT X a tA) (hb:PW X (.BoolOp .And (b::rest) pos) tB'):PW X (.BoolOp .And (a::b::rest) pos) (tAnd tA tB'):=by
 intro wh pins s σ H Q I h
 refine isTrue_and (thn (ha pins s σ H _ I h) fun c s1 ⟨H1,I1,q1⟩=>?_)
 cases c with
 | true=>exact hb wh pins s1 σ H1 Q I1 q1
 | false=>exact⟨H1,I1,q1⟩
theorem pw_or (ha:PT X a tA) (hb:PW X (.BoolOp .Or (b::rest) pos) tB'):PW X (.BoolOp .Or (a::b::rest) pos) (tOr tA tB'):=by
 intro wh pins s σ H Q I h
 refine isTrue_or (thn (ha pins s σ H _ I h) fun c s1 ⟨H1,I1,q1⟩=>?_)
 cases c with
 | true=>exact⟨H1,I1,q1⟩
 | false=>exact hb wh pins s1 σ H1 Q I1 q1
theorem pt_not (ha:PT X a tA):PT X (.UnaryOp .Not a pos) (tNot tA):=by
 intro pins s σ H Q I h
 exact isTrue_not (thn (ha pins s σ H (fun c H1=>Q (!c) H1) I h) fun _ _ ⟨H1,I1,q1⟩=>⟨H1,I1,q1⟩)
def tAndV_b (tb:TE) (σ:St) (Q:VK) (x:V) (H1:Hp):Prop:=onB x fun c=>if c=true then tb σ H1 Q else Q (.bl false) H1
theorem tAndV_b.ex {tb:TE}{σ:St}{Q:VK}{x:V}{H1:Hp}(h:tAndV_b tb σ Q x H1):∃c,x=.bl c∧if c=true then tb σ H1 Q else Q (.bl false) H1:=onB.ex h
def tAndV (ta tb:TE):TE:=fun σ H Q=>ta σ H (tAndV_b tb σ Q)
def tNotV_b (Q:VK) (x:V) (H1:Hp):Prop:=onB x fun c=>Q (.bl (!c)) H1
theorem tNotV_b.ex {Q:VK}{x:V}{H1:Hp}(h:tNotV_b Q x H1):∃c,x=.bl c∧Q (.bl (!c)) H1:=onB.ex h
def tNotV (ta:TE):TE:=fun σ H Q=>ta σ H (tNotV_b Q)
theorem pe_one {op}{t:TE}(h:PE X a t):PE X (.BoolOp op [a] pos) t:=fun pins s σ H Q I hw=>BoolOp_one (h pins s σ H Q I hw)
theorem pe_and (ha:PE X a ta) (hb:PE X (.BoolOp .And (b::rest) pos) tb):PE X (.BoolOp .And (a::b::rest) pos) (tAndV ta tb):=by
 intro pins s σ H Q I h
 refine BoolOp_and (thn (ha pins s σ H _ I h) fun v s1 ⟨x,H1,I1,r1,q1⟩=>?_)
 refine L2.ob_ea (tAndV_b.ex q1) fun c e_1 q1=>?_;subst e_1
 cases r1
 refine wpAny_truthy_bool ?_
 cases c with
 | true=>exact hb pins s1 σ H1 Q I1 q1
 | false=>exact⟨.bl false,H1,I1,rfl,q1⟩
theorem pe_not (ha:PE X a ta):PE X (.UnaryOp .Not a pos) (tNotV ta):=by
 intro pins s σ H Q I h
 refine UnaryOp_ (thn (ha pins s σ H _ I h) fun v s1 ⟨x,H1,I1,r1,q1⟩=>?_)
 obtain ⟨c,rfl,q1⟩:=tNotV_b.ex q1
 cases r1
 exact not_of (wpAny_truthy_bool ⟨.bl (!c),H1,I1,rfl,q1⟩)
def tIf (t:TT) (ta tb:TE):TE:=fun σ H Q=>t σ H fun c H1=>if c=true then ta σ H1 Q else tb σ H1 Q
theorem pe_ifExp {c:Expr}(hc:PT X c tA) (ha:PE X a ta) (hb:PE X b tb):PE X (.IfExp c a b pos) (tIf tA ta tb):=by
 intro pins s σ H Q I h
 refine wpAny_IfExp (thn (hc pins s σ H _ I h) fun d s1 ⟨H1,I1,q1⟩=>?_)
 cases d with
 | true=>exact ha pins s1 σ H1 Q I1 q1
 | false=>exact hb pins s1 σ H1 Q I1 q1
end
end L2

namespace L2
open PySem PySem.Spec PyProof.Rows
def SqL (K:PySem.W.Frag) (H:Hp) (a:Addr) (xs:List V):Prop :=
 Rd H a (.lst xs) ∨
  ∃(o:Obj) (its:Array Value) (n:Nat),K.lookup a=some o∧o.cls=.type "list" ∧ o.dict=none∧o.data=.seq its n∧its.size≤sizeLine∧Vals xs its.toList
def SqT (K:PySem.W.Frag) (H:Hp) (a:Addr) (xs:List V):Prop :=
 Rd H a (.tup xs) ∨
  ∃(o:Obj) (its:Array Value) (n:Nat),K.lookup a=some o∧o.cls=.type "tuple" ∧ o.data=.seq its n∧its.size≤sizeLine∧Vals xs its.toList
def absV:Value→Option V
 | .none=>some .non
 | .bool b=>some (.bl b)
 | .int i _=>some (.int i)
 | .str x _=>some (.str x)
 | .bytes b _=>some (.byt b)
 | .float b _=>some (.flt b)
 | .ref a=>some (.ref a)
 | .type n=>some (.ty n)
 | _=>none
theorem RelV.abs {x:V}{u:Value}(r:RelV x u):absV u=some x:=by
 cases x with
 | non=>cases r;rfl
 | bl _=>cases r;rfl
 | int _=>obtain ⟨t,rfl⟩:=r;rfl
 | str _=>obtain ⟨t,rfl⟩:=r;rfl
 | byt _=>obtain ⟨t,rfl⟩:=r;rfl
 | flt _=>obtain ⟨t,rfl⟩:=r;rfl
 | ref _=>cases r;rfl
 | ty _=>cases r;rfl
theorem RelV.inj {x y:V}{u:Value}(r:RelV x u) (q:RelV y u):x=y:=Option.some.inj (r.abs.symm.trans q.abs)
theorem Vals.inj {xs ys:List V}{us:List Value}(h:Vals xs us) (h':Vals ys us):xs=ys:=by
 induction h generalizing ys with
 | nil=>cases h';rfl
 | cons r t ih=>cases h' with
  | cons r' t'=>rw [r.inj r',ih t']
section
variable {X:Cx}{pins:List (Addr × Obj)}{σ:St}{H:Hp}{s:Shared}{a:Addr}{xs ys:List V}
theorem SqL.of {K:PySem.W.Frag}(h:H a=some (.lst xs)):SqL K H a xs:=.inl (.inl h)
theorem SqT.of {K:PySem.W.Frag}(h:H a=some (.tup xs)):SqT K H a xs:=.inl (.inl h)
theorem Inv.list (I:Inv X pins σ H s) (h:SqL X.K H a xs):∃its:List Value,Vals xs its∧PlainL s.heap a its.toArray∧xs.length≤sizeLine:=by
 rcases h with h|⟨o,its,n,hk,hc,hd,hs,hz,r⟩
 ·obtain ⟨z,its,n,r,e⟩:=h.ok I.hok
  exact⟨its,r,⟨_,n,e,rfl,rfl,rfl⟩,z⟩
 ·refine⟨its.toList,r,⟨o,n,I.kIn a o hk,hc,hd,by simpa using hs⟩,?_⟩
  have e:=r.length
  simp only [Array.length_toList] at e
  lia
theorem Inv.tuple (I:Inv X pins σ H s) (h:SqT X.K H a xs):∃its:List Value,Vals xs its∧IsTup s.heap a its.toArray∧xs.length≤sizeLine:=by
 rcases h with h|⟨o,its,n,hk,hc,hs,hz,r⟩
 ·obtain ⟨z,its,r,p⟩:=h.ok I.hok
  exact⟨its,r,p,z⟩
 ·refine⟨its.toList,r,⟨o,I.kIn a o hk,hc,n,by simpa using hs⟩,?_⟩
  have e:=r.length
  simp only [Array.length_toList] at e
  lia
theorem Inv.list_inj (I:Inv X pins σ H s) (h:SqL X.K H a xs) (h':SqL X.K H a ys):xs=ys:=by
 obtain ⟨its,r,⟨o,n,e,_,_,d⟩,_⟩:=I.list h
 obtain ⟨its',r',⟨o',n',e',_,_,d'⟩,_⟩:=I.list h'
 rw [e] at e';cases e'
 rw [d] at d'
 injection d' with d1 _
 have:its=its':=by simpa using congrArg Array.toList d1
 subst this
 exact r.inj r'
theorem Inv.tuple_inj (I:Inv X pins σ H s) (h:SqT X.K H a xs) (h':SqT X.K H a ys):xs=ys:=by
 obtain ⟨its,r,⟨o,e,_,n,d⟩,_⟩:=I.tuple h
 obtain ⟨its',r',⟨o',e',_,n',d'⟩,_⟩:=I.tuple h'
 rw [e] at e';cases e'
 rw [d] at d'
 injection d' with d1 _
 have:its=its':=by simpa using congrArg Array.toList d1
 subst this
 exact r.inj r'
end

section
variable {X:Cx}{pins:List (Addr × Obj)}{σ:St}{H:Hp}{s:Shared}{E:Value→Shared→Prop}
end

section
variable {X:Cx}{st:Stmt}{rest:List Stmt}{t u:TS}{e:Expr}{te:TE}{pos:Pos}
def tNext:TS:=fun D σ H=>D.nx σ H
def tSeq (t u:TS):TS:=fun D σ H=>t (D.nxt (u D)) σ H
theorem pss_nil:PSs X [] tNext:=fun _ _ σ H _ I h=>wpAny_execs_nil ⟨σ,H,I,h⟩
theorem pss_cons (h1:PS X st t) (h2:PSs X rest u):PSs X (st::rest) (tSeq t u):=by
 intro pins s σ H D I h
 refine wpAny_execs_cons (thn (h1 pins s σ H (D.nxt (u D)) I h) fun f s1 q=>?_)
 cases f with
 | next =>
  obtain ⟨σ',H',I',q⟩:=q
  exact h2 pins s1 σ' H' D I' q
 | ret v=>exact q
 | brk=>exact q
 | cont=>exact q
theorem pss_one (h1:PS X st t):PSs X [st] t:=by
 intro pins s σ H D I h
 refine wpAny_execs_cons (thn (h1 pins s σ H D I h) fun f s1 q=>?_)
 cases f with
 | next=>exact wpAny_execs_nil q
 | ret v=>exact q
 | brk=>exact q
 | cont=>exact q
theorem Inv.quiet {pins:List (Addr × Obj)}{σ:St}{H:Hp}{s:Shared}(I:Inv X pins σ H s):interactive X.env=false:=by simp [interactive,I.ok.kind]
def tDrop (te:TE):TS:=fun D σ H=>te σ H fun _ H1=>D.nx σ H1
theorem ps_expr (he:PE X e te) (hs:swapsWith e none pos.line X.env=pure false:=by rfl):PS X (.Expr e pos) (tDrop te):=by
 intro pins s σ H D I h
 exact wpAny_Expr_any (thn (he pins s σ H _ I h) fun v s1 ⟨x,H1,I1,r1,q1⟩=>⟨σ,H1,I1,q1⟩) I.quiet hs
def tRet (te:TE):TS:=fun D σ H=>te σ H D.rt
theorem ps_ret (he:PE X e te):PS X (.Return (some e) pos) (tRet te):=by
 intro pins s σ H D I h
 exact wpAny_Return_some (thn (he pins s σ H _ I h) fun v s1 ⟨x,H1,I1,r1,q1⟩=>⟨x,σ,H1,I1,r1,q1⟩)
def tIfS (c:TT) (t u:TS):TS:=fun D σ H=>c σ H fun b H1=>if b=true then t D σ H1 else u D σ H1
theorem ps_if {c:Expr}{a b:List Stmt}{tc:TT}(hc:PT X c tc) (ha:PSs X a t) (hb:PSs X b u):PS X (.If c a b pos) (tIfS tc t u):=by
 intro pins s σ H D I h
 refine wpAny_If (thn (hc pins s σ H _ I h) fun d s1 ⟨H1,I1,q1⟩=>?_)
 cases d with
 | true=>exact ha pins s1 σ H1 D I1 q1
 | false=>exact hb pins s1 σ H1 D I1 q1
end

abbrev TG:=V→St→Hp→(St→Hp→Prop)→Prop
abbrev TGs:=List V→St→Hp→(St→Hp→Prop)→Prop
def PG (X:Cx) (target:Expr) (t:TG):Prop :=
 ∀(pins:List (Addr × Obj)) (s:Shared) (σ:St) (H:Hp) (v:V) (u:Value) (Q:St→Hp→Prop),Inv X pins σ H s→RelV v u→t v σ H Q →
  wpAny (model X.prog X.w) X.A (assign target X.env u) (fun _ s'=>SN X pins (Q) s') X.xe s
def PGs (X:Cx) (ts:List Expr) (t:TGs):Prop :=
 ∀(pins:List (Addr × Obj)) (s:Shared) (σ:St) (H:Hp) (vs:List V) (us:List Value) (Q:St→Hp→Prop),Inv X pins σ H s→Vals vs us→t vs σ H Q →
  wpAny (model X.prog X.w) X.A (assignInOrder ((assignEach ts X.env).map (·.2)) us) (fun _ s'=>SN X pins (Q) s') X.xe s
abbrev TSet:=V→V→V→Hp→(Hp→Prop)→Prop
def PSet (X:Cx) (t:TSet):Prop :=
 ∀(pins:List (Addr × Obj)) (s:Shared) (σ:St) (H:Hp) (o i v:V) (ov iv u:Value) (Q:Hp→Prop),Inv X pins σ H s→RelV o ov→RelV i iv→RelV v u→t o i v H Q →
  wpAny (model X.prog X.w) X.A (setItem ov iv u) (fun _ s'=>∃H',Inv X pins σ H' s'∧Q H') X.xe s
section
variable {X:Cx}{pos:Pos}
def gName (i:Nat):TG:=fun v σ H Q=>Q (σ.set i (some v)) H
theorem pg_name {i:Nat}{x:Str}(hN:X.N.Nodup) (hi:X.N[i]? = some x) (hx:Loc X.env.scope x) (hf:X.fn x=true∨X.env.scope.names.lookup x=some .local:=by first|exact .inl rfl|exact .inr rfl|assumption):PG X (.Name x pos) (gName i):=by
 intro pins s σ H v u Q I r h
 exact wpAny_assign_Name (store_ok I hN hi hx r (fun s' I'=>⟨_,H,I',h⟩) hf)
def gNil:TGs:=fun vs σ H Q=>onN vs (Q σ H)
theorem gNil.ex {vs:List V}{σ:St}{H:Hp}{Q:St→Hp→Prop}(h:gNil vs σ H Q):vs=[]∧Q σ H:=onN.ex h
def gCons (t:TG) (u:TGs):TGs:=fun vs σ H Q=>onL vs fun v r=>t v σ H fun σ' H'=>u r σ' H' Q
theorem gCons.ex {t:TG}{u:TGs}{vs:List V}{σ:St}{H:Hp}{Q:St→Hp→Prop}(h:gCons t u vs σ H Q):∃v r,vs=v::r∧t v σ H fun σ' H'=>u r σ' H' Q:=onL.ex h
theorem pgs_nil:PGs X [] gNil:=by
 intro pins s σ H vs us Q I r h
 obtain ⟨e,h⟩:=gNil.ex h
 subst e
 cases r
 exact assignInOrder_nil ⟨σ,H,I,h⟩
theorem pgs_cons {e:Expr}{es:List Expr}{t:TG}{u:TGs}(h1:PG X e t) (h2:PGs X es u)
  (hs:(assignEach (e::es) X.env).map (·.2)=assign e X.env::(assignEach es X.env).map (·.2):=by rfl):PGs X (e::es) (gCons t u):=by
 intro pins s σ H vs us Q I r h
 refine L2.ob_eea (gCons.ex h) fun v vr e1 h=>?_
 subst e1
 cases r with
 | cons r rr =>
  rw [hs]
  refine assignInOrder_cons (thn (h1 pins s σ H _ _ _ I r h) fun _ s1 ⟨σ1,H1,I1,q1⟩=>?_)
  exact h2 pins s1 σ1 H1 _ _ Q I1 rr q1
inductive gTup (K:PySem.W.Frag) (n:Nat) (t:TGs) (v:V) (σ:St) (H:Hp) (Q:St→Hp→Prop):Prop
 | mk:∀a xs,(v=.ref a)→(SqT K H a xs)→(xs.length=n)→(t xs σ H Q)→gTup K n t v σ H Q
theorem pg_tup {es:List Expr}{k:Nat}{t:TGs}{n:Nat}(hc:X.calm=true) (h:PGs X es t)
  (hn:(assignEach es X.env).length=n:=by rfl) (hst:(assignEach es X.env).findIdx? (·.1)=none:=by rfl):PG X (.Tuple es k pos) (gTup X.K n t):=by
 intro pins s σ H v u Q I r hw
 obtain ⟨a,xs,e1,hq,hl,hw⟩:=hw
 subst e1
 cases r
 refine L2.ob_eaa (I.tuple hq) fun its rv ht hz=>?_
 refine assign_Tuple_tuple (I.ok.hd hc) ht (by simp [hn,←hl,rv.length]) hst fun h' hx=>?_
 have I1:Inv X pins σ H { s with heap:=h' }:=I.kept (t':=s.toks) fun b o e=>hx b o (Nat.ne_of_lt (Heap.lt_size e)) e
 exact h pins _ σ H xs _ Q I1 (by simpa using rv) hw
def gSub (to ti:TE) (t:TSet):TG:=fun v σ H Q=>to σ H fun o H1=>ti σ H1 fun i H2=>t o i v H2 fun H3=>Q σ H3
theorem pg_sub {o i:Expr}{to ti:TE}{t:TSet}(ho:PE X o to) (hi:PE X i ti) (hs:PSet X t)
  (ha:∀v,assign (.Subscript o i pos) X.env v=(do
   let ov ←holding [v] (eval o X.env)
   let iv ←holding [v,ov] (eval i X.env)
   standAt pos
   holding [v,ov,iv] (setItem ov iv v)
   release [v,ov,iv] []):=by intro _;rfl):PG X (.Subscript o i pos) (gSub to ti t):=by
 intro pins s σ H v u Q I r h
 rw [ha]
 refine wpAny_bind (wpAny_holding (thn (ho pins s σ H _ I h) fun ov s1 ⟨x,H1,I1,r1,q1⟩=>?_))
 refine wpAny_bind (wpAny_holding (thn (hi pins s1 σ H1 _ I1 q1) fun iv s2 ⟨y,H2,I2,r2,q2⟩=>?_))
 refine wpAny_bind (wpAny_standAt (wpAny_bind (wpAny_holding (thn (hs pins s2 σ H2 x y v ov iv u _ I2 r1 r2 r q2) fun _ s3 ⟨H3,I3,q3⟩=>?_))))
 exact wpAny_release ⟨σ,H3,I3,q3⟩
def tAsg (te:TE) (g:TG):TS:=fun D σ H=>te σ H fun x H1=>g x σ H1 D.nx
theorem ps_asg {tg e:Expr}{te:TE}{g:TG}(he:PE X e te) (hg:PG X tg g) (hs:swapsWithSole [tg] e pos.line X.env=pure false:=by rfl) (hw:swappedStores [tg] e X.env=pure none:=by rfl)
  (h1:(assignEach [tg] X.env).map (·.2)=[assign tg X.env]:=by rfl):PS X (.Assign [tg] e pos) (tAsg te g):=by
 intro pins s σ H D I h
 refine wpAny_Assign_stores (thn (he pins s σ H _ I h) fun v s1 ⟨x,H1,I1,r1,q1⟩=>?_) hs hw
 rw [h1]
 exact thn (hg pins s1 σ H1 x v _ I1 r1 q1) fun _ s2 q=>q
theorem ps_set {i:Nat}{x:Str}{e:Expr}{te:TE}{pos':Pos}(hN:X.N.Nodup) (hi:X.N[i]? = some x) (hx:Loc X.env.scope x) (he:PE X e te) (hs:swapsWith e (some (.Name x pos')) pos.line X.env=pure false:=by rfl) (hf:X.fn x=true∨X.env.scope.names.lookup x=some .local:=by first|exact .inl rfl|exact .inr rfl|assumption) :
  PS X (.Assign [.Name x pos'] e pos) (tAsg te (gName i)):=by
 intro pins s σ H D I h
 refine wpAny_Assign_Name (thn (he pins s σ H _ I h) fun v s1 ⟨y,H1,I1,r1,q1⟩=>?_) hs
 exact store_ok I1 hN hi hx r1 (fun s2 I2=>⟨_,H1,I2,q1⟩) hf
end

section
variable {X:Cx}{pos:Pos}
end

structure It where
 go:Nat→Hp→Prop
 yld:Nat→Hp→V→Hp→Prop
 stop:Nat→Hp→Prop
def FpOk (X:Cx) (pins:List (Addr × Obj)) (H:Hp) (b:Addr):Prop :=
 H b=none∧b≠X.env.locals∧b ∉ X.fs∧(b∈X.ex∨X.s₀.heap.objs.size≤b)∧(∀x c,X.env.cells.lookup x=some c→c≠b)∧∀p∈X.pn++pins,p.1≠b
theorem Inv.fpOk {X:Cx}{pins:List (Addr × Obj)}{σ:St}{H H':Hp}{s:Shared}{b:Addr}(I:Inv X pins σ H s) (hb:s.heap.objs.size≤b) (hn:H' b=none):FpOk X pins H' b:=by
 refine⟨hn,Nat.ne_of_gt (Nat.lt_of_lt_of_le I.lt hb),I.nofs hb,.inr (Nat.le_trans I.sz hb),fun x c e z=>?_,fun p hp z=>?_⟩
 ·obtain ⟨v,q⟩:=I.cell x c e
  exact absurd (Nat.lt_of_lt_of_le q.lt (by rw [z];exact hb)) (Nat.lt_irrefl _)
 ·exact absurd (Nat.lt_of_lt_of_le (Heap.lt_size (I.pin p hp).1) (by rw [z];exact hb)) (Nat.lt_irrefl _)
inductive TIt (X:Cx) (pins:List (Addr × Obj)) (σ:St) (u:Value) (J:It) (i:Nat) (H:Hp) (fp:List Addr) (tn:Nat→Heap→Prop) (s2:Shared):Prop
 | mk:∀x H',Inv X pins σ H' s2→RelV x u→J.yld i H x H'→tn (i+1) s2.heap→(∀b∈fp,H' b=none)→TIt X pins σ u J i H fp tn s2
structure Turn (P:Program) (w:World) (K:PySem.W.Frag) (tg:Expr) (J:It) (fp:List Addr) (it:Addr) (tn:Nat→Heap→Prop):Prop where
 mem:it∈fp
 obj:∀i h,tn i h→∀b∈fp,∃o,h.get? b=some o∧∀v,o.data ≠ .cell v
 keep:∀i h h',tn i h→(∀b∈fp,∀o,h.get? b=some o→h'.get? b=some o)→tn i h'
 item:∀(X:Cx),X.prog=P→X.w=w→X.K=K→X.calm=true→∀(i:Nat) (pins:List (Addr × Obj)) (s:Shared) (σ:St) (H:Hp) (E:Value→Shared→Prop),Inv X pins σ H s→(∀b∈fp,FpOk X pins H b)→tn i s.heap→J.go i H →
  wpAny (model P w) X.A (pyNext (.ref it)) (fun r s1=>∃u,r=some u ∧
   wpAny (model P w) X.A (letOwnedTupleGo tg (.ref it) u) (fun _ s2=>TIt X pins σ u J i H fp tn s2) E s1) E s
 done:∀(X:Cx),X.prog=P→X.w=w→X.K=K→X.calm=true→∀(i:Nat) (pins:List (Addr × Obj)) (s:Shared) (σ:St) (H:Hp) (E:Value→Shared→Prop),Inv X pins σ H s→(∀b∈fp,FpOk X pins H b)→tn i s.heap→J.stop i H →
  wpAny (model P w) X.A (pyNext (.ref it)) (fun r s1=>r=none∧Inv X pins σ H s1) E s
 self:∀(A:Around) (i:Nat) (s:Shared) (Q:Value→Shared→Prop) (E:Value→Shared→Prop),tn i s.heap→Q (.ref it) s→wpAny (model P w) A (pyIter (.ref it)) Q E s
abbrev TI:=St→Hp→(It→Hp→Prop)→Prop
inductive PIE (X:Cx) (pins:List (Addr × Obj)) (σ:St) (tg:Expr) (R:It→Hp→Prop) (itv:Value) (s2:Shared)  : Prop
 | mk:∀(it:Addr) (fp:List Addr) (tn:Nat→Heap→Prop) (J:It) (H':Hp),(itv=.ref it)→(Inv X pins σ H' s2)→(Turn X.prog X.w X.K tg J fp it tn)→(tn 0 s2.heap)→((∀b∈fp,FpOk X pins H' b))→(R J H')→PIE X pins σ tg R itv s2
def PI (X:Cx) (tg iter:Expr) (wi:TI):Prop :=
 ∀(pins:List (Addr × Obj)) (s:Shared) (σ:St) (H:Hp) (R:It→Hp→Prop),Inv X pins σ H s→wi σ H R →
  wpAny (model X.prog X.w) X.A (eval iter X.env) (fun v s1=>wpAny (model X.prog X.w) X.A (pyIter v) (PIE X pins σ tg R) X.xe s1) X.xe s
theorem go_of {M:Model}{A:Around}{E:Value→Shared→Prop}{s:Shared}{tg:Expr}{it:Addr}{u:Value}{o:Obj}{n:String}{vs:Array Value}{Q:Unit→Shared→Prop}(ho:s.heap.get? it=some o) (hc:o.cls=.type n) (hd:o.data=.fields vs)
    (hn:["enumerate", "zip", "dict_itemiterator", "dict_reverseitemiterator", "odict_iterator", "itertools.zip_longest", "itertools.pairwise"].contains n=false) (hQ:Q () s):wpAny M A (letOwnedTupleGo tg (.ref it) u) Q E s:=by
  unfold letOwnedTupleGo
  cases tg <;> first
    | exact wpAny_pure hQ
    | (cases u <;> first
        | exact wpAny_pure hQ
        | (refine wpAny_bind (wpAny_load ho ?_)
           rw [hc,hd]
           show wpAny M A (if (["enumerate", "zip", "dict_itemiterator", "dict_reverseitemiterator", "odict_iterator", "itertools.zip_longest", "itertools.pairwise"].contains n && vs[0]? == some (rawInt _))=true then _ else _) Q E s
           rw [if_neg (by intro h;rw [hn,Bool.false_and] at h;cases h)]
           exact wpAny_pure hQ))
def Itl (K:PySem.W.Frag) (a:Addr):It :=
 ⟨fun i H=>∃xs x,SqL K H a xs∧xs[i]? = some x,fun i H x H'=>H'=H∧∀xs,SqL K H a xs→xs[i]? = some x,fun i H=>∃xs,SqL K H a xs∧xs.length≤i⟩
def Itt (K:PySem.W.Frag) (a:Addr):It :=
 ⟨fun i H=>∃xs x,SqT K H a xs∧xs[i]? = some x,fun i H x H'=>H'=H∧∀xs,SqT K H a xs→xs[i]? = some x,fun i H=>∃xs,SqT K H a xs∧xs.length≤i⟩
def Itr (lo:Int) (n:Nat):It:=⟨fun i _=>i<n,fun i H x H'=>H'=H∧x=.int (lo+i),fun i _=>n≤i⟩
theorem turn_list {P:Program}{w:World}{K:PySem.W.Frag}{tg:Expr}(a it:Addr):Turn P w K tg (Itl K a) [it] it (fun i h=>h.IsListIter it a i) where
 mem:=by simp
 obj:=fun i h st b hb=>by
  have e:b=it:=by simpa using hb
  subst e
  obtain ⟨o,e,c,d⟩:=st
  exact⟨o,e,fun v z=>by rw [d] at z;cases z⟩
 keep:=fun i h h' st k=>st.at fun o e=>k it (by simp) o e
 item:=by
  intro X hP hw hK hc i pins s σ H E I hf st hg
  subst hP hw hK
  obtain ⟨xs,x,hq,hx⟩:=hg
  refine L2.ob_eaa (I.list hq) fun its rv p hz=>?_
  refine L2.ob_ea (rv.get hx) fun u hu ru=>?_
  obtain ⟨f0,f1,f2,f3,f4,f5⟩:=hf it (by simp)
  refine wpAny_pyNext_list_item st p.isList (x:=u) (by simpa using hu) fun h' st' sb=>?_
  have I1:Inv X pins σ H { s with heap:=h' }:=I.turned (t':=s.toks) (fun b o hb e=>(sb.2 b hb).trans e) f0 f1 f3 f4 f5
  obtain ⟨o,e,c,d⟩:=id st'
  exact⟨u,rfl,go_of (s:={ s with heap:=h' }) e c d (by decide) ⟨x,H,I1,ru,⟨rfl,fun ys hy=>by rw [I.list_inj hy hq];exact hx⟩,st',fun b hb=>(hf b hb).1⟩⟩
 done:=by
  intro X hP hw hK hc i pins s σ H E I hf st hg
  subst hP hw hK
  obtain ⟨xs,hq,hx⟩:=hg
  refine L2.ob_eaa (I.list hq) fun its rv p hz=>?_
  obtain ⟨f0,f1,f2,f3,f4,f5⟩:=hf it (by simp)
  have hl:=rv.length
  exact wpAny_pyNext_list_end (I.ok.hd hc) st p.isList (by simp;lia) fun h' eb=>⟨rfl,I.turned (t':=s.toks) (fun b o hb e=>eb b o hb e) f0 f1 f3 f4 f5⟩
 self:=fun _ _ _ _ _ st h=>wpAny_pyIter_listiter st h
theorem turn_tuple {P:Program}{w:World}{K:PySem.W.Frag}{tg:Expr}(a it:Addr):Turn P w K tg (Itt K a) [it] it (fun i h=>h.IsTupleIter it a i) where
 mem:=by simp
 obj:=fun i h st b hb=>by
  have e:b=it:=by simpa using hb
  subst e
  obtain ⟨o,e,c,d⟩:=st
  exact⟨o,e,fun v z=>by rw [d] at z;cases z⟩
 keep:=fun i h h' st k=>st.at fun o e=>k it (by simp) o e
 item:=by
  intro X hP hw hK hc i pins s σ H E I hf st hg
  subst hP hw hK
  obtain ⟨xs,x,hq,hx⟩:=hg
  refine L2.ob_eaa (I.tuple hq) fun its rv p hz=>?_
  refine L2.ob_ea (rv.get hx) fun u hu ru=>?_
  obtain ⟨f0,f1,f2,f3,f4,f5⟩:=hf it (by simp)
  refine wpAny_pyNext_tuple_item st (show s.heap.IsTuple a its.toArray from p) (x:=u) (by simpa using hu) fun h' st' sb=>?_
  have I1:Inv X pins σ H { s with heap:=h' }:=I.turned (t':=s.toks) (fun b o hb e=>(sb.2 b hb).trans e) f0 f1 f3 f4 f5
  obtain ⟨o,e,c,d⟩:=id st'
  exact⟨u,rfl,go_of (s:={ s with heap:=h' }) e c d (by decide) ⟨x,H,I1,ru,⟨rfl,fun ys hy=>by rw [I.tuple_inj hy hq];exact hx⟩,st',fun b hb=>(hf b hb).1⟩⟩
 done:=by
  intro X hP hw hK hc i pins s σ H E I hf st hg
  subst hP hw hK
  obtain ⟨xs,hq,hx⟩:=hg
  refine L2.ob_eaa (I.tuple hq) fun its rv p hz=>?_
  obtain ⟨f0,f1,f2,f3,f4,f5⟩:=hf it (by simp)
  have hl:=rv.length
  exact wpAny_pyNext_tuple_end (I.ok.hd hc) st (show s.heap.IsTuple a its.toArray from p) (by simp;lia) fun h' eb=>⟨rfl,I.turned (t':=s.toks) (fun b o hb e=>eb b o hb e) f0 f1 f3 f4 f5⟩
 self:=fun _ _ _ _ _ st h=>wpAny_pyIter_tupleiter st h
theorem turn_range {P:Program}{w:World}{K:PySem.W.Frag}{tg:Expr}(it:Addr) (lo:Int) (n:Nat):Turn P w K tg (Itr lo n) [it] it (fun i h=>IsRangeIter h it (lo+(i:Nat)*1) ((n:Int) - (i:Nat)) 1) where
 mem:=by simp
 obj:=fun i h st b hb=>by
  have e:b=it:=by simpa using hb
  subst e
  exact⟨_,st,fun v z=>by
   have z':Data.fields _=Data.cell v:=z
   cases z'⟩
 keep:=fun i h h' st k=>k it (by simp) _ st
 item:=by
  intro X hP hw hK hc i pins s σ H E I hf st hg
  subst hP hw hK
  obtain ⟨f0,f1,f2,f3,f4,f5⟩:=hf it (by simp)
  have W:=Walks.range (prog:=X.prog) (w:=X.w) (I.ok.hd hc) it lo 1 n
  refine W.item i s _ _ hg st fun v h' tk hv st' kk=>?_
  obtain ⟨t,rfl⟩:=hv
  have I1:Inv X pins σ H { s with heap:=h',toks:=tk }:=I.turned (fun b o hb e=>kk b o (by simpa using hb) e) f0 f1 f3 f4 f5
  refine⟨_,rfl,go_of (s:={ s with heap:=h',toks:=tk }) (n := "range_iterator") st' rfl rfl (by decide) ⟨.int (lo+i),H,I1,⟨t,?_⟩,⟨rfl,rfl⟩,st',fun b hb=>(hf b hb).1⟩⟩
  rw [Int.mul_one]
 done:=by
  intro X hP hw hK hc i pins s σ H E I hf st hg
  subst hP hw hK
  obtain ⟨f0,f1,f2,f3,f4,f5⟩:=hf it (by simp)
  exact wpAny_pyNext_range_end (I.ok.hd hc) st (by have:n≤i:=hg;lia) fun h' eb=>⟨rfl,I.turned (t':=s.toks) (fun b o hb e=>eb b o hb e) f0 f1 f3 f4 f5⟩
 self:=fun _ _ _ _ _ st h=>wpAny_pyIter_rangeiter st h
end L2

namespace L2
open PySem PySem.Spec PyProof.Rows
section
variable {X:Cx}{tg:Expr}
inductive iList_b (K:PySem.W.Frag) (R:It→Hp→Prop) (x:V) (H1:Hp):Prop
 | mk:∀a,(x=.ref a)→((∃xs,SqL K H1 a xs))→(R (Itl K a) H1)→iList_b K R x H1
def iList (K:PySem.W.Frag) (tl:TE):TI:=fun σ H R=>tl σ H fun x H1=>iList_b K R x H1
inductive iTup_b (K:PySem.W.Frag) (R:It→Hp→Prop) (x:V) (H1:Hp):Prop
 | mk:∀a,(x=.ref a)→((∃xs,SqT K H1 a xs))→(R (Itt K a) H1)→iTup_b K R x H1
def iTup (K:PySem.W.Frag) (tl:TE):TI:=fun σ H R=>tl σ H fun x H1=>iTup_b K R x H1
theorem pi_list {l:Expr}{tl:TE}(hl:PE X l tl):PI X tg l (iList X.K tl):=by
 intro pins s σ H R I h
 refine thn (hl pins s σ H _ I h) fun v s1 ⟨x,H1,I1,r1,q1⟩=>?_
 obtain ⟨a,e,⟨xs,hq⟩,q⟩:=q1
 subst e
 cases r1
 obtain ⟨its,rv,p,hz⟩:=I1.list hq
 refine wpAny_pyIter_list p.isList ?_
 refine⟨s1.heap.objs.size,[s1.heap.objs.size],_,_,H1,rfl,I1.kept (t':=s1.toks) fun b o e=>Heap.get?_push_of_some _ e,turn_list a _,⟨_,Heap.get?_push_size _ rfl,rfl,rfl⟩,fun b hb=>?_,q⟩
 have e:b=s1.heap.objs.size:=by simpa using hb
 subst e
 exact I1.fpOk (Nat.le_refl _) (I1.hok.fresh (Nat.le_refl _))
theorem pi_tup {l:Expr}{tl:TE}(hl:PE X l tl):PI X tg l (iTup X.K tl):=by
 intro pins s σ H R I h
 refine thn (hl pins s σ H _ I h) fun v s1 ⟨x,H1,I1,r1,q1⟩=>?_
 obtain ⟨a,e,⟨xs,hq⟩,q⟩:=q1
 subst e
 cases r1
 obtain ⟨its,rv,p,hz⟩:=I1.tuple hq
 refine wpAny_pyIter_tuple (show s1.heap.IsTuple a its.toArray from p) ?_
 refine⟨s1.heap.objs.size,[s1.heap.objs.size],_,_,H1,rfl,I1.kept (t':=s1.toks) fun b o e=>Heap.get?_push_of_some _ e,turn_tuple a _,⟨_,Heap.get?_push_size _ rfl,rfl,rfl⟩,fun b hb=>?_,q⟩
 have e:b=s1.heap.objs.size:=by simpa using hb
 subst e
 exact I1.fpOk (Nat.le_refl _) (I1.hok.fresh (Nat.le_refl _))
theorem range_it {pins:List (Addr × Obj)}{σ:St}{H:Hp}{s:Shared}{R:It→Hp→Prop}{E:Value→Shared→Prop}{lo hi:Int}{t u v:Tok}{tk:Nat}(I:Inv X pins σ H s) (h1:-(2 ^ 62)≤lo) (h2:lo<2 ^ 62) (h3:-(2 ^ 62)≤hi) (h4:hi<2 ^ 62)
  (q:R (Itr lo (hi - lo).toNat) H):wpAny (model X.prog X.w) X.A (pyIter (.ref s.heap.objs.size)) (PIE X pins σ tg R) E { s with heap:=s.heap.push { cls:=.type "range", data:=.fields #[.int lo t,.int hi u,.int 1 v] },toks:=tk }:=by
 refine wpAny_pyIter_range (IsRange.new ..) (small_one h1 h2 h3 h4) ?_
 have I1:Inv X pins σ H { s with heap:=s.heap.push { cls:=.type "range", data:=.fields #[.int lo t,.int hi u,.int 1 v] },toks:=tk }:=I.kept fun b o e=>Heap.get?_push_of_some _ e
 refine⟨(s.heap.push { cls:=.type "range", data:=.fields #[.int lo t,.int hi u,.int 1 v] }).objs.size,[(s.heap.push { cls:=.type "range", data:=.fields #[.int lo t,.int hi u,.int 1 v] }).objs.size],_,_,H,rfl,
  I1.kept (t':=tk) fun b o e=>Heap.get?_push_of_some _ e,turn_range _ lo (hi - lo).toNat,?_,fun b hb=>?_,q⟩
 ·have e1:lo+((0:Nat):Int)*1=lo:=by simp
  have e2:(((hi - lo).toNat:Nat):Int) - ((0:Nat):Int)=Builtin.Range.rangeSize lo hi 1:=by rw [rangeSize_one];split <;> lia
  show IsRangeIter _ _ (lo+((0:Nat):Int)*1) ((((hi - lo).toNat:Nat):Int) - ((0:Nat):Int)) 1
  rw [e1,e2]
  exact Heap.get?_push_size _ rfl
 ·have e:b=(s.heap.push { cls:=.type "range", data:=.fields #[.int lo t,.int hi u,.int 1 v] }).objs.size:=by simpa using hb
  subst e
  exact I1.fpOk (Nat.le_refl _) (I1.hok.fresh (Nat.le_refl _))
inductive iRng1_b (R:It→Hp→Prop) (vs:List V) (H1:Hp):Prop
 | mk:∀j:Int,(vs=[.int j])→(-(2 ^ 62)≤j)→(j<2 ^ 62)→(R (Itr 0 j.toNat) H1)→iRng1_b R vs H1
def iRng1 (ta:TA):TI:=fun σ H R=>ta σ H fun vs H1=>iRng1_b R vs H1
theorem pi_range1 {a:Expr}{ta:TA}{p pos:Pos}(hg:Gl X "range") (hm:X.mg "range" = none) (ha:PA X [a] ta) (hs:starEach [a] X.env=[(false,eval a X.env)]:=by rfl):PI X tg (.Call (.Name "range" p) [a] [] pos) (iRng1 ta):=by
 intro pins s σ H R I h
 refine Call_ (ld_blt I hg hm boot_range (PyProof.Rows.callWith_type1 (thn (ha pos pins s σ H _ I h) fun us s1 ⟨vs,H1,I1,r1,q1⟩=>?_) hs rfl))
 obtain ⟨j,e,q1,q2,q⟩:=q1
 subst e
 cases r1 with
 | cons r rr =>
  cases rr
  obtain ⟨t,rfl⟩:=r
  exact call_range_1 (range_it I1 (by exact Int.natCast_nonneg _) (by exact Int.natCast_nonneg _) q1 q2 (by simpa using q))
def tFor (wi:TI) (g:TG) (tb:TS):TS:=fun D σ H=>wi σ H fun J H1=>∃W:Nat→Nat→St→Hp→Prop,(∃m,W 0 m σ H1)∧∀i m σ H,W i m σ H →
 (J.stop i H∧D.nx σ H)∨(J.go i H∧∃N:St→Hp→Prop,(∀σ' H',N σ' H'→∃m',m'<m∧W (i+1) m' σ' H')∧∀x H',J.yld i H x H'→g x σ H' fun σ2 H2=>tb (D.lp (N)) σ2 H2)
def pinsAt (fp:List Addr) (h:Heap):List (Addr × Obj):=fp.filterMap fun b=>(h.get? b).map fun o=>(b,o)
theorem mem_pinsAt {fp:List Addr}{h:Heap}{b:Addr}{o:Obj}(hb:b∈fp) (e:h.get? b=some o):(b,o)∈pinsAt fp h:=List.mem_filterMap.mpr ⟨b,hb,by rw [e];rfl⟩
theorem of_pinsAt {fp:List Addr}{h:Heap}{p:Addr × Obj}(hp:p∈pinsAt fp h):p.1∈fp∧h.get? p.1=some p.2:=by
 obtain ⟨b,hb,e⟩:=List.mem_filterMap.mp hp
 cases q:h.get? b with
 | none=>rw [q] at e;cases e
 | some o =>
  rw [q] at e
  have e':(b,o)=p:=Option.some.inj e
  subst e'
  exact⟨hb,q⟩
theorem Inv.pinned {pins:List (Addr × Obj)}{σ:St}{H:Hp}{s:Shared}{fp:List Addr}(I:Inv X pins σ H s) (hf:∀b∈fp,FpOk X pins H b) (ho:∀b∈fp,∃o,s.heap.get? b=some o∧∀v,o.data ≠ .cell v):Inv X (pins++pinsAt fp s.heap) σ H s :=
 I.pins_of fun p hp=>(List.mem_append.mp hp).elim (fun z=>I.pin p (List.mem_append_right _ z)) fun z=>by
  obtain ⟨hb,e⟩:=of_pinsAt z
  obtain ⟨f0,f1,f2,_⟩:=hf p.1 hb
  refine L2.ob_ea (ho p.1 hb) fun o e' d=>?_
  rw [e] at e';obtain rfl:=Option.some.inj e'
  exact⟨e,f0,f1,f2,d⟩
theorem Inv.unpinned {pins pl:List (Addr × Obj)}{σ:St}{H:Hp}{s:Shared}(I:Inv X (pins++pl) σ H s):Inv X pins σ H s:=I.pins_of fun p hp=>I.pin p (List.mem_append_right _ (List.mem_append_left _ hp))
inductive FL (X:Cx) (pins:List (Addr × Obj)) (fp:List Addr) (tn:Nat→Heap→Prop) (W:Nat→Nat→St→Hp→Prop) (n:Nat) (s':Shared):Prop
 | mk:∀i σ' H',Inv X pins σ' H' s'→tn i s'.heap→(∀b∈fp,H' b=none)→W i n σ' H'→FL X pins fp tn W n s'
theorem ps_for {iter:Expr}{body:List Stmt}{wi:TI}{g:TG}{tb:TS}{pos:Pos}(hp:PassesOwn (model X.prog X.w) X.A X.env X.xe) (hc:X.calm=true) (hi:PI X tg iter wi) (hg:PG X tg g) (hb:PSs X body tb)
  (hs:∀x,foldedSetIterable iter X.env x=pure x:=by intro _;rfl):PS X (.For tg iter body [] pos) (tFor wi g tb):=by
 intro pins s σ H D I h
 refine wpAny_For (thn (hi pins s σ H _ I h) fun v s1 h1=>thn h1 fun itv s2 h2=>?_) hs
 obtain ⟨it,fp,tn,J,H2,e,I2,T,st2,f2,W,⟨m0,w0⟩,turn⟩:=h2
 subst e
 -- what stays true of the iterator's objects through the loop
 have stat:∀{H':Hp},(∀b∈fp,H' b=none)→∀b∈fp,FpOk X pins H' b:=fun hn b hb=>⟨hn b hb,(f2 b hb).2⟩
 refine codeAny_forLoop_any (FL X pins fp tn W) ?_ m0 ⟨0,σ,H2,I2,st2,fun b hb=>(f2 b hb).1,w0⟩
 rintro n s3 ⟨i,σ3,H3,I3,st3,fr3,w3⟩
 rcases turn i n σ3 H3 w3 with ⟨stop,qn⟩|⟨go,N,hN,step⟩
 ·refine wpAny_passesOwn hp (thn (T.done X rfl rfl rfl hc i pins s3 σ3 H3 X.xe I3 (stat fr3) st3 stop) fun r s4 ⟨hr,I4⟩=>?_)
  subst hr
  exact wpAny_execs_nil ⟨σ3,H3,I4,qn⟩
 ·refine wpAny_passesOwn hp (thn (T.item X rfl rfl rfl hc i pins s3 σ3 H3 X.xe I3 (stat fr3) st3 go) fun r s4 ⟨u,hr,h4⟩=>?_)
  subst hr
  refine wpAny_passesOwn hp (thn h4 fun _ s5 ⟨x,H5,I5,r5,y5,st5,fr5⟩=>?_)
  have I5':=I5.pinned (stat fr5) (T.obj _ _ st5)
  refine wpAny_passesOwn hp (thn (hg _ s5 σ3 H5 x u _ I5' r5 (step x H5 y5)) fun _ s6 ⟨σ6,H6,I6,q6⟩=>?_)
  refine wpAny_passesOwn hp (thn (hb _ s6 σ6 H6 _ I6 q6) fun f s7 q7=>?_)
  have again:∀{σ7:St}{H7:Hp},Inv X (pins++pinsAt fp s5.heap) σ7 H7 s7→N σ7 H7→∃m,m<n∧FL X pins fp tn W m s7:=fun {σ7 H7} I7 n7=>by
   obtain ⟨m',hm,w7⟩:=hN σ7 H7 n7
   refine⟨m',hm,i+1,σ7,H7,I7.unpinned,T.keep _ _ _ st5 fun b hb o e=>(I7.pin (b,o) (List.mem_append_right _ (List.mem_append_right _ (mem_pinsAt hb e)))).1,fun b hb=>?_,w7⟩
   obtain ⟨o,e,d⟩:=T.obj _ _ st5 b hb
   exact (I7.pin (b,o) (List.mem_append_right _ (List.mem_append_right _ (mem_pinsAt hb e)))).2.1
  cases f with
  | next=>obtain ⟨σ7,H7,I7,n7⟩:=q7;exact again I7 n7
  | cont=>obtain ⟨σ7,H7,I7,n7⟩:=q7;exact again I7 n7
  | brk=>obtain ⟨σ7,H7,I7,q7⟩:=q7;exact⟨σ7,H7,I7.unpinned,q7⟩
  | ret v=>obtain ⟨x7,σ7,H7,I7,r7,q7⟩:=q7;exact⟨x7,σ7,H7,I7.unpinned,r7,q7⟩
end

theorem for_list {K:PySem.W.Frag}{a:Addr}{xs:List V}{g:TG}{tb:TS}{D:Ends}{σ:St}{H:Hp}(Pv:Nat→St→Hp→Prop) (h0:Pv 0 σ H) (hl:∀i σ H,i≤xs.length→Pv i σ H→SqL K H a xs)
  (hs:∀i x σ H,xs[i]? = some x→Pv i σ H→g x σ H fun σ2 H2=>tb (D.lp (Pv (i+1))) σ2 H2) (hd:∀σ H,Pv xs.length σ H→D.nx σ H) :
  ∃W:Nat→Nat→St→Hp→Prop,(∃m,W 0 m σ H)∧∀i m σ H,W i m σ H →
   ((Itl K a).stop i H∧D.nx σ H)∨((Itl K a).go i H∧∃N:St→Hp→Prop,(∀σ' H',N σ' H'→∃m',m'<m∧W (i+1) m' σ' H')∧∀x H',(Itl K a).yld i H x H'→g x σ H' fun σ2 H2=>tb (D.lp (N)) σ2 H2):=by
 refine⟨fun i m σ H=>m=xs.length - i∧i≤xs.length∧Pv i σ H,⟨xs.length,by simp,Nat.zero_le _,h0⟩,?_⟩
 rintro i m σ H ⟨rfl,hi,p⟩
 have q:=hl i σ H hi p
 by_cases hlt:i<xs.length
 ·refine .inr ⟨⟨xs,xs[i],q,by simp [hlt]⟩,Pv (i+1),fun σ' H' p'=>⟨xs.length - (i+1),by lia,rfl,hlt,p'⟩,fun x H' y=>?_⟩
  obtain ⟨e,y⟩:=y
  subst e
  exact hs i x σ _ (y xs q) p
 ·have e:i=xs.length:=by lia
  subst e
  exact .inl ⟨⟨xs,q,Nat.le_refl _⟩,hd σ H p⟩
theorem for_tup {K:PySem.W.Frag}{a:Addr}{xs:List V}{g:TG}{tb:TS}{D:Ends}{σ:St}{H:Hp}(Pv:Nat→St→Hp→Prop) (h0:Pv 0 σ H) (hl:∀i σ H,i≤xs.length→Pv i σ H→SqT K H a xs)
  (hs:∀i x σ H,xs[i]? = some x→Pv i σ H→g x σ H fun σ2 H2=>tb (D.lp (Pv (i+1))) σ2 H2) (hd:∀σ H,Pv xs.length σ H→D.nx σ H) :
  ∃W:Nat→Nat→St→Hp→Prop,(∃m,W 0 m σ H)∧∀i m σ H,W i m σ H →
   ((Itt K a).stop i H∧D.nx σ H)∨((Itt K a).go i H∧∃N:St→Hp→Prop,(∀σ' H',N σ' H'→∃m',m'<m∧W (i+1) m' σ' H')∧∀x H',(Itt K a).yld i H x H'→g x σ H' fun σ2 H2=>tb (D.lp (N)) σ2 H2):=by
 refine⟨fun i m σ H=>m=xs.length - i∧i≤xs.length∧Pv i σ H,⟨xs.length,by simp,Nat.zero_le _,h0⟩,?_⟩
 rintro i m σ H ⟨rfl,hi,p⟩
 have q:=hl i σ H hi p
 by_cases hlt:i<xs.length
 ·refine .inr ⟨⟨xs,xs[i],q,by simp [hlt]⟩,Pv (i+1),fun σ' H' p'=>⟨xs.length - (i+1),by lia,rfl,hlt,p'⟩,fun x H' y=>?_⟩
  obtain ⟨e,y⟩:=y
  subst e
  exact hs i x σ _ (y xs q) p
 ·have e:i=xs.length:=by lia
  subst e
  exact .inl ⟨⟨xs,q,Nat.le_refl _⟩,hd σ H p⟩
theorem for_range {lo:Int}{n:Nat}{g:TG}{tb:TS}{D:Ends}{σ:St}{H:Hp}(Pv:Nat→St→Hp→Prop) (h0:Pv 0 σ H)
  (hs:∀i σ H,i<n→Pv i σ H→g (.int (lo+i)) σ H fun σ2 H2=>tb (D.lp (Pv (i+1))) σ2 H2) (hd:∀σ H,Pv n σ H→D.nx σ H) :
  ∃W:Nat→Nat→St→Hp→Prop,(∃m,W 0 m σ H)∧∀i m σ H,W i m σ H →
   ((Itr lo n).stop i H∧D.nx σ H)∨((Itr lo n).go i H∧∃N:St→Hp→Prop,(∀σ' H',N σ' H'→∃m',m'<m∧W (i+1) m' σ' H')∧∀x H',(Itr lo n).yld i H x H'→g x σ H' fun σ2 H2=>tb (D.lp (N)) σ2 H2):=by
 refine⟨fun i m σ H=>m=n - i∧i≤n∧Pv i σ H,⟨n,by simp,Nat.zero_le _,h0⟩,?_⟩
 rintro i m σ H ⟨rfl,hi,p⟩
 by_cases hlt:i<n
 ·refine .inr ⟨hlt,Pv (i+1),fun σ' H' p'=>⟨n - (i+1),by lia,rfl,hlt,p'⟩,fun x H' y=>?_⟩
  obtain ⟨e,y⟩:=y
  subst e y
  exact hs i σ _ hlt p
 ·have e:i=n:=by lia
  subst e
  exact .inl ⟨Nat.le_refl _,hd σ H p⟩
end L2

namespace L2
open PySem PySem.Spec PyProof.Rows
abbrev R2:=V→V→Hp→VK→Prop
def OpR (X:Cx) (f:Value→Value→Sem Value) (r:R2):Prop :=
 ∀(pins:List (Addr × Obj)) (s:Shared) (σ:St) (H:Hp) (x y:V) (v u:Value) (Q:VK),Inv X pins σ H s→RelV x v→RelV y u→r x y H Q →
  wpAny (model X.prog X.w) X.A (f v u) (EP X pins σ Q) X.xe s
def UnR (X:Cx) (f:Value→Sem Value) (r:V→Hp→VK→Prop):Prop :=
 ∀(pins:List (Addr × Obj)) (s:Shared) (σ:St) (H:Hp) (x:V) (v:Value) (Q:VK),Inv X pins σ H s→RelV x v→r x H Q →
  wpAny (model X.prog X.w) X.A (f v) (EP X pins σ Q) X.xe s
def CallR (X:Cx) (f:Value) (r:List V→Hp→VK→Prop):Prop :=
 ∀(pins:List (Addr × Obj)) (s:Shared) (σ:St) (H:Hp) (xs:List V) (us:List Value) (Q:VK),Inv X pins σ H s→Vals xs us→r xs H Q →
  wpAny (model X.prog X.w) X.A (call f us) (EP X pins σ Q) X.xe s
def TruR (X:Cx) (r:V→Hp→(Bool→Hp→Prop)→Prop):Prop :=
 ∀(pins:List (Addr × Obj)) (s:Shared) (σ:St) (H:Hp) (x:V) (v:Value) (Q:Bool→Hp→Prop),Inv X pins σ H s→RelV x v→r x H Q →
  wpAny (model X.prog X.w) X.A (truthy v) (TP X pins σ Q) X.xe s
def tOp (r:R2) (ta tb:TE):TE:=fun σ H Q=>ta σ H fun x H1=>tb σ H1 fun y H2=>r x y H2 Q
def tUn (r:V→Hp→VK→Prop) (ta:TE):TE:=fun σ H Q=>ta σ H fun x H1=>r x H1 Q
def rI (C:Int→Int→Prop) (g:Int→Int→V):R2:=fun x y H Q=>onI x fun i=>onI y fun j=>C i j∧Q (g i j) H
theorem rI.ex {C:Int→Int→Prop}{g:Int→Int→V}{x y:V}{H:Hp}{Q:VK}(h:rI C g x y H Q):∃i j,x=.int i∧y=.int j∧C i j∧Q (g i j) H:=by
 obtain ⟨i,e,h⟩:=onI.ex h
 obtain ⟨j,e',h⟩:=onI.ex h
 exact⟨i,j,e,e',h⟩
def rI0 (g:Int→Int→V):R2:=fun x y H Q=>onI x fun i=>onI y fun j=>Q (g i j) H
theorem rI0.ex {g:Int→Int→V}{x y:V}{H:Hp}{Q:VK}(h:rI0 g x y H Q):∃i j,x=.int i∧y=.int j∧Q (g i j) H:=by
 obtain ⟨i,e,h⟩:=onI.ex h
 obtain ⟨j,e',h⟩:=onI.ex h
 exact⟨i,j,e,e',h⟩
def rU (g:Int→V):V→Hp→VK→Prop:=fun x H Q=>onI x fun i=>Q (g i) H
theorem rU.ex {g:Int→V}{x:V}{H:Hp}{Q:VK}(h:rU g x H Q):∃i,x=.int i∧Q (g i) H:=onI.ex h
section
variable {X:Cx}{a b c:Expr}{ta tb tc:TE}{pos:Pos}
theorem binT (ha:PE X a ta) (hb:PE X b tb) {pins:List (Addr × Obj)}{s:Shared}{σ:St}{H:Hp}{R:V→V→Hp→Prop}(I:Inv X pins σ H s)
  (h:ta σ H fun x H1=>tb σ H1 fun y H2=>R x y H2) {Q:Value→Shared→Prop}{f:Value→Value→Sem Value}
  (hf:∀v u s2 x y H2,Inv X pins σ H2 s2→RelV x v→RelV y u→R x y H2→wpAny (model X.prog X.w) X.A (f v u) Q X.xe s2) :
  wpAny (model X.prog X.w) X.A (eval a X.env) (fun v s₁=>wpAny (model X.prog X.w) X.A (eval b X.env) (fun u s₂=>wpAny (model X.prog X.w) X.A (f v u) Q X.xe s₂) X.xe s₁) X.xe s:=by
 refine thn (ha pins s σ H _ I h) fun v s1 ⟨x,H1,I1,r1,q1⟩=>?_
 refine thn (hb pins s1 σ H1 _ I1 q1) fun u s2 ⟨y,H2,I2,r2,q2⟩=>?_
 exact hf v u s2 x y H2 I2 r1 r2 q2
theorem pe_op {op:Operator}{r:R2}(ho:OpR X (binaryOp op) r) (ha:PE X a ta) (hb:PE X b tb):PE X (.BinOp a op b pos) (tOp r ta tb):=by
 intro pins s σ H Q I h
 exact wpAny_BinOp (binT ha hb I h fun v u s2 x y H2 I2 rx ry q=>ho pins s2 σ H2 x y v u Q I2 rx ry q)
theorem pe_un {op:UnaryOp}{r:V→Hp→VK→Prop}(ho:UnR X (unaryOp op) r) (ha:PE X a ta):PE X (.UnaryOp op a pos) (tUn r ta):=by
 intro pins s σ H Q I h
 exact UnaryOp_ (thn (ha pins s σ H _ I h) fun v s1 ⟨x,H1,I1,r1,q1⟩=>ho pins s1 σ H1 x v Q I1 r1 q1)
theorem opI {f:Value→Value→Sem Value}{C:Int→Int→Prop}{g:Int→Int→Int}
  (rule:∀(i j:Int) (t u:Tok) (s:Shared) (Q:Value→Shared→Prop) (E:Value→Shared→Prop),C i j→Q (.int (g i j) s.toks) { s with toks:=s.toks+1 }→wpAny (model X.prog X.w) X.A (f (.int i t) (.int j u)) Q E s) :
  OpR X f (rI C fun i j=>.int (g i j)):=by
 intro pins s σ H x y v u Q I rx ry h
 obtain ⟨i,j,rfl,rfl,hc,q⟩:=h.ex
 obtain ⟨t,rfl⟩:=rx
 obtain ⟨t',rfl⟩:=ry
 exact rule i j t t' s _ _ hc ⟨.int (g i j),H,I.tok _,⟨_,rfl⟩,q⟩
theorem opI0 {f:Value→Value→Sem Value}{g:Int→Int→Int}
  (rule:∀(i j:Int) (t u:Tok) (s:Shared) (Q:Value→Shared→Prop) (E:Value→Shared→Prop),Q (.int (g i j) s.toks) { s with toks:=s.toks+1 }→wpAny (model X.prog X.w) X.A (f (.int i t) (.int j u)) Q E s) :
  OpR X f (rI0 fun i j=>.int (g i j)):=by
 intro pins s σ H x y v u Q I rx ry h
 obtain ⟨i,j,rfl,rfl,q⟩:=h.ex
 obtain ⟨t,rfl⟩:=rx
 obtain ⟨t',rfl⟩:=ry
 exact rule i j t t' s _ _ ⟨.int (g i j),H,I.tok _,⟨_,rfl⟩,q⟩
theorem opB0 {f:Value→Value→Sem Value}{g:Int→Int→Bool}
  (rule:∀(i j:Int) (t u:Tok) (s:Shared) (Q:Value→Shared→Prop) (E:Value→Shared→Prop),Q (.bool (g i j)) s→wpAny (model X.prog X.w) X.A (f (.int i t) (.int j u)) Q E s) :
  OpR X f (rI0 fun i j=>.bl (g i j)):=by
 intro pins s σ H x y v u Q I rx ry h
 obtain ⟨i,j,rfl,rfl,q⟩:=h.ex
 obtain ⟨t,rfl⟩:=rx
 obtain ⟨t',rfl⟩:=ry
 exact rule i j t t' s _ _ ⟨.bl (g i j),H,I,rfl,q⟩
def CDiv (i j:Int):Prop:=0<j∧j<1073741824
def CPow (i j:Int):Prop:=0≤j∧j≤1000000∧i.natAbs<2 ^ 64
def CMul (i j:Int):Prop:=(-(2 ^ 64)<i∧i<2 ^ 64)∨(-(2 ^ 64)<j∧j<2 ^ 64)
theorem CMul.ok {i j:Int}(h:CMul i j):IntMulOk i j:=by
 rcases h with ⟨h1,h2⟩|⟨h1,h2⟩
 ·exact .of_left (intBits_le_64 h1 h2)
 ·exact .of_right (intBits_le_64 h1 h2)
theorem op_add:OpR X (binaryOp .Add) (rI0 fun i j=>.int (i+j)):=opI0 fun _ _ _ _ _ _ _ q=>add_int q
theorem op_sub:OpR X (binaryOp .Sub) (rI0 fun i j=>.int (i - j)):=opI0 fun _ _ _ _ _ _ _ q=>sub_int q
theorem op_mul:OpR X (binaryOp .Mult) (rI CMul fun i j=>.int (i*j)):=opI fun _ _ _ _ _ _ _ hc q=>mul_int q hc.ok
theorem op_fdiv:OpR X (binaryOp .FloorDiv) (rI CDiv fun i j=>.int (i / j)):=opI fun i j _ _ _ _ _ hc q=>by
 have h1:(0:Int)<j:=hc.1
 have h2:j<1073741824:=hc.2
 exact floordiv_int (by lia) (by rw [Int.fdiv_eq_ediv_of_nonneg i (by solve_by_elim (maxDepth:=3) [Int.le_of_lt,Int.natCast_nonneg,Int.add_nonneg,Int.le_trans,Int.lt_of_lt_of_le,Int.lt_of_le_of_lt])];exact q) (.inl (PyProof.noPylong_small (by lia)))
theorem op_mod:OpR X (binaryOp .Mod) (rI (fun _ j=>0<j) fun i j=>.int (i % j)):=opI fun i j _ _ _ _ _ hc q=>by
 have h1:(0:Int)<j:=hc
 exact mod_int' (by lia) (by rw [Int.fmod_eq_emod_of_nonneg i (by solve_by_elim (maxDepth:=3) [Int.le_of_lt,Int.natCast_nonneg,Int.add_nonneg,Int.le_trans,Int.lt_of_lt_of_le,Int.lt_of_le_of_lt])];exact q)
theorem op_shl:OpR X (binaryOp .LShift) (rI CPow fun i j=>.int (i*2 ^ j.toNat)):=opI fun _ _ _ _ _ _ _ hc q=>lshift_int_small hc.1 hc.2.1 hc.2.2 q
theorem op_and:OpR X (binaryOp .BitAnd) (rI0 fun i j=>.int (Builtin.bitAnd i j)):=opI0 fun _ _ _ _ _ _ _ q=>and_int q
theorem op_or:OpR X (binaryOp .BitOr) (rI0 fun i j=>.int (Builtin.bitOr i j)):=opI0 fun _ _ _ _ _ _ _ q=>or_int q
theorem unI {f:Value→Sem Value}{g:Int→Int}
  (rule:∀(i:Int) (t:Tok) (s:Shared) (Q:Value→Shared→Prop) (E:Value→Shared→Prop),Q (.int (g i) s.toks) { s with toks:=s.toks+1 }→wpAny (model X.prog X.w) X.A (f (.int i t)) Q E s) :
  UnR X f (rU fun i=>.int (g i)):=by
 intro pins s σ H x v Q I rx h
 obtain ⟨i,rfl,q⟩:=h.ex
 obtain ⟨t,rfl⟩:=rx
 exact rule i t s _ _ ⟨.int (g i),H,I.tok _,⟨_,rfl⟩,q⟩
theorem un_neg:UnR X (unaryOp .USub) (rU fun i=>.int (-i)):=unI fun _ _ _ _ _ q=>neg_int q
end

def scal:V→V→Bool
 | .non,.non=>true | .non,.int _=>true | .int _,.non=>true | .non,.bl _=>true | .bl _,.non=>true | .non,.str _=>true | .str _,.non=>true
 | .int _,.int _=>true | .bl _,.bl _=>true | .str _,.str _=>true | .byt _,.byt _=>true
 | .int _,.str _=>true | .str _,.int _=>true | .bl _,.str _=>true | .str _,.bl _=>true
 | _,_=>false
def rEq:R2:=fun x y H Q=>onT (scal x y) (Q (.bl (decide (x=y))) H)
theorem rEq.ex {x y:V}{H:Hp}{Q:VK}(h:rEq x y H Q):scal x y=true∧Q (.bl (decide (x=y))) H:=onT.ex h
def rNe:R2:=fun x y H Q=>onT (scal x y) (Q (.bl (!decide (x=y))) H)
theorem rNe.ex {x y:V}{H:Hp}{Q:VK}(h:rNe x y H Q):scal x y=true∧Q (.bl (!decide (x=y))) H:=onT.ex h
theorem dec_int {i j:Int}:decide (V.int i=V.int j)=(i==j):=by
 rw [Bool.eq_iff_iff]
 simp
theorem dec_bl {i j:Bool}:decide (V.bl i=V.bl j)=(i==j):=by
 rw [Bool.eq_iff_iff]
 simp
theorem dec_str {i j:Str}:decide (V.str i=V.str j)=(i==j):=by
 rw [Bool.eq_iff_iff]
 simp
theorem dec_byt {i j:Array UInt8}:decide (V.byt i=V.byt j)=(i.toList==j.toList):=by
 rw [Bool.eq_iff_iff]
 cases i
 cases j
 simp
section
variable {X:Cx}{a b c:Expr}{ta tb tc:TE}{pos:Pos}
theorem fin_bl {pins:List (Addr × Obj)}{σ:St}{H:Hp}{s:Shared}{Q:VK}{k k':Bool}(I:Inv X pins σ H s) (q:Q (.bl k) H) (e:k=k'):EP X pins σ Q (.bool k') s:=by
 subst e
 exact⟨.bl k,H,I,rfl,q⟩
theorem op_eq:OpR X (compareOp .Eq) rEq:=by
 intro pins s σ H x y v u Q I rx ry h
 obtain ⟨hs,q⟩:=h.ex
 cases x with
 | non =>
  cases rx
  cases y with
  | non=>cases ry;exact PySem.EqNone.eq_none_none (fin_bl I q (by simp))
  | bl j=>cases ry;exact PySem.EqNone.eq_none_bool (fin_bl I q (by simp))
  | int j=>obtain ⟨t',rfl⟩:=ry;exact PySem.EqNone.eq_none_int (fin_bl I q (by simp))
  | str j=>obtain ⟨t',rfl⟩:=ry;exact PySem.EqNone.eq_none_str (fin_bl I q (by simp))
  | _=>exact absurd (show false=true from hs) Bool.false_ne_true
 | bl i =>
  cases rx
  cases y with
  | non=>cases ry;exact PySem.EqNone.eq_bool_none (fin_bl I q (by simp))
  | bl j=>cases ry;exact eq_bool (fin_bl I q dec_bl)
  | str j=>obtain ⟨t',rfl⟩:=ry;exact PySem.EqMixed.eq_bool_str (fin_bl I q (by simp))
  | _=>exact absurd (show false=true from hs) Bool.false_ne_true
 | int i =>
  obtain ⟨t,rfl⟩:=rx
  cases y with
  | non=>cases ry;exact PySem.EqNone.eq_int_none (fin_bl I q (by simp))
  | int j=>obtain ⟨t',rfl⟩:=ry;exact eq_int (fin_bl I q dec_int)
  | str j=>obtain ⟨t',rfl⟩:=ry;exact PySem.EqMixed.eq_int_str (fin_bl I q (by simp))
  | _=>exact absurd (show false=true from hs) Bool.false_ne_true
 | str i =>
  obtain ⟨t,rfl⟩:=rx
  cases y with
  | non=>cases ry;exact PySem.EqNone.eq_str_none (fin_bl I q (by simp))
  | bl j=>cases ry;exact PySem.EqMixed.eq_str_bool (fin_bl I q (by simp))
  | int j=>obtain ⟨t',rfl⟩:=ry;exact PySem.EqMixed.eq_str_int (fin_bl I q (by simp))
  | str j=>obtain ⟨t',rfl⟩:=ry;exact eq_str (fin_bl I q dec_str)
  | _=>exact absurd (show false=true from hs) Bool.false_ne_true
 | byt i =>
  obtain ⟨t,rfl⟩:=rx
  cases y with
  | byt j=>obtain ⟨t',rfl⟩:=ry;exact PySem.W.eq_bytes (fin_bl I q dec_byt)
  | _=>exact absurd (show false=true from hs) Bool.false_ne_true
 | _=>cases y <;> exact absurd (show false=true from hs) Bool.false_ne_true
theorem op_ne:OpR X (compareOp .NotEq) rNe:=by
 intro pins s σ H x y v u Q I rx ry h
 obtain ⟨hs,q⟩:=h.ex
 cases x with
 | non =>
  cases rx
  cases y with
  | non=>cases ry;exact PySem.EqNone.ne_none_none (fin_bl I q (by simp))
  | bl j=>cases ry;exact PySem.EqNone.ne_none_bool (fin_bl I q (by simp))
  | int j=>obtain ⟨t',rfl⟩:=ry;exact PySem.EqNone.ne_none_int (fin_bl I q (by simp))
  | str j=>obtain ⟨t',rfl⟩:=ry;exact PySem.EqNone.ne_none_str (fin_bl I q (by simp))
  | _=>exact absurd (show false=true from hs) Bool.false_ne_true
 | bl i =>
  cases rx
  cases y with
  | non=>cases ry;exact PySem.EqNone.ne_bool_none (fin_bl I q (by simp))
  | bl j=>cases ry;exact ne_bool (fin_bl I q (congrArg not dec_bl))
  | str j=>obtain ⟨t',rfl⟩:=ry;exact PySem.EqMixed.ne_bool_str (fin_bl I q (by simp))
  | _=>exact absurd (show false=true from hs) Bool.false_ne_true
 | int i =>
  obtain ⟨t,rfl⟩:=rx
  cases y with
  | non=>cases ry;exact PySem.EqNone.ne_int_none (fin_bl I q (by simp))
  | int j=>obtain ⟨t',rfl⟩:=ry;exact ne_int (fin_bl I q (congrArg not dec_int))
  | str j=>obtain ⟨t',rfl⟩:=ry;exact PySem.EqMixed.ne_int_str (fin_bl I q (by simp))
  | _=>exact absurd (show false=true from hs) Bool.false_ne_true
 | str i =>
  obtain ⟨t,rfl⟩:=rx
  cases y with
  | non=>cases ry;exact PySem.EqNone.ne_str_none (fin_bl I q (by simp))
  | bl j=>cases ry;exact PySem.EqMixed.ne_str_bool (fin_bl I q (by simp))
  | int j=>obtain ⟨t',rfl⟩:=ry;exact PySem.EqMixed.ne_str_int (fin_bl I q (by simp))
  | str j=>obtain ⟨t',rfl⟩:=ry;exact ne_str (fin_bl I q (congrArg not dec_str))
  | _=>exact absurd (show false=true from hs) Bool.false_ne_true
 | byt i =>
  obtain ⟨t,rfl⟩:=rx
  cases y with
  | byt j=>obtain ⟨t',rfl⟩:=ry;exact PySem.W.ne_bytes (fin_bl I q (congrArg not dec_byt))
  | _=>exact absurd (show false=true from hs) Bool.false_ne_true
 | _=>cases y <;> exact absurd (show false=true from hs) Bool.false_ne_true
theorem op_le:OpR X (compareOp .LtE) (rI0 fun i j=>.bl (decide (i≤j))):=opB0 fun _ _ _ _ _ _ _ q=>le_int q
theorem op_gt:OpR X (compareOp .Gt) (rI0 fun i j=>.bl (decide (j<i))):=opB0 fun _ _ _ _ _ _ _ q=>gt_int q
theorem op_isN:OpR X (compareOp .Is) (fun x y H Q=>y=.non∧Q (.bl (decide (x=.non))) H):=by
 intro pins s σ H x y v u Q I rx ry h
 obtain ⟨rfl,q⟩:=h
 cases ry
 refine is_none_gen (fin_bl I q ?_)
 cases x <;> first
  | (cases rx;rfl)
  | (obtain ⟨t,rfl⟩:=rx;rfl)
theorem OpR.or {f:Value→Value→Sem Value}{r r':R2}(h:OpR X f r) (h':OpR X f r'):OpR X f (fun x y H Q=>r x y H Q∨r' x y H Q):=by
 intro pins s σ H x y v u Q I rx ry q
 rcases q with q|q
 ·exact h pins s σ H x y v u Q I rx ry q
 ·exact h' pins s σ H x y v u Q I rx ry q
theorem nomark (b:Expr) {op:CmpOp}(h:op ≠ .In:=by decide) (h2:op ≠ .NotIn:=by decide):behindInMarks op b=false:=by
 have e1:(op==CmpOp.In)=false:=by cases op <;> first|rfl|exact absurd rfl h
 have e2:(op==CmpOp.NotIn)=false:=by cases op <;> first|rfl|exact absurd rfl h2
 cases b <;> simp [behindInMarks,e1,e2]
theorem pe_cmpR {op:CmpOp}{r:R2}(ho:OpR X (compareOp op) r) (ha:PE X a ta) (hb:PE X b tb) (hm:behindInMarks op b=false):PE X (.Compare a [op] [b] pos) (tOp r ta tb):=by
 intro pins s σ H Q I h
 exact wpAny_Compare1 (binT ha hb I h fun v u s2 x y H2 I2 rx ry q=>ho pins s2 σ H2 x y v u Q I2 rx ry q) hm
def tTest_b (Q:Bool→Hp→Prop) (x:V) (H':Hp):Prop:=onB x fun k=>Q k H'
theorem tTest_b.ex {Q:Bool→Hp→Prop}{x:V}{H':Hp}(h:tTest_b Q x H'):∃k,x=.bl k∧Q k H':=onB.ex h
def tTest (t:TE):TT:=fun σ H Q=>t σ H (tTest_b Q)
theorem pt_cmpR {op:CmpOp}{r:R2}(ho:OpR X (compareOp op) r) (ha:PE X a ta) (hb:PE X b tb) (hm:behindInMarks op b=false):PT X (.Compare a [op] [b] pos) (tTest (tOp r ta tb)):=by
 intro pins s σ H Q I h
 refine wpAny_isTrue_Compare1 (thn (ha pins s σ H _ I h) fun v s1 ⟨x,H1,I1,r1,q1⟩=>thn (hb pins s1 σ H1 _ I1 q1) fun u s2 ⟨y,H2,I2,r2,q2⟩ =>
  thn (ho pins s2 σ H2 x y v u _ I2 r1 r2 q2) fun c s3 ⟨z,H3,I3,r3,q3⟩=>?_) hm
 obtain ⟨k,rfl,q3⟩:=q3.ex
 cases r3
 exact wpAny_truthy_bool ⟨H3,I3,q3⟩
def tChain (r r':R2) (ta tb tc:TE):TE:=fun σ H Q=>ta σ H fun x H1=>tb σ H1 fun y H2=>r x y H2 fun z H3=>∃k,z=.bl k ∧
 (if k=true then tc σ H3 fun w' H4=>r' y w' H4 Q else Q (.bl false) H3)
theorem pe_chain {op op':CmpOp}{r r':R2}(ho:OpR X (compareOp op) r) (ho':OpR X (compareOp op') r') (ha:PE X a ta) (hb:PE X b tb) (hc:PE X c tc)
  (hm:lastMarks [op,op'] [b,c]=false:=by with_unfolding_all rfl):PE X (.Compare a [op,op'] [b,c] pos) (tChain r r' ta tb tc):=by
 intro pins s σ H Q I h
 refine Compare_chain (thn (ha pins s σ H _ I h) fun v s1 ⟨x,H1,I1,r1,q1⟩=>chain_link (thn (hb pins s1 σ H1 _ I1 q1) fun u s2 ⟨y,H2,I2,r2,q2⟩ =>
  thn (ho pins s2 σ H2 x y v u _ I2 r1 r2 q2) fun d s3 ⟨z,H3,I3,r3,k,e,q3⟩=>?_)) hm
 subst e
 cases r3
 refine wpAny_truthy_bool ?_
 cases k with
 | false=>exact ite_ff ⟨.bl false,H3,I3,rfl,q3⟩
 | true=>exact ite_tt (chain_last (thn (hc pins s3 σ H3 _ I3 q3) fun w' s4 ⟨z',H4,I4,r4,q4⟩=>ho' pins s4 σ H4 y z' u w' Q I4 r2 r4 q4))
def TruV (K:PySem.W.Frag) (x:V) (H:Hp) (k:Bool):Prop :=
 match x with
 | .non=>k=false
 | .bl b=>k=b
 | .int i=>k=(i != 0)
 | .str y=>y.length≤sizeLine∧k=((y.length:Int) != 0)
 | .byt y=>y.size≤sizeLine∧k=((y.size:Int) != 0)
 | .ref p=>(∃xs,SqL K H p xs∧k=!xs.isEmpty)∨(∃xs,SqT K H p xs∧k=!xs.isEmpty) ∨ ∃kvs,H p=some (.dK kvs)∧k=!kvs.isEmpty
 | _=>False
theorem isEmpty_kv {κ:Type}{kvs:List (κ × V)}{vs:List (κ × Value)}(r:KV kvs vs):(!vs.isEmpty)=!kvs.isEmpty:=by
 cases r <;> rfl
theorem isEmpty_of {xs:List V}{its:List Value}(r:Vals xs its):(!its.toArray.isEmpty)=!xs.isEmpty:=by
 cases r <;> simp
theorem line63:(sizeLine:Nat)<2 ^ 63:=by rw [sizeLine_eq];decide
theorem tru_ok:TruR X (fun x H Q=>∃k,TruV X.K x H k∧Q k H):=by
 intro pins s σ H x v Q I rx h
 obtain ⟨k,e,q⟩:=h
 have hl:=line63
 have hs:sizeLine=16777216:=sizeLine_eq
 cases x with
 | non =>
  cases rx
  have e':k=false:=e
  subst e'
  exact truthy_none ⟨H,I,q⟩
 | bl b =>
  cases rx
  have e':k=b:=e
  subst e'
  exact wpAny_truthy_bool ⟨H,I,q⟩
 | int i =>
  obtain ⟨t,rfl⟩:=rx
  have e':k=(i != 0):=e
  subst e'
  exact PySem.P.truthy_int ⟨H,I,q⟩
 | str y =>
  obtain ⟨t,rfl⟩:=rx
  obtain ⟨hy,e'⟩:y.length≤sizeLine∧k=((y.length:Int) != 0):=e
  subst e'
  exact PySem.P.truthy_str (by lia) ⟨H,I.tok _,q⟩
 | byt y =>
  obtain ⟨t,rfl⟩:=rx
  obtain ⟨hy,e'⟩:y.size≤sizeLine∧k=((y.size:Int) != 0):=e
  subst e'
  exact PySem.W.truthy_bytes (by lia) ⟨H,I.tok _,q⟩
 | ref p =>
  cases rx
  have e':(∃xs,SqL X.K H p xs∧k=!xs.isEmpty)∨(∃xs,SqT X.K H p xs∧k=!xs.isEmpty) ∨ ∃kvs,H p=some (.dK kvs)∧k=!kvs.isEmpty:=e
  rcases e' with ⟨xs,hx,e'⟩|⟨xs,hx,e'⟩|⟨kvs,hx,e'⟩
  ·subst e'
   obtain ⟨its,r,pl,hz⟩:=I.list hx
   have hlen:=r.length
   exact wpAny_truthy_list pl.isList (by simp only [List.size_toArray];lia) ⟨H,I.tok _,by rw [isEmpty_of r];exact q⟩
  ·subst e'
   obtain ⟨its,r,pl,hz⟩:=I.tuple hx
   have hlen:=r.length
   exact truthy_tuple pl (by simp only [List.size_toArray];lia) ⟨H,I.tok _,by rw [isEmpty_of r];exact q⟩
  ·subst e'
   obtain ⟨hz,hS,vs,r,m⟩:kvs.length≤sizeLine∧(p==sysModules)=false∧∃vs,KV kvs vs∧s.heap.DictOf (mixKind X.prog X.w) p vs:=I.hok p _ hx
   have hlen:kvs.length=vs.length:=Paired.length r
   exact wpAny_truthy_dict hS m (by lia) ⟨H,I.tok _,by rw [isEmpty_kv r];exact q⟩
 | _=>exact (show False from e).elim
theorem pt_truth (ha:PE X a ta) (he:∀whole,isTrue a X.env whole=(do let v ←whole;standAt a.pos;holding [v] (truthy v))) :
  PT X a (fun σ H Q=>ta σ H fun x H'=>∃k,TruV X.K x H' k∧Q k H'):=by
 intro pins s σ H Q I h
 exact isTrue_plain (thn (ha pins s σ H _ I h) fun v s1 ⟨x,H1,I1,r1,q1⟩=>tru_ok pins s1 σ H1 x v Q I1 r1 q1) (he _)
inductive r_op_add_str (x:V) (y:V) (H:Hp) (Q:VK):Prop
 | mk:∀i j,(x=.str i)→(y=.str j)→(i.length+j.length≤sizeLine)→(Q (.str (i++j)) H)→r_op_add_str x y H Q
theorem op_add_str:OpR X (binaryOp .Add) r_op_add_str:=by
 intro pins s σ H x y v u Q I rx ry h
 obtain ⟨i,j,rfl,rfl,hz,q⟩:=h
 obtain ⟨t,rfl⟩:=rx
 obtain ⟨t',rfl⟩:=ry
 exact add_str (fun t' tk=>⟨.str (i++j),H,I.tok _,⟨_,rfl⟩,q⟩) hz
theorem vals1 {x:V}{us:List Value}(r:Vals [x] us):∃u,us=[u]∧RelV x u:=by
 cases r with
 | cons r1 r2=>cases r2;exact⟨_,rfl,r1⟩
theorem vals2 {x y:V}{us:List Value}(r:Vals [x,y] us):∃u w',us=[u,w']∧RelV x u∧RelV y w':=by
 cases r with
 | cons r1 r2 =>
  cases r2 with
  | cons r3 r4=>cases r4;exact⟨_,_,rfl,r1,r3⟩
inductive r_call_max2 (xs:List V) (H:Hp) (Q:VK):Prop
 | mk:∀i j,(xs=[.int i,.int j])→(Q (.int (if j > i then j else i)) H)→r_call_max2 xs H Q
theorem call_max2 (hc:X.calm=true):CallR X (.builtin "max") r_call_max2:=by
 intro pins s σ H xs us Q I r h
 obtain ⟨i,j,rfl,q⟩:=h
 refine L2.ob_eeaa (vals2 r) fun u w' e_2 q_3 q_4=>?_;subst e_2;obtain ⟨t,rfl⟩:=q_3;obtain ⟨t',rfl⟩:=q_4
 refine max_two_ints (I.ok.hd hc) fun h' tk k=>⟨_,H,I.kept k,?_,q⟩
 by_cases hj:j > i
 ·rw [if_pos hj,if_pos hj];exact⟨_,rfl⟩
 ·rw [if_neg hj,if_neg hj];exact⟨_,rfl⟩
inductive r_call_str_int (xs:List V) (H:Hp) (Q:VK):Prop
 | mk:∀i,(xs=[.int i])→(i.natAbs.log2<1920)→(Q (.str (toString i)) H)→r_call_str_int xs H Q
theorem call_str_int:CallR X (.type "str") r_call_str_int:=by
 intro pins s σ H xs us Q I r h
 obtain ⟨i,rfl,hz,q⟩:=h
 obtain ⟨u,rfl,t,rfl⟩:=vals1 r
 exact PySem.P.str_of_int hz ⟨.str _,H,I.tok _,⟨_,rfl⟩,q⟩
end
end L2

namespace L2
open PySem PySem.Spec PyProof.Rows
structure ObjM (h:Heap) (x dx C:Addr) (mA:Str→Option Value):Prop where
 obj:h.get? x=some (PySem.W.instObj C dx)
 ns:h.Ns1 dx mA
 ne:dx≠x
theorem lookIn_ns {h:Heap}{dx:Addr}{mA:Str→Option Value}(n:h.Ns1 dx mA):∃od,h.get? dx=some od∧∀name,PySem.W.lookIn name od=some (mA name):=by
 obtain ⟨o,es,ep,ho,hd,hk,_,hm⟩:=n
 refine⟨o,ho,fun name=>?_⟩
 have e:=hm name
 unfold nsFind findBy at e
 rw [←Array.find?_toList] at e
 unfold PySem.W.lookIn
 rw [hd]
 dsimp only
 split
 ·rename_i y q
  rw [q] at e
  exact congrArg some e
 ·rename_i q
  rw [q] at e
  have a:es.toList.any (·.refKey)=false:=by
   rw [List.any_eq_false]
   intro y hy
   obtain ⟨z,t,hkey⟩:=hk y (Array.mem_toList_iff.mp hy)
   simp [DictEntry.refKey,hkey]
  have a':¬es.toList.any (·.refKey)=true:=by rw [a];exact Bool.false_ne_true
  rw [if_neg a']
  exact congrArg some e
theorem ObjM.look {h:Heap}{x dx C:Addr}{mA:Str→Option Value}(I:ObjM h x dx C mA):∃od,PySem.W.InstAt h x (PySem.W.instObj C dx) C (some od)∧∀name,PySem.W.lookIn name od=some (mA name) :=
 let ⟨od,ho,hl⟩:=lookIn_ns I.ns
 ⟨od,⟨I.obj,rfl,rfl,ho⟩,hl⟩
section
variable {prog:Program}{w:World}{A:Around}{E:Value→Shared→Prop}{s:Shared}{K:PySem.W.Frag}{x dx C f:Addr}{mA:Str→Option Value}{name:Str}{v:Value}
end

theorem RelO.some_of {v:V}{o:Option Value}(r:RelO (some v) o):∃u,o=some u∧RelV v u:=by
 cases o with
 | none=>exact (show False from r).elim
 | some u=>exact⟨u,rfl,r⟩
section
variable {P:Program}{w:World}{H H':Hp}{h h':Heap}{a C dx:Addr}{fs fs':List (Str × V)}
theorem ins_get (hok:HOk P w H h) (e:H a=some (.ins C dx fs)):∃mA,ObjM h a dx C mA∧(∀f,RelO (fs.lookup f) (mA f))∧PySem.Within mA (fs.map (·.1))∧fs.length≤1000∧H dx=some (.own a):=by
 obtain ⟨d,z,ne,ob,mA,n,r,q⟩:=(show ObjOk P w H h a (.ins C dx fs) from hok a _ e)
 exact⟨mA,⟨ob,n,ne⟩,r,q,z,d⟩
end

structure Cls (K:PySem.W.Frag) (C:Addr):Prop where
 pg:PySem.W.plainGet K C Str.empty=true
 hd:PySem.W.hasDictIn K C=true
 po:PySem.W.plainOver K C=true
 sa:PySem.W.findIn K (.ref C) "__setattr__" = some (some (.builtin "object.__setattr__"))
theorem Cls.get {K:PySem.W.Frag}{C:Addr}(c:Cls K C) (f:Str):PySem.W.plainGet K C f=true:=c.pg
section
variable {X:Cx}{pins:List (Addr × Obj)}{σ:St}{H:Hp}{s:Shared}{a C dx:Addr}{fs:List (Str × V)}{f:Str}{v:V}{A:Around}{E:Value→Shared→Prop}
end

section
variable {X:Cx}{o e value:Expr}{f:Str}{pos pos' tpos:Pos}{ta tv:TE}
end

section
variable {X:Cx}{pins:List (Addr × Obj)}{σ:St}{H:Hp}{s:Shared}{A:Around}{E:Value→Shared→Prop}{Q:Value→Shared→Prop}{c:Value}{b:Bool}
inductive TyOf (K:PySem.W.Frag) (H:Hp):V→Value→Prop where
 | non:TyOf K H .non (.type "NoneType")
 | bl (x:Bool):TyOf K H (.bl x) (.type "bool")
 | int (i:Int):TyOf K H (.int i) (.type "int")
 | str (x:Str):TyOf K H (.str x) (.type "str")
 | flt (x:UInt64):TyOf K H (.flt x) (.type "float")
 | lst {a:Addr}{xs:List V}(e:H a=some (.lst xs)):TyOf K H (.ref a) (.type "list")
 | frz {a:Addr}{o:Obj}{xs:List V}(e:H a=some (.frz o (.lst xs))):TyOf K H (.ref a) (.type "list")
 | tup {a:Addr}{xs:List V}(e:H a=some (.tup xs)):TyOf K H (.ref a) (.type "tuple")
 | dK {a:Addr}{kvs:List (Key × V)}(e:H a=some (.dK kvs)):TyOf K H (.ref a) (.type "dict")
 | dT {a:Addr}{kvs:List (List Key × V)}(e:H a=some (.dT kvs)):TyOf K H (.ref a) (.type "dict")
 | ins {a C dx:Addr}{fs:List (Str × V)}(e:H a=some (.ins C dx fs)) (cl:Cls K C) (ha:PySem.W.findIn K (.ref C) "__class__" = some (some (.builtin "object.__class__")))
   (hn:PySem.W.specialIn K (.builtin "object.__class__") "__get__" = some (some (.builtin "getset_descriptor.__get__"))) (htk:PySem.W.takesIn K (.builtin "object.__class__")=some true)
   (hm:PySem.W.mroIn K C (.type "object")=some true):TyOf K H (.ref a) (.ref C)
theorem isinst_ok {x:V}{u t:Value}(I:Inv X pins σ H s) (rx:RelV x u) (ty:TyOf X.K H x t) (e:PySem.W.kitOne X.K t c=some b) (h:∀tk,Q (.bool b) { s with toks:=tk }) :
  wpAny (model X.prog X.w) A (call (.builtin "isinstance") [u,c]) Q E s:=by
 cases ty with
 | non=>cases (show u=Value.none from rx);exact PySem.W.kia_one PySem.W.kitx_none I.kIn True.intro e (fun z=>nomatch z) h
 | bl y=>cases (show u=Value.bool y from rx);exact PySem.W.kia_one PySem.W.kitx_bool I.kIn True.intro e (fun z=>nomatch z) h
 | int i=>obtain ⟨t,q⟩:=(show ∃t,u=Value.int i t from rx);cases q;exact PySem.W.kia_one PySem.W.kitx_int I.kIn True.intro e (fun z=>nomatch z) h
 | str y=>obtain ⟨t,q⟩:=(show ∃t,u=Value.str y t from rx);cases q;exact PySem.W.kia_one PySem.W.kitx_str I.kIn True.intro e (fun z=>nomatch z) h
 | flt y=>obtain ⟨t,q⟩:=(show ∃t,u=Value.float y t from rx);cases q;exact PySem.W.kia_one PySem.W.kitx_float I.kIn True.intro e (fun z=>nomatch z) h
 | @lst a xs ea =>
  cases (show u=Value.ref a from rx)
  obtain ⟨_,_,n,_,h1⟩:=(show ObjOk X.prog X.w H s.heap a (.lst xs) from I.hok a _ ea)
  exact PySem.W.kia_one PySem.W.kitx_list I.kIn ⟨_,h1,rfl⟩ e (fun z=>nomatch z) h
 | @frz a ob xs ea =>
  cases (show u=Value.ref a from rx)
  obtain ⟨_,_,_,n,_,h1⟩:=(show ObjOk X.prog X.w H s.heap a (.frz ob (.lst xs)) from I.hok a _ ea)
  exact PySem.W.kia_one PySem.W.kitx_list I.kIn ⟨_,h1,rfl⟩ e (fun z=>nomatch z) h
 | @tup a xs ea =>
  cases (show u=Value.ref a from rx)
  obtain ⟨_,_,_,p⟩:=(show ObjOk X.prog X.w H s.heap a (.tup xs) from I.hok a _ ea)
  obtain ⟨o,h1,h2,_⟩:=p
  exact PySem.W.kia_one PySem.W.kitx_tuple I.kIn ⟨o,h1,h2⟩ e (fun z=>nomatch z) h
 | @dK a kvs ea =>
  cases (show u=Value.ref a from rx)
  obtain ⟨_,_,vs,_,p⟩:=(show ObjOk X.prog X.w H s.heap a (.dK kvs) from I.hok a _ ea)
  obtain ⟨o,es,ep,h1,h2,_⟩:=p
  exact PySem.W.kia_one PySem.W.kitx_dict I.kIn ⟨o,h1,h2.1⟩ e (fun z=>nomatch z) h
 | @dT a kvs ea =>
  cases (show u=Value.ref a from rx)
  obtain ⟨_,_,xs,_,o,es,ep,h1,h2,_⟩:=(show ObjOk X.prog X.w H s.heap a (.dT kvs) from I.hok a _ ea)
  exact PySem.W.kia_one PySem.W.kitx_dict I.kIn ⟨o,h1,h2.1⟩ e (fun z=>nomatch z) h
 | @ins a C dx fs ea cl ha hn htk hm =>
  cases (show u=Value.ref a from rx)
  refine L2.ob_ea (ins_get I.hok ea) fun mA O _=>?_
  refine L2.ob_ea O.look fun od J _=>?_
  exact PySem.W.kia_one (PySem.W.kitx_own (cl.get _) cl.hd ha hn htk hm) I.kIn J e (fun z=>nomatch z) h
end
end L2

namespace L2
open PySem PySem.Spec PyProof.Rows
structure Room (k:Nat) (A:Around):Prop where
 hd:A.handled=none
 dp:A.depth+3*k+5<recursionLimit
 un:A.units+16*k+200<cLine
theorem Room.mono {j k:Nat}{A:Around}(r:Room k A) (h:j≤k):Room j A:=⟨r.hd,by have:=r.dp;lia,by have:=r.un;lia⟩
theorem Room.deeper {k:Nat}{A:Around}(r:Room (k+1) A) (env:Env):Room k (A.deeper env) :=
 ⟨r.hd,by have:=r.dp;show A.depth+1+3*k+5<_;lia,by have:=r.un;show A.units+3+16*k+200<_;lia⟩
theorem Room.in1 {k:Nat}{A:Around}(r:Room (k+1) A):Room k A.in1 :=
 ⟨r.hd,by have:=r.dp;show A.depth+3*k+5<_;lia,by have:=r.un;show A.units+1+16*k+200<_;lia⟩
theorem Room.depth {k:Nat}{A:Around}(r:Room k A):A.depth<recursionLimit:=by have:=r.dp;lia
theorem Room.units {k:Nat}{A:Around}(r:Room k A):A.units+64<cLine:=by have:=r.un;lia
def tNil:TA:=fun _ H Q=>Q [] H
def tCons (ta:TE) (tr:TA):TA:=fun σ H Q=>ta σ H fun x H1=>tr σ H1 fun xs H2=>Q (x::xs) H2
section
variable {X:Cx}{e:Expr}{es:List Expr}{te:TE}{t:TA}{pos:Pos}
theorem pa_nil:PA X [] tNil:=fun _ _ _ _ H Q I h=>Calls.spliced_nil ⟨[],H,I,.nil,h⟩
theorem pa_cons (ha:PE X e te) (hr:PA X es t) (hs:starEach (e::es) X.env=(false,eval e X.env)::starEach es X.env:=by rfl):PA X (e::es) (tCons te t):=by
 intro pos pins s σ H Q I h
 rw [hs]
 show wpAny _ _ (spliced ((false,eval e X.env)::backTo pos (starEach es X.env))) _ _ s
 refine Calls.spliced_cons (thn (ha pins s σ H _ I h) fun u s1 ⟨x,H1,I1,r1,q1⟩=>?_)
 exact thn (hr pos pins s1 σ H1 _ I1 q1) fun us s2 ⟨xs,H2,I2,r2,q2⟩=>⟨x::xs,H2,I2,.cons r1 r2,q2⟩
inductive tTup_b (Q:VK) (xs:List V) (H1:Hp):Prop
 | mk:(xs.length≤sizeLine)→(∀p,H1 p=none→Q (.ref p) (upd H1 p (.tup xs)))→tTup_b Q xs H1
def tTup (t:TA):TE:=fun σ H Q=>t σ H fun xs H1=>tTup_b Q xs H1
inductive tLst_b (Q:VK) (xs:List V) (H1:Hp):Prop
 | mk:(xs.length≤sizeLine)→(∀p,H1 p=none→Q (.ref p) (upd H1 p (.lst xs)))→tLst_b Q xs H1
def tLst (t:TA):TE:=fun σ H Q=>t σ H fun xs H1=>tLst_b Q xs H1
theorem pe_tup {x1}(h:PA X es t):PE X (.Tuple es x1 pos) (tTup t):=by
 intro pins s σ H Q I hq
 refine wpAny_Tuple_spliced (thn (h pos pins s σ H _ I hq) fun us s1 ⟨xs,H1,I1,r,z,q⟩=>⟨by rw [←r.length];exact z,?_⟩)
 have hf:H1 s1.heap.objs.size=none:=I1.hok.fresh (Nat.le_refl _)
 refine⟨.ref s1.heap.objs.size,upd H1 s1.heap.objs.size (.tup xs),I1.laid (t':=s1.toks) (fun b u e=>Heap.get?_push_of_some _ e) (Nat.le_refl _) ?_,rfl,q _ hf⟩
 exact⟨z,us,r,⟨_,Heap.get?_push_size _ rfl,rfl,_,rfl⟩⟩
theorem pe_lst (h:PA X es t):PE X (.List es pos) (tLst t):=by
 intro pins s σ H Q I hq
 refine wpAny_List_spliced (thn (h pos pins s σ H _ I hq) fun us s1 ⟨xs,H1,I1,r,z,q⟩=>⟨by rw [←r.length];exact z,?_⟩)
 have hf:H1 s1.heap.objs.size=none:=I1.hok.fresh (Nat.le_refl _)
 refine⟨.ref s1.heap.objs.size,upd H1 s1.heap.objs.size (.lst xs),I1.laid (t':=s1.toks) (fun b u e=>Heap.get?_push_of_some _ e) (Nat.le_refl _) ?_,rfl,q _ hf⟩
 exact⟨z,us,0,r,Heap.get?_push_size _ rfl⟩
end

abbrev Sp:=List V→Hp→VK→XK→Prop
abbrev CXT:=List Env→Hp→Shared→XK→Value→Shared→Prop
structure Env0 (P:Program) (w:World) (K:PySem.W.Frag) (mg:Str→Option Value) (base:Heap) (A:Around) (outer:List Env) (s:Shared) (H:Hp):Prop where
 frames:A.frames=some outer
 mod:Mod K mg base
 bs:∀b o,base.get? b=some o→s.heap.get? b=some o∧H b=none
 bsz:base.objs.size≤s.heap.objs.size
 funs:s.heap.FunFrames base outer
 frf:∀b∈frs outer,H b=none
 hok:HOk P w H s.heap
 bare:AllBare s.gens
def CE (outer:List Env) (P:Program) (w:World) (H:Hp) (s:Shared) (Q:VK) (u:Value) (s':Shared):Prop :=
 ∃v H',s'.os=s.os∧AllBare s'.gens∧Un (frs outer) [] H H' s.heap s'.heap∧HOk P w H' s'.heap∧RelV v u∧Q v H'
def CR (CX:CXT) (outer:List Env) (P:Program) (w:World) (H:Hp) (s:Shared) (Q:VK) (E:XK) (r:Result) (s':Shared):Prop :=
 match r with
 | .ok (.ret u)=>CE outer P w H s Q u s'
 | .ok _=>False
 | .error e=>CX outer H s E e s'
structure FnOk (P:Program) (w:World) (K:PySem.W.Frag) (mg:Str→Option Value) (base:Heap) (CX:CXT) (k:Nat) (f:Addr) (fd:FuncData) (ps:List Str) (sp:Sp):Prop where
 len:∀vs H Q E,sp vs H Q E→vs.length=ps.length
 run:∀(A:Around) (outer:List Env) (s:Shared) (H:Hp) (args:Args) (us:List Value) (vs:List V) (Q:VK) (E:XK),Room k A→Env0 P w K mg base A outer s H→BindsTo s fd args (ps.zip us)→Vals vs us→sp vs H Q E →
  codeAny (model P w) A (.call (.ref f) args) (CR CX outer P w H s Q E) s
theorem FnOk.imp {P:Program}{w:World}{K:PySem.W.Frag}{mg:Str→Option Value}{base:Heap}{CX:CXT}{k:Nat}{f:Addr}{fd:FuncData}{ps:List Str}{sp sp':Sp}(F:FnOk P w K mg base CX k f fd ps sp)
  (h:∀vs H Q E,sp' vs H Q E→sp vs H Q E):FnOk P w K mg base CX k f fd ps sp' :=
 ⟨fun vs H Q E q=>F.len vs H Q E (h _ _ _ _ q),fun A outer s H args us vs Q E hr he hb hv hs=>F.run A outer s H args us vs Q E hr he hb hv (h _ _ _ _ hs)⟩
section
variable {X:Cx}{pins:List (Addr × Obj)}{σ:St}{H:Hp}{s s':Shared}
theorem Inv.env0 (I:Inv X pins σ H s):Env0 X.prog X.w X.K X.mg X.base X.A X.stack s H :=
 ⟨I.ok.frames,I.ok.mod,I.bs,Nat.le_trans I.ok.bsz I.sz,I.stack,I.stkFree,I.hok,I.bare⟩
theorem Inv.after {Q:VK}{u:Value}(I:Inv X pins σ H s) (h:CE X.stack X.prog X.w H s Q u s'):EP X pins σ Q u s':=by
 obtain ⟨v,H',os,bare,un,hok,r,q⟩:=h
 obtain ⟨hh,g,d,t,os'⟩:=s'
 obtain rfl:os'=s.os:=os
 exact⟨v,H',I.call (h':=hh) (g':=g) (d':=d) (t':=t) (ch:=[]) un hok bare (fun b z=>absurd z (by simp)),r,q⟩
end

def tCall (sp:Sp) (dvs:List V) (E:XK) (t:TA):TE:=fun σ H Q=>t σ H fun vs H1=>sp (vs++dvs) H1 Q E
def Binds (K:PySem.W.Frag) (fd:FuncData) (ps:List Str) (ds:List Value):Prop :=
 ∀(s:Shared) (us:List Value),K.In s.heap→(us++ds).length=ps.length→BindsTo s fd ⟨us,[]⟩ (ps.zip (us++ds))
theorem Binds.all {K:PySem.W.Frag}{fd:FuncData}{ps:List Str}(h:∀us:List Value,us.length=ps.length→bindArgs fd ⟨us,[]⟩=pure (ps.zip us)):Binds K fd ps []:=fun s us _ hl=>by
 rw [List.append_nil] at hl ⊢
 exact .of_eq (h us hl)
def Passes (CX:CXT) (X:Cx) (E:XK):Prop:=∀(pins:List (Addr × Obj)) (σ:St) (H:Hp) (s:Shared) (e:Value) (s':Shared),Inv X pins σ H s→CX X.stack H s E e s'→X.xe e s'
section
variable {X:Cx}{CX:CXT}{k:Nat}{f C:Addr}{fd:FuncData}{ps:List Str}{sp:Sp}{dvs:List V}{ds:List Value}{E:XK}{x m:Str}{p pos apos:Pos}{e o:Expr}{es:List Expr}{ta:TE}{t:TA}
theorem run_fn {pins:List (Addr × Obj)}{σ:St}{H:Hp}{s:Shared}{Q:VK}{us:List Value}{vs:List V}(F:FnOk X.prog X.w X.K X.mg X.base CX k f fd ps sp) (hr:Room k X.A) (hb:Binds X.K fd ps ds) (hd:Vals dvs ds) (hx:Passes CX X E)
  (I:Inv X pins σ H s) (r:Vals vs us) (h:sp (vs++dvs) H Q E):wpAny (model X.prog X.w) X.A (call (.ref f) us) (EP X pins σ Q) X.xe s:=by
 have r2:Vals (vs++dvs) (us++ds):=r.append hd
 have hl:(us++ds).length=ps.length:=by rw [←r2.length];exact F.len _ _ _ _ h
 refine wpAny_call (codeAny_mono (F.run X.A X.stack s H ⟨us,[]⟩ (us++ds) (vs++dvs) Q E hr I.env0 (hb s us I.kIn hl) r2 h) fun r s' hq=>?_)
 cases r with
 | error e=>exact hx pins σ H s e s' I hq
 | ok fl =>
  cases fl with
  | ret u=>exact I.after hq
  | next=>exact False.elim hq
  | brk=>exact False.elim hq
  | cont=>exact False.elim hq
theorem pe_call (F:FnOk X.prog X.w X.K X.mg X.base CX k f fd ps sp) (hr:Room k X.A) (hg:Gl X x) (hm:X.mg x=some (.ref f)) (hk:PySem.W.keepIn X.K (.ref f)=true) (hb:Binds X.K fd ps ds) (hd:Vals dvs ds) (hx:Passes CX X E)
  (ha:PA X (e::es) t) (hdb:(x==("__debug__" : Str))=false:=by decide) (he:starEach (e::es) X.env=(false,eval e X.env)::starEach es X.env:=by rfl) (hpl:(backTo pos (starEach es X.env)).any (·.1)=false:=by rfl) :
  PE X (.Call (.Name x p) (e::es) [] pos) (tCall sp dvs E t):=by
 intro pins s σ H Q I h
 refine wpAny_Call_Name_kw (ld_glob I hg hm ?_ hdb)
 refine PySem.W.callWith_K (h₀:=X.base) I.ok.mod.kin hk (thn (ha pos pins s σ H _ I h) fun us s1 ⟨vs,H1,I1,r,q⟩=>⟨I1.kIn,?_⟩) he hpl
 exact run_fn F hr hb hd hx I1 r q
end

section
variable {X:Cx}{CX:CXT}{k:Nat}{f C:Addr}{fd:FuncData}{ps ks:List Str}{sp:Sp}{E:XK}{x m:Str}{p pos apos kpos:Pos}{e o:Expr}{es:List Expr}{kws:List Keyword}{te ta:TE}{t tk:TA}{nm:Option Str}
variable {g:List Value→List Value→List Value}{gV:List V→List V→List V}
end

structure FnScope (N P:List Str) (sc:Scope):Prop where
 kind:sc.kind=.function
 co:sc.isCoroutine=false
 gen:sc.isGenerator=false
 nd:N.Nodup
 pre:N.take P.length=P
 par:∀x∈P,sc.names.lookup x=some .local∨sc.names.lookup x=some .cell
 nofree:∀y∈sc.names,y.2 ≠ .free
theorem bindL_out {kindOf:Str→Option NameKind}{x:Str}:∀{binds:List (Str × Value)}{m:Str→Option Value},(∀v,(x,v) ∉ binds)→bindL kindOf binds m x=m x
 | [],_,_=>rfl
 | (n,v)::r,m,h=>by
  unfold bindL
  rw [bindL_out fun w hw=>h w (List.mem_cons_of_mem _ hw)]
  split
  ·have:x≠n:=by rintro rfl;exact h v List.mem_cons_self
   simp [this]
  ·rfl
theorem bindC_out {kindOf:Str→Option NameKind}{x:Str}:∀{binds:List (Str × Value)}{m:Str→Option Value},(∀v,(x,v) ∉ binds)→bindC kindOf binds m x=m x
 | [],_,_=>rfl
 | (n,v)::r,m,h=>by
  unfold bindC
  rw [bindC_out fun w hw=>h w (List.mem_cons_of_mem _ hw)]
  split
  ·rfl
  ·have:x≠n:=by rintro rfl;exact h v List.mem_cons_self
   simp [this]
theorem bindL_get {kindOf:Str→Option NameKind}{x:Str}{v:Value}:∀{P:List Str}{vs:List Value}{i:Nat}{m:Str→Option Value},P.Nodup→P[i]? = some x→vs[i]? = some v→kindOf x=some .local →
  bindL kindOf (P.zip vs) m x=some v
 | [],_,_,_,_,h,_,_=>by simp at h
 | _::_,[],_,_,_,_,h,_=>by simp at h
 | p::P,w::vs,0,m,nd,h1,h2,hk=>by
  simp at h1 h2;subst h1;subst h2
  show bindL kindOf ((p,w)::P.zip vs) m p=_
  unfold bindL
  rw [bindL_out fun v hv=>(List.nodup_cons.mp nd).1 (List.of_mem_zip hv).1,if_pos hk]
  simp
 | p::P,w::vs,i+1,m,nd,h1,h2,hk=>by
  show bindL kindOf ((p,w)::P.zip vs) m x=_
  unfold bindL
  exact bindL_get (i:=i) (List.nodup_cons.mp nd).2 (by simpa using h1) (by simpa using h2) hk
theorem bindC_get {kindOf:Str→Option NameKind}{x:Str}{v:Value}:∀{P:List Str}{vs:List Value}{i:Nat}{m:Str→Option Value},P.Nodup→P[i]? = some x→vs[i]? = some v→kindOf x≠some .local →
  bindC kindOf (P.zip vs) m x=some v
 | [],_,_,_,_,h,_,_=>by simp at h
 | _::_,[],_,_,_,_,h,_=>by simp at h
 | p::P,w::vs,0,m,nd,h1,h2,hk=>by
  simp at h1 h2;subst h1;subst h2
  show bindC kindOf ((p,w)::P.zip vs) m p=_
  unfold bindC
  rw [bindC_out fun v hv=>(List.nodup_cons.mp nd).1 (List.of_mem_zip hv).1,if_neg hk]
  simp
 | p::P,w::vs,i+1,m,nd,h1,h2,hk=>by
  show bindC kindOf ((p,w)::P.zip vs) m x=_
  unfold bindC
  exact bindC_get (i:=i) (List.nodup_cons.mp nd).2 (by simpa using h1) (by simpa using h2) hk
def start (N:List Str) (vs:List V):St:=vs.map some++List.replicate (N.length - vs.length) none
def cxOf (CX:CXT) (P:Program) (w:World) (K:PySem.W.Frag) (mg:Str→Option Value) (base:Heap) (N:List Str) (qual:Str) (scope:Scope) (f:Addr) (cd:Value) (A:Around) (outer:List Env) (s:Shared) (H:Hp) (E:XK):Cx where
 prog:=P
 w:=w
 K:=K
 mg:=mg
 base:=base
 A:=A.deeper (envOfC qual scope s.heap.objs.size f cd)
 N:=N
 s₀:=s
 H₀:=H
 env:=envOfC qual scope s.heap.objs.size f cd
 outer:=outer
 stack:=envOfC qual scope s.heap.objs.size f cd::outer
 ex:=[]
 calm:=true
 fn:=fun _=>true
 pn:=[]
 xe:=fun e s'=>wpAny (model P w) (A.deeper (envOfC qual scope s.heap.objs.size f cd)) (leaving (envOfC qual scope s.heap.objs.size f cd) e) (fun _ s''=>CX outer H s E e s'') (fun e' s''=>CX outer H s E e' s'') s'
theorem cell_has {sc:Scope}{n:Nat}{x:Str}(h:sc.names.lookup x=some .cell):∃c,(cellsFrom n sc.names []).lookup x=some c:=by
 have q:=PySem.W.cellsFrom_some sc.names n [] (.inl h)
 exact Option.isSome_iff_exists.mp q
theorem inv_start {CX:CXT}{P:Program}{w:World}{K:PySem.W.Frag}{mg:Str→Option Value}{base:Heap}{N ps:List Str}{qual:Str}{scope:Scope}{f:Addr}{cd:Value}{A:Around}{outer:List Env}{s s1:Shared}{H:Hp}{E:XK}{us:List Value}{vs:List V}
  (S:FnScope N ps scope) (hd:A.handled=none) (e0:Env0 P w K mg base A outer s H) (hl:vs.length=ps.length) (r:Vals vs us)
  (x:InCallC s s.heap.objs.size (bindL (envOfC qual scope s.heap.objs.size f cd).kindOf (ps.zip us) fun _=>none) (cellsFrom (s.heap.objs.size+1) scope.names []) (bindC (envOfC qual scope s.heap.objs.size f cd).kindOf (ps.zip us) fun _=>none) s1) :
  Inv (cxOf CX P w K mg base N qual scope f cd A outer s H E) [] (start N vs) H s1:=by
 have hpl:ps.length≤N.length:=by have:=congrArg List.length S.pre;rw [List.length_take] at this;lia
 refine L2.ob_eea x.done fun h1 tk e_2 hk=>?_;subst e_2
 have noA:∀b:Addr,b ∉ (cxOf CX P w K mg base N qual scope f cd A outer s H E).ex:=fun b z=>absurd (show b∈([]:List Addr) from z) (by simp)
 refine⟨⟨e0.mod,S.kind,rfl,rfl,Nat.le_refl _,fun y z c h1 h2=>?_,fun y hy=>?_,fun y c _ h=>?_,fun _=>hd,Around.frames_deeper e0.frames,.inr ⟨rfl,rfl⟩,fun b z=>absurd z (noA b),e0.bs,e0.bsz,fun b _ _=>noA b,fun b z=>absurd z (noA b),e0.funs,e0.frf⟩,
  rfl,e0.bare,Un.kept hk,⟨_,x.toInCall.ns,fun i y v h1 h2 h3=>?_⟩,fun y c h=>⟨_,x.cell y c h⟩,e0.hok.fresh (Nat.le_refl _),fun y c h=>?_,fun p hp=>absurd (show p∈([]:List (Addr × Obj)) from hp) (by simp),e0.hok.kept hk,?_⟩
 ·exact name_of_addr x.apart (PySem.mem_of_lookup h1) (PySem.mem_of_lookup h2)
 ·have hy:scope.names.lookup y=some .cell∨scope.names.lookup y=some .free:=hy
  rcases hy with hy|hy
  ·exact cell_has hy
  ·exact absurd rfl (S.nofree _ (PySem.mem_of_lookup hy))
 ·exact Nat.le_of_lt (x.above y c (PySem.mem_of_lookup h))
 ·have hi:i<vs.length:=by
   unfold start at h2
   by_cases hi:i<vs.length
   ·exact hi
   ·rw [List.getElem?_append_right (by simpa using hi)] at h2
    rw [List.getElem?_replicate] at h2
    split at h2 <;> cases h2
  have ha:vs[i]? = some v:=by
   unfold start at h2
   rw [List.getElem?_append_left (by simpa using hi),List.getElem?_map] at h2
   cases e:vs[i]? with
   | none=>rw [e] at h2;cases h2
   | some a=>rw [e] at h2;cases h2;rfl
  refine L2.ob_ea (r.get ha) fun u hu rv=>?_
  have hp:ps[i]? = some y:=by
   rw [←S.pre,List.getElem?_take_of_lt (by lia)];exact h1
  have ndP:ps.Nodup:=by rw [←S.pre];exact S.nd.sublist (List.take_sublist _ _)
  refine⟨u,rv,?_⟩
  rcases S.par y (List.mem_of_getElem? hp) with k|k
  ·exact .inl ⟨k,bindL_get ndP hp hu k⟩
  ·obtain ⟨c,e⟩:=cell_has (n:=s.heap.objs.size+1) k
   refine .inr ⟨.inl k,c,e,?_⟩
   have q:=x.cell y c e
   rw [bindC_get ndP hp hu (by show scope.names.lookup y≠_;rw [k];decide)] at q
   exact q
 ·exact e0.hok.fresh (Nat.le_of_lt (x.above y c (PySem.mem_of_lookup h)))
 ·unfold start
  show _=N.length
  rw [List.length_append,List.length_map,List.length_replicate]
  lia
theorem fn_of {CX:CXT}{P:Program}{w:World}{K:PySem.W.Frag}{mg:Str→Option Value}{base:Heap}{k:Nat}{f:Addr}{name qual:Str}{params:Arguments}{body:List Stmt}{scope:Scope}{dV kV doc pm cdv ct oc:Value}{an od:Option Addr}
  {osl:Array (Option Value)}{N ps:List Str}{sp:Sp}(lk:K.lookup f=some ⟨oc,od,.func (PySem.W.fnOf name qual params body scope dV kV doc pm an cdv ct),osl⟩) (hcd:PySem.W.codeIn K cdv qual=true) (S:FnScope N ps scope)
  (len:∀vs H Q E,sp vs H Q E→vs.length=ps.length)
  (hbody:∀(A:Around) (outer:List Env) (s:Shared) (H:Hp) (vs:List V) (Q:VK) (E:XK),Room k (A.deeper (envOfC qual scope s.heap.objs.size f cdv))→sp vs H Q E →
   ∃t,PSs (cxOf CX P w K mg base N qual scope f cdv A outer s H E) body t∧t { nx:=fun _ H'=>Q .non H',rt:=Q } (start N vs) H) :
  FnOk P w K mg base CX (k+1) f (PySem.W.fnOf name qual params body scope dV kV doc pm an cdv ct) ps sp:=by
 refine⟨len,fun A outer s H args us vs Q E hr e0 hb r hsp=>?_⟩
 have hl:=len _ _ _ _ hsp
 have KX:K.In s.heap:=e0.mod.kin.keeps fun b o e=>(e0.bs b o e).1
 have lim:s.heap.NoLimit:=e0.mod.nolimit.keeps fun b o e=>(e0.bs b o e).1
 have hkind:∀y∈ps.zip us,scope.names.lookup y.1=some .local∨(scope.names.lookup y.1=some .cell∧((cellsFrom (s.heap.objs.size+1) scope.names []).lookup y.1).isSome=true):=fun ⟨n,v⟩ hy=>by
  rcases S.par n (List.of_mem_zip hy).1 with q|q
  ·exact .inl q
  ·exact .inr ⟨q,PySem.W.cellsFrom_some _ _ _ (.inl q)⟩
 refine codeAny_call_function hr.depth (KX _ _ lk) rfl S.co S.gen rfl (PySem.W.codeRec_of KX hcd) (hb _ _ _ _ ?_)
 refine wpAny_newFunctionEnv_cells S.kind hkind fun env he s1 x=>?_
 subst he
 refine⟨lim.keeps x.toInCall.keep,codeAny_func ?_⟩
 refine L2.ob_ea (hbody A outer s H vs Q E (hr.deeper _) hsp) fun t ht hq=>?_
 have I:Inv (cxOf CX P w K mg base N qual scope f cdv A outer s H E) [] (start N vs) H s1:=inv_start S hr.hd e0 hl r x
 refine wpAny_mono (ht [] s1 (start N vs) H _ I hq) (fun fl s' hs=>?_) fun e s' hs=>hs
 have fin:∀{σ':St}{H':Hp}{v:V}{u:Value},Inv (cxOf CX P w K mg base N qual scope f cdv A outer s H E) [] σ' H' s'→RelV v u→Q v H'→CE outer P w H s Q u s' :=
  fun {σ' H' v u} J rv q=>⟨v,H',J.os,J.bare,J.base,J.hok,rv,q⟩
 cases fl with
 | ret u =>
  obtain ⟨v,σ',H',J,rv,q⟩:=hs
  exact fin J rv q
 | next =>
  obtain ⟨σ',H',J,q⟩:=hs
  exact fin (v:=V.non) (u:=Value.none) J rfl q
 | brk =>
  obtain ⟨_,_,_,q⟩:=hs
  exact False.elim q
 | cont =>
  obtain ⟨_,_,_,q⟩:=hs
  exact False.elim q
end L2

namespace L2
open PySem PySem.Spec PyProof.Rows
section
variable {X:Cx}{x:Str}{p pos:Pos}{e:Expr}{es:List Expr}{t:TA}{id T:String}{r:List V→Hp→VK→Prop}
def tCB (r:List V→Hp→VK→Prop) (t:TA):TE:=fun σ H Q=>t σ H fun vs H1=>r vs H1 Q
theorem pe_callB (hc:CallR X (.builtin id) r) (hg:Gl X x) (hm:X.mg x=none) (hv:bootBuiltins x=some (.builtin id)) (ha:PA X (e::es) t) (hn:x ≠ "__name__" := by decide) (hdb:(x==("__debug__" : Str))=false:=by decide)
  (he:starEach (e::es) X.env=(false,eval e X.env)::starEach es X.env:=by rfl) (hpl:(backTo pos (starEach es X.env)).any (·.1)=false:=by rfl):PE X (.Call (.Name x p) (e::es) [] pos) (tCB r t):=by
 intro pins s σ H Q I h
 refine wpAny_Call_Name_kw (ld_blt I hg hm hv ?_ hn hdb)
 exact PyProof.Rows.callWith_builtin1 (thn (ha pos pins s σ H _ I h) fun us s1 ⟨vs,H1,I1,r1,q1⟩=>hc pins s1 σ H1 vs us Q I1 r1 q1) he hpl
theorem pe_callTy (hc:CallR X (.type T) r) (hg:Gl X x) (hm:X.mg x=none) (hv:bootBuiltins x=some (.type T)) (ha:PA X (e::es) t) (hn:x ≠ "__name__" := by decide) (hdb:(x==("__debug__" : Str))=false:=by decide)
  (he:starEach (e::es) X.env=(false,eval e X.env)::starEach es X.env:=by rfl) (hpl:(backTo pos (starEach es X.env)).any (·.1)=false:=by rfl):PE X (.Call (.Name x p) (e::es) [] pos) (tCB r t):=by
 intro pins s σ H Q I h
 refine wpAny_Call_Name_kw (ld_blt I hg hm hv ?_ hn hdb)
 exact PyProof.Rows.callWith_type1 (thn (ha pos pins s σ H _ I h) fun us s1 ⟨vs,H1,I1,r1,q1⟩=>hc pins s1 σ H1 vs us Q I1 r1 q1) he hpl
end
end L2

namespace HT
open PySem PyProof.Rows
section
open PySem.SeqAt
open PySem.AutoSeq1 (wpAny_loadPart')
open PySem.MeetsSeq PySem.MeetsSeq2 PySem.MeetsSeq3
end

section
variable {prog:Program}{w:World}{A:Around}{E:Value→Shared→Prop}{s:Shared}
theorem cat_tup {t b:Addr}{vs ws:List Value}{Q:Value→Shared→Prop}(ht:IsTup s.heap t vs.toArray) (hb:IsTup s.heap b ws.toArray) (hv:vs≠[])
  (h1:ws=[]→Q (.ref t) s) (h2:ws≠[]→Q (.ref s.heap.objs.size) { s with heap:=s.heap.push { cls:=.type "tuple", data:=.seq (vs++ws).toArray } })
  (hsz:vs.length+ws.length≤sizeLine):wpAny (model prog w) A (binaryOp .Add (.ref t) (.ref b)) Q E s:=by
 obtain ⟨⟨cls,dd,data,sl⟩,ho,hc,n,hd⟩:=id ht
 obtain ⟨⟨cls2,dd2,data2,sl2⟩,ho2,hc2,n2,hd2⟩:=id hb
 simp only at hc hd hc2 hd2
 subst hc hd hc2 hd2
 have e:vs.toArray++ws.toArray=(vs++ws).toArray:=by simp
 by_cases hw:ws=[]
 ·exact concat_meets ⟨_,ho,rfl⟩ ⟨_,ho2,rfl⟩ noFill_tuple_add seq_tuple_add PySem.F.slot_tuple_add PySem.F.entry_tuple_add (PySem.F.args_tuple_add_2 _ _)
   (tuple_addW1 t b vs.toArray ws.toArray n n2 dd dd2 sl sl2 (by simpa using hv) (by simp [hw])) ⟨ho,ho2,h1 hw⟩
 ·refine concat_meets ⟨_,ho,rfl⟩ ⟨_,ho2,rfl⟩ noFill_tuple_add seq_tuple_add PySem.F.slot_tuple_add PySem.F.entry_tuple_add (PySem.F.args_tuple_add_2 _ _)
   (tuple_addW2 t b vs.toArray ws.toArray n n2 dd dd2 sl sl2 (by simpa using hv) (by simpa using hw) (by rw [List.size_toArray,List.size_toArray];exact hsz)) ⟨ho,ho2,?_⟩
  rw [e]
  exact h2 hw
def sIx (n d:Nat):Option Int→Nat
 | none=>d
 | some v=>if v<0 then (v+(n:Int)).toNat else min v.toNat n
theorem sIx_nat (n d k:Nat):sIx n d (some (k:Int))=min k n:=by
 show (if (k:Int)<0 then ((k:Int)+(n:Int)).toNat else min (k:Int).toNat n)=min k n
 rw [if_neg (by simp),Int.toNat_natCast]
theorem sIx_le (n d:Nat) (hd:d≤n) (o:Option Int):sIx n d o≤n:=by
 cases o with
 | none=>exact hd
 | some v =>
  show (if v<0 then (v+(n:Int)).toNat else min v.toNat n)≤n
  by_cases hv:v<0
  ·rw [if_pos hv];lia
  ·rw [if_neg hv];exact Nat.min_le_right _ _
theorem clip_eq (v:Int) (n d:Nat):(if v<0 then max (v+(n:Int)) 0 else min v (n:Int))=((sIx n d (some v):Nat):Int):=by
 show (if v<0 then max (v+(n:Int)) 0 else min v (n:Int))=(((if v<0 then (v+(n:Int)).toNat else min v.toNat n):Nat):Int)
 by_cases hv:v<0
 ·simp only [if_pos hv];lia
 ·simp only [if_neg hv];lia
theorem adjust_gen (lo hi:Option Int) (n:Nat):Builtin.Slice.sliceAdjust lo hi 1 (n:Int)=(((sIx n 0 lo:Nat):Int),((sIx n n hi:Nat):Int)):=by
 have h1:¬((1:Int)<0):=by lia
 unfold Builtin.Slice.sliceAdjust
 simp only [h1,if_false]
 refine Prod.ext ?_ ?_
 ·cases lo with
  | none=>rfl
  | some v=>exact clip_eq v n 0
 ·cases hi with
  | none=>rfl
  | some v=>exact clip_eq v n n
theorem places_gen (i j:Nat):Builtin.Slice.slicePlaces (i:Int) (j:Int) 1=j - i:=by
 unfold Builtin.Slice.slicePlaces
 have h1:(1:Int) > 0:=by exact Int.natCast_nonneg _
 simp only [h1,if_true,Int.ediv_one]
 split <;> lia
theorem slicePart_ {v:Value}{o:Option Int}{Q:Option Int→Shared→Prop}(p:IsPart v o) (h:Q o s):wpAny (model prog w) A (Builtin.Slice.slicePartIndex v) Q E s:=by
 cases p with
 | none=>exact slicePart_none h
 | int i t=>exact slicePart_int h
theorem sliceApplied_gen {sl:Addr}{vl vu:Value}{lo hi:Option Int}{n:Nat}{Q:Int × Int × Nat→Shared→Prop}(hs:s.heap.IsSliceOf sl vl vu .none) (pl:IsPart vl lo) (pu:IsPart vu hi)
  (h:Q (((sIx n 0 lo:Nat):Int),1,sIx n n hi - sIx n 0 lo) s):wpAny (model prog w) A (Builtin.Slice.sliceApplied (.ref sl) (pure (n:Int))) Q E s:=by
 obtain ⟨os,hos,hcs,hds⟩:=id hs
 unfold Builtin.Slice.sliceApplied Builtin.Slice.sliceFields
 refine wpAny_bind (wpAny_bind (wpAny_field hos hds (x:=vl) rfl (wpAny_bind (wpAny_field hos hds (x:=vu) rfl (wpAny_bind (wpAny_field hos hds (x:=.none) rfl (wpAny_pure ?_)))))))
 refine wpAny_bind (slicePart_none ?_)
 show wpAny _ _ (if ((1:Int)==0)=true then _ else _) _ _ s
 rw [if_neg (by decide)]
 refine wpAny_bind (slicePart_ pl (wpAny_bind (slicePart_ pu (wpAny_bind (wpAny_pure ?_)))))
 show wpAny _ _ (match Builtin.Slice.sliceAdjust lo hi 1 (n:Int) with|(lo,hi)=>pure (lo,(1:Int),Builtin.Slice.slicePlaces lo hi 1)) _ _ s
 rw [adjust_gen lo hi n]
 show wpAny _ _ (pure (((sIx n 0 lo:Nat):Int),(1:Int),Builtin.Slice.slicePlaces ((sIx n 0 lo:Nat):Int) ((sIx n n hi:Nat):Int) 1)) _ _ s
 rw [places_gen]
 exact wpAny_pure h
theorem pick_gen (xs:Array Value) (i k:Nat):((List.range k).filterMap fun (m:Nat)=>xs[((i:Int)+(m:Int)*1).toNat]?).toArray=((xs.toList.drop i).take k).toArray:=by
 have e:(fun (m:Nat)=>xs[((i:Int)+(m:Int)*1).toNat]?)=fun m=>xs[i+m]? := by
  funext m
  have:((i:Int)+(m:Int)*1).toNat=i+m:=by lia
  rw [this]
 rw [e]
 have:=pick_run xs i k
 rw [List.filterMap_map] at this
 have e2:((fun x=>xs[x]?) ∘ fun x=>i+x)=fun m=>xs[i+m]? := rfl
 rw [e2] at this
 rw [this]
theorem getItem_tuple_cut {t sl:Addr}{items:Array Value}{vl vu:Value}{lo hi:Option Int}{Q:Value→Shared→Prop}(ht:IsTup s.heap t items) (hs:s.heap.IsSliceOf sl vl vu .none) (pl:IsPart vl lo) (pu:IsPart vu hi)
  (hw:¬(sIx items.size 0 lo=0∧sIx items.size items.size hi=items.size))
  (h:Q (.ref s.heap.objs.size) { s with heap:=s.heap.push { cls:=.type "tuple", data:=.seq ((items.toList.drop (sIx items.size 0 lo)).take (sIx items.size items.size hi - sIx items.size 0 lo)).toArray } })
  (hsz:items.size≤sizeLine):wpAny (model prog w) A (getItem (.ref t) (.ref sl)) Q E s:=by
 have htake:sizeOk (.seq ((items.toList.drop (sIx items.size 0 lo)).take (sIx items.size items.size hi - sIx items.size 0 lo)).toArray):=by
  show ((items.toList.drop (sIx items.size 0 lo)).take (sIx items.size items.size hi - sIx items.size 0 lo)).toArray.size≤sizeLine
  rw [List.size_toArray,List.length_take,List.length_drop,Array.length_toList]
  lia
 have hj:sIx items.size items.size hi≤items.size:=sIx_le _ _ (Nat.le_refl _) hi
 obtain ⟨os,hos,hcs,hds⟩:=id hs
 have hTs:s.TypeIs (.ref sl) "slice" := ⟨os,hos,hcs⟩
 unfold getItem
 try with_reducible refine wpAny_holding ?_
 first|refine wpAny_bind (wpAny_pure ?_)|skip
 refine wpAny_bind (wpAny_sequenceKey ht.typeIs (by decide) ?_)
 refine wpAny_bind (wpAny_callSpecial?_slot (name:=Str.ofString "__getitem__") ht.typeIs PyProof.Rows.slot_tuple_getitem
  (wpAny_call_entry PyProof.Rows.slot_tuple_getitem ht.typeIs entry_tuple_getitem ?_ (args_tuple_getitem _ _)))
 show wpAny _ _ (Builtin.Tuple.tupleItemsOf (.ref t) >>= _) _ _ s
 refine wpAny_bind (tupleItemsOf_ ht ?_)
 refine wpAny_bind (wpAny_typeOf hTs ?_)
 rw [if_pos (by decide)]
 refine wpAny_bind (sliceApplied_gen hs pl pu ?_)
 have hno:¬((((sIx items.size 0 lo:Nat):Int)==0 && (1:Int)==1 && (sIx items.size items.size hi - sIx items.size 0 lo)==items.size)=true):=by
  intro q
  rw [Bool.and_eq_true,Bool.and_eq_true] at q
  have q1:((sIx items.size 0 lo:Nat):Int)=0:=eq_of_beq q.1.1
  have q2:sIx items.size items.size hi - sIx items.size 0 lo=items.size:=eq_of_beq q.2
  exact hw ⟨by lia,by lia⟩
 show wpAny _ _ (if (((sIx items.size 0 lo:Nat):Int)==0 && (1:Int)==1 && (sIx items.size items.size hi - sIx items.size 0 lo)==items.size)=true then _ else _) _ _ s
 rw [if_neg hno,pick_gen]
 first
  | exact wpAny_bind (m:=Builtin.Tuple.tupleExact _) (wpAny_newObj_type (wpAny_pure ⟨_,rfl,wpAny_pure h⟩) htake)
  | exact wpAny_bind (m:=Builtin.Tuple.tupleExact _) (wpAny_newObj_type (wpAny_bind (wpAny_pure (wpAny_pure ⟨_,rfl,wpAny_pure h⟩))) htake)
  | exact wpAny_bind (wpAny_bind (m:=Builtin.Tuple.tupleExact _) (wpAny_newObj_type (wpAny_pure (wpAny_pure ⟨_,rfl,wpAny_pure h⟩)) htake))
  | exact wpAny_bind (wpAny_bind (m:=Builtin.Tuple.tupleExact _) (wpAny_newObj_type (wpAny_pure ⟨_,rfl,wpAny_pure h⟩) htake))
end
end HT

namespace L2
open PySem PySem.Spec PyProof.Rows
abbrev TO:=St→Hp→(Option Int→Hp→Prop)→Prop
inductive POk (X:Cx) (pins:List (Addr × Obj)) (σ:St) (Q:Option Int→Hp→Prop) (u:Value) (s':Shared):Prop
 | mk:∀o H',Inv X pins σ H' s'→IsPart u o→Q o H'→POk X pins σ Q u s'
def PO (X:Cx) (e:Option Expr) (t:TO):Prop :=
 ∀(pins:List (Addr × Obj)) (s:Shared) (σ:St) (H:Hp) (Q:Option Int→Hp→Prop),Inv X pins σ H s→t σ H Q →
  wpAny (model X.prog X.w) X.A (evalPart e X.env) (fun u s'=>POk X pins σ Q u s') X.xe s
def tNoPart:TO:=fun _ H Q=>Q none H
def tPart_b (Q:Option Int→Hp→Prop) (x:V) (H1:Hp):Prop:=onI x fun i=>Q (some i) H1
theorem tPart_b.ex {Q:Option Int→Hp→Prop}{x:V}{H1:Hp}(h:tPart_b Q x H1):∃i,x=.int i∧Q (some i) H1:=onI.ex h
def tPart (t:TE):TO:=fun σ H Q=>t σ H (tPart_b Q)
section
variable {X:Cx}{e:Expr}{te:TE}{lo hi:Option Expr}{tl th:TO}{pos p2:Pos}
theorem po_none:PO X none tNoPart:=by
 intro pins s σ H Q I h
 rw [evalPart_none]
 exact wpAny_pure ⟨none,H,I,.none,h⟩
theorem po_some (h:PE X e te):PO X (some e) (tPart te):=by
 intro pins s σ H Q I hw
 rw [evalPart_some]
 refine thn (h pins s σ H _ I hw) fun u s1 ⟨x,H1,I1,r1,q1⟩=>?_
 obtain ⟨i,rfl,q⟩:=tPart_b.ex q1
 obtain ⟨t,rfl⟩:=r1
 exact⟨some i,H1,I1,.int i t,q⟩
def SlR (X:Cx) (r:V→Option Int→Option Int→Hp→VK→Prop):Prop :=
 ∀(pins:List (Addr × Obj)) (s:Shared) (σ:St) (H:Hp) (x:V) (v vl vu:Value) (lo hi:Option Int) (sl:Addr) (Q:VK),Inv X pins σ H s→RelV x v→s.heap.IsSliceOf sl vl vu .none→IsPart vl lo→IsPart vu hi→r x lo hi H Q →
  ∃T id,typeLookup (.type T) "__getitem__" = pure (some (.builtin id))∧s.TypeIs v T∧wpAny (model X.prog X.w) X.A (getItem v (.ref sl)) (EP X pins σ Q) X.xe s
def tSl (r:V→Option Int→Option Int→Hp→VK→Prop) (te:TE) (tl th:TO):TE:=fun σ H Q=>te σ H fun x H1=>tl σ H1 fun l H2=>th σ H2 fun u H3=>r x l u H3 Q
theorem pe_slice {r:V→Option Int→Option Int→Hp→VK→Prop}(hr:SlR X r) (he:PE X e te) (hl:PO X lo tl) (hu:PO X hi th):PE X (.Subscript e (.Slice lo hi none p2) pos) (tSl r te tl th):=by
 intro pins s σ H Q I h
 refine Subscript_ (thn (he pins s σ H _ I h) fun v s1 ⟨x,H1,I1,r1,q1⟩=>?_)
 refine wpAny_Slice (thn (hl pins s1 σ H1 _ I1 q1) fun vl s2 ⟨l,H2,I2,pl,q2⟩=>thn (hu pins s2 σ H2 _ I2 q2) fun vu s3 ⟨u,H3,I3,pu,q3⟩=>?_)
 rw [evalPart_none]
 refine wpAny_pure ?_
 have I4:Inv X pins σ H3 { s3 with heap:=s3.heap.push { cls:=.type "slice", data:=.fields #[vl,vu,.none] } }:=I3.kept (t':=s3.toks) fun b ob q=>Heap.get?_push_of_some _ q
 refine L2.ob_eeaa (hr pins { s3 with heap:=s3.heap.push { cls:=.type "slice", data:=.fields #[vl,vu,.none] } } σ H3 x v vl vu l u s3.heap.objs.size Q I4 r1 (Heap.IsSliceOf.new ..) pl pu q3) fun T id hT ht hg=>?_
 show wpAny (model X.prog X.w) X.A (subscriptTail e (.Slice lo hi none p2) v (.ref s3.heap.objs.size)) (EP X pins σ Q) X.xe { s3 with heap:=s3.heap.push { cls:=.type "slice", data:=.fields #[vl,vu,.none] } }
 exact tail_any (ops:=[.ref s3.heap.objs.size,v]) ht hT hg (by with_unfolding_all rfl)
def cutV (xs:List V) (lo hi:Option Int):List V:=(xs.drop (HT.sIx xs.length 0 lo)).take (HT.sIx xs.length xs.length hi - HT.sIx xs.length 0 lo)
theorem cutV_length (xs:List V) (lo hi:Option Int):(cutV xs lo hi).length≤xs.length:=by
 unfold cutV
 rw [List.length_take,List.length_drop]
 lia
def rSlT (K:PySem.W.Frag):V→Option Int→Option Int→Hp→VK→Prop:=fun x lo hi H Q=>∃a xs,x=.ref a∧SqT K H a xs ∧
 ¬(HT.sIx xs.length 0 lo=0∧HT.sIx xs.length xs.length hi=xs.length)∧∀p,H p=none→Q (.ref p) (upd H p (.tup (cutV xs lo hi)))
theorem sl_tup:SlR X (rSlT X.K):=by
 intro pins s σ H x v vl vu lo hi sl Q I rx hs pl pu h
 obtain ⟨a,xs,rfl,hx,hw,q⟩:=h
 cases rx
 refine L2.ob_eaa (I.tuple hx) fun its r ht hz=>?_
 have hlen:its.toArray.size=xs.length:=by rw [List.size_toArray];exact r.length.symm
 refine⟨"tuple", _,PyProof.Rows.slot_tuple_getitem.lookup,ht.typeIs,?_⟩
 refine HT.getItem_tuple_cut ht hs pl pu (by rw [hlen];exact hw) ?_ (by rw [hlen];exact hz)
 rw [hlen]
 refine⟨.ref s.heap.objs.size,_,I.laid (t':=s.toks) (o:=.tup (cutV xs lo hi)) (fun b ob q=>Heap.get?_push_of_some _ q) (Nat.le_refl _) ?_,rfl,q _ (I.hok.fresh (Nat.le_refl _))⟩
 exact⟨Nat.le_trans (cutV_length xs lo hi) hz,_,(r.drop (HT.sIx xs.length 0 lo)).take (HT.sIx xs.length xs.length hi - HT.sIx xs.length 0 lo),IsTup.new _ _⟩
def rCatT (K:PySem.W.Frag):R2:=fun x y H Q=>∃a b xs ys,x=.ref a∧y=.ref b∧SqT K H a xs∧SqT K H b ys∧xs≠[]∧xs.length+ys.length≤sizeLine ∧
 (ys=[]→Q (.ref a) H)∧(ys≠[]→∀p,H p=none→Q (.ref p) (upd H p (.tup (xs++ys))))
theorem Vals.nil_iff {xs:List V}{us:List Value}(r:Vals xs us):us=[]↔xs=[]:=by
 cases r with
 | nil=>simp
 | cons _ _=>simp
theorem op_catT:OpR X (binaryOp .Add) (rCatT X.K):=by
 intro pins s σ H x y v u Q I rx ry h
 obtain ⟨a,b,xs,ys,rfl,rfl,ha,hb,hx,hz,q1,q2⟩:=h
 cases rx
 cases ry
 refine L2.ob_eaa (I.tuple ha) fun its r1 p1 _=>?_
 refine L2.ob_eaa (I.tuple hb) fun its2 r2 p2 _=>?_
 refine HT.cat_tup p1 p2 (fun z=>hx (r1.nil_iff.mp z)) (fun z=>⟨.ref a,H,I,rfl,q1 (r2.nil_iff.mp z)⟩) (fun z=>?_) (by rw [←r1.length,←r2.length];exact hz)
 refine⟨.ref s.heap.objs.size,_,I.laid (t':=s.toks) (o:=.tup (xs++ys)) (fun b ob q=>Heap.get?_push_of_some _ q) (Nat.le_refl _) ?_,rfl,q2 (fun w=>z (r2.nil_iff.mpr w)) _ (I.hok.fresh (Nat.le_refl _))⟩
 exact⟨by rw [List.length_append];exact hz,_,r1.append r2,IsTup.new _ _⟩
end
end L2

namespace L2
open PySem PySem.Spec PyProof.Rows
def ixN (n:Nat) (i:Int):Option Nat:=if 0≤i then (if i<n then some i.toNat else none) else if -(n:Int)≤i then some (i+n).toNat else none
def atI {α:Type}(xs:List α) (i:Int):Option α:=(ixN xs.length i).bind fun j=>xs[j]?
theorem ixN_seq {n:Nat}{i:Int}{j:Nat}(h:ixN n i=some j):seqIndex? i n=some j∧j<n∧-(n:Int)≤i∧i<n:=by
 unfold ixN at h
 by_cases h0:0≤i
 ·rw [if_pos h0] at h
  by_cases h1:i<n
  ·rw [if_pos h1] at h
   have e:i.toNat=j:=Option.some.inj h
   exact⟨by rw [seqIndex_of h0 h1,e],by lia,by lia,h1⟩
  ·rw [if_neg h1] at h;cases h
 ·rw [if_neg h0] at h
  by_cases h1:-(n:Int)≤i
  ·rw [if_pos h1] at h
   have e:(i+n).toNat=j:=Option.some.inj h
   exact⟨by rw [seqIndex_neg (by lia) h1,e],by lia,h1,by lia⟩
  ·rw [if_neg h1] at h;cases h
theorem atI_get {α:Type}{xs:List α}{i:Int}{v:α}(h:atI xs i=some v):∃j,seqIndex? i xs.length=some j∧xs[j]? = some v∧j<xs.length∧-(xs.length:Int)≤i∧i<xs.length:=by
 unfold atI at h
 cases e:ixN xs.length i with
 | none=>rw [e] at h;cases h
 | some j =>
  rw [e] at h
  refine L2.ob_aaa (ixN_seq e) fun h1 h2 h3 h4=>?_
  exact⟨j,h1,h,h2,h3,h4⟩
theorem atI_nat {α:Type}{xs:List α}{j:Nat}{v:α}(h:xs[j]? = some v):atI xs (j:Int)=some v:=by
 have hj:j<xs.length:=(List.getElem?_eq_some_iff.mp h).1
 have e:ixN xs.length (j:Int)=some j:=by
  unfold ixN
  rw [if_pos (by exact Int.natCast_nonneg _),if_pos (by lia)];simp
 unfold atI;rw [e];exact h
def PlainIx (b:Expr):Prop:=∀o i,subscripted b false o i=operate [o,i] (getItem o i)
def IxR (X:Cx) (r:R2):Prop :=
 ∀(value slice:Expr) (pins:List (Addr × Obj)) (s:Shared) (σ:St) (H:Hp) (x y:V) (v u:Value) (Q:VK),Inv X pins σ H s→RelV x v→RelV y u→r x y H Q →
  subscripted slice false v u=operate [v,u] (getItem v u)→wpAny (model X.prog X.w) X.A (subscriptTail value slice v u) (EP X pins σ Q) X.xe s
def MtR (X:Cx) (id:String) (r:V→List V→Hp→VK→Prop):Prop :=
 ∀(pins:List (Addr × Obj)) (s:Shared) (σ:St) (H:Hp) (x:V) (xs:List V) (v:Value) (us:List Value) (Q:VK),Inv X pins σ H s→RelV x v→Vals xs us→r x xs H Q →
  wpAny (model X.prog X.w) X.A (call (.builtin id) (v::us)) (EP X pins σ Q) X.xe s
section
variable {X:Cx}{a b:Expr}{ta tb:TE}{pos:Pos}
theorem pe_ix {r:R2}(hr:IxR X r) (ha:PE X a ta) (hb:PE X b tb) (hs:PlainIx b):PE X (.Subscript a b pos) (tOp r ta tb):=by
 intro pins s σ H Q I h
 exact Subscript_ (binT ha hb I h fun v u s2 x y H2 I2 rx ry q=>hr a b pins s2 σ H2 x y v u Q I2 rx ry q (hs _ _))
inductive rIxL (K:PySem.W.Frag) (x:V) (y:V) (H:Hp) (Q:VK):Prop
 | mk:∀p xs i v,(x=.ref p)→(y=.int i)→(SqL K H p xs)→(atI xs i=some v)→(Q v H)→rIxL K x y H Q
inductive rIxT (K:PySem.W.Frag) (x:V) (y:V) (H:Hp) (Q:VK):Prop
 | mk:∀p xs i v,(x=.ref p)→(y=.int i)→(SqT K H p xs)→(atI xs i=some v)→(Q v H)→rIxT K x y H Q
theorem ix_list:IxR X (rIxL X.K):=by
 intro value slice pins s σ H x y v u Q I rx ry h hs
 obtain ⟨p,xs,i,z,rfl,rfl,hq,he,q⟩:=h
 cases rx
 obtain ⟨t,rfl⟩:=ry
 refine L2.ob_eaa (I.list hq) fun its r pl hz=>?_
 refine L2.ob_eaaaa (atI_get he) fun j h1 h2 h3 h4 h5=>?_
 refine L2.ob_ea (r.get h2) fun w ew rw'=>?_
 have hl:=r.length
 have hn:=line63
 have fin:EP X pins σ Q w s:=⟨z,H,I,rw',q⟩
 by_cases h0:0≤i
 ·have hj:i.toNat=j:=by
   rw [seqIndex_of h0 h5] at h1
   exact Option.some.inj h1
  exact item_listR pl.isList h0 (by lia) (by rw [hj];simpa using ew) fin hs
 ·have hj:(i+(its.toArray.size:Int)).toNat=j:=by
   rw [seqIndex_neg (by lia) h4] at h1
   rw [List.size_toArray,←hl]
   exact Option.some.inj h1
  exact subscriptTail_builtinR (x:=w) pl.isList.typeIs slot_list_getitem.lookup
   (wpAny_getItem_list_neg (Q:=fun r s'=>r=w∧EP X pins σ Q r s') pl.isList (by lia) (by rw [List.size_toArray] <;> lia) (by lia) (by rw [hj];simpa using ew) ⟨rfl,fin⟩) hs
theorem ix_tup:IxR X (rIxT X.K):=by
 intro value slice pins s σ H x y v u Q I rx ry h hs
 obtain ⟨p,xs,i,z,rfl,rfl,hq,he,q⟩:=h
 cases rx
 obtain ⟨t,rfl⟩:=ry
 refine L2.ob_eaa (I.tuple hq) fun its r pl hz=>?_
 refine L2.ob_eaaaa (atI_get he) fun j h1 h2 h3 h4 h5=>?_
 refine L2.ob_ea (r.get h2) fun w ew rw'=>?_
 have hl:=r.length
 have hn:=line63
 have fin:EP X pins σ Q w s:=⟨z,H,I,rw',q⟩
 exact subscriptTail_builtinR (x:=w) pl.typeIs slot_tuple_getitem.lookup
  (getItem_tuple (j:=j) (Q:=fun r s'=>r=w∧EP X pins σ Q r s') pl (by lia) (by lia) (by rw [List.size_toArray,←hl];exact h1) (by simpa using ew) ⟨rfl,fin⟩) hs
theorem mapSeq_set (its:List Value) (n j:Nat) (u:Value):Obj.mapSeq (·.setIfInBounds j u) { cls:=.type "list", data:=.seq its.toArray n }={ cls:=.type "list", data:=.seq (its.set j u).toArray n }:=by
 simp [Obj.mapSeq]
theorem Inv.lst {pins:List (Addr × Obj)}{σ:St}{H:Hp}{s:Shared}{p:Addr}{xs:List V}(I:Inv X pins σ H s) (h:H p=some (.lst xs)) :
  ∃(its:List Value) (n:Nat),Vals xs its∧s.heap.get? p=some { cls:=.type "list", data:=.seq its.toArray n }∧xs.length≤sizeLine:=by
 obtain ⟨z,its,n,r,e⟩:=I.hok p _ h
 exact⟨its,n,r,e,z⟩
theorem Inv.lstUpd {pins:List (Addr × Obj)}{σ:St}{H:Hp}{s:Shared}{p:Addr}{xs ys:List V}{its its':List Value}{n n':Nat}{f:Obj→Obj}(I:Inv X pins σ H s) (h:H p=some (.lst xs))
  (ho:s.heap.get? p=some { cls:=.type "list", data:=.seq its.toArray n }) (hf:f { cls:=.type "list", data:=.seq its.toArray n }={ cls:=.type "list", data:=.seq its'.toArray n' }) (r:Vals ys its') (hz:ys.length≤sizeLine) (t:Nat) :
  Inv X pins σ (upd H p (.lst ys)) { s with heap:=s.heap.update p f,toks:=t }:=by
 have e:(s.heap.update p f).get? p=some { cls:=.type "list", data:=.seq its'.toArray n' }:=by
  rw [Heap.get?_update_self f ho (by rw [hf] <;> rfl),hf]
 refine I.write (x:=p) (e:=p) (by rw [h];trivial) (.inl rfl) (fun b u hb q=>(Heap.get?_update_other _ _ (Ne.symm hb)).trans q) ⟨_,e⟩ ?_
 exact⟨hz,its',n',r,e⟩
inductive rSetL  (o:V) (i:V) (v:V) (H:Hp) (Q:Hp→Prop):Prop
 | mk:∀p xs k j,(o=.ref p)→(i=.int k)→(H p=some (.lst xs))→(ixN xs.length k=some j)→(Q (upd H p (.lst (xs.set j v))))→rSetL o i v H Q
theorem set_list:PSet X rSetL:=by
 intro pins s σ H o i v ov iv u Q I ro ri rv h
 obtain ⟨p,xs,k,j,rfl,rfl,hp,hj,q⟩:=h
 cases ro
 obtain ⟨t,rfl⟩:=ri
 refine L2.ob_eeaa (I.lst hp) fun its n r ho hz=>?_
 refine L2.ob_aaa (ixN_seq hj) fun h1 h2 h3 h4=>?_
 have hl:=r.length
 have hn:=line63
 have I':Inv X pins σ (upd H p (.lst (xs.set j v))) { s with heap:=s.heap.update p (Obj.mapSeq (·.setIfInBounds j u)) } :=
  I.lstUpd hp ho (mapSeq_set its n j u) (r.set rv j) (by rw [List.length_set];exact hz) s.toks
 by_cases h0:0≤k
 ·have hk:k.toNat=j:=by
   rw [seqIndex_of h0 h4] at h1
   exact Option.some.inj h1
  exact PySem.W.ki_setAt ho h0 (by lia) (by rw [List.size_toArray,←hl];exact h4) (by rw [hk];exact⟨_,I',q⟩)
 ·have hk:(k+(its.toArray.size:Int)).toNat=j:=by
   rw [seqIndex_neg (by lia) h3] at h1
   rw [List.size_toArray,←hl]
   exact Option.some.inj h1
  exact PySem.W.ki_setBack ho (by lia) (by rw [List.size_toArray,←hl];exact h3) (by lia) (by rw [hk];exact⟨_,I',q⟩)
theorem slice_bounds (lo hi:Option Int) (n:Nat):(sliceBounds lo hi none n).1=((HT.sIx n 0 lo:Nat):Int)∧(sliceBounds lo hi none n).2.1=((HT.sIx n n hi:Nat):Int)∧(sliceBounds lo hi none n).2.2=1:=by
 refine⟨?_,?_,rfl⟩
 ·cases lo with
  | none=>simp [sliceBounds,HT.sIx]
  | some i =>
   simp only [sliceBounds,HT.sIx,Option.getD_none,show (1:Int) > 0 by decide,if_true]
   by_cases h:i<0
   ·simp only [h,if_true] <;> lia
   ·simp only [h,if_false] <;> lia
 ·cases hi with
  | none=>simp [sliceBounds,HT.sIx]
  | some i =>
   simp only [sliceBounds,HT.sIx,Option.getD_none,show (1:Int) > 0 by decide,if_true]
   by_cases h:i<0
   ·simp only [h,if_true] <;> lia
   ·simp only [h,if_false] <;> lia
theorem slicePick_cut (its:List Value) (lo hi:Option Int):slicePick its.toArray lo hi none=((its.drop (HT.sIx its.length 0 lo)).take (HT.sIx its.length its.length hi - HT.sIx its.length 0 lo)).toArray:=by
 refine L2.ob_aa (slice_bounds lo hi its.toArray.size) fun h1 h2 h3=>?_
 unfold slicePick
 rw [h1,h2,h3]
 simp only [sliceRange_one,pick_run,List.size_toArray] <;> rfl
inductive rSlL (K:PySem.W.Frag) (x:V) (lo:Option Int) (hi:Option Int) (H:Hp) (Q:VK):Prop
 | mk:∀a xs,(x=.ref a)→(SqL K H a xs)→(∀p,H p=none→Q (.ref p) (upd H p (.lst (cutV xs lo hi))))→rSlL K x lo hi H Q
theorem sl_list:SlR X (rSlL X.K):=by
 intro pins s σ H x v vl vu lo hi sl Q I rx hs pl pu h
 obtain ⟨a,xs,rfl,hx,q⟩:=h
 cases rx
 refine L2.ob_eaa (I.list hx) fun its r ht hz=>?_
 have hlen:=r.length
 refine⟨"list", _,slot_list_getitem.lookup,ht.isList.typeIs,?_⟩
 refine wpAny_getItem_list_slice ht.isList hs pl pu .none (by simp) ?_ (by rw [List.size_toArray] <;> lia)
 rw [slicePick_cut,←hlen]
 refine⟨.ref s.heap.objs.size,_,I.laid (t':=s.toks) (o:=.lst (cutV xs lo hi)) (fun b ob q=>Heap.get?_push_of_some _ q) (Nat.le_refl _) ?_,rfl,q _ (I.hok.fresh (Nat.le_refl _))⟩
 exact⟨Nat.le_trans (cutV_length xs lo hi) hz,_,0,(r.drop (HT.sIx xs.length 0 lo)).take (HT.sIx xs.length xs.length hi - HT.sIx xs.length 0 lo),Heap.get?_push_size _ rfl⟩
def flatV:V→Bool
 | .non=>true
 | .bl _=>true
 | .int _=>true
 | .str _=>true
 | _=>false
def eqV:V→V→Bool
 | .non,.non=>true
 | .bl a,.bl b=>a==b
 | .bl a,.int b=>(if a then 1 else 0)==b
 | .int a,.bl b=>a==(if b then 1 else 0)
 | .int a,.int b=>a==b
 | .str a,.str b=>a==b
 | _,_=>false
theorem eqAt_V {A:Around}{s:Shared}{y x:V}{u v:Value}(ry:RelV y u) (rx:RelV x v) (fy:flatV y=true) (fx:flatV x=true):SeqAt.EqAt A s u v (eqV y x):=by
 cases y with
 | non =>
  cases ry
  cases x with
  | non=>cases rx;exact SeqAt.EqAt.same _
  | bl b=>cases rx;exact SeqAt.EqAt.none_bool b
  | int b=>obtain ⟨t,rfl⟩:=rx;exact SeqAt.EqAt.none_int b t
  | str b=>obtain ⟨t,rfl⟩:=rx;exact SeqAt.EqAt.none_str b t
  | _=>exact absurd (show false=true from fx) Bool.false_ne_true
 | bl a =>
  cases ry
  cases x with
  | non=>cases rx;exact SeqAt.EqAt.bool_none a
  | bl b=>cases rx;exact SeqAt.EqAt.bool_bool a b
  | int b=>obtain ⟨t,rfl⟩:=rx;exact SeqAt.EqAt.bool_int a b t
  | str b=>obtain ⟨t,rfl⟩:=rx;exact SeqAt.EqAt.bool_str a b t
  | _=>exact absurd (show false=true from fx) Bool.false_ne_true
 | int a =>
  obtain ⟨t',rfl⟩:=ry
  cases x with
  | non=>cases rx;exact SeqAt.EqAt.int_none a t'
  | bl b=>cases rx;exact SeqAt.EqAt.int_bool a t' b
  | int b=>obtain ⟨t,rfl⟩:=rx;exact SeqAt.EqAt.int_int a t' b t
  | str b=>obtain ⟨t,rfl⟩:=rx;exact SeqAt.EqAt.int_str a t' b t
  | _=>exact absurd (show false=true from fx) Bool.false_ne_true
 | str a =>
  obtain ⟨t',rfl⟩:=ry
  cases x with
  | non=>cases rx;exact SeqAt.EqAt.str_none a t'
  | bl b=>cases rx;exact SeqAt.EqAt.str_bool a t' b
  | int b=>obtain ⟨t,rfl⟩:=rx;exact SeqAt.EqAt.str_int a t' b t
  | str b=>obtain ⟨t,rfl⟩:=rx;exact SeqAt.EqAt.str_str a t' b t
  | _=>exact absurd (show false=true from fx) Bool.false_ne_true
 | _=>exact absurd (show false=true from fy) Bool.false_ne_true
def eqU (x:V) (u:Value):Bool:=match u with
 | .none=>eqV .non x
 | .bool b=>eqV (.bl b) x
 | .int i _=>eqV (.int i) x
 | .str z _=>eqV (.str z) x
 | _=>false
theorem eqU_of {x y:V}{u:Value}(r:RelV y u) (f:flatV y=true):eqU x u=eqV y x:=by
 cases y with
 | non=>cases r;rfl
 | bl b=>cases r;rfl
 | int i=>obtain ⟨t,rfl⟩:=r;rfl
 | str z=>obtain ⟨t,rfl⟩:=r;rfl
 | _=>exact absurd (show false=true from f) Bool.false_ne_true
theorem mem_eqAt {A:Around}{s:Shared}{x:V}{v:Value}(rx:RelV x v) (fx:flatV x=true):∀{xs:List V}{us:List Value},Vals xs us→xs.all flatV=true→∀u∈us,SeqAt.EqAt A s u v (eqU x u)
 | _,_,.nil,_=>fun u hu=>by cases hu
 | y::xs,u::us,.cons r t,f=>fun u' hu=>by
  rw [List.all_cons,Bool.and_eq_true] at f
  rcases List.mem_cons.mp hu with rfl|hu
  ·rw [eqU_of r f.1];exact eqAt_V r rx f.1 fx
  ·exact mem_eqAt rx fx t f.2 u' hu
inductive r_call_len_seq (K:PySem.W.Frag) (xs:List V) (H:Hp) (Q:VK):Prop
 | mk:∀p ys,(xs=[.ref p])→((SqL K H p ys∨SqT K H p ys))→(Q (.int ys.length) H)→r_call_len_seq K xs H Q
theorem call_len_seq:CallR X (.builtin "len") (r_call_len_seq X.K):=by
 intro pins s σ H xs us Q I r h
 obtain ⟨p,ys,rfl,hq,q⟩:=h
 refine L2.ob_ea (vals1 r) fun u e_1 rx=>?_;subst e_1
 cases rx
 have hn:=line63
 rcases hq with hq|hq
 ·refine L2.ob_eaa (I.list hq) fun its r' pl hz=>?_
  have hlen:=r'.length
  exact Calls.call_len_list pl.isList (by simp only [List.size_toArray] <;> lia) ⟨.int ys.length,H,I.tok _,⟨s.toks+1,by rw [List.size_toArray,hlen]⟩,q⟩
 ·refine L2.ob_eaa (I.tuple hq) fun its r' pl hz=>?_
  have hlen:=r'.length
  exact len_tuple pl (by simp only [List.size_toArray] <;> lia) ⟨.int ys.length,H,I.tok _,⟨s.toks+1,by rw [List.size_toArray,hlen]⟩,q⟩
inductive r_call_list_of (K:PySem.W.Frag) (xs:List V) (H:Hp) (Q:VK):Prop
 | mk:∀p ys,(xs=[.ref p])→((SqL K H p ys∨SqT K H p ys))→(∀l,H l=none→Q (.ref l) (upd H l (.lst ys)))→r_call_list_of K xs H Q
theorem call_list_of:CallR X (.type "list") (r_call_list_of X.K):=by
 intro pins s σ H xs us Q I r h
 obtain ⟨p,ys,rfl,hq,q⟩:=h
 refine L2.ob_ea (vals1 r) fun u e_1 rx=>?_;subst e_1
 cases rx
 have fin:∀(its:List Value),Vals ys its→ys.length≤sizeLine→∀(h':Heap) (c':Nat),(∀b o',s.heap.get? b=some o'→h'.get? b=some o') →
   h'.get? s.heap.objs.size=some { cls:=.type "list", dict:=none,data:=.seq its.toArray c',slots:=#[] }→EP X pins σ Q (.ref s.heap.objs.size) { s with heap:=h' }:=fun its r' hz h' c' kp e =>
  ⟨.ref s.heap.objs.size,_,I.laid (t':=s.toks) kp (Nat.le_refl _) (show ObjOk X.prog X.w _ h' _ (.lst ys) from ⟨hz,its,c',r',e⟩),rfl,q _ (I.hok.fresh (Nat.le_refl _))⟩
 rcases hq with hq|hq
 ·refine L2.ob_eaa (I.list hq) fun its r' pl hz=>?_
  have hlen:=r'.length
  obtain ⟨o,ho,hc,n,hd⟩:=pl.isList
  exact call_list_seq p (.inl rfl) ho hc hd (fun h' c' kp e=>fin its r' hz h' c' kp e) (by simp only [List.size_toArray] <;> lia)
 ·refine L2.ob_eaa (I.tuple hq) fun its r' pl hz=>?_
  have hlen:=r'.length
  obtain ⟨o,ho,hc,n,hd⟩:=pl
  exact call_list_seq p (.inr rfl) ho hc hd (fun h' c' kp e=>fin its r' hz h' c' kp e) (by simp only [List.size_toArray] <;> lia)
inductive r_call_tuple_of (K:PySem.W.Frag) (xs:List V) (H:Hp) (Q:VK):Prop
 | mk:∀p ys,(xs=[.ref p])→(((SqL K H p ys∧∀l,H l=none→Q (.ref l) (upd H l (.tup ys)))∨(SqT K H p ys∧Q (.ref p) H)))→r_call_tuple_of K xs H Q
theorem call_tuple_of:CallR X (.type "tuple") (r_call_tuple_of X.K):=by
 intro pins s σ H xs us Q I r h
 obtain ⟨p,ys,rfl,h⟩:=h
 refine L2.ob_ea (vals1 r) fun u e_1 rx=>?_;subst e_1
 cases rx
 rcases h with ⟨hq,q⟩|⟨hq,q⟩
 ·refine L2.ob_eaa (I.list hq) fun its r' pl hz=>?_
  have hlen:=r'.length
  refine call_tuple_list pl.isList (fun h' kp=>?_) (by simp only [List.size_toArray] <;> lia)
  have I1:Inv X pins σ H { s with heap:=h' }:=I.kept (t':=s.toks) kp
  have I2:Inv X pins σ (upd H h'.objs.size (.tup ys)) { s with heap:=h'.push { cls:=.type "tuple", data:=.seq its.toArray } } :=
   I1.laid (t':=s.toks) (fun b o e=>Heap.get?_push_of_some _ e) (Nat.le_refl _) (show ObjOk X.prog X.w _ _ _ (.tup ys) from ⟨hz,its,r',IsTup.new _ _⟩)
  exact⟨.ref h'.objs.size,_,I2,rfl,q _ (I1.hok.fresh (Nat.le_refl _))⟩
 ·refine L2.ob_eaa (I.tuple hq) fun its r' pl hz=>?_
  exact call_tuple_same pl ⟨.ref p,H,I,rfl,q⟩
def tyV (K:PySem.W.Frag) (T:String) (x:V) (H:Hp):Prop:=match x with
 | .str _=>T = "str"
 | .int _=>T = "int"
 | .ref p=>(T = "list" ∧ ∃xs,SqL K H p xs)∨(T = "tuple" ∧ ∃o,K.lookup p=some o∧o.cls=.type "tuple" ∧ o.dict=none) ∨
   (T = "dict" ∧ ((∃kvs,H p=some (.dK kvs)) ∨ ∃kvs,H p=some (.dT kvs)))∨(T = "set" ∧ ∃S n,H p=some (.set S n))
 | _=>False
theorem tyV_is {pins:List (Addr × Obj)}{σ:St}{H:Hp}{s:Shared}{T:String}{x:V}{v:Value}(I:Inv X pins σ H s) (r:RelV x v) (ty:tyV X.K T x H) :
  s.TypeIs v T∧∀a,v=.ref a→∃ob,s.heap.get? a=some ob∧ob.dict=none:=by
 cases x with
 | str z =>
  obtain ⟨t,rfl⟩:=r
  cases (show T = "str" from ty)
  exact⟨typeIs_str s z t,fun _ e=>nomatch e⟩
 | int i =>
  obtain ⟨t,rfl⟩:=r
  cases (show T = "int" from ty)
  exact⟨typeIs_int s i t,fun _ e=>nomatch e⟩
 | ref p =>
  cases r
  rcases ty with ⟨rfl,xs,hq⟩|⟨rfl,o,hk,hc,hd⟩|⟨rfl,hk⟩|⟨rfl,S,n,hk⟩
  ·refine L2.ob_eaa (I.list hq) fun its _ pl _=>?_
   refine⟨pl.isList.typeIs,fun a e=>?_⟩
   cases e
   obtain ⟨o,n,e,c,hd,_⟩:=pl
   exact⟨o,e,hd⟩
  ·refine⟨⟨o,I.kIn p o hk,hc⟩,fun a e=>?_⟩
   cases e
   exact⟨o,I.kIn _ o hk,hd⟩
  ·have z:∃o,s.heap.get? p=some o∧o.ExactDict:=by
    rcases hk with ⟨kvs,hk⟩|⟨kvs,hk⟩
    ·obtain ⟨_,_,_,_,o,_,_,e,ex,_⟩:=I.hok p _ hk
     exact⟨o,e,ex⟩
    ·obtain ⟨_,_,_,_,o,_,_,e,ex,_⟩:=I.hok p _ hk
     exact⟨o,e,ex⟩
   refine L2.ob_ea z fun o e ex=>?_
   refine⟨⟨o,e,ex.1⟩,fun a e2=>?_⟩
   cases e2
   exact⟨o,e,ex.2.1⟩
  ·obtain ⟨o,_,_,_,e,ex,_⟩:=I.hok p _ hk
   refine⟨⟨o,e,ex.1⟩,fun a e2=>?_⟩
   cases e2
   exact⟨o,e,ex.2.1⟩
 | _=>exact False.elim ty
inductive tBM_b (K:PySem.W.Frag) (T:String) (r:V→List V→Hp→VK→Prop) (t:TA) (σ:St) (Q:VK) (x:V) (H1:Hp):Prop
 | mk:(tyV K T x H1)→(t σ H1 fun xs H2=>r x xs H2 Q)→tBM_b K T r t σ Q x H1
def tBM (K:PySem.W.Frag) (T:String) (r:V→List V→Hp→VK→Prop) (to:TE) (t:TA):TE:=fun σ H Q=>to σ H fun x H1=>tBM_b K T r t σ Q x H1
variable {o e:Expr}{es:List Expr}{to:TE}{t:TA}{name:Str}{apos cpos:Pos}{T id:String}{r:V→List V→Hp→VK→Prop}
theorem pe_bm (pa:PlainAttrs T) (slot:Slot T name id) (hty:typeOf (.builtin id)=pure (.type "method_descriptor")) (hm:MtR X id r) (ho:PE X o to) (ha:PA X (e::es) t)
  (hbase:attributeBase o name X.env (eval o X.env)=eval o X.env:=by rfl)
  (hfew:((backTo cpos (starEach (e::es) X.env)).all (fun x=>!x.1) && (backToKw cpos (keywordEach [] X.env)).all (fun x=>x.1.isSome)
   && decide ((e::es).length+([]:List Keyword).length+(if ([]:List Keyword).isEmpty then 0 else 1)<30))=true:=by rfl)
  (hline:(apos.endLine==cpos.line)=true:=by rfl) (hs:starEach (e::es) X.env=(false,eval e X.env)::starEach es X.env:=by rfl) (hplain:(backTo cpos (starEach es X.env)).any (·.1)=false:=by rfl) :
  PE X (.Call (.Attribute o name apos) (e::es) [] cpos) (tBM X.K T r to t):=by
 intro pins s σ H Q I h
 refine wpAny_Call_method_late hbase hfew hline rfl (thn (ho pins s σ H _ I h) fun v s1 ⟨x,H1,I1,r1,ty,q1⟩=>?_)
 obtain ⟨h1,h2⟩:=tyV_is I1 r1 ty
 refine⟨T,id,pa,slot,hty,h1,h2,?_⟩
 have hA:=ha cpos pins s1 σ H1 _ I1 q1
 rw [hs] at hA ⊢
 refine Calls.callWith_builtin (by show (false || (backTo cpos (starEach es X.env)).any (·.1))=false;rw [hplain] <;> rfl) (Calls.evalArgs_plain ?_)
 exact thn hA fun us s2 ⟨vs,H2,I2,r2,q2⟩=>hm pins s2 σ H2 x vs v us Q I2 r1 r2 q2
end
end L2

namespace L2
open PySem PySem.Spec PyProof.Rows
def MtM (X:Cx) (id:String) (r:V→List V→Hp→VK→Prop):Prop :=
 ∀(pins:List (Addr × Obj)) (s:Shared) (σ:St) (H:Hp) (x:V) (xs:List V) (v:Value) (us:List Value) (Q:VK),Inv X pins σ H s→RelV x v→Vals xs us→r x xs H Q →
  wpAny (model X.prog X.w) X.A (call (.builtin id) (v::us)) (EP X pins σ Q) X.xe s
theorem Vals.one {x:V}{us:List Value}(h:Vals [x] us):∃u,us=[u]∧RelV x u:=vals1 h
theorem Vals.zero:∀{us:List Value},Vals [] us→us=[]
 | _,.nil=>rfl
theorem Vals.rep {xs:List V}{us:List Value}(h:Vals xs us):∀k:Nat,Vals (List.replicate k xs).flatten (List.replicate k us).flatten
 | 0=>.nil
 | k+1=>by
  rw [List.replicate_succ,List.replicate_succ,List.flatten_cons,List.flatten_cons]
  exact Vals.append h (Vals.rep h k)
theorem foldl_rep (its:List Value):∀(k:Nat) (acc:List Value),
  List.foldl (fun x1 x2=>x1++x2) acc.toArray (List.replicate k its.toArray)=(acc++(List.replicate k its).flatten).toArray
 | 0,acc=>by simp
 | k+1,acc=>by
  have e:acc.toArray++its.toArray=(acc++its).toArray:=by simp
  have e2:(acc++its)++(List.replicate k its).flatten=acc++(List.replicate (k+1) its).flatten:=by
   rw [List.replicate_succ,List.flatten_cons,List.append_assoc]
  rw [←e2,←foldl_rep its k (acc++its),←e,List.replicate_succ,List.foldl_cons]
section
variable {X:Cx}{pins:List (Addr × Obj)}{σ:St}{H:Hp}{s:Shared}{l b:Addr}{xs ys zs:List V}
theorem Inv.lset {its its':List Value}{n:Nat}{f:Array Value→Array Value}{t':Nat}(I:Inv X pins σ H s) (hH:H l=some (.lst xs))
  (e:s.heap.get? l=some { cls:=.type "list", data:=.seq its.toArray n }) (hf:f its.toArray=its'.toArray) (hv:Vals ys its') (hz:ys.length≤sizeLine) :
  Inv X pins σ (upd H l (.lst ys)) { s with heap:=s.heap.update l (Obj.mapSeq f),toks:=t' }:=by
 have q:=PySem.IsL.update e f
 rw [hf] at q
 refine I.write (x:=l) (e:=l) (by rw [hH];exact trivial) (.inl rfl) (fun b' u hb hu=>(Heap.get?_update_other s.heap (Obj.mapSeq f) (Ne.symm hb)).trans hu) ⟨_,q⟩ ?_
 exact⟨hz,its',_,hv,q⟩
theorem Inv.lnew {its:List Value}{t':Nat}(I:Inv X pins σ H s) (hv:Vals ys its) (hz:ys.length≤sizeLine) :
  Inv X pins σ (upd H s.heap.objs.size (.lst ys)) { s with heap:=s.heap.push { cls:=.type "list", data:=.seq its.toArray },toks:=t' } :=
 I.laid (fun _ _ q=>Heap.get?_push_of_some _ q) (Nat.le_refl _) ⟨hz,its,0,hv,Heap.get?_push_size _ rfl⟩
theorem Inv.fresh (I:Inv X pins σ H s):H s.heap.objs.size=none:=I.hok.fresh (Nat.le_refl _)
theorem Inv.lstM (I:Inv X pins σ H s) (hH:H l=some (.lst xs)):xs.length≤sizeLine∧∃(its:List Value) (n:Nat),Vals xs its∧xs.length=its.length∧s.heap.get? l=some { cls:=.type "list", data:=.seq its.toArray n }:=by
 obtain ⟨z,its,n,r,e⟩:=I.hok l _ hH
 exact⟨z,its,n,r,r.length,e⟩
theorem notLongL {n:Nat}(h:n≤sizeLine):Builtin.List.listTooLong n=false:=by
 unfold Builtin.List.listTooLong
 exact decide_eq_false (by lia)
end

section
variable {X:Cx}
inductive rAppend  (x:V) (vs:List V) (H:Hp) (Q:VK):Prop
 | mk:∀l xs y,(x=.ref l)→(vs=[y])→(H l=some (.lst xs))→(xs.length<sizeLine)→(Q .non (upd H l (.lst (xs++[y]))))→rAppend x vs H Q
theorem mt_append:MtM X "list.append" rAppend:=by
 intro pins s σ H x vs v us Q I rx rv h
 obtain ⟨l,xs,y,rfl,rfl,hH,hz,q⟩:=h
 cases rx
 refine L2.ob_ea rv.one fun u e_1 ru=>?_;subst e_1
 refine L2.ob_aeeaa (I.lstM hH) fun z its n r hl e=>?_
 refine call_meets F.slot_list_append ⟨_,e,rfl⟩ F.entry_list_append (F.args_list_append_2 _ _) (PySem.list_append l its.toArray n u (by rw [List.size_toArray];lia)) ⟨e,?_⟩
 refine⟨.non,_,I.lset (its':=its++[u]) hH e (by simp) (r.append (.cons ru .nil)) ?_,rfl,q⟩
 rw [List.length_append,List.length_singleton]
 lia
inductive rExtend  (x:V) (vs:List V) (H:Hp) (Q:VK):Prop
 | mk:∀l b xs zs,(x=.ref l)→(vs=[.ref b])→(H l=some (.lst xs))→(H b=some (.lst zs))→(xs.length+zs.length≤sizeLine)→(Q .non (upd H l (.lst (xs++zs))))→rExtend x vs H Q
theorem mt_extend:MtM X "list.extend" rExtend:=by
 intro pins s σ H x vs v us Q I rx rv h
 obtain ⟨l,b,xs,zs,rfl,rfl,hH,hB,hz,q⟩:=h
 cases rx
 refine L2.ob_ea rv.one fun u e_1 ru=>?_;subst e_1
 cases ru
 refine L2.ob_aeeaa (I.lstM hH) fun z its n r hl e=>?_
 refine L2.ob_aeeaa (I.lstM hB) fun z2 its2 n2 r2 hl2 e2=>?_
 have hsz:its.toArray.size+its2.toArray.size≤sizeLine:=by rw [List.size_toArray,List.size_toArray];lia
 have hlong:¬(!its.toArray.isEmpty && Builtin.List.listTooLong (its.toArray.size+its2.toArray.size))=true:=by
  rw [notLongL hsz,Bool.and_false]
  exact Bool.false_ne_true
 refine call_meets F.slot_list_extend ⟨_,e,rfl⟩ F.entry_list_extend (F.args_list_extend_2 _ _)
  (AutoSeq1.list_extend_list_list_0 l its.toArray n b its2.toArray n2 hlong (by rw [List.size_toArray];lia) (by solve_by_elim)) ⟨e,e2,?_⟩
 refine⟨.non,_,I.lset (its':=its++its2) hH e (by simp) (r.append r2) ?_,rfl,q⟩
 rw [List.length_append]
 lia
inductive rCat  (x:V) (y:V) (H:Hp) (Q:VK):Prop
 | mk:∀l b xs zs,(x=.ref l)→(y=.ref b)→(H l=some (.lst xs))→(H b=some (.lst zs))→(xs.length+zs.length≤sizeLine)→(∀p,H p=none→Q (.ref p) (upd H p (.lst (xs++zs))))→rCat x y H Q
theorem op_cat:OpR X (binaryOp .Add) rCat:=by
 intro pins s σ H x y v u Q I rx ry h
 obtain ⟨l,b,xs,zs,rfl,rfl,hH,hB,hz,q⟩:=h
 cases rx
 cases ry
 refine L2.ob_aeeaa (I.lstM hH) fun z its n r hl e=>?_
 refine L2.ob_aeeaa (I.lstM hB) fun z2 its2 n2 r2 hl2 e2=>?_
 refine PySem.P.add_list e e2 ?_ (by rw [List.size_toArray,List.size_toArray];lia)
 have ea:its.toArray++its2.toArray=(its++its2).toArray:=by simp
 rw [ea]
 exact⟨.ref _,_,I.lnew (t':=s.toks) (r.append r2) (by rw [List.length_append];lia),rfl,q _ I.fresh⟩
inductive rRep  (x:V) (y:V) (H:Hp) (Q:VK):Prop
 | mk:∀l k xs,(x=.ref l)→(y=.int k)→(H l=some (.lst xs))→(-(2 ^ 63)≤k)→(k<2 ^ 63)→(xs.length*k.toNat≤sizeLine)→(∀p,H p=none→Q (.ref p) (upd H p (.lst (List.replicate k.toNat xs).flatten)))→rRep x y H Q
theorem len_rep {α:Type}(xs:List α) (k:Nat):(List.replicate k xs).flatten.length=k*xs.length:=by
 induction k with
 | zero=>simp
 | succ k ih=>rw [List.replicate_succ,List.flatten_cons,List.length_append,ih,Nat.succ_mul,Nat.add_comm]
theorem op_rep:OpR X (binaryOp .Mult) rRep:=by
 intro pins s σ H x y v u Q I rx ry h
 obtain ⟨l,k,xs,rfl,rfl,hH,h1,h2,hz,q⟩:=h
 cases rx
 obtain ⟨t,rfl⟩:=ry
 refine L2.ob_aeeaa (I.lstM hH) fun z its n r hl e=>?_
 have hlen:its.toArray.size*k.toNat≤sizeLine:=by rw [List.size_toArray,←hl];exact hz
 have hcap:¬its.toArray.size*k.toNat > (2 ^ 63 - 1) / 8:=by
  have:(sizeLine:Nat)≤(2 ^ 63 - 1) / 8:=by decide
  lia
 have hfit:¬(!Builtin.List.listFitsIndex k)=true:=by
  rw [fitsIndex_both h1 h2]
  exact Bool.false_ne_true
 have hlong:¬Builtin.List.listTooLong (its.toArray.size*k.toNat)=true:=by
  rw [notLongL hlen]
  exact Bool.false_ne_true
 have hnew:List.foldl (fun x1 x2=>x1++x2) #[] (List.replicate (if its.toArray.isEmpty=true then 0 else k.toNat) its.toArray)=(List.replicate k.toNat its).flatten.toArray:=by
  have f0:∀m:Nat,List.foldl (fun x1 x2=>x1++x2) #[] (List.replicate m its.toArray)=(List.replicate m its).flatten.toArray:=fun m=>by
   have:=foldl_rep its m []
   rw [List.nil_append] at this
   exact this
  rw [f0]
  cases its with
  | nil=>simp
  | cons a r'=>rw [if_neg (by simp)]
 refine wpAny_binaryOp_repeat_ref (T := "list") (U := "int") (by decide) ⟨_,e,rfl⟩ (fun s'=>typeIs_int s' k t) noFill_list_mul F.fills_int_mul F.slot_int_rmul repeat_list F.slot_int_index.lookup
  (call_meets F.slot_int_rmul (typeIs_int s k t) F.entry_int_rmul (F.args_int_rmul_2 _ _) (int___rmul___int_list k t l its.toArray n)
   ⟨e,rfl,⟨_,e,rfl⟩,call_meets F.slot_list_mul ⟨_,e,rfl⟩ F.entry_list_mul (F.args_list_mul_2 _ _) (AutoListH.list___mul___list_int_3 l its.toArray n k t hfit hcap hlong) ⟨e,?_⟩⟩)
 rw [hnew]
 exact⟨.ref _,_,I.lnew (t':=s.toks) (r.rep k.toNat) (by rw [len_rep,Nat.mul_comm];exact hz),rfl,q _ I.fresh⟩
end

section
variable {prog:Program}{w:World}{A:Around}{E:Value→Shared→Prop}{s:Shared}
set_option maxRecDepth 100000 in
end

section
variable {X:Cx}
end
end L2

namespace Att
open PySem PySem.W PySem.Calls PyProof.Rows
theorem ints_of_wellAll {P:Params}{h:Heap}:∀(ns:List Int) (vs:List Value),WellAll P h vs (ns.map WData.int)→IntsAre vs ns:=by
 intro ns
 induction ns with
 | nil =>
  intro vs w
  rw [List.map_nil] at w
  cases w
  exact .nil
 | cons n ns ih =>
  intro vs w
  rw [List.map_cons] at w
  cases w with
  | cons a b =>
   cases a
   exact .cons _ _ (ih _ b)
theorem script_of {l:OpenLaw}{n:Nat}(hn:l.most=some n) {P:Params}{h:Heap}{args:List WData}{vals:List Value}
  (hpre:l.row.toRowW.claim.pre args=true) (hwl:WellAll P h vals args) :
  ∃a vs ns,vals=[Value.ref a]∧args=[WData.list (ns.map WData.int)]∧h.get? a=some { cls:=.type "list", data:=.seq vs.toArray }∧IntsAre vs ns∧ns.length≤n:=by
 have hsh:WShape.hasAll [] args [.list .int]=true:=(pre_splitW hpre).1
 have hc:l.pre.holds [] { args:=args }=true:=(pre_splitW hpre).2
 refine L2.ob_eeaa (hasAllW_cons hsh) fun d r e_2 h1 h2=>?_;subst e_2
 obtain rfl:=hasAllW_nil h2
 refine L2.ob_ea (hasW_list h1) fun xs e_1 h3=>?_;subst e_1
 obtain ⟨ns,rfl⟩:=items_int h3
 have hlen:ns.length≤n:=by
  unfold OpenLaw.pre at hc
  have h4:(WTm.not (.lt (.lit (.int (n:Int))) (.len (.arg 0)))).holds [] { args:=[.list (ns.map .int)] }=true:=by
   have h4:=(holds_andW hc).1
   rw [hn] at h4
   exact h4
  have h5:=condW_of h4 (w_not (w_lt w_lit (w_len_list (w_arg rfl))))
  rw [List.length_map] at h5
  refine Nat.le_of_not_lt fun q=>?_
  have q':(n:Int)<((ns.length:Nat):Int):=by lia
  first
   | (rw [decide_eq_true q'] at h5;exact absurd h5 (by decide))
   | (simp at h5;lia)
 cases hwl with
 | cons w1 w2 =>
  cases w2
  cases w1 with
  | list ho hall=>exact⟨_,_,ns,rfl,rfl,ho,ints_of_wellAll ns _ hall,hlen⟩
theorem post_true (l:OpenLaw) (args:List WData):l.row.toRowW.claim.post args (.bool true) args=true :=
 postW_of (r:=l.row.toRowW) (X:=(true==true))
  (show WShape.has [] (.bool true) .bool=true by first|rfl|decide|simp [WShape.has,WShape.arms,WShape.armsAll])
  (show (WTm.eq .res (.lit (.bool true))).value [] { args:=args,res:=some (.bool true),after:=args }=some (.bool (true==true)) from w_eq_bool (w_res rfl) w_lit) rfl
theorem attach_call {l:OpenLaw}{n:Nat}{q:Program}{loose:List Str}{XP:(Str→Option Value)→Heap→Prop}{YP:World→Heap→Prop}{d:DefRec}
  (hn:l.most=some n) (hdf:d.params.defaults=[])
  (call:∀(w:World) (s₀ s₁:Shared) (mg mb:Str→Option Value) (fa:Addr) (o:Obj) (pm cd doc:Value) (a:Addr) (vs:List Value) (ns:List Int),
   Ground q loose [] XP w s₀ mg mb s₁.heap→YP w s₁.heap →
   s₁.heap.get? fa=some o→o.data=.func (docDef d.name d.params d.body d.scope pm cd doc)→s₁.heap.CodeRec cd d.name→mg d.name=some (.ref fa) →
   s₁.heap.get? a=some { cls:=.type "list", data:=.seq vs.toArray }→IntsAre vs ns→ns.length≤n→s₁.gens=#[] →
   codeAny (model l.prog w) callerA (.call (.ref fa) ⟨[.ref a],[]⟩) (fun r s'=>r=.ok (.ret (.bool true))∧OldK s₁.heap s'.heap∧s'.os=s₁.os∧AllBare s'.gens) s₁) :
  WalkO q loose XP YP l.row.toRowW d [] (fun f vs=>PySem.call f vs):=by
 intro w s₀ s₁ mg mb G Y fa o pm cd doc dV kV ho hd hcd hD hmg hg args vals as hpre hlay hrd hwl hlo
 obtain rfl:dV=.none:=Dflts.none hD hdf
 obtain rfl:kV=.none:=Dflts.noKw hD
 refine L2.ob_eeeaaaa (script_of hn hpre hwl) fun a vs ns e_3 e_4 hobj hints hlen=>?_;subst e_3;subst e_4
 refine enter_call (codeAny_mono (call w s₀ s₁ mg mb fa o pm cd doc a vs ns G Y ho (fd_plain hd) hcd hmg hobj hints hlen hg) fun r s' hq=>?_)
 refine L2.ob_aaa hq fun e_0 h2 h3 h4=>?_;subst e_0
 exact⟨.inl ⟨.bool true,.bool true,[],rfl,fun _=>rfl,.bool true,post_true l _,fun _=>⟨List.Pairwise.nil,fun _ hm=>(nomatch hm)⟩⟩,h2,h3,h4⟩
section
variable {prog:Program}{w:World}{A:Around}{E:Value→Shared→Prop}{s:Shared}{K:Frag}
end
end Att

namespace L2
open PySem PySem.Spec PyProof.Rows
theorem vals_ints {vs:List Value}{ns:List Int}(h:IntsAre vs ns):Vals (ns.map V.int) vs:=by
 induction h with
 | nil=>exact .nil
 | cons n t _ ih=>exact .cons ⟨t,rfl⟩ ih
end L2

namespace L2
open PySem PySem.Spec PyProof.Rows
end L2

namespace L2
open PySem PySem.Spec PyProof.Rows
def defArgs (s:Stmt):Arguments:=match s with
 | .FunctionDef _ a _ _ _ _ _ _ _ _=>a
 | _=>{ posonlyargs:=[],args:=[],vararg:=none,kwonlyargs:=[],kw_defaults:=[],kwarg:=none,defaults:=[] }
def defBody (s:Stmt):List Stmt:=match s with
 | .FunctionDef _ _ b _ _ _ _ _ _ _=>b
 | _=>[]
def defScope (s:Stmt):Scope:=match s with
 | .FunctionDef _ _ _ _ _ _ sc _ _ _=>sc
 | _=>{ kind:=.function,names:=[],isGenerator:=false,isCoroutine:=false }
abbrev E0:XK:=fun _ _ _=>False
structure Fun (K:PySem.W.Frag) (x qual:Str) (st:Stmt) (f:Addr) (fd:FuncData):Prop where
 ex:∃(oc:Value) (od:Option Addr) (kV doc pm:Value) (an:Option Addr) (cdv ct:Value) (osl:Array (Option Value)),
  fd=PySem.W.fnOf x qual (defArgs st) (defBody st) (defScope st) .none kV doc pm an cdv ct∧K.lookup f=some ⟨oc,od,.func fd,osl⟩∧PySem.W.codeIn K cdv qual=true
 kp:PySem.W.keepIn K (.ref f)=true
section
variable {P:Program}{w:World}{K:PySem.W.Frag}{mg:Str→Option Value}{base:Heap}
theorem Fun.binds {x qual:Str}{st:Stmt}{f:Addr}{fd:FuncData}{ps:List Str}(F:Fun K x qual st f fd)
  (h:∀(kV doc pm:Value) (an:Option Addr) (cdv ct:Value) (us:List Value),us.length=ps.length→bindArgs (PySem.W.fnOf x qual (defArgs st) (defBody st) (defScope st) .none kV doc pm an cdv ct) ⟨us,[]⟩=pure (ps.zip us)):Binds K fd ps []:=by
 refine L2.ob_eeeeeeeeeaa F.ex fun oc od kV doc pm an cdv ct osl e_9 lk hcd=>?_;subst e_9
 exact .all (h kV doc pm an cdv ct)
theorem fun_mk {x qual:Str}{st:Stmt}{f:Addr}{oc:Value}{od an:Option Addr}{osl:Array (Option Value)}{kV doc pm cdv ct:Value}(l:K.lookup f=some ⟨oc,od,.func (PySem.W.fnOf x qual (defArgs st) (defBody st) (defScope st) .none kV doc pm an cdv ct),osl⟩)
  (c:PySem.W.codeIn K cdv qual=true) (k:PySem.W.keepIn K (.ref f)=true):Fun K x qual st f (PySem.W.fnOf x qual (defArgs st) (defBody st) (defScope st) .none kV doc pm an cdv ct):=⟨⟨oc,od,kV,doc,pm,an,cdv,ct,osl,rfl,l,c⟩,k⟩
end
theorem hu_of {A:Around}{k:Nat}(hr:Room k A):A.units+1<cLine:=Nat.lt_of_le_of_lt (Nat.add_le_add_left (by decide:1≤64) _) hr.units
section
variable {X:Cx}
theorem pv (i:Nat) {x:Str}{pos:Pos}(hN:X.N[i]? = some x:=by rfl) (hv:Vis X.env.scope x:=by first|exact Or.inl rfl|exact Or.inr (Or.inl rfl)|exact Or.inr (Or.inr rfl)) (hd:(x==("__debug__" : Str))=false:=by decide)
  (hcd:(x==("__classdict__" : Str))=false:=by decide):PE X (.Name x pos) (tVar i):=pe_var hN hv hd hcd
end

theorem iteF {A B:Prop}(h:B):if false=true then A else B:=by
 rw [if_neg Bool.false_ne_true]
 exact h
theorem iteT {A B:Prop}(h:A):if true=true then A else B:=by
 rw [if_pos rfl]
 exact h
theorem iteNS {c A B:Prop} [Decidable c] (hc:c) (h:B):if (!decide c)=true then A else B:=by
 rw [decide_eq_true hc]
 exact iteF h
def Same (H H':Hp):Prop:=∀b o,H b=some o→H' b=some o
theorem Same.refl (H:Hp):Same H H:=fun _ _ h=>h
theorem Same.trans {H H1 H2:Hp}(a:Same H H1) (b:Same H1 H2):Same H H2:=fun c o h=>b c o (a c o h)
theorem Same.free {H H':Hp}(e:Same H H') {l:Addr}(h:H' l=Option.none):H l=Option.none:=by
 cases q:H l with
 | none=>rfl
 | some o =>
  rw [e l o q] at h
  exact L2.sn_ h
theorem Same.seq {K:PySem.W.Frag}{H H':Hp}{a:Addr}{xs:List V}(e:Same H H') (h:SqL K H a xs):SqL K H' a xs:=by
 rcases h with (h|⟨o,h⟩)|h
 ·exact .inl (.inl (e _ _ h))
 ·exact .inl (.inr ⟨o,e _ _ h⟩)
 ·exact .inr h
end L2

namespace L2
open PySem PySem.Spec PyProof.Rows
def fld2 (o:Obj):Option Value:=match o.data with
 | .fields vs=>vs[2]?
 | _=>none
def Ctx0 (h:Heap) (e:Addr):Prop:=∃o,h.get? e=some o∧fld2 o=some .none
inductive Kp2 {α:Type}:Sem α→Prop
 | pure (a:α):Kp2 (.pure a)
 | raise (e:Value):Kp2 (.raise e)
 | unsupported (w:String):Kp2 (.unsupported w)
 | rule {t:String}{k:Unit→Sem α}:Kp2 (k ())→Kp2 (.rule t k)
 | load {a:Addr}{q:Option Value}{k:Obj→Sem α}:(∀o,Kp2 (k o))→Kp2 (.load a q k)
 | update {a:Addr}{q:Option Value}{f:Obj→Obj}{k:Unit→Sem α}:(∀o,fld2 (f o)=fld2 o)→Kp2 (k ())→Kp2 (.update a q f k)
 | alloc {o:Obj}{k:Addr→Sem α}:(∀a,Kp2 (k a))→Kp2 (.alloc o k)
 | stack {k:List (Code × Pos)→Sem α}:(∀x,Kp2 (k x))→Kp2 (.stack k)
theorem Ctx0.update {h:Heap}{e a:Addr}{f:Obj→Obj}(c:Ctx0 h e) (hf:∀o,fld2 (f o)=fld2 o):Ctx0 (h.update a f) e:=by
 obtain ⟨o,ho,hc⟩:=c
 by_cases ha:a=e
 ·subst ha
  have h2:fld2 (f o)=some .none:=(hf o).trans hc
  refine⟨f o,Heap.get?_update_self f ho ?_,h2⟩
  unfold fld2 at h2
  split at h2
  ·next vs hd=>exact Obj.isFreed_of_fields hd
  ·cases h2
 ·exact⟨o,(Heap.get?_update_other _ _ ha).trans ho,hc⟩
theorem wp_kp2 {α:Type}{M:Model}{Γ:PySem.Ctx}{e:Addr}{Q:α→Pos→Shared→Prop}{E:Value→Pos→Shared→Prop}{t:Sem α}(hk:Kp2 t):∀(p:Pos) (s:Shared),Ctx0 s.heap e→Sem.wp M Γ t Q E p s→Sem.wp M Γ t (fun a p' s'=>Q a p' s'∧Ctx0 s'.heap e) (fun x p' s'=>E x p' s'∧Ctx0 s'.heap e) p s:=by
 induction hk with
 | pure a=>intro p s c h;rw [Sem.wp_pure] at h ⊢;exact⟨h,c⟩
 | raise x=>intro p s c h;rw [Sem.wp_raise] at h ⊢;exact⟨h,c⟩
 | unsupported x=>intro p s c h;rw [Sem.wp_unsupported] at h;exact h.elim
 | rule _ ih=>intro p s c h;rw [Sem.wp_rule] at h ⊢;exact ih p s c h
 | load _ ih=>intro p s c h;rw [Sem.wp_load] at h ⊢;obtain ⟨o,ho,h⟩:=h;exact⟨o,ho,ih o p s c h⟩
 | update hf _ ih=>intro p s c h;rw [Sem.wp_update] at h ⊢;exact⟨h.1,ih p _ (c.update hf) h.2⟩
 | alloc _ ih=>intro p s c h;rw [Sem.wp_alloc] at h ⊢;exact ih _ p _ (by obtain ⟨o,ho,hc⟩:=c;exact⟨o,Heap.get?_push_of_some _ ho,hc⟩) h
 | stack _ ih=>intro p s c h;rw [Sem.wp_stack] at h ⊢;exact ih _ p s c h
theorem kp2_any {α:Type}{M:Model}{A:Around}{e:Addr}{Q:α→Shared→Prop}{E:Value→Shared→Prop}{t:Sem α}{s:Shared}(hk:Kp2 t) (c:Ctx0 s.heap e) (h:wpAny M A t Q E s):wpAny M A t (fun a s'=>Q a s'∧Ctx0 s'.heap e) (fun x s'=>E x s'∧Ctx0 s'.heap e) s :=
 fun Γ p hΓ=>wp_kp2 hk p s c (h Γ p hΓ)
theorem kp2_bind {α β:Type}{f:α→Sem β}{m:Sem α}(hm:Kp2 m) (hf:∀a,Kp2 (f a)):Kp2 (m >>= f):=by
 induction hm with
 | pure a=>exact hf a
 | raise x=>exact .raise x
 | unsupported x=>exact .unsupported x
 | rule _ ih=>exact .rule ih
 | load _ ih=>exact .load ih
 | update h _ ih=>exact .update h ih
 | alloc _ ih=>exact .alloc ih
 | stack _ ih=>exact .stack ih
theorem kp2_load (a:Addr):Kp2 (load a):=.load fun o=>.pure o
theorem kp2_stack:Kp2 stack:=.stack fun x=>.pure x
theorem kp2_un {α:Type}(w:String):Kp2 (unsupported w:Sem α):=.unsupported w
theorem kp2_ret {α:Type}(a:α):Kp2 (Pure.pure a:Sem α):=.pure a
theorem kp2_field (v:Value) (i:Nat):Kp2 (field v i):=by
  unfold field
  refine kp2_bind ?_ fun vs=>?_
  · unfold fieldsOf
    cases v <;> first
      | exact kp2_un _
      | (refine kp2_bind (kp2_load _) fun o=>?_
         split
         · exact kp2_ret _
         · exact kp2_un _)
  · split
    · exact kp2_ret _
    · exact kp2_un _
theorem fld2_map {f:Array Value→Array Value}(hf:∀vs,(f vs)[2]? = vs[2]?) (o:Obj):fld2 (Obj.mapFields f o)=fld2 o:=by
 obtain ⟨c,d,dt,sl⟩:=o
 cases dt <;> first|rfl|exact hf _
theorem kp2_setField (v:Value) {i:Nat}(x:Value) (hi:i≠2):Kp2 (setField v i x):=by
  unfold setField
  cases v <;> first
    | exact kp2_un _
    | (show Kp2 (updateField _ _ _)
       unfold updateField
       refine kp2_bind (kp2_load _) fun o=>?_
       split
       · split
         · exact .update (fld2_map fun vs=>Array.getElem?_setIfInBounds_ne hi) (.pure ())
         · exact kp2_un _
       · exact kp2_un _)
theorem kp2_flight (v:Value) (fr:Option Addr):Kp2 (setFlight v fr):=by
 unfold setFlight
 refine kp2_bind (kp2_field v 1) fun tb=>?_
 split
 ·exact kp2_setField _ _ (by decide)
 ·exact kp2_ret _
theorem kp2_ready:∀l:List Env,Kp2 (readyFrames l)
 | []=>kp2_ret _
 | env::outer=>by
  unfold readyFrames
  split
  ·next f hf =>
   refine kp2_bind (kp2_load _) fun o=>?_
   split
   ·exact kp2_ret _
   ·refine kp2_bind ?_ fun im=>kp2_bind ?_ fun bk=>kp2_bind (.update (fun o=>rfl) (.pure ())) fun _=>kp2_ready outer
    ·unfold behindIsImport
     split
     ·exact kp2_ret _
     ·split
      ·exact kp2_ret _
      ·exact kp2_bind (kp2_field _ _) fun _=>kp2_ret _
    ·unfold keptBack
     split
     ·split
      ·exact kp2_ret _
      ·unfold underTheClaimsCaller
       exact kp2_bind (kp2_bind kp2_stack fun _=>kp2_ret _) fun _=>kp2_ret _
     ·exact kp2_ret _
  ·exact kp2_un _
theorem kp2_frameOf (env:Env):Kp2 (PySem.frameOf env):=by
 unfold PySem.frameOf
 refine kp2_bind (kp2_bind kp2_stack fun _=>kp2_ret _) fun es=>kp2_bind ?_ fun r=>?_
 ·unfold frameObject
  split
  ·exact kp2_ret _
  ·exact kp2_bind (kp2_ready _) fun _=>kp2_ret _
 ·split
  ·exact kp2_ret _
  ·exact kp2_un _
theorem kp2_place (f:Addr) (b:Bool):Kp2 (entryPlaceOf f b):=by
 unfold entryPlaceOf
 refine kp2_bind kp2_stack fun acts=>?_
 split
 ·exact kp2_ret _
 ·exact kp2_ret _
theorem kp2_asIs (ty:String) (vs:Array Value):Kp2 (newObjAsIs (.type ty) (.fields vs)):=by
 unfold newObjAsIs
 exact kp2_bind (.alloc fun a=>.pure a) fun a=>kp2_ret _
theorem kp2_fields (ty:String) (vs:List Value):Kp2 (newFields ty vs):=by
 unfold newFields newObj
 dsimp only
 split
 ·exact kp2_bind (kp2_un _) fun _=>kp2_asIs _ _
 ·exact kp2_asIs _ _
theorem kp2_entry (a b c d e:Value) (l:List Value):Kp2 (EntryCells.newEntry a b c d e l):=kp2_fields _ _
theorem kp2_note (v:Value) (env:Env):Kp2 (noteFrame v env):=by
 unfold noteFrame
 split
 ·next f hf =>
  refine kp2_bind (kp2_field v 1) fun hd=>?_
  have last:∀u,Kp2 (do let a ←PySem.frameOf env;let pl ←entryPlaceOf f (hd != .none);let b ←EntryCells.newEntry hd a .none (rawInt f) .none pl;setField v 1 b:Sem Unit):=fun _:Unit=>kp2_bind (kp2_frameOf env) fun _=>kp2_bind (kp2_place _ _) fun _=>kp2_bind (kp2_entry _ _ _ _ _ _) fun _=>kp2_setField _ _ (by decide)
  split
  ·refine kp2_bind (kp2_field hd 3) fun fl=>?_
   split
   ·exact kp2_ret _
   ·exact kp2_bind (kp2_setField _ _ (by decide)) last
  ·exact last ()
 ·exact kp2_un _
theorem kp2_leaving (env:Env) (v:Value):Kp2 (leaving env v):=by
 unfold leaving
 exact kp2_bind (kp2_note v env) fun _=>kp2_flight v none
end L2

namespace L2
open PySem PySem.Spec PyProof.Rows
theorem ObjOk.there {P:Program}{w:World}{H:Hp}{h:Heap}{a:Addr}{o:HO}(x:ObjOk P w H h a o):∃ob,h.get? a=some ob:=by
 cases o with
 | lst xs=>obtain ⟨_,_,_,_,e⟩:=x;exact⟨_,e⟩
 | tup xs=>obtain ⟨_,_,_,p⟩:=x;obtain ⟨o,e,_⟩:=p;exact⟨_,e⟩
 | dK kvs=>obtain ⟨_,_,_,_,o,_,_,e,_⟩:=x;exact⟨_,e⟩
 | dT kvs=>obtain ⟨_,_,_,_,o,_,_,e,_⟩:=x;exact⟨_,e⟩
 | set S n=>obtain ⟨o,_,_,_,e,_⟩:=x;exact⟨_,e⟩
 | ins C dx fs=>obtain ⟨_,_,_,e,_⟩:=x;exact⟨_,e⟩
 | own y=>obtain ⟨_,e⟩:=x;exact⟨_,e⟩
 | xd fs=>obtain ⟨_,⟨_,_,_,e,_⟩,_⟩:=x;exact⟨_,e⟩
 | rng lo hi=>obtain ⟨_,_,_,e⟩:=x;exact⟨_,e⟩
 | frz ob u=>obtain ⟨e,_⟩:=x;exact⟨_,e⟩
 | tbl ps=>exact⟨_,(show h.get? a=some _ from x)⟩
 | met f y=>exact⟨_,(show h.get? a=some _ from x)⟩
 | ext φ=>obtain ⟨_,⟨_,e⟩,_⟩:=x;exact⟨_,e⟩
structure Fly (P:Program) (w:World) (outer:List Env) (H:Hp) (s:Shared) (C:Addr) (H':Hp) (a:Addr) (s':Shared):Prop where
 os:s'.os=s.os
 bare:AllBare s'.gens
 body:∃B a0,Heap.FlyingW B outer a (.ref C) a0 s'.heap∧HOk P w H' B ∧
  (∀b o,s.heap.get? b=some o→H b=none→b ∉ frs outer→B.get? b=some o)∧(∀b o,s.heap.get? b=some o→b ∉ frs outer→∃o',B.get? b=some o')
 slot:∀b o,s.heap.get? b=some o→H b=none→b∈frs outer→∃sl,s'.heap.get? b=some { o with slots:=sl }
 free:∀b o,s.heap.get? b=some o→H b=none→H' b=none
 tups:∀b xs,H b=some (.tup xs)→H' b=some (.tup xs)
 frzs:∀b o u,H b=some (.frz o u)→H' b=some (.frz o u)
 tbls:∀b ps,H b=some (.tbl ps)→∃more,H' b=some (.tbl (ps++more))
inductive CX1 (P:Program) (w:World) (outer:List Env) (H:Hp) (s:Shared) (E:XK) (e:Value) (s':Shared):Prop
 | mk:∀a C H' (y:Option Addr),(e=.ref a)→(Fly P w outer H s C H' a s')→(y=none→Ctx0 s'.heap a)→(E (.ref C) y H')→CX1 P w outer H s E e s'
structure Own (X:Cx):Prop where
 stk:X.stack=X.env::X.outer
 fr:X.env.frame=some X.env.locals
 ex:X.ex=[]
section
variable {X:Cx}{pins:List (Addr × Obj)}{σ:St}{H:Hp}{s:Shared}
theorem Own.noex (O:Own X) (b:Addr):b ∉ X.ex:=by rw [O.ex];simp
theorem Own.frs (O:Own X):frs X.stack=X.env.locals::frs X.outer:=by rw [O.stk];unfold L2.frs;rw [List.filterMap_cons,O.fr]
theorem Own.notStk (O:Own X) (I:Inv X pins σ H s) {b:Addr}{o:Obj}(e:X.s₀.heap.get? b=some o) (hb:b ∉ X.fs):b ∉ L2.frs X.stack:=by
 rw [O.frs]
 intro z
 rcases List.mem_cons.mp z with z|z
 ·exact absurd (Nat.lt_of_lt_of_le (Heap.lt_size e) I.ok.above) (by rw [z];exact Nat.lt_irrefl _)
 ·exact hb z
theorem throw_ok {e C:Addr}{h1:Heap}{vs:List Value}{tk:Nat}{Q:Unit→Shared→Prop}{E':Value→Shared→Prop}(O:Own X) (I:Inv X pins σ H s) (hx:Heap.MadeExcOf s.heap h1 e (.ref C) vs)
  (hQ:∀s',Fly X.prog X.w X.outer X.H₀ X.s₀ C H e s'→Q () s'):wpAny (model X.prog X.w) X.A (leaving X.env (.ref e)) Q E' { s with heap:=h1,toks:=tk }:=by
 have hin:∀env∈X.stack,∀b,env.frame=some b→b∈frs X.stack:=fun env he b hb=>List.mem_filterMap.mpr ⟨env,he,hb⟩
 have hst:=PySem.W.funFrames_hide I.stack hin
 have hfr:X.A.frames=some (X.env::X.outer):=by rw [I.ok.frames,O.stk]
 rw [O.stk] at hst
 refine wpAny_leaves_madeW (s:={ s with heap:=h1,toks:=tk }) (base:=PySem.W.hideAll s.heap (frs X.stack)) (h:=s.heap) hfr O.fr (fun b o q=>PySem.W.of_hideAll _ q) (by rw [O.stk];exact hst) hx fun h' t x1 x2 x3 x4=>?_
 refine hQ _ ⟨I.os,I.bare,⟨_,_,x1,fun a o ha=>?_,fun b o q n hb=>?_,fun b o q hb=>?_⟩,fun b o q n hb=>?_,fun b o q n=>I.base.free b o q n (O.noex b),I.base.tups,I.base.frzs,I.base.tbls⟩
 ·refine (I.hok a o ha).stay (fun b u hb q=>PySem.W.hideAll_get _ q fun z=>?_) (fun _ q=>q) fun _ _ q=>q
  have f:=I.stkFree b z
  rcases hb with rfl|hb
  ·rw [ha] at f;exact L2.sn_ f
  ·rw [hb] at f;exact L2.sn_ f
 ·exact PySem.W.hideAll_get _ (I.base.keep b o q n hb (O.noex b)) (O.notStk I q hb)
 ·obtain ⟨o',e'⟩:=I.base.there b o q (O.noex b)
  exact⟨o',PySem.W.hideAll_get _ e' (O.notStk I q hb)⟩
 ·obtain ⟨sl,e1⟩:=I.base.slot b o q n hb (O.noex b)
  refine L2.ob_aea (I.ok.funs.mem hb) fun _ o2 ho2 hd=>?_
  rw [q] at ho2;obtain rfl:=Option.some.inj ho2
  obtain ⟨sl',e2⟩:=x4 b _ (hx.keeps b _ e1) hd
  exact⟨sl',e2⟩
theorem fly_on {e C:Addr}{H':Hp}{s':Shared}{Q:Unit→Shared→Prop}{E':Value→Shared→Prop}(O:Own X) (I:Inv X pins σ H s) (F:Fly X.prog X.w X.stack H s C H' e s')
  (hQ:∀s',Fly X.prog X.w X.outer X.H₀ X.s₀ C H' e s'→Q () s'):wpAny (model X.prog X.w) X.A (leaving X.env (.ref e)) Q E' s':=by
 have hfr:X.A.frames=some (X.env::X.outer):=by rw [I.ok.frames,O.stk]
 obtain ⟨B,a0,hfl,hok,hk,ht⟩:=F.body
 have hfl':=hfl
 rw [O.stk] at hfl'
 refine wpAny_leaves_onW hfr O.fr hfl' fun h' x1 x2=>?_
 refine hQ _ ⟨F.os.trans I.os,F.bare,⟨B,a0,x1,hok,fun b o q n hb=>?_,fun b o q hb=>?_⟩,fun b o q n hb=>?_,fun b o q n=>?_,fun b xs q=>F.tups b xs (I.base.tups b xs q),fun b o u q=>F.frzs b o u (I.base.frzs b o u q),fun b ps q=>?_⟩
 ·exact hk b o (I.base.keep b o q n hb (O.noex b)) (I.base.free b o q n (O.noex b)) (O.notStk I q hb)
 ·obtain ⟨o',e'⟩:=I.base.there b o q (O.noex b)
  exact ht b o' e' (O.notStk I q hb)
 ·obtain ⟨sl,e1⟩:=I.base.slot b o q n hb (O.noex b)
  obtain ⟨sl',e2⟩:=F.slot b _ e1 (I.base.free b o q n (O.noex b)) (by rw [O.frs];exact List.mem_cons_of_mem _ hb)
  refine L2.ob_aea (I.ok.funs.mem hb) fun _ o2 ho2 hd=>?_
  rw [q] at ho2;obtain rfl:=Option.some.inj ho2
  obtain ⟨sl2,e3⟩:=x2 b _ e2 hd
  exact⟨sl2,e3⟩
 ·obtain ⟨o',e'⟩:=I.base.there b o q (O.noex b)
  exact F.free b o' e' (I.base.free b o q n (O.noex b))
 ·obtain ⟨m1,e1⟩:=I.base.tbls b ps q
  obtain ⟨m2,e2⟩:=F.tbls b _ e1
  exact⟨m1++m2,by rw [e2,Array.append_assoc]⟩
end

def Throws (X:Cx) (E:XK):Prop:=∀(pins:List (Addr × Obj)) (σ:St) (H:Hp) (s:Shared) (e C:Addr) (h1:Heap) (vs:List Value),Inv X pins σ H s→Heap.MadeExcOf s.heap h1 e (.ref C) vs→E (.ref C) none H→X.xe (.ref e) { s with heap:=h1 }
section
variable {P:Program}{w:World}{K:PySem.W.Frag}{mg:Str→Option Value}{base:Heap}{N:List Str}{qual:Str}{scope:Scope}{f:Addr}{cd:Value}{A:Around}{outer:List Env}{s:Shared}{H:Hp}{E:XK}
abbrev cx1 (P:Program) (w:World) (K:PySem.W.Frag) (mg:Str→Option Value) (base:Heap) (N:List Str) (qual:Str) (scope:Scope) (f:Addr) (cd:Value) (A:Around) (outer:List Env) (s:Shared) (H:Hp) (E:XK):Cx :=
 cxOf (CX1 P w) P w K mg base N qual scope f cd A outer s H E
theorem own1:Own (cx1 P w K mg base N qual scope f cd A outer s H E):=⟨rfl,rfl,rfl⟩
theorem pass1:Passes (CX1 P w) (cx1 P w K mg base N qual scope f cd A outer s H E) E:=by
 intro pins σ H2 s2 e s' I h
 obtain ⟨a,C,H',y,rfl,F,c,hE⟩:=h
 cases y with
 | none=>exact wpAny_mono (kp2_any (kp2_leaving _ _) (c rfl) (fly_on (X:=cx1 P w K mg base N qual scope f cd A outer s H E) (Q:=fun _ s''=>Fly P w outer H s C H' a s'') own1 I F fun s'' F'=>F')) (fun _ s'' q=>⟨a,C,H',none,rfl,q.1,fun _=>q.2,hE⟩) fun _ _ q=>q.1
 | some z=>exact fly_on (X:=cx1 P w K mg base N qual scope f cd A outer s H E) own1 I F fun s'' F'=>⟨a,C,H',some z,rfl,F',(fun h=>nomatch h),hE⟩
theorem throws1:Throws (cx1 P w K mg base N qual scope f cd A outer s H E) E:=by
 intro pins σ H2 s2 e C h1 vs I hx hE
 obtain ⟨t,ht,_,_⟩:=hx.there
 exact wpAny_mono (kp2_any (kp2_leaving _ _) ⟨_,ht,rfl⟩ (throw_ok (X:=cx1 P w K mg base N qual scope f cd A outer s H E) (Q:=fun _ s''=>Fly P w outer H s C H2 e s'') (tk:=s2.toks) own1 I hx fun s'' F'=>F')) (fun _ s'' q=>⟨e,C,H2,none,rfl,q.1,fun _=>q.2,hE⟩) fun _ _ q=>q.1
theorem powns1:PassesOwn (model (cx1 P w K mg base N qual scope f cd A outer s H E).prog (cx1 P w K mg base N qual scope f cd A outer s H E).w) (cx1 P w K mg base N qual scope f cd A outer s H E).A (cx1 P w K mg base N qual scope f cd A outer s H E).env (cx1 P w K mg base N qual scope f cd A outer s H E).xe:=PassesOwn.leaving
end
theorem pass10 {P:Program}{w:World}{X:Cx}:Passes (CX1 P w) X E0:=by
 rintro pins σ H s e s' I ⟨a,C,H',_,_,_,_,h⟩
 exact h.elim
theorem Fun.ok1 {P:Program}{w:World}{K:PySem.W.Frag}{mg:Str→Option Value}{base:Heap}{x qual:Str}{st:Stmt}{f:Addr}{fd:FuncData}{N ps:List Str}{k:Nat}{sp:Sp}(F:Fun K x qual st f fd) (S:FnScope N ps (defScope st))
  (len:∀vs H Q E,sp vs H Q E→vs.length=ps.length)
  (hbody:∀(cdv:Value) (A:Around) (outer:List Env) (s:Shared) (H:Hp) (vs:List V) (Q:VK) (E:XK),Room k (A.deeper (envOfC qual (defScope st) s.heap.objs.size f cdv))→sp vs H Q E →
   ∃t,PSs (cx1 P w K mg base N qual (defScope st) f cdv A outer s H E) (defBody st) t∧t { nx:=fun _ H'=>Q .non H',rt:=Q } (start N vs) H):FnOk P w K mg base (CX1 P w) (k+1) f fd ps sp:=by
 refine L2.ob_eeeeeeeeeaa F.ex fun oc od kV doc pm an cdv ct osl e_9 lk hcd=>?_;subst e_9
 exact fn_of lk hcd S len fun A outer s H vs Q E hr hsp=>hbody cdv A outer s H vs Q E hr hsp
def bmV:List Value:=[.type "ValueError", .type "Exception", .type "BaseException", .type "object"]
inductive ExK (K:PySem.W.Frag) (C:Addr):Prop
 | mk:∀{bm N nm q bs hdct sn sub ab col dd k0 k1 k2 k3 k5},K.lookup C=some (excClassObj nm q C N bs bm hdct sn sub ab col dd k0 k1 k2 k3 k5 "ValueError.__new__")→PySem.W.tailIn K bmV bm=true→PySem.W.nsOkIn K N=true→PySem.W.nsIn K N "__init__" = some none→ExK K C
structure ExC (K:PySem.W.Frag) (mg:Str→Option Value) (x:Str) (C:Addr):Prop where
 mg:mg x=some (.ref C)
 ex:ExK K C
theorem own_of {K:PySem.W.Frag}{mg:Str→Option Value}{h:Heap}{x:Str}{C:Addr}(e:ExC K mg x C) (X:K.In h):OwnCls x C bmV "ValueError.__new__" mg h:=by
 obtain ⟨lk,ht,hok,hni⟩:=e.ex
 exact⟨e.mg,_,_,_,_,_,_,_,_,_,_,_,_,_,_,_,_,_,X _ _ lk,.of_isNs (PySem.W.isNs_of_in X hok),PySem.W.nsMap_none_of_in X hok hni,PySem.W.tail_of_in X ht⟩
inductive tRaise_b (C:Addr) (E:XK) (vs:List V) (H1:Hp):Prop
 | mk:(vs.length≤sizeLine)→(E (.ref C) none H1)→tRaise_b C E vs H1
def tRaise (C:Addr) (E:XK) (t:TA):TS:=fun _e0 σ H=>t σ H fun vs H1=>tRaise_b C E vs H1
theorem ps_raise {X:Cx}{E:XK}{x:Str}{C:Addr}{np cpos pos:Pos}{e:Expr}{es:List Expr}{t:TA}(hc:X.calm=true) (ht:Throws X E) (hC:ExC X.K X.mg x C) (hg:Gl X x) (ha:PA X (e::es) t)
  (he:starEach (e::es) X.env=(false,eval e X.env)::starEach es X.env:=by rfl) (hplain:(backTo cpos (starEach es X.env)).any (·.1)=false:=by rfl) (hd:(x==("__debug__" : Str))=false:=by decide) :
  PS X (.Raise (some (.Call (.Name x np) (e::es) [] cpos)) none pos) (tRaise C E t):=by
 intro pins s σ H D I h
 refine L2.ob_eeeeeeeeeeeeeeeeeaaa ((own_of hC I.mod.kin).obj) fun tl N nm q bs hdct sn sub ab col dd k0 k1 k2 k3 k5 mN hC' hN hni T=>?_
 have FB:=PySem.F.excBase_ValueError
 refine wpAny_Raise_call_subT (C:=C) (nm:=nm) (q:=q) (N:=N) (bs:=bs) (bm:=tl) (hdct:=hdct) (sn:=sn) (sub:=sub) (ab:=ab) (col:=col) (dd:=dd) (k0:=k0) (k1:=k1) (k2:=k2) (k3:=k3) (k5:=k5)
  FB (mN:=mN) (T.hasType FB.hasBase) (I.ok.hd hc) (by rw [he];show (false || (backTo cpos (starEach es X.env)).any (·.1))=false;rw [hplain];rfl) hni (ld_glob I hg hC.mg ⟨rfl,?_⟩ hd)
 have hA:=ha cpos pins s σ H _ I h
 rw [he] at hA ⊢
 refine Calls.evalArgs_plain (thn hA fun us s2 ⟨vs,H2,I2,r,z,hE⟩=>?_)
 exact⟨rfl,by rw [←r.length];exact z,I2.bk _ _ hC',hN.keeps I2.bk,T.keeps I2.bk,fun h' e hm=>ht pins σ H2 s2 e C h' us I2 hm hE⟩
def excO (a C:Addr):HO:=.ext fun h=>∃o vs,h.get? a=some o∧o.cls=.ref C∧o.data=.fields vs
theorem excO_ok {P:Program}{w:World}{H:Hp}{h:Heap}{a C:Addr}{o:Obj}{vs:Array Value}(e:h.get? a=some o) (hc:o.cls=.ref C) (hd:o.data=.fields vs):ObjOk P w H h a (excO a C) :=
 ⟨⟨o,vs,e,hc,hd⟩,⟨o,e⟩,fun h1 h2 ⟨o1,vs1,e1,c1,d1⟩ k=>⟨o1,vs1,k o1 e1,c1,d1⟩⟩
theorem flying_excO {B h:Heap}{l:List Env}{e C:Addr}{a0:Value}(x:Heap.FlyingW B l e (.ref C) a0 h) {P:Program}{w:World}(G:Hp):ObjOk P w G h e (excO e C):=by
 obtain ⟨oe,vs,h1,h2,h3,_⟩:=x.first
 exact excO_ok h1 h2 h3
def catchE (K:PySem.W.Frag) (c:Value) (n i:Nat) (ts:TS) (D:Ends):XK:=fun cls _ H'=>∃C,cls=.ref C∧PySem.W.exmOne K (.ref C) c=some true∧∀a,H' a=none →
 ts { nx:=fun σ' H2=>D.nx (σ'.set i none) H2,rt:=D.rt,bk:=fun σ' H2=>D.bk (σ'.set i none) H2,ct:=fun σ' H2=>D.ct (σ'.set i none) H2 } ((List.replicate n none).set i (some (.ref a))) (upd H' a (excO a C))
def tTry (K:PySem.W.Frag) (c:Value) (n i:Nat) (tb:XK→TS) (ts:TS):TS:=fun D σ H=>tb (catchE K c n i ts D) D σ H
section
variable {X:Cx}{pins:List (Addr × Obj)}{σ:St}{H H':Hp}{s s':Shared}
theorem Inv.recx {A':Around}{calm':Bool}{pn':List (Addr × Obj)}{xe':Value→Shared→Prop}{pins':List (Addr × Obj)}(I:Inv X pins σ H s) (hfr:A'.frames=some X.stack) (hd:calm'=true→A'.handled=none) (hp:∀p∈pn'++pins',p∈X.pn++pins) :
  Inv { X with A:=A',calm:=calm',pn:=pn',xe:=xe' } pins' σ H s :=
 ⟨⟨I.ok.mod,I.ok.kind,I.ok.glob,I.ok.blt,I.ok.above,I.ok.inj,I.ok.has,I.ok.cab,hd,hfr,I.ok.stk,I.ok.exf,I.ok.bs,I.ok.bsz,I.ok.noex,I.ok.exfs,I.ok.funs,I.ok.frf⟩,
  I.os,I.bare,I.base,I.loc,I.cell,I.free,I.freeC,fun p h=>I.pin p (hp p h),I.hok,I.len⟩
theorem fly_landed {e C:Addr}{B:Heap}{a0:Value}{h2:Heap}{tk:Nat}(I:Inv X pins σ H s) (F:Fly X.prog X.w X.stack H s C H' e s')
  (hfl:Heap.FlyingW B X.stack e (.ref C) a0 h2) (hok:HOk X.prog X.w H' B) (hk:∀b o,s.heap.get? b=some o→H b=none→b ∉ frs X.stack→B.get? b=some o) (ht:∀b o,s.heap.get? b=some o→b ∉ frs X.stack→∃o',B.get? b=some o')
  (hsl:s'.heap.UpToSlots h2) {ob:HO}(hob:∀G:Hp,ObjOk X.prog X.w G h2 e ob):H' e=none∧Inv X pins σ (upd H' e ob) { s' with heap:=h2,toks:=tk }:=by
 obtain ⟨f1,f2,f3,f4⟩:=id hfl
 have hfree:H' e=none:=by
  cases q:H' e with
  | none=>rfl
  | some u =>
   obtain ⟨ob,z⟩:=(hok e u q).there
   rw [f2] at z;exact L2.ns_ z
 refine L2.ob_eeaaa hfl.first fun oe vs hoe hoc hod _=>?_
 have hfresh:s.heap.get? e=none:=by
  cases q:s.heap.get? e with
  | none=>rfl
  | some o =>
   by_cases hb:e∈frs X.stack
   ·obtain ⟨sl,z⟩:=F.slot e o q (I.stkFree e hb) hb
    obtain ⟨_,o2,ho2,hd⟩:=I.stack.mem hb
    rw [q] at ho2;obtain rfl:=Option.some.inj ho2
    obtain ⟨sl',z2⟩:=hsl e _ z hd
    rw [hoe] at z2;obtain rfl:=Option.some.inj z2
    exact absurd hod (hd vs)
   ·obtain ⟨o',z⟩:=ht e o q hb
    rw [f2] at z;exact L2.ns_ z
 have kp:∀b u,B.get? b=some u→h2.get? b=some u:=f1
 refine⟨hfree,I.call' (s':={ s' with heap:=h2,toks:=tk }) (ch:=[]) F.os ⟨fun b o q n hb _=>kp b o (hk b o q n hb),fun b o q n hb _=>?_,fun b o q n _=>?_,fun b o q _=>?_,fun b xs q=>?_,fun b o u q=>?_,fun b ps q=>?_⟩ ?_ F.bare (fun b z=>absurd z (by simp))⟩
 ·obtain ⟨sl,z⟩:=F.slot b o q n hb
  refine L2.ob_aea (I.stack.mem hb) fun _ o2 ho2 hd=>?_
  rw [q] at ho2;obtain rfl:=Option.some.inj ho2
  obtain ⟨sl',z2⟩:=hsl b _ z hd
  exact⟨sl',z2⟩
 ·rw [upd_ne (fun z=>by rw [z,hfresh] at q;exact L2.ns_ q)]
  exact F.free b o q n
 ·by_cases hb:b∈frs X.stack
  ·obtain ⟨sl,z⟩:=F.slot b o q (I.stkFree b hb) hb
   obtain ⟨_,o2,ho2,hd⟩:=I.stack.mem hb
   rw [q] at ho2;obtain rfl:=Option.some.inj ho2
   obtain ⟨sl',z2⟩:=hsl b _ z hd
   exact⟨_,z2⟩
  ·obtain ⟨o',z⟩:=ht b o q hb
   exact⟨o',kp _ _ z⟩
 ·have z:=F.tups b xs q
  rw [upd_ne (ne_of_none z hfree)];exact z
 ·have z:=F.frzs b o u q
  rw [upd_ne (ne_of_none z hfree)];exact z
 ·obtain ⟨m,z⟩:=F.tbls b ps q
  exact⟨m,by rw [upd_ne (ne_of_none z hfree)];exact z⟩
 ·intro b u q
  by_cases hb:b=e
  ·subst hb
   rw [upd_same] at q;obtain rfl:=Option.some.inj q
   exact hob _
  ·rw [upd_ne hb] at q
   exact (hok b u q).stay (fun c v _ z=>kp c v z) (fun c z=>by rw [upd_ne (ne_of_none z hfree)];exact z) fun c xs z=>by rw [upd_ne (ne_of_none z hfree)];exact z
theorem name_goes {n:Str}{i:Nat}{pos:Pos}{A':Around}{E:Value→Shared→Prop}{Q:Unit→Shared→Prop}(I:Inv X pins σ H s) (hN:X.N.Nodup) (hi:X.N[i]? = some n) (hl:X.env.scope.names.lookup n=some .local)
  (h:∀s',Inv X pins (σ.set i none) H s'→Q () s'):wpAny (model X.prog X.w) A' (do bindName X.env n .none;unbindBehindTheSuite X.env n pos) Q E s:=by
 refine L2.ob_ea (id I.loc) fun m hn hloc=>?_
 have hcls:(X.env.scope.kind == .class || (X.env.scope.kind == .module && X.env.locals != X.env.globals))=false:=by rw [I.ok.kind];rfl
 refine wpAny_nameGoes_keeps hl hn hcls fun h' v hn' hs=>h _ ?_
 obtain ⟨oL,_,_,hoL,_⟩:=id hn
 have ext:∀b o,b≠X.env.locals→s.heap.get? b=some o→h'.get? b=some o:=fun b o hb e=>(hs.2 b hb).trans e
 have tracked:HOk X.prog X.w H h':=fun b ob e=>(I.hok b ob e).stay (fun c w' hc q=>ext c w' (by
  rintro rfl
  rcases hc with rfl|hc
  ·rw [I.free] at e;exact L2.ns_ e
  ·rw [I.free] at hc;exact L2.ns_ hc) q) (fun _ q=>q) fun _ _ q=>q
 have neL:∀b o,X.s₀.heap.get? b=some o→b≠X.env.locals:=fun b o e=>Nat.ne_of_lt (Nat.lt_of_lt_of_le (Heap.lt_size e) I.ok.above)
 refine⟨I.ok,I.os,I.bare,⟨fun b o e n hb hx=>ext b o (neL b o e) (I.base.keep b o e n hb hx),fun b o e n hb hx=>?_,I.base.free,fun b o e hx=>?_,I.base.tups,I.base.frzs,I.base.tbls⟩,⟨_,hn',fun j y v' e1 e2 e3=>?_⟩,fun y c e=>?_,I.free,I.freeC,fun p hp=>?_,tracked,by rw [List.length_set];exact I.len⟩
 ·obtain ⟨sl,e1⟩:=I.base.slot b o e n hb hx
  exact⟨sl,ext b _ (neL b o e) e1⟩
 ·obtain ⟨o',e1⟩:=I.base.there b o e hx
  exact⟨o',ext b _ (neL b o e) e1⟩
 ·have hj:j≠i:=by
   rintro rfl
   rw [List.getElem?_set] at e2
   simp at e2
  rw [List.getElem?_set_ne (Ne.symm hj)] at e2
  refine L2.ob_ea (hloc j y v' e1 e2 e3) fun u' r' q=>?_
  have hy:y≠n:=fun e=>hj (nodup_ix hN e1 (e ▸ hi))
  refine⟨u',r',?_⟩
  rcases q with ⟨k,e⟩|⟨k,c,e,z⟩
  ·exact .inl ⟨k,by simp [hy,e]⟩
  ·obtain ⟨o,ho,hd⟩:=z
   exact .inr ⟨k,c,e,o,ext c o (I.cne y c e) ho,hd⟩
 ·obtain ⟨v,o,ho,hd⟩:=I.cell y c e
  exact⟨v,o,ext c o (I.cne y c e) ho,hd⟩
 ·refine L2.ob_aaaa (I.pin p hp) fun e n ne nf d=>?_
  exact⟨ext p.1 p.2 ne e,n,ne,nf,d⟩
theorem ps_try {n:Str}{i:Nat}{x:Str}{c:Value}{body:List Stmt}{b₀:Stmt}{suite:List Stmt}{np hpos pos:Pos}{tb:XK→TS}{ts:TS}(O:Own X) (hc:X.calm=true)
  (hb:∀(xe':Value→Shared→Prop) (pn':List (Addr × Obj)) (E:XK),Passes (CX1 X.prog X.w) { X with xe:=xe',pn:=pn' } E→PSs { X with xe:=xe',pn:=pn' } body (tb E))
  (hs:∀(A':Around),PSs { X with A:=A',calm:=false,xe:=fun _ _=>False } (b₀::suite) ts)
  (hN:X.N.Nodup) (hi:X.N[i]? = some n) (hl:X.env.scope.names.lookup n=some .local) (hg:Gl X x) (hm:X.mg x=some c) (hd:(x==("__debug__" : Str))=false:=by decide) :
  PS X (.Try body [.ExceptHandler (some (.Name x np)) (some n) (b₀::suite) hpos] [] [] pos) (tTry X.K c X.N.length i tb ts):=by
 intro pins s σ H D I h
 refine wpAny_Try_except ?_
 let xe':Value→Shared→Prop:=fun e s₁=>wpAny (model X.prog X.w) X.A (noteFrame e X.env) (fun _ s₂=>wpAny (model X.prog X.w) X.A (setFlight e none) (fun _ s₃=>wpAny (model X.prog X.w) X.A (handleBy e X.env [.ExceptHandler (some (.Name x np)) (some n) (b₀::suite) hpos]) (SP X pins D) X.xe s₃) X.xe s₂) X.xe s₁
 have hp:Passes (CX1 X.prog X.w) { X with xe:=xe',pn:=X.pn++pins } (catchE X.K c X.N.length i ts D):=by
  intro pins2 σ2 H2 s2 e s' I2 hcx
  obtain ⟨a,C,H',y,rfl,F,_,C',hC',hex,hts⟩:=hcx
  cases hC'
  have I2':Inv X pins σ2 H2 s2:=I2.recx (X:={ X with xe:=xe',pn:=X.pn++pins }) (A':=X.A) (calm':=X.calm) (pn':=X.pn) (xe':=X.xe) (pins':=pins) I.ok.frames I.ok.hd (fun p z=>List.mem_append_left _ z)
  have F':Fly X.prog X.w X.stack H2 s2 C H' a s':=F
  refine L2.ob_eeaaa F'.body fun B a0 hfl hok hk ht=>?_
  have hfr:X.A.frames=some (X.env::X.outer):=by rw [I.ok.frames,O.stk]
  have hfl':=hfl
  rw [O.stk] at hfl'
  show wpAny _ _ _ _ _ _
  refine wpAny_looks_onW hfr O.fr hfl' fun h4 held4 sm4=>?_
  refine wpAny_landsW held4 fun h5 fl5 sm5=>?_
  have fl5':Heap.FlyingW B X.stack a (.ref C) a0 h5:=by rw [O.stk];exact fl5
  obtain ⟨hfree,I5⟩:=fly_landed (tk:=s'.toks) I2' F' fl5' hok hk ht (sm4.trans sm5) (ob:=excO a C) fun G=>flying_excO fl5' G
  have LT:PySem.W.Looks (model X.prog X.w) h5 (typeOf (.ref a)) (.ref C):=by
   obtain ⟨ob,hob,hc⟩:=fl5.there
   exact hc ▸ (PySem.W.Looks.ld hob).andThen .now
  have I5m:Inv { X with A:=X.A.mark (some (.ref a)),calm:=false,xe:=fun _ _=>False } pins (List.replicate X.N.length none) (upd H' a (excO a C)) { s' with heap:=h5 } :=
   (I5.recx (A':=X.A.mark (some (.ref a))) (calm':=false) (pn':=X.pn) (xe':=fun _ _=>False) (pins':=pins) (by show (X.A.mark _).frames=_;exact I.ok.frames) (fun z=>nomatch z) (fun p z=>z)).weak
    (by rw [List.length_replicate];exact I5.len.symm) (fun j v z=>by
     rw [List.getElem?_replicate] at z
     split at z <;> cases z)
  refine wpAny_handleBy_cons (codeAny_handlers_test (ld_glob (X:={ X with A:=X.A.mark (some (.ref a)),calm:=false,xe:=fun _ _=>False }) I5m hg hm ?_ hd)) (by intro q;cases q)
  refine (PySem.W.exm_one I5.kIn LT hex).here ?_
  show codeAny _ _ (.handlers (.ref a) [.ExceptHandler none (some n) (b₀::suite) hpos] X.env) _ _
  refine codeAny_handlers_suite_as ?_
  refine lands_againW fl5 fun h6 fl6 sm6=>?_
  have fl6':Heap.FlyingW B X.stack a (.ref C) a0 h6:=by rw [O.stk];exact fl6
  obtain ⟨_,I6⟩:=fly_landed (tk:=s'.toks) I2' F' fl6' hok hk ht ((sm4.trans sm5).trans sm6) (ob:=excO a C) fun G=>flying_excO fl6' G
  have I6m:Inv { X with A:=X.A.mark (some (.ref a)),calm:=false,xe:=fun _ _=>False } pins (List.replicate X.N.length none) (upd H' a (excO a C)) { s' with heap:=h6 } :=
   (I6.recx (A':=X.A.mark (some (.ref a))) (calm':=false) (pn':=X.pn) (xe':=fun _ _=>False) (pins':=pins) (by show (X.A.mark _).frames=_;exact I.ok.frames) (fun z=>nomatch z) (fun p z=>z)).weak
    (by rw [List.length_replicate];exact I6.len.symm) (fun j v z=>by
     rw [List.getElem?_replicate] at z
     split at z <;> cases z)
  refine store_ok (X:={ X with A:=X.A.mark (some (.ref a)),calm:=false,xe:=fun _ _=>False }) (v:=.ref a) I6m hN hi (Or.inl hl) rfl (fun s7 I7=>?_) (.inr hl)
  refine wpAny_mono (hs (X.A.mark (some (.ref a))) pins s7 _ _ _ I7 (hts a hfree)) (fun f s8 q8=>?_) fun _ _ z=>False.elim z
  have back:∀{σ8:St}{H8:Hp},Inv { X with A:=X.A.mark (some (.ref a)),calm:=false,xe:=fun _ _=>False } pins σ8 H8 s8→Inv X pins σ8 H8 s8:=fun {σ8 H8} J =>
   J.recx (X:={ X with A:=X.A.mark (some (.ref a)),calm:=false,xe:=fun _ _=>False }) (A':=X.A) (calm':=X.calm) (pn':=X.pn) (xe':=X.xe) (pins':=pins) I.ok.frames I.ok.hd (fun p z=>z)
  cases f with
  | next=>obtain ⟨σ8,H8,I8,q⟩:=q8;exact name_goes (back I8) hN hi hl fun s9 I9=>⟨_,H8,I9,q⟩
  | brk=>obtain ⟨σ8,H8,I8,q⟩:=q8;exact name_goes (back I8) hN hi hl fun s9 I9=>⟨_,H8,I9,q⟩
  | cont=>obtain ⟨σ8,H8,I8,q⟩:=q8;exact name_goes (back I8) hN hi hl fun s9 I9=>⟨_,H8,I9,q⟩
  | ret u=>obtain ⟨v8,σ8,H8,I8,r8,q⟩:=q8;exact name_goes (back I8) hN hi hl fun s9 I9=>⟨v8,_,H8,I9,r8,q⟩
 have I0:Inv { X with xe:=xe',pn:=X.pn++pins } [] σ H s:=I.recx (A':=X.A) (calm':=X.calm) (pn':=X.pn++pins) (xe':=xe') (pins':=[]) I.ok.frames I.ok.hd (fun p z=>by simpa using z)
 refine wpAny_mono (hb xe' (X.pn++pins) _ hp [] s σ H D I0 h) (fun f s1 q1=>?_) fun e s1 z=>z
 have back:∀{σ8:St}{H8:Hp},Inv { X with xe:=xe',pn:=X.pn++pins } [] σ8 H8 s1→Inv X pins σ8 H8 s1:=fun {σ8 H8} J =>
  J.recx (X:={ X with xe:=xe',pn:=X.pn++pins }) (A':=X.A) (calm':=X.calm) (pn':=X.pn) (xe':=X.xe) (pins':=pins) I.ok.frames I.ok.hd (fun p z=>by simpa using z)
 cases f with
 | next=>obtain ⟨σ8,H8,I8,q⟩:=q1;exact wpAny_execs_nil ⟨σ8,H8,back I8,q⟩
 | brk=>obtain ⟨σ8,H8,I8,q⟩:=q1;exact⟨σ8,H8,back I8,q⟩
 | cont=>obtain ⟨σ8,H8,I8,q⟩:=q1;exact⟨σ8,H8,back I8,q⟩
 | ret u=>obtain ⟨v8,σ8,H8,I8,r8,q⟩:=q1;exact⟨v8,σ8,H8,back I8,r8,q⟩
end
end L2

namespace L2
open PySem PySem.Spec PyProof.Rows
def clOf (cells:List (Str × Addr)):List (Str × NameKind)→List (Str × Addr)→List (Str × Addr)
 | [],cs=>cs
 | (n,k)::r,cs=>if (k == .free)=true then (match cells.lookup n with|some c=>clOf cells r ((n,c)::cs)|none=>clOf cells r cs) else clOf cells r cs
theorem closure_loop {env:Env}:∀(names:List (Str × NameKind)) (cs:List (Str × Addr)),(∀y∈names,y.2=.free→∃c,env.cells.lookup y.1=some c) →
  (forIn names cs fun (x:Str × NameKind) (r:List (Str × Addr))=>(match x with
   | (name,kind)=>(if (kind==NameKind.free)=true then do
     let a ←cellOf env name
     pure (ForInStep.yield ((name,a)::r))
    else pure (ForInStep.yield r):Sem (ForInStep (List (Str × Addr))))))=(pure (clOf env.cells names cs):Sem (List (Str × Addr)))
 | [],cs,_=>rfl
 | (n,k)::r,cs,h=>by
  rw [List.forIn_cons]
  have ih:=fun cs=>closure_loop r cs fun y hy=>h y (List.mem_cons_of_mem _ hy)
  by_cases hk:(k==NameKind.free)=true
  ·obtain ⟨c,hc⟩:=h (n,k) List.mem_cons_self (by simpa using hk)
   have e:cellOf env n=pure c:=by unfold cellOf;rw [hc]
   simp only [hk,if_true,e]
   show _=pure (clOf env.cells ((n,k)::r) cs)
   rw [clOf,if_pos hk,hc]
   exact ih _
  ·simp only [hk]
   show _=pure (clOf env.cells ((n,k)::r) cs)
   rw [clOf,if_neg hk]
   exact ih _
theorem closure_of {scope:Scope}{env:Env}(h:∀y∈scope.names,y.2=.free→∃c,env.cells.lookup y.1=some c):closureFor scope env=pure (clOf env.cells scope.names []):=by
 have e:=closure_loop (env:=env) scope.names [] h
 unfold closureFor
 first
  | (simp only [bind_pure_comp] at e ⊢;rw [e];rfl)
  | (rw [e];rfl)
  | exact e
theorem clOf_sub {cells:List (Str × Addr)}:∀{names:List (Str × NameKind)}{cs:List (Str × Addr)},(∀y c,cs.lookup y=some c→cells.lookup y=some c)→∀y c,(clOf cells names cs).lookup y=some c→cells.lookup y=some c
 | [],_,h,y,c,e=>h y c e
 | (n,k)::r,cs,h,y,c,e=>by
  rw [clOf] at e
  split at e
  ·cases q:cells.lookup n with
   | none=>rw [q] at e;exact clOf_sub h y c e
   | some a =>
    rw [q] at e
    refine clOf_sub (fun z d hz=>?_) y c e
    rw [List.lookup_cons] at hz
    by_cases b:(z==n)=true
    ·rw [b] at hz
     have:z=n:=by simpa using b
     obtain rfl:=Option.some.inj hz
     rw [this];exact q
    ·have b':(z==n)=false:=by simpa using b
     rw [b'] at hz
     exact h z d hz
  ·exact clOf_sub h y c e
theorem clOf_more {cells:List (Str × Addr)}:∀{names:List (Str × NameKind)}{cs:List (Str × Addr)}{y:Str},(∃c,cs.lookup y=some c)→∃c,(clOf cells names cs).lookup y=some c
 | [],_,_,h=>h
 | (n,k)::r,cs,y,h=>by
  rw [clOf]
  split
  ·cases q:cells.lookup n with
   | none=>exact clOf_more h
   | some a =>
    refine clOf_more ?_
    rw [List.lookup_cons]
    cases (y==n) with
    | true=>exact⟨a,rfl⟩
    | false=>exact h
  ·exact clOf_more h
theorem clOf_has {cells:List (Str × Addr)}:∀{names:List (Str × NameKind)}{cs:List (Str × Addr)}{y:Str},(y,NameKind.free)∈names→(∃c,cells.lookup y=some c)→∃c,(clOf cells names cs).lookup y=some c
 | [],_,_,h,_=>nomatch h
 | (n,k)::r,cs,y,h,hc=>by
  rw [clOf]
  rcases List.mem_cons.mp h with e|h
  ·cases e
   rw [if_pos (by decide)]
   obtain ⟨c,hc⟩:=hc
   rw [hc]
   refine clOf_more ⟨c,?_⟩
   rw [List.lookup_cons]
   simp
  ·split
   ·cases q:cells.lookup n with
    | none=>exact clOf_has h hc
    | some a=>exact clOf_has h hc
   ·exact clOf_has h hc
def compN (x:Str) (N:List Str) (js:List Nat):List Str:=x::js.map fun j=>N.getD j Str.empty
def compSt (v:Option V) (σ:St) (js:List Nat):St:=v::js.map fun j=>(σ[j]?).getD none
def compOk (scope:Scope) (env:Env) (x:Str) (N:List Str) (js:List Nat):Bool :=
 (scope.kind == .function) && (scope.names.lookup x==some .local) &&
 scope.names.all (fun y=>y.2 != .cell && (y.2 != .local || scope.names.lookup y.1==some .local) && (y.2 != .free || env.kindOf y.1==some .cell || env.kindOf y.1==some .free)) &&
 js.all (fun j=>decide (j<N.length) && scope.names.lookup (N.getD j Str.empty)==some .free)
def compCx (X:Cx) (scope:Scope) (x:Str) (js:List Nat) (C:Addr) (s₁:Shared) (H₁:Hp) (fp:List Addr):Cx :=
 { X with N:=compN x X.N js,s₀:=s₁,H₀:=H₁,env:=compEnvC scope (clOf X.env.cells scope.names []) C X.env,outer:=X.stack,stack:=X.stack,ex:=fp,fn:=fun _=>false,pn:=[],xe:=fun _ _=>False }
theorem mem_of_lookup' {names:List (Str × NameKind)}{y:Str}{k:NameKind}(h:names.lookup y=some k):(y,k)∈names:=PySem.mem_of_lookup h
theorem relabel_kind {scope:Scope}{env:Env}{y:Str}{k:NameKind}(h:(relabel scope env).names.lookup y=some k):∃k0,(y,k0)∈scope.names∧(k=k0∨(k=.cell∧k0=.free)):=by
 have m:=mem_of_lookup' h
 unfold relabel at m
 refine L2.ob_ea (List.mem_map.mp m) fun q_0 hm e=>?_;obtain ⟨n,k0⟩:=q_0
 dsimp only at e
 split at e
 ·rename_i hc
  cases e
  simp only [Bool.and_eq_true,beq_iff_eq] at hc
  exact⟨k0,hm,.inr ⟨rfl,hc.1.1⟩⟩
 ·cases e
  exact⟨k,hm,.inl rfl⟩
theorem lookup_relabel_free {env:Env}:∀{names:List (Str × NameKind)}{x:Str},names.lookup x=some .free →
  (names.map fun (n,k)=>if (k==NameKind.free && env.scope.kind == .function && env.kindOf n==some .cell) then (n,NameKind.cell) else (n,k)).lookup x=some .cell ∨
  (names.map fun (n,k)=>if (k==NameKind.free && env.scope.kind == .function && env.kindOf n==some .cell) then (n,NameKind.cell) else (n,k)).lookup x=some .free
 | [],_,h=>by simp at h
 | (n,k)::r,x,h=>by
  have ih:=@lookup_relabel_free env r x
  show List.lookup x ((if (k==NameKind.free && env.scope.kind == .function && env.kindOf n==some .cell)=true then (n,NameKind.cell) else (n,k))::_)=_∨List.lookup x ((if (k==NameKind.free && env.scope.kind == .function && env.kindOf n==some .cell)=true then (n,NameKind.cell) else (n,k))::_)=_
  cases hx:x==n with
  | true =>
   simp only [List.lookup_cons,hx] at h
   obtain rfl:=Option.some.inj h
   by_cases hc:(NameKind.free==NameKind.free && env.scope.kind == .function && env.kindOf n==some .cell)=true
   ·rw [if_pos hc];left;simp [List.lookup_cons,hx]
   ·rw [if_neg hc];right;simp [List.lookup_cons,hx]
  | false =>
   simp only [List.lookup_cons,hx] at h
   by_cases hc:(k==NameKind.free && env.scope.kind == .function && env.kindOf n==some .cell)=true
   ·rw [if_pos hc];simp only [List.lookup_cons,hx];exact ih h
   ·rw [if_neg hc];simp only [List.lookup_cons,hx];exact ih h
structure CompOk (scope:Scope) (env:Env) (x:Str) (N:List Str) (js:List Nat):Prop where
 kind:scope.kind=.function
 x:scope.names.lookup x=some .local
 nocell:∀y∈scope.names,y.2 ≠ .cell
 loc:∀y∈scope.names,y.2=.local→scope.names.lookup y.1=some .local
 fr:∀y∈scope.names,y.2=.free→env.kindOf y.1=some .cell∨env.kindOf y.1=some .free
 js:∀j∈js,j<N.length∧scope.names.lookup (N.getD j Str.empty)=some .free
theorem compOk_of {scope:Scope}{env:Env}{x:Str}{N:List Str}{js:List Nat}(h:compOk scope env x N js=true):CompOk scope env x N js:=by
 unfold compOk at h
 simp only [Bool.and_eq_true,List.all_eq_true,beq_iff_eq,Bool.or_eq_true,bne_iff_ne,decide_eq_true_eq] at h
 obtain ⟨⟨⟨h1,h2⟩,h3⟩,h4⟩:=h
 refine⟨h1,h2,fun y hy=>(h3 y hy).1.1,fun y hy e=>?_,fun y hy e=>?_,h4⟩
 ·rcases (h3 y hy).1.2 with z|z
  ·exact absurd e z
  ·exact z
 ·rcases (h3 y hy).2 with (z|z)|z
  ·exact absurd e z
  ·exact .inl z
  ·exact .inr z
section
variable {X:Cx}{pins:List (Addr × Obj)}{σ:St}{H H₁:Hp}{s s₁:Shared}{scope:Scope}{x:Str}{js:List Nat}{C:Addr}{fp:List Addr}
theorem comp_cells (O:CompOk scope X.env x X.N js) (I:Inv X pins σ H s):∀y∈scope.names,y.2=.free→∃c,X.env.cells.lookup y.1=some c:=fun y hy e=>I.ok.has y.1 (O.fr y hy e)
theorem cl_sub:∀y c,(clOf X.env.cells scope.names []).lookup y=some c→X.env.cells.lookup y=some c:=clOf_sub fun y c e=>by simp at e
theorem comp_ok (O:CompOk scope X.env x X.N js) (I:Inv X pins σ H₁ s₁) (hc:X.calm=true) (hC:s₁.heap.objs.size≤C) (hf:∀b∈fp,FpOk X pins H₁ b) (hfx:∀b∈fp,X.base.get? b=none) (hlt:∀b∈fp,b<s₁.heap.objs.size):(compCx X scope x js C s₁ H₁ fp).Ok:=by
 refine⟨I.ok.mod,O.kind,I.ok.glob,I.ok.blt,hC,fun y z c h1 h2=>I.ok.inj y z c (cl_sub y c h1) (cl_sub z c h2),fun y hy=>?_,(fun y c h=>nomatch h),I.ok.hd,I.ok.frames,.inl rfl,fun b hb=>⟨?_,fun y c e=>?_⟩,I.bs,Nat.le_trans I.ok.bsz I.sz,fun b o e hb=>?_,fun b hb hs=>?_,I.stack,I.stkFree⟩
 ·have hy':(relabel scope X.env).names.lookup y=some .cell∨(relabel scope X.env).names.lookup y=some .free:=hy
  have:∃k0,(y,k0)∈scope.names∧k0=.free:=by
   rcases hy' with z|z
   ·obtain ⟨k0,hm,h⟩:=relabel_kind z
    rcases h with h|h
    ·exact absurd h.symm (O.nocell _ hm)
    ·exact⟨k0,hm,h.2⟩
   ·obtain ⟨k0,hm,h⟩:=relabel_kind z
    rcases h with h|h
    ·exact⟨k0,hm,h.symm⟩
    ·cases h.1
  refine L2.ob_ea this fun k0 hm e=>?_
  subst e
  exact clOf_has hm (comp_cells O I _ hm rfl)
 ·exact Nat.ne_of_lt (Nat.lt_of_lt_of_le (hlt b hb) hC)
 ·exact (hf b hb).2.2.2.2.1 y c (cl_sub y c e)
 ·have e':X.base.get? b=some o:=e
  rw [hfx b hb] at e';exact L2.ns_ e'
 ·have hs':b∈frs X.stack:=hs
  rcases List.mem_cons.mp (I.stkSub b hs') with z|z
  ·exact (hf b hb).2.1 z
  ·exact (hf b hb).2.2.1 z
theorem fp_base (I:Inv X pins σ H s) {b:Addr}(f:FpOk X pins H b):X.base.get? b=none:=by
 rcases f.2.2.2.1 with z|z
 ·cases q:X.base.get? b with
  | none=>rfl
  | some o=>exact absurd z (I.ok.noex b o q)
 ·exact Heap.get?_none_of_le (Nat.le_trans I.ok.bsz z)
theorem comp_inv {s₃:Shared}{m:Str→Option Value}(O:CompOk scope X.env x X.N js) (I:Inv X pins σ H₁ s₁) (hc:X.calm=true) (hC:s₁.heap.objs.size≤C) (hf:∀b∈fp,FpOk X pins H₁ b) (hlt:∀b∈fp,b<s₁.heap.objs.size)
  (hos:s₃.os=s₁.os) (hg:AllBare s₃.gens) (hk:∀b o,s₁.heap.get? b=some o→s₃.heap.get? b=some o) (hn:s₃.heap.Ns C m):Inv (compCx X scope x js C s₁ H₁ fp) [] (compSt none σ js) H₁ s₃:=by
 refine⟨comp_ok O I hc hC hf (fun b hb=>fp_base I (hf b hb)) hlt,hos,hg,Un.kept hk,⟨m,hn,fun i y v e1 e2 e3=>?_⟩,fun y c e=>?_,I.hok.fresh hC,fun y c e=>I.freeC y c (cl_sub y c e),fun p hp=>?_,I.hok.kept hk,?_⟩
 ·cases i with
  | zero =>
   have e2':(some (none:Option V))=some (some v):=e2
   cases e2'
  | succ k =>
   have e1':(js.map fun j=>X.N.getD j Str.empty)[k]? = some y:=e1
   have e2':(js.map fun j=>(σ[j]?).getD none)[k]? = some (some v):=e2
   rw [List.getElem?_map] at e1' e2'
   cases q:js[k]? with
   | none=>rw [q] at e1';cases e1'
   | some j =>
    rw [q] at e1' e2'
    have ey:X.N.getD j Str.empty=y:=Option.some.inj e1'
    have ev:(σ[j]?).getD none=some v:=Option.some.inj e2'
    obtain ⟨hj,hfree⟩:=O.js j (List.mem_of_getElem? q)
    rw [ey] at hfree
    have hNj:X.N[j]? = some y:=by
     rw [List.getD_eq_getElem?_getD,List.getElem?_eq_getElem hj] at ey
     rw [List.getElem?_eq_getElem hj]
     exact congrArg some ey
    have hσ:σ[j]? = some (some v):=by
     cases z:σ[j]? with
     | none=>rw [z] at ev;cases ev
     | some o=>rw [z] at ev;exact congrArg some ev
    have hkind:=O.fr (y,.free) (mem_of_lookup' hfree) rfl
    refine L2.ob_ea I.loc fun mX hnX hl=>?_
    obtain ⟨u,r,l⟩:=hl j y v hNj hσ (by
     rcases hkind with z|z
     ·exact .inr (.inl z)
     ·exact .inr (.inr z))
    refine⟨u,r,?_⟩
    rcases l with ⟨z,_⟩|⟨_,c,hcell,hv⟩
    ·rcases hkind with z2|z2
     ·rw [z] at z2;cases z2
     ·rw [z] at z2;cases z2
    ·obtain ⟨c',hc'⟩:=clOf_has (cells:=X.env.cells) (cs:=[]) (mem_of_lookup' hfree) ⟨c,hcell⟩
     have:c'=c:=by
      have z:=cl_sub y c' hc'
      rw [hcell] at z;obtain rfl:=Option.some.inj z;rfl
     subst this
     obtain ⟨o,ho,hd⟩:=hv
     exact .inr ⟨lookup_relabel_free hfree,c',hc',o,hk _ _ ho,hd⟩
 ·obtain ⟨v,o,ho,hd⟩:=I.cell y c (cl_sub y c e)
  exact⟨v,o,hk _ _ ho,hd⟩
 ·exact absurd (show p∈([]:List (Addr × Obj)) from hp) (by simp)
 ·show (compSt none σ js).length=(compN x X.N js).length
  unfold compSt compN
  simp
end

theorem compLoop_any {prog:Program}{w:World}{A:Around}{R:Result→Shared→Prop}{s:Shared}{elt target iter:Expr}{ifs:List Expr}{scope:Scope}{pos:Pos}{it acc:Value}{env:Env}(I:Nat→Shared→Prop)
  (turn:∀n s,I n s→wpAny (model prog w) A (pyNext it) (fun r s₁=>match r with
   | none=>R (.ok .next) s₁
   | some v=>wpAny (model prog w) A (letOwnedTupleGo target it v) (fun _ s₁=>wpAny (model prog w) A (assign target env v) (fun _ s₂ =>
     wpAny (model prog w) A (forIn ifs true fun c r=>if r=true then do let ok ←isTrue c env (eval c env);pure (ForInStep.yield ok) else pure (ForInStep.yield r)) (fun ok s₃ =>
      if ok=true then wpAny (model prog w) A (eval elt env) (fun x s₄ =>
       wpAny (model prog w) A (call (.builtin "list.append") [acc,x]) (fun _ s₅=>∃m,m<n∧I m s₅) (fun _ _=>False) s₄) (fun _ _=>False) s₃
      else ∃m,m<n∧I m s₃) (fun _ _=>False) s₂) (fun _ _=>False) s₁) (fun _ _=>False) s₁) (fun _ _=>False) s)
  (n:Nat) (h:I n s):codeAny (model prog w) A (.compLoop (.ListComp elt [⟨target,iter,ifs,0⟩] scope pos) 0 it acc env) R s:=by
 refine codeAny_loop rfl I (fun n s hI=>?_) n h
 show wpAny _ A ((compTurn (.ListComp elt [⟨target,iter,ifs,0⟩] scope pos) 0 it acc env).onRaise (fun x=>do noteFrame x env;theTreesLotGoes x)) _ _ s
 refine wpAny_noted ?_
 rw [compTurn_list]
 refine wpAny_bind (wpAny_standAt (wpAny_bind (wpAny_mono (turn n s hI) (fun r s₁ h₁=>?_) fun _ _ h'=>False.elim h')))
 cases r with
 | none=>exact wpAny_pure h₁
 | some v =>
  refine wpAny_bind (wpAny_mono h₁ (fun _ s₁ h₁=>?_) fun _ _ h'=>False.elim h')
  refine wpAny_bind (wpAny_mono h₁ (fun _ s₂ h₂=>wpAny_bind (wpAny_mono h₂ (fun ok s₃ h₃=>?_) fun _ _ h'=>False.elim h')) fun _ _ h'=>False.elim h')
  cases ok with
  | false=>exact wpAny_pure ⟨rfl,h₃⟩
  | true =>
   exact wpAny_bind (wpAny_bind (wpAny_mono h₃ (fun x s₄ h₄=>wpAny_bind (wpAny_mono h₄ (fun _ s₅ h₅=>wpAny_pure (wpAny_pure ⟨rfl,h₅⟩)) fun _ _ h'=>False.elim h')) fun _ _ h'=>False.elim h'))
def tests:Option TT→TT
 | none=>fun _ H Q=>Q true H
 | some t=>t
def PTests (Y:Cx):List Expr→Option TT→Prop
 | [],none=>True
 | [c],some t=>PT Y c t
 | _,_=>False
theorem tests_ok {Y:Cx}{ifs:List Expr}{ot:Option TT}(h:PTests Y ifs ot) (hx:Y.xe=fun _ _=>False) {pins:List (Addr × Obj)}{s:Shared}{σ:St}{H:Hp}{Q:Bool→Hp→Prop}(I:Inv Y pins σ H s) (q:tests ot σ H Q) :
  wpAny (model Y.prog Y.w) Y.A (forIn ifs true fun c r=>if r=true then do let ok ←isTrue c Y.env (eval c Y.env);pure (ForInStep.yield ok) else pure (ForInStep.yield r)) (TP Y pins σ Q) (fun _ _=>False) s:=by
 match ifs,ot,h with
 | [],none,_=>exact wpAny_tests_nil ⟨H,I,q⟩
 | [c],some t,h =>
  have z:=h pins s σ H Q I q
  rw [hx] at z
  exact wpAny_tests_one z
def compGo (J:It) (js:List Nat) (ot:Option TT) (te:TE) (σ:St) (H1:Hp) (Fin:List V→Hp→Prop):Prop :=
 ∃W:Nat→Nat→List V→Hp→Prop,(∃m,W 0 m [] H1)∧∀i m ys H,W i m ys H →
  (J.stop i H∧Fin ys H)∨(J.go i H∧ys.length<sizeLine∧∀x H',J.yld i H x H'→tests ot (compSt (some x) σ js) H' fun b H2 =>
   if b=true then te (compSt (some x) σ js) H2 fun y H3=>∃m',m'<m∧W (i+1) m' (ys++[y]) H3 else ∃m',m'<m∧W (i+1) m' ys H2)
section
variable {X:Cx}{pins:List (Addr × Obj)}{σ:St}{H₁:Hp}{s₁:Shared}{scope:Scope}{x:Str}{js:List Nat}{elt iter:Expr}{ifs:List Expr}{ot:Option TT}{te:TE}{px pos:Pos}
inductive Iv_comp_block (X:Cx) (σ:St) (H₁:Hp) (s₁:Shared) (scope:Scope) (x:Str) (js:List Nat) (fp:List Addr) (tn:Nat→Heap→Prop) (D:Nat) (C:Nat) (W:Nat→Nat→List V→Hp→Prop) (n:Nat) (s':Shared):Prop
 | mk:∀i ys its nn H' v0,(Inv (compCx X scope x js C s₁ H₁ fp) [] (compSt v0 σ js) H' s')→(tn i s'.heap)→((∀b∈fp,H' b=none))→(H' D=none)→(s'.heap.get? D=some { cls:=.type "list", data:=.seq (its:List Value).toArray nn })→(Vals ys its)→(ys.length≤sizeLine)→(W i n ys H')→Iv_comp_block X σ H₁ s₁ scope x js fp tn D C W n s'
theorem comp_block {it:Addr}{fp:List Addr}{tn:Nat→Heap→Prop}{J:It}{Fin:List V→Hp→Prop}{RR:Value→Addr→Result→Shared→Prop}{E:Value→Shared→Prop}(hok:compOk scope X.env x X.N js=true) (hnd:(compN x X.N js).Nodup) (hc:X.calm=true)
  (he:∀C s₁ H₁ fp,PE (compCx X scope x js C s₁ H₁ fp) elt te) (ht:∀C s₁ H₁ fp,PTests (compCx X scope x js C s₁ H₁ fp) ifs ot)
  (I:Inv X pins σ H₁ s₁) (T:Turn X.prog X.w X.K (.Name x px) J fp it tn) (st:tn 0 s₁.heap) (hf:∀b∈fp,FpOk X pins H₁ b) (go:compGo J js ot te σ H₁ Fin)
  (hRR:∀D C ys H' s' m,H' D=none→Inv X pins σ (upd H' D (.lst ys)) s'→s'.heap.Ns C m→s₁.heap.objs.size≤C→upd H' D (.lst ys) C=none→Fin ys H'→RR (.ref D) C (.ok .next) s') :
  wpAny (model X.prog X.w) X.A (newList []) (fun acc s₃=>wpAny (model X.prog X.w) X.A (newFunctionEnv scope X.env.globals (clOf X.env.cells scope.names []) [] X.env.qual none .none (some X.env)) (fun cenv s₄ =>
   codeAny (model X.prog X.w) X.A (.compStart (.ListComp elt [⟨.Name x px,iter,ifs,0⟩] scope pos) 0 (.ref it) acc { cenv with scope:=relabel scope X.env }) (RR acc cenv.locals) s₄) E s₃) E s₁:=by
 have O:=compOk_of hok
 have hlt:∀b∈fp,b<s₁.heap.objs.size:=fun b hb=>by
  obtain ⟨o,e,_⟩:=T.obj _ _ st b hb
  exact Heap.lt_size e
 refine wpAny_newObj_type (wpAny_newFunctionEnv O.nocell (by intro y hy;simp at hy) (fun h₁ hns₁ hsb₁=>?_) O.kind)
 dsimp only at hns₁ hsb₁ ⊢
 generalize hH2:s₁.heap.push { cls:=.type "list", dict:=none,data:=.seq ([]:List Value).toArray }=H2 at hns₁ hsb₁ ⊢
 have hC:H2.objs.size=s₁.heap.objs.size+1:=by rw [←hH2,Heap.size_push]
 have hDC:s₁.heap.objs.size≠H2.objs.size:=by rw [hC];exact Nat.ne_of_lt (Nat.lt_succ_self _)
 have hCle:s₁.heap.objs.size≤H2.objs.size:=by rw [hC];exact Nat.le_succ _
 have below:∀b,b<s₁.heap.objs.size→b≠H2.objs.size∧b≠s₁.heap.objs.size:=fun b hb=>⟨by rw [hC];exact Nat.ne_of_lt (Nat.lt_succ_of_lt hb),Nat.ne_of_lt hb⟩
 have old:∀b o,s₁.heap.get? b=some o→h₁.get? b=some o:=fun b o e=>hsb₁.extBut b o (below b (Heap.lt_size e)).1 (Heap.get?_push_of_some _ (hH2 ▸ Heap.get?_push_of_some _ e))
 have hacc:h₁.get? s₁.heap.objs.size=some { cls:=.type "list", data:=.seq ([]:List Value).toArray }:=hsb₁.extBut _ _ hDC (Heap.get?_push_of_some _ (hH2 ▸ Heap.get?_push_size _ rfl))
 have st₁:tn 0 h₁:=T.keep _ _ _ st fun b _ o e=>old b o e
 generalize hD:s₁.heap.objs.size=D at *
 generalize hCC:H2.objs.size=C at *
 have hDf:D ∉ fp:=fun hb=>absurd (hlt D hb) (by rw [←hD];exact Nat.lt_irrefl _)
 have dcell:∀y c,X.env.cells.lookup y=some c→c≠D:=fun y c e z=>by
  obtain ⟨v,q⟩:=I.cell y c e
  exact absurd q.lt (by rw [z,←hD];exact Nat.lt_irrefl _)
 have dfs:D ∉ frs X.stack:=fun hb=>by
  obtain ⟨_,o,ho,_⟩:=I.stack.mem hb
  exact absurd (Heap.lt_size ho) (by rw [←hD];exact Nat.lt_irrefl _)
 obtain ⟨W,⟨m0,w0⟩,turn⟩:=go
 have I3:Inv (compCx X scope x js C s₁ H₁ fp) [] (compSt none σ js) H₁ { s₁ with heap:=h₁,toks:=s₁.toks+([]:List (Str × Value)).length } :=
  comp_inv O I hc (by first|exact hCle|(rw [hD];exact hCle)) hf (fun b hb=>by first|exact hlt b hb|(rw [hD];exact hlt b hb)) rfl I.bare old hns₁
 have stat:∀{H':Hp},(∀b∈fp,H' b=none)→∀b∈fp,FpOk (compCx X scope x js C s₁ H₁ fp) [] H' b:=fun {H'} hn b hb=>by
  have f:=hf b hb
  refine⟨hn b hb,(below b (hlt b hb)).1,fun z=>?_,.inl hb,fun y c e=>f.2.2.2.2.1 y c (cl_sub y c e),fun p hp=>absurd (show p∈([]:List (Addr × Obj)) from hp) (by simp)⟩
  have z':b∈frs X.stack:=z
  rcases List.mem_cons.mp (I.stkSub b z') with q|q
  ·exact f.2.1 q
  ·exact f.2.2.1 q
 have loop:∀s₃:Shared,s₃={ s₁ with heap:=h₁,toks:=s₁.toks+([]:List (Str × Value)).length } →
   codeAny (model X.prog X.w) X.A (.compLoop (.ListComp elt [⟨.Name x px,iter,ifs,0⟩] scope pos) 0 (.ref it) (.ref D) (compEnvC scope (clOf X.env.cells scope.names []) C X.env)) (RR (.ref D) C) s₃:=by
  rintro s₃ rfl
  refine compLoop_any (Iv_comp_block X σ H₁ s₁ scope x js fp tn D C W) ?_ m0
   ⟨0,[],[],0,H₁,none,I3,st₁,fun b hb=>(hf b hb).1,I.hok.fresh (by rw [hD];exact Nat.le_refl _),hacc,.nil,Nat.zero_le _,w0⟩
  rintro n s4 ⟨i,ys,its,nn,H4,v0,I4,st4,fr4,fD4,oD4,rv4,z4,w4⟩
  have I4':Inv (compCx X scope x js C s₁ H₁ fp) [(D,{ cls:=.type "list", data:=.seq its.toArray nn })] (compSt v0 σ js) H4 s4:=I4.pins_of fun p hp=>by
   have e:p=(D,{ cls:=.type "list", data:=.seq its.toArray nn }):=by simpa using hp
   subst e
   exact⟨oD4,fD4,hDC,dfs,fun v z=>by cases z⟩
  have statD:∀{H':Hp},(∀b∈fp,H' b=none)→∀b∈fp,FpOk (compCx X scope x js C s₁ H₁ fp) [(D,{ cls:=.type "list", data:=.seq its.toArray nn })] H' b:=fun {H'} hn b hb=>by
   obtain ⟨f0,f1,f2,f3,f4,_⟩:=stat hn b hb
   refine⟨f0,f1,f2,f3,f4,fun p hp=>?_⟩
   have hp':p∈[(D,({ cls:=.type "list", data:=.seq its.toArray nn }:Obj))]:=hp
   have e:p=(D,{ cls:=.type "list", data:=.seq its.toArray nn }):=by simpa using hp'
   subst e
   exact fun z=>hDf (by rw [show D=b from z];exact hb)
  rcases turn i n ys H4 w4 with ⟨stop,fin⟩|⟨go,hlen,step⟩
  ·refine thn (T.done (compCx X scope x js C s₁ H₁ fp) rfl rfl rfl hc i _ s4 _ H4 _ I4' (statD fr4) st4 stop) fun r s5 ⟨hr,I5⟩=>?_
   subst hr
   show RR (.ref D) C (.ok .next) s5
   have oD5:s5.heap.get? D=some { cls:=.type "list", data:=.seq its.toArray nn }:=(I5.pin (D,_) (List.mem_append_right _ List.mem_cons_self)).1
   obtain ⟨m5,hn5,_⟩:=I5.loc
   have nD:∀b o,s₁.heap.get? b=some o→b≠D:=fun b o e=>by rw [←hD];exact Nat.ne_of_lt (Heap.lt_size e)
   have U:Un (frs X.stack) fp H₁ H4 s₁.heap s5.heap:=I5.base
   have IX:Inv X pins σ (upd H4 D (.lst ys)) s5:=I.call' (s':=s5) (ch:=fp) I5.os
    ⟨U.keep,U.slot,fun b o e n hb=>by rw [upd_ne (nD b o e)];exact U.free b o e n hb,U.there,fun b xs e=>by
     have z:=U.tups b xs e
     rw [upd_ne (ne_of_none z fD4)];exact z,fun b o u e=>by
     have z:=U.frzs b o u e
     rw [upd_ne (ne_of_none z fD4)];exact z,fun b ps e=>by
     obtain ⟨mr,z⟩:=U.tbls b ps e
     exact⟨mr,by rw [upd_ne (ne_of_none z fD4)];exact z⟩⟩ (fun b u e=>by
      by_cases hb:b=D
      ·subst hb
       rw [upd_same] at e;obtain rfl:=Option.some.inj e
       exact⟨z4,its,nn,rv4,oD5⟩
      ·rw [upd_ne hb] at e
       exact (I5.hok b u e).stay (fun c v _ z=>z) (fun c z=>by rw [upd_ne (ne_of_none z fD4)];exact z) fun c xs z=>by rw [upd_ne (ne_of_none z fD4)];exact z) I5.bare
    (fun b hb=>⟨(hf b hb).2.2.2.1,(hf b hb).2.1,(hf b hb).2.2.2.2.1,(hf b hb).2.2.2.2.2⟩)
   exact hRR D C ys H4 s5 m5 fD4 IX hn5 (by first|exact hCle|(rw [hD];exact hCle)) (by rw [upd_ne (Ne.symm hDC)];exact I5.free) fin
  ·refine thn (T.item (compCx X scope x js C s₁ H₁ fp) rfl rfl rfl hc i _ s4 _ H4 _ I4' (statD fr4) st4 go) fun r s5 ⟨u,hr,h5⟩=>?_
   subst hr
   refine thn h5 fun _ s6 ⟨xv,H6,I6,r6,y6,st6,fr6⟩=>?_
   have I6':=I6.pinned (statD fr6) (T.obj _ _ st6)
   have hxl:(compCx X scope x js C s₁ H₁ fp).env.scope.names.lookup x=some .local:=lookup_relabel_local O.x
   refine wpAny_assign_Name (store_ok (X:=compCx X scope x js C s₁ H₁ fp) (i:=0) (x:=x) I6' hnd rfl (Or.inl hxl) r6 (fun s7 I7=>?_) (.inr hxl))
   have I7':Inv (compCx X scope x js C s₁ H₁ fp) ([(D,{ cls:=.type "list", data:=.seq its.toArray nn })]++pinsAt fp s6.heap) (compSt (some xv) σ js) H6 s7:=I7
   refine thn (tests_ok (ht C s₁ H₁ fp) rfl I7' (step xv H6 y6)) fun ok s8 ⟨H8,I8,q8⟩=>?_
   have keepT:∀{s':Shared}{H':Hp},Inv (compCx X scope x js C s₁ H₁ fp) ([(D,{ cls:=.type "list", data:=.seq its.toArray nn })]++pinsAt fp s6.heap) (compSt (some xv) σ js) H' s' →
     s'.heap.get? D=some { cls:=.type "list", data:=.seq its.toArray nn }∧H' D=none∧(∀b∈fp,∀o,s6.heap.get? b=some o→s'.heap.get? b=some o)∧∀b∈fp,H' b=none:=fun {s' H'} J=>by
    have pD:=J.pin (D,{ cls:=.type "list", data:=.seq its.toArray nn }) (List.mem_append_right _ (List.mem_append_left _ List.mem_cons_self))
    refine⟨pD.1,pD.2.1,fun b hb o e=>(J.pin (b,o) (List.mem_append_right _ (List.mem_append_right _ (mem_pinsAt hb e)))).1,fun b hb=>?_⟩
    obtain ⟨o,e,_⟩:=T.obj _ _ st6 b hb
    exact (J.pin (b,o) (List.mem_append_right _ (List.mem_append_right _ (mem_pinsAt hb e)))).2.1
   cases ok with
   | false =>
    rw [if_neg Bool.false_ne_true] at q8 ⊢
    refine L2.ob_ea q8 fun m' hm w8=>?_
    refine L2.ob_aaa (keepT I8) fun k1 k2 k3 k4=>?_
    exact⟨m',hm,i+1,ys,its,nn,H8,some xv,I8.pins_of (fun p hp=>absurd hp (by simp)),T.keep _ _ _ st6 k3,k4,k2,k1,rv4,z4,w8⟩
   | true =>
    rw [if_pos rfl] at q8 ⊢
    refine thn (he C s₁ H₁ fp _ s8 _ H8 _ I8 q8) fun u9 s9 ⟨y,H9,I9,r9,m',hm,w9⟩=>?_
    refine L2.ob_aaa (keepT I9) fun k1 k2 k3 k4=>?_
    have hsz:its.toArray.size<sizeLine:=by rw [List.size_toArray,←rv4.length];exact hlen
    refine call_meets F.slot_list_append ⟨_,k1,rfl⟩ F.entry_list_append (F.args_list_append_2 _ _) (PySem.list_append D its.toArray nn u9 (by solve_by_elim (maxDepth:=3) [Nat.le_of_lt,Nat.lt_of_lt_of_le,Nat.le_trans,Nat.lt_of_le_of_lt])) ⟨k1,?_⟩
    have I9':Inv (compCx X scope x js C s₁ H₁ fp) [] (compSt (some xv) σ js) H9 s9:=I9.pins_of (fun p hp=>absurd hp (by simp))
    have q:=PySem.IsL.update k1 (fun a=>a.push u9)
    simp only [List.push_toArray] at q
    exact⟨m',hm,i+1,ys++[y],its++[u9],_,H9,some xv,I9'.turned (it:=D) (fun b o hb e=>(Heap.get?_update_other s9.heap _ (Ne.symm hb)).trans e) k2 hDC (.inr (by first|exact Nat.le_refl _|(show s₁.heap.objs.size≤D;rw [hD];exact Nat.le_refl _))) (fun yy c e=>dcell yy c (cl_sub yy c e)) (fun p hp=>absurd (show p∈([]:List (Addr × Obj)) from hp) (by simp)),
     T.keep _ _ _ st6 (fun b hb o e=>(Heap.get?_update_other s9.heap _ (fun z=>hDf (by rw [z];exact hb))).trans (k3 b hb o e)),k4,k2,q,rv4.append (.cons r9 .nil),(by rw [List.length_append,List.length_singleton];exact hlen),w9⟩
 exact codeAny_compStart_list (loop _ rfl) (T.self _ 0 _ _ _ st₁ (loop _ rfl))
def tComp (wi:TI) (js:List Nat) (ot:Option TT) (te:TE):TE:=fun σ H Q=>wi σ H fun J H1=>compGo J js ot te σ H1 fun ys H'=>∀p,H' p=none→Q (.ref p) (upd H' p (.lst ys))
theorem pe_comp {wi:TI}(js:List Nat) (hc:X.calm=true) (hi:PI X (.Name x px) iter wi) (he:∀C s₁ H₁ fp,PE (compCx X scope x js C s₁ H₁ fp) elt te) (ht:∀C s₁ H₁ fp,PTests (compCx X scope x js C s₁ H₁ fp) ifs ot)
  (hok:compOk scope X.env x X.N js=true) (hnd:(compN x X.N js).Nodup) (hs:∀x,foldedSetIterable iter X.env x=pure x:=by intro _;rfl) :
  PE X (.ListComp elt [⟨.Name x px,iter,ifs,0⟩] scope pos) (tComp wi js ot te):=by
 intro pins s σ H Q I h
 have O:=compOk_of hok
 rw [eval_ListComp]
 refine wpAny_comprehension_free (use:=none) rfl hs (closure_of (comp_cells O I)) O.kind O.loc (thn (hi pins s σ H _ I h) fun v s1 h1=>thn h1 fun itv s2 h2=>?_)
 obtain ⟨it,fp,tn,J,H2,e,I2,T,st2,f2,go⟩:=h2
 subst e
 refine comp_block (RR:=fun acc C=>compPost (model X.prog X.w) X.A X.xe none (EP X pins σ Q) acc C) hok hnd hc he ht I2 T st2 f2 go ?_
 intro D C ys H' s' m hD I' hn hC hCn fin
 have f:=I2.fpOk hC hCn
 exact⟨m,hn,fun h'' hs''=>⟨.ref D,_,I'.turned (it:=C) (t':=s'.toks) (fun b o hb e=>hs''.extBut b o hb e) hCn f.2.1 f.2.2.2.1 f.2.2.2.2.1 f.2.2.2.2.2,rfl,fin D hD⟩⟩
def tSetComp (wi:TI) (js:List Nat) (ot:Option TT) (te:TE) (i:Nat):TS:=fun D σ H=>wi σ H fun J H1=>compGo J js ot te σ H1 fun ys H'=>∀p,H' p=none→D.nx (σ.set i (some (.ref p))) (upd H' p (.lst ys))
theorem ps_setcomp {wi:TI}{y:Str}{py spos:Pos}(i:Nat) (js:List Nat) (hc:X.calm=true) (hN:X.N.Nodup) (hy:X.N[i]? = some y) (hl:X.env.scope.names.lookup y=some .local) (hi:PI X (.Name x px) iter wi) (he:∀C s₁ H₁ fp,PE (compCx X scope x js C s₁ H₁ fp) elt te) (ht:∀C s₁ H₁ fp,PTests (compCx X scope x js C s₁ H₁ fp) ifs ot)
  (hok:compOk scope X.env x X.N js=true) (hnd:(compN x X.N js).Nodup)
  (hsw:swapsWith (.ListComp elt [⟨.Name x px,iter,ifs,0⟩] scope pos) (some (.Name y py)) spos.line X.env=pure true:=by rfl) (hs:∀x,foldedSetIterable iter X.env x=pure x:=by intro _;rfl) :
  PS X (.Assign [.Name y py] (.ListComp elt [⟨.Name x px,iter,ifs,0⟩] scope pos) spos) (tSetComp wi js ot te i):=by
 intro pins s σ H D I h
 have O:=compOk_of hok
 rw [exec_Assign_Name_used _ _ _ _ hsw]
 refine wpAny_bind (wpAny_standAt (wpAny_bind ?_))
 show wpAny _ X.A (do let _ ←comprehension (.ListComp elt [⟨.Name x px,iter,ifs,0⟩] scope pos) scope X.env _ (newList []) false (eval iter X.env) (some (assign (.Name y py) X.env))) _ _ s
 refine wpAny_bind (wpAny_mono (wpAny_comprehension_free (use:=some (assign (.Name y py) X.env)) (Q:=fun _ s'=>SP X pins D .next s') rfl hs (closure_of (comp_cells O I)) O.kind O.loc
  (thn (hi pins s σ H _ I h) fun v s1 h1=>thn h1 fun itv s2 h2=>?_)) (fun _ s' hq=>wpAny_pure (wpAny_pure hq)) fun _ _ e=>e)
 obtain ⟨it,fp,tn,J,H2,e,I2,T,st2,f2,go⟩:=h2
 subst e
 refine comp_block (RR:=fun acc C=>compPost (model X.prog X.w) X.A X.xe (some (assign (.Name y py) X.env)) (fun _ s'=>SP X pins D .next s') acc C) hok hnd hc he ht I2 T st2 f2 go ?_
 intro D' C ys H' s' m hD I' hn hC hCn fin
 have f:=I2.fpOk hC hCn
 show wpAny _ X.A (assign (.Name y py) X.env (.ref D')) _ _ _
 refine wpAny_assign_Name (store_ok2 (v:=.ref D') I' hN hy (Or.inl hl) rfl (fun s'' I'' hch=>?_) (.inr hl))
 refine L2.ob_ea hch fun a sb ha=>?_
 have haC:C≠a:=by
  rcases ha with z|z
  ·rw [z];exact f.2.1
  ·exact Ne.symm (f.2.2.2.2.1 _ _ z)
 refine⟨m,hn.at' (fun o e=>sb.extBut _ o haC e),fun h'' hs''=>⟨_,_,I''.turned (it:=C) (t':=s''.toks) (fun b o hb e=>hs''.extBut b o hb e) hCn f.2.1 f.2.2.2.1 f.2.2.2.2.1 f.2.2.2.2.2,fin D' hD⟩⟩
end
end L2

namespace L2
open PySem PySem.Spec PyProof.Rows
def Ite (K:PySem.W.Frag) (a:Addr):It :=
 ⟨fun i H=>∃xs x,SqL K H a xs∧xs[i]? = some x,fun i H v H'=>∃p x,v=.ref p∧H p=none∧H'=upd H p (.tup [.int i,x])∧∀xs,SqL K H a xs→xs[i]? = some x,fun i H=>∃xs,SqL K H a xs∧xs.length≤i⟩
theorem turn_enum {P:Program}{w:World}{K:PySem.W.Frag}{elts:List Expr}{x1:Nat}{tpos:Pos}(a e it:Addr) (hne:e≠it) :
  Turn P w K (.Tuple elts x1 tpos) (Ite K a) [e,it] e (fun i h=>∃old,IsEnum h e it (i:Int) old∧h.IsListIter it a i) where
 mem:=by simp
 obj:=fun i h st b hb=>by
  obtain ⟨old,he,o,ho,c,d⟩:=st
  have hb':b=e∨b=it:=by simpa using hb
  rcases hb' with rfl|rfl
  ·exact⟨_,he,fun v z=>by
    have z':Data.fields _=Data.cell v:=z
    cases z'⟩
  ·exact⟨o,ho,fun v z=>by rw [d] at z;cases z⟩
 keep:=fun i h h' st k=>by
  obtain ⟨old,he,hit⟩:=st
  exact⟨old,k e (by simp) _ he,hit.at fun o q=>k it (by simp) o q⟩
 item:=by
  intro X hP hw hK hc i pins s σ H E I hf st hg
  subst hP hw hK
  obtain ⟨xs,x,hq,hx⟩:=hg
  refine L2.ob_ea st fun old he hit=>?_
  refine L2.ob_eaa (I.list hq) fun its rv p hz=>?_
  refine L2.ob_ea (rv.get hx) fun u hu ru=>?_
  obtain ⟨f0,f1,f2,f3,f4,f5⟩:=hf e (by simp)
  obtain ⟨g0,g1,g2,g3,g4,g5⟩:=hf it (by simp)
  refine wpAny_pyNext_enum_item he hit p.isList (x:=u) (by simpa using hu) hne fun h' heo hit' ht hsz hk=>?_
  have hfr:H s.heap.objs.size=none:=I.hok.fresh (Nat.le_refl _)
  have nP:∀b o,s.heap.get? b=some o→b≠s.heap.objs.size:=fun b o q=>Nat.ne_of_lt (Heap.lt_size q)
  have nE:∀b o,H b=some o→b≠e∧b≠it:=fun b o q=>⟨(fun z=>by rw [z,f0] at q;exact L2.ns_ q),(fun z=>by rw [z,g0] at q;exact L2.ns_ q)⟩
  have kk:∀b o,b ∉ [e,it]→s.heap.get? b=some o→h'.get? b=some o:=fun b o hb q=>hk b o (fun z=>hb (by simp [z])) (fun z=>hb (by simp [z])) q
  have I1:Inv X pins σ (upd H s.heap.objs.size (.tup [.int i,x])) { s with heap:=h',toks:=s.toks+1 }:=by
   refine I.step (g':=s.gens) (d':=s.drawn) (ch:=[e,it]) (fun b hb=>?_) (fun b o _ _ hc q _=>kk b o hc q) (fun b o _ _ hc q _=>⟨o.slots,kk b o hc q⟩) (fun b o _ q n=>by rw [upd_ne (nP b o q)];exact n)
    (fun b o hc q=>⟨o,kk b o hc q⟩) (fun b ys q=>by rw [upd_ne (ne_of_none q hfr)];exact q) (fun b o v q=>by rw [upd_ne (ne_of_none q hfr)];exact q) (fun b ps q=>⟨#[],by rw [upd_ne (ne_of_none q hfr),q];simp⟩) (fun m hm=>?_) (fun b v q=>?_) I.bare
   ·have hb':b=e∨b=it:=by simpa using hb
    rcases hb' with rfl|rfl
    ·exact⟨f3,f1,f4,f5⟩
    ·exact⟨g3,g1,g4,g5⟩
   ·obtain ⟨o,es,ep,ho,r⟩:=hm
    exact⟨o,es,ep,kk _ o (by simp;exact⟨Ne.symm f1,Ne.symm g1⟩) ho,r⟩
   ·by_cases hb:b=s.heap.objs.size
    ·subst hb
     rw [upd_same] at q;obtain rfl:=Option.some.inj q
     exact⟨by show 2≤sizeLine;decide,[.int i s.toks,u],.cons ⟨_,rfl⟩ (.cons ru .nil),⟨_,ht,rfl,_,rfl⟩⟩
    ·rw [upd_ne hb] at q
     refine (I.hok b v q).stay (fun c o hc z=>hk c o ?_ ?_ z) (fun c z=>by rw [upd_ne (ne_of_none z hfr)];exact z) fun c ys z=>by rw [upd_ne (ne_of_none z hfr)];exact z
     ·rcases hc with rfl|hc
      ·exact (nE _ _ q).1
      ·exact (nE _ _ hc).1
     ·rcases hc with rfl|hc
      ·exact (nE _ _ q).2
      ·exact (nE _ _ hc).2
  refine⟨_,rfl,?_⟩
  have hep:e≠s.heap.objs.size:=nP e _ he
  refine wpAny_letOwnedTupleGo_enum (s:={ s with heap:=h',toks:=s.toks+1 }) heo fun h2 he2 sb=>?_
  have I2:Inv X pins σ (upd H s.heap.objs.size (.tup [.int i,x])) { s with heap:=h2,toks:=s.toks+1 }:=Inv.turned (s:={ s with heap:=h',toks:=s.toks+1 }) (t':=s.toks+1) (it:=e) I1 (fun b o hb q=>(sb.2 b hb).trans q) (by rw [upd_ne hep];exact f0) f1 f3 f4 f5
  have hi2:(((i+1:Nat):Int))=(i:Int)+1:=by rfl
  refine⟨.ref s.heap.objs.size,_,I2,rfl,⟨s.heap.objs.size,x,rfl,hfr,rfl,fun ys hy=>by rw [I.list_inj hy hq];exact hx⟩,⟨u,by rw [hi2];exact he2,hit'.at fun o q=>(sb.2 it (Ne.symm hne)).trans q⟩,fun b hb=>?_⟩
  have hb':b=e∨b=it:=by simpa using hb
  obtain ⟨o2,ho2,_⟩:=id hit
  rcases hb' with rfl|rfl
  ·rw [upd_ne hep];exact f0
  ·rw [upd_ne (nP _ _ ho2)];exact g0
 done:=by
  intro X hP hw hK hc i pins s σ H E I hf st hg
  subst hP hw hK
  obtain ⟨xs,hq,hx⟩:=hg
  refine L2.ob_ea st fun old he hit=>?_
  refine L2.ob_eaa (I.list hq) fun its rv p hz=>?_
  obtain ⟨g0,g1,g2,g3,g4,g5⟩:=hf it (by simp)
  have hl:=rv.length
  exact wpAny_pyNext_enum_end (I.ok.hd hc) he hit p.isList (by simp;lia) fun h' eb=>⟨rfl,I.turned (t':=s.toks) (fun b o hb q=>eb b o hb q) g0 g1 g3 g4 g5⟩
 self:=fun _ _ _ _ _ st h=>by
  obtain ⟨old,he,_⟩:=st
  exact wpAny_pyIter_enum he h
inductive iEnum_b (K:PySem.W.Frag) (R:It→Hp→Prop) (vs:List V) (H1:Hp):Prop
 | mk:∀a,(vs=[.ref a])→((∃xs,SqL K H1 a xs))→(R (Ite K a) H1)→iEnum_b K R vs H1
def iEnum (K:PySem.W.Frag) (ta:TA):TI:=fun σ H R=>ta σ H fun vs H1=>iEnum_b K R vs H1
theorem pi_enum {X:Cx}{elts:List Expr}{x1:Nat}{tpos:Pos}{l:Expr}{ta:TA}{p pos:Pos}(hg:Gl X "enumerate") (hm:X.mg "enumerate" = none) (ha:PA X [l] ta) (hs:starEach [l] X.env=[(false,eval l X.env)]:=by rfl) :
  PI X (.Tuple elts x1 tpos) (.Call (.Name "enumerate" p) [l] [] pos) (iEnum X.K ta):=by
 intro pins s σ H R I h
 refine Call_ (ld_blt I hg hm boot_enumerate (PyProof.Rows.callWith_type1 (thn (ha pos pins s σ H _ I h) fun us s1 ⟨vs,H1,I1,r1,q1⟩=>?_) hs rfl))
 obtain ⟨a,e,⟨xs,hq⟩,q⟩:=q1
 subst e
 refine L2.ob_ea r1.one fun u e_1 ru=>?_;subst e_1
 cases ru
 refine L2.ob_eaa (I1.list hq) fun its rv pl hz=>?_
 refine call_enumerate_list pl.isList fun h' he hit hsz hk=>wpAny_pyIter_enum he ?_
 have I2:Inv X pins σ H1 { s1 with heap:=h' }:=I1.kept (t':=s1.toks) hk
 refine⟨s1.heap.objs.size+1,[s1.heap.objs.size+1,s1.heap.objs.size],_,_,H1,rfl,I2,turn_enum a _ _ (Nat.succ_ne_self _),⟨.none,he,hit⟩,fun b hb=>?_,q⟩
 have hb':b=s1.heap.objs.size+1∨b=s1.heap.objs.size:=by simpa using hb
 have hle:s1.heap.objs.size≤b:=by rcases hb' with rfl|rfl <;> lia
 exact I1.fpOk hle (I1.hok.fresh hle)
theorem for_enum {K:PySem.W.Frag}{a:Addr}{xs:List V}{g:TG}{tb:TS}{D:Ends}{σ:St}{H:Hp}(Pv:Nat→St→Hp→Prop) (h0:Pv 0 σ H) (hl:∀i σ H,i≤xs.length→Pv i σ H→SqL K H a xs)
  (hs:∀i x σ H p,xs[i]? = some x→Pv i σ H→H p=none→g (.ref p) σ (upd H p (.tup [.int i,x])) fun σ2 H2=>tb (D.lp (Pv (i+1))) σ2 H2) (hd:∀σ H,Pv xs.length σ H→D.nx σ H) :
  ∃W:Nat→Nat→St→Hp→Prop,(∃m,W 0 m σ H)∧∀i m σ H,W i m σ H →
   ((Ite K a).stop i H∧D.nx σ H)∨((Ite K a).go i H∧∃N:St→Hp→Prop,(∀σ' H',N σ' H'→∃m',m'<m∧W (i+1) m' σ' H')∧∀x H',(Ite K a).yld i H x H'→g x σ H' fun σ2 H2=>tb (D.lp (N)) σ2 H2):=by
 refine⟨fun i m σ H=>m=xs.length - i∧i≤xs.length∧Pv i σ H,⟨xs.length,by simp,Nat.zero_le _,h0⟩,?_⟩
 rintro i m σ H ⟨rfl,hi,p⟩
 have q:=hl i σ H hi p
 by_cases hlt:i<xs.length
 ·refine .inr ⟨⟨xs,xs[i],q,by simp [hlt]⟩,Pv (i+1),fun σ' H' p'=>⟨xs.length - (i+1),by lia,rfl,hlt,p'⟩,fun x H' y=>?_⟩
  obtain ⟨pp,z,rfl,hn,rfl,y⟩:=y
  exact hs i z σ H pp (y xs q) p hn
 ·have e:i=xs.length:=by lia
  subst e
  exact .inl ⟨⟨xs,q,Nat.le_refl _⟩,hd σ H p⟩
def Itd (lo:Int) (n:Nat):It:=⟨fun i _=>i<n,fun i H x H'=>H'=H∧x=.int (lo - i),fun i _=>n≤i⟩
theorem turn_down {P:Program}{w:World}{K:PySem.W.Frag}{tg:Expr}(it:Addr) (lo:Int) (n:Nat):Turn P w K tg (Itd lo n) [it] it (fun i h=>IsRangeIter h it (lo+(i:Nat)*(-1)) ((n:Int) - (i:Nat)) (-1)) where
 mem:=by simp
 obj:=fun i h st b hb=>by
  have e:b=it:=by simpa using hb
  subst e
  exact⟨_,st,fun v z=>by
   have z':Data.fields _=Data.cell v:=z
   cases z'⟩
 keep:=fun i h h' st k=>k it (by simp) _ st
 item:=by
  intro X hP hw hK hc i pins s σ H E I hf st hg
  subst hP hw hK
  obtain ⟨f0,f1,f2,f3,f4,f5⟩:=hf it (by simp)
  have W:=Walks.range (prog:=X.prog) (w:=X.w) (I.ok.hd hc) it lo (-1) n
  refine W.item i s _ _ hg st fun v h' tk hv st' kk=>?_
  obtain ⟨t,rfl⟩:=hv
  have I1:Inv X pins σ H { s with heap:=h',toks:=tk }:=I.turned (fun b o hb e=>kk b o (by simpa using hb) e) f0 f1 f3 f4 f5
  refine⟨_,rfl,go_of (s:={ s with heap:=h',toks:=tk }) (n := "range_iterator") st' rfl rfl (by decide) ⟨.int (lo - i),H,I1,⟨t,?_⟩,⟨rfl,rfl⟩,st',fun b hb=>(hf b hb).1⟩⟩
  rw [show lo+(i:Int)*(-1)=lo - i by lia]
 done:=by
  intro X hP hw hK hc i pins s σ H E I hf st hg
  subst hP hw hK
  obtain ⟨f0,f1,f2,f3,f4,f5⟩:=hf it (by simp)
  exact wpAny_pyNext_range_end (I.ok.hd hc) st (by have:n≤i:=hg;lia) fun h' eb=>⟨rfl,I.turned (t':=s.toks) (fun b o hb e=>eb b o hb e) f0 f1 f3 f4 f5⟩
 self:=fun _ _ _ _ _ st h=>wpAny_pyIter_rangeiter st h
end L2
namespace L2
open PySem PySem.Spec PyProof.Rows
theorem rangeSize_down (a b:Int):Builtin.Range.rangeSize a b (-1)=if a > b then a - b else 0:=by
 unfold Builtin.Range.rangeSize
 rw [if_neg (by decide)]
 split
 ·rw [show -(-1:Int)=1 by decide,Int.ediv_one];lia
 ·rfl
theorem small_down {a b:Int}(ha:-(2 ^ 62)≤a) (ha':a<2 ^ 62) (hb:-(2 ^ 62)≤b) (hb':b<2 ^ 62):Builtin.Range.small a b (-1)=true:=by
 unfold Builtin.Range.small
 rw [rangeSize_down]
 simp only [Builtin.Range.rangeFitsLong,Bool.and_eq_true,Bool.or_eq_true,decide_eq_true_eq,beq_iff_eq,show ¬((-1:Int) > 0) by decide,if_false]
 split <;> lia
inductive iRngD_b (R:It→Hp→Prop) (vs:List V) (H1:Hp):Prop
 | mk:∀i j:Int,(vs=[.int i,.int j,.int (-1)])→((-(2 ^ 62)≤i∧i<2 ^ 62∧-(2 ^ 62)≤j∧j<2 ^ 62))→(R (Itd i (i - j).toNat) H1)→iRngD_b R vs H1
def iRngD (ta:TA):TI:=fun σ H R=>ta σ H fun vs H1=>iRngD_b R vs H1
theorem pi_down {X:Cx}{tg:Expr}{a b c:Expr}{ta:TA}{p pos:Pos}(hg:Gl X "range") (hm:X.mg "range" = none) (ha:PA X [a,b,c] ta)
  (hs:starEach [a,b,c] X.env=(false,eval a X.env)::starEach [b,c] X.env:=by rfl) (hpl:(backTo pos (starEach [b,c] X.env)).any (·.1)=false:=by rfl) :
  PI X tg (.Call (.Name "range" p) [a,b,c] [] pos) (iRngD ta):=by
 intro pins s σ H R I h
 refine Call_ (ld_blt I hg hm boot_range (PyProof.Rows.callWith_type1 (thn (ha pos pins s σ H _ I h) fun us s1 ⟨vs,H1,I1,r1,q1⟩=>?_) hs hpl))
 obtain ⟨i,j,e,⟨q1,q2,q3,q4⟩,q⟩:=q1
 subst e
 cases r1 with
 | cons r rr =>
  cases rr with
  | cons r' rr =>
   cases rr with
   | cons r'' rr =>
    cases rr
    obtain ⟨t,rfl⟩:=r
    obtain ⟨t',rfl⟩:=r'
    obtain ⟨t'',rfl⟩:=r''
    refine call_range_3 (by decide) ?_ (Or.inl (PyProof.noPylong_small (by decide)))
    refine wpAny_pyIter_range (IsRange.new ..) (small_down q1 q2 q3 q4) ?_
    have I2:Inv X pins σ H1 { s1 with heap:=s1.heap.push { cls:=.type "range", data:=.fields #[.int i t,.int j t',.int (-1) t''] } }:=I1.kept (t':=s1.toks) fun b o e=>Heap.get?_push_of_some _ e
    refine⟨(s1.heap.push { cls:=.type "range", data:=.fields #[.int i t,.int j t',.int (-1) t''] }).objs.size,[(s1.heap.push { cls:=.type "range", data:=.fields #[.int i t,.int j t',.int (-1) t''] }).objs.size],_,_,H1,rfl,
     I2.kept (t':=s1.toks) fun b o e=>Heap.get?_push_of_some _ e,turn_down _ i (i - j).toNat,?_,fun b hb=>?_,q⟩
    ·have e1:i+((0:Nat):Int)*(-1)=i:=by simp
     have e2:(((i - j).toNat:Nat):Int) - ((0:Nat):Int)=Builtin.Range.rangeSize i j (-1):=by rw [rangeSize_down];split <;> lia
     show IsRangeIter _ _ (i+((0:Nat):Int)*(-1)) ((((i - j).toNat:Nat):Int) - ((0:Nat):Int)) (-1)
     rw [e1,e2]
     exact Heap.get?_push_size _ rfl
    ·have e:b=(s1.heap.push { cls:=.type "range", data:=.fields #[.int i t,.int j t',.int (-1) t''] }).objs.size:=by simpa using hb
     subst e
     exact I2.fpOk (Nat.le_refl _) (I2.hok.fresh (Nat.le_refl _))
theorem for_down {lo:Int}{n:Nat}{g:TG}{tb:TS}{D:Ends}{σ:St}{H:Hp}(Pv:Nat→St→Hp→Prop) (h0:Pv 0 σ H)
  (hs:∀i σ H,i<n→Pv i σ H→g (.int (lo - i)) σ H fun σ2 H2=>tb (D.lp (Pv (i+1))) σ2 H2) (hd:∀σ H,Pv n σ H→D.nx σ H) :
  ∃W:Nat→Nat→St→Hp→Prop,(∃m,W 0 m σ H)∧∀i m σ H,W i m σ H →
   ((Itd lo n).stop i H∧D.nx σ H)∨((Itd lo n).go i H∧∃N:St→Hp→Prop,(∀σ' H',N σ' H'→∃m',m'<m∧W (i+1) m' σ' H')∧∀x H',(Itd lo n).yld i H x H'→g x σ H' fun σ2 H2=>tb (D.lp (N)) σ2 H2):=by
 refine⟨fun i m σ H=>m=n - i∧i≤n∧Pv i σ H,⟨n,by simp,Nat.zero_le _,h0⟩,?_⟩
 rintro i m σ H ⟨rfl,hi,p⟩
 by_cases hlt:i<n
 ·refine .inr ⟨hlt,Pv (i+1),fun σ' H' p'=>⟨n - (i+1),by lia,rfl,hlt,p'⟩,fun x H' y=>?_⟩
  obtain ⟨e,y⟩:=y
  subst e y
  exact hs i σ _ hlt p
 ·have e:i=n:=by lia
  subst e
  exact .inl ⟨Nat.le_refl _,hd σ H p⟩
end L2

namespace L2
open PySem PySem.Spec PyProof.Rows
section
variable {X:Cx}
def clsV:V→Option Value
 | .ty n=>some (.type n)
 | .ref C=>some (.ref C)
 | _=>none
theorem clsV_rel {y:V}{c u:Value}(h:clsV y=some c) (r:RelV y u):u=c:=by
 cases y with
 | ty n=>cases h;exact r
 | ref C=>cases h;exact r
 | _=>cases h
inductive r_call_isi (K:PySem.W.Frag) (xs:List V) (H:Hp) (Q:VK):Prop
 | mk:∀x y c t b,(xs=[x,y])→(clsV y=some c)→(TyOf K H x t)→(PySem.W.kitOne K t c=some b)→(Q (.bl b) H)→r_call_isi K xs H Q
theorem call_isi:CallR X (.builtin "isinstance") (r_call_isi X.K):=by
 intro pins s σ H xs us Q I r h
 obtain ⟨x,y,c,t,b,rfl,hc,ty,hk,q⟩:=h
 refine L2.ob_eeaa (vals2 r) fun u w' e_2 rx ry=>?_;subst e_2
 obtain rfl:=clsV_rel hc ry
 exact isinst_ok I rx ty hk fun tk=>⟨.bl b,H,I.tok tk,rfl,q⟩
theorem countP_eqU {x:V}:∀{xs:List V}{us:List Value},Vals xs us→xs.all flatV=true→us.countP (eqU x)=xs.countP fun y=>eqV y x
 | _,_,.nil,_=>rfl
 | y::xs,u::us,.cons r t,f=>by
  rw [List.all_cons,Bool.and_eq_true] at f
  rw [List.countP_cons,List.countP_cons,eqU_of r f.1,countP_eqU t f.2]
inductive rCount (K:PySem.W.Frag) (x:V) (vs:List V) (H:Hp) (Q:VK):Prop
 | mk:∀p xs y,(x=.ref p)→(vs=[y])→(SqL K H p xs)→(flatV y=true)→(xs.all flatV=true)→(Q (.int ((xs.countP fun z=>eqV z y:Nat):Int)) H)→rCount K x vs H Q
theorem mt_count:MtR X "list.count" (rCount X.K):=by
 intro pins s σ H x vs v us Q I rx rv h
 obtain ⟨p,xs,y,rfl,rfl,hq,fy,fx,q⟩:=h
 cases rx
 refine L2.ob_ea rv.one fun u e_1 ru=>?_;subst e_1
 refine L2.ob_eaa (I.list hq) fun its r pl hz=>?_
 obtain ⟨⟨cls,dd,data,sl⟩,ho,hc,n,hd⟩:=pl.isList
 simp only at hc hd
 subst hc hd
 refine call_meets F.slot_list_count ⟨_,ho,rfl⟩ F.entry_list_count (F.args_list_count_2 _ _) (SeqAt.list_countAt p its.toArray n dd sl u (eqU y)) ⟨ho,fun z hz=>mem_eqAt ru fy r fx z (by simpa using hz),?_⟩
 refine⟨.int _,H,I.tok _,⟨_,rfl⟩,?_⟩
 rw [show its.toArray.toList=its from rfl,countP_eqU r fx]
 exact q
inductive rIndex (K:PySem.W.Frag) (x:V) (vs:List V) (H:Hp) (Q:VK):Prop
 | mk:∀p xs y j,(x=.ref p)→(vs=[y])→(SqL K H p xs)→(flatV y=true)→(xs.all flatV=true)→((∃z,xs[j]? = some z∧eqV z y=true))→((∀(m:Nat) z,m<j→xs[m]? = some z→eqV z y=false))→(Q (.int (j:Int)) H)→rIndex K x vs H Q
theorem mt_index:MtR X "list.index" (rIndex X.K):=by
 intro pins s σ H x vs v us Q I rx rv h
 obtain ⟨p,xs,y,j,rfl,rfl,hq,fy,fx,⟨zj,hj,hit⟩,hno,q⟩:=h
 cases rx
 refine L2.ob_ea rv.one fun u e_1 ru=>?_;subst e_1
 refine L2.ob_eaa (I.list hq) fun its r pl hz=>?_
 obtain ⟨⟨cls,dd,data,sl⟩,ho,hc,n,hd⟩:=pl.isList
 simp only at hc hd
 subst hc hd
 refine L2.ob_ea (r.get hj) fun uj huj ruj=>?_
 have hjl:j<its.length:=(List.getElem?_eq_some_iff.mp huj).1
 have hjs:j<its.toArray.size:=by rw [List.size_toArray];exact hjl
 have flat:∀{z:V}{k:Nat},xs[k]? = some z→flatV z=true:=fun {z k} e=>List.all_eq_true.mp fx z (List.mem_of_getElem? e)
 have hsm:(j:Int)<2 ^ 63 - 1:=by
  have h1:=r.length
  have h2:=line63
  have h3:(sizeLine:Nat)<2 ^ 62:=by rw [sizeLine_eq];decide
  have:j<sizeLine:=by lia
  have:(j:Int)<2 ^ 62:=by exact_mod_cast Nat.lt_trans this h3
  lia
 refine call_meets F.slot_list_index ⟨_,ho,rfl⟩ F.entry_list_index (F.args_list_index_2 _ _) (SeqAt.list_indexAt p its.toArray n dd sl u (eqU y) j hjs hsm ?_ ?_) ⟨ho,fun z hz=>mem_eqAt ru fy r fx z (by simpa using hz),?_⟩
 ·have e:its.toArray[j]=uj:=by
   have:=(List.getElem?_eq_some_iff.mp huj).2
   simpa using this
  rw [e,eqU_of ruj (flat hj)];exact hit
 ·intro m hm hmj
  have hml:m<its.length:=by rw [List.size_toArray] at hm;exact hm
  have hmx:m<xs.length:=by rw [r.length];exact hml
  refine L2.ob_ea (r.get (List.getElem?_eq_getElem hmx)) fun um hum rum=>?_
  have e:its.toArray[m]=um:=by
   have:=(List.getElem?_eq_some_iff.mp hum).2
   simpa using this
  rw [e,eqU_of rum (flat (List.getElem?_eq_getElem hmx))]
  exact hno m _ hmj (List.getElem?_eq_getElem hmx)
 ·exact⟨.int _,H,I.tok _,⟨_,rfl⟩,q⟩
end

inductive Dt where
 | non|bl (b:Bool)|int (i:Int)|str (x:Str)|lst (ds:List Dt)|tup (ds:List Dt)
mutual
def Deep (K:PySem.W.Frag) (H:Hp):Dt→V→Prop
 | .non,v=>v=.non
 | .bl b,v=>v=.bl b
 | .int i,v=>v=.int i
 | .str x,v=>v=.str x
 | .lst ds,v=>∃a xs,v=.ref a∧SqL K H a xs∧Deeps K H ds xs
 | .tup ds,v=>∃a xs,v=.ref a∧SqT K H a xs∧Deeps K H ds xs
def Deeps (K:PySem.W.Frag) (H:Hp):List Dt→List V→Prop
 | [],xs=>xs=[]
 | d::ds,xs=>∃x r,xs=x::r∧Deep K H d x∧Deeps K H ds r
end
mutual
def Dt.dp:Dt→Nat
 | .lst ds=>1+Dt.dps ds
 | .tup ds=>1+Dt.dps ds
 | _=>0
def Dt.dps:List Dt→Nat
 | []=>0
 | d::ds=>max d.dp (Dt.dps ds)
end
section
variable {X:Cx}{pins:List (Addr × Obj)}{σ:St}{H:Hp}{s:Shared}
theorem all_true:∀l:List Nat,(l.all fun _=>true)=true
 | []=>rfl
 | _::r=>by rw [List.all_cons,all_true r];rfl
theorem in1_units (A:Around):A.in1.units=A.units+1:=rfl
mutual
theorem same_at (I:Inv X pins σ H s):∀(d:Dt) {v z:V}{u1 u2:Value}{A:Around},Deep X.K H d v→Deep X.K H d z→RelV v u1→RelV z u2→A.units+d.dp<cLine→SeqAt.EqAt A s u1 u2 true
 | .non,v,z,u1,u2,A,h1,h2,r1,r2,_=>by
  have h1:v=.non:=by simpa only [Deep] using h1
  have h2:z=.non:=by simpa only [Deep] using h2
  subst h1 h2;cases r1;cases r2;exact SeqAt.EqAt.same _
 | .bl b,v,z,u1,u2,A,h1,h2,r1,r2,_=>by
  have h1:v=.bl b:=by simpa only [Deep] using h1
  have h2:z=.bl b:=by simpa only [Deep] using h2
  subst h1 h2;cases r1;cases r2;exact SeqAt.EqAt.same _
 | .int i,v,z,u1,u2,A,h1,h2,r1,r2,_=>by
  have h1:v=.int i:=by simpa only [Deep] using h1
  have h2:z=.int i:=by simpa only [Deep] using h2
  subst h1 h2;obtain ⟨t,rfl⟩:=r1;obtain ⟨t',rfl⟩:=r2
  have:=SeqAt.EqAt.int_int (A:=A) (s:=s) i t i t'
  rwa [beq_self_eq_true] at this
 | .str x,v,z,u1,u2,A,h1,h2,r1,r2,_=>by
  have h1:v=.str x:=by simpa only [Deep] using h1
  have h2:z=.str x:=by simpa only [Deep] using h2
  subst h1 h2;obtain ⟨t,rfl⟩:=r1;obtain ⟨t',rfl⟩:=r2
  have:=SeqAt.EqAt.str_str (A:=A) (s:=s) x t x t'
  rwa [beq_self_eq_true] at this
 | .lst ds,v,z,u1,u2,A,h1,h2,r1,r2,hu=>by
  obtain ⟨a,xs,rfl,q1,d1⟩:∃a xs,v=.ref a∧SqL X.K H a xs∧Deeps X.K H ds xs:=by simpa only [Deep] using h1
  obtain ⟨b,ys,rfl,q2,d2⟩:∃a xs,z=.ref a∧SqL X.K H a xs∧Deeps X.K H ds xs:=by simpa only [Deep] using h2
  cases r1;cases r2
  have hu':A.units+(1+Dt.dps ds)<cLine:=by simpa only [Dt.dp] using hu
  obtain ⟨its,rv,p,_⟩:=I.list q1
  obtain ⟨its2,rv2,p2,_⟩:=I.list q2
  obtain ⟨hl,hall⟩:=same_ats I ds d1 d2 rv rv2 (A:=A.in1) (by rw [in1_units];lia)
  by_cases hab:a=b
  ·subst hab;exact SeqAt.EqAt.same _
  ·refine SeqAt.EqAt.of_refs hab ?_
   have:=SeqAt.RcAt.lists (A:=A) (e:=fun _=>true) p.isList p2.isList (by simpa using hl) (by lia) (fun j h1 h2=>by
    have:=hall j _ _ (List.getElem?_eq_getElem (by simpa using h1)) (List.getElem?_eq_getElem (by simpa using h2))
    simpa using this)
   simpa [all_true] using this
 | .tup ds,v,z,u1,u2,A,h1,h2,r1,r2,hu=>by
  obtain ⟨a,xs,rfl,q1,d1⟩:∃a xs,v=.ref a∧SqT X.K H a xs∧Deeps X.K H ds xs:=by simpa only [Deep] using h1
  obtain ⟨b,ys,rfl,q2,d2⟩:∃a xs,z=.ref a∧SqT X.K H a xs∧Deeps X.K H ds xs:=by simpa only [Deep] using h2
  cases r1;cases r2
  have hu':A.units+(1+Dt.dps ds)<cLine:=by simpa only [Dt.dp] using hu
  obtain ⟨its,rv,p,_⟩:=I.tuple q1
  obtain ⟨its2,rv2,p2,_⟩:=I.tuple q2
  obtain ⟨hl,hall⟩:=same_ats I ds d1 d2 rv rv2 (A:=A.in1) (by rw [in1_units];lia)
  by_cases hab:a=b
  ·subst hab;exact SeqAt.EqAt.same _
  ·refine SeqAt.EqAt.of_refs hab ?_
   have:=SeqAt.RcAt.tuples (A:=A) (e:=fun _=>true) p p2 (by lia) (fun j h1 h2=>by
    have:=hall j _ _ (List.getElem?_eq_getElem (by simpa using h1)) (List.getElem?_eq_getElem (by simpa using h2))
    simpa using this)
   simpa [hl,all_true] using this
theorem same_ats (I:Inv X pins σ H s):∀(ds:List Dt) {xs ys:List V}{us ws:List Value}{A:Around},Deeps X.K H ds xs→Deeps X.K H ds ys→Vals xs us→Vals ys ws→A.units+Dt.dps ds<cLine →
  us.length=ws.length∧∀(j:Nat) (u w':Value),us[j]? = some u→ws[j]? = some w'→SeqAt.EqAt A s u w' true
 | [],xs,ys,us,ws,A,h1,h2,r1,r2,_=>by
  have h1:xs=[]:=by simpa only [Deeps] using h1
  have h2:ys=[]:=by simpa only [Deeps] using h2
  subst h1 h2
  cases r1;cases r2
  exact⟨rfl,fun j u w' e=>by simp at e⟩
 | d::ds,xs,ys,us,ws,A,h1,h2,r1,r2,hu=>by
  obtain ⟨x,xr,rfl,d1,e1⟩:∃x r,xs=x::r∧Deep X.K H d x∧Deeps X.K H ds r:=by simpa only [Deeps] using h1
  obtain ⟨y,yr,rfl,d2,e2⟩:∃x r,ys=x::r∧Deep X.K H d x∧Deeps X.K H ds r:=by simpa only [Deeps] using h2
  have hu':A.units+max d.dp (Dt.dps ds)<cLine:=by simpa only [Dt.dps] using hu
  cases r1 with
  | cons ra rb =>
   cases r2 with
   | cons rc rd =>
    obtain ⟨hl,hall⟩:=same_ats I ds e1 e2 rb rd (A:=A) (by lia)
    refine⟨by simp [hl],fun j u w' q1 q2=>?_⟩
    cases j with
    | zero =>
     simp at q1 q2
     subst q1 q2
     exact same_at I d d1 d2 ra rc (by lia)
    | succ j=>exact hall j u w' (by simpa using q1) (by simpa using q2)
end
end
end L2

namespace L2
open PySem PySem.Spec PyProof.Rows
section
variable {X:Cx}{pins:List (Addr × Obj)}{σ:St}{H:Hp}{s:Shared}
inductive rEqD (K:PySem.W.Frag) (x:V) (y:V) (H:Hp) (Q:VK):Prop
 | mk:∀d a b,(x=.ref a)→(y=.ref b)→(Deep K H d x)→(Deep K H d y)→(d.dp≤8)→(Q (.bl true) H)→rEqD K x y H Q
theorem rc_same (I:Inv X pins σ H s) {d:Dt}{a b:Addr}{A:Around}(h1:Deep X.K H d (.ref a)) (h2:Deep X.K H d (.ref b)) (hu:A.units+d.dp<cLine):SeqAt.RcAt A s (.ref a) (.ref b) true:=by
 cases d with
 | lst ds =>
  obtain ⟨a',xs,e1,q1,d1⟩:∃a' xs,V.ref a=.ref a'∧SqL X.K H a' xs∧Deeps X.K H ds xs:=by simpa only [Deep] using h1
  obtain ⟨b',ys,e2,q2,d2⟩:∃a' xs,V.ref b=.ref a'∧SqL X.K H a' xs∧Deeps X.K H ds xs:=by simpa only [Deep] using h2
  cases e1;cases e2
  have hu':A.units+(1+Dt.dps ds)<cLine:=by simpa only [Dt.dp] using hu
  obtain ⟨its,rv,p,_⟩:=I.list q1
  obtain ⟨its2,rv2,p2,_⟩:=I.list q2
  obtain ⟨hl,hall⟩:=same_ats I ds d1 d2 rv rv2 (A:=A.in1) (by rw [in1_units];lia)
  have:=SeqAt.RcAt.lists (A:=A) (e:=fun _=>true) p.isList p2.isList (by simpa using hl) (by lia) (fun j h1 h2=>by
    have:=hall j _ _ (List.getElem?_eq_getElem (by simpa using h1)) (List.getElem?_eq_getElem (by simpa using h2))
    simpa using this)
  simpa [all_true] using this
 | tup ds =>
  obtain ⟨a',xs,e1,q1,d1⟩:∃a' xs,V.ref a=.ref a'∧SqT X.K H a' xs∧Deeps X.K H ds xs:=by simpa only [Deep] using h1
  obtain ⟨b',ys,e2,q2,d2⟩:∃a' xs,V.ref b=.ref a'∧SqT X.K H a' xs∧Deeps X.K H ds xs:=by simpa only [Deep] using h2
  cases e1;cases e2
  have hu':A.units+(1+Dt.dps ds)<cLine:=by simpa only [Dt.dp] using hu
  obtain ⟨its,rv,p,_⟩:=I.tuple q1
  obtain ⟨its2,rv2,p2,_⟩:=I.tuple q2
  obtain ⟨hl,hall⟩:=same_ats I ds d1 d2 rv rv2 (A:=A.in1) (by rw [in1_units];lia)
  have:=SeqAt.RcAt.tuples (A:=A) (e:=fun _=>true) p p2 (by lia) (fun j h1 h2=>by
    have:=hall j _ _ (List.getElem?_eq_getElem (by simpa using h1)) (List.getElem?_eq_getElem (by simpa using h2))
    simpa using this)
  simpa [hl,all_true] using this
 | non=>have h:V.ref a=.non:=(by simpa only [Deep] using h1);cases h
 | bl b'=>have h:V.ref a=.bl b':=(by simpa only [Deep] using h1);cases h
 | int i=>have h:V.ref a=.int i:=(by simpa only [Deep] using h1);cases h
 | str x=>have h:V.ref a=.str x:=(by simpa only [Deep] using h1);cases h
theorem op_eqD {k:Nat}(hr:Room k X.A):OpR X (compareOp .Eq) (rEqD X.K):=by
 intro pins s σ H x y v u Q I rx ry h
 obtain ⟨d,a,b,rfl,rfl,h1,h2,hd,q⟩:=h
 cases rx;cases ry
 have hu:=hr.units
 exact rc_same I h1 h2 (by lia) X.prog X.w X.xe _ ⟨.bl true,H,I,rfl,q⟩
inductive rNeD (K:PySem.W.Frag) (x:V) (y:V) (H:Hp) (Q:VK):Prop
 | mk:∀d a b,(x=.ref a)→(y=.ref b)→(Deep K H d x)→(Deep K H d y)→(d.dp≤8)→(Q (.bl false) H)→rNeD K x y H Q
theorem deeps_ints {K:PySem.W.Frag}{H:Hp}:∀ns:List Int,Deeps K H (ns.map Dt.int) (ns.map V.int)
 | []=>by simp only [List.map_nil,Deeps]
 | n::r=>by
  simp only [List.map_cons,Deeps,Deep]
  exact⟨_,_,rfl,rfl,deeps_ints r⟩
theorem deeps_strs {K:PySem.W.Frag}{H:Hp}:∀ns:List Str,Deeps K H (ns.map Dt.str) (ns.map V.str)
 | []=>by simp only [List.map_nil,Deeps]
 | n::r=>by
  simp only [List.map_cons,Deeps,Deep]
  exact⟨_,_,rfl,rfl,deeps_strs r⟩
theorem deep_tup {K:PySem.W.Frag}{H:Hp}{a:Addr}{xs:List V}{ds:List Dt}(q:SqT K H a xs) (d:Deeps K H ds xs):Deep K H (.tup ds) (.ref a):=by
 simp only [Deep];exact⟨a,xs,rfl,q,d⟩
inductive rRange1  (xs:List V) (H:Hp) (Q:VK):Prop
 | mk:∀j:Int,(xs=[.int j])→(-(2 ^ 62)≤j)→(j<2 ^ 62)→(∀p,H p=none→Q (.ref p) (upd H p (.rng 0 j)))→rRange1 xs H Q
theorem call_range1:CallR X (.type "range") rRange1:=by
 intro pins s σ H xs us Q I r h
 obtain ⟨j,rfl,h1,h2,q⟩:=h
 obtain ⟨u,rfl,t,rfl⟩:=vals1 r
 refine call_range_1 ?_
 have hf:H s.heap.objs.size=none:=I.hok.fresh (Nat.le_refl _)
 exact⟨.ref s.heap.objs.size,_,I.laid (o:=.rng 0 j) (fun b o e=>Heap.get?_push_of_some _ e) (Nat.le_refl _) ⟨_,_,_,Heap.get?_push_size _ rfl⟩,rfl,q _ hf⟩
structure Df (P:Program) (w:World) (K:PySem.W.Frag) (mg:Str→Option Value) (base:Heap) (x:Str) (k:Nat) (ps:List Str) (sp:Sp):Prop where
 ex:∃f fd,mg x=some (.ref f)∧PySem.W.keepIn K (.ref f)=true∧Binds K fd ps []∧FnOk P w K mg base (CX1 P w) k f fd ps sp
theorem pe_own {k:Nat}{x:Str}{ps:List Str}{sp:Sp}{E:XK}{p pos:Pos}{e:Expr}{es:List Expr}{t:TA}(D:Df X.prog X.w X.K X.mg X.base x k ps sp) (hr:Room k X.A) (hg:Gl X x) (hx:Passes (CX1 X.prog X.w) X E) (ha:PA X (e::es) t)
  (hdb:(x==("__debug__" : Str))=false:=by decide) (he:starEach (e::es) X.env=(false,eval e X.env)::starEach es X.env:=by rfl) (hpl:(backTo pos (starEach es X.env)).any (·.1)=false:=by rfl) :
  PE X (.Call (.Name x p) (e::es) [] pos) (tCall sp [] E t):=by
 obtain ⟨f,fd,hm,hk,hb,F⟩:=D.ex
 exact pe_call F hr hg hm hk hb .nil hx ha hdb he hpl
def PJ (X:Cx) (es:List Expr) (t:Str→TE):Prop :=
 ∀(out:Str) (pins:List (Addr × Obj)) (s:Shared) (σ:St) (H:Hp) (Q:VK),Inv X pins σ H s→t out σ H Q→wpAny (model X.prog X.w) X.A (joinParts out (evalEach es X.env)) (EP X pins σ Q) X.xe s
theorem pj_nil:PJ X [] (fun out _ H Q=>out.length≤sizeLine∧Q (.str out) H):=by
 intro out pins s σ H Q I h
 exact joinParts_nil ⟨.str out,H,I.tok _,⟨_,rfl⟩,h.2⟩ h.1
theorem pj_cons {e:Expr}{es:List Expr}{te:TE}{t:Str→TE}(he:PE X e te) (hr:PJ X es t) (hs:evalEach (e::es) X.env=eval e X.env::evalEach es X.env:=by rfl) :
  PJ X (e::es) (fun out σ H Q=>te σ H fun v H1=>∃y,v=.str y∧(out++y).length≤sizeLine∧t (out++y) σ H1 Q):=by
 intro out pins s σ H Q I h
 rw [hs]
 refine joinParts_cons (thn (he pins s σ H _ I h) fun v s1 ⟨x,H1,I1,r1,y,e1,z,q⟩=>?_)
 subst e1
 obtain ⟨tk,rfl⟩:=r1
 exact⟨z,hr (out++y) pins s1 σ H1 Q I1 q⟩
theorem pe_fstr {e1 e2:Expr}{es:List Expr}{t:Str→TE}{pos:Pos}(h:PJ X (e1::e2::es) t):PE X (.JoinedStr (e1::e2::es) pos) (t Str.empty):=by
 intro pins s σ H Q I hq
 exact JoinedStr_many (h Str.empty pins s σ H Q I hq)
theorem pe_fv {e:Expr}{te:TE}{pos:Pos}(he:PE X e te):PE X (.FormattedValue e (-1) none pos) (fun σ H Q=>te σ H fun v H1=>∃i:Int,v=.int i∧i.natAbs.log2<1920∧Q (.str (toString i)) H1):=by
 intro pins s σ H Q I h
 refine FormattedValue_plain (thn (he pins s σ H _ I h) fun v s1 ⟨x,H1,I1,r1,i,e1,z,q⟩=>?_)
 subst e1
 obtain ⟨tk,rfl⟩:=r1
 exact formatField_int_small z ⟨.str _,H1,I1.tok _,⟨_,rfl⟩,q⟩
end
end L2

namespace L2
open PySem PySem.Spec PyProof.Rows
structure ExTy (K:PySem.W.Frag) (C:Addr):Prop where
 ga:PySem.W.findIn K (.ref C) "__getattribute__" = some (some (.builtin "BaseException.__getattribute__"))
 gx:PySem.W.findIn K (.ref C) "__getattr__" = some none
 cl:PySem.W.findIn K (.ref C) "__class__" = some (some (.builtin "object.__class__"))
 ob:PySem.W.subIn K (.ref C) (.type "object")=some true
 be:PySem.W.subIn K (.ref C) (.type "BaseException")=some true
 ty:PySem.W.kitCls K (.ref C) (.ref C)=some true
section
variable {K:PySem.W.Frag}{C:Addr}{prog:Program}{w:World}{A:Around}{E:Value→Shared→Prop}{h:Heap}{g:Array GenState}{d:Drawn}{t:Nat}{os:OsState}{a:Addr}{o:Obj}
theorem exc_get {R:Result→Shared→Prop}(T:ExTy K C) (X:K.In h) (hx:h.get? a=some o) (hc:o.cls=.ref C) (hq:R (.ok (.ret (.ref C))) ⟨h,g,d,t,os⟩) :
  codeAny (model prog w) A (.call (.builtin "getset_descriptor.__get__") ⟨[.builtin "object.__class__", .ref a,.ref C],[]⟩) R ⟨h,g,d,t,os⟩:=by
 have hT5:(⟨h,g,d,t,os⟩:Shared).TypeIs (.builtin "object.__class__") "getset_descriptor" := F.typeOf_object_class
 have LS:PySem.W.Looks (model prog w) h (isSubtype (.ref C) (.type (".".intercalate ("object.__class__".cutAt '.').dropLast))) true:=by
  rw [F.owner_object_class];exact PySem.W.looks_subIn X T.ob
 refine codeAny_call_builtin F.slot_gs_get.plain F.entry_gs_get (F.slot_gs_get.check _ _ _ _ _ _ _ _ hT5 (F.args_gs_get _ _ _) ?_)
 repeat (any_goals (first|assumption|(with_reducible refine wpAny_loadPart_at hx ?_;rw [hc])|(with_reducible refine LS.at ?_)|wp_step))
 refine⟨Code.quiet_builtin _ (by decide +kernel),codeAny_builtin F.entry_object_class ?_⟩
 repeat (any_goals (first|assumption|(with_reducible refine wpAny_loadPart_at hx ?_;rw [hc])|wp_step))
theorem exc_entry {tk:Tok}{Q:Fin→Shared→Prop}(T:ExTy K C) (X:K.In h) (hx:h.get? a=some o) (hc:o.cls=.ref C) (hq:Q (.done (.ret (.ref C))) ⟨h,g,d,t,os⟩) :
  wpAny (model prog w) A (Builtin.«object.__getattribute__» ⟨[.ref a,.str "__class__" tk],[]⟩) Q E ⟨h,g,d,t,os⟩:=by
 have hT5:(⟨h,g,d,t,os⟩:Shared).TypeIs (.builtin "object.__class__") "getset_descriptor" := F.typeOf_object_class
 have f5:=F.typeOf_object_class
 have f6:=F.slot_gs_get.lookup
 have f7:=F.slot_gs_set.lookup
 have L1:=PySem.W.looks_findIn (M:=model prog w) X T.cl
 repeat (any_goals (first|assumption|(with_reducible refine wpAny_loadPart_at hx ?_;rw [hc])|(with_reducible refine L1.at ?_)|wp_step))
 refine exc_get T X hx hc ?_
 repeat (any_goals (first|assumption|wp_step))
theorem exc_check {M:Model}{nameV:Value}{Q:Unit→Shared→Prop}(T:ExTy K C) (X:K.In h) (hx:h.get? a=some o) (hc:o.cls=.ref C) (hq:Q () ⟨h,g,d,t,os⟩):wpAny M A (checkBuiltinCall "BaseException.__getattribute__" ⟨[.ref a,nameV],[]⟩) Q E ⟨h,g,d,t,os⟩:=by
 have hk:builtinKind "BaseException.__getattribute__" = some .slot:=by decide +kernel
 have hsplit:splitId "BaseException.__getattribute__" = some ("BaseException", "__getattribute__"):=by decide +kernel
 have ha:=F.args_bexc_ga (.ref a) nameV
 have LS:=PySem.W.looks_subIn (M:=M) X T.be
 simp only [checkBuiltinCall,hk,hsplit]
 refine wpAny_bind ?_
 ·unfold isInstance
  repeat (first|(with_reducible refine wpAny_loadPart_at hx ?_;rw [hc])|(with_reducible refine LS.at ?_)|wp_step)
  exact hq
theorem exc_call {tk:Tok}{R:Result→Shared→Prop}(T:ExTy K C) (X:K.In h) (hx:h.get? a=some o) (hc:o.cls=.ref C) (hq:R (.ok (.ret (.ref C))) ⟨h,g,d,t,os⟩) :
  codeAny (model prog w) A (.call (.builtin "BaseException.__getattribute__") ⟨[.ref a,.str "__class__" tk],[]⟩) R ⟨h,g,d,t,os⟩ :=
 codeAny_call_builtin (by decide +kernel) F.entry_bexc_ga (exc_check T X hx hc (exc_entry T X hx hc hq))
theorem exc_by {tk:Tok}{Q:Value→Shared→Prop}(T:ExTy K C) (X:K.In h) (hx:h.get? a=some o) (hc:o.cls=.ref C) (hq:Q (.ref C) ⟨h,g,d,t,os⟩):wpAny (model prog w) A (getAttrBy (.ref a) (.str "__class__" tk) false) Q E ⟨h,g,d,t,os⟩:=by
 have f3:bindSpecial (.builtin "BaseException.__getattribute__") (.ref a)=pure (.builtin "BaseException.__getattribute__", [.ref a]):=PySem.F.excAttr_ValueError.ga.bind (.ref a)
 have L1:=PySem.W.looks_findIn (M:=model prog w) X T.ga
 have L2:=PySem.W.looks_findIn (M:=model prog w) X T.gx
 have hx0:(false && onTheHeap (Value.builtin "BaseException.__getattribute__"))=false:=rfl
 have hx2:(Value.builtin "BaseException.__getattribute__" == Value.builtin "object.__getattribute__")=false:=by decide +kernel
 have hx1:(onTheHeap (Value.ref C) && Value.builtin "BaseException.__getattribute__" == Value.builtin "object.__getattribute__")=false:=by rw [hx2];rfl
 repeat (any_goals (first|assumption|(with_reducible refine wpAny_loadPart_at hx ?_;rw [hc])|(with_reducible refine L1.at ?_)|(with_reducible refine L2.at ?_)|wp_step))
 refine exc_call T X hx hc ?_
 repeat (any_goals (first|assumption|wp_step))
theorem exc_attr {Q:Option Value→Shared→Prop}(T:ExTy K C) (X:K.In h) (hx:h.get? a=some o) (hc:o.cls=.ref C) (hq:Q (some (.ref C)) ⟨h,g,d,t+1,os⟩):wpAny (model prog w) A (getAttr? (.ref a) "__class__") Q E ⟨h,g,d,t,os⟩:=by
 unfold getAttr? getAttrBy?
 repeat (any_goals (first|assumption|with_reducible apply exc_by T X hx hc|wp_step))
theorem kitx_exc (T:ExTy K C):PySem.W.KitX K (.ref a) (.ref C) (fun h=>∃o vs,h.get? a=some o∧o.cls=.ref C∧o.data=.fields vs) where
 ty:=fun _ _ _ ⟨o,_,h1,h2,_⟩=>h2 ▸ (PySem.W.Looks.ld h1).andThen .now
 it:=fun _ _ X _=>(PySem.W.kit_cls X T.ty).2.1
 ne:=fun h tp dd its n sl X htp=>by
  refine Bool.eq_false_iff.mpr fun q=>?_
  have e:C=tp:=Value.ref.inj (beq_iff_eq.mp q)
  subst e
  have z:(if ((PySem.W.clsIn K C).isSome && PySem.W.typeIn K (.ref C)==some (.type "type"))=true then PySem.W.subIn K (.ref C) (.ref C) else none)=some true:=T.ty
  by_cases hC:((PySem.W.clsIn K C).isSome && PySem.W.typeIn K (.ref C)==some (.type "type"))=true
  ·rw [Bool.and_eq_true] at hC
   have z0:=hC.1
   unfold PySem.W.clsIn at z0
   split at z0
   ·rename_i c' d' cd' sl' ho
    have z2:=(X _ _ ho).symm.trans htp
    cases z2
   ·cases z0
  ·rw [if_neg hC] at z;exact L2.ns_ z
 ca:=fun {_ _ _ _ _ s} X ⟨o,_,h1,h2,_⟩ k=>by
  obtain ⟨hh,gg,dd,tt,oo⟩:=s
  exact exc_attr T X h1 h2 k
end
section
variable {X:Cx}
inductive r_call_isiX (K:PySem.W.Frag) (xs:List V) (H:Hp) (Q:VK):Prop
 | mk:∀a y c C b,(xs=[.ref a,y])→(clsV y=some c)→(H a=some (excO a C))→(ExTy K C)→(PySem.W.kitOne K (.ref C) c=some b)→(Q (.bl b) H)→r_call_isiX K xs H Q
theorem call_isiX:CallR X (.builtin "isinstance") (r_call_isiX X.K):=by
 intro pins s σ H xs us Q I r h
 obtain ⟨a,y,c,C,b,rfl,hc,ha,T,hk,q⟩:=h
 refine L2.ob_eeaa (vals2 r) fun u w' e_2 rx ry=>?_;subst e_2
 obtain rfl:=clsV_rel hc ry
 cases rx
 obtain ⟨p,_,_⟩:=I.hok a _ ha
 exact PySem.W.kia_one (kitx_exc T) I.kIn p hk (fun z=>nomatch z) fun tk=>⟨.bl b,H,I.tok tk,rfl,q⟩
theorem ints_at {ns:List Int}{its:List Value}(r:Vals (ns.map V.int) its) {i:Nat}{v:Value}(e:its.toArray[i]? = some v):i<ns.length∧∃t,v=.int (ns.getD i 0) t:=by
 have e':its[i]? = some v:=by simpa using e
 have hl:=r.length
 rw [List.length_map] at hl
 have hi:i<ns.length:=by rw [hl];exact (List.getElem?_eq_some_iff.mp e').1
 refine⟨hi,?_⟩
 obtain ⟨u,hu,ru⟩:=r.get (i:=i) (x:=.int (ns.getD i 0)) (by rw [List.getElem?_map,List.getD_eq_getElem?_getD,List.getElem?_eq_getElem hi];rfl)
 rw [e'] at hu;obtain rfl:=Option.some.inj hu
 exact ru
theorem pos_of_ne {α:Type}{l:List α}(h:l≠[]):0<l.length:=by cases l with
 | nil=>exact absurd rfl h
 | cons a r=>simp
theorem kept_of_push {h:Heap}{ob:Obj}{h':Heap}(k:∀b o,b ∉ [h.objs.size]→(h.push ob).get? b=some o→h'.get? b=some o):∀b o,h.get? b=some o→h'.get? b=some o:=fun b o e =>
 k b o (by simp;exact Nat.ne_of_lt (Heap.lt_size e)) (Heap.get?_push_of_some _ e)
def rangeL (lo:Int) (n:Nat):List Int:=(List.range n).map fun (i:Nat)=>lo+(i:Int)
theorem vals_of_items {lo:Int}:∀{n:Nat}{acc:List Value},acc.length=n→(∀(j:Nat) v,acc[j]? = some v→∃t,v=.int (lo+j) t)→Vals ((rangeL lo n).map V.int) acc:=by
 intro n acc hl ha
 unfold rangeL
 rw [List.map_map]
 induction n generalizing acc lo with
 | zero =>
  cases acc with
  | nil=>exact .nil
  | cons a r=>simp at hl
 | succ n ih =>
  cases acc with
  | nil=>simp at hl
  | cons a r =>
   rw [List.range_succ_eq_map,List.map_cons,List.map_map]
   obtain ⟨t,rfl⟩:=ha 0 a rfl
   refine .cons ⟨t,by simp⟩ ?_
   have:=ih (lo:=lo+1) (acc:=r) (by simpa using hl) (fun j v e=>by
    obtain ⟨t,rfl⟩:=ha (j+1) v (by simpa using e)
    exact⟨t,by congr 1;push_cast;lia⟩)
   refine cast ?_ this
   congr 1
   refine List.map_congr_left fun i _=>?_
   simp only [Function.comp]
   congr 1
   push_cast
   lia
theorem rcne_same {pins:List (Addr × Obj)}{σ:St}{H:Hp}{s:Shared}(I:Inv X pins σ H s) {d:Dt}{a b:Addr}{A:Around}(h1:Deep X.K H d (.ref a)) (h2:Deep X.K H d (.ref b)) (hu:A.units+d.dp<cLine):SeqAt.RcNeAt A s (.ref a) (.ref b) false:=by
 cases d with
 | lst ds =>
  obtain ⟨a',xs,e1,q1,d1⟩:∃a' xs,V.ref a=.ref a'∧SqL X.K H a' xs∧Deeps X.K H ds xs:=by simpa only [Deep] using h1
  obtain ⟨b',ys,e2,q2,d2⟩:∃a' xs,V.ref b=.ref a'∧SqL X.K H a' xs∧Deeps X.K H ds xs:=by simpa only [Deep] using h2
  cases e1;cases e2
  have hu':A.units+(1+Dt.dps ds)<cLine:=by simpa only [Dt.dp] using hu
  obtain ⟨its,rv,p,_⟩:=I.list q1
  obtain ⟨its2,rv2,p2,_⟩:=I.list q2
  obtain ⟨hl,hall⟩:=same_ats I ds d1 d2 rv rv2 (A:=A.in1) (by rw [in1_units];lia)
  have:=SeqAt.RcNeAt.lists (A:=A) (e:=fun _=>true) p.isList p2.isList (by simpa using hl) (by lia) (fun j h1 h2=>by
    have:=hall j _ _ (List.getElem?_eq_getElem (by simpa using h1)) (List.getElem?_eq_getElem (by simpa using h2))
    simpa using this)
  simpa [all_true] using this
 | tup ds =>
  obtain ⟨a',xs,e1,q1,d1⟩:∃a' xs,V.ref a=.ref a'∧SqT X.K H a' xs∧Deeps X.K H ds xs:=by simpa only [Deep] using h1
  obtain ⟨b',ys,e2,q2,d2⟩:∃a' xs,V.ref b=.ref a'∧SqT X.K H a' xs∧Deeps X.K H ds xs:=by simpa only [Deep] using h2
  cases e1;cases e2
  have hu':A.units+(1+Dt.dps ds)<cLine:=by simpa only [Dt.dp] using hu
  obtain ⟨its,rv,p,_⟩:=I.tuple q1
  obtain ⟨its2,rv2,p2,_⟩:=I.tuple q2
  obtain ⟨hl,hall⟩:=same_ats I ds d1 d2 rv rv2 (A:=A.in1) (by rw [in1_units];lia)
  have:=SeqAt.RcNeAt.tuples (A:=A) (e:=fun _=>true) p p2 (by lia) (fun j h1 h2=>by
    have:=hall j _ _ (List.getElem?_eq_getElem (by simpa using h1)) (List.getElem?_eq_getElem (by simpa using h2))
    simpa using this)
  simpa [hl,all_true] using this
 | non=>have h:V.ref a=.non:=(by simpa only [Deep] using h1);cases h
 | bl b'=>have h:V.ref a=.bl b':=(by simpa only [Deep] using h1);cases h
 | int i=>have h:V.ref a=.int i:=(by simpa only [Deep] using h1);cases h
 | str x=>have h:V.ref a=.str x:=(by simpa only [Deep] using h1);cases h
theorem op_neD {k:Nat}(hr:Room k X.A):OpR X (compareOp .NotEq) (rNeD X.K):=by
 intro pins s σ H x y v u Q I rx ry h
 obtain ⟨d,a,b,rfl,rfl,h1,h2,hd,q⟩:=h
 cases rx;cases ry
 have hu:=hr.units
 exact rcne_same I h1 h2 (by lia) X.prog X.w X.xe _ ⟨.bl false,H,I,rfl,q⟩
end
end L2

namespace NM
theorem foldl_take {α β:Type}(f:β→α→β) (b:β) (xs:List α) (i:Nat) (x:α) (h:xs[i]? = some x) :
  (xs.take (i+1)).foldl f b=f ((xs.take i).foldl f b) x:=by
 rw [List.take_succ,h]
 simp [List.foldl_append]
def stepOk (ahead:Int) (l:List Int):Bool:=decide (l.length=2) && l.all (fun v=>decide (0≤v) && decide (v<ahead))
def stepsOk (wide:Int) (steps:List (List Int)):Prop:=∀(k:Nat) l,steps[k]? = some l→stepOk (wide+k) l=true
def outsOk (lim:Int) (outs:List Int):Prop:=∀v∈outs,0≤v∧v<lim
structure Good (wide:Int) (steps:List (List Int)) (outs:List Int):Prop where
 lo:1≤wide
 hi:wide≤64
 len:steps.length≤500
 st:stepsOk wide steps
 ol:(outs.length:Int)=wide
 ou:outsOk (wide+steps.length) outs
instance (wide:Int) (steps:List (List Int)):Decidable (stepsOk wide steps) :=
 decidable_of_iff (∀k,k<steps.length→∀l,steps[k]? = some l→stepOk (wide+k) l=true)
  ⟨fun h k l e=>h k (List.getElem?_eq_some_iff.mp e).1 l e,fun h k _ l e=>h k l e⟩
instance (lim:Int) (outs:List Int):Decidable (outsOk lim outs):=by unfold outsOk;exact inferInstance
instance (wide:Int) (steps:List (List Int)) (outs:List Int):Decidable (Good wide steps outs) :=
 decidable_of_iff (1≤wide∧wide≤64∧steps.length≤500∧stepsOk wide steps∧(outs.length:Int)=wide∧outsOk (wide+steps.length) outs)
  ⟨fun ⟨a,b,c,d,e,f⟩=>⟨a,b,c,d,e,f⟩,fun ⟨a,b,c,d,e,f⟩=>⟨a,b,c,d,e,f⟩⟩
structure NetN where
 w:Nat
 st:List (Nat × Nat)
 ou:List Nat
structure NetN.Ok (N:NetN):Prop where
 lo:1≤N.w
 hi:N.w≤64
 len:N.st.length≤500
 s1:∀k p,N.st[k]? = some p→p.1<N.w+k∧p.2<N.w+k
 ol:N.ou.length=N.w
 ob:∀v∈N.ou,v<N.w+N.st.length
def pairI (p:Nat × Nat):List Int:=[(p.1:Int),(p.2:Int)]
def NetN.steps (N:NetN):List (List Int):=N.st.map pairI
def NetN.outs (N:NetN):List Int:=N.ou.map Int.ofNat
theorem pair_of {ahead:Int}{l:List Int}(h:stepOk ahead l=true):∃a b:Nat,l=pairI (a,b)∧(a:Int)<ahead∧(b:Int)<ahead:=by
 unfold stepOk at h
 simp only [Bool.and_eq_true,decide_eq_true_eq,List.all_eq_true] at h
 obtain ⟨hl,ha⟩:=h
 match l,hl with
 | [x,y],_ =>
  obtain ⟨x0,x1⟩:=ha x (by simp)
  obtain ⟨y0,y1⟩:=ha y (by simp)
  exact⟨x.toNat,y.toNat,by simp only [pairI];rw [Int.toNat_of_nonneg x0,Int.toNat_of_nonneg y0],by rw [Int.toNat_of_nonneg x0];exact x1,by rw [Int.toNat_of_nonneg y0];exact y1⟩
theorem steps_of {wide:Int}:∀{steps:List (List Int)}{k0:Nat},(∀(k:Nat) l,steps[k]? = some l→stepOk (wide+(k0+k:Nat)) l=true) →
  ∃st:List (Nat × Nat),steps=st.map pairI∧∀(k:Nat) p,st[k]? = some p→(p.1:Int)<wide+(k0+k:Nat)∧(p.2:Int)<wide+(k0+k:Nat)
 | [],_,_=>⟨[],rfl,fun k p h=>by simp at h⟩
 | l::r,k0,h=>by
  refine L2.ob_eeaa (pair_of (h 0 l rfl)) fun a b e h1 h2=>?_
  obtain ⟨st,e2,h3⟩:=steps_of (steps:=r) (k0:=k0+1) (fun k l hl=>by
   have:=h (k+1) l (by simpa using hl)
   rw [show k0+1+k=k0+(k+1) by lia];exact this)
  refine⟨(a,b)::st,by rw [e,e2];rfl,fun k p hp=>?_⟩
  cases k with
  | zero =>
   simp at hp;subst hp
   exact⟨by simpa using h1,by simpa using h2⟩
  | succ k =>
   have:=h3 k p (by simpa using hp)
   rw [show k0+(k+1)=k0+1+k by lia];exact this
theorem outs_of:∀{outs:List Int}{lim:Int},outsOk lim outs→∃ou:List Nat,outs=ou.map Int.ofNat∧∀v∈ou,(v:Int)<lim
 | [],_,_=>⟨[],rfl,fun v h=>by simp at h⟩
 | x::r,lim,h=>by
  obtain ⟨x0,x1⟩:=h x (by simp)
  refine L2.ob_ea (outs_of (outs:=r) (lim:=lim) (fun v hv=>h v (by simp [hv]))) fun ou e h2=>?_
  refine⟨x.toNat::ou,by rw [e];simp [Int.toNat_of_nonneg x0],fun v hv=>?_⟩
  rcases List.mem_cons.mp hv with rfl|hv
  ·lia
  ·exact h2 v hv
theorem Good.net {wide:Int}{steps:List (List Int)}{outs:List Int}(g:Good wide steps outs) :
  ∃N:NetN,N.Ok∧wide=(N.w:Int)∧steps=N.steps∧outs=N.outs:=by
 refine L2.ob_ea (steps_of (wide:=wide) (steps:=steps) (k0:=0) (fun k l hl=>by rw [Nat.zero_add];exact g.st k l hl)) fun st e1 h1=>?_
 refine L2.ob_ea (outs_of g.ou) fun ou e2 h2=>?_
 have lo:=g.lo
 have hi:=g.hi
 have ol:=g.ol
 have hw:((wide.toNat:Nat):Int)=wide:=Int.toNat_of_nonneg (by solve_by_elim (maxDepth:=3) [Int.le_of_lt,Int.natCast_nonneg,Int.add_nonneg,Int.le_trans,Int.lt_of_lt_of_le,Int.lt_of_le_of_lt])
 refine⟨⟨wide.toNat,st,ou⟩,⟨?_,?_,?_,fun k p hp=>?_,?_,fun v hv=>?_⟩,hw.symm,e1,e2⟩
 ·show 1≤wide.toNat;lia
 ·show wide.toNat≤64;lia
 ·have:=g.len;rw [e1] at this;simpa using this
 ·have:=h1 k p hp
  show p.1<wide.toNat+k∧p.2<wide.toNat+k
  constructor <;> lia
 ·show ou.length=wide.toNat
  have:outs.length=ou.length:=by rw [e2];simp
  lia
 ·have:=h2 v hv
  show v<wide.toNat+st.length
  have:steps.length=st.length:=by rw [e1];simp
  lia
theorem NetN.Ok.good {N:NetN}(o:N.Ok):Good (N.w:Int) N.steps N.outs where
 lo:=by have:=o.lo;lia
 hi:=by have:=o.hi;lia
 len:=by unfold NetN.steps;simpa using o.len
 st:=fun k l hl=>by
  unfold NetN.steps at hl
  rw [List.getElem?_map] at hl
  cases e:N.st[k]? with
  | none=>rw [e] at hl;cases hl
  | some p =>
   rw [e] at hl
   obtain ⟨h1,h2⟩:=o.s1 k p e
   cases (Option.some.inj hl)
   simp only [stepOk,pairI,List.length_cons,List.length_nil,List.all_cons,List.all_nil]
   simp
   lia
 ol:=by unfold NetN.outs;simp [o.ol]
 ou:=fun v hv=>by
  unfold NetN.outs at hv
  refine L2.ob_ea (List.mem_map.mp hv) fun u hu e_2=>?_;subst e_2
  have:=o.ob u hu
  unfold NetN.steps
  simp only [List.length_map]
  constructor
  ·simp
  ·show (u:Int)<_;lia
inductive NetN.Under (N:NetN) (r:Nat):Nat→Prop
 | self:NetN.Under N r r
 | l {k:Nat}{p:Nat × Nat}:NetN.Under N r (N.w+k)→N.st[k]? = some p→NetN.Under N r p.1
 | r {k:Nat}{p:Nat × Nat}:NetN.Under N r (N.w+k)→N.st[k]? = some p→NetN.Under N r p.2
def NetN.Used (N:NetN) (v:Nat):Prop:=∃o∈N.ou,N.Under o v
def markOuts (ou:List Nat) (m:List Bool):List Bool:=ou.foldl (fun m o=>m.set o true) m
def NetN.bstep (N:NetN) (k:Nat) (m:List Bool):List Bool :=
 if m.getD (N.w+k) false=true then (m.set (N.st.getD k (0,0)).1 true).set (N.st.getD k (0,0)).2 true else m
def NetN.back (N:NetN):Nat→List Bool→List Bool
 | 0,m=>m
 | k+1,m=>N.back k (N.bstep k m)
def NetN.marks0 (N:NetN):List Bool:=markOuts N.ou (List.replicate (N.w+N.st.length) false)
def NetN.used (N:NetN):List Bool:=N.back N.st.length N.marks0
def NetN.backTo (N:NetN):Nat→List Bool
 | 0=>N.marks0
 | i+1=>N.bstep (N.st.length - 1 - i) (N.backTo i)
theorem back_backTo (N:NetN):∀(j i:Nat),i+j=N.st.length→N.back j (N.backTo i)=N.backTo (i+j)
 | 0,i,_=>rfl
 | j+1,i,h=>by
  have e:N.st.length - 1 - i=j:=by lia
  show N.back j (N.bstep j (N.backTo i))=_
  have:N.bstep j (N.backTo i)=N.backTo (i+1):=by
   show _=N.bstep (N.st.length - 1 - i) (N.backTo i)
   rw [e]
  rw [this,back_backTo N j (i+1) (by lia)]
  congr 1;lia
theorem NetN.used_backTo (N:NetN):N.backTo N.st.length=N.used:=by
 have:=back_backTo N N.st.length 0 (by lia)
 rw [Nat.zero_add] at this
 exact this.symm
theorem markOuts_len:∀(ou:List Nat) (m:List Bool),(markOuts ou m).length=m.length
 | [],_=>rfl
 | o::r,m=>by
  show (markOuts r (m.set o true)).length=_
  rw [markOuts_len r];simp
theorem NetN.bstep_len (N:NetN) (k:Nat) (m:List Bool):(N.bstep k m).length=m.length:=by unfold NetN.bstep;split <;> simp
theorem NetN.backTo_len (N:NetN):∀i,(N.backTo i).length=N.w+N.st.length
 | 0=>by show (markOuts _ _).length=_;rw [markOuts_len];simp
 | i+1=>by show (N.bstep _ _).length=_;rw [N.bstep_len,N.backTo_len i]
theorem getD_set_true (m:List Bool) (i j:Nat) (hi:i<m.length):(m.set i true).getD j false=true↔j=i∨m.getD j false=true:=by
 simp only [List.getD_eq_getElem?_getD,List.getElem?_set]
 by_cases e:i=j
 ·subst e;simp [hi]
 ·simp [e,Ne.symm e]
theorem markOuts_iff:∀(ou:List Nat) (m:List Bool),(∀o∈ou,o<m.length)→∀j,(markOuts ou m).getD j false=true↔j∈ou∨m.getD j false=true
 | [],m,_,j=>by simp [markOuts]
 | o::r,m,h,j=>by
  show (markOuts r (m.set o true)).getD j false=true↔_
  rw [markOuts_iff r _ (fun o' h'=>by rw [List.length_set];exact h o' (by simp [h'])) j,getD_set_true m o j (h o (by simp))]
  simp only [List.mem_cons]
  constructor
  ·rintro (h1|h1|h1)
   ·exact .inl (.inr h1)
   ·exact .inl (.inl h1)
   ·exact .inr h1
  ·rintro ((h1|h1)|h1)
   ·exact .inr (.inl h1)
   ·exact .inl h1
   ·exact .inr (.inr h1)
structure BInv (N:NetN) (i:Nat) (m:List Bool):Prop where
 len:m.length=N.w+N.st.length
 outs:∀o∈N.ou,m.getD o false=true
 sound:∀j,m.getD j false=true→N.Used j
 done:∀k p,N.st.length - i≤k→N.st[k]? = some p→m.getD (N.w+k) false=true→m.getD p.1 false=true∧m.getD p.2 false=true
theorem binv_zero {N:NetN}(o:N.Ok):BInv N 0 N.marks0:=by
 have hb:∀x∈N.ou,x<(List.replicate (N.w+N.st.length) false).length:=fun x hx=>by simpa using o.ob x hx
 refine⟨by show (markOuts _ _).length=_;rw [markOuts_len];simp,fun x hx=>?_,fun j hj=>?_,fun k p hk hp=>?_⟩
 ·exact (markOuts_iff _ _ hb x).mpr (.inl hx)
 ·rcases (markOuts_iff _ _ hb j).mp hj with h|h
  ·exact⟨j,h,.self⟩
  ·simp only [List.getD_eq_getElem?_getD,List.getElem?_replicate] at h
   split at h <;> cases h
 ·have:=(List.getElem?_eq_some_iff.mp hp).1;lia
theorem binv_succ {N:NetN}(o:N.Ok) {i:Nat}{m:List Bool}(hi:i<N.st.length) (b:BInv N i m):BInv N (i+1) (N.bstep (N.st.length - 1 - i) m):=by
 have hk:N.st.length - 1 - i<N.st.length:=by lia
 obtain ⟨p,hp⟩:∃p,N.st[N.st.length - 1 - i]? = some p:=⟨_,List.getElem?_eq_getElem hk⟩
 have hD:N.st.getD (N.st.length - 1 - i) (0,0)=p:=by rw [List.getD_eq_getElem?_getD,hp];rfl
 obtain ⟨l1,l2⟩:=o.s1 _ p hp
 have m1:p.1<m.length:=by rw [b.len];lia
 have m2:p.2<m.length:=by rw [b.len];lia
 unfold NetN.bstep
 rw [hD]
 split
 ·rename_i hm
  have it:∀j,((m.set p.1 true).set p.2 true).getD j false=true↔j=p.2∨j=p.1∨m.getD j false=true:=fun j=>by
   rw [getD_set_true _ _ _ (by rw [List.length_set];exact m2),getD_set_true _ _ _ m1]
  refine⟨by simp [b.len],fun x hx=>(it x).mpr (.inr (.inr (b.outs x hx))),fun j hj=>?_,fun k q hk' hq hmk=>?_⟩
  ·obtain ⟨r,hr,hu⟩:=b.sound _ hm
   rcases (it j).mp hj with rfl|rfl|h
   ·exact⟨r,hr,.r hu hp⟩
   ·exact⟨r,hr,.l hu hp⟩
   ·exact b.sound j h
  ·have hmk':m.getD (N.w+k) false=true:=by
    rcases (it _).mp hmk with h|h|h
    ·lia
    ·lia
    ·exact h
   by_cases e:k=N.st.length - 1 - i
   ·subst e
    rw [hp] at hq;cases hq
    exact⟨(it _).mpr (.inr (.inl rfl)),(it _).mpr (.inl rfl)⟩
   ·obtain ⟨d1,d2⟩:=b.done k q (by lia) hq hmk'
    exact⟨(it _).mpr (.inr (.inr d1)),(it _).mpr (.inr (.inr d2))⟩
 ·rename_i hm
  refine⟨b.len,b.outs,b.sound,fun k q hk' hq hmk=>?_⟩
  by_cases e:k=N.st.length - 1 - i
  ·subst e;exact absurd hmk hm
  ·exact b.done k q (by lia) hq hmk
theorem binv_to {N:NetN}(o:N.Ok):∀i,i≤N.st.length→BInv N i (N.backTo i)
 | 0,_=>binv_zero o
 | i+1,h=>binv_succ o (by assumption) (binv_to o i (by solve_by_elim (maxDepth:=3) [Nat.le_of_lt,Nat.lt_of_lt_of_le,Nat.le_trans,Nat.lt_of_le_of_lt]))
theorem used_of_under {N:NetN}{m:List Bool}(b:BInv N N.st.length m) {r:Nat}(hr:r∈N.ou) {j:Nat}(hu:N.Under r j):m.getD j false=true:=by
 induction hu with
 | self=>exact b.outs r hr
 | l _ hp ih=>exact (b.done _ _ (by simp) hp ih).1
 | r _ hp ih=>exact (b.done _ _ (by simp) hp ih).2
theorem NetN.Ok.used_iff {N:NetN}(o:N.Ok) (j:Nat):N.used.getD j false=true↔N.Used j:=by
 have b:=binv_to o N.st.length (Nat.le_refl _)
 rw [N.used_backTo] at b
 exact⟨b.sound j,fun ⟨r,hr,hu⟩=>used_of_under b hr hu⟩
theorem NetN.used_len (N:NetN):N.used.length=N.w+N.st.length:=by rw [←N.used_backTo];exact N.backTo_len _
end NM
namespace NM
end NM

namespace L2
open PySem NM
theorem iteNT {c A B:Prop} [Decidable c] (hc:¬c) (h:A):if (!decide c)=true then A else B:=by
 rw [decide_eq_false hc]
 exact iteT h
theorem Same.upd {H H':Hp}{l:Addr}{o:HO}(s:Same H H') (n:H l=Option.none):Same H (upd H' l o):=fun b u e=>by
 rw [upd_ne (ne_of_none e n)]
 exact s b u e
theorem Same.new {H:Hp}{l:Addr}{o:HO}(n:H l=Option.none):Same H (L2.upd H l o):=(Same.refl H).upd n
inductive StepsAt (H:Hp):List V→List (List Int)→Prop
 | nil:StepsAt H [] []
 | cons {r:Addr}{l:List Int}{rs:List V}{ls:List (List Int)}:H r=some (.tup (l.map V.int))→StepsAt H rs ls→StepsAt H (.ref r::rs) (l::ls)
theorem StepsAt.mono {H H':Hp}(s:Same H H') {rs:List V}{ls:List (List Int)}(h:StepsAt H rs ls):StepsAt H' rs ls:=by
 induction h with
 | nil=>exact .nil
 | cons h _ ih=>exact .cons (s _ _ h) ih
theorem StepsAt.length {H:Hp}{rs:List V}{ls:List (List Int)}(h:StepsAt H rs ls):rs.length=ls.length:=by
 induction h with
 | nil=>rfl
 | cons _ _ ih=>exact congrArg Nat.succ ih
theorem StepsAt.get {H:Hp}{rs:List V}{ls:List (List Int)}(s:StepsAt H rs ls) {i:Nat}{v:V}(e:rs[i]? = some v):∃r l,v=.ref r∧ls[i]? = some l∧H r=some (.tup (l.map V.int)):=by
 induction s generalizing i with
 | nil=>exact L2.ns_ e
 | cons h t ih=>cases i with
  | zero=>exact⟨_,_,(Option.some.inj e).symm,rfl,h⟩
  | succ i=>exact ih e
theorem StepsAt.get' {H:Hp}{rs:List V}{ls:List (List Int)}(s:StepsAt H rs ls) {i:Nat}{l:List Int}(e:ls[i]? = some l):∃r,rs[i]? = some (.ref r)∧H r=some (.tup (l.map V.int)):=by
 have hl:i<rs.length:=by rw [s.length];exact (List.getElem?_eq_some_iff.mp e).1
 refine L2.ob_eeaa (s.get (List.getElem?_eq_getElem hl)) fun r l' e1 e2 h=>?_
 rw [e] at e2;obtain rfl:=Option.some.inj e2
 exact⟨r,by rw [List.getElem?_eq_getElem hl,e1],h⟩
theorem StepsAt.snoc {H:Hp}{r:Addr}{l:List Int}{rs:List V}{ls:List (List Int)}(s:StepsAt H rs ls) (h':H r=some (.tup (l.map V.int))):StepsAt H (rs++[.ref r]) (ls++[l]):=by
 induction s with
 | nil=>exact .cons h' .nil
 | cons h _ ih=>exact .cons h ih
theorem StepsAt.append {H:Hp}{rs qs:List V}{ls ms:List (List Int)}(s:StepsAt H rs ls) (h':StepsAt H qs ms):StepsAt H (rs++qs) (ls++ms):=by
 induction s with
 | nil=>exact h'
 | cons h _ ih=>exact .cons h ih
theorem StepsAt.take {H:Hp}{rs:List V}{ls:List (List Int)}(n:Nat) (s:StepsAt H rs ls):StepsAt H (rs.take n) (ls.take n):=by
 induction s generalizing n with
 | nil=>cases n <;> exact .nil
 | cons h t ih=>cases n with
  | zero=>exact .nil
  | succ n=>exact .cons h (ih n)
theorem StepsAt.drop {H:Hp}{rs:List V}{ls:List (List Int)}(n:Nat) (s:StepsAt H rs ls):StepsAt H (rs.drop n) (ls.drop n):=by
 induction s generalizing n with
 | nil=>cases n <;> exact .nil
 | cons h t ih=>cases n with
  | zero=>exact .cons h t
  | succ n=>exact ih n
structure NetAt (H:Hp) (a:Addr) (wide:Int) (steps:List (List Int)) (outs:List Int) (sa oa:Addr) (rs:List V):Prop where
 net:H a=some (.tup [.int wide,.ref sa,.ref oa])
 sts:H sa=some (.lst rs)
 st:StepsAt H rs steps
 ots:H oa=some (.lst (outs.map V.int))
theorem NetAt.mono {H H':Hp}{a sa oa:Addr}{wide:Int}{steps:List (List Int)}{outs:List Int}{rs:List V}(n:NetAt H a wide steps outs sa oa rs) (s:Same H H'):NetAt H' a wide steps outs sa oa rs :=
 ⟨s _ _ n.net,s _ _ n.sts,n.st.mono s,s _ _ n.ots⟩
inductive spWhole  (vs:List V) (H:Hp) (Q:VK) (_e3:XK):Prop
 | mk:∀i:Int,(vs=[.int i])→(Q (.bl true) H)→spWhole vs H Q _e3
inductive spWithin  (vs:List V) (H:Hp) (Q:VK) (_e3:XK):Prop
 | mk:∀v lo hi:Int,(vs=[.int v,.int lo,.int hi])→(Q (.bl (decide (lo≤v) && decide (v≤hi))) H)→spWithin vs H Q _e3
def nodeB (v ahead:Int):Bool:=decide (0≤v) && decide (v<ahead)
inductive spNode  (vs:List V) (H:Hp) (Q:VK) (_e3:XK):Prop
 | mk:∀v ahead:Int,(vs=[.int v,.int ahead])→(Q (.bl (nodeB v ahead)) H)→spNode vs H Q _e3
inductive spStep  (vs:List V) (H:Hp) (Q:VK) (_e3:XK):Prop
 | mk:∀(r:Addr) (l:List Int) (ahead:Int),(vs=[.ref r,.int ahead])→(H r=some (.tup (l.map V.int)))→(Q (.bl (stepOk ahead l)) H)→spStep vs H Q _e3
inductive spWide (CB:Addr) (vs:List V) (H:Hp) (Q:VK) (E:XK):Prop
 | mk:∀i:Int,(vs=[.int i])→(((1≤i∧i≤64)→Q .non H))→((¬(1≤i∧i≤64)→E (.ref CB) none H))→spWide CB vs H Q E
inductive spSteps (CB:Addr) (vs:List V) (H:Hp) (Q:VK) (E:XK):Prop
 | mk:∀(i:Int) (sa:Addr) (rs:List V) (ls:List (List Int)),(vs=[.int i,.ref sa])→(H sa=some (.lst rs))→(StepsAt H rs ls)→(∀H',Same H H'→((ls.length≤500∧stepsOk i ls)→Q .non H')∧(¬(ls.length≤500∧stepsOk i ls)→E (.ref CB) none H'))→spSteps CB vs H Q E
inductive spOuts (CB:Addr) (vs:List V) (H:Hp) (Q:VK) (E:XK):Prop
 | mk:∀(i:Int) (sa oa:Addr) (rs:List V) (outs:List Int),(vs=[.int i,.ref sa,.ref oa])→(outs.length≤10000)→(H sa=some (.lst rs))→(H oa=some (.lst (outs.map V.int)))→(∀H',Same H H'→(((outs.length:Int)=i∧outsOk (i+rs.length) outs)→Q .non H')∧(¬((outs.length:Int)=i∧outsOk (i+rs.length) outs)→E (.ref CB) none H'))→spOuts CB vs H Q E
inductive spLook (CB:Addr) (vs:List V) (H:Hp) (Q:VK) (E:XK):Prop
 | mk:∀(a sa oa:Addr) (rs:List V) (wide:Int) (steps:List (List Int)) (outs:List Int),(vs=[.ref a])→(outs.length≤10000)→(NetAt H a wide steps outs sa oa rs)→(∀H',Same H H'→(Good wide steps outs→Q .non H')∧(¬Good wide steps outs→E (.ref CB) none H'))→spLook CB vs H Q E
def tellBls (f:NetN→List Bool):NetN→Hp→VK→Prop:=fun N H Q=>∀l,H l=some (.lst ((f N).map V.bl))→Q (.ref l) H
inductive spNetOk (R:NetN→Hp→VK→Prop) (vs:List V) (H:Hp) (Q:VK) (_e3:XK):Prop
 | mk:∀(a sa oa:Addr) (rs:List V) (N:NetN),(vs=[.ref a])→(NetAt H a N.w N.steps N.outs sa oa rs)→(N.Ok)→(∀H',Same H H'→R N H' Q)→spNetOk R vs H Q _e3
end L2
namespace L2
open PySem NM PyProof.Rows
theorem fA (p:Str) (hp:p.length≤1000):(Str.empty++p).length≤sizeLine:=by
 rw [strLen_append,sizeLine_eq];show 0+p.length≤_;lia
theorem fI {i:Int}(h:i.natAbs.log2<1920):(Str.ofString (toString i)).length≤1921:=by
 have e:=int_text_length_le (k:=1920) (by decide) h
 rw [PySem.ofString_length];lia
theorem fB (p:Str) (hp:p.length≤1000) {i:Int}(h:i.natAbs.log2<1920):(Str.empty++p++Str.ofString (toString i)).length≤sizeLine:=by
 have:=fI h
 rw [strLen_append,strLen_append,sizeLine_eq];show 0+p.length+_≤_;lia
theorem fC (p q:Str) (hp:p.length≤1000) (hq:q.length≤1000) {i:Int}(h:i.natAbs.log2<1920):(Str.empty++p++Str.ofString (toString i)++q).length≤sizeLine:=by
 have:=fI h
 rw [strLen_append,strLen_append,strLen_append,sizeLine_eq];show 0+p.length+_+_≤_;lia
theorem log2_small {i:Nat}(h:i≤16777216):((i:Int).natAbs).log2<1920:=by
 rw [Int.natAbs_natCast]
 have h1:i.log2≤i:=Nat.log2_le_self i
 by_cases hi:i=0
 ·subst hi;decide
 ·exact Nat.lt_of_lt_of_le (Nat.log2_lt hi |>.mpr (Nat.lt_of_le_of_lt h (by decide:16777216<2 ^ 25))) (by decide)
theorem iteB {b:Bool}{A B:Prop}(h1:b=true→A) (h2:b=false→B):if b=true then A else B:=by
 cases b with
 | true=>exact iteT (h1 rfl)
 | false=>exact iteF (h2 rfl)
theorem iteN {b:Bool}{A B:Prop}(h1:b=false→A) (h2:b=true→B):if (!b)=true then A else B:=by
 cases b with
 | true=>exact iteF (h2 rfl)
 | false=>exact iteT (h1 rfl)
end L2
namespace L2
open PySem NM PyProof.Rows
theorem atI_ints {xs:List Int}{j:Nat}(h:j<xs.length):atI (xs.map V.int) (j:Int)=some (.int (xs.getD j 0)) :=
 atI_nat (by rw [List.getElem?_map,List.getElem?_eq_getElem h,List.getD_eq_getElem?_getD,List.getElem?_eq_getElem h];rfl)
theorem atI_bls {xs:List Bool}{j:Nat}(h:j<xs.length):atI (xs.map V.bl) (j:Int)=some (.bl (xs.getD j false)) :=
 atI_nat (by rw [List.getElem?_map,List.getElem?_eq_getElem h,List.getD_eq_getElem?_getD,List.getElem?_eq_getElem h];rfl)
theorem ixN_nat {n j:Nat}(h:j<n):ixN n (j:Int)=some j:=by
 unfold ixN
 rw [if_pos (by exact Int.natCast_nonneg _),if_pos (by lia)]
 simp
theorem rep_one {α:Type}(x:α):∀n:Nat,(List.replicate n [x]).flatten=List.replicate n x
 | 0=>rfl
 | n+1=>by rw [List.replicate_succ,List.flatten_cons,rep_one x n];rfl
theorem rep_bl (n:Nat):(List.replicate n [V.bl false]).flatten=(List.replicate n false).map V.bl:=by rw [rep_one,List.map_replicate]
theorem fits {n:Nat}(h:n≤10000):n≤sizeLine:=by rw [sizeLine_eq];lia
theorem fitsL {n:Nat}(h:n≤10000):n<sizeLine:=by rw [sizeLine_eq];lia
theorem NetN.Ok.steps_get {N:NetN}{H:Hp}{rs:List V}(st:StepsAt H rs N.steps) {i:Nat}{x:V}(hx:rs[i]? = some x):∃r p,x=.ref r∧N.st[i]? = some p∧H r=some (.tup [.int p.1,.int p.2]):=by
 refine L2.ob_eeaa (st.get hx) fun r l e hl hr=>?_
 unfold NetN.steps at hl
 rw [List.getElem?_map] at hl
 refine L2.ob_ea (Option.map_eq_some_iff.mp hl) fun p hp e_2=>?_;subst e_2
 exact⟨r,p,e,hp,hr⟩
theorem steps_len {N:NetN}:N.steps.length=N.st.length:=by unfold NetN.steps;simp
theorem outs_len {N:NetN}:N.outs.length=N.ou.length:=by unfold NetN.outs;simp
theorem outs_get {N:NetN}{i:Nat}{x:V}(hx:(N.outs.map V.int)[i]? = some x):∃o,N.ou[i]? = some o∧x=.int (o:Nat):=by
 unfold NetN.outs at hx
 rw [List.map_map,List.getElem?_map] at hx
 refine L2.ob_ea (Option.map_eq_some_iff.mp hx) fun o ho e_2=>?_;subst e_2
 exact⟨o,ho,rfl⟩
end L2
namespace L2
end L2
namespace L2
open PySem PyProof.Rows
theorem comp_list {K:PySem.W.Frag}{a:Addr}{xs:List V}{js:List Nat}{te:TE}{σ:St}{H:Hp}{Fin:List V→Hp→Prop}(Pv:Nat→List V→Hp→Prop) (h0:Pv 0 [] H) (hl:∀i ys H,i≤xs.length→Pv i ys H→SqL K H a xs) (hz:∀i ys H,i<xs.length→Pv i ys H→ys.length<sizeLine)
  (hs:∀i x ys H (T:V→Hp→Prop),xs[i]? = some x→Pv i ys H→(∀y H2,Pv (i+1) (ys++[y]) H2→T y H2)→te (compSt (some x) σ js) H T) (hd:∀ys H,Pv xs.length ys H→Fin ys H):compGo (Itl K a) js none te σ H Fin:=by
 refine⟨fun i m ys H=>m=xs.length - i∧i≤xs.length∧Pv i ys H,⟨xs.length,by simp,Nat.zero_le _,h0⟩,?_⟩
 rintro i m ys H ⟨rfl,hi,p⟩
 have q:=hl i ys H hi p
 by_cases hlt:i<xs.length
 ·refine .inr ⟨⟨xs,xs[i],q,by simp [hlt]⟩,hz i ys H hlt p,fun x H' y=>?_⟩
  obtain ⟨e,y⟩:=y
  subst e
  unfold tests
  simp only [if_true]
  exact hs i x ys _ _ (y xs q) p fun y H2 p2=>⟨xs.length - (i+1),by lia,rfl,hlt,p2⟩
 ·have e:i=xs.length:=by lia
  subst e
  exact .inl ⟨⟨xs,q,Nat.le_refl _⟩,hd ys H p⟩
theorem comp_range {lo:Int}{n:Nat}{js:List Nat}{te:TE}{σ:St}{H:Hp}{Fin:List V→Hp→Prop}(Pv:Nat→List V→Hp→Prop) (h0:Pv 0 [] H) (hz:∀i ys H,i<n→Pv i ys H→ys.length<sizeLine)
  (hs:∀i ys H (T:V→Hp→Prop),i<n→Pv i ys H→(∀y H2,Pv (i+1) (ys++[y]) H2→T y H2)→te (compSt (some (.int (lo+i))) σ js) H T) (hd:∀ys H,Pv n ys H→Fin ys H):compGo (Itr lo n) js none te σ H Fin:=by
 refine⟨fun i m ys H=>m=n - i∧i≤n∧Pv i ys H,⟨n,by simp,Nat.zero_le _,h0⟩,?_⟩
 rintro i m ys H ⟨rfl,hi,p⟩
 by_cases hlt:i<n
 ·refine .inr ⟨hlt,hz i ys H hlt p,fun x H' y=>?_⟩
  obtain ⟨e,y⟩:=y
  subst e y
  unfold tests
  simp only [if_true]
  exact hs i ys _ _ hlt p fun y H2 p2=>⟨n - (i+1),by lia,rfl,hlt,p2⟩
 ·have e:i=n:=by lia
  subst e
  exact .inl ⟨Nat.le_refl _,hd ys H p⟩
end L2

namespace L2
open PySem PyProof.Rows
abbrev rLenS:=r_call_len_seq
theorem call_lenS {X:Cx}:CallR X (.builtin "len") (rLenS X.K):=call_len_seq
def nodupS:List Str→Bool
 | []=>true
 | a::r=>!(r.contains a) && nodupS r
theorem nodupS_of:∀{l:List Str},nodupS l=true→l.Nodup
 | [],_=>List.nodup_nil
 | a::r,h=>by
  unfold nodupS at h
  rw [Bool.and_eq_true] at h
  refine List.nodup_cons.mpr ⟨fun z=>?_,nodupS_of h.2⟩
  have:r.contains a=true:=List.contains_iff_mem.mpr z
  rw [this] at h
  exact absurd h.1 (by decide)
end L2
namespace L2
open PySem NM PyProof.Rows
inductive spCell (K:PySem.W.Frag) (vs:List V) (H:Hp) (Q:VK) (_e3:XK):Prop
 | mk:∀(a:Addr) (ns:List Int) (k:Int),(vs=[.ref a,.int k])→(SqL K H a (ns.map V.int))→(∀i:Int,Q (.int i) H)→spCell K vs H Q _e3
inductive spMix (K:PySem.W.Frag) (vs:List V) (H:Hp) (Q:VK) (_e3:XK):Prop
 | mk:∀(a:Addr) (ns:List Int) (k:Int),(vs=[.ref a,.int k])→(SqL K H a (ns.map V.int))→(∀i:Int,0≤i→Q (.int i) H)→spMix K vs H Q _e3
theorem mod_at {ns:List Int}{k:Int}(h:ns≠[]):∃z,atI (ns.map V.int) (k % (((ns.map V.int).length:Nat):Int))=some (.int z):=by
 have hp:=pos_of_ne h
 rw [List.length_map]
 have h0:=Int.emod_nonneg k (show ((ns.length:Nat):Int)≠0 by lia)
 have h1:=Int.emod_lt_of_pos k (show 0<((ns.length:Nat):Int) by lia)
 have e:k % ((ns.length:Nat):Int)=(((k % ((ns.length:Nat):Int)).toNat:Nat):Int):=by lia
 rw [e]
 exact⟨_,atI_ints (by lia)⟩
end L2

namespace L2
theorem StepsAt.keep {H H':Hp}{rs:List V}{ls:List (List Int)}(s:StepsAt H rs ls) (k:∀r u,H r=some (.tup u)→H' r=some (.tup u)):StepsAt H' rs ls:=by
 induction s with
 | nil=>exact .nil
 | cons h _ ih=>exact .cons (k _ _ h) ih
end L2
namespace L2
open PySem NM PyProof.Rows
end L2
namespace L2
open PySem NM PyProof.Rows
theorem boot_ValueError:bootBuiltins "ValueError" = some (.type "ValueError"):=by decide +kernel
theorem iteDF {c A B:Prop} [Decidable c] (hc:¬c) (h:B):if decide c=true then A else B:=by
 rw [decide_eq_false hc];exact iteF h
theorem iteDT {c A B:Prop} [Decidable c] (hc:c) (h:A):if decide c=true then A else B:=by
 rw [decide_eq_true hc];exact iteT h
end L2
namespace L2
open PySem NM PyProof.Rows
theorem new_at {H:Hp}{t x:Addr}{o u:HO}(hn:H t=Option.none) (h:H x=some u):L2.upd H t o x=some u:=(Same.new hn) _ _ h
theorem same_new {H G:Hp}{t:Addr}{o:HO}(s:Same H G) (hn:G t=Option.none):Same H (L2.upd G t o):=s.trans (Same.new hn)
def cutL {α:Type}(xs:List α) (lo hi:Option Int):List α:=(xs.drop (HT.sIx xs.length 0 lo)).take (HT.sIx xs.length xs.length hi - HT.sIx xs.length 0 lo)
theorem cut_map {xs:List Int}{lo hi:Option Int}:cutV (xs.map V.int) lo hi=(cutL xs lo hi).map V.int:=by
 unfold cutV cutL
 rw [List.length_map,←List.map_drop,←List.map_take]
theorem StepsAt.cut {H:Hp}{rs:List V}{ls:List (List Int)}(s:StepsAt H rs ls) (lo hi:Option Int):StepsAt H (cutV rs lo hi) (cutL ls lo hi):=by
 unfold cutV cutL
 rw [s.length]
 exact (s.drop _).take _
theorem pick4 {α:Type}{a b c d:α}{i:Int}(h0:0≤i) (h1:i<4) {R:α→Prop}(ha:R a) (hb:R b) (hc:R c) (hd:R d):∃z,atI [a,b,c,d] i=some z∧R z:=by
 have:i=0∨i=1∨i=2∨i=3:=by lia
 rcases this with rfl|rfl|rfl|rfl
 ·exact⟨a,rfl,ha⟩
 ·exact⟨b,rfl,hb⟩
 ·exact⟨c,rfl,hc⟩
 ·exact⟨d,rfl,hd⟩
theorem pick3 {α:Type}{a b c:α}{i:Int}(h0:0≤i) (h1:i<3) {R:α→Prop}(ha:R a) (hb:R b) (hc:R c):∃z,atI [a,b,c] i=some z∧R z:=by
 have:i=0∨i=1∨i=2:=by lia
 rcases this with rfl|rfl|rfl
 ·exact⟨a,rfl,ha⟩
 ·exact⟨b,rfl,hb⟩
 ·exact⟨c,rfl,hc⟩
theorem netAt_new {H:Hp}{n sa oa:Addr}{wide:Int}{steps:List (List Int)}{outs:List Int}{rs:List V}(hn:H n=Option.none) (h1:H sa=some (.lst rs)) (h2:StepsAt H rs steps) (h3:H oa=some (.lst (outs.map V.int))) :
  NetAt (L2.upd H n (.tup [.int wide,.ref sa,.ref oa])) n wide steps outs sa oa rs:=⟨upd_same,new_at hn h1,h2.mono (Same.new hn),new_at hn h3⟩
end L2

namespace L2
open PySem NM PyProof.Rows
theorem pairI_inj:∀{a b:List (Nat × Nat)},a.map pairI=b.map pairI→a=b
 | [],[],_=>rfl
 | [],_::_,h=>by simp at h
 | _::_,[],h=>by simp at h
 | p::r,q::t,h=>by
  rw [List.map_cons,List.map_cons] at h
  obtain ⟨h1,h2⟩:=List.cons.inj h
  unfold pairI at h1
  simp only [List.cons.injEq,and_true] at h1
  have e1:p.1=q.1:=by lia
  have e2:p.2=q.2:=by lia
  rw [pairI_inj h2,show p=q from Prod.ext e1 e2]
theorem ofNat_inj:∀{a b:List Nat},a.map Int.ofNat=b.map Int.ofNat→a=b
 | [],[],_=>rfl
 | [],_::_,h=>by simp at h
 | _::_,[],h=>by simp at h
 | p::r,q::t,h=>by
  rw [List.map_cons,List.map_cons] at h
  obtain ⟨h1,h2⟩:=List.cons.inj h
  rw [ofNat_inj h2,show p=q from Int.ofNat.inj h1]
theorem net_inj {N M:NetN}(h1:(N.w:Int)=M.w) (h2:N.steps=M.steps) (h3:N.outs=M.outs):N=M:=by
 obtain ⟨w,st,ou⟩:=N
 obtain ⟨w',st',ou'⟩:=M
 have e1:w=w':=by
  have:(w:Int)=(w':Int):=h1
  lia
 have e2:st=st':=pairI_inj h2
 have e3:ou=ou':=ofNat_inj h3
 rw [e1,e2,e3]
section
variable {N:NetN}{H:Hp}{Q:VK}
end
theorem outs_nats (N:NetN):N.outs.map V.int=N.ou.map fun u=>V.int (u:Nat):=by unfold NetN.outs;rw [List.map_map];rfl
def dStep (l:List Int):Dt:=.tup (l.map Dt.int)
theorem deeps_steps {K:PySem.W.Frag}{H:Hp}:∀{rs:List V}{ls:List (List Int)},StepsAt H rs ls→Deeps K H (ls.map dStep) rs
 | _,_,.nil=>by simp only [List.map_nil,Deeps]
 | _,_,.cons (l:=l) h t=>by
  simp only [List.map_cons,Deeps]
  exact⟨_,_,rfl,deep_tup (SqT.of h) (deeps_ints l),deeps_steps t⟩
theorem getD_some {α:Type}{xs:List α}{i:Nat}(d:α) (h:i<xs.length):xs[i]? = some (xs.getD i d):=by
 rw [List.getD_eq_getElem?_getD,List.getElem?_eq_getElem h];rfl
end L2

namespace L2
open PySem PySem.Spec PyProof.Rows
mutual
def Dt.eqB:Dt→Dt→Bool
 | .non,.non=>true
 | .bl a,.bl b=>a==b
 | .bl a,.int i=>(if a then 1 else 0)==i
 | .int i,.bl b=>i==(if b then 1 else 0)
 | .int i,.int j=>i==j
 | .str x,.str y=>x==y
 | .lst a,.lst b=>Dt.eqBs a b
 | .tup a,.tup b=>Dt.eqBs a b
 | _,_=>false
def Dt.eqBs:List Dt→List Dt→Bool
 | [],[]=>true
 | a::r,b::t=>Dt.eqB a b && Dt.eqBs r t
 | _,_=>false
end
theorem eqBs_len:∀{ds es:List Dt},ds.length≠es.length→Dt.eqBs ds es=false
 | [],[],h=>absurd rfl h
 | [],_::_,_=>rfl
 | _::_,[],_=>rfl
 | a::r,b::t,h=>by
  show (Dt.eqB a b && Dt.eqBs r t)=false
  rw [eqBs_len (ds:=r) (es:=t) (fun z=>h (congrArg Nat.succ z))]
  exact Bool.and_false _
theorem eqBs_range:∀{ds es:List Dt},ds.length=es.length→((List.range ds.length).all fun j=>(ds.getD j .non).eqB (es.getD j .non))=Dt.eqBs ds es
 | [],[],_=>rfl
 | [],_::_,h=>by simp at h
 | _::_,[],h=>by simp at h
 | a::r,b::t,h=>by
  have ih:=eqBs_range (ds:=r) (es:=t) (by simpa using h)
  show _=(Dt.eqB a b && Dt.eqBs r t)
  rw [List.length_cons,List.range_succ_eq_map,List.all_cons,List.all_map,←ih]
  rfl
mutual
theorem eqB_refl:∀d:Dt,d.eqB d=true
 | .non=>rfl
 | .bl b=>beq_self_eq_true b
 | .int i=>beq_self_eq_true i
 | .str x=>beq_self_eq_true x
 | .lst ds=>eqBs_refl ds
 | .tup ds=>eqBs_refl ds
theorem eqBs_refl:∀ds:List Dt,Dt.eqBs ds ds=true
 | []=>rfl
 | d::r=>by
  show (Dt.eqB d d && Dt.eqBs r r)=true
  rw [eqB_refl d,eqBs_refl r];rfl
end
theorem deeps_len {K:PySem.W.Frag}{H:Hp}:∀{ds:List Dt}{xs:List V},Deeps K H ds xs→ds.length=xs.length
 | [],xs,h=>by
  have h:xs=[]:=h
  subst h;rfl
 | d::ds,xs,h=>by
  obtain ⟨x,r,rfl,_,h2⟩:∃x r,xs=x::r∧Deep K H d x∧Deeps K H ds r:=h
  simp [deeps_len h2]
section
variable {X:Cx}{pins:List (Addr × Obj)}{σ:St}{H:Hp}{s:Shared}
inductive Vw (X:Cx) (H:Hp) (s:Shared):Dt→V→Value→Prop
 | non:Vw X H s .non .non .none
 | bl (b:Bool):Vw X H s (.bl b) (.bl b) (.bool b)
 | int (i:Int) (t:Tok):Vw X H s (.int i) (.int i) (.int i t)
 | str (x:Str) (t:Tok):Vw X H s (.str x) (.str x) (.str x t)
 | lst {ds:List Dt}{a:Addr}{xs:List V}{its:List Value}(q:SqL X.K H a xs) (d:Deeps X.K H ds xs) (r:Vals xs its) (p:s.heap.IsList a its.toArray):Vw X H s (.lst ds) (.ref a) (.ref a)
 | tup {ds:List Dt}{a:Addr}{xs:List V}{its:List Value}(q:SqT X.K H a xs) (d:Deeps X.K H ds xs) (r:Vals xs its) (p:s.heap.IsTuple a its.toArray):Vw X H s (.tup ds) (.ref a) (.ref a)
theorem vw_of (I : Inv X pins σ H s) : ∀ {d : Dt} {v : V} {u : Value}, Deep X.K H d v → RelV v u → Vw X H s d v u := by
  intro d v u h r
  cases d with
  | non => have h : v = .non := h
           subst h; cases r; exact .non
  | bl b => have h : v = .bl b := h
            subst h; cases r; exact .bl b
  | int i => have h : v = .int i := h
             subst h; obtain ⟨t, rfl⟩ := r; exact .int i t
  | str x => have h : v = .str x := h
             subst h; obtain ⟨t, rfl⟩ := r; exact .str x t
  | lst ds =>
    obtain ⟨a, xs, rfl, q, d⟩ : ∃ a xs, v = .ref a ∧ SqL X.K H a xs ∧ Deeps X.K H ds xs := h
    cases r
    obtain ⟨its, rv, p, _⟩ := I.list q
    exact .lst q d rv p.isList
  | tup ds =>
    obtain ⟨a, xs, rfl, q, d⟩ : ∃ a xs, v = .ref a ∧ SqT X.K H a xs ∧ Deeps X.K H ds xs := h
    cases r
    obtain ⟨its, rv, p, _⟩ := I.tuple q
    exact .tup q d rv p
mutual
theorem deep_inj (I:Inv X pins σ H s):∀(d e:Dt) {v:V},Deep X.K H d v→Deep X.K H e v→d=e
 | .lst ds,e,v,h1,h2=>by
  obtain ⟨a,xs,rfl,q,d1⟩:∃a xs,v=.ref a∧SqL X.K H a xs∧Deeps X.K H ds xs:=h1
  cases e with
  | lst es =>
   obtain ⟨b,ys,e1,q2,d2⟩:∃a' xs,V.ref a=.ref a'∧SqL X.K H a' xs∧Deeps X.K H es xs:=h2
   cases e1
   obtain rfl:=I.list_inj q q2
   rw [deeps_inj I ds es d1 d2]
  | tup es =>
   obtain ⟨b,ys,e1,q2,d2⟩:∃a' xs,V.ref a=.ref a'∧SqT X.K H a' xs∧Deeps X.K H es xs:=h2
   cases e1
   obtain ⟨_,_,p,_⟩:=I.list q
   obtain ⟨_,_,p2,_⟩:=I.tuple q2
   exact absurd rfl (SeqAt.ne_of_list_tuple p.isList p2)
  | _=>cases h2
 | .tup ds,e,v,h1,h2=>by
  obtain ⟨a,xs,rfl,q,d1⟩:∃a xs,v=.ref a∧SqT X.K H a xs∧Deeps X.K H ds xs:=h1
  cases e with
  | tup es =>
   obtain ⟨b,ys,e1,q2,d2⟩:∃a' xs,V.ref a=.ref a'∧SqT X.K H a' xs∧Deeps X.K H es xs:=h2
   cases e1
   obtain rfl:=I.tuple_inj q q2
   rw [deeps_inj I ds es d1 d2]
  | lst es =>
   obtain ⟨b,ys,e1,q2,d2⟩:∃a' xs,V.ref a=.ref a'∧SqL X.K H a' xs∧Deeps X.K H es xs:=h2
   cases e1
   obtain ⟨_,_,p,_⟩:=I.list q2
   obtain ⟨_,_,p2,_⟩:=I.tuple q
   exact absurd rfl (SeqAt.ne_of_list_tuple p.isList p2)
  | _=>cases h2
 | .non,e,v,h1,h2=>by
  cases h1
  cases e with
  | non=>rfl
  | lst _=>obtain ⟨_,_,z,_⟩:=h2;cases z
  | tup _=>obtain ⟨_,_,z,_⟩:=h2;cases z
  | _=>cases h2
 | .bl b,e,v,h1,h2=>by
  cases h1
  cases e with
  | bl _=>cases h2;rfl
  | lst _=>obtain ⟨_,_,z,_⟩:=h2;cases z
  | tup _=>obtain ⟨_,_,z,_⟩:=h2;cases z
  | _=>cases h2
 | .int i,e,v,h1,h2=>by
  cases h1
  cases e with
  | int _=>cases h2;rfl
  | lst _=>obtain ⟨_,_,z,_⟩:=h2;cases z
  | tup _=>obtain ⟨_,_,z,_⟩:=h2;cases z
  | _=>cases h2
 | .str x,e,v,h1,h2=>by
  cases h1
  cases e with
  | str _=>cases h2;rfl
  | lst _=>obtain ⟨_,_,z,_⟩:=h2;cases z
  | tup _=>obtain ⟨_,_,z,_⟩:=h2;cases z
  | _=>cases h2
theorem deeps_inj (I:Inv X pins σ H s):∀(ds es:List Dt) {xs:List V},Deeps X.K H ds xs→Deeps X.K H es xs→ds=es
 | [],[],_,_,_=>rfl
 | [],e::es,xs,h1,h2=>by
  cases h1
  obtain ⟨_,_,z,_⟩:=h2;cases z
 | d::ds,[],xs,h1,h2=>by
  cases h2
  obtain ⟨_,_,z,_⟩:=h1;cases z
 | d::ds,e::es,xs,h1,h2=>by
  obtain ⟨x,r,rfl,a1,a2⟩:∃x r,xs=x::r∧Deep X.K H d x∧Deeps X.K H ds r:=h1
  obtain ⟨x',r',z,b1,b2⟩:∃x' r',x::r=x'::r'∧Deep X.K H e x'∧Deeps X.K H es r':=h2
  cases z
  rw [deep_inj I d e a1 b1,deeps_inj I ds es a2 b2]
end
def eJ (ds es:List Dt):Nat→Bool:=fun j=>(ds.getD j .non).eqB (es.getD j .non)
theorem all_lists {ds es:List Dt}{us ws:List Value}(h1:ds.length=us.length) (h2:es.length=ws.length) (h:us.toArray.size=ws.toArray.size):((List.range us.toArray.size).all (eJ ds es))=Dt.eqBs ds es:=by
 rw [List.size_toArray,List.size_toArray] at h
 rw [List.size_toArray,←h1]
 exact eqBs_range (by lia)
theorem all_tups {ds es:List Dt}{us ws:List Value}(h1:ds.length=us.length) (h2:es.length=ws.length):((List.range (min us.toArray.size ws.toArray.size)).all (eJ ds es) && us.toArray.size==ws.toArray.size)=Dt.eqBs ds es:=by
 rw [List.size_toArray,List.size_toArray]
 by_cases h:us.length=ws.length
 ·rw [h,Nat.min_self,beq_self_eq_true,Bool.and_true,←h2,←eqBs_range (ds:=ds) (es:=es) (by lia),show es.length=ds.length by lia]
  rfl
 ·rw [beq_eq_false_iff_ne.mpr h,Bool.and_false,eqBs_len (by lia)]
mutual
theorem eq_at (I:Inv X pins σ H s):∀(d e:Dt) {v z:V}{u1 u2:Value}{A:Around},Deep X.K H d v→Deep X.K H e z→RelV v u1→RelV z u2→A.units+d.dp<cLine→SeqAt.EqAt A s u1 u2 (d.eqB e)
 | .lst ds,e,v,z,u1,u2,A,h1,h2,r1,r2,hu=>by
  have w2:=vw_of I h2 r2
  have w1:=vw_of I h1 r1
  cases w1 with|lst q d1 rv p =>
  have hu':A.units+(1+Dt.dps ds)<cLine:=hu
  cases w2 with
  | non=>exact .list_none p (by lia)
  | bl b=>exact .list_bool b p (by lia)
  | int i t=>exact .list_int i t p (by lia)
  | str x t=>exact .list_str x t p (by lia)
  | tup q2 d2 rv2 p2=>exact .list_tuple p p2 (by lia)
  | @lst es b ys its2 q2 d2 rv2 p2 =>
   rename_i a xs its
   by_cases hab:a=b
   ·subst hab
    have:=deep_inj I (.lst ds) (.lst es) h1 h2
    rw [this,eqB_refl]
    exact .same _
   ·refine .of_refs hab ?_
    show SeqAt.RcAt _ _ _ _ (Dt.eqBs ds es)
    have l1:ds.length=its.length:=(deeps_len d1).trans rv.length
    have l2:es.length=its2.length:=(deeps_len d2).trans rv2.length
    by_cases hl:its.toArray.size=its2.toArray.size
    ·rw [←all_lists l1 l2 hl]
     exact .lists p p2 hl (by lia) fun j g1 g2=>eq_ats I ds es d1 d2 rv rv2 (A:=A.in1) (by rw [in1_units];lia) j _ _ (by simpa using g1) (by simpa using g2)
    ·rw [eqBs_len (by rw [l1,l2];simpa using hl)]
     exact .lists_lengths p p2 (by simpa using hl) (by lia)
 | .tup ds,e,v,z,u1,u2,A,h1,h2,r1,r2,hu=>by
  have w2:=vw_of I h2 r2
  have w1:=vw_of I h1 r1
  cases w1 with|tup q d1 rv p =>
  have hu':A.units+(1+Dt.dps ds)<cLine:=hu
  cases w2 with
  | non=>exact .tuple_none p (by lia)
  | bl b=>exact .tuple_bool b p (by lia)
  | int i t=>exact .tuple_int i t p (by lia)
  | str x t=>exact .tuple_str x t p (by lia)
  | lst q2 d2 rv2 p2=>exact .tuple_list p p2 (by lia)
  | @tup es b ys its2 q2 d2 rv2 p2 =>
   rename_i a xs its
   by_cases hab:a=b
   ·subst hab
    have:=deep_inj I (.tup ds) (.tup es) h1 h2
    rw [this,eqB_refl]
    exact .same _
   ·refine .of_refs hab ?_
    show SeqAt.RcAt _ _ _ _ (Dt.eqBs ds es)
    have l1:ds.length=its.length:=(deeps_len d1).trans rv.length
    have l2:es.length=its2.length:=(deeps_len d2).trans rv2.length
    rw [←all_tups l1 l2]
    exact .tuples p p2 (by lia) fun j g1 g2=>eq_ats I ds es d1 d2 rv rv2 (A:=A.in1) (by rw [in1_units];lia) j _ _ (by simpa using g1) (by simpa using g2)
 | .non,e,v,z,u1,u2,A,h1,h2,r1,r2,hu=>by
  have w1:=vw_of I h1 r1
  cases w1
  have hu':A.units<cLine:=by simpa only [Dt.dp,Nat.add_zero] using hu
  cases vw_of I h2 r2 with
  | non=>exact .same _
  | bl b=>exact .none_bool b
  | int i t=>exact .none_int i t
  | str x t=>exact .none_str x t
  | lst _ _ _ p=>exact .none_list p hu'
  | tup _ _ _ p=>exact .none_tuple p hu'
 | .bl b',e,v,z,u1,u2,A,h1,h2,r1,r2,hu=>by
  have w1:=vw_of I h1 r1
  cases w1
  have hu':A.units<cLine:=by simpa only [Dt.dp,Nat.add_zero] using hu
  cases vw_of I h2 r2 with
  | non=>exact .bool_none b'
  | bl b=>exact .bool_bool b' b
  | int i t=>exact .bool_int b' i t
  | str x t=>exact .bool_str b' x t
  | lst _ _ _ p=>exact .bool_list b' p hu'
  | tup _ _ _ p=>exact .bool_tuple b' p hu'
 | .int i',e,v,z,u1,u2,A,h1,h2,r1,r2,hu=>by
  have w1:=vw_of I h1 r1
  cases w1
  have hu':A.units<cLine:=by simpa only [Dt.dp,Nat.add_zero] using hu
  cases vw_of I h2 r2 with
  | non=>exact .int_none i' _
  | bl b=>exact .int_bool i' _ b
  | int i t=>exact .int_int i' _ i t
  | str x t=>exact .int_str i' _ x t
  | lst _ _ _ p=>exact .int_list i' _ p hu'
  | tup _ _ _ p=>exact .int_tuple i' _ p hu'
 | .str x',e,v,z,u1,u2,A,h1,h2,r1,r2,hu=>by
  have w1:=vw_of I h1 r1
  cases w1
  have hu':A.units<cLine:=by simpa only [Dt.dp,Nat.add_zero] using hu
  cases vw_of I h2 r2 with
  | non=>exact .str_none x' _
  | bl b=>exact .str_bool x' _ b
  | int i t=>exact .str_int x' _ i t
  | str x t=>exact .str_str x' _ x t
  | lst _ _ _ p=>exact .str_list x' _ p hu'
  | tup _ _ _ p=>exact .str_tuple x' _ p hu'
theorem eq_ats (I:Inv X pins σ H s):∀(ds es:List Dt) {xs ys:List V}{us ws:List Value}{A:Around},Deeps X.K H ds xs→Deeps X.K H es ys→Vals xs us→Vals ys ws→A.units+Dt.dps ds<cLine →
  ∀(j:Nat) (u w':Value),us[j]? = some u→ws[j]? = some w'→SeqAt.EqAt A s u w' (eJ ds es j)
 | [],es,xs,ys,us,ws,A,h1,h2,r1,r2,_,j,u,w',e1,_=>by
  have h1:xs=[]:=h1
  subst h1
  cases r1
  simp at e1
 | d::ds,[],xs,ys,us,ws,A,h1,h2,r1,r2,_,j,u,w',_,e2=>by
  have h2:ys=[]:=h2
  subst h2
  cases r2
  simp at e2
 | d::ds,e::es,xs,ys,us,ws,A,h1,h2,r1,r2,hu,j,u,w',e1,e2=>by
  obtain ⟨x,xr,rfl,d1,f1⟩:∃x r,xs=x::r∧Deep X.K H d x∧Deeps X.K H ds r:=h1
  obtain ⟨y,yr,rfl,d2,f2⟩:∃x r,ys=x::r∧Deep X.K H e x∧Deeps X.K H es r:=h2
  have hu':A.units+max d.dp (Dt.dps ds)<cLine:=hu
  cases r1 with
  | cons ra rb =>
   cases r2 with
   | cons rc rd =>
    cases j with
    | zero =>
     simp at e1 e2
     subst e1 e2
     exact eq_at I d e d1 d2 ra rc (by lia)
    | succ j=>exact eq_ats I ds es f1 f2 rb rd (by lia) j u w' (by simpa using e1) (by simpa using e2)
end
theorem rc_at (I:Inv X pins σ H s) {d e:Dt}{v z:V}{u1 u2:Value}{A:Around}(h1:Deep X.K H d v) (h2:Deep X.K H e z) (r1:RelV v u1) (r2:RelV z u2) (hu:A.units+d.dp<cLine):SeqAt.RcAt A s u1 u2 (d.eqB e):=by
 have hu0:A.units<cLine:=by lia
 cases vw_of I h1 r1 with
 | lst q d1 rv p =>
  rename_i ds a xs its
  have hu':A.units+(1+Dt.dps ds)<cLine:=hu
  cases vw_of I h2 r2 with
  | non=>exact .list_none p hu0
  | bl b=>exact .list_bool b p hu0
  | int i t=>exact .list_int i t p hu0
  | str x t=>exact .list_str x t p hu0
  | tup q2 d2 rv2 p2=>exact .list_tuple p p2 hu0
  | @lst es b ys its2 q2 d2 rv2 p2 =>
   show SeqAt.RcAt _ _ _ _ (Dt.eqBs ds es)
   have l1:ds.length=its.length:=(deeps_len d1).trans rv.length
   have l2:es.length=its2.length:=(deeps_len d2).trans rv2.length
   by_cases hl:its.toArray.size=its2.toArray.size
   ·rw [←all_lists l1 l2 hl]
    exact .lists p p2 hl hu0 fun j g1 g2=>eq_ats I ds es d1 d2 rv rv2 (A:=A.in1) (by rw [in1_units];lia) j _ _ (by simpa using g1) (by simpa using g2)
   ·rw [eqBs_len (by rw [l1,l2];simpa using hl)]
    exact .lists_lengths p p2 (by simpa using hl) hu0
 | tup q d1 rv p =>
  rename_i ds a xs its
  have hu':A.units+(1+Dt.dps ds)<cLine:=hu
  cases vw_of I h2 r2 with
  | non=>exact .tuple_none p hu0
  | bl b=>exact .tuple_bool b p hu0
  | int i t=>exact .tuple_int i t p hu0
  | str x t=>exact .tuple_str x t p hu0
  | lst q2 d2 rv2 p2=>exact .tuple_list p p2 hu0
  | @tup es b ys its2 q2 d2 rv2 p2 =>
   show SeqAt.RcAt _ _ _ _ (Dt.eqBs ds es)
   have l1:ds.length=its.length:=(deeps_len d1).trans rv.length
   have l2:es.length=its2.length:=(deeps_len d2).trans rv2.length
   rw [←all_tups l1 l2]
   exact .tuples p p2 hu0 fun j g1 g2=>eq_ats I ds es d1 d2 rv rv2 (A:=A.in1) (by rw [in1_units];lia) j _ _ (by simpa using g1) (by simpa using g2)
 | non =>
  cases vw_of I h2 r2 with
  | non=>exact .none_none
  | bl b=>exact .none_bool b
  | int i t=>exact .none_int i t
  | str x t=>exact .none_str x t
  | lst _ _ _ p=>exact .none_list p hu0
  | tup _ _ _ p=>exact .none_tuple p hu0
 | bl b' =>
  cases vw_of I h2 r2 with
  | non=>exact .bool_none b'
  | bl b=>exact .bool_bool b' b
  | int i t=>exact .bool_int b' i t
  | str x t=>exact .bool_str b' x t
  | lst _ _ _ p=>exact .bool_list b' p hu0
  | tup _ _ _ p=>exact .bool_tuple b' p hu0
 | int i' t' =>
  cases vw_of I h2 r2 with
  | non=>exact .int_none i' _
  | bl b=>exact .int_bool i' _ b
  | int i t=>exact .int_int i' _ i t
  | str x t=>exact .int_str i' _ x t
  | lst _ _ _ p=>exact .int_list i' _ p hu0
  | tup _ _ _ p=>exact .int_tuple i' _ p hu0
 | str x' t' =>
  cases vw_of I h2 r2 with
  | non=>exact .str_none x' _
  | bl b=>exact .str_bool x' _ b
  | int i t=>exact .str_int x' _ i t
  | str x t=>exact .str_str x' _ x t
  | lst _ _ _ p=>exact .str_list x' _ p hu0
  | tup _ _ _ p=>exact .str_tuple x' _ p hu0
theorem rcne_at (I:Inv X pins σ H s) {d e:Dt}{v z:V}{u1 u2:Value}{A:Around}(h1:Deep X.K H d v) (h2:Deep X.K H e z) (r1:RelV v u1) (r2:RelV z u2) (hu:A.units+d.dp<cLine):SeqAt.RcNeAt A s u1 u2 (!(d.eqB e)):=by
 have hu0:A.units<cLine:=by lia
 cases vw_of I h1 r1 with
 | lst q d1 rv p =>
  rename_i ds a xs its
  have hu':A.units+(1+Dt.dps ds)<cLine:=hu
  cases vw_of I h2 r2 with
  | non=>exact .list_none p hu0
  | bl b=>exact .list_bool b p hu0
  | int i t=>exact .list_int i t p hu0
  | str x t=>exact .list_str x t p hu0
  | tup q2 d2 rv2 p2=>exact .list_tuple p p2 hu0
  | @lst es b ys its2 q2 d2 rv2 p2 =>
   show SeqAt.RcNeAt _ _ _ _ (!(Dt.eqBs ds es))
   have l1:ds.length=its.length:=(deeps_len d1).trans rv.length
   have l2:es.length=its2.length:=(deeps_len d2).trans rv2.length
   by_cases hl:its.toArray.size=its2.toArray.size
   ·rw [←all_lists l1 l2 hl]
    exact .lists p p2 hl hu0 fun j g1 g2=>eq_ats I ds es d1 d2 rv rv2 (A:=A.in1) (by rw [in1_units];lia) j _ _ (by simpa using g1) (by simpa using g2)
   ·rw [eqBs_len (by rw [l1,l2];simpa using hl)]
    exact .lists_lengths p p2 (by simpa using hl) hu0
 | tup q d1 rv p =>
  rename_i ds a xs its
  have hu':A.units+(1+Dt.dps ds)<cLine:=hu
  cases vw_of I h2 r2 with
  | non=>exact .tuple_none p hu0
  | bl b=>exact .tuple_bool b p hu0
  | int i t=>exact .tuple_int i t p hu0
  | str x t=>exact .tuple_str x t p hu0
  | lst q2 d2 rv2 p2=>exact .tuple_list p p2 hu0
  | @tup es b ys its2 q2 d2 rv2 p2 =>
   show SeqAt.RcNeAt _ _ _ _ (!(Dt.eqBs ds es))
   have l1:ds.length=its.length:=(deeps_len d1).trans rv.length
   have l2:es.length=its2.length:=(deeps_len d2).trans rv2.length
   rw [←all_tups l1 l2]
   exact .tuples p p2 hu0 fun j g1 g2=>eq_ats I ds es d1 d2 rv rv2 (A:=A.in1) (by rw [in1_units];lia) j _ _ (by simpa using g1) (by simpa using g2)
 | non =>
  cases vw_of I h2 r2 with
  | non=>exact .none_none
  | bl b=>exact .none_bool b
  | int i t=>exact .none_int i t
  | str x t=>exact .none_str x t
  | lst _ _ _ p=>exact .none_list p hu0
  | tup _ _ _ p=>exact .none_tuple p hu0
 | bl b' =>
  cases vw_of I h2 r2 with
  | non=>exact .bool_none b'
  | bl b=>exact .bool_bool b' b
  | int i t=>exact .bool_int b' i t
  | str x t=>exact .bool_str b' x t
  | lst _ _ _ p=>exact .bool_list b' p hu0
  | tup _ _ _ p=>exact .bool_tuple b' p hu0
 | int i' t' =>
  cases vw_of I h2 r2 with
  | non=>exact .int_none i' _
  | bl b=>exact .int_bool i' _ b
  | int i t=>exact .int_int i' _ i t
  | str x t=>exact .int_str i' _ x t
  | lst _ _ _ p=>exact .int_list i' _ p hu0
  | tup _ _ _ p=>exact .int_tuple i' _ p hu0
 | str x' t' =>
  cases vw_of I h2 r2 with
  | non=>exact .str_none x' _
  | bl b=>exact .str_bool x' _ b
  | int i t=>exact .str_int x' _ i t
  | str x t=>exact .str_str x' _ x t
  | lst _ _ _ p=>exact .str_list x' _ p hu0
  | tup _ _ _ p=>exact .str_tuple x' _ p hu0
inductive rEqG (K:PySem.W.Frag) (x:V) (y:V) (H:Hp) (Q:VK):Prop
 | mk:∀d e,(Deep K H d x)→(Deep K H e y)→(d.dp≤8)→(Q (.bl (d.eqB e)) H)→rEqG K x y H Q
inductive rNeG (K:PySem.W.Frag) (x:V) (y:V) (H:Hp) (Q:VK):Prop
 | mk:∀d e,(Deep K H d x)→(Deep K H e y)→(d.dp≤8)→(Q (.bl (!(d.eqB e))) H)→rNeG K x y H Q
theorem op_eqG {k:Nat}(hr:Room k X.A):OpR X (compareOp .Eq) (rEqG X.K):=by
 intro pins s σ H x y v u Q I rx ry h
 obtain ⟨d,e,h1,h2,hd,q⟩:=h
 have hu:=hr.units
 exact rc_at I h1 h2 rx ry (by lia) X.prog X.w X.xe _ ⟨.bl _,H,I,rfl,q⟩
theorem op_neG {k:Nat}(hr:Room k X.A):OpR X (compareOp .NotEq) (rNeG X.K):=by
 intro pins s σ H x y v u Q I rx ry h
 obtain ⟨d,e,h1,h2,hd,q⟩:=h
 have hu:=hr.units
 exact rcne_at I h1 h2 rx ry (by lia) X.prog X.w X.xe _ ⟨.bl _,H,I,rfl,q⟩
end
end L2

namespace L2
open PySem PySem.Spec PyProof.Rows
section
variable {X:Cx}{pins:List (Addr × Obj)}{σ:St}{H:Hp}{s:Shared}
end
section
variable {prog:Program}{w:World}{A:Around}{E:Value→Shared→Prop}{s:Shared}
theorem sliceApplied_rev2 {sl:Addr}{t0:Tok}{Q:Int × Int × Nat→Shared→Prop}(hs:s.heap.IsSliceOf sl .none .none (.int (-1) t0))
  (h:Q (1,-1,2) s):wpAny (model prog w) A (Builtin.Slice.sliceApplied (.ref sl) (pure ((2:Nat):Int))) Q E s:=by
 obtain ⟨os,hos,hcs,hds⟩:=id hs
 unfold Builtin.Slice.sliceApplied Builtin.Slice.sliceFields
 refine wpAny_bind (wpAny_bind (wpAny_field hos hds (x:=.none) rfl (wpAny_bind (wpAny_field hos hds (x:=.none) rfl (wpAny_bind (wpAny_field hos hds (x:=.int (-1) t0) rfl (wpAny_pure ?_)))))))
 refine wpAny_bind (slicePart_int ?_)
 show wpAny _ _ (if ((-1:Int)==0)=true then _ else _) _ _ s
 rw [if_neg (by decide)]
 refine wpAny_bind (slicePart_none (wpAny_bind (slicePart_none (wpAny_bind (wpAny_pure ?_)))))
 exact wpAny_pure h
theorem getItem_rev2 {t sl:Addr}{a b:Value}{t0:Tok}{Q:Value→Shared→Prop}(ht:IsTup s.heap t #[a,b]) (hs:s.heap.IsSliceOf sl .none .none (.int (-1) t0))
  (h:Q (.ref s.heap.objs.size) { s with heap:=s.heap.push { cls:=.type "tuple", data:=.seq #[b,a] } }):wpAny (model prog w) A (getItem (.ref t) (.ref sl)) Q E s:=by
 have htake:sizeOk (.seq #[b,a]):=by show 2≤sizeLine;decide
 obtain ⟨os,hos,hcs,hds⟩:=id hs
 have hTs:s.TypeIs (.ref sl) "slice" := ⟨os,hos,hcs⟩
 unfold getItem
 try with_reducible refine wpAny_holding ?_
 first|refine wpAny_bind (wpAny_pure ?_)|skip
 refine wpAny_bind (wpAny_sequenceKey ht.typeIs (by decide) ?_)
 refine wpAny_bind (wpAny_callSpecial?_slot (name:=Str.ofString "__getitem__") ht.typeIs PyProof.Rows.slot_tuple_getitem
  (wpAny_call_entry PyProof.Rows.slot_tuple_getitem ht.typeIs entry_tuple_getitem ?_ (args_tuple_getitem _ _)))
 show wpAny _ _ (Builtin.Tuple.tupleItemsOf (.ref t) >>= _) _ _ s
 refine wpAny_bind (tupleItemsOf_ ht ?_)
 refine wpAny_bind (wpAny_typeOf hTs ?_)
 rw [if_pos (by decide)]
 refine wpAny_bind (sliceApplied_rev2 hs ?_)
 show wpAny _ _ (if (((1:Int)==0 && (-1:Int)==1 && (2:Nat)==2)=true) then _ else _) _ _ s
 rw [if_neg (by decide)]
 first
  | exact wpAny_bind (m:=Builtin.Tuple.tupleExact _) (wpAny_newObj_type (wpAny_pure ⟨_,rfl,wpAny_pure h⟩) htake)
  | exact wpAny_bind (m:=Builtin.Tuple.tupleExact _) (wpAny_newObj_type (wpAny_bind (wpAny_pure (wpAny_pure ⟨_,rfl,wpAny_pure h⟩))) htake)
  | exact wpAny_bind (wpAny_bind (m:=Builtin.Tuple.tupleExact _) (wpAny_newObj_type (wpAny_pure (wpAny_pure ⟨_,rfl,wpAny_pure h⟩)) htake))
  | exact wpAny_bind (wpAny_bind (m:=Builtin.Tuple.tupleExact _) (wpAny_newObj_type (wpAny_pure ⟨_,rfl,wpAny_pure h⟩) htake))
end
section
variable {X:Cx}{e:Expr}{te:TE}{pos p2 p3 p4:Pos}{k1:Nat}
inductive tRev2_b (K:PySem.W.Frag) (Q:VK) (v:V) (H1:Hp):Prop
 | mk:∀a x y,(v=.ref a)→(SqT K H1 a [x,y])→(∀p,H1 p=none→Q (.ref p) (upd H1 p (.tup [y,x])))→tRev2_b K Q v H1
def tRev2 (K:PySem.W.Frag) (te:TE):TE:=fun σ H Q=>te σ H fun v H1=>tRev2_b K Q v H1
theorem pe_rev2 {j}(he:PE X e te):PE X (.Subscript e (.Slice none none (some (.UnaryOp .USub (.Constant (.int 1) j p4) p3)) p2) pos) (tRev2 X.K te):=by
 intro pins s σ H Q I h
 refine Subscript_ (thn (he pins s σ H _ I h) fun v s1 ⟨x,H1,I1,r1,q1⟩=>?_)
 obtain ⟨a,x0,y0,rfl,hq,q⟩:=q1
 cases r1
 refine wpAny_Slice (thn (po_none pins s1 σ H1 (fun o H2=>o=none∧H2=H1) I1 ⟨rfl,rfl⟩) fun vl s2 ⟨l,H2,I2,pl,e1,e2⟩=>?_)
 subst e1 e2
 cases pl
 refine thn (po_none pins s2 σ H2 (fun o H3=>o=none∧H3=H2) I2 ⟨rfl,rfl⟩) fun vu s3 ⟨u,H3,I3,pu,e1,e2⟩=>?_
 subst e1 e2
 cases pu
 refine thn (po_some (pe_un un_neg pe_int) pins s3 σ H3 (fun o H4=>o=some (-1)∧H4=H3) I3 ⟨rfl,rfl⟩) fun vs s4 ⟨st,H4,I4,ps,e1,e2⟩=>?_
 subst e1 e2
 cases ps with
 | int _ t0 =>
 have I5:Inv X pins σ H4 { s4 with heap:=s4.heap.push { cls:=.type "slice", data:=.fields #[.none,.none,.int (-1) t0] } }:=I4.kept (t':=s4.toks) fun b ob q=>Heap.get?_push_of_some _ q
 refine L2.ob_eaa (I5.tuple hq) fun its rv p _=>?_
 cases rv with
 | cons ra rb =>
  cases rb with
  | cons rc rd =>
   cases rd
   rename_i ua ub
   show wpAny (model X.prog X.w) X.A (subscriptTail e (.Slice none none (some (.UnaryOp .USub (.Constant (.int 1) j p4) p3)) p2) (.ref a) (.ref s4.heap.objs.size)) (EP X pins σ Q) X.xe { s4 with heap:=s4.heap.push { cls:=.type "slice", data:=.fields #[.none,.none,.int (-1) t0] } }
   refine tail_any (ops:=[.ref a,.ref s4.heap.objs.size]) p.typeIs PyProof.Rows.slot_tuple_getitem.lookup (getItem_rev2 (a:=ua) (b:=ub) p (Heap.IsSliceOf.new ..) ?_) (by with_unfolding_all rfl)
   refine⟨.ref _,_,I5.laid (a:=(s4.heap.push { cls:=.type "slice", data:=.fields #[.none,.none,.int (-1) t0] }).objs.size) (o:=.tup [y0,x0]) (t':=s4.toks) (fun b ob q=>Heap.get?_push_of_some _ q) (Nat.le_refl _) ⟨by show 2≤sizeLine;decide,[ub,ua],.cons rc (.cons ra .nil),⟨_,Heap.get?_push_size _ rfl,rfl,_,rfl⟩⟩,rfl,q _ (I5.hok.fresh (Nat.le_refl _))⟩
end
end L2

namespace L2
open PySem PySem.Spec PyProof.Rows
section
variable {κ:Type} [DecidableEq κ]
def valV (kvs:List (κ × V)) (k:κ):Option V:=(kvs.find? fun kv=>decide (kv.1=k)).map (·.2)
def putK (kvs:List (κ × V)) (k:κ) (v:V):List (κ × V) :=
 if (kvs.any fun kv=>decide (kv.1=k))=true then kvs.map (fun kv=>if kv.1=k then (kv.1,v) else kv) else kvs++[(k,v)]
theorem valV_nil {k:κ}:valV ([]:List (κ × V)) k=none:=rfl
theorem valV_pos {p:κ × V}{r:List (κ × V)}{k:κ}(e:p.1=k):valV (p::r) k=some p.2:=by simp [valV,List.find?_cons,e]
theorem valV_neg {p:κ × V}{r:List (κ × V)}{k:κ}(e:¬p.1=k):valV (p::r) k=valV r k:=by simp [valV,List.find?_cons,e]
theorem valV_any (k:κ):∀kvs:List (κ × V),(kvs.any fun kv=>decide (kv.1=k))=(valV kvs k).isSome
 | []=>rfl
 | p::r=>by
  rw [List.any_cons]
  by_cases e:p.1=k
  ·simp only [valV_pos e,decide_eq_true e,Bool.true_or,Option.isSome_some]
  ·rw [valV_neg e,decide_eq_false e,Bool.false_or];exact valV_any k r
theorem valV_map (k j:κ) (y:V):∀kvs:List (κ × V),valV (kvs.map fun kv=>if kv.1=k then (kv.1,y) else kv) j=(valV kvs j).map fun x=>if j=k then y else x
 | []=>rfl
 | p::r=>by
  have ih:=valV_map k j y r
  rw [List.map_cons]
  by_cases h:p.1=k
  ·rw [if_pos h]
   by_cases e:p.1=j
   ·rw [valV_pos (p:=(p.1,y)) e,valV_pos e,Option.map_some,if_pos (e.symm.trans h)]
   ·rw [valV_neg (p:=(p.1,y)) e,valV_neg e,ih]
  ·rw [if_neg h]
   by_cases e:p.1=j
   ·rw [valV_pos (p:=p) e,valV_pos e,Option.map_some,if_neg (fun z=>h (e.trans z))]
   ·rw [valV_neg (p:=p) e,valV_neg e,ih]
theorem valV_snoc (k j:κ) (y:V):∀kvs:List (κ × V),valV kvs k=none→valV (kvs++[(k,y)]) j=if j=k then some y else valV kvs j
 | [],_=>by
  by_cases e:k=j
  ·rw [if_pos e.symm];exact valV_pos (p:=(k,y)) e
  ·rw [if_neg (fun z=>e z.symm)];exact valV_neg (p:=(k,y)) e
 | p::r,hn=>by
  rw [List.cons_append]
  have hk:¬p.1=k:=fun z=>by rw [valV_pos z] at hn;cases hn
  rw [valV_neg hk] at hn
  have ih:=valV_snoc k j y r hn
  by_cases e:p.1=j
  ·rw [valV_pos e,valV_pos e,if_neg (fun z=>hk (e.trans z))]
  ·rw [valV_neg e,valV_neg e,ih]
theorem valV_put (kvs:List (κ × V)) (k j:κ) (y:V):valV (putK kvs k y) j=if j=k then some y else valV kvs j:=by
 unfold putK
 by_cases a:(kvs.any fun kv=>decide (kv.1=k))=true
 ·rw [if_pos a,valV_map]
  rw [valV_any] at a
  by_cases e:j=k
  ·obtain ⟨x,hx⟩:=Option.isSome_iff_exists.mp a
   rw [if_pos e,e,hx,Option.map_some,if_pos rfl]
  ·rw [if_neg e]
   cases valV kvs j with
   | none=>rfl
   | some x=>rw [Option.map_some,if_neg e]
 ·rw [if_neg a]
  refine valV_snoc k j y kvs ?_
  rw [valV_any] at a
  cases q:valV kvs k with
  | none=>rfl
  | some x=>rw [q] at a;exact (a rfl).elim
theorem length_putK (kvs:List (κ × V)) (k:κ) (v:V):(putK kvs k v).length≤kvs.length+1:=by
 unfold putK
 split
 ·rw [List.length_map];lia
 ·rw [List.length_append,List.length_cons,List.length_nil];lia
theorem RelO.isSome_eq {o:Option V}{u:Option Value}(r:RelO o u):o.isSome=u.isSome:=by
 cases o with
 | none=>cases u with
  | none=>rfl
  | some _=>exact (show False from r).elim
 | some _=>cases u with
  | none=>exact (show False from r).elim
  | some _=>rfl
theorem KV.val {kvs:List (κ × V)}{vs:List (κ × Value)}(r:KV kvs vs) (k:κ):RelO (valV kvs k) (valueAt vs k):=by
 unfold KV at r
 induction r with
 | nil=>exact True.intro
 | @cons p q ps qs h t ih =>
  obtain ⟨h1,h2⟩:=h
  by_cases e:p.1=k
  ·have e':q.1=k:=h1.symm.trans e
   have b:valueAt (q::qs) k=some q.2:=by simp [valueAt,List.find?_cons,e']
   rw [valV_pos e,b];exact h2
  ·have e':¬q.1=k:=fun z=>e (h1.trans z)
   have b:valueAt (q::qs) k=valueAt qs k:=by simp [valueAt,List.find?_cons,e']
   rw [valV_neg e,b];exact ih
theorem KV.any {kvs:List (κ × V)}{vs:List (κ × Value)}(r:KV kvs vs) (k:κ):(kvs.any fun kv=>decide (kv.1=k))=vs.any fun kv=>decide (kv.1=k):=by
 unfold KV at r
 induction r with
 | nil=>rfl
 | cons h t ih=>rw [List.any_cons,List.any_cons,ih,h.1]
theorem KV.repl {kvs:List (κ × V)}{vs:List (κ × Value)}(r:KV kvs vs) (k:κ) {y:V}{u:Value}(ry:RelV y u) :
  KV (kvs.map fun kv=>if kv.1=k then (kv.1,y) else kv) (vs.map fun kv=>if kv.1=k then (kv.1,u) else kv):=by
 unfold KV at r ⊢
 induction r with
 | nil=>exact .nil
 | @cons p q ps qs h t ih =>
  rw [List.map_cons,List.map_cons]
  refine .cons ?_ ih
  obtain ⟨h1,h2⟩:=h
  by_cases e:p.1=k
  ·rw [if_pos e,if_pos (h1.symm.trans e)];exact⟨h1,ry⟩
  ·rw [if_neg e,if_neg (fun z=>e (h1.trans z))];exact⟨h1,h2⟩
theorem KV.put {kvs:List (κ × V)}{vs:List (κ × Value)}(r:KV kvs vs) (k:κ) {y:V}{u:Value}(ry:RelV y u):KV (putK kvs k y) (stored vs k u):=by
 unfold putK stored
 rw [r.any k]
 by_cases e:(vs.any fun kv=>decide (kv.1=k))=true
 ·rw [if_pos e,if_pos e];exact r.repl k ry
 ·rw [if_neg e,if_neg e];exact Paired.snoc r ⟨rfl,ry⟩
theorem KV.length {kvs:List (κ × V)}{vs:List (κ × Value)}(r:KV kvs vs):kvs.length=vs.length:=Paired.length r
end


theorem kV_is {P:Program}{w:World}{k:Key}{u:Value}(r:RelV (kV k) u):(mixKind P w).is k u=true:=by
 cases k with
 | inl i=>obtain ⟨t,e⟩:=(show ∃t,u=Value.int i t from r);subst e;exact mixKind_int P w i t
 | inr x=>obtain ⟨t,e⟩:=(show ∃t,u=Value.str x t from r);subst e;exact mixKind_str P w x t
theorem items_are {P:Program}{w:World}:∀{ks:List Key}{us:List Value},Vals (ks.map kV) us→ItemsAre (mixKind P w) ks us
 | [],_,r=>by rw [List.map_nil] at r;cases r;exact .nil
 | k::ks,_,r=>by
  rw [List.map_cons] at r
  cases r with
  | cons h t=>exact .cons (kV_is h) (items_are t)
abbrev KT (H:Hp):List (List Key × V)→List (List Key × Addr × Value)→Prop:=Paired fun p q=>p.1=q.1∧H q.2.1=some (.tup (p.1.map kV))∧RelV p.2 q.2.2
theorem KT.val {H:Hp}{kvs:List (List Key × V)}{xs:List (List Key × Addr × Value)}(r:KT H kvs xs) (k:List Key):RelO (valV kvs k) ((atKey xs k).map (·.2)):=by
 induction r with
 | nil=>exact True.intro
 | @cons p q ps qs h t ih =>
  obtain ⟨h1,_,h2⟩:=h
  by_cases e:p.1=k
  ·have e':q.1=k:=h1.symm.trans e
   have b:atKey (q::qs) k=some q.2:=by simp [atKey,List.find?_cons,e']
   rw [valV_pos e,b];exact h2
  ·have e':¬q.1=k:=fun z=>e (h1.trans z)
   have b:atKey (q::qs) k=atKey qs k:=by simp [atKey,List.find?_cons,e']
   rw [valV_neg e,b];exact ih
theorem KT.repl {H:Hp}{kvs:List (List Key × V)}{xs:List (List Key × Addr × Value)}(r:KT H kvs xs) (k:List Key) {y:V}{u:Value}(ry:RelV y u) :
  KT H (kvs.map fun kv=>if kv.1=k then (kv.1,y) else kv) (xs.map (putAt k u)):=by
 induction r with
 | nil=>exact .nil
 | @cons p q ps qs h t ih =>
  rw [List.map_cons,List.map_cons]
  refine .cons ?_ ih
  obtain ⟨h1,h2,h3⟩:=h
  unfold putAt
  by_cases e:p.1=k
  ·rw [if_pos e,if_pos (h1.symm.trans e)];exact⟨h1,h2,ry⟩
  ·rw [if_neg e,if_neg (fun z=>e (h1.trans z))];exact⟨h1,h2,h3⟩
theorem KT.put {H:Hp}{kvs:List (List Key × V)}{xs:List (List Key × Addr × Value)}(r:KT H kvs xs) (k:List Key) {b:Addr}{y:V}{u:Value}(hb:H b=some (.tup (k.map kV))) (ry:RelV y u) :
  KT H (putK kvs k y) (storedH xs k b u):=by
 have e:(kvs.any fun kv=>decide (kv.1=k))=(atKey xs k).isSome:=by
  rw [valV_any,(r.val k).isSome_eq,Option.isSome_map]
 unfold putK storedH
 rw [e]
 by_cases q:(atKey xs k).isSome=true
 ·rw [if_pos q,if_pos q];exact r.repl k ry
 ·rw [if_neg q,if_neg q];exact Paired.snoc r ⟨rfl,hb,ry⟩
theorem KT.keeps {H H':Hp}{kvs:List (List Key × V)}{xs:List (List Key × Addr × Value)}(r:KT H kvs xs) (ht:∀b ys,H b=some (.tup ys)→H' b=some (.tup ys)):KT H' kvs xs :=
 Paired.mapP r fun _ _ z=>⟨z.1,ht _ _ z.2.1,z.2.2⟩
section
variable {P:Program}{w:World}{H:Hp}{h:Heap}{a:Addr}
theorem rd_of {u:HO}(ok:HOk P w H h) (e:Rd H a u):ObjOk P w H h a u:=e.ok ok
theorem dk_rd {kvs:List (Key × V)}(ok:HOk P w H h) (e:Rd H a (.dK kvs)):kvs.length≤sizeLine∧(a==sysModules)=false∧∃vs,KV kvs vs∧h.DictOf (mixKind P w) a vs :=
 show ObjOk P w H h a (.dK kvs) from rd_of ok e
theorem dk_of {kvs:List (Key × V)}(ok:HOk P w H h) (e:H a=some (.dK kvs)):kvs.length≤sizeLine∧(a==sysModules)=false∧∃vs,KV kvs vs∧h.DictOf (mixKind P w) a vs:=dk_rd ok (.inl e)
theorem key_of {ks:List Key}(ok:HOk P w H h) (e:H a=some (.tup (ks.map kV))):(tupleKind (mixKind P w)).is h ks a:=by
 obtain ⟨_,its,r,o,h1,h2,n,h3⟩:=(show ObjOk P w H h a (.tup (ks.map kV)) from ok a _ e)
 exact⟨o,its.toArray,n,h1,h2,h3,by simpa using items_are r⟩
theorem dt_rd {kvs:List (List Key × V)}(ok:HOk P w H h) (e:Rd H a (.dT kvs)):kvs.length≤sizeLine∧(a==sysModules)=false ∧
  ∃xs,KT H kvs xs∧h.DictOfH (tupleKind (mixKind P w)) a xs:=by
 obtain ⟨z,y,xs,r,o,es,ep,h1,h2,h3,h4,h5⟩:=(show ObjOk P w H h a (.dT kvs) from rd_of ok e)
 refine⟨z,y,xs,r,o,es,ep,h1,h2,h3,h4,fun x hx=>?_,h5⟩
 have all:∀{l:List (List Key × V)}{m:List (List Key × Addr × Value)},KT H l m→∀x∈m,(tupleKind (mixKind P w)).is h x.1 x.2.1:=by
  intro l m q
  induction q with
  | nil=>intro x hx;exact nomatch hx
  | @cons p q ps qs hq t ih =>
   intro x hx
   rcases List.mem_cons.mp hx with e|hx
   ·subst e
    exact key_of ok (by rw [←hq.1];exact hq.2.1)
   ·exact ih x hx
 exact all r x hx
theorem dt_of {kvs:List (List Key × V)}(ok:HOk P w H h) (e:H a=some (.dT kvs)):kvs.length≤sizeLine∧(a==sysModules)=false ∧
  ∃xs,KT H kvs xs∧h.DictOfH (tupleKind (mixKind P w)) a xs:=dt_rd ok (.inl e)
end

def DGet (H:Hp) (a:Addr) (y:V) (r:Option V):Prop :=
 (∃kvs k,Rd H a (.dK kvs)∧y=kV k∧r=valV kvs k) ∨ ∃kvs k b,Rd H a (.dT kvs)∧y=.ref b∧H b=some (.tup (k.map kV))∧r=valV kvs k
def DPut (H:Hp) (a:Addr) (y v:V) (H':Hp):Prop :=
 (∃kvs k,H a=some (.dK kvs)∧y=kV k∧kvs.length<sizeLine∧H'=upd H a (.dK (putK kvs k v))) ∨
 ∃kvs k b,H a=some (.dT kvs)∧y=.ref b∧H b=some (.tup (k.map kV))∧kvs.length<sizeLine∧H'=upd H a (.dT (putK kvs k v))
theorem DGet.t {H:Hp}{a b:Addr}{kvs:List (List Key × V)}{k:List Key}(e:H a=some (.dT kvs)) (eb:H b=some (.tup (k.map kV))):DGet H a (.ref b) (valV kvs k):=.inr ⟨kvs,k,b,.inl e,rfl,eb,rfl⟩
theorem DPut.t {H:Hp}{a b:Addr}{kvs:List (List Key × V)}{k:List Key}{v:V}(e:H a=some (.dT kvs)) (eb:H b=some (.tup (k.map kV))) (hl:kvs.length<sizeLine) :
  DPut H a (.ref b) v (upd H a (.dT (putK kvs k v))):=.inr ⟨kvs,k,b,e,rfl,eb,hl,rfl⟩
section
variable {X:Cx}{pins:List (Addr × Obj)}{σ:St}{H:Hp}{s:Shared}{a:Addr}{y v:V}{u r:Value}{o:Option V}{A:Around}{E:Value→Shared→Prop}
theorem Inv.big (I:Inv X pins σ H s):sysModules<s.heap.objs.size:=by
 have h:mainGlobals<s.heap.objs.size:=(I.mod.glob.keeps I.bk).lt
 exact Nat.lt_trans (by decide) h
theorem d_getItem {Q:Value→Shared→Prop}(hu:A.units+1<cLine) (I:Inv X pins σ H s) (g:DGet H a y (some v)) (ry:RelV y u) (h:∀w' s',Inv X pins σ H s'→RelV v w'→Q w' s') :
  wpAny (model X.prog X.w) A (getItem (.ref a) u) Q E s:=by
 rcases g with ⟨kvs,k,e,ey,l⟩|⟨kvs,k,b,e,ey,eb,l⟩
 ·subst ey
  obtain ⟨z,hd,vs,rel,dd⟩:=dk_rd I.hok e
  obtain ⟨w',hw,rw'⟩:=RelO.some_of (v:=v) (o:=valueAt vs k) (by rw [l];exact rel.val k)
  exact wpAny_getItem_of (kV_is ry) dd.mapOf hw (h w' _ (I.tok _) rw')
 ·subst ey
  cases (show u=Value.ref b from ry)
  obtain ⟨z,hd,xs,rel,dd⟩:=dt_rd I.hok e
  obtain ⟨w',hw,rw'⟩:=RelO.some_of (v:=v) (o:=(atKey xs k).map (·.2)) (by rw [l];exact rel.val k)
  obtain ⟨p,hp,hp2⟩:=Option.map_eq_some_iff.mp hw
  refine wpAny_getItem_heap (tupleKind_room_in1 hu) (key_of I.hok eb) dd hp ?_
  rw [hp2]
  exact h w' _ (I.tok _) rw'
theorem d_notIn {Q:Value→Shared→Prop}(hu:A.units+1<cLine) (I:Inv X pins σ H s) (g:DGet H a y o) (ry:RelV y u) (h:∀s',Inv X pins σ H s'→Q (.bool (!o.isSome)) s') :
  wpAny (model X.prog X.w) A (compareOp .NotIn u (.ref a)) Q E s:=by
 rcases g with ⟨kvs,k,e,ey,l⟩|⟨kvs,k,b,e,ey,eb,l⟩
 ·subst ey
  obtain ⟨z,hd,vs,rel,dd⟩:=dk_rd I.hok e
  refine wpAny_notIn_of (kV_is ry) hd dd.mapOf ?_
  rw [←(rel.val k).isSome_eq,←l]
  exact h _ (I.tok _)
 ·subst ey
  cases (show u=Value.ref b from ry)
  obtain ⟨z,hd,xs,rel,dd⟩:=dt_rd I.hok e
  refine wpAny_notIn_heap (tupleKind_room_in1 hu) (key_of I.hok eb) hd dd ?_
  have q:=(rel.val k).isSome_eq
  rw [Option.isSome_map] at q
  rw [←q,←l]
  exact h _ (I.tok _)
theorem d_write {h':Heap}{t':Nat}{ob:HO}(I:Inv X pins σ H s) (mu:Mut (H a)) (hs:Heap.SameBut a s.heap h') (he:∃q,h'.get? a=some q) (new:ObjOk X.prog X.w (upd H a ob) h' a ob) :
  Inv X pins σ (upd H a ob) { s with heap:=h',toks:=t' } :=
 I.write (x:=a) (e:=a) mu (.inl rfl) (fun b q hb z=>(hs.2 b hb).trans z) he new
theorem dk_new {P:Program}{w:World}{H':Hp}{h':Heap}{kvs:List (Key × V)}{vs:List (Key × Value)}(z:kvs.length≤sizeLine) (hd:(a==sysModules)=false) (rel:KV kvs vs) (dd:h'.DictOf (mixKind P w) a vs) :
  ObjOk P w H' h' a (.dK kvs):=⟨z,hd,vs,rel,dd⟩
theorem d_setItem {H':Hp}{Q:Unit→Shared→Prop}(hu:A.units+1<cLine) (I:Inv X pins σ H s) (g:DPut H a y v H') (ry:RelV y u) (rv:RelV v r) (h:∀s',Inv X pins σ H' s'→Q () s') :
  wpAny (model X.prog X.w) A (setItem (.ref a) u r) Q E s:=by
 rcases g with ⟨kvs,k,e,ey,l,eH⟩|⟨kvs,k,b,e,ey,eb,l,eH⟩
 ·subst ey eH
  obtain ⟨z,hd,vs,rel,dd⟩:=dk_of I.hok e
  have hz:vs.length≤sizeLine:=by rw [←rel.length];exact z
  have hl:(putK kvs k v).length≤sizeLine:=by have:=length_putK kvs k v;lia
  refine wpAny_setItem_pairs (hsz:=hz) (kV_is ry) dd fun h' dd' hs=>h _ ?_
  have he:∃q,h'.get? a=some q:=let ⟨q,_,_,hq,_⟩:=dd';⟨q,hq⟩
  exact d_write I (by rw [e];exact True.intro) hs he (dk_new hl hd (rel.put k rv) dd')
 ·subst ey eH
  cases (show u=Value.ref b from ry)
  obtain ⟨z,hd,xs,rel,dd⟩:=dt_of I.hok e
  have hz:xs.length≤sizeLine:=by rw [←Paired.length rel];exact z
  have hl:(putK kvs k v).length≤sizeLine:=by have:=length_putK kvs k v;lia
  refine wpAny_setItem_heap (hsz:=hz) (tupleKind_room_in1 hu) (key_of I.hok eb) dd fun h' dd' hs=>h _ ?_
  obtain ⟨q,es,ep,hq,h2,h3,h4,_,h5⟩:=dd'
  refine d_write I (by rw [e];exact True.intro) hs ⟨q,hq⟩ ⟨hl,hd,_,(rel.put k eb rv).keeps fun c ys ec=>?_,q,es,ep,hq,h2,h3,h4,h5⟩
  rw [upd_ne (ne_of ec e (fun z=>nomatch z))]
  exact ec
end

section
variable {X:Cx}{pins:List (Addr × Obj)}{σ:St}{H:Hp}{s:Shared}{a:Addr}{kvs:List (Key × V)}{k:Key}{u:Value}{A:Around}{E:Value→Shared→Prop}
end


def NoSl (i:Expr):Prop:=∀ov iv,subscripted i false ov iv=operate [ov,iv] (getItem ov iv)
theorem subD_of {prog:Program}{w:World}{A:Around}{E:Value→Shared→Prop}{s:Shared}{env:Env}{value slice:Expr}{pos:Pos}{T id:String}{Q:Value→Shared→Prop}
  (hl:typeLookup (.type T) "__getitem__" = pure (some (.builtin id))) (hs:NoSl slice)
  (h:wpAny (model prog w) A (eval value env) (fun o s₁=>wpAny (model prog w) A (eval slice env) (fun i s₂=>s₂.TypeIs o T∧wpAny (model prog w) A (getItem o i) Q E s₂) E s₁) E s) :
  wpAny (model prog w) A (eval (.Subscript value slice pos) env) Q E s:=by
 refine Subscript_ (wpAny_mono h (fun o s₁ h₁=>wpAny_mono h₁ (fun i s₂ h₂=>?_) fun _ _ x=>x) fun _ _ x=>x)
 obtain ⟨hT,h₂⟩:=h₂
 unfold subscriptTail
 refine wpAny_bind ?_
 rw [getitemInPython_of_ne hT.not_modules]
 refine wpAny_bind (wpAny_specialOf hT hl ?_)
 have fin:wpAny (model prog w) A (subscripted slice false o i) (fun r s₃=>wpAny (model prog w) A (letTemporaryGo value o r >>= fun _=>pure r) Q E s₃) E s₂:=by
  rw [hs o i]
  exact wpAny_operating (wpAny_mono h₂ (fun r s₃ h₃=>wpAny_bind (wpAny_letTemporaryGo (wpAny_pure h₃))) fun _ _ x=>x)
 first
  | exact wpAny_pure (wpAny_bind fin)
  | exact wpAny_bind (wpAny_pure (wpAny_bind fin))
  | exact wpAny_bind fin
theorem dict_typeIs {X:Cx}{pins:List (Addr × Obj)}{σ:St}{H:Hp}{s:Shared}{a:Addr}{y:V}{o:Option V}(I:Inv X pins σ H s) (g:DGet H a y o):s.TypeIs (.ref a) "dict" := by
 rcases g with ⟨kvs,k,e,_,_⟩|⟨kvs,k,b,e,_,_,_⟩
 ·obtain ⟨_,_,vs,_,dd⟩:=dk_rd I.hok e
  exact dd.typeIs
 ·obtain ⟨_,_,xs,_,dd⟩:=dt_rd I.hok e
  exact dd.typeIs
inductive tDGet_b (Q:VK) (x:V) (y:V) (H2:Hp):Prop
 | mk:∀a v,(x=.ref a)→(DGet H2 a y (some v))→(Q v H2)→tDGet_b Q x y H2
def tDGet (td ty:TE):TE:=fun σ H Q=>td σ H fun x H1=>ty σ H1 fun y H2=>tDGet_b Q x y H2
inductive tDNotIn_b (Q:VK) (y:V) (x:V) (H2:Hp):Prop
 | mk:∀a o,(x=.ref a)→(DGet H2 a y o)→(Q (.bl (!o.isSome)) H2)→tDNotIn_b Q y x H2
def tDNotIn (ty td:TE):TE:=fun σ H Q=>ty σ H fun y H1=>td σ H1 fun x H2=>tDNotIn_b Q y x H2
inductive sDPut_b (D:Ends) (σ:St) (v:V) (x:V) (y:V) (H3:Hp):Prop
 | mk:∀a H4,(x=.ref a)→(DPut H3 a y v H4)→(D.nx σ H4)→sDPut_b D σ v x y H3
def sDPut (td ty tv:TE):TS:=fun D σ H=>tv σ H fun v H1=>td σ H1 fun x H2=>ty σ H2 fun y H3=>sDPut_b D σ v x y H3
section
variable {X:Cx}{o i e value:Expr}{pos pos' tpos:Pos}{td ty tv:TE}
theorem pe_dget (hu:X.A.units+1<cLine) (ho:PE X o td) (hi:PE X i ty) (hs:NoSl i):PE X (.Subscript o i pos) (tDGet td ty):=by
 intro pins s σ H Q I h
 refine subD_of PySem.F.slot_dict_getitem.lookup hs (thn (ho pins s σ H _ I h) fun u s1 ⟨x,H1,I1,rx,q1⟩=>thn (hi pins s1 σ H1 _ I1 q1) fun iv s2 ⟨y,H2,I2,ry,a,v,ex,g,q2⟩=>?_)
 subst ex
 obtain rfl:u=Value.ref a:=rx
 exact⟨dict_typeIs I2 g,d_getItem hu I2 g ry fun w' s3 I3 rw'=>⟨v,H2,I3,rw',q2⟩⟩
theorem pc_dnotin (hu:X.A.units+1<cLine) (hi:PE X i ty) (ho:PE X o td):PC X .NotIn i o (tDNotIn ty td):=by
 intro pins s σ H Q I h
 refine thn (hi pins s σ H _ I h) fun iv s1 ⟨y,H1,I1,ry,q1⟩=>thn (ho pins s1 σ H1 _ I1 q1) fun u s2 ⟨x,H2,I2,rx,a,ov,ex,g,q2⟩=>?_
 subst ex
 obtain rfl:u=Value.ref a:=rx
 exact d_notIn hu I2 g ry fun s3 I3=>⟨.bl (!ov.isSome),H2,I3,rfl,q2⟩
theorem ps_dput (hu:X.A.units+1<cLine) (ho:PE X o td) (hi:PE X i ty) (hv:PE X value tv) (hs:swapsWith value (some (.Subscript o i pos')) pos.line X.env=pure false) :
  PS X (.Assign [.Subscript o i pos'] value pos) (sDPut td ty tv):=by
 intro pins s σ H D I h
 refine wpAny_Assign_Subscript (thn (hv pins s σ H _ I h) fun r s1 ⟨v,H1,I1,rv,q1⟩=>thn (ho pins s1 σ H1 _ I1 q1) fun u s2 ⟨x,H2,I2,rx,q2⟩=>thn (hi pins s2 σ H2 _ I2 q2) fun iv s3 ⟨y,H3,I3,ry,a,H4,ex,g,q3⟩=>?_) hs
 subst ex
 obtain rfl:u=Value.ref a:=rx
 exact d_setItem hu I3 g ry rv fun s4 I4=>⟨σ,H4,I4,q3⟩
end


theorem dt_empty {P:Program}{w:World}{H:Hp}(h:Heap) (hb:sysModules<h.objs.size):ObjOk P w H (h.push { cls:=.type "dict", data:=.dict #[] }) h.objs.size (.dT []) :=
 ⟨Nat.zero_le _,beq_eq_false_iff_ne.mpr (Ne.symm (Nat.ne_of_lt hb)),[],.nil,_,#[],0,Heap.get?_push_size _ rfl,⟨rfl,rfl,rfl⟩,rfl,rfl,List.nodup_nil⟩
def tDNewT:TE:=fun _ H Q=>∀p,H p=none→Q (.ref p) (upd H p (.dT []))
section
variable {X:Cx}{pos:Pos}
theorem pe_dnewT:PE X (.Dict [] [] pos) tDNewT:=fun pins s σ H Q I h =>
 wpAny_Dict_empty ⟨.ref s.heap.objs.size,_,I.laid (a:=s.heap.objs.size) (o:=.dT []) (t':=s.toks) (fun _ _ q=>Heap.get?_push_of_some _ q) (Nat.le_refl _) (dt_empty s.heap I.big),rfl,h _ (I.hok.fresh (Nat.le_refl _))⟩
end

end L2
namespace L2
open PySem PySem.Spec PyProof.Rows
section
variable {κ:Type} [DecidableEq κ]
end
end L2

namespace L2
open PySem NM PyProof.Rows
structure CutAt (H:Hp) (dn sa:Addr) (w:Nat) (kvs:List (List Key × V)) (rs:List V) (st:List (Nat × Nat)):Prop where
 hd:H dn=some (.dT kvs)
 hs:H sa=some (.lst rs)
 sp:StepsAt H rs (st.map pairI)
 ok:∀(k:Nat) p,st[k]? = some p→p.1<w+k∧p.2<w+k
 kv:∀k v,valV kvs k=some v→∃u:Nat,v=.int (u:Nat)∧u<w+st.length
 ln:kvs.length≤st.length
def But (dn sa:Addr) (H H':Hp):Prop:=∀b o,b≠dn→b≠sa→H b=some o→H' b=some o
theorem But.refl {dn sa:Addr}(H:Hp):But dn sa H H:=fun _ _ _ _ h=>h
theorem But.trans {dn sa:Addr}{H H1 H2:Hp}(a:But dn sa H H1) (b:But dn sa H1 H2):But dn sa H H2:=fun c o h1 h2 h=>b c o h1 h2 (a c o h1 h2 h)
theorem But.same {dn sa:Addr}{H H':Hp}(s:Same H H'):But dn sa H H':=fun c o _ _ h=>s c o h
theorem But.dn {dn sa:Addr}{H:Hp}{o:HO}:But dn sa H (upd H dn o):=fun c u h1 _ h=>by rw [upd_ne h1];exact h
theorem But.sa {dn sa:Addr}{H:Hp}{o:HO}:But dn sa H (upd H sa o):=fun c u _ h1 h=>by rw [upd_ne h1];exact h
theorem CutAt.ne {H:Hp}{dn sa:Addr}{w:Nat}{kvs:List (List Key × V)}{rs:List V}{st:List (Nat × Nat)}(c:CutAt H dn sa w kvs rs st):dn≠sa:=ne_of c.hd c.hs (by intro z;cases z)
theorem CutAt.new {H:Hp}{dn sa t:Addr}{o:HO}{w:Nat}{kvs:List (List Key × V)}{rs:List V}{st:List (Nat × Nat)}(c:CutAt H dn sa w kvs rs st) (h:H t=Option.none):CutAt (upd H t o) dn sa w kvs rs st :=
 ⟨new_at h c.hd,new_at h c.hs,c.sp.mono (Same.new h),c.ok,c.kv,c.ln⟩
theorem But.all {K:PySem.W.Frag}{dn sa a:Addr}{H:Hp}{xs:List V}(h:SqL K H a xs) (f1:H dn=Option.none) (f2:H sa=Option.none) {H2:Hp}(s:Same H H2):∀H1,But dn sa H2 H1→SqL K H1 a xs:=fun H1 b=>by
 rcases h with (h|⟨o,h⟩)|h
 ·exact .inl (.inl (b _ _ (ne_of_none h f1) (ne_of_none h f2) (s _ _ h)))
 ·exact .inl (.inr ⟨o,b _ _ (ne_of_none h f1) (ne_of_none h f2) (s _ _ h)⟩)
 ·exact .inr h
inductive spCut (K:PySem.W.Frag) (n:Nat) (vs:List V) (H:Hp) (Q:VK) (_e3:XK):Prop
 | mk:∀(f l w:Nat) (a dn sa:Addr) (ns:List Int) (k:Int) (kvs:List (List Key × V)) (rs:List V) (st:List (Nat × Nat)),(vs=[.int (f:Nat),.int (l:Nat),.ref a,.int k,.ref dn,.ref sa,.int (w:Nat)])→(f≤l)→(l<w)→(l<f+n)→(st.length+(l - f)≤5000)→((∀H1,But dn sa H H1→SqL K H1 a (ns.map V.int)))→(CutAt H dn sa w kvs rs st)→(∀(H':Hp) (v:Nat) (kvs':List (List Key × V)) (rs':List V) (st':List (Nat × Nat)),But dn sa H H'→CutAt H' dn sa w kvs' rs' st'→st.length≤st'.length→st'.length≤st.length+(l - f)→v<w+st'.length→Q (.int (v:Nat)) H')→spCut K n vs H Q _e3
inductive spRight (K:PySem.W.Frag) (vs:List V) (H:Hp) (Q:VK) (_e3:XK):Prop
 | mk:∀(a:Addr) (ns:List Int) (k:Int) (most:Nat),(vs=[.ref a,.int k,.int (most:Nat)])→(1≤most)→(most≤12)→(SqL K H a (ns.map V.int))→(∀(H':Hp) (n sa oa:Addr) (rs:List V) (N:NetN),Same H H'→NetAt H' n N.w N.steps N.outs sa oa rs→N.Ok→N.w≤most→2*N.st.length≤N.w*(N.w - 1)→Q (.ref n) H')→spRight K vs H Q _e3
inductive spBent (K:PySem.W.Frag) (vs:List V) (H:Hp) (Q:VK) (_e3:XK):Prop
 | mk:∀(a:Addr) (ns:List Int) (k:Int) (n sa oa:Addr) (rs:List V) (N:NetN),(vs=[.ref a,.int k,.ref n])→(SqL K H a (ns.map V.int))→(NetAt H n N.w N.steps N.outs sa oa rs)→(N.Ok)→(N.st.length<500)→(∀(H':Hp) (n' sa' oa':Addr) (rs':List V) (N':NetN),Same H H'→NetAt H' n' N'.w N'.steps N'.outs sa' oa' rs'→N'.Ok→N'.w=N.w→N'.st.length≤N.st.length+1→Q (.ref n') H')→spBent K vs H Q _e3
inductive spDrawnN (K:PySem.W.Frag) (vs:List V) (H:Hp) (Q:VK) (_e3:XK):Prop
 | mk:∀(a:Addr) (ns:List Int) (k:Int) (most:Nat),(vs=[.ref a,.int k,.int (most:Nat)])→(1≤most)→(most≤64)→(SqL K H a (ns.map V.int))→(∀(H':Hp) (n sa oa:Addr) (rs:List V) (N:NetN),Same H H'→NetAt H' n N.w N.steps N.outs sa oa rs→N.Ok→N.w≤most→N.st.length≤8→Q (.ref n) H')→spDrawnN K vs H Q _e3
theorem steps_snoc_ok {w:Nat}{st:List (Nat × Nat)}{q:Nat × Nat}(ok:∀(k:Nat) p,st[k]? = some p→p.1<w+k∧p.2<w+k) (h1:q.1<w+st.length) (h2:q.2<w+st.length):∀(k:Nat) p,(st++[q])[k]? = some p→p.1<w+k∧p.2<w+k:=by
 intro k p e
 by_cases hk:k<st.length
 ·rw [List.getElem?_append_left hk] at e;exact ok k p e
 ·rw [List.getElem?_append_right (by lia)] at e
  have h0:k - st.length=0:=by
   have:=(List.getElem?_eq_some_iff.mp e).1
   simp at this;lia
  rw [h0] at e
  simp at e
  subst e
  exact⟨by lia,by lia⟩
theorem cutL_take {α:Type}(xs:List α) (n:Nat):cutL xs none (some (n:Int))=xs.take n:=by
 unfold cutL
 rw [HT.sIx_nat]
 show (xs.drop 0).take (min n xs.length - 0)=xs.take n
 rw [List.drop_zero,Nat.sub_zero]
 by_cases h:n≤xs.length
 ·rw [Nat.min_eq_left h]
 ·rw [Nat.min_eq_right (by lia),List.take_of_length_le (Nat.le_refl _),List.take_of_length_le (by lia)]
theorem cutL_drop {α:Type}(xs:List α) (n:Nat):cutL xs (some (n:Int)) none=xs.drop n:=by
 unfold cutL
 rw [HT.sIx_nat]
 show (xs.drop (min n xs.length)).take (xs.length - min n xs.length)=xs.drop n
 by_cases h:n≤xs.length
 ·rw [Nat.min_eq_left h,List.take_of_length_le (by rw [List.length_drop];solve_by_elim)]
 ·rw [Nat.min_eq_right (by lia),Nat.sub_self,List.take_zero,List.drop_of_length_le (by lia)]
theorem net_step {N:NetN}(o:N.Ok) {i:Nat}{q:Nat × Nat}(hi:i<N.st.length) (h1:q.1<N.w+i) (h2:q.2<N.w+i):NetN.Ok ⟨N.w,N.st.take i++[q]++N.st.drop (i+1),N.ou⟩∧(N.st.take i++[q]++N.st.drop (i+1)).length=N.st.length:=by
 have e:N.st.take i++[q]++N.st.drop (i+1)=N.st.set i q:=by
  rw [List.append_assoc,List.singleton_append,List.set_eq_take_append_cons_drop,if_pos hi]
 rw [e]
 refine⟨⟨o.lo,o.hi,by show (N.st.set i q).length≤500;rw [List.length_set];exact o.len,fun k p hp=>?_,o.ol,fun v hv=>by show v<N.w+(N.st.set i q).length;rw [List.length_set];exact o.ob v hv⟩,List.length_set⟩
 have hp':(N.st.set i q)[k]? = some p:=hp
 show p.1<N.w+k∧p.2<N.w+k
 rw [List.getElem?_set] at hp'
 by_cases hk:i=k
 ·subst hk
  simp [hi] at hp'
  subst hp'
  exact⟨h1,h2⟩
 ·simp [hk] at hp'
  exact o.s1 k p hp'
theorem net_out {N:NetN}(o:N.Ok) {i v:Nat}(hi:i<N.ou.length) (h1:v<N.w+N.st.length):NetN.Ok ⟨N.w,N.st,N.ou.take i++[v]++N.ou.drop (i+1)⟩:=by
 have e:N.ou.take i++[v]++N.ou.drop (i+1)=N.ou.set i v:=by
  rw [List.append_assoc,List.singleton_append,List.set_eq_take_append_cons_drop,if_pos hi]
 rw [e]
 refine⟨o.lo,o.hi,o.len,o.s1,by show (N.ou.set i v).length=N.w;rw [List.length_set];exact o.ol,fun u hu=>?_⟩
 rcases List.mem_or_eq_of_mem_set hu with h|h
 ·exact o.ob u h
 ·subst h;exact h1
theorem net_more {N:NetN}(o:N.Ok) {q:Nat × Nat}(hl:N.st.length<500) (h1:q.1<N.w+N.st.length) (h2:q.2<N.w+N.st.length):NetN.Ok ⟨N.w,N.st++[q],N.ou⟩:=by
 refine⟨o.lo,o.hi,by show (N.st++[q]).length≤500;rw [List.length_append];exact hl,steps_snoc_ok o.s1 h1 h2,o.ol,fun v hv=>?_⟩
 have:=o.ob v hv
 show v<N.w+(N.st++[q]).length
 rw [List.length_append];solve_by_elim
end L2

namespace NM
def wstep (ws:List (List Nat)) (p:Nat × Nat):List (List Nat):=ws++[ws.getD p.1 []++ws.getD p.2 []]
def NetN.wordsTo (N:NetN) (i:Nat):List (List Nat):=(N.st.take i).foldl wstep ((List.range N.w).map fun v=>[v])
def NetN.words (N:NetN):List (List Nat):=N.wordsTo N.st.length
theorem NetN.wordsTo_zero (N:NetN):N.wordsTo 0=(List.range N.w).map fun v=>[v]:=by simp [NetN.wordsTo]
theorem NetN.wordsTo_succ (N:NetN) {i:Nat}{p:Nat × Nat}(h:N.st[i]? = some p):N.wordsTo (i+1)=wstep (N.wordsTo i) p:=foldl_take _ _ _ _ _ h
theorem NetN.wordsTo_len (N:NetN):∀i,i≤N.st.length→(N.wordsTo i).length=N.w+i
 | 0,_=>by rw [N.wordsTo_zero];simp
 | i+1,h=>by
  rw [N.wordsTo_succ (List.getElem?_eq_getElem (by assumption:i<N.st.length)),wstep,List.length_append,N.wordsTo_len i (by solve_by_elim (maxDepth:=3) [Nat.le_of_lt,Nat.lt_of_lt_of_le,Nat.le_trans,Nat.lt_of_le_of_lt])]
  rfl
theorem NetN.words_len (N:NetN):N.words.length=N.w+N.st.length:=N.wordsTo_len _ (Nat.le_refl _)
theorem NetN.wordsTo_keep (N:NetN):∀d i j,i+d≤N.st.length→j<N.w+i→(N.wordsTo (i+d)).getD j []=(N.wordsTo i).getD j []
 | 0,i,j,_,_=>rfl
 | d+1,i,j,h,hj=>by
  have hl:=N.wordsTo_len (i+d) (by solve_by_elim (maxDepth:=3) [Nat.le_of_lt,Nat.lt_of_lt_of_le,Nat.le_trans,Nat.lt_of_le_of_lt])
  rw [show i+(d+1)=i+d+1 by rfl,N.wordsTo_succ (List.getElem?_eq_getElem (by assumption:i+d<N.st.length)),wstep,List.getD_eq_getElem?_getD,List.getElem?_append_left (by lia),←List.getD_eq_getElem?_getD]
  exact N.wordsTo_keep d i j (by solve_by_elim (maxDepth:=3) [Nat.le_of_lt,Nat.lt_of_lt_of_le,Nat.le_trans,Nat.lt_of_le_of_lt]) hj
theorem NetN.word_low (N:NetN) {j:Nat}(h:j<N.w):N.words.getD j []=[j]:=by
 have:=N.wordsTo_keep N.st.length 0 j (by lia) (by lia)
 rw [Nat.zero_add] at this
 show (N.wordsTo N.st.length).getD j []=_
 rw [this,N.wordsTo_zero,List.getD_eq_getElem?_getD,List.getElem?_map,List.getElem?_range h]
 rfl
theorem NetN.Ok.word_step {N:NetN}(o:N.Ok) {k:Nat}{p:Nat × Nat}(h:N.st[k]? = some p):N.words.getD (N.w+k) []=N.words.getD p.1 []++N.words.getD p.2 []:=by
 have hk:k<N.st.length:=(List.getElem?_eq_some_iff.mp h).1
 obtain ⟨h1,h2⟩:=o.s1 k p h
 have e:∀i j,i≤N.st.length→j<N.w+i→N.words.getD j []=(N.wordsTo i).getD j []:=fun i j hi hj=>by
  have:=N.wordsTo_keep (N.st.length - i) i j (by lia) hj
  rw [show i+(N.st.length - i)=N.st.length by lia] at this
  exact this
 rw [e (k+1) _ (by assumption) (by exact Nat.lt_succ_self _),e k _ (by solve_by_elim (maxDepth:=3) [Nat.le_of_lt,Nat.lt_of_lt_of_le,Nat.le_trans,Nat.lt_of_le_of_lt]) h1,e k _ (by solve_by_elim (maxDepth:=3) [Nat.le_of_lt,Nat.lt_of_lt_of_le,Nat.le_trans,Nat.lt_of_le_of_lt]) h2,N.wordsTo_succ h,wstep,List.getD_eq_getElem?_getD,List.getElem?_append_right (by rw [N.wordsTo_len k (by solve_by_elim (maxDepth:=3) [Nat.le_of_lt,Nat.lt_of_lt_of_le,Nat.le_trans,Nat.lt_of_le_of_lt])];solve_by_elim),N.wordsTo_len k (by solve_by_elim (maxDepth:=3) [Nat.le_of_lt,Nat.lt_of_lt_of_le,Nat.le_trans,Nat.lt_of_le_of_lt]),Nat.sub_self]
 rfl
theorem NetN.wordsTo_size (N:NetN):∀i,i≤N.st.length→∀u∈N.wordsTo i,u.length≤2 ^ i
 | 0,_,u,hu=>by
  rw [N.wordsTo_zero] at hu
  obtain ⟨v,_,rfl⟩:=List.mem_map.mp hu
  exact Nat.le_refl _
 | i+1,h,u,hu=>by
  have ih:=N.wordsTo_size i (by solve_by_elim (maxDepth:=3) [Nat.le_of_lt,Nat.lt_of_lt_of_le,Nat.le_trans,Nat.lt_of_le_of_lt])
  have g:∀j,((N.wordsTo i).getD j []).length≤2 ^ i:=fun j=>by
   rw [List.getD_eq_getElem?_getD]
   cases e:(N.wordsTo i)[j]? with
   | none=>exact Nat.zero_le _
   | some u=>exact ih u (List.mem_of_getElem? e)
  rw [N.wordsTo_succ (List.getElem?_eq_getElem (by assumption:i<N.st.length)),wstep] at hu
  rw [Nat.pow_succ]
  rcases List.mem_append.mp hu with z|z
  ·have:=ih u z;lia
  ·have:=List.mem_singleton.mp z
   rw [this,List.length_append]
   have:=g (N.st[i]).1
   have:=g (N.st[i]).2
   simp only [List.getD_eq_getElem?_getD] at *
   lia
theorem NetN.Ok.wordsTo_ne {N:NetN}(o:N.Ok):∀i,i≤N.st.length→∀u∈N.wordsTo i,u≠[]
 | 0,_,u,hu=>by
  rw [N.wordsTo_zero] at hu
  obtain ⟨v,_,rfl⟩:=List.mem_map.mp hu
  simp
 | i+1,h,u,hu=>by
  have ih:=o.wordsTo_ne i (by solve_by_elim (maxDepth:=3) [Nat.le_of_lt,Nat.lt_of_lt_of_le,Nat.le_trans,Nat.lt_of_le_of_lt])
  have hi:i<N.st.length:=by assumption
  rw [N.wordsTo_succ (List.getElem?_eq_getElem hi),wstep] at hu
  rcases List.mem_append.mp hu with z|z
  ·exact ih u z
  ·have:=List.mem_singleton.mp z
   rw [this]
   obtain ⟨h1,_⟩:=o.s1 i _ (List.getElem?_eq_getElem hi)
   have hl:=N.wordsTo_len i (by solve_by_elim (maxDepth:=3) [Nat.le_of_lt,Nat.lt_of_lt_of_le,Nat.le_trans,Nat.lt_of_le_of_lt])
   have:(N.wordsTo i).getD (N.st[i]).1 []∈N.wordsTo i:=by
    rw [List.getD_eq_getElem?_getD,List.getElem?_eq_getElem (by lia)]
    exact List.getElem_mem _
   have:=ih _ this
   simp only [List.getD_eq_getElem?_getD] at this ⊢
   intro z
   exact this (List.append_eq_nil_iff.mp z).1
theorem NetN.Ok.used_child {N:NetN}(o:N.Ok) {k:Nat}{p:Nat × Nat}(h:N.st[k]? = some p) (hu:N.used.getD (N.w+k) false=true):N.used.getD p.1 false=true∧N.used.getD p.2 false=true:=by
 obtain ⟨r,hr,hx⟩:=(o.used_iff _).mp hu
 exact⟨(o.used_iff _).mpr ⟨r,hr,.l hx h⟩,(o.used_iff _).mpr ⟨r,hr,.r hx h⟩⟩
theorem NetN.st_getD {N:NetN}{i:Nat}(h:i<N.st.length):N.st[i]? = some (N.st.getD i (0,0)):=by
 rw [List.getD_eq_getElem?_getD,List.getElem?_eq_getElem h];rfl
end NM

namespace L2
open PySem NM PyProof.Rows
def wordsI (ws:List (List Nat)):List (List Int):=ws.map fun u=>u.map Int.ofNat
inductive spWords  (vs:List V) (H:Hp) (Q:VK) (_e3:XK):Prop
 | mk:∀(a sa oa:Addr) (rs:List V) (N:NetN),(vs=[.ref a])→(NetAt H a N.w N.steps N.outs sa oa rs)→(N.Ok)→(N.st.length≤20)→(∀(H':Hp) (l:Addr) (ts:List V),Same H H'→H' l=some (.lst ts)→StepsAt H' ts (wordsI N.words)→Q (.ref l) H')→spWords vs H Q _e3
end L2

namespace L2
open PySem
namespace ST
end ST
end L2

namespace L2
open PySem PySem.Spec PyProof.Rows
open ST
section
variable {prog:Program}{w:World}{A:Around}{E:Value→Shared→Prop}{s:Shared}
end
end L2

namespace L2
open PySem PySem.Spec PyProof.Rows
namespace ST
end ST
open ST
section
variable {prog:Program}{w:World}{A:Around}{E:Value→Shared→Prop}{s:Shared}
end
end L2

namespace L2
open PySem PySem.Spec PyProof.Rows
open ST
section
variable {X:Cx}
end
end L2

namespace L2
open PySem NM PyProof.Rows
theorem comp_tup {K:PySem.W.Frag}{a:Addr}{xs:List V}{js:List Nat}{te:TE}{σ:St}{H:Hp}{Fin:List V→Hp→Prop}(Pv:Nat→List V→Hp→Prop) (h0:Pv 0 [] H) (hl:∀i ys H,i≤xs.length→Pv i ys H→SqT K H a xs) (hz:∀i ys H,i<xs.length→Pv i ys H→ys.length<sizeLine)
  (hs:∀i x ys H (T:V→Hp→Prop),xs[i]? = some x→Pv i ys H→(∀y H2,Pv (i+1) (ys++[y]) H2→T y H2)→te (compSt (some x) σ js) H T) (hd:∀ys H,Pv xs.length ys H→Fin ys H):compGo (Itt K a) js none te σ H Fin:=by
 refine⟨fun i m ys H=>m=xs.length - i∧i≤xs.length∧Pv i ys H,⟨xs.length,by simp,Nat.zero_le _,h0⟩,?_⟩
 rintro i m ys H ⟨rfl,hi,p⟩
 have q:=hl i ys H hi p
 by_cases hlt:i<xs.length
 ·refine .inr ⟨⟨xs,xs[i],q,by simp [hlt]⟩,hz i ys H hlt p,fun x H' y=>?_⟩
  obtain ⟨e,y⟩:=y
  subst e
  unfold tests
  simp only [if_true]
  exact hs i x ys _ _ (y xs q) p fun y H2 p2=>⟨xs.length - (i+1),by lia,rfl,hlt,p2⟩
 ·have e:i=xs.length:=by lia
  subst e
  exact .inl ⟨⟨xs,q,Nat.le_refl _⟩,hd ys H p⟩
theorem ixN_last (n:Nat):ixN (n+1) (-1)=some n:=by
 unfold ixN
 rw [if_neg (by decide),if_pos (by lia)]
 congr 1
 lia
end L2

namespace L2
open PySem PySem.Spec PyProof.Rows
structure Dv (P:Program) (w:World) (K:PySem.W.Frag) (mg:Str→Option Value) (base:Heap) (f:Addr) (k:Nat) (sp:Sp):Prop where
 ex:∃fd ps,PySem.W.keepIn K (.ref f)=true∧Binds K fd ps []∧FnOk P w K mg base (CX1 P w) k f fd ps sp
section
variable {X:Cx}
inductive tCallV (P:Program) (w:World) (K:PySem.W.Frag) (mg:Str→Option Value) (base:Heap) (i:Nat) (k:Nat) (E:XK) (t:TA) (σ:St) (H:Hp) (Q:VK):Prop
 | mk:∀f,(σ[i]? = some (some (.ref f)))→∀sp,(Dv P w K mg base f k sp)→(t σ H fun vs H1=>sp vs H1 Q E)→tCallV P w K mg base i k E t σ H Q
theorem pe_callV {k:Nat}(i:Nat) {x:Str}{E:XK}{p pos:Pos}{e:Expr}{es:List Expr}{t:TA}(hr:Room k X.A) (hx:Passes (CX1 X.prog X.w) X E) (ha:PA X (e::es) t) (hN:X.N[i]? = some x:=by rfl)
  (hv:Vis X.env.scope x:=by first|exact Or.inl rfl|exact Or.inr (Or.inl rfl)|exact Or.inr (Or.inr rfl)) (hd:(x==("__debug__" : Str))=false:=by decide) (hcd:(x==("__classdict__" : Str))=false:=by decide)
  (he:starEach (e::es) X.env=(false,eval e X.env)::starEach es X.env:=by rfl) (hpl:(backTo pos (starEach es X.env)).any (·.1)=false:=by rfl):PE X (.Call (.Name x p) (e::es) [] pos) (tCallV X.prog X.w X.K X.mg X.base i k E t):=by
 intro pins s σ H Q I h
 obtain ⟨f,hf,sp,D,h⟩:=h
 refine L2.ob_eeaa D.ex fun fd ps hk hb F=>?_
 have L:=pe_var (X:=X) (i:=i) (pos:=p) hN hv hd hcd pins s σ H (fun v H1=>v=.ref f∧H1=H) I (tVar.of hf ⟨rfl,rfl⟩)
 refine wpAny_Call_Name_kw (thn L fun u s0 ⟨v,H0,I0,r0,e1,e2⟩=>?_)
 subst e1 e2
 cases r0
 refine PySem.W.callWith_K (h₀:=X.base) I0.ok.mod.kin hk (thn (ha pos pins s0 σ H0 _ I0 h) fun us s1 ⟨vs,H1,I1,r,q⟩=>⟨I1.kIn,?_⟩) he hpl
 exact run_fn F hr hb (dvs:=[]) .nil hx I1 r (by rw [List.append_nil];exact q)
structure KDict (P:Program) (w:World) (K:PySem.W.Frag) (D:Addr) (kvs:List (Key × V)):Prop where
 ns:(D==sysModules)=false
 ex:∃vs,KV kvs vs∧∀h:Heap,K.In h→h.DictOf (mixKind P w) D vs
inductive rNotInKD (P:Program) (w:World) (K:PySem.W.Frag) (x:V) (y:V) (H:Hp) (Q:VK):Prop
 | mk:∀D kvs k,(y=.ref D)→(KDict P w K D kvs)→(x=kV k)→(Q (.bl (!(valV kvs k).isSome)) H)→rNotInKD P w K x y H Q
theorem op_notInKD:OpR X (compareOp .NotIn) (rNotInKD X.prog X.w X.K):=by
 intro pins s σ H x y v u Q I rx ry h
 obtain ⟨D,kvs,k,rfl,kd,rfl,q⟩:=h
 cases ry
 obtain ⟨vs,rel,dd⟩:=kd.ex
 refine wpAny_notIn_of (kV_is rx) kd.ns (dd _ I.kIn).mapOf ?_
 rw [←(rel.val k).isSome_eq]
 exact⟨.bl _,H,I.tok _,rfl,q⟩
inductive rIxKD (P:Program) (w:World) (K:PySem.W.Frag) (x:V) (y:V) (H:Hp) (Q:VK):Prop
 | mk:∀D kvs k v,(x=.ref D)→(KDict P w K D kvs)→(y=kV k)→(valV kvs k=some v)→(Q v H)→rIxKD P w K x y H Q
theorem ix_kd:IxR X (rIxKD X.prog X.w X.K):=by
 intro value slice pins s σ H x y v u Q I rx ry h hs
 obtain ⟨D,kvs,k,z,rfl,kd,rfl,hz,q⟩:=h
 cases rx
 refine L2.ob_ea kd.ex fun vs rel dd=>?_
 refine L2.ob_ea (RelO.some_of (v:=z) (o:=valueAt vs k) (by rw [←hz];exact rel.val k)) fun w' hw rw'=>?_
 exact tail_any (dd _ I.kIn).typeIs PySem.F.slot_dict_getitem.lookup (wpAny_getItem_of (kV_is ry) (dd _ I.kIn).mapOf hw ⟨z,H,I.tok _,rw',q⟩) hs
theorem kdict3 {P:Program}{w:World}{K:PySem.W.Frag}{D:Addr}{k1 k2 k3:Str}{t1 t2 t3:Tok}{f1 f2 f3:Addr}{n:Nat}(hD:(D==sysModules)=false) (h12:k1≠k2) (h13:k1≠k3) (h23:k2≠k3)
  (l:K.lookup D=some { cls:=.type "dict", data:=.dict #[{ hash:=PyData.keyHash w.params k1,key:=.str k1 t1,val:=.ref f1 },{ hash:=PyData.keyHash w.params k2,key:=.str k2 t2,val:=.ref f2 },{ hash:=PyData.keyHash w.params k3,key:=.str k3 t3,val:=.ref f3 }] n }) :
  KDict P w K D [(Sum.inr k1,.ref f1),(Sum.inr k2,.ref f2),(Sum.inr k3,.ref f3)]:=by
 refine⟨hD,[(Sum.inr k1,.ref f1),(Sum.inr k2,.ref f2),(Sum.inr k3,.ref f3)],.cons ⟨rfl,rfl⟩ (.cons ⟨rfl,rfl⟩ (.cons ⟨rfl,rfl⟩ .nil)),fun h X=>?_⟩
 refine⟨_,_,_,X _ _ l,⟨rfl,rfl,rfl⟩,rfl,?_,?_,?_⟩
 ·intro e he
  simp only [List.mem_toArray,List.mem_cons,List.not_mem_nil,or_false] at he
  rcases he with rfl|rfl|rfl
  ·exact⟨.inr k1,keyIs_str k1 t1,rfl⟩
  ·exact⟨.inr k2,keyIs_str k2 t2,rfl⟩
  ·exact⟨.inr k3,keyIs_str k3 t3,rfl⟩
 ·exact .cons (keyIs_str k1 t1) rfl (.cons (keyIs_str k2 t2) rfl (.cons (keyIs_str k3 t3) rfl .nil))
 ·simp [h12,h13,h23]
end
end L2

namespace L2
open PySem PySem.Spec PyProof.Rows PySem.Calls
section
variable {X:Cx}{pins:List (Addr × Obj)}{σ:St}{H:Hp}{s:Shared}{scope:Scope}{x:Str}{js:List Nat}
abbrev lamEnv (X:Cx) (scope:Scope) (qual:Str) (f:Addr) (cd:Value) (s:Shared):Env:=PySem.W.envX qual scope s.heap.objs.size f cd (clOf X.env.cells scope.names [])
def lamCx (X:Cx) (scope:Scope) (x:Str) (js:List Nat) (qual:Str) (f:Addr) (cd:Value) (A:Around) (s:Shared) (H:Hp):Cx :=
 { X with A:=A.deeper (lamEnv X scope qual f cd s),N:=compN x X.N js,s₀:=s,H₀:=H,env:=lamEnv X scope qual f cd s,outer:=X.stack,stack:=lamEnv X scope qual f cd s::X.stack,ex:=[],fn:=fun _=>false,calm:=true,pn:=[],xe:=fun _ _=>False }
theorem lam_inv {qual:Str}{f:Addr}{cd:Value}{A:Around}{s₃:Shared}{v:V}{u:Value}{m:Str→Option Value}(O:CompOk scope X.env x X.N js) (I:Inv X pins σ H s) (hd:A.handled=none) (hA:A.frames=X.A.frames)
  (hos:s₃.os=s.os) (hg:AllBare s₃.gens) (hk:∀b o,s.heap.get? b=some o→s₃.heap.get? b=some o) (hn:s₃.heap.Ns s.heap.objs.size m) (hm:m x=some u) (hv:RelV v u) :
  Inv (lamCx X scope x js qual f cd A s H) [] (compSt (some v) σ js) H s₃:=by
 have no:∀b:Addr,b ∉ (lamCx X scope x js qual f cd A s H).ex:=fun b z=>absurd (show b∈([]:List Addr) from z) (by simp)
 refine⟨⟨I.ok.mod,O.kind,rfl,rfl,Nat.le_refl _,fun y z c h1 h2=>I.ok.inj y z c (cl_sub y c h1) (cl_sub z c h2),fun y hy=>?_,(fun y c h=>nomatch h),fun _=>hd,Around.frames_deeper (hA.trans I.ok.frames),.inr ⟨rfl,rfl⟩,fun b z=>absurd z (no b),I.bs,Nat.le_trans I.ok.bsz I.sz,fun b _ _=>no b,fun b z=>absurd z (no b),I.stack,I.stkFree⟩,
  hos,hg,Un.kept hk,⟨m,hn,fun i y v' e1 e2 e3=>?_⟩,fun y c e=>?_,I.hok.fresh (Nat.le_refl _),fun y c e=>I.freeC y c (cl_sub y c e),fun p hp=>?_,I.hok.kept hk,?_⟩
 ·have hy':scope.names.lookup y=some .cell∨scope.names.lookup y=some .free:=hy
  rcases hy' with z|z
  ·exact absurd rfl (O.nocell _ (mem_of_lookup' z))
  ·exact clOf_has (mem_of_lookup' z) (comp_cells O I _ (mem_of_lookup' z) rfl)
 ·cases i with
  | zero =>
   have e2':(some (some v))=some (some v'):=e2
   have e1':some x=some y:=e1
   cases e2'
   obtain rfl:=Option.some.inj e1'
   exact⟨u,hv,.inl ⟨O.x,hm⟩⟩
  | succ k =>
   have e1':(js.map fun j=>X.N.getD j Str.empty)[k]? = some y:=e1
   have e2':(js.map fun j=>(σ[j]?).getD none)[k]? = some (some v'):=e2
   rw [List.getElem?_map] at e1' e2'
   cases q:js[k]? with
   | none=>rw [q] at e1';cases e1'
   | some j =>
    rw [q] at e1' e2'
    have ey:X.N.getD j Str.empty=y:=Option.some.inj e1'
    have ev:(σ[j]?).getD none=some v':=Option.some.inj e2'
    obtain ⟨hj,hfree⟩:=O.js j (List.mem_of_getElem? q)
    rw [ey] at hfree
    have hNj:X.N[j]? = some y:=by
     rw [List.getD_eq_getElem?_getD,List.getElem?_eq_getElem hj] at ey
     rw [List.getElem?_eq_getElem hj]
     exact congrArg some ey
    have hσ:σ[j]? = some (some v'):=by
     cases z:σ[j]? with
     | none=>rw [z] at ev;cases ev
     | some o=>rw [z] at ev;exact congrArg some ev
    have hkind:=O.fr (y,.free) (mem_of_lookup' hfree) rfl
    refine L2.ob_ea I.loc fun mX hnX hl=>?_
    obtain ⟨u',r,l⟩:=hl j y v' hNj hσ (by
     rcases hkind with z|z
     ·exact .inr (.inl z)
     ·exact .inr (.inr z))
    refine⟨u',r,?_⟩
    rcases l with ⟨z,_⟩|⟨_,c,hcell,hv'⟩
    ·rcases hkind with z2|z2
     ·rw [z] at z2;cases z2
     ·rw [z] at z2;cases z2
    ·obtain ⟨c',hc'⟩:=clOf_has (cells:=X.env.cells) (cs:=[]) (mem_of_lookup' hfree) ⟨c,hcell⟩
     have:c'=c:=by
      have z:=cl_sub y c' hc'
      rw [hcell] at z;obtain rfl:=Option.some.inj z;rfl
     subst this
     obtain ⟨o,ho,hd⟩:=hv'
     exact .inr ⟨.inr hfree,c',hc',o,hk _ _ ho,hd⟩
 ·obtain ⟨v,o,ho,hd⟩:=I.cell y c (cl_sub y c e)
  exact⟨v,o,hk _ _ ho,hd⟩
 ·exact absurd (show p∈([]:List (Addr × Obj)) from hp) (by simp)
 ·show (compSt (some v) σ js).length=(compN x X.N js).length
  unfold compSt compN
  simp
theorem lam_run {k:Nat}{qual:Str}{params:Arguments}{body:Expr}{pm ctv:Value}{c' f:Addr}{A:Around}{v:V}{u:Value}{Q:VK}{t:TE}{E:Value→Shared→Prop}
  (hok:compOk scope X.env x X.N js=true) (hbind:∀(cl:List (Str × Addr)) (cd ctv w:Value),bindArgs (PySem.W.kla_fn "<lambda>" qual params body scope cl pm cd ctv) ⟨[w],[]⟩=pure [(x,w)])
  (hco:scope.isCoroutine=false) (hgen:scope.isGenerator=false)
  (hbody:∀(cd:Value) (A:Around) (s:Shared) (H:Hp),Room k A→PE (lamCx X scope x js qual f cd A s H) body t)
  (hr:Room k A) (hA:A.frames=X.A.frames) (I:Inv X pins σ H s) (hf:s.heap.get? f=some (PySem.W.kla_obj "<lambda>" qual params body scope (clOf X.env.cells scope.names []) pm c' ctv)) (hcd:s.heap.CodeRec (.ref c') qual)
  (hv:RelV v u) (ht:t (compSt (some v) σ js) H Q):wpAny (model X.prog X.w) A (call (.ref f) [u]) (EP X pins σ Q) E s:=by
 have O:=compOk_of hok
 refine wpAny_call ?_
 refine PySem.W.kla_callFunE hr.depth hf rfl hco hgen rfl hcd ?_
 rw [hbind]
 refine wpAny_pure (wpAny_newFunctionEnv O.nocell (fun y hy=>?_) (fun h₁ hns hsb=>⟨(I.nolimit).fresh _ hsb,?_⟩) O.kind)
 ·obtain rfl:y=(x,u):=List.mem_singleton.mp hy
  exact O.x
 show codeAny _ _ (.expr body (lamEnv X scope qual f (.ref c') s)) _ _
 have hk₁:∀b o,s.heap.get? b=some o→h₁.get? b=some o:=fun b o e=>hsb.extBut b o (Nat.ne_of_lt (Heap.lt_size e)) (Heap.get?_push_of_some _ e)
 have I1:Inv (lamCx X scope x js qual f (.ref c') A s H) [] (compSt (some v) σ js) H { s with heap:=h₁,toks:=s.toks+1 }:=lam_inv (m:=fun y=>([(x,u)]:List (Str × Value)).reverse.lookup y) O I hr.hd hA rfl I.bare hk₁ hns (by simp) hv
 refine PySem.W.kla_codeExpr (wpAny_mono (hbody (.ref c') A s H hr [] _ _ H Q I1 ht) (fun u' s' ⟨v',H',I',r,q⟩=>?_) fun _ _ z=>z.elim)
 exact I.after ⟨v',H',I'.os,I'.bare,I'.base,I'.hok,r,q⟩
end
end L2

namespace L2
open PySem PySem.Spec PyProof.Rows PySem.Calls
section
variable {X:Cx}{σ:St}{H:Hp}{s:Shared}
theorem Inv.turn1 {pins pl:List (Addr × Obj)}{a:Addr}{o o':Obj}{h':Heap}{t':Nat}(I:Inv X (pins++(a,o)::pl) σ H s) (hs:X.s₀.heap.objs.size≤a) (hn:∀p∈X.pn++pins,p.1≠a) (hl:∀p∈pl,p.1≠a)
  (k:∀b u,b≠a→s.heap.get? b=some u→h'.get? b=some u) (ho':h'.get? a=some o') (hd:∀v,o'.data ≠ .cell v):Inv X (pins++(a,o')::pl) σ H { s with heap:=h',toks:=t' }:=by
 have hp:=I.pin (a,o) (List.mem_append_right _ (List.mem_append_right _ (.head _)))
 have I1:Inv X (pins++pl) σ H s:=I.pins_of fun p hp=>I.pin p (List.mem_append_right _ ((List.mem_append.mp hp).elim (fun z=>List.mem_append_left _ z) fun z=>List.mem_append_right _ (.tail _ z)))
 have I2:Inv X (pins++pl) σ H { s with heap:=h',toks:=t' }:=I1.turned k hp.2.1 hp.2.2.1 (.inr hs) (fun x c e z=>by
  obtain ⟨v,oc,h1,h2⟩:=I.cell x c e
  rw [z,hp.1] at h1
  obtain rfl:=Option.some.inj h1
  exact hp.2.2.2.2 _ h2) fun p q=>by
   rcases List.mem_append.mp q with z|z
   ·exact hn p (List.mem_append_left _ z)
   ·rcases List.mem_append.mp z with z|z
    ·exact hn p (List.mem_append_right _ z)
    ·exact hl p z
 refine I2.pins_of fun p q=>?_
 rcases List.mem_append.mp q with z|z
 ·exact I2.pin p (List.mem_append_right _ (List.mem_append_left _ z))
 ·rcases List.mem_cons.mp z with rfl|z
  ·exact⟨ho',hp.2.1,hp.2.2.1,hp.2.2.2.1,hd⟩
  ·exact I2.pin p (List.mem_append_right _ (List.mem_append_right _ z))
theorem Inv.pin1 {pins:List (Addr × Obj)}{o:Obj}(I:Inv X pins σ H s) (hd:∀v,o.data ≠ .cell v) (hf:o.isFreed=false:=by rfl):Inv X (pins++[(s.heap.objs.size,o)]) σ H { s with heap:=s.heap.push o }:=by
 have f:=I.fpOk (b:=s.heap.objs.size) (Nat.le_refl _) I.fresh
 have I1:Inv X pins σ H { s with heap:=s.heap.push o }:=I.kept (t':=s.toks) fun b u e=>Heap.get?_push_of_some _ e
 refine I1.pins_of fun p q=>?_
 rcases List.mem_append.mp q with z|z
 ·exact I1.pin p (List.mem_append_right _ z)
 ·obtain rfl:=List.mem_singleton.mp z
  exact⟨Heap.get?_push_size _ hf,f.1,f.2.1,f.2.2.1,hd⟩
theorem Inv.apart {pins:List (Addr × Obj)}(I:Inv X pins σ H s):∀p∈X.pn++pins,p.1≠s.heap.objs.size:=(I.fpOk (b:=s.heap.objs.size) (Nat.le_refl _) I.fresh).2.2.2.2.2
theorem min_loop {pins:List (Addr × Obj)}{l f It S:Addr}{xs:List V}{G:Hp→Prop}{R:Result→Shared→Prop}(hh:X.A.handled=none)
  (hl:∀H',G H'→SqL X.K H' l xs) (hI:X.s₀.heap.objs.size≤It) (hS:X.s₀.heap.objs.size≤S) (hSI:S≠It) (nI:∀p∈X.pn++pins,p.1≠It) (nS:∀p∈X.pn++pins,p.1≠S)
  (turn:∀(pl:List (Addr × Obj)) (H':Hp) (s':Shared) (v:V) (u:Value),Inv X (pins++pl) σ H' s'→G H'→v∈xs→RelV v u →
   wpAny (model X.prog X.w) X.A.in1 (call (.ref f) [u]) (EP X (pins++pl) σ fun r H''=>(∃i,r=.int i)∧G H'') (fun _ _=>False) s')
  (hR:∀v u H' s',v∈xs→RelV v u→G H'→Inv X pins σ H' s'→R (.ok (.ret u)) s') :
  ∀(r j:Nat) (H':Hp) (s':Shared) (vb:V) (ub:Value) (kb:Int) (tb:Tok) (c:Nat) (oI:Obj),xs.length - (j+1)=r→j+1≤xs.length→G H' →
   Inv X (pins++[(S,seqObj "list" #[ub,.int kb tb] c),(It,oI)]) σ H' s'→s'.heap.IsListIter It l (j+1)→vb∈xs→RelV vb ub →
   codeAny (model X.prog X.w) X.A (.builtin "min.loop" ⟨[.ref It,.ref f,.ref S],[]⟩) R s':=by
 have hname:(toString "min" ++ toString ".loop" : String) = "min.loop" := by decide
 intro r
 induction r with
 | zero =>
  intro j H' s' vb ub kb tb c oI hr hj g I hit hvb rvb
  refine L2.ob_eaa (I.list (hl H' g)) fun its rv pl _=>?_
  have hlen:xs.length=its.length:=rv.length
  have hlI:l≠It:=fun e=>by
   have h1:=pl.isList
   obtain ⟨o1,e1,_,_,d1⟩:=h1
   obtain ⟨o2,e2,_,d2⟩:=hit
   rw [e,e2] at e1
   obtain rfl:=Option.some.inj e1
   rw [d2] at d1
   cases d1
  have W:=Walks.list (prog:=X.prog) (w:=X.w) (A:=X.A.in1) hh It l hlI its.toArray
  have hsz:its.toArray.size=its.length:=List.size_toArray ..
  have pS:=I.pin (S,seqObj "list" #[ub,.int kb tb] c) (List.mem_append_right _ (List.mem_append_right _ (.head _)))
  refine codeAny_builtin PySem.F.entry_min_loop ?_
  rw [Around.under_plainId PySem.F.plain_min_loop _]
  show wpAny _ X.A.in1 (seqItems? (.ref S) >>= _) _ _ _
  refine wpAny_bind (wpAny_seqItems pS.1 rfl ?_)
  show wpAny _ X.A.in1 (tryCatch (pyNext (.ref It)) _ >>= _) _ _ _
  refine wpAny_bind (wpAny_tryCatch (W.done _ _ _ ⟨by rw [hsz,show its.length=j+1 by lia];exact hit,pl.isList⟩ fun h' tk' hk'=>?_))
  have hS':=hk' S _ (by simpa using hSI) pS.1
  have s1:=Heap.SameBut.update h' S (Obj.mapSeq fun _=>(#[]:Array Value))
  show wpAny _ X.A.in1 (updateSeq S (fun _=>#[]) >>= _) _ _ _
  refine wpAny_bind ?_
  refine wpAny_updateSeq hS' rfl (wpAny_bind (wpAny_letGo (wpAny_pure ?_)))
  have I0:Inv X pins σ H' s':=I.unpinned
  have pI:=I.pin (It,oI) (List.mem_append_right _ (List.mem_append_right _ (.tail _ (.head _))))
  have cI:∀(a:Addr) (o:Obj),s'.heap.get? a=some o→(∀v,o.data ≠ .cell v)→∀x c,X.env.cells.lookup x=some c→c≠a:=fun a o q d x c e z=>by
   obtain ⟨v,oc,h1,h2⟩:=I.cell x c e
   rw [z,q] at h1
   obtain rfl:=Option.some.inj h1
   exact d _ h2
  have I1:Inv X pins σ H' { s' with heap:=h',toks:=tk' }:=I0.turned (fun b o hb e=>hk' b o (by simpa using hb) e) pI.2.1 pI.2.2.1 (.inr hI) (cI _ _ pI.1 pI.2.2.2.2) nI
  have I2:Inv X pins σ H' { s' with heap:=h'.update S (Obj.mapSeq fun _=>(#[]:Array Value)),toks:=tk' } :=
   I1.turned (t':=tk') (fun b o hb e=>(s1.2 b hb).trans e) pS.2.1 pS.2.2.1 (.inr hS) (cI _ _ pS.1 pS.2.2.2.2) nS
  exact hR vb ub H' _ hvb rvb g I2
 | succ r ih =>
  intro j H' s' vb ub kb tb c oI hr hj g I hit hvb rvb
  refine L2.ob_eaa (I.list (hl H' g)) fun its rv pl _=>?_
  have hlen:xs.length=its.length:=rv.length
  have hlI:l≠It:=fun e=>by
   have h1:=pl.isList
   obtain ⟨o1,e1,_,_,d1⟩:=h1
   obtain ⟨o2,e2,_,d2⟩:=hit
   rw [e,e2] at e1
   obtain rfl:=Option.some.inj e1
   rw [d2] at d1
   cases d1
  have W:=Walks.list (prog:=X.prog) (w:=X.w) (A:=X.A.in1) hh It l hlI its.toArray
  have hsz:its.toArray.size=its.length:=List.size_toArray ..
  have pS:=I.pin (S,seqObj "list" #[ub,.int kb tb] c) (List.mem_append_right _ (List.mem_append_right _ (.head _)))
  refine codeAny_builtin PySem.F.entry_min_loop ?_
  rw [Around.under_plainId PySem.F.plain_min_loop _]
  show wpAny _ X.A.in1 (seqItems? (.ref S) >>= _) _ _ _
  refine wpAny_bind (wpAny_seqItems pS.1 rfl ?_)
  show wpAny _ X.A.in1 (tryCatch (pyNext (.ref It)) _ >>= _) _ _ _
  refine wpAny_bind (wpAny_tryCatch (W.item (j+1) _ _ _ (by rw [hsz];lia) ⟨hit,pl.isList⟩ fun u h' tk' hP hst' hk'=>?_))
  have hu:its[j+1]? = some u:=by simpa using hP
  obtain ⟨v,hv⟩:∃v,xs[j+1]? = some v:=⟨_,List.getElem?_eq_getElem (by lia)⟩
  refine L2.ob_ea (rv.get hv) fun u' hu' ruv=>?_
  rw [hu] at hu';obtain rfl:=Option.some.inj hu'
  obtain ⟨oI',hoI',hoc,hod⟩:=id hst'.1
  have e2:∀(a b:Addr × Obj),pins++[a,b]=(pins++[a])++b::[]:=fun a b=>by simp
  have I1:Inv X (pins++[(S,seqObj "list" #[ub,.int kb tb] c),(It,oI')]) σ H' { s' with heap:=h',toks:=tk' }:=by
   rw [e2] at I ⊢
   refine I.turn1 hI (fun p q=>?_) (fun p q=>by cases q) (fun b o hb e=>hk' b o (by simpa using hb) e) hoI' (by rw [hod];nofun)
   rcases List.mem_append.mp q with z|z
   ·exact nI p (List.mem_append_left _ z)
   ·rcases List.mem_append.mp z with z|z
    ·exact nI p (List.mem_append_right _ z)
    ·obtain rfl:=List.mem_singleton.mp z
     exact hSI
  show wpAny _ X.A.in1 (tryCatch (holding [u] (call (.ref f) [u])) _ >>= _) _ _ _
  refine wpAny_bind (wpAny_tryCatch (wpAny_holding (wpAny_mono (turn _ H' _ v u I1 g (List.mem_of_getElem? hv) ruv) (fun x s'' he=>?_) fun _ _ hF=>hF.elim)))
  obtain ⟨xv,H2,I2,rx,⟨ki,rfl⟩,g2⟩:=he
  obtain ⟨t2,rfl⟩:∃t2,x=.int ki t2:=rx
  have pS2:=I2.pin (S,seqObj "list" #[ub,.int kb tb] c) (List.mem_append_right _ (List.mem_append_right _ (.head _)))
  have pI2:=I2.pin (It,oI') (List.mem_append_right _ (List.mem_append_right _ (.tail _ (.head _))))
  have hit2:s''.heap.IsListIter It l (j+1+1):=⟨oI',pI2.1,hoc,hod⟩
  show wpAny _ X.A.in1 (tryCatch (holding [u,.int ki t2] (richCompare .Lt (.int ki t2) (.int kb tb) >>= _)) _ >>= _) _ _ _
  refine wpAny_bind (wpAny_tryCatch (wpAny_holding (wpAny_bind (CmpOf.ints_lt (prog:=X.prog) (w:=X.w) (A:=X.A.in1) (P:=fun (i:Nat) v=>∃t,v=.int (if i=0 then kb else ki) t) (fun i=>if i=0 then kb else ki) (fun i v h=>h) 1 0 _ _ _ _ _ ⟨t2,rfl⟩ ⟨tb,rfl⟩ ?_))))
  refine wpAny_bind (wpAny_holding (wpAny_truthy_bool ?_))
  refine wpAny_bind (wpAny_letGo (wpAny_pure ?_))
  show wpAny _ _ (if decide (ki<kb)=true then _ else _) _ _ _
  by_cases hb':ki<kb
  ·rw [if_pos (decide_eq_true hb')]
   have s1:=Heap.SameBut.update s''.heap S (Obj.mapSeq fun _=>#[u,.int ki t2])
   obtain ⟨c2,hc2⟩:∃c2,(s''.heap.update S (Obj.mapSeq fun _=>#[u,.int ki t2])).get? S=some (seqObj "list" #[u,.int ki t2] c2):=⟨_,get?_update_seq pS2.1 fun _=>#[u,.int ki t2]⟩
   refine wpAny_bind ?_
   refine wpAny_updateSeq pS2.1 rfl (wpAny_bind (wpAny_letGo ?_))
   rw [hname]
   refine wpAny_pure ⟨plainId_quiet PySem.F.plain_min_loop _,ih (j+1) H2 _ v u ki t2 c2 oI' (by lia) (by lia) g2 ?_ ⟨oI',(s1.2 It hSI.symm).trans pI2.1,hoc,hod⟩ (List.mem_of_getElem? hv) ruv⟩
   exact I2.turn1 (t':=s''.toks) hS nS (fun p q=>by
    obtain rfl:=List.mem_singleton.mp q
    exact hSI.symm) (fun b o hb e=>(s1.2 b hb).trans e) hc2 (by first|(rintro _ _ ⟨⟩;done)|(rintro _ ⟨⟩;done)|(rintro ⟨⟩;done)|nofun)
  ·rw [if_neg (by simpa using hb')]
   refine wpAny_bind (wpAny_letGo ?_)
   rw [hname]
   exact wpAny_pure ⟨plainId_quiet PySem.F.plain_min_loop _,ih (j+1) H2 _ vb ub kb tb c oI' (by lia) (by lia) g2 I2 hit2 hvb rvb⟩
theorem min_key {pins:List (Addr × Obj)}{l f:Addr}{xs:List V}{G:Hp→Prop}{Q:VK}(hh:X.A.handled=none) (I:Inv X pins σ H s) (g:G H) (hne:xs≠[])
  (hl:∀H',G H'→SqL X.K H' l xs)
  (turn:∀(pl:List (Addr × Obj)) (H':Hp) (s':Shared) (v:V) (u:Value),Inv X (pins++pl) σ H' s'→G H'→v∈xs→RelV v u →
   wpAny (model X.prog X.w) X.A.in1 (call (.ref f) [u]) (EP X (pins++pl) σ fun r H''=>(∃i,r=.int i)∧G H'') (fun _ _=>False) s')
  (hQ:∀v H',v∈xs→G H'→Q v H') :
  wpAny (model X.prog X.w) X.A (call (.builtin "min") [.ref l] [(Str.ofString "key", .ref f)]) (EP X pins σ Q) X.xe s:=by
 have hname:(toString "min" ++ toString ".loop" : String) = "min.loop" := by decide
 refine L2.ob_eaa (I.list (hl H g)) fun its rv pl _=>?_
 have hlen:xs.length=its.length:=rv.length
 have hpos:0<xs.length:=List.length_pos_iff.mpr hne
 have hls:=pl.isList
 obtain ⟨ol,hol,hold⟩:=id hls
 refine kmk_tree PySem.F.kind_min PySem.F.plain_min PySem.F.entry_min (kmk_min_key _ _) ?_
 show wpAny _ X.A.in1 (Builtin.Builtins.bindParams "min" ["key", "default"] 0 ⟨[],[(Str.ofString "key", .ref f)]⟩ >>= _) _ _ s
 refine wpAny_bind (wpAny_of_eq (show Builtin.Builtins.bindParams "min" ["key", "default"] 0 ⟨[],[(Str.ofString "key", .ref f)]⟩=pure [some (.ref f),none] from rfl) ?_)
 refine wpAny_bind (wpAny_pure ?_)
 refine wpAny_bind (wpAny_pyIter_list hls ?_)
 refine wpAny_bind (wpAny_newList ?_ (Nat.zero_le _))
 rw [hname]
 refine wpAny_pure ⟨plainId_quiet PySem.F.plain_min_loop _,?_⟩
 have I1:=I.pin1 (o:={ cls:=.type "list_iterator", data:=.fields #[.ref l,.int 0 0] }) (by first|(rintro _ _ ⟨⟩;done)|(rintro _ ⟨⟩;done)|(rintro ⟨⟩;done)|nofun)
 have I2:=I1.pin1 (o:=seqObj "list" #[] 0) (by first|(rintro _ _ ⟨⟩;done)|(rintro _ ⟨⟩;done)|(rintro ⟨⟩;done)|nofun)
 have hS:(s.heap.push { cls:=.type "list_iterator", data:=.fields #[.ref l,.int 0 0] }).objs.size=s.heap.objs.size+1:=size_push' ..
 have hlI:l≠s.heap.objs.size:=Nat.ne_of_lt (Heap.lt_size hol)
 have hSI:(s.heap.push { cls:=.type "list_iterator", data:=.fields #[.ref l,.int 0 0] }).objs.size≠s.heap.objs.size:=by rw [hS];exact Nat.ne_of_gt (Nat.lt_succ_self _)
 have hI0:X.s₀.heap.objs.size≤s.heap.objs.size:=I.sz
 have hS0:X.s₀.heap.objs.size≤(s.heap.push { cls:=.type "list_iterator", data:=.fields #[.ref l,.int 0 0] }).objs.size:=by rw [hS];solve_by_elim
 have nI:=I.apart
 have nS:∀p∈X.pn++pins,p.1≠(s.heap.push { cls:=.type "list_iterator", data:=.fields #[.ref l,.int 0 0] }).objs.size:=fun p hp=>I1.apart p ((List.mem_append.mp hp).elim (fun z=>List.mem_append_left _ z) fun z=>List.mem_append_right _ (List.mem_append_left _ z))
 have gI:=(I2.pin (s.heap.objs.size,_) (List.mem_append_right _ (List.mem_append_left _ (List.mem_append_right _ (.head _)))))
 have gS:=(I2.pin (_,seqObj "list" #[] 0) (List.mem_append_right _ (List.mem_append_right _ (.head _))))
 refine L2.ob_eaa (I2.list (hl H g)) fun its2 rv2 pl2 _=>?_
 have hlen2:xs.length=its2.length:=rv2.length
 have W:=Walks.list (prog:=X.prog) (w:=X.w) (A:=X.A.in1) hh s.heap.objs.size l hlI its2.toArray
 have hsz:its2.toArray.size=its2.length:=List.size_toArray ..
 refine codeAny_builtin PySem.F.entry_min_loop ?_
 rw [Around.under_plainId PySem.F.plain_min_loop _]
 show wpAny _ X.A.in1 (seqItems? (.ref _) >>= _) _ _ _
 refine wpAny_bind (wpAny_seqItems gS.1 rfl ?_)
 show wpAny _ X.A.in1 (tryCatch (pyNext (.ref s.heap.objs.size)) _ >>= _) _ _ _
 refine wpAny_bind (wpAny_tryCatch (W.item 0 _ _ _ (by rw [hsz];lia) ⟨⟨_,gI.1,rfl,rfl⟩,pl2.isList⟩ fun u h' tk' hP hst' hk'=>?_))
 have hu:its2[0]? = some u:=by simpa using hP
 obtain ⟨v,hv⟩:∃v,xs[0]? = some v:=⟨_,List.getElem?_eq_getElem hpos⟩
 refine L2.ob_ea (rv2.get hv) fun u' hu' ruv=>?_
 rw [hu] at hu';obtain rfl:=Option.some.inj hu'
 obtain ⟨oI',hoI',hoc,hod⟩:=id hst'.1
 have e2:∀(a b:Addr × Obj),(pins++[a])++[b]=pins++a::[b]:=fun a b=>by simp
 rw [e2] at I2
 have I3:Inv X (pins++[(s.heap.objs.size,oI'),((s.heap.push { cls:=.type "list_iterator", data:=.fields #[.ref l,.int 0 0] }).objs.size,seqObj "list" #[] 0)]) σ H { s with heap:=h',toks:=tk' } :=
  I2.turn1 (t':=tk') hI0 nI (fun p q=>by obtain rfl:=List.mem_singleton.mp q;exact hSI) (fun b o hb e=>hk' b o (by simpa using hb) e) hoI' (by rw [hod];nofun)
 show wpAny _ X.A.in1 (tryCatch (holding [u] (call (.ref f) [u])) _ >>= _) _ _ _
 refine wpAny_bind (wpAny_tryCatch (wpAny_holding (wpAny_mono (turn _ H _ v u I3 g (List.mem_of_getElem? hv) ruv) (fun x s'' he=>?_) fun _ _ hF=>hF.elim)))
 obtain ⟨xv,H2,I4,rx,⟨ki,rfl⟩,g2⟩:=he
 obtain ⟨t2,rfl⟩:∃t2,x=.int ki t2:=rx
 have pS2:=I4.pin (_,seqObj "list" #[] 0) (List.mem_append_right _ (List.mem_append_right _ (.tail _ (.head _))))
 have pI2:=I4.pin (s.heap.objs.size,oI') (List.mem_append_right _ (List.mem_append_right _ (.head _)))
 have s1:=Heap.SameBut.update s''.heap (s.heap.push { cls:=.type "list_iterator", data:=.fields #[.ref l,.int 0 0] }).objs.size (Obj.mapSeq fun _=>#[u,.int ki t2])
 obtain ⟨c2,hc2⟩:∃c2,(s''.heap.update (s.heap.push { cls:=.type "list_iterator", data:=.fields #[.ref l,.int 0 0] }).objs.size (Obj.mapSeq fun _=>#[u,.int ki t2])).get? (s.heap.push { cls:=.type "list_iterator", data:=.fields #[.ref l,.int 0 0] }).objs.size=some (seqObj "list" #[u,.int ki t2] c2):=⟨_,get?_update_seq pS2.1 fun _=>#[u,.int ki t2]⟩
 show wpAny _ X.A.in1 (updateSeq (s.heap.push { cls:=.type "list_iterator", data:=.fields #[.ref l,.int 0 0] }).objs.size (fun _=>#[u,.int ki t2]) >>= _) _ _ _
 refine wpAny_bind ?_
 refine wpAny_updateSeq pS2.1 rfl ?_
 rw [hname]
 refine wpAny_pure ⟨plainId_quiet PySem.F.plain_min_loop _,min_loop hh hl hI0 hS0 hSI nI nS turn (fun v u H' s' h1 h2 h3 h4=>⟨v,H',h4,h2,hQ v H' h1 h3⟩) _ 0 H2 _ v u ki t2 c2 oI' rfl hpos g2 ?_ ⟨oI',(s1.2 _ hSI.symm).trans pI2.1,hoc,hod⟩ (List.mem_of_getElem? hv) ruv⟩
 have I5:Inv X (pins++(_,seqObj "list" #[] 0)::[(s.heap.objs.size,oI')]) σ H2 s'':=I4.pins_of fun p q=>I4.pin p (List.mem_append_right _ ((List.mem_append.mp q).elim (fun z=>List.mem_append_left _ z) fun z=>List.mem_append_right _ (by
  rcases List.mem_cons.mp z with rfl|z
  ·exact .tail _ (.head _)
  ·obtain rfl:=List.mem_singleton.mp z
   exact .head _)))
 exact I5.turn1 (t':=s''.toks) hS0 nS (fun p q=>by obtain rfl:=List.mem_singleton.mp q;exact hSI.symm) (fun b o hb e=>(s1.2 b hb).trans e) hc2 (by first|(rintro _ _ ⟨⟩;done)|(rintro _ ⟨⟩;done)|(rintro ⟨⟩;done)|nofun)
end
end L2

namespace L2
open PySem PySem.Spec PyProof.Rows PySem.Calls
structure Lt (K:PySem.W.Frag) (mg:Str→Option Value) (base:Heap) (c P:Addr):Prop where
 hd:PySem.W.codeHdIn K c P=true
 bl:base.BuiltinsAt mg P
def CodeO (c':Addr) (qual:Str):HO:=.ext fun h=>h.CodeRec (.ref c') qual
def lamT (pos:Pos) (c':Addr):Array Value:=#[rawInt pos.line,rawInt pos.col,.ref c']
def LamOk (qual:Str) (pos:Pos) (P:Addr) (H:Hp):Prop:=H P=some (.tbl #[]) ∨ ∃c',H P=some (.tbl (lamT pos c'))∧H c'=some (CodeO c' qual)
def SameB (P:Addr) (H H':Hp):Prop:=∀b o,b≠P→H b=some o→H' b=some o
theorem SameB.refl (P:Addr) (H:Hp):SameB P H H:=fun _ _ _ h=>h
theorem SameB.trans {P:Addr}{H H1 H2:Hp}(a:SameB P H H1) (b:SameB P H1 H2):SameB P H H2:=fun c o n h=>b c o n (a c o n h)
theorem Same.toB {P:Addr}{H H':Hp}(a:Same H H'):SameB P H H':=fun c o _ h=>a c o h
theorem LamOk.same {qual:Str}{pos:Pos}{P:Addr}{H H':Hp}(a:LamOk qual pos P H) (e:Same H H'):LamOk qual pos P H':=by
 rcases a with a|⟨c',a,b⟩
 ·exact .inl (e _ _ a)
 ·exact .inr ⟨c',e _ _ a,e _ _ b⟩
theorem codeO_stay {c':Addr}{qual:Str}{h1 h2:Heap}(x:h1.CodeRec (.ref c') qual) (k:∀o,h1.get? c'=some o→h2.get? c'=some o):h2.CodeRec (.ref c') qual:=by
 obtain ⟨c,oc,vs,t,e,ho,r⟩:=x
 cases e
 exact⟨c',oc,vs,t,rfl,k _ ho,r⟩
theorem CodeO.rec {P:Program}{w:World}{H:Hp}{h:Heap}{c':Addr}{qual:Str}(x:HOk P w H h) (e:H c'=some (CodeO c' qual)):h.CodeRec (.ref c') qual:=(x c' _ e).1
section
variable {X:Cx}{pins:List (Addr × Obj)}{σ:St}{H:Hp}{s:Shared}{scope:Scope}{x:Str}{js:List Nat}
theorem lam_make {c P:Addr}{params:Arguments}{body:Expr}{pos:Pos}{E:Value→Shared→Prop}(O:CompOk scope X.env x X.N js) (L:Lt X.K X.mg X.base c P) (hcode:X.env.code=.ref c) (hdef:defaultsOf params X.env=([],[]))
  (I:Inv X pins σ H s) (hT:LamOk (X.env.qual ++ "<lambda>") pos P H) :
  wpAny (model X.prog X.w) X.A (eval (.Lambda params body scope pos) X.env) (fun u s'=>∃f c' ctv H',u=.ref f∧SameB P H H'∧H' P=some (.tbl (lamT pos c'))∧H' c'=some (CodeO c' (X.env.qual ++ "<lambda>")) ∧
   Inv X (pins++[(f,PySem.W.kla_obj "<lambda>" (X.env.qual ++ "<lambda>") params body scope (clOf X.env.cells scope.names []) ((X.mg "__name__").getD .none) c' ctv)]) σ H' s') E s:=by
 have hcl:closureFor scope X.env=pure (clOf X.env.cells scope.names []):=closure_of (comp_cells O I)
 have hg:s.heap.Ns mainGlobals X.mg:=I.ok.mod.glob.keeps I.bk
 have C:PySem.W.CodeHd s.heap c P:=PySem.W.codeHd_of_K I.kIn L.hd
 obtain ⟨bm,ob,b1,b2,b3,b4,b5,b6⟩:=L.bl
 have hb:s.heap.BuiltinsAt X.mg P:=⟨bm,ob,b1,b2,b3,b4,I.bk _ _ b5,b6⟩
 have gP:∀ps,H P=some (.tbl ps)→s.heap.get? P=some (PySem.W.tabObj ps):=fun ps e=>I.hok P _ e
 have hgP:mainGlobals≠P:=fun q=>by
  obtain ⟨o,es,ep,e,_⟩:=I.ok.mod.glob
  have:=(I.bs _ _ e).2
  rw [q] at this
  rcases hT with z|⟨_,z,_⟩ <;> (rw [this] at z;exact L2.ns_ z)
 have htr:∀c',TriplesOk (lamT pos c').toList:=fun c'=>trivial
 refine PySem.W.kla_eval hdef ?_
 rcases hT with hT|⟨c',hT,hc'⟩
 ·refine PySem.W.kla_makeFunction (mg:=X.mg) hcl I.ok.glob hg hcode C (gP _ hT) trivial rfl hgP hb fun c' ctv h' tk hx hge hlt hrec htb=>?_
  have hne:c'≠P:=fun q=>absurd (Nat.lt_of_lt_of_le (Heap.lt_size (gP _ hT)) (by rw [←q];exact hge)) (Nat.lt_irrefl _)
  have hfc:H c'=none:=I.hok.fresh hge
  have ext2:∀b o,b≠P→s.heap.get? b=some o→(h'.push (PySem.W.kla_obj "<lambda>" (X.env.qual ++ "<lambda>") params body scope (clOf X.env.cells scope.names []) ((X.mg "__name__").getD .none) c' ctv)).get? b=some o:=fun b o n e=>Heap.get?_push_of_some _ (hx b o n e)
  have htb':(#[]:Array Value) ++ #[rawInt pos.line,rawInt pos.col,.ref c']=lamT pos c':=by unfold lamT;simp
  rw [htb'] at htb
  have nP:∀b u,H b=some u→u ≠ .tbl #[]→b≠P:=fun b u e d z=>by rw [z,hT] at e;obtain rfl:=Option.some.inj e;exact d rfl
  have up:∀b u,b≠P→H b=some u→(upd (upd H P (.tbl (lamT pos c'))) c' (CodeO c' (X.env.qual ++ "<lambda>"))) b=some u:=fun b u n e=>by
   rw [upd_ne (ne_of_none e hfc),upd_ne n];exact e
  have hU:Un X.fs [] H (upd (upd H P (.tbl (lamT pos c'))) c' (CodeO c' (X.env.qual ++ "<lambda>"))) s.heap (h'.push (PySem.W.kla_obj "<lambda>" (X.env.qual ++ "<lambda>") params body scope (clOf X.env.cells scope.names []) ((X.mg "__name__").getD .none) c' ctv)):=by
   have nb:∀b,H b=none→b≠P:=fun b n z=>by rw [z,hT] at n;exact L2.sn_ n
   refine⟨fun b o e n _ _=>ext2 b o (nb b n) e,fun b o e n _ _=>⟨o.slots,ext2 b o (nb b n) e⟩,fun b o e n _=>?_,fun b o e _=>?_,fun b xs e=>up _ _ (nP _ _ e (by first|(rintro _ _ ⟨⟩;done)|(rintro _ ⟨⟩;done)|(rintro ⟨⟩;done)|nofun)) e,fun b o u e=>up _ _ (nP _ _ e (by first|(rintro _ _ ⟨⟩;done)|(rintro _ ⟨⟩;done)|(rintro ⟨⟩;done)|nofun)) e,fun b ps e=>?_⟩
   ·rw [upd_ne (Nat.ne_of_lt (Nat.lt_of_lt_of_le (Heap.lt_size e) hge)),upd_ne (nb b n)];exact n
   ·by_cases hbP:b=P
    ·rw [hbP];exact⟨_,Heap.get?_push_of_some _ htb⟩
    ·exact⟨o,ext2 b o hbP e⟩
   ·by_cases hbP:b=P
    ·rw [hbP,hT] at e
     cases e
     exact⟨lamT pos c',by rw [hbP,upd_ne hne.symm,upd_same];simp⟩
    ·exact⟨#[],by rw [up b _ hbP e];simp⟩
  have hO:HOk X.prog X.w (upd (upd H P (.tbl (lamT pos c'))) c' (CodeO c' (X.env.qual ++ "<lambda>"))) (h'.push (PySem.W.kla_obj "<lambda>" (X.env.qual ++ "<lambda>") params body scope (clOf X.env.cells scope.names []) ((X.mg "__name__").getD .none) c' ctv)):=fun b u e=>by
   by_cases hbc:b=c'
   ·rw [hbc,upd_same] at e
    obtain rfl:=Option.some.inj e
    rw [hbc]
    have hr2:=codeO_stay hrec (h2:=h'.push (PySem.W.kla_obj "<lambda>" (X.env.qual ++ "<lambda>") params body scope (clOf X.env.cells scope.names []) ((X.mg "__name__").getD .none) c' ctv)) fun o q=>Heap.get?_push_of_some _ q
    refine⟨hr2,?_,fun h1 h2 x k=>codeO_stay x k⟩
    obtain ⟨_,oc,_,_,e1,e2,_⟩:=hr2
    cases e1
    exact⟨oc,e2⟩
   ·rw [upd_ne hbc] at e
    by_cases hbP:b=P
    ·rw [hbP,upd_same] at e
     obtain rfl:=Option.some.inj e
     rw [hbP]
     exact Heap.get?_push_of_some _ htb
    ·rw [upd_ne hbP] at e
     refine (I.hok b u e).stay (fun d v hd q=>ext2 d v ?_ q) (fun d q=>up d _ (nP _ _ q (by first|(rintro _ _ ⟨⟩;done)|(rintro _ ⟨⟩;done)|(rintro ⟨⟩;done)|nofun)) q) fun d xs q=>up d _ (nP _ _ q (by first|(rintro _ _ ⟨⟩;done)|(rintro _ ⟨⟩;done)|(rintro ⟨⟩;done)|nofun)) q
     rcases hd with z|z
     ·rw [z];exact hbP
     ·exact nP _ _ z (by first|(rintro _ _ ⟨⟩;done)|(rintro _ ⟨⟩;done)|(rintro ⟨⟩;done)|nofun)
  have I1:Inv X pins σ _ { s with heap:=h'.push (PySem.W.kla_obj "<lambda>" (X.env.qual ++ "<lambda>") params body scope (clOf X.env.cells scope.names []) ((X.mg "__name__").getD .none) c' ctv),toks:=tk }:=I.un hU hO
  have hsz:s.heap.objs.size≤h'.objs.size:=Nat.le_trans hge (Nat.le_of_lt hlt)
  refine⟨h'.objs.size,c',ctv,_,rfl,fun b o n e=>up b o n e,by rw [upd_ne hne.symm,upd_same],upd_same,I1.pins_of fun p q=>?_⟩
  rcases List.mem_append.mp q with z|z
  ·exact I1.pin p (List.mem_append_right _ z)
  ·obtain rfl:=List.mem_singleton.mp z
   have hfree:(upd (upd H P (.tbl (lamT pos c'))) c' (CodeO c' (X.env.qual ++ "<lambda>"))) h'.objs.size=none:=by
    rw [upd_ne (Nat.ne_of_gt hlt),upd_ne (Nat.ne_of_gt (Nat.lt_of_lt_of_le (Heap.lt_size (gP _ hT)) hsz))]
    exact I.hok.fresh hsz
   have f:=I.fpOk (b:=h'.objs.size) hsz hfree
   exact⟨Heap.get?_push_size _ rfl,f.1,f.2.1,f.2.2.1,by first|(rintro _ _ ⟨⟩;done)|(rintro _ ⟨⟩;done)|(rintro ⟨⟩;done)|nofun⟩
 ·refine PySem.W.kla_makeFunctionHit (mg:=X.mg) (cv:=.ref c') hcl I.ok.glob hg hcode C (gP _ hT) (htr c') ?_ hb fun ctv h' tk hk hsz=>?_
  ·show codeAmong pos [rawInt pos.line,rawInt pos.col,.ref c']=_
   simp [codeAmong,rawInt]
  ·have I1:Inv X pins σ H { s with heap:=h'.push (PySem.W.kla_obj "<lambda>" (X.env.qual ++ "<lambda>") params body scope (clOf X.env.cells scope.names []) ((X.mg "__name__").getD .none) c' ctv),toks:=tk }:=I.kept fun b u e=>Heap.get?_push_of_some _ (hk b u e)
   refine⟨h'.objs.size,c',ctv,H,rfl,SameB.refl _ _,hT,hc',I1.pins_of fun p q=>?_⟩
   rcases List.mem_append.mp q with z|z
   ·exact I1.pin p (List.mem_append_right _ z)
   ·obtain rfl:=List.mem_singleton.mp z
    have f:=I.fpOk (b:=h'.objs.size) (H':=H) hsz (I.hok.fresh hsz)
    exact⟨Heap.get?_push_size _ rfl,f.1,f.2.1,f.2.2.1,by first|(rintro _ _ ⟨⟩;done)|(rintro _ ⟨⟩;done)|(rintro ⟨⟩;done)|nofun⟩
end
end L2

namespace L2
open PySem PySem.Spec PyProof.Rows PySem.Calls
structure ZApart (z TI TO i1 i2:Addr):Prop where
 TIz:TI≠z
 TOz:TO≠z
 i1z:i1≠z
 i2z:i2≠z
 TITO:TI≠TO
 TIi1:TI≠i1
 TIi2:TI≠i2
 TOi1:TO≠i1
 TOi2:TO≠i2
 i12:i1≠i2
section
variable {prog:Program}{w:World}{A:Around}{E:Value→Shared→Prop}{s:Shared}
theorem zs_item {z TI TO i1 i2 l2:Addr}{k1 k2 c:Nat}{tx:Str}{t:Tok}{ys:Array Value}{y a b:Value}{Q:Option Value→Shared→Prop}(D:ZApart z TI TO i1 i2) (l2z:l2≠z) (l2TO:l2≠TO) (l2i1:l2≠i1) (l2i2:l2≠i2)
  (hz:IsZip s.heap z TI TO .none) (hTI:IsPair s.heap TI (.ref i1) (.ref i2)) (hTO:IsPair s.heap TO a b)
  (h1:s.heap.IsStrIter i1 "str_ascii_iterator" tx t k1) (h2:s.heap.IsListIter i2 l2 k2) (hl2:s.heap.IsList l2 ys) (hx:tx.cps[k1]? = some c) (hy:ys[k2]? = some y)
  (hQ:∀h' t' tk,IsZip h' z TI TO (rawInt s.heap.objs.size)→(∃a b,IsPair h' TO a b)→h'.IsStrIter i1 "str_ascii_iterator" tx t (k1+1)→h'.IsListIter i2 l2 (k2+1)→IsPair h' s.heap.objs.size (.str ⟨#[c]⟩ t') y→h'.objs.size=s.heap.objs.size+1 →
   (∀c o,c≠z→c≠TO→c≠i1→c≠i2→s.heap.get? c=some o→h'.get? c=some o)→Q (some (.ref s.heap.objs.size)) { s with heap:=h',toks:=tk }) :
  wpAny (model prog w) A (pyNext (.ref z)) Q E s:=by
 have hT:s.TypeIs (.ref z) "zip" := ⟨_,hz,rfl⟩
 unfold pyNext
 refine wpAny_bind (wpAny_attempt (wpAny_callSpecial?_slot (name:=Str.ofString "__next__") hT F.slot_zip_next
  (wpAny_call_entry F.slot_zip_next hT F.entry_zip_next ?_ (F.args_zip_next_1 _))))
 show wpAny _ _ (field (.ref z) 2 >>= _) _ _ _
 refine wpAny_bind (wpAny_field hz rfl (x:=.bool false) rfl ?_)
 show wpAny _ _ (field (.ref z) 3 >>= _) _ _ _
 refine wpAny_bind (wpAny_field hz rfl (x:=.ref TI) rfl ?_)
 refine wpAny_bind (wpAny_seqItems hTI rfl ?_)
 show wpAny _ _ (Builtin.SmallTypes.ownedTupleIsFree (.ref z) >>= _) _ _ _
 refine wpAny_bind ?_
 unfold Builtin.SmallTypes.ownedTupleIsFree
 refine wpAny_bind (wpAny_field hz rfl (x:=.none) rfl (wpAny_pure ?_))
 simp only [if_true]
 refine wpAny_bind (wpAny_rule ?_)
 refine wpAny_bind (wpAny_field hz rfl (x:=.ref TO) rfl ?_)
 refine wpAny_bind (wpAny_setField_rec hz (by simp) fun h₁ hz₁ hs₁=>?_)
 replace hz₁:IsZip h₁ z TI TO .ellipsis:=hz₁
 refine wpAny_bind ?_
 simp only [List.zipIdx_cons,List.zipIdx_nil,List.forIn_cons,List.forIn_nil]
 refine wpAny_bind (wpAny_bind (wpAny_onRaise ?_))
 show wpAny _ _ (Builtin.SmallTypes.nextOf (.ref i1) >>= _) _ _ _
 refine wpAny_bind (wpAny_nextOf_ascii_item (h1.extBut hs₁.extBut D.i1z) hx fun h₂ h1₂ hs₂=>wpAny_pure ?_)
 have hTO₂:IsPair h₂ TO a b:=hs₂.extBut _ _ D.TOi1 (hs₁.extBut _ _ D.TOz hTO)
 refine wpAny_bind (wpAny_seqItems hTO₂ rfl ?_)
 refine wpAny_bind (wpAny_updateSeq_pair hTO₂ fun h₃ hTO₃ hs₃=>?_)
 replace hTO₃:IsPair h₃ TO (.str ⟨#[c]⟩ s.toks) b:=hTO₃
 refine wpAny_bind (wpAny_letGo (wpAny_pure ?_))
 refine wpAny_bind (wpAny_bind (wpAny_onRaise ?_))
 show wpAny _ _ (Builtin.SmallTypes.nextOf (.ref i2) >>= _) _ _ _
 refine wpAny_bind (wpAny_nextOf_list_item (((h2.extBut hs₁.extBut D.i2z).extBut hs₂.extBut D.i12.symm).extBut hs₃.extBut D.TOi2.symm)
  (((hl2.extBut hs₁.extBut l2z).extBut hs₂.extBut l2i1).extBut hs₃.extBut l2TO) hy fun h₄ h2₄ hs₄=>wpAny_pure ?_)
 have hTO₄:IsPair h₄ TO (.str ⟨#[c]⟩ s.toks) b:=hs₄.extBut _ _ D.TOi2 hTO₃
 refine wpAny_bind (wpAny_seqItems hTO₄ rfl ?_)
 refine wpAny_bind (wpAny_updateSeq_pair hTO₄ fun h₅ hTO₅ hs₅=>?_)
 replace hTO₅:IsPair h₅ TO (.str ⟨#[c]⟩ s.toks) y:=hTO₅
 refine wpAny_bind (wpAny_letGo (wpAny_pure (wpAny_pure ?_)))
 refine wpAny_bind (wpAny_seqItems hTO₅ rfl ?_)
 refine wpAny_bind (wpAny_newTuple ?_)
 have hsz:h₅.objs.size=s.heap.objs.size:=by rw [hs₅.1,hs₄.1,hs₃.1,hs₂.1,hs₁.1]
 have hz₅:IsZip h₅ z TI TO .ellipsis:=hs₅.extBut _ _ D.TOz.symm (hs₄.extBut _ _ D.i2z.symm (hs₃.extBut _ _ D.TOz.symm (hs₂.extBut _ _ D.i1z.symm hz₁)))
 have hk₅:∀c o,c≠z→c≠TO→c≠i1→c≠i2→s.heap.get? c=some o→h₅.get? c=some o:=fun c o c1 c2 c3 c4 e =>
  hs₅.extBut _ _ c2 (hs₄.extBut _ _ c4 (hs₃.extBut _ _ c2 (hs₂.extBut _ _ c3 (hs₁.extBut _ _ c1 e))))
 have h1₅:h₅.IsStrIter i1 "str_ascii_iterator" tx t (k1+1):=((h1₂.extBut hs₃.extBut D.TOi1.symm).extBut hs₄.extBut D.i12).extBut hs₅.extBut D.TOi1.symm
 have h2₅:h₅.IsListIter i2 l2 (k2+1):=h2₄.extBut hs₅.extBut D.TOi2.symm
 have hzlt:z<h₅.objs.size:=Heap.lt_size hz₅
 show wpAny _ _ (Builtin.SmallTypes.ownedTupleHandOut (.ref z) (.ref h₅.objs.size) >>= _) _ _ _
 refine wpAny_bind ?_
 unfold Builtin.SmallTypes.ownedTupleHandOut
 have hz₆:IsZip (h₅.push { cls:=.type "tuple", data:=.seq #[.str ⟨#[c]⟩ s.toks,y] }) z TI TO .ellipsis:=Heap.get?_push_of_some _ hz₅
 refine wpAny_bind (wpAny_setField_rec hz₆ (by simp) fun h₇ hz₇ hs₇=>?_)
 replace hz₇:IsZip h₇ z TI TO (rawInt h₅.objs.size):=hz₇
 refine wpAny_setField_rec hz₇ (by simp) fun h₈ hz₈ hs₈=>?_
 replace hz₈:IsZip h₈ z TI TO (rawInt h₅.objs.size):=hz₈
 have up:∀c o,c≠z→h₅.get? c=some o→h₈.get? c=some o:=fun c o c1 e=>hs₈.extBut _ _ c1 (hs₇.extBut _ _ c1 (Heap.get?_push_of_some _ e))
 have hT₈:IsPair h₈ h₅.objs.size (.str ⟨#[c]⟩ s.toks) y:=hs₈.extBut _ _ (Nat.ne_of_gt hzlt) (hs₇.extBut _ _ (Nat.ne_of_gt hzlt) (Heap.get?_push_size _ rfl))
 have hz8:h₈.objs.size=h₅.objs.size+1:=by rw [hs₈.1,hs₇.1,Heap.size_push]
 rw [hsz] at hz₈ hT₈ hz8
 refine wpAny_pure ⟨_,rfl,wpAny_pure ?_⟩
 show Q (some (.ref h₅.objs.size)) _
 rw [hsz]
 exact hQ h₈ _ _ hz₈ ⟨_,_,up _ _ D.TOz hTO₅⟩ (by obtain ⟨o,ho,r⟩:=h1₅;exact⟨o,up _ o D.i1z ho,r⟩) (h2₅.at fun o e=>up _ o D.i2z e) hT₈ hz8 fun c o c1 c2 c3 c4 e=>up c o c1 (hk₅ c o c1 c2 c3 c4 e)
theorem zs_end {z TI TO i1 i2 l2:Addr}{k1 k2:Nat}{tx:Str}{t:Tok}{ys:Array Value}{a b:Value}{Q:Option Value→Shared→Prop}(hh:A.handled=none) (D:ZApart z TI TO i1 i2) (l2z:l2≠z) (l2TO:l2≠TO) (l2i1:l2≠i1) (l2i2:l2≠i2)
  (hz:IsZip s.heap z TI TO .none) (hTI:IsPair s.heap TI (.ref i1) (.ref i2)) (hTO:IsPair s.heap TO a b)
  (h1:s.heap.IsStrIter i1 "str_ascii_iterator" tx t k1) (h2:s.heap.IsListIter i2 l2 k2) (hl2:s.heap.IsList l2 ys) (hend:tx.cps[k1]? = none∨ys[k2]? = none)
  (hQ:∀h' tk,(∀c o,c≠z→c≠TO→c≠i1→c≠i2→s.heap.get? c=some o→h'.get? c=some o)→Q none { s with heap:=h',toks:=tk }):wpAny (model prog w) A (pyNext (.ref z)) Q E s:=by
 have hT:s.TypeIs (.ref z) "zip" := ⟨_,hz,rfl⟩
 unfold pyNext
 refine wpAny_bind (wpAny_attempt (wpAny_callSpecial?_slot (name:=Str.ofString "__next__") hT F.slot_zip_next
  (wpAny_call_entry F.slot_zip_next hT F.entry_zip_next ?_ (F.args_zip_next_1 _))))
 show wpAny _ _ (field (.ref z) 2 >>= _) _ _ _
 refine wpAny_bind (wpAny_field hz rfl (x:=.bool false) rfl ?_)
 show wpAny _ _ (field (.ref z) 3 >>= _) _ _ _
 refine wpAny_bind (wpAny_field hz rfl (x:=.ref TI) rfl ?_)
 refine wpAny_bind (wpAny_seqItems hTI rfl ?_)
 show wpAny _ _ (Builtin.SmallTypes.ownedTupleIsFree (.ref z) >>= _) _ _ _
 refine wpAny_bind ?_
 unfold Builtin.SmallTypes.ownedTupleIsFree
 refine wpAny_bind (wpAny_field hz rfl (x:=.none) rfl (wpAny_pure ?_))
 simp only [if_true]
 refine wpAny_bind (wpAny_rule ?_)
 refine wpAny_bind (wpAny_field hz rfl (x:=.ref TO) rfl ?_)
 refine wpAny_bind (wpAny_setField_rec hz (by simp) fun h₁ hz₁ hs₁=>?_)
 replace hz₁:IsZip h₁ z TI TO .ellipsis:=hz₁
 refine wpAny_bind ?_
 simp only [List.zipIdx_cons,List.zipIdx_nil,List.forIn_cons,List.forIn_nil]
 refine wpAny_bind (wpAny_bind (wpAny_onRaise ?_))
 show wpAny _ _ (Builtin.SmallTypes.nextOf (.ref i1) >>= _) _ _ _
 cases hx:tx.cps[k1]? with
 | none =>
  refine wpAny_bind (wpAny_nextOf_ascii_end hh (h1.extBut hs₁.extBut D.i1z) hx fun h₂ e hs₂ he=>?_)
  refine L2.ob_ea he fun oe hoe hce=>?_
  have hz₂:IsZip h₂ z TI TO .ellipsis:=hs₂ _ _ D.i1z.symm hz₁
  have hez:e≠z:=fun x=>by subst x;rw [hz₂] at hoe;obtain rfl:=Option.some.inj hoe;simp at hce
  refine wpAny_setField_rec hz₂ (by simp) fun h₃ _ hs₃=>?_
  refine wpAny_bind (wpAny_isInstance (T := "StopIteration") (b:=true) ⟨oe,hs₃.extBut _ _ hez hoe,hce⟩ isSubtype_stop ?_)
  exact wpAny_pure (hQ _ _ fun c o c1 _ c3 _ x=>hs₃.extBut _ _ c1 (hs₂ _ _ c3 (hs₁.extBut _ _ c1 x)))
 | some c =>
  have hy:ys[k2]? = none:=by rcases hend with h|h;rw [hx] at h;exact L2.sn_ h;exact h
  refine wpAny_bind (wpAny_nextOf_ascii_item (h1.extBut hs₁.extBut D.i1z) hx fun h₂ h1₂ hs₂=>wpAny_pure ?_)
  have hTO₂:IsPair h₂ TO a b:=hs₂.extBut _ _ D.TOi1 (hs₁.extBut _ _ D.TOz hTO)
  refine wpAny_bind (wpAny_seqItems hTO₂ rfl ?_)
  refine wpAny_bind (wpAny_updateSeq_pair hTO₂ fun h₃ hTO₃ hs₃=>?_)
  refine wpAny_bind (wpAny_letGo (wpAny_pure ?_))
  refine wpAny_bind (wpAny_bind (wpAny_onRaise ?_))
  show wpAny _ _ (Builtin.SmallTypes.nextOf (.ref i2) >>= _) _ _ _
  refine wpAny_bind (wpAny_nextOf_list_end hh (((h2.extBut hs₁.extBut D.i2z).extBut hs₂.extBut D.i12.symm).extBut hs₃.extBut D.TOi2.symm)
   (((hl2.extBut hs₁.extBut l2z).extBut hs₂.extBut l2i1).extBut hs₃.extBut l2TO) hy fun h₄ e hs₄ he=>?_)
  refine L2.ob_ea he fun oe hoe hce=>?_
  have hz₄:IsZip h₄ z TI TO .ellipsis:=hs₄ _ _ D.i2z.symm (hs₃.extBut _ _ D.TOz.symm (hs₂.extBut _ _ D.i1z.symm hz₁))
  have hez:e≠z:=fun x=>by subst x;rw [hz₄] at hoe;obtain rfl:=Option.some.inj hoe;simp at hce
  refine wpAny_setField_rec hz₄ (by simp) fun h₅ _ hs₅=>?_
  refine wpAny_bind (wpAny_isInstance (T := "StopIteration") (b:=true) ⟨oe,hs₅.extBut _ _ hez hoe,hce⟩ isSubtype_stop ?_)
  exact wpAny_pure (hQ _ _ fun c o c1 c2 c3 c4 x=>hs₅.extBut _ _ c1 (hs₄ _ _ c4 (hs₃.extBut _ _ c2 (hs₂.extBut _ _ c3 (hs₁.extBut _ _ c1 x)))))
end

abbrev zsH1 (h:Heap) (tx:Str) (t:Tok):Heap:=h.push { cls:=.type "str_ascii_iterator", data:=.fields #[.str tx t,.int 0 0] }
abbrev zsH2 (h:Heap) (tx:Str) (t:Tok) (l2:Addr):Heap:=(zsH1 h tx t).push { cls:=.type "list_iterator", data:=.fields #[.ref l2,.int 0 0] }
abbrev zsH3 (h:Heap) (tx:Str) (t:Tok) (l2:Addr):Heap:=(zsH2 h tx t l2).push { cls:=.type "tuple", data:=.seq #[.ref h.objs.size,.ref (zsH1 h tx t).objs.size] }
abbrev zsH4 (h:Heap) (tx:Str) (t:Tok) (l2:Addr):Heap:=(zsH3 h tx t l2).push { cls:=.type "tuple", data:=.seq #[.none,.none] }
abbrev zsH5 (h:Heap) (tx:Str) (t:Tok) (l2:Addr):Heap:=(zsH4 h tx t l2).push { cls:=.type "zip", data:=.fields #[.none,.bool false,.bool false,.ref (zsH2 h tx t l2).objs.size,.ref (zsH3 h tx t l2).objs.size] }
theorem meets_zs (tx:Str) (t:Tok) (ha:tx.cps.all (· < 128)=true) (l2:Addr) (ys:Array Value) :
  Meets (Builtin.«zip.__new__» ⟨[.type "zip", .str tx t,.ref l2],[]⟩) (fun _ R s=>s.heap.IsList l2 ys ∧
   R (.ok (.ret (.ref (zsH4 s.heap tx t l2).objs.size))) { s with heap:=zsH5 s.heap tx t l2 }) :=
 .of_wp fun prog w A R s h=>by
  obtain ⟨hp,g,d,tk,os⟩:=s;obtain ⟨hl2,h⟩:=h
  have hsub:=sub_zip
  have hL2:Heap.IsList (Shared.heap ⟨hp.push { cls:=.type "str_ascii_iterator", data:=.fields #[.str tx t,.int 0 0] },g,d,tk,os⟩) l2 ys:=Heap.IsList.push hl2 _
  wp_walk using wpAny_pyIter_ascii ha,wpAny_pyIter_list hL2
  exact⟨_,rfl,h⟩
section
variable {prog:Program}{w:World}{A:Around}{E:Value→Shared→Prop}{s:Shared}
theorem call_zs {tx:Str}{t:Tok}{l2:Addr}{ys:Array Value}{Q:Value→Shared→Prop}(ha:tx.cps.all (· < 128)=true) (hl2:s.heap.IsList l2 ys)
  (h:∀h',IsZip h' (s.heap.objs.size+4) (s.heap.objs.size+2) (s.heap.objs.size+3) .none→IsPair h' (s.heap.objs.size+2) (.ref s.heap.objs.size) (.ref (s.heap.objs.size+1)) →
   IsPair h' (s.heap.objs.size+3) .none .none→h'.IsStrIter s.heap.objs.size "str_ascii_iterator" tx t 0→h'.IsListIter (s.heap.objs.size+1) l2 0→h'.objs.size=s.heap.objs.size+5 →
   (∀c o,s.heap.get? c=some o→h'.get? c=some o)→Q (.ref (s.heap.objs.size+4)) { s with heap:=h' }) :
  wpAny (model prog w) A (call (.type "zip") [.str tx t,.ref l2]) Q E s:=by
 refine callType_new F.called_zip (by decide) (F.typeCall_zip_2 _ _) (F.newCall_zip_2 _ _) (fun obj=>F.args_object_init_3 obj _ _) F.entry_zip_new
  (meets_zs tx t ha l2 ys) ⟨hl2,?_⟩
 have z1:(zsH1 s.heap tx t).objs.size=s.heap.objs.size+1:=Heap.size_push ..
 have z2:(zsH2 s.heap tx t l2).objs.size=s.heap.objs.size+2:=by rw [Heap.size_push,z1]
 have z3:(zsH3 s.heap tx t l2).objs.size=s.heap.objs.size+3:=by rw [Heap.size_push,z2]
 have z4:(zsH4 s.heap tx t l2).objs.size=s.heap.objs.size+4:=by rw [Heap.size_push,z3]
 have z5:(zsH5 s.heap tx t l2).objs.size=s.heap.objs.size+5:=by rw [Heap.size_push,z4]
 have g5:(zsH5 s.heap tx t l2).get? (zsH4 s.heap tx t l2).objs.size=some _:=Heap.get?_push_size _ rfl
 have g4:(zsH5 s.heap tx t l2).get? (zsH3 s.heap tx t l2).objs.size=some _:=Heap.get?_push_of_some _ (Heap.get?_push_size _ rfl)
 have g3:(zsH5 s.heap tx t l2).get? (zsH2 s.heap tx t l2).objs.size=some _:=Heap.get?_push_of_some _ (Heap.get?_push_of_some _ (Heap.get?_push_size _ rfl))
 have g2:(zsH5 s.heap tx t l2).get? (zsH1 s.heap tx t).objs.size=some _:=Heap.get?_push_of_some _ (Heap.get?_push_of_some _ (Heap.get?_push_of_some _ (Heap.get?_push_size _ rfl)))
 have g1:(zsH5 s.heap tx t l2).get? s.heap.objs.size=some _:=Heap.get?_push_of_some _ (Heap.get?_push_of_some _ (Heap.get?_push_of_some _ (Heap.get?_push_of_some _ (Heap.get?_push_size _ rfl))))
 show _∧_
 rw [z2,z3,z4] at g5
 rw [z1,z2] at g3
 rw [z3] at g4
 rw [z1] at g2
 rw [z4]
 exact⟨⟨_,g5,rfl⟩,h _ g5 g3 g4 ⟨_,g1,rfl,rfl⟩ ⟨_,g2,rfl,rfl⟩ z5 fun c o x =>
  Heap.get?_push_of_some _ (Heap.get?_push_of_some _ (Heap.get?_push_of_some _ (Heap.get?_push_of_some _ (Heap.get?_push_of_some _ x))))⟩
end
def Itz (K:PySem.W.Frag) (tx:Str) (a:Addr):It :=
 ⟨fun i H=>∃xs x c,SqL K H a xs∧xs[i]? = some x∧tx.cps[i]? = some c,fun i H v H'=>∃p x c,v=.ref p∧H p=none∧tx.cps[i]? = some c∧H'=upd H p (.tup [.str ⟨#[c]⟩,x])∧∀xs,SqL K H a xs→xs[i]? = some x,fun i H=>∃xs,SqL K H a xs∧(tx.cps.size≤i∨xs.length≤i)⟩
theorem mem5 {α:Type}{a b c d e x:α}(h:x∈[a,b,c,d,e]):x=a∨x=b∨x=c∨x=d∨x=e:=by simpa using h
theorem mem45 {α:Type}{a b c d e x:α}(h:x∈[a,c,d,e]):x∈[a,b,c,d,e]:=by
 cases h with
 | head=>exact .head _
 | tail _ h=>exact .tail _ (.tail _ h)
inductive Iv_turn_zs (tx:Str) (t:Tok) (a:Addr) (z:Addr) (TI:Addr) (TO:Addr) (i1:Addr) (i2:Addr) (i:Nat) (h:Heap):Prop
 | mk:(IsZip h z TI TO .none)→(IsPair h TI (.ref i1) (.ref i2))→((∃u v,IsPair h TO u v))→(h.IsStrIter i1 "str_ascii_iterator" tx t i)→(h.IsListIter i2 a i)→Iv_turn_zs tx t a z TI TO i1 i2 i h
theorem turn_zs {P:Program}{w:World}{K:PySem.W.Frag}{elts:List Expr}{x1:Nat}{tpos:Pos}{tx:Str}{t:Tok}(a z TI TO i1 i2:Addr) (D:ZApart z TI TO i1 i2) :
  Turn P w K (.Tuple elts x1 tpos) (Itz K tx a) [z,TI,TO,i1,i2] z (Iv_turn_zs tx t a z TI TO i1 i2) where
 mem:=.head _
 obj:=fun i h st b hb=>by
  obtain ⟨hz,hTI,⟨u,v,hTO⟩,⟨o1,e1,c1,d1⟩,o2,e2,c2,d2⟩:=st
  have hb':=mem5 hb
  rcases hb' with rfl|rfl|rfl|rfl|rfl
  ·exact⟨_,hz,by first|(rintro _ _ ⟨⟩;done)|(rintro _ ⟨⟩;done)|(rintro ⟨⟩;done)|nofun⟩
  ·exact⟨_,hTI,by first|(rintro _ _ ⟨⟩;done)|(rintro _ ⟨⟩;done)|(rintro ⟨⟩;done)|nofun⟩
  ·exact⟨_,hTO,by first|(rintro _ _ ⟨⟩;done)|(rintro _ ⟨⟩;done)|(rintro ⟨⟩;done)|nofun⟩
  ·exact⟨o1,e1,fun v z=>by rw [d1] at z;cases z⟩
  ·exact⟨o2,e2,fun v z=>by rw [d2] at z;cases z⟩
 keep:=fun i h h' st k=>by
  obtain ⟨hz,hTI,⟨u,v,hTO⟩,⟨o1,e1,r1⟩,h2⟩:=st
  exact⟨k z (.head _) _ hz,k TI (.tail _ (.head _)) _ hTI,⟨u,v,k TO (.tail _ (.tail _ (.head _))) _ hTO⟩,⟨o1,k i1 (.tail _ (.tail _ (.tail _ (.head _)))) _ e1,r1⟩,h2.at fun o q=>k i2 (.tail _ (.tail _ (.tail _ (.tail _ (.head _))))) o q⟩
 item:=by
  intro X hP hw hK hc i pins s σ H E I hf st hg
  subst hP hw hK
  obtain ⟨xs,x,c,hq,hx,hcx⟩:=hg
  obtain ⟨hz,hTI,⟨u0,v0,hTO⟩,h1,h2⟩:=st
  refine L2.ob_eaa (I.list hq) fun its rv p hzz=>?_
  refine L2.ob_ea (rv.get hx) fun u hu ru=>?_
  have na:∀b∈[z,TI,TO,i1,i2],a≠b:=fun b hb e=>by
   have hn:=(hf b hb).1
   have hl:=p.isList
   obtain ⟨o,eo,ec,_,ed⟩:=hl
   rw [e] at eo
   have hb':=mem5 hb
   rcases hb' with rfl|rfl|rfl|rfl|rfl
   ·rw [show s.heap.get? b=_ from hz] at eo;obtain rfl:=Option.some.inj eo;cases ed
   ·rw [show s.heap.get? b=_ from hTI] at eo;obtain rfl:=Option.some.inj eo;simp at ec
   ·rw [show s.heap.get? b=_ from hTO] at eo;obtain rfl:=Option.some.inj eo;simp at ec
   ·obtain ⟨o1,e1,c1,d1⟩:=h1;rw [e1] at eo;obtain rfl:=Option.some.inj eo;rw [d1] at ed;cases ed
   ·obtain ⟨o1,e1,c1,d1⟩:=h2;rw [e1] at eo;obtain rfl:=Option.some.inj eo;rw [d1] at ed;cases ed
  refine zs_item D (na z (.head _)) (na TO (.tail _ (.tail _ (.head _)))) (na i1 (.tail _ (.tail _ (.tail _ (.head _))))) (na i2 (.tail _ (.tail _ (.tail _ (.tail _ (.head _)))))) hz hTI hTO h1 h2 p.isList hcx (y:=u) (by simpa using hu) fun h' t' tk heo hTO' h1' h2' ht hsz hk=>?_
  have hfr:H s.heap.objs.size=none:=I.hok.fresh (Nat.le_refl _)
  have nP:∀b o,s.heap.get? b=some o→b≠s.heap.objs.size:=fun b o q=>Nat.ne_of_lt (Heap.lt_size q)
  have nE:∀b o,H b=some o→b ∉ [z,TO,i1,i2]:=fun b o q hb=>by
   have:b∈[z,TI,TO,i1,i2]:=mem45 hb
   rw [(hf b this).1] at q;exact L2.ns_ q
  have kk:∀b o,b ∉ [z,TO,i1,i2]→s.heap.get? b=some o→h'.get? b=some o:=fun b o hb q=>hk b o (fun e=>hb (e ▸ (.head _))) (fun e=>hb (e ▸ (.tail _ (.head _)))) (fun e=>hb (e ▸ (.tail _ (.tail _ (.head _))))) (fun e=>hb (e ▸ (.tail _ (.tail _ (.tail _ (.head _)))))) q
  have I1:Inv X pins σ (upd H s.heap.objs.size (.tup [.str ⟨#[c]⟩,x])) { s with heap:=h',toks:=tk }:=by
   refine I.step (g':=s.gens) (d':=s.drawn) (ch:=[z,TO,i1,i2]) (fun b hb=>?_) (fun b o _ _ hc q _=>kk b o hc q) (fun b o _ _ hc q _=>⟨o.slots,kk b o hc q⟩) (fun b o _ q n=>by rw [upd_ne (nP b o q)];exact n)
    (fun b o hc q=>⟨o,kk b o hc q⟩) (fun b ys q=>by rw [upd_ne (ne_of_none q hfr)];exact q) (fun b o v q=>by rw [upd_ne (ne_of_none q hfr)];exact q) (fun b ps q=>⟨#[],by rw [upd_ne (ne_of_none q hfr),q];simp⟩) (fun m hm=>?_) (fun b v q=>?_) I.bare
   ·have hb2:b∈[z,TI,TO,i1,i2]:=mem45 hb
    obtain ⟨f0,f1,f2,f3,f4,f5⟩:=hf b hb2
    exact⟨f3,f1,f4,f5⟩
   ·obtain ⟨o,es,ep,ho,r⟩:=hm
    refine⟨o,es,ep,kk _ o (fun hb=>?_) ho,r⟩
    have hb2:X.env.locals∈[z,TI,TO,i1,i2]:=mem45 hb
    exact (hf _ hb2).2.1 rfl
   ·by_cases hb:b=s.heap.objs.size
    ·subst hb
     rw [upd_same] at q;obtain rfl:=Option.some.inj q
     exact⟨by show 2≤sizeLine;decide,[.str ⟨#[c]⟩ t',u],.cons ⟨_,rfl⟩ (.cons ru .nil),⟨_,ht,rfl,_,rfl⟩⟩
    ·rw [upd_ne hb] at q
     refine (I.hok b v q).stay (fun c o hc z=>kk c o ?_ z) (fun c z=>by rw [upd_ne (ne_of_none z hfr)];exact z) fun c ys z=>by rw [upd_ne (ne_of_none z hfr)];exact z
     rcases hc with rfl|hc
     ·exact nE _ _ q
     ·exact nE _ _ hc
  refine⟨_,rfl,?_⟩
  obtain ⟨f0,f1,f2,f3,f4,f5⟩:=hf z (.head _)
  have hep:z≠s.heap.objs.size:=nP z _ hz
  refine wpAny_letOwnedTupleGo_zip (s:={ s with heap:=h',toks:=tk }) heo fun g2 he2 sb=>?_
  have I2:Inv X pins σ (upd H s.heap.objs.size (.tup [.str ⟨#[c]⟩,x])) { s with heap:=g2,toks:=tk }:=Inv.turned (s:={ s with heap:=h',toks:=tk }) (t':=tk) (it:=z) I1 (fun b o hb q=>(sb.2 b hb).trans q) (by rw [upd_ne hep];exact f0) f1 f3 f4 f5
  refine⟨.ref s.heap.objs.size,_,I2,rfl,⟨s.heap.objs.size,x,c,rfl,hfr,hcx,rfl,fun ys hy=>by rw [I.list_inj hy hq];exact hx⟩,⟨he2,?_,?_,?_,?_⟩,fun b hb=>?_⟩
  ·exact (sb.2 TI D.TIz).trans (kk _ _ (by simp [D.TIz,D.TITO,D.TIi1,D.TIi2]) hTI)
  ·refine L2.ob_ee hTO' fun u v q=>?_
   exact⟨u,v,(sb.2 TO D.TOz).trans q⟩
  ·obtain ⟨o1,e1,r1⟩:=h1'
   exact⟨o1,(sb.2 i1 D.i1z).trans e1,r1⟩
  ·exact h2'.at fun o q=>(sb.2 i2 D.i2z).trans q
  ·have hlt:b≠s.heap.objs.size:=by
    have hb':=mem5 hb
    obtain ⟨o1,e1,_⟩:=h1
    obtain ⟨o2,e2,_⟩:=h2
    rcases hb' with rfl|rfl|rfl|rfl|rfl
    ·exact nP _ _ hz
    ·exact nP _ _ hTI
    ·exact nP _ _ hTO
    ·exact nP _ _ e1
    ·exact nP _ _ e2
   rw [upd_ne hlt]
   exact (hf b hb).1
 done:=by
  intro X hP hw hK hc i pins s σ H E I hf st hg
  subst hP hw hK
  obtain ⟨xs,hq,hx⟩:=hg
  obtain ⟨hz,hTI,⟨u0,v0,hTO⟩,h1,h2⟩:=st
  refine L2.ob_eaa (I.list hq) fun its rv p hzz=>?_
  have hl:=rv.length
  have na:∀b∈[z,TI,TO,i1,i2],a≠b:=fun b hb e=>by
   have hl:=p.isList
   obtain ⟨o,eo,ec,_,ed⟩:=hl
   rw [e] at eo
   have hb':=mem5 hb
   rcases hb' with rfl|rfl|rfl|rfl|rfl
   ·rw [show s.heap.get? b=_ from hz] at eo;obtain rfl:=Option.some.inj eo;cases ed
   ·rw [show s.heap.get? b=_ from hTI] at eo;obtain rfl:=Option.some.inj eo;simp at ec
   ·rw [show s.heap.get? b=_ from hTO] at eo;obtain rfl:=Option.some.inj eo;simp at ec
   ·obtain ⟨o1,e1,c1,d1⟩:=h1;rw [e1] at eo;obtain rfl:=Option.some.inj eo;rw [d1] at ed;cases ed
   ·obtain ⟨o1,e1,c1,d1⟩:=h2;rw [e1] at eo;obtain rfl:=Option.some.inj eo;rw [d1] at ed;cases ed
  refine zs_end (I.ok.hd hc) D (na z (.head _)) (na TO (.tail _ (.tail _ (.head _)))) (na i1 (.tail _ (.tail _ (.tail _ (.head _))))) (na i2 (.tail _ (.tail _ (.tail _ (.tail _ (.head _)))))) hz hTI hTO h1 h2 p.isList ?_ fun h' tk hk=>⟨rfl,?_⟩
  ·rcases hx with hx|hx
   ·exact .inl (by simp;exact hx)
   ·exact .inr (by simp;lia)
  ·have kk:∀b o,b ∉ [z,TO,i1,i2]→s.heap.get? b=some o→h'.get? b=some o:=fun b o hb q=>hk b o (fun e=>hb (e ▸ (.head _))) (fun e=>hb (e ▸ (.tail _ (.head _)))) (fun e=>hb (e ▸ (.tail _ (.tail _ (.head _))))) (fun e=>hb (e ▸ (.tail _ (.tail _ (.tail _ (.head _)))))) q
   have nE:∀b o,H b=some o→b ∉ [z,TO,i1,i2]:=fun b o q hb=>by
    have:b∈[z,TI,TO,i1,i2]:=mem45 hb
    rw [(hf b this).1] at q;exact L2.ns_ q
   refine I.step (g':=s.gens) (d':=s.drawn) (ch:=[z,TO,i1,i2]) (fun b hb=>?_) (fun b o _ _ hc q _=>kk b o hc q) (fun b o _ _ hc q _=>⟨o.slots,kk b o hc q⟩) (fun b o _ q n=>n)
    (fun b o hc q=>⟨o,kk b o hc q⟩) (fun b ys q=>q) (fun b o v q=>q) (fun b ps q=>⟨#[],by rw [q];simp⟩) (fun m hm=>?_) (fun b v q=>?_) I.bare
   ·have hb2:b∈[z,TI,TO,i1,i2]:=mem45 hb
    obtain ⟨f0,f1,f2,f3,f4,f5⟩:=hf b hb2
    exact⟨f3,f1,f4,f5⟩
   ·obtain ⟨o,es,ep,ho,r⟩:=hm
    refine⟨o,es,ep,kk _ o (fun hb=>?_) ho,r⟩
    have hb2:X.env.locals∈[z,TI,TO,i1,i2]:=mem45 hb
    exact (hf _ hb2).2.1 rfl
   ·refine (I.hok b v q).stay (fun c o hc z=>kk c o ?_ z) (fun c z=>z) fun c ys z=>z
    rcases hc with rfl|hc
    ·exact nE _ _ q
    ·exact nE _ _ hc
 self:=fun _ _ _ _ _ st h=>wpAny_pyIter_zip st.1 h
inductive iZs_b (K:PySem.W.Frag) (R:It→Hp→Prop) (vs:List V) (H1:Hp):Prop
 | mk:∀tx a,(vs=[.str tx,.ref a])→(tx.cps.all (· < 128)=true)→((∃xs,SqL K H1 a xs))→(R (Itz K tx a) H1)→iZs_b K R vs H1
def iZs (K:PySem.W.Frag) (ta:TA):TI:=fun σ H R=>ta σ H fun vs H1=>iZs_b K R vs H1
theorem pi_zs {X:Cx}{elts:List Expr}{x1:Nat}{tpos:Pos}{e l:Expr}{ta:TA}{p pos:Pos}(hg:Gl X "zip") (hm:X.mg "zip" = none) (ha:PA X [e,l] ta) (hs:starEach [e,l] X.env=(false,eval e X.env)::starEach [l] X.env:=by rfl) (hpl:(backTo pos (starEach [l] X.env)).any (·.1)=false:=by rfl) :
  PI X (.Tuple elts x1 tpos) (.Call (.Name "zip" p) [e,l] [] pos) (iZs X.K ta):=by
 intro pins s σ H R I h
 refine Call_ (ld_blt I hg hm (by rfl) (PyProof.Rows.callWith_type1 (thn (ha pos pins s σ H _ I h) fun us s1 ⟨vs,H1,I1,r1,q1⟩=>?_) hs hpl))
 obtain ⟨tx,a,e,hasc,⟨xs,hq⟩,q⟩:=q1
 subst e
 refine L2.ob_eeaa (vals2 r1) fun u1 u2 e_2 ru1 ru2=>?_;subst e_2
 obtain ⟨t,rfl⟩:∃t,u1=.str tx t:=ru1
 cases ru2
 refine L2.ob_eaa (I1.list hq) fun its rv pl hz=>?_
 refine call_zs hasc pl.isList fun h' hz hTI hTO h1 h2 hsz hk=>wpAny_pyIter_zip hz ?_
 have I2:Inv X pins σ H1 { s1 with heap:=h' }:=I1.kept (t':=s1.toks) hk
 have D:ZApart (s1.heap.objs.size+4) (s1.heap.objs.size+2) (s1.heap.objs.size+3) s1.heap.objs.size (s1.heap.objs.size+1):=by constructor <;> (show (_:Nat)≠_;lia)
 refine⟨s1.heap.objs.size+4,[s1.heap.objs.size+4,s1.heap.objs.size+2,s1.heap.objs.size+3,s1.heap.objs.size,s1.heap.objs.size+1],_,_,H1,rfl,I2,turn_zs a _ _ _ _ _ D,⟨hz,hTI,⟨_,_,hTO⟩,h1,h2⟩,fun b hb=>?_,q⟩
 have hle:s1.heap.objs.size≤b:=by
  simp at hb
  rcases hb with rfl|rfl|rfl|rfl|rfl <;> (show (_:Nat)≤_;lia)
 exact I1.fpOk hle (I1.hok.fresh hle)
end L2

namespace L2
open PySem PySem.Spec PyProof.Rows PySem.Calls
section
variable {X:Cx}
inductive rSum (K:PySem.W.Frag) (xs:List V) (H:Hp) (Q:VK):Prop
 | mk:∀(p:Addr) (ns:List Int),(xs=[.ref p])→(SqL K H p (ns.map V.int))→(∀n,Q (.int n) H)→rSum K xs H Q
theorem call_sum (hc:X.calm=true):CallR X (.builtin "sum") (rSum X.K):=by
 intro pins s σ H xs us Q I r h
 obtain ⟨p,ns,rfl,hq,q⟩:=h
 refine L2.ob_ea (vals1 r) fun u e_1 rx=>?_;subst e_1
 cases rx
 refine L2.ob_eaa (I.list hq) fun its rv pl hz=>?_
 refine call_sum_walkG (wpAny_pyIter_list pl.isList ?_)
 have hpl:p<s.heap.objs.size:=by obtain ⟨o,e,_⟩:=pl.isList;exact Heap.lt_size e
 refine⟨_,_,_,_,_,_,fun i=>ns.getD i 0,rfl,Walks.list (A:=X.A.in1) (I.ok.hd hc) s.heap.objs.size p (Nat.ne_of_lt hpl) its.toArray,⟨⟨_,Heap.get?_push_size _ rfl,rfl,rfl⟩,pl.isList.push _⟩,fun b hb=>?_,fun i v e=>(ints_at rv e).2,fun h' tk t' hk=>⟨.int _,H,I.kept (kept_of_push hk),⟨t',rfl⟩,q _⟩⟩
 have hb':b=s.heap.objs.size∨b=p:=by simpa using hb
 show b<(s.heap.push _).objs.size
 rw [Heap.size_push]
 rcases hb' with rfl|rfl
 ·exact Nat.lt_succ_self _
 ·exact Nat.lt_succ_of_lt hpl
inductive tOrT_b (K:PySem.W.Frag) (tb:TE) (σ:St) (Q:VK) (x:V) (H1:Hp):Prop
 | mk:∀c,(TruV K x H1 c)→(if c=true then Q x H1 else tb σ H1 Q)→tOrT_b K tb σ Q x H1
def tOrT (K:PySem.W.Frag) (ta tb:TE):TE:=fun σ H Q=>ta σ H fun x H1=>tOrT_b K tb σ Q x H1
theorem pe_orT {a b:Expr}{rest:List Expr}{pos:Pos}{ta tb:TE}(ha:PE X a ta) (hb:PE X (.BoolOp .Or (b::rest) pos) tb):PE X (.BoolOp .Or (a::b::rest) pos) (tOrT X.K ta tb):=by
 intro pins s σ H Q I h
 refine BoolOp_or (thn (ha pins s σ H _ I h) fun v s1 ⟨x,H1,I1,r1,q1⟩=>?_)
 obtain ⟨c,tr,q1⟩:=q1
 refine thn (tru_ok (X:=X) pins s1 σ H1 x v (fun k H2=>k=c∧H2=H1) I1 r1 ⟨c,tr,rfl,rfl⟩) fun k s2 ⟨H2,I2,e1,e2⟩=>?_
 subst e1 e2
 cases k with
 | false=>exact hb pins s2 σ H2 Q I2 q1
 | true=>exact⟨x,H2,I2,r1,q1⟩
inductive tMinLam_b (K:PySem.W.Frag) (qual:Str) (lpos:Pos) (P:Addr) (js:List Nat) (t:TE) (σ:St) (Q:VK) (ys:List V) (H1:Hp):Prop
 | mk:∀l xs,(ys=[.ref l])→(SqL K H1 l xs)→(xs≠[])→(LamOk qual lpos P H1)→((∀v H2,v∈xs→SameB P H1 H2→t (compSt (some v) σ js) H2 fun r H3=>(∃i,r=.int i)∧Same H2 H3))→(∀v H2,v∈xs→SameB P H1 H2→LamOk qual lpos P H2→Q v H2)→tMinLam_b K qual lpos P js t σ Q ys H1
def tMinLam (K:PySem.W.Frag) (qual:Str) (lpos:Pos) (P:Addr) (js:List Nat) (ta:TA) (t:TE):TE:=fun σ H Q=>ta σ H fun ys H1=>tMinLam_b K qual lpos P js t σ Q ys H1
theorem pe_minLam {k:Nat}{c P:Addr}{params:Arguments}{body e:Expr}{scope:Scope}{x:Str}(js:List Nat) {p pos lpos kp:Pos}{ta:TA}{t:TE}(hc:X.calm=true) (hr:Room (k+1) X.A) (hg:Gl X "min") (hm:X.mg "min" = none) (L:Lt X.K X.mg X.base c P) (hcode:X.env.code=.ref c)
  (hdef:defaultsOf params X.env=([],[])) (hok:compOk scope X.env x X.N js=true)
  (hbind:∀(qual:Str) (cl:List (Str × Addr)) (pm cd ctv w:Value),bindArgs (PySem.W.kla_fn "<lambda>" qual params body scope cl pm cd ctv) ⟨[w],[]⟩=pure [(x,w)])
  (hco:scope.isCoroutine=false) (hgen:scope.isGenerator=false)
  (hbody:∀(f:Addr) (cd:Value) (A:Around) (s:Shared) (H:Hp),Room k A→PE (lamCx X scope x js (X.env.qual ++ "<lambda>") f cd A s H) body t)
  (ha:PA X [e] ta) (he:backTo pos (starEach [e] X.env)=[(false,eval e X.env)]:=by rfl) :
  PE X (.Call (.Name "min" p) [e] [⟨some (Str.ofString "key"),.Lambda params body scope lpos,kp⟩] pos) (tMinLam X.K (X.env.qual ++ "<lambda>") lpos P js ta t):=by
 intro pins s σ H Q I h
 refine wpAny_Call_Name_kw (ld_blt I hg hm (by rfl) ?_)
 refine callWith_kw (thn (ha pos pins s σ H _ I h) fun us s1 ⟨vs,H1,I1,r1,q1⟩=>?_) (by rw [he];rfl) (by rw [he];rfl) rfl rfl
 obtain ⟨l,xs,rfl,hq,hne,hT,ht,q⟩:=q1
 refine L2.ob_ea (vals1 r1) fun u e_1 ru=>?_;subst e_1
 cases ru
 refine kws_cons (thn (lam_make (compOk_of hok) L hcode hdef I1 hT) fun v s2 ⟨f,c',ctv,H2,e,sb,hP,hc',I2⟩=>?_)
 subst e
 refine kws_nil ?_
 show wpAny _ _ (call (.builtin "min") [.ref l] [(Str.ofString "key", .ref f)]) _ _ _
 have hlP:∀H',SameB P H1 H'→SqL X.K H' l xs:=fun H' e=>by
  have ne:∀o,H1 l=some o→(∀ps,o ≠ .tbl ps)→l≠P:=fun o h1 h2 z=>by
   rw [z] at h1
   rcases hT with hT|⟨_,hT,_⟩ <;> (rw [hT] at h1;obtain rfl:=Option.some.inj h1;exact h2 _ rfl)
  rcases hq with (h|⟨o,h⟩)|h
  ·exact .inl (.inl (e _ _ (ne _ h (by first|(rintro _ _ ⟨⟩;done)|(rintro _ ⟨⟩;done)|(rintro ⟨⟩;done)|nofun)) h))
  ·exact .inl (.inr ⟨o,e _ _ (ne _ h (by first|(rintro _ _ ⟨⟩;done)|(rintro _ ⟨⟩;done)|(rintro ⟨⟩;done)|nofun)) h⟩)
  ·exact .inr h
 have G0:(fun H'=>SameB P H1 H'∧H' P=some (.tbl (lamT lpos c'))∧H' c'=some (CodeO c' (X.env.qual ++ "<lambda>"))) H2:=⟨sb,hP,hc'⟩
 have fin:=min_key (f:=f) (xs:=xs) (G:=fun H'=>SameB P H1 H'∧H' P=some (.tbl (lamT lpos c'))∧H' c'=some (CodeO c' (X.env.qual ++ "<lambda>"))) (Q:=Q) (I.ok.hd hc) I2 G0 hne (fun H' g=>hlP H' g.1)
  (fun pl H' s' v u I' g hv ru=>?_) (fun v H' hv g=>q v H' hv g.1 (.inr ⟨c',g.2.1,g.2.2⟩))
 ·exact thn fin fun u s' ⟨v,H',I',r',q'⟩=>⟨v,H',I'.unpinned,r',q'⟩
 ·have hf:=(I'.pin (f,_) (List.mem_append_right _ (List.mem_append_left _ (List.mem_append_right _ (.head _))))).1
  refine thn (lam_run (k:=k) (x:=x) (js:=js) (A:=X.A.in1) (t:=t) hok (fun cl cd ctv w=>hbind _ cl _ cd ctv w) hco hgen (hbody f) hr.in1 rfl I' hf (CodeO.rec I'.hok g.2.2) ru (ht v H' hv g.1)) fun u' s'' ⟨v',H'',I'',r',q1,q2⟩=>⟨v',H'',I'',r',q1,?_⟩
  exact⟨g.1.trans q2.toB,q2 _ _ g.2.1,q2 _ _ g.2.2⟩
end
end L2

namespace L2
open PySem PySem.Spec PyProof.Rows NM
abbrev RWd:=Hp→V→List Nat→Prop
structure LocW (R:RWd):Prop where
 loc:∀(H H':Hp) (v:V) (u:List Nat),R H v u→(∀p o,v=.ref p→H p=some o→H' p=some o)→R H' v u
 has:∀(H:Hp) (p:Addr) (u:List Nat),R H (.ref p) u→∃o,H p=some o
theorem LocW.mono {R:RWd}(l:LocW R) {H H':Hp}{v:V}{u:List Nat}(s:Same H H') (h:R H v u):R H' v u:=l.loc H H' v u h fun p o _ e=>s p o e
theorem LocW.upd {R:RWd}(l:LocW R) {H:Hp}{v:V}{u:List Nat}{a:Addr}{o:HO}(n:v ≠ .ref a) (h:R H v u):R (L2.upd H a o) v u:=l.loc H _ v u h fun p o' e q=>by
 rw [upd_ne (fun z=>n (by rw [e,z]))];exact q
theorem LocW.ne {R:RWd}(l:LocW R) {H:Hp}{v:V}{u:List Nat}{a:Addr}(h:R H v u) (n:H a=none):v ≠ .ref a:=fun e=>by
 rw [e] at h
 obtain ⟨o,q⟩:=l.has _ _ _ h
 rw [n] at q;exact L2.ns_ q
inductive spBinW (R:RWd) (ok:List Nat→Prop) (vs:List V) (H:Hp) (Q:VK) (_e3:XK):Prop
 | mk:∀(x y:V) (u v:List Nat),(vs=[x,y])→(u≠[])→(v≠[])→(R H x u)→(R H y v)→(ok (u++v))→(∀z H',Same H H'→R H' z (u++v)→(∀p,z=.ref p→H p=none)→Q z H')→spBinW R ok vs H Q _e3
inductive spOutsBy (P:Program) (w:World) (K:PySem.W.Frag) (mg:Str→Option Value) (base:Heap) (vs:List V) (H:Hp) (Q:VK) (_e3:XK):Prop
 | mk:∀(n sa oa ra f:Addr) (rs xs:List V) (N:NetN) (R:RWd) (ok:List Nat→Prop),(vs=[.ref n,.ref ra,.ref f])→(NetAt H n N.w N.steps N.outs sa oa rs)→(N.Ok)→(SqL K H ra xs)→(xs.length=N.w)→(LocW R)→(Dv P w K mg base f 1 (spBinW R ok))→((∀(i:Nat) v,xs[i]? = some v→R H v [i]))→((∀j,N.w≤j→N.used.getD j false=true→ok (N.words.getD j [])))→(∀(H':Hp) (l:Addr) (zs:List V),Same H H'→H' l=some (.lst zs)→H l=none→zs.length=N.w→(∀(k o:Nat) (z:V),N.ou[k]? = some o→zs[k]? = some z→R H' z (N.words.getD o []))→Q (.ref l) H')→spOutsBy P w K mg base vs H Q _e3
inductive spInLine (P:Program) (w:World) (K:PySem.W.Frag) (mg:Str→Option Value) (base:Heap) (vs:List V) (H:Hp) (Q:VK) (_e3:XK):Prop
 | mk:∀(ra f:Addr) (xs:List V) (R:RWd) (ok:List Nat→Prop),(vs=[.ref ra,.ref f])→(SqL K H ra xs)→(xs≠[])→(xs.length≤64)→(LocW R)→(Dv P w K mg base f 1 (spBinW R ok))→((∀(i:Nat) v,xs[i]? = some v→R H v [i]))→((∀k,k<xs.length→ok (List.range (k+1))))→(∀(H':Hp) (l:Addr) (zs:List V),Same H H'→H' l=some (.lst zs)→H l=none→zs.length=xs.length→(∀(k:Nat) (z:V),zs[k]? = some z→R H' z (List.range (k+1)))→Q (.ref l) H')→spInLine P w K mg base vs H Q _e3
theorem word_ne {N:NetN}(o:N.Ok) {j:Nat}(h:j<N.w+N.st.length):N.words.getD j []≠[]:=by
 have hl:j<N.words.length:=by rw [N.words_len];exact h
 refine o.wordsTo_ne _ (Nat.le_refl _) _ ?_
 rw [List.getD_eq_getElem?_getD,List.getElem?_eq_getElem hl]
 exact List.getElem_mem hl
structure OBI (R:RWd) (N:NetN) (H2 H3:Hp) (vl:Addr) (zs:List V) (j:Nat):Prop where
 sm:Same H2 H3
 hv:H3 vl=some (.lst zs)
 len:zs.length=N.w+j
 val:∀(i:Nat) z,zs[i]? = some z→(i<N.w∨N.used.getD i false=true)→z ≠ .ref vl∧R H3 z (N.words.getD i [])
theorem OBI.snoc {R:RWd}{N:NetN}{H2 H3 H4:Hp}{vl:Addr}{zs:List V}{j:Nat}{z:V}(b:OBI R N H2 H3 vl zs j) (g1:H2 vl=none) (loc:LocW R) (s5:Same H3 H4) (ne':z ≠ .ref vl) (hR:N.used.getD (N.w+j) false=true→R H4 z (N.words.getD (N.w+j) [])) :
  OBI R N H2 (upd H4 vl (.lst (zs++[z]))) vl (zs++[z]) (j+1):=by
 refine⟨(b.sm.trans s5).upd g1,upd_same,by rw [List.length_append,b.len];rfl,fun i y hy hu=>?_⟩
 by_cases hi:i<zs.length
 ·rw [List.getElem?_append_left hi] at hy
  obtain ⟨h1,h2⟩:=b.val i y hy hu
  exact⟨h1,loc.upd h1 (loc.mono s5 h2)⟩
 ·have hil:i=zs.length:=by
   have:=(List.getElem?_eq_some_iff.mp hy).1
   rw [List.length_append] at this
   simp at this
   lia
  rw [hil,List.getElem?_concat_length] at hy
  obtain rfl:=Option.some.inj hy
  have hij:i=N.w+j:=by rw [hil,b.len]
  rw [hij] at hu ⊢
  exact⟨ne',loc.upd ne' (hR (hu.resolve_left (by simp)))⟩
theorem Df.dv {P:Program}{w:World}{K:PySem.W.Frag}{mg:Str→Option Value}{base:Heap}{x:Str}{k:Nat}{ps:List Str}{sp sp':Sp}{f:Addr}(D:Df P w K mg base x k ps sp) (hm:mg x=some (.ref f)) (h:∀vs H Q E,sp' vs H Q E→sp vs H Q E):Dv P w K mg base f k sp':=by
 obtain ⟨f',fd,hm',hk,hb,F⟩:=D.ex
 rw [hm] at hm'
 cases hm'
 exact⟨fd,ps,hk,hb,F.imp h⟩
def spJoined:Sp:=fun vs H Q _=>(∃i j:Int,vs=[.int i,.int j]∧Q (.int (i+j)) H)∨(∃(a b:Addr) (xs ys:List V),vs=[.ref a,.ref b]∧H a=some (.lst xs)∧H b=some (.lst ys)∧xs.length+ys.length≤sizeLine∧∀c,H c=none→Q (.ref c) (upd H c (.lst (xs++ys)))) ∨
 (∃x y:Str,vs=[.str x,.str y]∧x.length+y.length≤sizeLine∧Q (.str (x++y)) H)
def RCount (t:Nat):RWd:=fun _ x u=>x=.int ((u.count t:Nat):Int)
theorem loc_count {t:Nat}:LocW (RCount t):=⟨fun _ _ _ _ h _=>h,fun _ _ _ h=>by cases h⟩
theorem joined_count {t:Nat}{ok:List Nat→Prop}:∀vs H Q E,spBinW (RCount t) ok vs H Q E→spJoined vs H Q E:=by
 rintro vs H Q E ⟨x,y,u,v,rfl,_,_,rfl,rfl,_,q⟩
 refine .inl ⟨_,_,rfl,q _ H (Same.refl H) ?_ (by first|(rintro _ _ ⟨⟩;done)|(rintro _ ⟨⟩;done)|(rintro ⟨⟩;done)|nofun)⟩
 unfold RCount
 rw [List.count_append]
 simp
def wordV (u:List Nat):List V:=u.map fun v=>V.int (v:Nat)
inductive RList  (H:Hp) (x:V) (u:List Nat):Prop
 | mk:∀p,(x=.ref p)→(H p=some (.lst (wordV u)))→RList H x u
theorem loc_list:LocW RList:=⟨fun _ _ _ _ ⟨p,e,h⟩ s=>⟨p,e,s _ _ e h⟩,fun _ _ _ ⟨p,e,h⟩=>by cases e;exact⟨_,h⟩⟩
theorem joined_list {ok:List Nat→Prop}(hok:∀u,ok u→u.length≤sizeLine):∀vs H Q E,spBinW RList ok vs H Q E→spJoined vs H Q E:=by
 rintro vs H Q E ⟨x,y,u,v,rfl,_,_,⟨p,rfl,hp⟩,⟨q',rfl,hq⟩,o,q⟩
 refine .inr (.inl ⟨_,_,_,_,rfl,hp,hq,?_,fun c hc=>q _ _ (Same.new hc) ⟨c,rfl,?_⟩ (fun p e=>by cases e;exact hc)⟩)
 ·have:=hok _ o
  unfold wordV
  rw [List.length_map,List.length_map,←List.length_append]
  exact this
 ·rw [upd_same]
  unfold wordV
  rw [List.map_append]
def spanOf (u:List Nat):Option (Nat × Nat):=if u=List.range' (u.headD 0) u.length then some (u.headD 0,u.headD 0+u.length) else none
def joinSpan:Option (Nat × Nat)→Option (Nat × Nat)→Option (Nat × Nat)
 | some (a,b),some (c,d)=>if b=c then some (a,d) else none
 | _,_=>none
theorem head_range' {a n:Nat}(h:0<n):(List.range' a n).headD 0=a:=by
 cases n with
 | zero=>lia
 | succ n=>rfl
theorem spanOf_append {u v:List Nat}(hu:u≠[]) (hv:v≠[]):spanOf (u++v)=joinSpan (spanOf u) (spanOf v):=by
 have lu:0<u.length:=List.length_pos_iff.mpr hu
 have lv:0<v.length:=List.length_pos_iff.mpr hv
 have hh:(u++v).headD 0=u.headD 0:=by
  cases u with
  | nil=>exact absurd rfl hu
  | cons a r=>rfl
 unfold spanOf
 rw [hh,List.length_append,←List.range'_append_1]
 by_cases h1:u=List.range' (u.headD 0) u.length
 ·by_cases h2:v=List.range' (v.headD 0) v.length
  ·rw [if_pos h1,if_pos h2]
   show _=if u.headD 0+u.length=v.headD 0 then some (u.headD 0,v.headD 0+v.length) else none
   by_cases h3:u.headD 0+u.length=v.headD 0
   ·rw [if_pos h3,if_pos (by rw [h3,←h1,←h2])]
    congr 2
    lia
   ·rw [if_neg h3,if_neg]
    intro e
    have e2:=(List.append_inj e (by simp)).2
    rw [e2,head_range' lv] at h3
    exact h3 rfl
  ·rw [if_neg h2]
   have:joinSpan (if u=List.range' (u.headD 0) u.length then some (u.headD 0,u.headD 0+u.length) else none) none=none:=by split <;> rfl
   rw [this,if_neg]
   intro e
   have e2:=(List.append_inj e (by simp)).2
   refine h2 ?_
   have e3:v.headD 0=u.headD 0+u.length:=by rw [e2,head_range' lv]
   rw [e3]
   exact e2
 ·rw [if_neg h1]
  show _=none
  rw [if_neg]
  intro e
  exact h1 (List.append_inj e (by simp)).1
theorem spanOf_one (i:Nat):spanOf [i]=some (i,i+1):=by simp [spanOf,List.range']
theorem spanOf_range (k:Nat):spanOf (List.range (k+1))=some (0,k+1):=by
 unfold spanOf
 have hh:(List.range (k+1)).headD 0=0:=by rw [List.range_eq_range',head_range' (by exact Nat.succ_pos _)]
 rw [hh,List.length_range,←List.range_eq_range',if_pos rfl]
 simp
theorem spanOf_eq {u:List Nat}{k:Nat}(h:spanOf u=some (0,k+1)):u=List.range (k+1):=by
 unfold spanOf at h
 split at h
 ·rename_i e
  have h':=Option.some.inj h
  have h1:u.headD 0=0:=(Prod.mk.inj h').1
  have h2:=(Prod.mk.inj h').2
  rw [h1] at e h2
  rw [e,List.range_eq_range',show u.length=k+1 by lia]
 ·exact L2.ns_ h
def spanV (H:Hp) (x:V):Option (Nat × Nat)→Prop
 | none=>x=.non
 | some (a,b)=>∃p,x=.ref p∧H p=some (.tup [.int (a:Nat),.int (b:Nat)])
def RSpan:RWd:=fun H x u=>spanV H x (spanOf u)
theorem loc_span:LocW RSpan:=by
 refine⟨fun H H' v u h s=>?_,fun H p u h=>?_⟩
 ·unfold RSpan at h ⊢
  cases e:spanOf u with
  | none=>rw [e] at h;exact h
  | some ab =>
   obtain ⟨a,b⟩:=ab
   rw [e] at h
   obtain ⟨p,e1,e2⟩:=h
   exact⟨p,e1,s _ _ e1 e2⟩
 ·unfold RSpan at h
  cases e:spanOf u with
  | none=>rw [e] at h;cases h
  | some ab =>
   obtain ⟨a,b⟩:=ab
   rw [e] at h
   obtain ⟨p,e1,e2⟩:=h
   cases e1
   exact⟨_,e2⟩
inductive spSpan  (vs:List V) (H:Hp) (Q:VK) (_e3:XK):Prop
 | mk:∀(x y:V) (a b:Option (Nat × Nat)),(vs=[x,y])→(spanV H x a)→(spanV H y b)→(∀z H',Same H H'→spanV H' z (joinSpan a b)→(∀p,z=.ref p→H p=none)→Q z H')→spSpan vs H Q _e3
theorem span_bin {ok:List Nat→Prop}:∀vs H Q E,spBinW RSpan ok vs H Q E→spSpan vs H Q E:=by
 rintro vs H Q E ⟨x,y,u,v,rfl,hu,hv,hx,hy,_,q⟩
 refine⟨x,y,spanOf u,spanOf v,rfl,hx,hy,fun z H' s h n=>q z H' s ?_ n⟩
 unfold RSpan
 rw [spanOf_append hu hv]
 exact h
def dSpan:Option (Nat × Nat)→Dt
 | none=>.non
 | some (a,b)=>.tup [.int (a:Nat),.int (b:Nat)]
end L2

namespace L2
open PySem PySem.Spec PyProof.Rows NM
theorem comp_listIf {K:PySem.W.Frag}{a:Addr}{xs:List V}{js:List Nat}{tt:TT}{te:TE}{σ:St}{H:Hp}{Fin:List V→Hp→Prop}(Pv:Nat→List V→Hp→Prop) (h0:Pv 0 [] H) (hl:∀i ys H,i≤xs.length→Pv i ys H→SqL K H a xs) (hz:∀i ys H,i<xs.length→Pv i ys H→ys.length<sizeLine)
  (hs:∀i x ys H (T:V→Hp→Prop) (T0:Hp→Prop),xs[i]? = some x→Pv i ys H→(∀y H2,Pv (i+1) (ys++[y]) H2→T y H2)→(∀H2,Pv (i+1) ys H2→T0 H2)→tt (compSt (some x) σ js) H fun b H2=>if b=true then te (compSt (some x) σ js) H2 T else T0 H2) (hd:∀ys H,Pv xs.length ys H→Fin ys H):compGo (Itl K a) js (some tt) te σ H Fin:=by
 refine⟨fun i m ys H=>m=xs.length - i∧i≤xs.length∧Pv i ys H,⟨xs.length,by simp,Nat.zero_le _,h0⟩,?_⟩
 rintro i m ys H ⟨rfl,hi,p⟩
 have q:=hl i ys H hi p
 by_cases hlt:i<xs.length
 ·refine .inr ⟨⟨xs,xs[i],q,by simp [hlt]⟩,hz i ys H hlt p,fun x H' y=>?_⟩
  obtain ⟨e,y⟩:=y
  subst e
  exact hs i x ys _ _ _ (y xs q) p (fun y H2 p2=>⟨xs.length - (i+1),by lia,rfl,hlt,p2⟩) fun H2 p2=>⟨xs.length - (i+1),by lia,rfl,hlt,p2⟩
 ·have e:i=xs.length:=by lia
  subst e
  exact .inl ⟨⟨xs,q,Nat.le_refl _⟩,hd ys H p⟩
theorem comp_rangeIf {lo:Int}{n:Nat}{js:List Nat}{tt:TT}{te:TE}{σ:St}{H:Hp}{Fin:List V→Hp→Prop}(Pv:Nat→List V→Hp→Prop) (h0:Pv 0 [] H) (hz:∀i ys H,i<n→Pv i ys H→ys.length<sizeLine)
  (hs:∀i ys H (T:V→Hp→Prop) (T0:Hp→Prop),i<n→Pv i ys H→(∀y H2,Pv (i+1) (ys++[y]) H2→T y H2)→(∀H2,Pv (i+1) ys H2→T0 H2)→tt (compSt (some (.int (lo+i))) σ js) H fun b H2=>if b=true then te (compSt (some (.int (lo+i))) σ js) H2 T else T0 H2) (hd:∀ys H,Pv n ys H→Fin ys H):compGo (Itr lo n) js (some tt) te σ H Fin:=by
 refine⟨fun i m ys H=>m=n - i∧i≤n∧Pv i ys H,⟨n,by simp,Nat.zero_le _,h0⟩,?_⟩
 rintro i m ys H ⟨rfl,hi,p⟩
 by_cases hlt:i<n
 ·refine .inr ⟨hlt,hz i ys H hlt p,fun x H' y=>?_⟩
  obtain ⟨e,y⟩:=y
  subst e y
  exact hs i ys _ _ _ hlt p (fun y H2 p2=>⟨n - (i+1),by lia,rfl,hlt,p2⟩) fun H2 p2=>⟨n - (i+1),by lia,rfl,hlt,p2⟩
 ·have e:i=n:=by lia
  subst e
  exact .inl ⟨Nat.le_refl _,hd ys H p⟩
theorem word_lt {N:NetN}(o:N.Ok):∀j,j<N.w+N.st.length→∀v∈N.words.getD j [],v<N.w:=by
 intro j
 induction j using Nat.strongRecOn with
 | _ j ih =>
  intro hj v hv
  by_cases h:j<N.w
  ·rw [N.word_low h] at hv
   simp at hv
   lia
  ·have hk:j - N.w<N.st.length:=by lia
   have hq:=N.st_getD hk
   have e:=o.word_step hq
   obtain ⟨q1,q2⟩:=o.s1 _ _ hq
   rw [show N.w+(j - N.w)=j by lia] at e q1 q2
   rw [e] at hv
   rcases List.mem_append.mp hv with z|z
   ·exact ih _ q1 (by lia) v z
   ·exact ih _ q2 (by lia) v z
theorem under_len {N:NetN}(o:N.Ok) {r j:Nat}(h:N.Under r j):(N.words.getD j []).length≤(N.words.getD r []).length:=by
 induction h with
 | self=>exact Nat.le_refl _
 | l _ hq ih =>
  rw [o.word_step hq,List.length_append] at ih
  lia
 | r _ hq ih =>
  rw [o.word_step hq,List.length_append] at ih
  lia
def NetN.single (N:NetN) (o:Nat):NetN:=⟨N.w,N.st,List.replicate N.w o⟩
theorem single_ok {N:NetN}(h:N.Ok) {o:Nat}(ho:o<N.w+N.st.length):(NetN.single N o).Ok :=
 ⟨h.lo,h.hi,h.len,h.s1,by simp [NetN.single],fun v hv=>by rw [List.eq_of_mem_replicate hv];exact ho⟩
theorem single_used {N:NetN}(h:N.Ok) {o:Nat}(ho:o<N.w+N.st.length) {j:Nat}(hu:(NetN.single N o).used.getD j false=true):(N.words.getD j []).length≤(N.words.getD o []).length:=by
 obtain ⟨r,hr,u⟩:=((single_ok h ho).used_iff j).mp hu
 rw [List.eq_of_mem_replicate hr] at u
 exact under_len (single_ok h ho) u
theorem right_of {u:List Nat}{k w:Nat}(hk:k<w) (hlt:∀v∈u,v<w) (hc:∀t,t<w→u.count t=if t≤k then 1 else 0) (hs:∀(i j:Nat) a b,i<j→u[i]? = some a→u[j]? = some b→¬b<a):u=List.range (k+1):=by
 have hp:u.Perm (List.range (k+1)):=by
  rw [List.perm_iff_count]
  intro a
  rw [List.nodup_range.count]
  by_cases ha:a<w
  ·rw [hc a ha]
   simp only [List.mem_range]
   by_cases h:a≤k
   ·rw [if_pos h,if_pos (by lia)]
   ·rw [if_neg h,if_neg (by lia)]
  ·rw [List.count_eq_zero.mpr (fun h=>ha (hlt a h)),if_neg (by simp;lia)]
 refine hp.eq_of_pairwise (le:=fun a b=>a≤b) (fun a b _ _ h1 h2=>Nat.le_antisymm h1 h2) ?_ List.pairwise_le_range
 rw [List.pairwise_iff_getElem]
 intro i j hi hj hij
 have:=hs i j _ _ hij (List.getElem?_eq_getElem hi) (List.getElem?_eq_getElem hj)
 lia
theorem count_len {u:List Nat}{k w:Nat}(hk:k<w) (hlt:∀v∈u,v<w) (hc:∀t,t<w→u.count t=if t≤k then 1 else 0):u.length=k+1:=by
 have hp:u.Perm (List.range (k+1)):=by
  rw [List.perm_iff_count]
  intro a
  rw [List.nodup_range.count]
  by_cases ha:a<w
  ·rw [hc a ha]
   simp only [List.mem_range]
   by_cases h:a≤k
   ·rw [if_pos h,if_pos (by lia)]
   ·rw [if_neg h,if_neg (by lia)]
  ·rw [List.count_eq_zero.mpr (fun h=>ha (hlt a h)),if_neg (by simp;lia)]
 rw [hp.length_eq,List.length_range]
inductive spAlone  (vs:List V) (H:Hp) (Q:VK) (_e3:XK):Prop
 | mk:∀w t:Nat,(vs=[.int (w:Nat),.int (t:Nat)])→(w≤64)→(∀(H':Hp) (l:Addr),Same H H'→H l=none→H' l=some (.lst ((List.range w).map fun i=>V.int (([i].count t:Nat):Int)))→Q (.ref l) H')→spAlone vs H Q _e3
def kinds:List Str:=[Str.ofString "any", Str.ofString "commuting", Str.ofString "greatest"]
inductive spKind (CK:Addr) (vs:List V) (H:Hp) (Q:VK) (E:XK):Prop
 | mk:∀x:Str,(vs=[.str x])→((x∈kinds→Q .non H))→((x ∉ kinds→E (.ref CK) none H))→spKind CK vs H Q E
inductive spOrder  (vs:List V) (H:Hp) (Q:VK) (_e3:XK):Prop
 | mk:∀(n sa oa:Addr) (rs:List V) (N:NetN) (p o:Nat),(vs=[.ref n,.int (p:Nat)])→(NetAt H n N.w N.steps N.outs sa oa rs)→(N.Ok)→(N.ou[p]? = some o)→((N.words.getD o []).length≤64)→(∀(H':Hp) (l:Addr),Same H H'→H' l=some (.lst (wordV (N.words.getD o [])))→Q (.ref l) H')→spOrder vs H Q _e3
inductive turnedV (H:Hp) (u:List Nat) (z:V)  : Prop
 | mk:∀(p:Addr) (i j a b:Nat),(z=.ref p)→(H p=some (.lst [.int (a:Nat),.int (b:Nat)]))→(i<j)→(u[i]? = some a)→(u[j]? = some b)→(b<a)→turnedV H u z
theorem turnedV.mono {H H':Hp}{u:List Nat}{z:V}(s:Same H H') (h:turnedV H u z):turnedV H' u z:=by
 obtain ⟨p,i,j,a,b,e,hp,r,r2,r3,r4⟩:=h
 exact⟨p,i,j,a,b,e,s _ _ hp,r,r2,r3,r4⟩
theorem turnedV.upd {H:Hp}{u:List Nat}{z:V}{c:Addr}{o:HO}(n:z ≠ .ref c) (h:turnedV H u z):turnedV (L2.upd H c o) u z:=by
 obtain ⟨p,i,j,a,b,e,hp,r,r2,r3,r4⟩:=h
 exact⟨p,i,j,a,b,e,by rw [upd_ne (fun w=>n (by rw [e,w]))];exact hp,r,r2,r3,r4⟩
theorem wordV_get {u:List Nat}{i:Nat}{x:V}(h:(wordV u)[i]? = some x):∃a:Nat,u[i]? = some a∧x=.int (a:Nat):=by
 unfold wordV at h
 rw [List.getElem?_map] at h
 refine L2.ob_ea (Option.map_eq_some_iff.mp h) fun a h1 h2=>?_
 exact⟨a,h1,h2.symm⟩
inductive spTurned  (vs:List V) (H:Hp) (Q:VK) (_e3:XK):Prop
 | mk:∀(n sa oa:Addr) (rs:List V) (N:NetN) (p o:Nat),(vs=[.ref n,.int (p:Nat)])→(NetAt H n N.w N.steps N.outs sa oa rs)→(N.Ok)→(N.ou[p]? = some o)→((N.words.getD o []).length≤64)→(∀(H':Hp) (l:Addr) (zs:List V),Same H H'→H' l=some (.lst zs)→(∀z∈zs,turnedV H' (N.words.getD o []) z)→(∀(i j:Nat) a b,i<j→(N.words.getD o [])[i]? = some a→(N.words.getD o [])[j]? = some b→b<a→zs≠[])→Q (.ref l) H')→spTurned vs H Q _e3
theorem kind_val {x:Str}{v1 v2 v3:V}:(valV [((Sum.inr (Str.ofString "any"):Key),v1),(Sum.inr (Str.ofString "commuting"),v2),(Sum.inr (Str.ofString "greatest"),v3)] (Sum.inr x)).isSome=decide (x∈kinds):=by
 unfold kinds
 by_cases h1:x=Str.ofString "any"
 ·rw [valV_pos (by rw [h1])];simp [h1]
 ·rw [valV_neg (fun e=>h1 (Sum.inr.inj e).symm)]
  by_cases h2:x=Str.ofString "commuting"
  ·rw [valV_pos (by rw [h2])];simp [h2]
  ·rw [valV_neg (fun e=>h2 (Sum.inr.inj e).symm)]
   by_cases h3:x=Str.ofString "greatest"
   ·rw [valV_pos (by rw [h3])];simp [h3]
   ·rw [valV_neg (fun e=>h3 (Sum.inr.inj e).symm),valV_nil];simp [h1,h2,h3]
end L2

namespace L2
open PySem PySem.Spec PyProof.Rows NM
theorem Fun.ok1c {P:Program}{w:World}{K:PySem.W.Frag}{mg:Str→Option Value}{base:Heap}{x qual:Str}{st:Stmt}{f c:Addr}{fd:FuncData}{N ps:List Str}{k:Nat}{sp:Sp}(F:Fun K x qual st f fd) (hc:fd.code=.ref c) (S:FnScope N ps (defScope st))
  (len:∀vs H Q E,sp vs H Q E→vs.length=ps.length)
  (hbody:∀(A:Around) (outer:List Env) (s:Shared) (H:Hp) (vs:List V) (Q:VK) (E:XK),Room k (A.deeper (envOfC qual (defScope st) s.heap.objs.size f (.ref c)))→sp vs H Q E →
   ∃t,PSs (cx1 P w K mg base N qual (defScope st) f (.ref c) A outer s H E) (defBody st) t∧t { nx:=fun _ H'=>Q .non H',rt:=Q } (start N vs) H):FnOk P w K mg base (CX1 P w) (k+1) f fd ps sp:=by
 refine L2.ob_eeeeeeeeeaa F.ex fun oc od kV doc pm an cdv ct osl e_9 lk hcd=>?_;subst e_9
 have hc':cdv=.ref c:=hc
 subst hc'
 exact fn_of lk hcd S len fun A outer s H vs Q E hr hsp=>hbody A outer s H vs Q E hr hsp
theorem for_zs {K:PySem.W.Frag}{tx:Str}{a:Addr}{xs:List V}{g:TG}{tb:TS}{D:Ends}{σ:St}{H:Hp}(n:Nat) (hn:n=min tx.cps.size xs.length) (Pv:Nat→St→Hp→Prop) (h0:Pv 0 σ H) (hl:∀i σ H,i≤n→Pv i σ H→SqL K H a xs)
  (hs:∀i x c σ H p,xs[i]? = some x→tx.cps[i]? = some c→Pv i σ H→H p=none→g (.ref p) σ (upd H p (.tup [.str ⟨#[c]⟩,x])) fun σ2 H2=>tb (D.lp (Pv (i+1))) σ2 H2) (hd:∀σ H,Pv n σ H→D.nx σ H) :
  ∃W:Nat→Nat→St→Hp→Prop,(∃m,W 0 m σ H)∧∀i m σ H,W i m σ H →
   ((Itz K tx a).stop i H∧D.nx σ H)∨((Itz K tx a).go i H∧∃N:St→Hp→Prop,(∀σ' H',N σ' H'→∃m',m'<m∧W (i+1) m' σ' H')∧∀x H',(Itz K tx a).yld i H x H'→g x σ H' fun σ2 H2=>tb (D.lp (N)) σ2 H2):=by
 refine⟨fun i m σ H=>m=n - i∧i≤n∧Pv i σ H,⟨n,by simp,Nat.zero_le _,h0⟩,?_⟩
 rintro i m σ H ⟨rfl,hi,p⟩
 have q:=hl i σ H hi p
 by_cases hlt:i<n
 ·refine .inr ⟨⟨xs,xs[i]'(by lia),tx.cps[i]'(by lia),q,List.getElem?_eq_getElem _,Array.getElem?_eq_getElem _⟩,Pv (i+1),fun σ' H' p'=>⟨n - (i+1),by lia,rfl,hlt,p'⟩,fun x H' y=>?_⟩
  obtain ⟨pp,z,c,rfl,hn,hc,rfl,y⟩:=y
  exact hs i z c σ H pp (y xs q) hc p hn
 ·have e:i=n:=by lia
  subst e
  exact .inl ⟨⟨xs,q,by lia⟩,hd σ H p⟩
def cntL (N:NetN) (t:Nat):List Int:=N.ou.map fun o=>(((N.words.getD o []).count t:Nat):Int)
theorem cntL_of {N:NetN}{t:Nat}{H:Hp}{zs:List V}(hl:zs.length=N.ou.length) (h:∀(k o:Nat) (z:V),N.ou[k]? = some o→zs[k]? = some z→RCount t H z (N.words.getD o [])):zs=(cntL N t).map V.int:=by
 refine List.ext_getElem? fun i=>?_
 unfold cntL
 rw [List.map_map,List.getElem?_map]
 by_cases hi:i<zs.length
 ·obtain ⟨z,hz⟩:∃z,zs[i]? = some z:=⟨_,List.getElem?_eq_getElem hi⟩
  obtain ⟨o,ho⟩:∃o,N.ou[i]? = some o:=⟨_,List.getElem?_eq_getElem (by lia)⟩
  rw [hz,ho]
  exact congrArg some (h i o z ho hz)
 ·rw [List.getElem?_eq_none (by lia),List.getElem?_eq_none (by lia)]
  rfl
def Stray (N:NetN) (p o t:Nat):Prop:=t<N.w∧(N.words.getD o []).count t≠if t≤p then 1 else 0
def BestOk (N:NetN) (p o:Nat) (best:List Nat):Prop:=(∃t,best=[t]∧Stray N p o t) ∨
 (∃a b i j:Nat,best=[a,b]∧(∀t,¬Stray N p o t)∧i<j∧(N.words.getD o [])[i]? = some a∧(N.words.getD o [])[j]? = some b∧b<a)
def letters:List Str:=[⟨#[97]⟩,⟨#[98]⟩]
def rowOf (w:Nat) (best:List Nat):List Str:=(best.zip letters).foldl (fun r p=>r.set p.1 p.2) (List.replicate w (Str.ofString ""))
theorem rowOf_len {w:Nat}{best:List Nat}:(rowOf w best).length=w:=by
 unfold rowOf
 generalize best.zip letters=l
 suffices h:∀(l:List (Nat × Str)) (r:List Str),(l.foldl (fun r p=>r.set p.1 p.2) r).length=r.length by rw [h];simp
 intro l
 induction l with
 | nil=>intro r;rfl
 | cons a t ih=>intro r;rw [List.foldl_cons,ih];simp
theorem best_lt {N:NetN}(hN:N.Ok) {p o:Nat}(ho:o<N.w+N.st.length) {best:List Nat}(h:BestOk N p o best):(∀t∈best,t<N.w)∧best.length≤2∧best≠[]:=by
 rcases h with ⟨t,rfl,h,_⟩|⟨a,b,i,j,rfl,_,_,ha,hb,_⟩
 ·exact⟨fun x hx=>by simp at hx;lia,by simp,by simp⟩
 ·refine⟨fun x hx=>?_,by simp,by simp⟩
  have h1:=word_lt hN o ho a (List.mem_of_getElem? ha)
  have h2:=word_lt hN o ho b (List.mem_of_getElem? hb)
  simp at hx
  rcases hx with rfl|rfl <;> assumption
theorem rowOf_step {w:Nat}{best:List Nat}{i x c:Nat}(h2:best.length≤2) (hx:best[i]? = some x) (hc:(Str.ofString "ab").cps[i]? = some c):rowOf w (best.take (i+1))=(rowOf w (best.take i)).set x ⟨#[c]⟩:=by
 have e:(Str.ofString "ab").cps=#[97,98]:=by decide
 rw [e] at hc
 match best,i,h2,hx with
 | [t],0,_,hx=>simp at hx hc;subst hx hc;rfl
 | [t,s],0,_,hx=>simp at hx hc;subst hx hc;rfl
 | [t,s],1,_,hx=>simp at hx hc;subst hx hc;rfl
theorem SameB.lst {qual:Str}{lp:Pos}{P:Addr}{H H':Hp}{a:Addr}{xs:List V}(s:SameB P H H') (l:LamOk qual lp P H) (h:H a=some (.lst xs)):H' a=some (.lst xs):=by
 refine s a _ (fun e=>?_) h
 rw [e] at h
 rcases l with l|⟨_,l,_⟩ <;> (rw [l] at h;cases h)
theorem SameB.free {qual:Str}{lp:Pos}{P:Addr}{H H':Hp}{a:Addr}(s:SameB P H H') (l:LamOk qual lp P H') (h:H' a=none):H a=none:=by
 cases e:H a with
 | none=>rfl
 | some o =>
  by_cases ha:a=P
  ·rw [ha] at h
   rcases l with l|⟨_,l,_⟩ <;> (rw [l] at h;exact L2.sn_ h)
  ·rw [s a o ha e] at h;exact L2.sn_ h
theorem orT_of {K:PySem.W.Frag}{tb:TE}{σ:St}{H:Hp}{Q:VK}{l:Addr}{ys:List V}(G:V→Hp→Prop) (hl:H l=some (.lst ys)) (h1:ys≠[]→G (.ref l) H) (hq:∀v H',G v H'→Q v H')
  (h2:ys=[]→(∀v H',G v H'→Q v H')→tb σ H Q)   : tOrT_b K tb σ Q (.ref l) H:=by
 refine⟨!ys.isEmpty,.inl ⟨ys,SqL.of hl,rfl⟩,?_⟩
 cases ys with
 | nil=>exact iteF (h2 rfl hq)
 | cons a r=>exact iteT (hq _ _ (h1 (by simp)))
def lamQ:Str:=(Str.ofString "showing_texts" ++ ".<locals>.") ++ "<lambda>"
inductive spTexts (PT:Addr) (lp:Pos) (vs:List V) (H:Hp) (Q:VK) (_e3:XK):Prop
 | mk:∀(n sa oa:Addr) (rs:List V) (N:NetN) (p o:Nat),(vs=[.ref n,.int (p:Nat)])→(NetAt H n N.w N.steps N.outs sa oa rs)→(N.Ok)→(N.ou[p]? = some o)→(N.words.getD o []≠List.range (p+1))→(LamOk lamQ lp PT H)→(∀(H':Hp) (l:Addr) (best:List Nat),SameB PT H H'→LamOk lamQ lp PT H'→H l=none→H' l=some (.lst ((rowOf N.w best).map V.str))→BestOk N p o best→Q (.ref l) H')→spTexts PT lp vs H Q _e3
inductive bestV (H:Hp) (N:NetN) (p:Nat) (o:Nat) (z:V)  : Prop
 | mk:∀(c:Addr) (best:List Nat),(z=.ref c)→(H c=some (.lst (wordV best)))→(BestOk N p o best)→bestV H N p o z
end L2

namespace L2
open PySem PySem.Spec PyProof.Rows NM
theorem spanD_eq (a b:Option (Nat × Nat)):(dSpan a).eqB (dSpan b)=decide (a=b):=by
 cases a with
 | none =>
  cases b with
  | none=>rfl
  | some b=>obtain ⟨b1,b2⟩:=b;simp [dSpan,Dt.eqB]
 | some a =>
  obtain ⟨a1,a2⟩:=a
  cases b with
  | none=>simp [dSpan,Dt.eqB]
  | some b =>
   obtain ⟨b1,b2⟩:=b
   simp only [dSpan,Dt.eqB,Dt.eqBs,Bool.and_true]
   rw [Bool.eq_iff_iff]
   simp
   lia
theorem deep_span {K:PySem.W.Frag}{H:Hp}{x:V}{a:Option (Nat × Nat)}(h:spanV H x a):Deep K H (dSpan a) x:=by
 cases a with
 | none =>
  have h':x=.non:=h
  simp only [dSpan,Deep]
  exact h'
 | some a =>
  obtain ⟨a1,a2⟩:=a
  obtain ⟨p,rfl,hp⟩:=h
  simp only [dSpan,Deep]
  refine⟨p,_,rfl,SqT.of hp,?_⟩
  simp only [Deeps,Deep]
  exact⟨_,_,rfl,rfl,_,_,rfl,rfl,rfl⟩
theorem dp_span (a:Option (Nat × Nat)):(dSpan a).dp≤8:=by
 cases a with
 | none=>simp [dSpan,Dt.dp]
 | some a=>obtain ⟨a1,a2⟩:=a;simp [dSpan,Dt.dp,Dt.dps]
end L2

namespace L2
open PySem PySem.Spec PyProof.Rows NM
def mask:List Nat→Nat
 | []=>0
 | t::r=>2 ^ t ||| mask r
theorem mask_bit (j:Nat):∀u:List Nat,(mask u).testBit j=decide (j∈u)
 | []=>by simp [mask]
 | t::r=>by
  simp only [mask,Nat.testBit_or,mask_bit j r,Nat.testBit_two_pow,List.mem_cons]
  by_cases h:t=j
  ·simp [h]
  ·have h':¬j=t:=fun e=>h e.symm
   simp [h,h']
theorem mask_append (u v:List Nat):mask (u++v)=mask u ||| mask v:=by
 refine Nat.eq_of_testBit_eq fun j=>?_
 rw [Nat.testBit_or,mask_bit,mask_bit,mask_bit]
 simp
theorem mask_eq {u v:List Nat}:mask u=mask v ↔ ∀j,j∈u↔j∈v:=by
 constructor
 ·intro e j
  have:=congrArg (fun x=>x.testBit j) e
  simp only [mask_bit] at this
  simpa using this
 ·intro h
  refine Nat.eq_of_testBit_eq fun j=>?_
  rw [mask_bit,mask_bit]
  simp [h j]
theorem mask_and {u v:List Nat}:(mask u &&& mask v=0) ↔ ∀j,¬(j∈u∧j∈v):=by
 constructor
 ·intro e j ⟨h1,h2⟩
  have:=congrArg (fun x=>x.testBit j) e
  simp [Nat.testBit_and,mask_bit,h1,h2] at this
 ·intro h
  refine Nat.eq_of_testBit_eq fun j=>?_
  rw [Nat.testBit_and,mask_bit,mask_bit]
  have:=h j
  by_cases h1:j∈u
  ·by_cases h2:j∈v
   ·exact absurd ⟨h1,h2⟩ this
   ·simp [h2]
  ·simp [h1]
theorem and_nat (a b:Nat):Builtin.bitAnd (a:Int) (b:Int)=((a &&& b:Nat):Int):=rfl
theorem or_nat (a b:Nat):Builtin.bitOr (a:Int) (b:Int)=((a ||| b:Nat):Int):=by
 have n1:∀x:Nat,decide ((0:Int)≤Builtin.bitNot (x:Int))=false:=fun x=>by unfold Builtin.bitNot;exact decide_eq_false (by lia)
 have n2:∀x:Int,Builtin.bitNot (Builtin.bitNot x)=x:=fun x=>by unfold Builtin.bitNot;lia
 unfold Builtin.bitOr Builtin.bitAnd
 rw [n1,n1]
 show Builtin.bitNot (Builtin.bitNot _)=_
 rw [n2,n2,n2]
 rfl
def REither:RWd:=fun _ x u=>x=.int ((mask u:Nat):Int)
theorem loc_either:LocW REither:=⟨fun _ _ _ _ h _=>h,fun _ _ _ h=>by cases h⟩
inductive spEither  (vs:List V) (H:Hp) (Q:VK) (_e3:XK):Prop
 | mk:∀a b:Nat,(vs=[.int (a:Nat),.int (b:Nat)])→(Q (.int ((a ||| b:Nat):Int)) H)→spEither vs H Q _e3
theorem either_bin {ok:List Nat→Prop}:∀vs H Q E,spBinW REither ok vs H Q E→spEither vs H Q E:=by
 rintro vs H Q E ⟨x,y,u,v,rfl,_,_,rfl,rfl,_,q⟩
 refine⟨_,_,rfl,q _ H (Same.refl H) ?_ (by first|(rintro _ _ ⟨⟩;done)|(rintro _ ⟨⟩;done)|(rintro ⟨⟩;done)|nofun)⟩
 unfold REither
 rw [mask_append]
def apartV (x:V):Option Nat→Prop
 | none=>x=.non
 | some m=>x=.int (m:Nat)
def apartOf (u:List Nat):Option Nat:=if u.Nodup then some (mask u) else none
def RApart:RWd:=fun _ x u=>apartV x (apartOf u)
theorem loc_apart:LocW RApart:=by
 refine⟨fun _ _ _ _ h _=>h,fun H p u h=>?_⟩
 unfold RApart at h
 cases e:apartOf u with
 | none=>rw [e] at h;cases h
 | some m=>rw [e] at h;cases h
def joinApart:Option Nat→Option Nat→Option Nat
 | some a,some b=>if a &&& b=0 then some (a ||| b) else none
 | _,_=>none
theorem apartOf_append (u v:List Nat):apartOf (u++v)=joinApart (apartOf u) (apartOf v):=by
 unfold apartOf
 by_cases hu:u.Nodup
 ·by_cases hv:v.Nodup
  ·rw [if_pos hu,if_pos hv]
   show _=if mask u &&& mask v=0 then some (mask u ||| mask v) else none
   by_cases h:mask u &&& mask v=0
   ·rw [if_pos h,if_pos,mask_append]
    rw [List.nodup_append]
    exact⟨hu,hv,fun a ha b hb e=>mask_and.mp h a ⟨ha,e ▸ hb⟩⟩
   ·rw [if_neg h,if_neg]
    intro z
    rw [List.nodup_append] at z
    exact h (mask_and.mpr fun j hj=>z.2.2 j hj.1 j hj.2 rfl)
  ·rw [if_neg hv,if_neg (fun z=>hv (List.nodup_append.mp z).2.1)]
   split <;> rfl
 ·rw [if_neg hu,if_neg (fun z=>hu (List.nodup_append.mp z).1)]
  rfl
inductive spApart  (vs:List V) (H:Hp) (Q:VK) (_e3:XK):Prop
 | mk:∀(x y:V) (a b:Option Nat),(vs=[x,y])→(apartV x a)→(apartV y b)→(∀z,apartV z (joinApart a b)→Q z H)→spApart vs H Q _e3
theorem apart_bin {ok:List Nat→Prop}:∀vs H Q E,spBinW RApart ok vs H Q E→spApart vs H Q E:=by
 rintro vs H Q E ⟨x,y,u,v,rfl,hu,hv,hx,hy,_,q⟩
 refine⟨x,y,apartOf u,apartOf v,rfl,hx,hy,fun z h=>q z H (Same.refl H) ?_ fun p e=>?_⟩
 ·unfold RApart
  rw [apartOf_append]
  exact h
 ·subst e
  cases e:joinApart (apartOf u) (apartOf v) with
  | none=>rw [e] at h;cases h
  | some m=>rw [e] at h;cases h
theorem perm_due {u:List Nat}{k:Nat}:apartOf u=apartOf (List.range (k+1))↔u.Perm (List.range (k+1)):=by
 have e:apartOf (List.range (k+1))=some (mask (List.range (k+1))):=if_pos List.nodup_range
 rw [e]
 unfold apartOf
 constructor
 ·intro h
  split at h
  ·rename_i hu
   have h':=mask_eq.mp (Option.some.inj h)
   rw [List.perm_iff_count]
   intro a
   rw [hu.count,List.nodup_range.count]
   simp [h' a]
  ·cases h
 ·intro p
  rw [if_pos (p.nodup_iff.mpr List.nodup_range)]
  exact congrArg some (mask_eq.mpr fun j=>p.mem_iff)
def dueB (kind:Str) (u:List Nat) (k:Nat):Prop :=
 if kind=Str.ofString "any" then u=List.range (k+1) else if kind=Str.ofString "commuting" then u.Perm (List.range (k+1)) else ∀j,j∈u↔j∈List.range (k+1)
def foldW (op:Int→Int→Int) (r:Nat→Int):List Nat→Int
 | []=>0
 | [a]=>r a
 | a::t=>op (r a) (foldW op r t)
theorem foldW_cons {op:Int→Int→Int}{r:Nat→Int}{a:Nat}{t:List Nat}(h:t≠[]):foldW op r (a::t)=op (r a) (foldW op r t):=by
 cases t with
 | nil=>exact absurd rfl h
 | cons b t=>rfl
theorem foldW_append {op:Int→Int→Int}{r:Nat→Int}(as:∀a b c,op (op a b) c=op a (op b c)) {t:List Nat}(ht:t≠[]):∀{u:List Nat},u≠[]→foldW op r (u++t)=op (foldW op r u) (foldW op r t)
 | [a],_=>foldW_cons ht
 | a::b::s,_=>by
  have ih:=foldW_append (r:=r) as ht (u:=b::s) (by simp)
  rw [show (a::b::s)++t=a::((b::s)++t) from rfl,foldW_cons (by simp),ih,foldW_cons (a:=a) (t:=b::s) (by simp),as]
def gtI (a b:Int):Int:=if b > a then b else a
theorem gtI_as (a b c:Int):gtI (gtI a b) c=gtI a (gtI b c):=by
 unfold gtI
 repeat' split
 all_goals lia
def RNum (op:Int→Int→Int) (r:Nat→Int):RWd:=fun _ x u=>x=.int (foldW op r u)
theorem loc_num {op:Int→Int→Int}{r:Nat→Int}:LocW (RNum op r):=⟨fun _ _ _ _ h _=>h,fun _ _ _ h=>by cases h⟩
inductive spNum (op:Int→Int→Int) (vs:List V) (H:Hp) (Q:VK) (_e3:XK):Prop
 | mk:∀i j:Int,(vs=[.int i,.int j])→(Q (.int (op i j)) H)→spNum op vs H Q _e3
theorem num_bin {op:Int→Int→Int}{r:Nat→Int}(as:∀a b c,op (op a b) c=op a (op b c)) {ok:List Nat→Prop}:∀vs H Q E,spBinW (RNum op r) ok vs H Q E→spNum op vs H Q E:=by
 rintro vs H Q E ⟨x,y,u,v,rfl,hu,hv,rfl,rfl,_,q⟩
 refine⟨_,_,rfl,q _ H (Same.refl H) ?_ (by first|(rintro _ _ ⟨⟩;done)|(rintro _ ⟨⟩;done)|(rintro ⟨⟩;done)|nofun)⟩
 unfold RNum
 rw [foldW_append as hv hu]
theorem joined_num:∀vs H Q E,spNum (fun a b=>a+b) vs H Q E→spJoined vs H Q E:=by
 rintro vs H Q E ⟨i,j,rfl,q⟩
 exact .inl ⟨i,j,rfl,q⟩
def textW (r:Nat→Str):List Nat→Str
 | []=>Str.ofString ""
 | [a]=>r a
 | a::t=>r a++textW r t
end L2

namespace L2
open PySem PySem.Spec PyProof.Rows NM
abbrev kAny:Str:=Str.ofString "any"
abbrev kCom:Str:=Str.ofString "commuting"
abbrev kGre:Str:=Str.ofString "greatest"
theorem kinds_cases {x:Str}(h:x∈kinds):x=kAny∨x=kCom∨x=kGre:=by
 unfold kinds at h
 simpa using h
theorem any_com:kAny≠kCom:=by decide
theorem any_gre:kAny≠kGre:=by decide
theorem com_gre:kCom≠kGre:=by decide
def RTrace (x:Str):RWd:=if x=kAny then RSpan else if x=kCom then RApart else REither
theorem rt_any:RTrace kAny=RSpan:=if_pos rfl
theorem rt_com:RTrace kCom=RApart:=(if_neg any_com.symm).trans (if_pos rfl)
theorem rt_gre:RTrace kGre=REither:=(if_neg any_gre.symm).trans (if_neg com_gre.symm)
theorem loc_trace {x:Str}(h:x∈kinds):LocW (RTrace x):=by
 rcases kinds_cases h with rfl|rfl|rfl
 ·rw [rt_any];exact loc_span
 ·rw [rt_com];exact loc_apart
 ·rw [rt_gre];exact loc_either
def dApart:Option Nat→Dt
 | none=>.non
 | some m=>.int (m:Nat)
def dTrace (x:Str) (u:List Nat):Dt:=if x=kAny then dSpan (spanOf u) else if x=kCom then dApart (apartOf u) else .int ((mask u:Nat):Int)
theorem dt_any {u:List Nat}:dTrace kAny u=dSpan (spanOf u):=if_pos rfl
theorem dt_com {u:List Nat}:dTrace kCom u=dApart (apartOf u):=(if_neg any_com.symm).trans (if_pos rfl)
theorem dt_gre {u:List Nat}:dTrace kGre u=.int ((mask u:Nat):Int):=(if_neg any_gre.symm).trans (if_neg com_gre.symm)
theorem deep_trace {K:PySem.W.Frag}{H:Hp}{x:Str}{v:V}{u:List Nat}(h:x∈kinds) (r:RTrace x H v u):Deep K H (dTrace x u) v:=by
 rcases kinds_cases h with rfl|rfl|rfl
 ·rw [rt_any] at r;rw [dt_any];exact deep_span r
 ·rw [rt_com] at r
  rw [dt_com]
  unfold RApart at r
  cases e:apartOf u with
  | none=>rw [e] at r;simp only [dApart,Deep];exact r
  | some m=>rw [e] at r;simp only [dApart,Deep];exact r
 ·rw [rt_gre] at r;rw [dt_gre];simp only [Deep];exact r
theorem dp_trace {x:Str}{u:List Nat}(h:x∈kinds):(dTrace x u).dp≤8:=by
 rcases kinds_cases h with rfl|rfl|rfl
 ·rw [dt_any];exact dp_span _
 ·rw [dt_com];cases apartOf u <;> simp [dApart,Dt.dp]
 ·rw [dt_gre];simp [Dt.dp]
theorem du_any {u:List Nat}{k:Nat}:dueB kAny u k↔u=List.range (k+1):=by unfold dueB;rw [if_pos rfl]
theorem du_com {u:List Nat}{k:Nat}:dueB kCom u k↔u.Perm (List.range (k+1)):=by unfold dueB;rw [if_neg any_com.symm,if_pos rfl]
theorem du_gre {u:List Nat}{k:Nat}:dueB kGre u k ↔ ∀j,j∈u↔j∈List.range (k+1):=by unfold dueB;rw [if_neg any_gre.symm,if_neg com_gre.symm]
theorem due_iff {x:Str}{u:List Nat}{k:Nat}(h:x∈kinds):(dTrace x u).eqB (dTrace x (List.range (k+1)))=true↔dueB x u k:=by
 rcases kinds_cases h with rfl|rfl|rfl
 ·rw [dt_any,dt_any,spanD_eq,spanOf_range,du_any,decide_eq_true_eq]
  exact⟨spanOf_eq,fun e=>by rw [e,spanOf_range]⟩
 ·rw [dt_com,dt_com,du_com,←perm_due]
  cases apartOf u with
  | none =>
   cases apartOf (List.range (k+1)) with
   | none=>simp [dApart,Dt.eqB]
   | some b=>simp [dApart,Dt.eqB]
  | some a =>
   cases apartOf (List.range (k+1)) with
   | none=>simp [dApart,Dt.eqB]
   | some b=>simp [dApart,Dt.eqB];lia
 ·rw [dt_gre,dt_gre,du_gre,←mask_eq]
  simp [Dt.eqB]
  lia
def cnt1 (t:Nat) (i:Nat):Int:=((([i].count t:Nat)):Int)
theorem cnt1_eq {t i:Nat}:cnt1 t i=if i=t then 1 else 0:=by
 unfold cnt1
 by_cases h:i=t
 ·simp [h]
 ·simp [h]
theorem sum_cnt {t:Nat}:∀{u:List Nat},u≠[]→foldW (fun a b=>a+b) (cnt1 t) u=((u.count t:Nat):Int)
 | [a],_=>rfl
 | a::b::r,_=>by
  rw [foldW_cons (by simp),sum_cnt (u:=b::r) (by simp),cnt1_eq,List.count_cons (b:=a)]
  by_cases h:a=t
  ·simp [h];lia
  ·simp [h]
theorem max_cnt {t:Nat}:∀{u:List Nat},u≠[]→foldW gtI (cnt1 t) u=if t∈u then 1 else 0
 | [a],_=>by
  show cnt1 t a=_
  rw [cnt1_eq]
  by_cases h:a=t
  ·simp [h]
  ·have:¬t=a:=fun e=>h e.symm
   simp [h,this]
 | a::b::r,_=>by
  rw [foldW_cons (by simp),max_cnt (u:=b::r) (by simp),cnt1_eq]
  unfold gtI
  by_cases h:a=t
  ·subst h
   by_cases h2:a∈b::r
   ·simp [h2]
   ·simp [h2]
  ·have h':¬t=a:=fun e=>h e.symm
   by_cases h2:t∈b::r
   ·rw [if_pos h2,if_neg h,if_pos (by decide),if_pos (List.mem_cons_of_mem _ h2)]
   ·rw [if_neg h2,if_neg h,if_neg (by decide),if_neg (by simp only [List.mem_cons,not_or] at h2 ⊢;exact⟨h',h2⟩)]
def opK (x:Str):Int→Int→Int:=if x=kGre then gtI else fun a b=>a+b
def ShowN (x:Str) (u:List Nat) (k t:Nat):Prop:=foldW (opK x) (cnt1 t) u≠foldW (opK x) (cnt1 t) (List.range (k+1))
theorem show_ex {x:Str}(hx:x=kCom∨x=kGre) {u:List Nat}{k w:Nat}(hu:u≠[]) (hk:k<w) (hlt:∀v∈u,v<w) (h:¬dueB x u k):∃t,t<w∧ShowN x u k t:=by
 refine Classical.byContradiction fun hn=>h ?_
 have hr:List.range (k+1)≠[]:=by simp
 have hall:∀t,t<w→foldW (opK x) (cnt1 t) u=foldW (opK x) (cnt1 t) (List.range (k+1)):=fun t ht=>Classical.byContradiction fun z=>hn ⟨t,ht,z⟩
 rcases hx with rfl|rfl
 ·rw [du_com,List.perm_iff_count]
  intro a
  by_cases ha:a<w
  ·have:=hall a ha
   unfold opK at this
   rw [if_neg com_gre,sum_cnt hu,sum_cnt hr] at this
   lia
  ·rw [List.count_eq_zero.mpr (fun z=>ha (hlt a z)),List.count_eq_zero.mpr (fun z=>ha (by have:=List.mem_range.mp z;lia))]
 ·rw [du_gre]
  intro a
  by_cases ha:a<w
  ·have:=hall a ha
   unfold opK at this
   rw [if_pos rfl,max_cnt hu,max_cnt hr] at this
   by_cases h1:a∈u
   ·by_cases h2:a∈List.range (k+1)
    ·exact⟨fun _=>h2,fun _=>h1⟩
    ·rw [if_pos h1,if_neg h2] at this;cases this
   ·by_cases h2:a∈List.range (k+1)
    ·rw [if_neg h1,if_pos h2] at this;cases this
    ·exact⟨fun z=>absurd z h1,fun z=>absurd z h2⟩
  ·exact⟨fun z=>absurd (hlt a z) ha,fun z=>absurd (by have:=List.mem_range.mp z;lia) ha⟩
def ShowV (H:Hp) (x:Str) (N:NetN) (p o:Nat) (l:Addr):Prop :=
 if x=kAny then ∃best,H l=some (.lst ((rowOf N.w best).map V.str))∧BestOk N p o best
 else ∃t,t<N.w∧H l=some (.lst ((List.range N.w).map fun i=>V.int (cnt1 t i)))∧ShowN x (N.words.getD o []) p t
theorem ShowV.mono {H H':Hp}{x:Str}{N:NetN}{p o:Nat}{l:Addr}(s:Same H H') (h:ShowV H x N p o l):ShowV H' x N p o l:=by
 unfold ShowV at h ⊢
 by_cases e:x=kAny
 ·rw [if_pos e] at h ⊢
  obtain ⟨b,h1,h2⟩:=h
  exact⟨b,s _ _ h1,h2⟩
 ·rw [if_neg e] at h ⊢
  obtain ⟨t,h1,h2,h3⟩:=h
  exact⟨t,h1,s _ _ h2,h3⟩
inductive spTracesK  (vs:List V) (H:Hp) (Q:VK) (_e3:XK):Prop
 | mk:∀(w:Nat) (x:Str),(vs=[.int (w:Nat),.str x])→(x∈kinds)→(w≤64)→(∀(H':Hp) (l:Addr) (zs:List V),Same H H'→H l=none→H' l=some (.lst zs)→zs.length=w→(∀(i:Nat) z,zs[i]? = some z→RTrace x H' z [i])→Q (.ref l) H')→spTracesK vs H Q _e3
inductive spNumbers  (vs:List V) (H:Hp) (Q:VK) (_e3:XK):Prop
 | mk:∀(n sa oa:Addr) (rs:List V) (N:NetN) (p o:Nat) (x:Str),(vs=[.ref n,.str x,.int (p:Nat)])→((x=kCom∨x=kGre))→(NetAt H n N.w N.steps N.outs sa oa rs)→(N.Ok)→(N.ou[p]? = some o)→(¬dueB x (N.words.getD o []) p)→(∀(H':Hp) (l:Addr) (t:Nat),Same H H'→t<N.w→H' l=some (.lst ((List.range N.w).map fun i=>V.int (cnt1 t i)))→ShowN x (N.words.getD o []) p t→Q (.ref l) H')→spNumbers vs H Q _e3
inductive spShowK (PT:Addr) (lp:Pos) (vs:List V) (H:Hp) (Q:VK) (_e3:XK):Prop
 | mk:∀(n sa oa:Addr) (rs:List V) (N:NetN) (p o:Nat) (x:Str),(vs=[.ref n,.str x,.int (p:Nat)])→(x∈kinds)→(NetAt H n N.w N.steps N.outs sa oa rs)→(N.Ok)→(N.ou[p]? = some o)→(¬dueB x (N.words.getD o []) p)→(LamOk lamQ lp PT H)→(∀(H':Hp) (l:Addr),SameB PT H H'→LamOk lamQ lp PT H'→ShowV H' x N p o l→Q (.ref l) H')→spShowK PT lp vs H Q _e3
def RightK (x:Str) (N:NetN) (k:Nat):Prop:=∀(i o:Nat),i<k→N.ou[i]? = some o→dueB x (N.words.getD o []) i
inductive spJudgedK (CB:Addr) (CK:Addr) (PT:Addr) (lp:Pos) (vs:List V) (H:Hp) (Q:VK) (E:XK):Prop
 | mk:∀(n sa oa:Addr) (rs:List V) (wide:Int) (steps:List (List Int)) (outs:List Int) (x:Str),(vs=[.ref n,.str x])→(outs.length≤10000)→(NetAt H n wide steps outs sa oa rs)→((∀H',Same H H'→¬Good wide steps outs→E (.ref CB) none H'))→((∀H',Same H H'→Good wide steps outs→x ∉ kinds→E (.ref CK) none H'))→((Good wide steps outs→x∈kinds→LamOk lamQ lp PT H))→(∀N:NetN,N.Ok→wide=N.w→steps=N.steps→outs=N.outs→x∈kinds→(∀(H':Hp) (l:Addr),SameB PT H H'→LamOk lamQ lp PT H'→RightK x N N.w→H' l=some (.tup [.str (Str.ofString "right")])→Q (.ref l) H')∧(∀(H':Hp) (l r:Addr) (k o:Nat),SameB PT H H'→LamOk lamQ lp PT H'→RightK x N k→N.ou[k]? = some o→¬dueB x (N.words.getD o []) k→ShowV H' x N k o r→H' l=some (.tup [.str (Str.ofString "wrong"),.int (k:Nat),.ref r])→Q (.ref l) H'))→spJudgedK CB CK PT lp vs H Q E
end L2

namespace L2
open PySem PySem.Spec PyProof.Rows NM
def strAt (xs:List V) (i:Nat):Str:=match xs[i]? with|some (.str s)=>s|_=>Str.ofString ""
def intAt (xs:List V) (i:Nat):Int:=match xs[i]? with|some (.int n)=>n|_=>0
theorem textW_cons {r:Nat→Str}{a:Nat}{t:List Nat}(h:t≠[]):textW r (a::t)=r a++textW r t:=by
 cases t with
 | nil=>exact absurd rfl h
 | cons b t=>rfl
theorem str_assoc (a b c:Str):(a++b)++c=a++(b++c):=by
 show Str.mk ((a.cps++b.cps)++c.cps)=Str.mk (a.cps++(b.cps++c.cps))
 rw [Array.append_assoc]
theorem str_len (a b:Str):(a++b).length=a.length+b.length:=by
 show (a.cps++b.cps).size=a.cps.size+b.cps.size
 rw [Array.size_append]
theorem textW_append {r:Nat→Str}{t:List Nat}(ht:t≠[]):∀{u:List Nat},u≠[]→textW r (u++t)=textW r u++textW r t
 | [a],_=>textW_cons ht
 | a::b::s,_=>by
  have ih:=textW_append (r:=r) ht (u:=b::s) (by simp)
  rw [show (a::b::s)++t=a::((b::s)++t) from rfl,textW_cons (by simp),ih,textW_cons (a:=a) (t:=b::s) (by simp),str_assoc]
theorem textW_len {r:Nat→Str}(hr:∀i,(r i).length≤2):∀{u:List Nat},(textW r u).length≤2*u.length
 | []=>by simp [textW];decide
 | [a]=>by have:=hr a;show (r a).length≤2*1;lia
 | a::b::s=>by
  have ih:=textW_len hr (u:=b::s)
  have:=hr a
  rw [textW_cons (by simp),str_len]
  simp only [List.length_cons] at ih ⊢
  lia
def valW (x:Str) (xs:List V) (u:List Nat):V:=if x=kAny then .str (textW (strAt xs) u) else .int (foldW (opK x) (intAt xs) u)
theorem opK_as (x:Str) (a b c:Int):opK x (opK x a b) c=opK x a (opK x b c):=by
 unfold opK
 by_cases h:x=kGre
 ·rw [if_pos h];exact gtI_as a b c
 ·rw [if_neg h];lia
def RowOk (x:Str) (xs:List V):Prop:=if x=kAny then ∀v∈xs,∃s:Str,v=.str s∧s.length≤2 else ∀v∈xs,∃n:Int,v=.int n
def RVal (x:Str) (xs:List V):RWd:=fun _ v u=>v=valW x xs u
theorem loc_val {x:Str}{xs:List V}:LocW (RVal x xs):=by
 refine⟨fun _ _ _ _ h _=>h,fun _ p u h=>?_⟩
 unfold RVal valW at h
 by_cases e:x=kAny
 ·rw [if_pos e] at h;cases h
 ·rw [if_neg e] at h;cases h
theorem strAt_len {xs:List V}(h:RowOk kAny xs) (i:Nat):(strAt xs i).length≤2:=by
 unfold RowOk at h
 rw [if_pos rfl] at h
 unfold strAt
 cases e:xs[i]? with
 | none=>decide
 | some v =>
  obtain ⟨s,rfl,hs⟩:=h v (List.mem_of_getElem? e)
  exact hs
theorem val_one {x:Str}{xs:List V}(h:RowOk x xs) {i:Nat}{v:V}(hv:xs[i]? = some v):v=valW x xs [i]:=by
 unfold RowOk at h
 unfold valW
 by_cases e:x=kAny
 ·rw [if_pos e] at h ⊢
  obtain ⟨s,rfl,_⟩:=h v (List.mem_of_getElem? hv)
  show _=V.str (strAt xs i)
  unfold strAt
  rw [hv]
 ·rw [if_neg e] at h ⊢
  obtain ⟨s,rfl⟩:=h v (List.mem_of_getElem? hv)
  show _=V.int (intAt xs i)
  unfold intAt
  rw [hv]
def shortW (u:List Nat):Prop:=2*u.length≤sizeLine
theorem word_short {N:NetN}(o:N.Ok) (h:N.st.length≤20) {j:Nat}:shortW (N.words.getD j []):=by
 have hp:2 ^ N.st.length≤2 ^ 20:=Nat.pow_le_pow_right (by decide) h
 have:(N.words.getD j []).length≤2 ^ N.st.length:=by
  by_cases hj:j<N.words.length
  ·refine N.wordsTo_size _ (Nat.le_refl _) _ ?_
   rw [List.getD_eq_getElem?_getD,List.getElem?_eq_getElem hj]
   exact List.getElem_mem hj
  ·rw [List.getD_eq_getElem?_getD,List.getElem?_eq_none (by lia)]
   simp
 unfold shortW
 have hs:sizeLine=16777216:=sizeLine_eq
 lia
theorem val_joined {x:Str}{xs:List V}(hx:x≠kGre) (h:RowOk x xs):∀vs H Q E,spBinW (RVal x xs) shortW vs H Q E→spJoined vs H Q E:=by
 rintro vs H Q E ⟨y,z,u,v,rfl,hu,hv,rfl,rfl,ho,q⟩
 by_cases e:x=kAny
 ·subst e
  have e1:∀w,valW kAny xs w=.str (textW (strAt xs) w):=fun w=>by unfold valW;rw [if_pos rfl]
  rw [e1,e1]
  refine .inr (.inr ⟨_,_,rfl,?_,q _ H (Same.refl H) ?_ (by first|(rintro _ _ ⟨⟩;done)|(rintro _ ⟨⟩;done)|(rintro ⟨⟩;done)|nofun)⟩)
  ·have:=textW_len (strAt_len h) (u:=u++v)
   rw [textW_append hv hu,str_len] at this
   unfold shortW at ho
   lia
  ·unfold RVal
   rw [e1,textW_append hv hu]
 ·have e1:∀w,valW x xs w=.int (foldW (opK x) (intAt xs) w):=fun w=>by unfold valW;rw [if_neg e]
  rw [e1,e1]
  refine .inl ⟨_,_,rfl,q _ H (Same.refl H) ?_ (by first|(rintro _ _ ⟨⟩;done)|(rintro _ ⟨⟩;done)|(rintro ⟨⟩;done)|nofun)⟩
  unfold RVal
  rw [e1,foldW_append (opK_as x) hv hu]
  have:opK x=fun a b=>a+b:=by unfold opK;rw [if_neg hx]
  rw [this]
theorem val_greater {xs:List V}:∀vs H Q E,spBinW (RVal kGre xs) shortW vs H Q E→spNum gtI vs H Q E:=by
 rintro vs H Q E ⟨y,z,u,v,rfl,hu,hv,rfl,rfl,ho,q⟩
 have e1:∀w,valW kGre xs w=.int (foldW (opK kGre) (intAt xs) w):=fun w=>by unfold valW;rw [if_neg any_gre.symm]
 have e2:opK kGre=gtI:=by unfold opK;rw [if_pos rfl]
 rw [e1,e1]
 refine⟨_,_,rfl,q _ H (Same.refl H) ?_ (by first|(rintro _ _ ⟨⟩;done)|(rintro _ ⟨⟩;done)|(rintro ⟨⟩;done)|nofun)⟩
 unfold RVal
 rw [e1,foldW_append (opK_as kGre) hv hu,e2]
def Thing (v:V):Prop:=(∃s:Str,v=.str s∧s.length≤2) ∨ ∃n:Int,v=.int n
def isOf (x:Str) (v:V):Bool:=match v with | .str _=>decide (x=kAny)|_=>!decide (x=kAny)
inductive spWhole2  (vs:List V) (H:Hp) (Q:VK) (_e3:XK):Prop
 | mk:∀v,(vs=[v])→(Thing v)→(Q (.bl (match v with | .str _=>false|_=>true)) H)→spWhole2 vs H Q _e3
inductive spThing  (vs:List V) (H:Hp) (Q:VK) (_e3:XK):Prop
 | mk:∀(x:Str) (v:V),(vs=[.str x,v])→(Thing v)→(Q (.bl (isOf x v)) H)→spThing vs H Q _e3
inductive spRow (K:PySem.W.Frag) (CR:Addr) (vs:List V) (H:Hp) (Q:VK) (E:XK):Prop
 | mk:∀(w:Nat) (x:Str) (ra:Addr) (xs:List V),(vs=[.int (w:Nat),.str x,.ref ra])→(H ra=some (.lst xs))→(xs.length≤10000)→((∀v∈xs,Thing v))→(∀H',Same H H'→((xs.length=w∧∀v∈xs,isOf x v=true)→Q .non H')∧(¬(xs.length=w∧∀v∈xs,isOf x v=true)→E (.ref CR) none H'))→spRow K CR vs H Q E
inductive spRun (K:PySem.W.Frag) (CB:Addr) (CK:Addr) (CR:Addr) (vs:List V) (H:Hp) (Q:VK) (E:XK):Prop
 | mk:∀(n sa oa:Addr) (rs:List V) (wide:Int) (steps:List (List Int)) (outs:List Int) (x:Str) (ra:Addr) (xs:List V),(vs=[.ref n,.str x,.ref ra])→(outs.length≤10000)→(NetAt H n wide steps outs sa oa rs)→(H ra=some (.lst xs))→(xs.length≤10000)→((∀v∈xs,Thing v))→(∀H',Same H H'→(¬Good wide steps outs→E (.ref CB) none H')∧(Good wide steps outs→x ∉ kinds→E (.ref CK) none H')∧∀N:NetN,N.Ok→wide=N.w→steps=N.steps→outs=N.outs→x∈kinds→(¬(xs.length=N.w∧∀v∈xs,isOf x v=true)→E (.ref CR) none H')∧(N.st.length≤20∧∀l,(xs.length=N.w∧∀v∈xs,isOf x v=true)→H' l=some (.lst (N.ou.map fun o=>valW x xs (N.words.getD o [])))→Q (.ref l) H'))→spRun K CB CK CR vs H Q E
inductive spPlain (K:PySem.W.Frag) (CK:Addr) (vs:List V) (H:Hp) (Q:VK) (E:XK):Prop
 | mk:∀(x:Str) (ra:Addr) (xs:List V),(vs=[.str x,.ref ra])→(H ra=some (.lst xs))→(xs≠[])→(xs.length≤64)→(x∈kinds)→(RowOk x xs)→(∀H' l,Same H H'→H' l=some (.lst ((List.range xs.length).map fun k=>valW x xs (List.range (k+1))))→Q (.ref l) H')→spPlain K CK vs H Q E
theorem rowOk_of {x:Str}{xs:List V}(h:∀v∈xs,Thing v) (k:∀v∈xs,isOf x v=true):RowOk x xs:=by
 unfold RowOk
 by_cases e:x=kAny
 ·rw [if_pos e]
  intro v hv
  rcases h v hv with ⟨s,rfl,hs⟩|⟨n,rfl⟩
  ·exact⟨s,rfl,hs⟩
  ·have:=k _ hv
   simp [isOf,e] at this
 ·rw [if_neg e]
  intro v hv
  rcases h v hv with ⟨s,rfl,hs⟩|⟨n,rfl⟩
  ·have:=k _ hv
   simp [isOf,e] at this
  ·exact⟨n,rfl⟩
end L2

namespace L2
open PySem PySem.Spec PyProof.Rows
theorem law_callT {P:Program}{w:World}{K:PySem.W.Frag}{mg mb:Str→Option Value}{CX:CXT}{k:Nat}{fa a c PT:Addr}{fd:FuncData}{x:Str}{sp:Sp}{s₁:Shared}{vs:List Value}{ns:List Int}
  (KX:K.In s₁.heap) (hns:s₁.heap.Ns mainGlobals mg) (hb:s₁.heap.Ns builtinsNs mb) (hbb:∀x:Str,x ≠ "__name__" → mb x=bootBuiltins x) (hlim:s₁.heap.NoLimit) (hg:s₁.gens=#[])
  (hT:s₁.heap.get? PT=some (PySem.W.tabObj #[])) (hC:PySem.W.codeHdIn K c PT=true) (hKP:K.lookup PT=none) (hbl:s₁.heap.BuiltinsAt mg PT)
  (ha:s₁.heap.get? a=some { cls:=.type "list", data:=.seq vs.toArray }) (hi:IntsAre vs ns) (hl:ns.length≤sizeLine) (hr:Room k callerA)
  (F:∀base:Heap,K.In base→base.Ns mainGlobals mg→Lt K mg base c PT→FnOk P w K mg base CX k fa fd [x] sp) (hbind:∀(s:Shared) (u:Value),BindsTo s fd ⟨[u],[]⟩ [(x,u)])
  (hsp:∀H:Hp,H PT=some (.tbl #[])→SqL K H a (ns.map V.int)→sp [.ref a] H (fun v _=>v=.bl true) fun _ _ _=>False)
  (hCX:∀H e s',CX [] H s₁ (fun _ _ _=>False) e s'→False) :
  codeAny (model P w) callerA (.call (.ref fa) ⟨[.ref a],[]⟩) (fun r s'=>r=.ok (.ret (.bool true))∧OldK s₁.heap s'.heap∧s'.os=s₁.os∧AllBare s'.gens) s₁:=by
 have rv:=vals_ints hi
 have lenV:=hi.length
 have hne:a≠PT:=fun e=>by rw [e,hT] at ha;cases ha
 have hct:isCodeTable s₁.heap PT:=((PySem.W.codeHd_of_K KX hC).tab hT).isCodeTable
 have core:∀H:Hp,(∀b,b=PT∨H b=none ∨ ∃o xs,H b=some (.frz o (.lst xs)))→H PT=some (.tbl #[])→SqL K H a (ns.map V.int)→HOk P w H s₁.heap→(∀b,H b≠none→b=a∨b=PT)→(H a≠none→K.lookup a=none) →
   codeAny (model P w) callerA (.call (.ref fa) ⟨[.ref a],[]⟩) (fun r s'=>r=.ok (.ret (.bool true))∧OldK s₁.heap s'.heap∧s'.os=s₁.os∧AllBare s'.gens) s₁:=by
  intro H hO hP hS hok hA hK
  have base_of:∀{b:Addr}{o:Obj},s₁.heap.get? b=some o→H b=none→(hidT s₁.heap H).get? b=some o:=fun e n=>hidT_get e n
  have free:∀{b:Addr}{o:Obj},s₁.heap.get? b=some o→(∀n,o.data ≠ .seq vs.toArray n)→(∀ps,o.data ≠ .fields ps)→H b=none:=fun {b o} e d1 d2=>by
   cases q:H b with
   | none=>rfl
   | some u =>
    rcases hA b (by rw [q];simp) with e'|e'
    ·subst e'
     rw [ha] at e;obtain rfl:=Option.some.inj e
     exact absurd rfl (d1 _)
    ·subst e'
     rw [hT] at e;obtain rfl:=Option.some.inj e
     exact absurd rfl (d2 _)
  have nsK:∀{b:Addr}{m:Str→Option Value},s₁.heap.Ns b m→(hidT s₁.heap H).Ns b m:=fun {b m} ⟨o,es,ep,e,d,r⟩=>⟨o,es,ep,base_of e (free e (fun n z=>by rw [d] at z;cases z) fun n z=>by rw [d] at z;cases z),d,r⟩
  have hKb:K.In (hidT s₁.heap H):=fun b o e=>base_of (KX b o e) (by
   cases q:H b with
   | none=>rfl
   | some u =>
    rcases hA b (by rw [q];simp) with e'|e'
    ·subst e'
     rw [hK (by rw [q];simp)] at e;exact L2.ns_ e
    ·subst e'
     rw [hKP] at e;exact L2.ns_ e)
  have hM:Mod K mg (hidT s₁.heap H):=⟨hKb,nsK hns,⟨mb,nsK hb,hbb⟩,let ⟨mc,h1,h2⟩:=hlim;⟨mc,nsK h1,h2⟩⟩
  have e0:Env0 P w K mg (hidT s₁.heap H) callerA [] s₁ H:=⟨rfl,hM,fun b o e=>of_hidT e,Nat.le_of_eq (hidT_size _ _),trivial,fun b hb=>absurd (show b∈([]:List Addr) from hb) (by simp),hok,.of_eq hg⟩
  have hLt:Lt K mg (hidT s₁.heap H) c PT:=by
   obtain ⟨bm,ob,b1,b2,b3,b4,b5,b6,b7,b8⟩:=hbl
   exact⟨hC,bm,ob,b1,b2,b3,b4,base_of b5 (free b5 (fun n z=>by rw [b8] at z;cases z) fun n z=>by rw [b8] at z;cases z),b6,b7,b8⟩
  refine codeAny_mono ((F _ hKb (nsK hns) hLt).run callerA [] s₁ H ⟨[.ref a],[]⟩ [.ref a] [.ref a] _ _ hr e0 (hbind s₁ (.ref a)) (.cons rfl .nil) (hsp H hP hS)) fun r s' h=>?_
  cases r with
  | error e=>exact (hCX H e s' h).elim
  | ok fl =>
   cases fl with
   | next=>exact False.elim h
   | brk=>exact False.elim h
   | cont=>exact False.elim h
   | ret u =>
    obtain ⟨v,H',os,bare,un,hok',r',q⟩:=h
    have q':v=.bl true:=q
    subst q'
    obtain rfl:u=Value.bool true:=r'
    have kp:∀b o,b≠PT→s₁.heap.get? b=some o→s'.heap.get? b=some o:=fun b o hbP e=>by
     cases q:H b with
     | none=>exact un.keep b o e q (by intro z;exact absurd (show b∈([]:List Addr) from z) (by simp)) (by simp)
     | some u =>
      rcases hO b with z|z|⟨ob,xs,z⟩
      ·exact absurd z hbP
      ·rw [q] at z;exact L2.sn_ z
      ·have z2:=un.frzs b ob _ z
       obtain ⟨e1,_⟩:=hok b _ z
       obtain ⟨e2,_⟩:=hok' b _ z2
       rw [e] at e1;obtain rfl:=Option.some.inj e1
       exact e2
    obtain ⟨more,hm⟩:=un.tbls PT _ hP
    have hP':s'.heap.get? PT=some (PySem.W.tabObj (#[]++more)):=hok' PT _ hm
    refine⟨rfl,⟨fun b o e=>?_,fun b o e=>?_⟩,os,bare⟩
    ·by_cases hbP:b=PT
     ·subst hbP
      rw [hT] at e;obtain rfl:=Option.some.inj e
      exact .inr (.inl ⟨hct,rfl,#[],more,rfl,hP'⟩)
     ·exact .inl (kp b o hbP e)
    ·by_cases hbP:b=PT
     ·rw [hbP];exact⟨_,hP'⟩
     ·exact⟨o,kp b o hbP e⟩
 cases hk:K.lookup a with
 | some o =>
  have e:=KX a o hk
  rw [ha] at e
  obtain rfl:=Option.some.inj e
  refine core (upd (fun _=>none) PT (.tbl #[])) (fun b=>?_) upd_same (.inr ⟨_,vs.toArray,_,hk,rfl,rfl,rfl,by rw [List.size_toArray,lenV];exact hl,by simpa using rv⟩) (fun b u z=>?_) (fun b z=>?_) fun z=>absurd (upd_ne hne) z
  ·by_cases hb:b=PT
   ·exact .inl hb
   ·exact .inr (.inl (upd_ne hb))
  ·by_cases hb:b=PT
   ·rw [hb,upd_same] at z;obtain rfl:=Option.some.inj z
    rw [hb]
    exact hT
   ·rw [upd_ne hb] at z;exact L2.ns_ z
  ·by_cases hb:b=PT
   ·exact .inr hb
   ·exact absurd (upd_ne hb) z
 | none =>
  have hsc:(upd (upd (fun _=>none) a (.frz { cls:=.type "list", data:=.seq vs.toArray } (.lst (ns.map V.int)))) PT (.tbl #[])) a=some (.frz { cls:=.type "list", data:=.seq vs.toArray } (.lst (ns.map V.int))):=by rw [upd_ne hne,upd_same]
  refine core (upd (upd (fun _=>none) a (.frz { cls:=.type "list", data:=.seq vs.toArray } (.lst (ns.map V.int)))) PT (.tbl #[])) (fun b=>?_) upd_same (.inl (.inr ⟨{ cls:=.type "list", data:=.seq vs.toArray },hsc⟩)) (fun b u z=>?_) (fun b z=>?_) fun _=>hk
  ·by_cases hb:b=PT
   ·exact .inl hb
   ·by_cases hb2:b=a
    ·exact .inr (.inr ⟨_,_,by rw [hb2];exact hsc⟩)
    ·exact .inr (.inl (by rw [upd_ne hb,upd_ne hb2]))
  ·by_cases hb:b=PT
   ·rw [hb,upd_same] at z;obtain rfl:=Option.some.inj z
    rw [hb]
    exact hT
   ·by_cases hb2:b=a
    ·rw [hb2,hsc] at z
     obtain rfl:=Option.some.inj z
     rw [hb2]
     exact⟨ha,by rw [List.length_map];exact hl,vs,_,rv,ha⟩
    ·rw [upd_ne hb,upd_ne hb2] at z;exact L2.ns_ z
  ·by_cases hb:b=PT
   ·exact .inr hb
   ·by_cases hb2:b=a
    ·exact .inl hb2
    ·exact absurd (by rw [upd_ne hb,upd_ne hb2]) z
theorem walk_ofT {l:PySem.W.OpenLaw}{n k:Nat}{q:Program}{loose:List Str}{XP:(Str→Option Value)→Heap→Prop}{YP:World→Heap→Prop}{d:DefRec}{K:Params→PySem.W.Frag}{CX:World→CXT}{sp:World→Sp}{x:Str}{c PT:Addr}
  (hn:l.most=some n) (hn2:n≤sizeLine) (hdf:d.params.defaults=[]) (hr:Room k callerA)
  (hY:∀(w:World) (h:Heap),YP w h→(K w.params).In h) (hP:∀(w:World) (h:Heap),YP w h→h.get? PT=some (PySem.W.tabObj #[])) (hC:∀w:World,PySem.W.codeHdIn (K w.params) c PT=true) (hKP:∀w:World,(K w.params).lookup PT=none)
  (F:∀(w:World) (mg:Str→Option Value) (fa:Addr) (h:Heap),(K w.params).In h→h.Ns mainGlobals mg→mg d.name=some (.ref fa) →
   ∃fd:FuncData,(∀(s:Shared) (u:Value),BindsTo s fd ⟨[u],[]⟩ [(x,u)]) ∧
    ∀base:Heap,(K w.params).In base→base.Ns mainGlobals mg→Lt (K w.params) mg base c PT→FnOk l.prog w (K w.params) mg base (CX w) k fa fd [x] (sp w))
  (hsp:∀(w:World) (H:Hp) (a:Addr) (ns:List Int),ns.length≤n→H PT=some (.tbl #[])→SqL (K w.params) H a (ns.map V.int)→sp w [.ref a] H (fun v _=>v=.bl true) fun _ _ _=>False)
  (hCX:∀(w:World) (H:Hp) (s:Shared) (e:Value) (s':Shared),CX w [] H s (fun _ _ _=>False) e s'→False) :
  PySem.W.WalkO q loose XP YP l.row.toRowW d [] (fun f vs=>PySem.call f vs):=by
 refine Att.attach_call hn hdf fun w s₀ s₁ mg mb fa o pm cd doc a vs ns G Y ho hd hcd hmg hobj hints hlen hg=>?_
 have KX:=hY w _ Y
 have hT:=hP w _ Y
 refine L2.ob_ea (F w mg fa _ KX G.T.g hmg) fun fd hb hF=>?_
 have hbl:s₁.heap.BuiltinsAt mg PT:=by
  obtain ⟨bm,ob,b1,b2,b3,b4,b5,b6⟩:=G.T.bmain
  refine⟨bm,ob,b1,b2,fun e=>?_,fun e=>?_,b3,b4,b5,b6⟩
  ·obtain ⟨o,es,ep,e',hd,_⟩:=G.T.g
   rw [←e,b3] at e';obtain rfl:=Option.some.inj e';rw [hd] at b6;cases b6
  ·rw [e,hT] at b3;obtain rfl:=Option.some.inj b3;cases b4
 exact law_callT KX G.T.g G.T.b G.T.builtins G.T.nolimit hg hT (hC w) (hKP w) hbl hobj hints (Nat.le_trans hlen hn2) hr hF hb (fun H hH hS=>hsp w H a ns hlen hH hS) fun H e s'=>hCX w H s₁ e s'
end L2

namespace L2
open PySem PySem.Spec PyProof.Rows PySem.Calls
section
variable {prog:Program}{w:World}{A:Around}{E:Value→Shared→Prop}{s:Shared}
end
section
variable {X:Cx}
end
end L2

namespace L2
open PySem PySem.Spec PyProof.Rows NM
end L2

namespace L2
open PySem PySem.Spec PyProof.Rows
section
variable {X:Cx}{pins:List (Addr × Obj)}{σ:St}{H H₁:Hp}{s s₁:Shared}{scope:Scope}{x:Str}{js:List Nat}{C:Addr}{fp:List Addr}
end
section
variable {X:Cx}{pins:List (Addr × Obj)}{σ:St}{H₁:Hp}{s₁:Shared}{scope:Scope}{x:Str}{js:List Nat}{elt iter:Expr}{ifs:List Expr}{ot:Option TT}{te:TE}{px pos:Pos}
end
end L2

namespace L2
open PySem PySem.Spec PyProof.Rows NM
theorem deep_t3 {K:PySem.W.Frag}{H:Hp}{p:Addr}{l:List Int}(h:H p=some (.tup (l.map V.int))):Deep K H (dStep l) (.ref p):=by
 have:=deeps_steps (K:=K) (H:=H) (rs:=[.ref p]) (ls:=[l]) (.cons h .nil)
 simp only [List.map_cons,List.map_nil,Deeps] at this
 obtain ⟨x,r,e,h1,_⟩:=this
 cases e
 exact h1
theorem dInts_eq:∀{l m:List Int},Dt.eqBs (l.map Dt.int) (m.map Dt.int)=decide (l=m)
 | [],[]=>by simp [Dt.eqBs]
 | [],b::m=>by simp [Dt.eqBs]
 | a::l,[]=>by simp [Dt.eqBs]
 | a::l,b::m=>by
  simp only [List.map_cons,Dt.eqBs,Dt.eqB,dInts_eq (l:=l) (m:=m)]
  rw [Bool.eq_iff_iff]
  simp
theorem dStep_eq {l m:List Int}:(dStep l).eqB (dStep m)=decide (l=m):=by
 unfold dStep
 simp only [Dt.eqB]
 exact dInts_eq
end L2

namespace L2
open PySem PySem.Spec PyProof.Rows NM
def SameX (H H':Hp):Prop:=∀b o,(∀ps,o ≠ .tbl ps)→H b=some o→H' b=some o
theorem SameB.toX {qual:Str}{lp:Pos}{P:Addr}{H H':Hp}(s:SameB P H H') (l:LamOk qual lp P H):SameX H H':=fun b o n h=>by
 refine s b o (fun e=>?_) h
 rw [e] at h
 rcases l with l|⟨_,l,_⟩ <;> (rw [l] at h;obtain rfl:=Option.some.inj h;exact n _ rfl)
theorem SameX.seq {K:PySem.W.Frag}{H H':Hp}{a:Addr}{xs:List V}(e:SameX H H') (h:SqL K H a xs):SqL K H' a xs:=by
 rcases h with (h|⟨o,h⟩)|h
 ·exact .inl (.inl (e _ _ (by first|(rintro _ _ ⟨⟩;done)|(rintro _ ⟨⟩;done)|(rintro ⟨⟩;done)|nofun) h))
 ·exact .inl (.inr ⟨o,e _ _ (by first|(rintro _ _ ⟨⟩;done)|(rintro _ ⟨⟩;done)|(rintro ⟨⟩;done)|nofun) h⟩)
 ·exact .inr h
theorem NetAt.monoX {H H':Hp}{a sa oa:Addr}{wide:Int}{steps:List (List Int)}{outs:List Int}{rs:List V}(n:NetAt H a wide steps outs sa oa rs) (s:SameX H H'):NetAt H' a wide steps outs sa oa rs :=
 ⟨s _ _ (by first|(rintro _ _ ⟨⟩;done)|(rintro _ ⟨⟩;done)|(rintro ⟨⟩;done)|nofun) n.net,s _ _ (by first|(rintro _ _ ⟨⟩;done)|(rintro _ ⟨⟩;done)|(rintro ⟨⟩;done)|nofun) n.sts,n.st.keep fun r u h=>s _ _ (by first|(rintro _ _ ⟨⟩;done)|(rintro _ ⟨⟩;done)|(rintro ⟨⟩;done)|nofun) h,s _ _ (by first|(rintro _ _ ⟨⟩;done)|(rintro _ ⟨⟩;done)|(rintro ⟨⟩;done)|nofun) n.ots⟩
theorem dps_strs3:∀ss:List Str,Dt.dps (ss.map Dt.str)=0
 | []=>by simp [Dt.dps]
 | s::r=>by simp [Dt.dps,Dt.dp,dps_strs3 r]
theorem deeps_word {K:PySem.W.Frag}{H:Hp}:∀u:List Nat,Deeps K H ((u.map Int.ofNat).map Dt.int) (wordV u)
 | []=>by simp [Deeps,wordV]
 | s::r=>by
  have ih:=deeps_word (K:=K) (H:=H) r
  unfold wordV at ih ⊢
  simp only [List.map_cons,Deeps,Deep]
  exact⟨_,_,rfl,rfl,ih⟩
theorem dps_ints3:∀u:List Int,Dt.dps (u.map Dt.int)=0
 | []=>by simp [Dt.dps]
 | s::r=>by simp [Dt.dps,Dt.dp,dps_ints3 r]
def dWord (u:List Nat):Dt:=.lst ((u.map Int.ofNat).map Dt.int)
theorem deep_word {K:PySem.W.Frag}{H:Hp}{l:Addr}{u:List Nat}(h:H l=some (.lst (wordV u))):Deep K H (dWord u) (.ref l):=by
 simp only [dWord,Deep]
 exact⟨l,_,rfl,SqL.of h,deeps_word u⟩
theorem dp_word {u:List Nat}:(dWord u).dp≤8:=by
 simp only [dWord,Dt.dp,dps_ints3]
 exact Nat.succ_pos _
theorem dWord_eq {u v:List Nat}:(dWord u).eqB (dWord v)=decide (u=v):=by
 simp only [dWord,Dt.eqB,dInts_eq]
 rw [Bool.eq_iff_iff]
 simp only [decide_eq_true_eq]
 exact List.map_inj_right (fun x y e=>Int.ofNat.inj e)
def dRight:Dt:=.tup [.str (Str.ofString "right")]
theorem deep_right {K:PySem.W.Frag}{H:Hp}{l:Addr}(h:H l=some (.tup [.str (Str.ofString "right")])):Deep K H dRight (.ref l):=by
 simp only [dRight,Deep]
 refine⟨l,_,rfl,SqT.of h,?_⟩
 simp only [Deeps,Deep]
 exact⟨_,_,rfl,rfl,rfl⟩
theorem dp_right:dRight.dp≤8:=by simp [dRight,Dt.dp,Dt.dps]
end L2

namespace L2
open PySem PySem.Spec PyProof.Rows
end L2

namespace NM
end NM

namespace NM
end NM

namespace NM
end NM

namespace L2
open PySem PySem.Spec PyProof.Rows NM
section
variable {X:Cx}
end
end L2
namespace L2
open PySem PySem.Spec PyProof.Rows NM
end L2
namespace L2
open PySem PySem.Spec PyProof.Rows NM
end L2
namespace L2
open PySem PySem.Spec PyProof.Rows NM
end L2
namespace L2
open PySem PySem.Spec PyProof.Rows NM
end L2
namespace L2
open PySem PySem.Spec PyProof.Rows NM
end L2
namespace L2
open PySem PySem.Spec PyProof.Rows NM
end L2
namespace L2
open PySem PySem.Spec PyProof.Rows NM
end L2
namespace L2
open PySem PySem.Spec PyProof.Rows NM
end L2
namespace L2
open PySem PySem.Spec PyProof.Rows NM
end L2
namespace L2
open PySem PySem.Spec PyProof.Rows NM
end L2

namespace NM
end NM
namespace L2
open PySem PySem.Spec PyProof.Rows NM
end L2

namespace L2
open PySem PySem.Spec PyProof.Rows
end L2

namespace L2
open PySem PyProof.Rows
inductive KFn (K:PySem.W.Frag) (x:Str) (st:Stmt):Prop
 | mk:∀{f:Addr}{oc:Value}{od an:Option Addr}{osl:Array (Option Value)}{kV doc pm cdv ct:Value},PySem.W.nsIn K mainGlobals x=some (some (.ref f)) →
   K.lookup f=some ⟨oc,od,.func (PySem.W.fnOf x x (defArgs st) (defBody st) (defScope st) .none kV doc pm an cdv ct),osl⟩→PySem.W.codeIn K cdv x=true→PySem.W.keepIn K (.ref f)=true→KFn K x st
inductive KFnC (K:PySem.W.Frag) (x:Str) (st:Stmt) (c:Addr):Prop
 | mk:∀{f:Addr}{oc:Value}{od an:Option Addr}{osl:Array (Option Value)}{kV doc pm ct:Value},PySem.W.nsIn K mainGlobals x=some (some (.ref f)) →
   K.lookup f=some ⟨oc,od,.func (PySem.W.fnOf x x (defArgs st) (defBody st) (defScope st) .none kV doc pm an (.ref c) ct),osl⟩→PySem.W.codeIn K (.ref c) x=true→PySem.W.keepIn K (.ref f)=true→KFnC K x st c
def BindQ (x:Str) (st:Stmt) (ps:List Str) (kV doc pm:Value) (an:Option Addr) (cdv ct:Value) (us:List Value):Prop:=bindArgs (PySem.W.fnOf x x (defArgs st) (defBody st) (defScope st) .none kV doc pm an cdv ct) ⟨us,[]⟩=pure (ps.zip us)
abbrev BindP (x:Str) (st:Stmt) (ps:List Str):Prop:=∀(kV doc pm:Value) (an:Option Addr) (cdv ct:Value) (us:List Value),us.length=ps.length→BindQ x st ps kV doc pm an cdv ct us
section
variable {P:Program}{w:World}{K:PySem.W.Frag}{mg:Str→Option Value}{base h:Heap}{x:Str}{st:Stmt}{k:Nat}{ps:List Str}{sp:Sp}
theorem KFn.df (X:K.In h) (G:h.Ns mainGlobals mg) (a:KFn K x st) (hb:BindP x st ps)
  (ok:∀f fd,Fun K x x st f fd→mg x=some (.ref f)→PySem.W.keepIn K (.ref f)=true→Binds K fd ps []→FnOk P w K mg base (CX1 P w) k f fd ps sp):Df P w K mg base x k ps sp:=by
 obtain ⟨a1,a2,a3,a4⟩:=a
 have F:=fun_mk a2 a3 a4
 exact⟨_,_,PySem.W.mg_of X G a1,a4,F.binds hb,ok _ _ F (PySem.W.mg_of X G a1) a4 (F.binds hb)⟩
theorem KFnC.df {c:Addr}(X:K.In h) (G:h.Ns mainGlobals mg) (a:KFnC K x st c) (hb:BindP x st ps)
  (ok:∀f fd,Fun K x x st f fd→fd.code=.ref c→FnOk P w K mg base (CX1 P w) k f fd ps sp):Df P w K mg base x k ps sp:=by
 obtain ⟨a1,a2,a3,a4⟩:=a
 have F:=fun_mk a2 a3 a4
 exact⟨_,_,PySem.W.mg_of X G a1,a4,F.binds hb,ok _ _ F rfl⟩
theorem KFn.last {fa:Addr}(X:K.In h) (G:h.Ns mainGlobals mg) (a:KFn K x st) (hfa:mg x=some (.ref fa)) {C:FuncData→Prop}(ok:∀kV doc pm an cdv ct,Fun K x x st fa (PySem.W.fnOf x x (defArgs st) (defBody st) (defScope st) .none kV doc pm an cdv ct)→C (PySem.W.fnOf x x (defArgs st) (defBody st) (defScope st) .none kV doc pm an cdv ct)):∃fd:FuncData,C fd:=by
 obtain ⟨a1,a2,a3,a4⟩:=a
 have e:=hfa.symm.trans (PySem.W.mg_of X G a1)
 cases e
 exact⟨_,ok _ _ _ _ _ _ (fun_mk a2 a3 a4)⟩
end
theorem lenC {α:Type}{C:List α→Prop}{n:Nat}{us:List α}(h:us.length=n+1) (k:∀a r,r.length=n→C (a::r)):C us:=by
 cases us with
 | nil=>exact absurd h.symm (Nat.succ_ne_zero n)
 | cons a r=>exact k a r (Nat.succ.inj h)
theorem len0 {α:Type}{C:List α→Prop}{us:List α}(h:us.length=0) (k:C []):C us:=by
 cases us with
 | nil=>exact k
 | cons a r=>exact absurd h (Nat.succ_ne_zero _)
theorem len1 {α:Type}{C:List α→Prop}{us:List α}(h:us.length=1) (k:∀a,C [a]):C us:=lenC h fun a _ h=>len0 (C:=fun r=>C (a::r)) h (k a)
theorem len2 {α:Type}{C:List α→Prop}{us:List α}(h:us.length=2) (k:∀a b,C [a,b]):C us:=lenC h fun a _ h=>len1 (C:=fun r=>C (a::r)) h (k a)
theorem len3 {α:Type}{C:List α→Prop}{us:List α}(h:us.length=3) (k:∀a b c,C [a,b,c]):C us:=lenC h fun a _ h=>len2 (C:=fun r=>C (a::r)) h (k a)
theorem len4 {α:Type}{C:List α→Prop}{us:List α}(h:us.length=4) (k:∀a b c d,C [a,b,c,d]):C us:=lenC h fun a _ h=>len3 (C:=fun r=>C (a::r)) h (k a)
theorem len5 {α:Type}{C:List α→Prop}{us:List α}(h:us.length=5) (k:∀a b c d e,C [a,b,c,d,e]):C us:=lenC h fun a _ h=>len4 (C:=fun r=>C (a::r)) h (k a)
theorem len6 {α:Type}{C:List α→Prop}{us:List α}(h:us.length=6) (k:∀a b c d e f,C [a,b,c,d,e,f]):C us:=lenC h fun a _ h=>len5 (C:=fun r=>C (a::r)) h (k a)
theorem len7 {α:Type}{C:List α→Prop}{us:List α}(h:us.length=7) (k:∀a b c d e f g,C [a,b,c,d,e,f,g]):C us:=lenC h fun a _ h=>len6 (C:=fun r=>C (a::r)) h (k a)
end L2

namespace L2
open PySem PySem.Spec PyProof.Rows NM
end L2
namespace L2
open PySem PySem.Spec PyProof.Rows NM
def dStrs (ss:List Str):Dt:=.lst (ss.map Dt.str)
theorem deep_strs {K:PySem.W.Frag}{H:Hp}{l:Addr}{ss:List Str}(h:H l=some (.lst (ss.map V.str))):Deep K H (dStrs ss) (.ref l):=by
 simp only [dStrs,Deep]
 exact⟨l,_,rfl,SqL.of h,deeps_strs ss⟩
theorem dp_strs {ss:List Str}:(dStrs ss).dp≤8:=by
 simp [dStrs,Dt.dp,dps_strs3]
end L2

namespace L2
open PySem PySem.Spec PyProof.Rows
section
variable {X:Cx}{pins:List (Addr × Obj)}{σ:St}{H H₁:Hp}{s s₁:Shared}{scope:Scope}{xs:List Str}{js:List Nat}{C:Addr}{fp:List Addr}
end

section
variable {X:Cx}{pins:List (Addr × Obj)}{σ:St}{H₁:Hp}{s₁:Shared}{scope:Scope}{xs:List Str}{tgt:Expr}{tg:TG}{js:List Nat}{elt iter:Expr}{ifs:List Expr}{ot:Option TT}{te:TE}{px pos:Pos}
end
end L2

namespace L2
open PySem PySem.Spec PyProof.Rows PySem.Calls
section
variable {prog:Program}{w:World}{A:Around}{E:Value→Shared→Prop}{s:Shared}
end
section
variable {prog:Program}{w:World}{A:Around}{E:Value→Shared→Prop}{s:Shared}
end
section
variable {prog:Program}{w:World}{A:Around}{E:Value→Shared→Prop}{s:Shared}
end
section
variable {prog:Program}{w:World}{A:Around}{E:Value→Shared→Prop}{s:Shared}
end
section
variable {prog:Program}{w:World}{A:Around}{E:Value→Shared→Prop}{s:Shared}
end
end L2

namespace L2
open PySem PySem.Spec PyProof.Rows NM
structure Kd5 (K:PySem.W.Frag) (C CK CB CR CT CW:Addr) (b0 b1 b2 b3 b4:Bool):Prop where
 e:ExTy K C
 k0:PySem.W.kitOne K (.ref C) (.ref CK)=some b0
 k1:PySem.W.kitOne K (.ref C) (.ref CB)=some b1
 k2:PySem.W.kitOne K (.ref C) (.ref CR)=some b2
 k3:PySem.W.kitOne K (.ref C) (.ref CT)=some b3
 k4:PySem.W.kitOne K (.ref C) (.ref CW)=some b4
 kv:PySem.W.kitOne K (.ref C) (.type "ValueError")=some true
end L2

namespace L2
open PySem PySem.Spec PyProof.Rows PySem.W
section
variable {X:Cx}
theorem vals_ia:∀{ns:List Int}{us:List Value},Vals (ns.map V.int) us→IntsAre us ns
 | [],_,.nil=>.nil
 | n::r,_,.cons ⟨t,e⟩ h=>by subst e;exact .cons n t (vals_ia h)
end
end L2

namespace L2
open PySem PySem.W PyProof.Rows
def KI2 (p:Keyed):Prop:=∃n t m u,p=(.int n t,.int m u)
structure SI2 (n:Nat) (pd:Array (Nat × Nat × Nat)) (st:SortSt):Prop where
 size:(arrOf st).size=n
 all:∀p∈arrOf st,KI2 p
 kind:kindOf st=oneType'
 failed:failedOf st=none
 pend:pendingOf st=pd
theorem SI2.at {n:Nat}{pd:Array (Nat × Nat × Nat)}{st:SortSt}(h:SI2 n pd st) {i:Nat}(hi:i<n):∃p,(arrOf st)[i]? = some p∧KI2 p :=
 ⟨_,Array.getElem?_eq_getElem (by rw [h.size];exact hi),h.all _ (Array.getElem_mem _)⟩
theorem SI2.set {n:Nat}{pd:Array (Nat × Nat × Nat)}{st:SortSt}(h:SI2 n pd st) {xs:Array Keyed}(hp:xs.Perm (arrOf st)):SI2 n pd (setArr st xs) :=
 ⟨hp.size_eq.trans h.size,fun p hx=>h.all p ((Array.perm_iff_toList_perm.mp hp).mem_iff.mp (by simpa using hx) |> (by simpa using ·)),h.kind,h.failed,h.pend⟩
section
variable {prog:Program}{w:World}{A:Around}{E:Value→Shared→Prop}{s:Shared}{n:Nat}{pd:Array (Nat × Nat × Nat)}{st:SortSt}
theorem big_elem {arr:Array Keyed}{i:Nat}{p:Keyed}{Q:Keyed→SortSt→Prop}(h:arr[i]? = some p) (hq:Q p st):wpS (model prog w) A E s (elem' arr i) Q st:=by
 rw [elem'_eq,h]
 exact wpS_pure hq
theorem big_lt {x y:Keyed}{Q:Option Bool→SortSt→Prop}(hk:kindOf st=oneType') (hx:KI2 x) (hy:KI2 y) (hq:∀b,Q (some b) st):wpS (model prog w) A E s (lt' x y) Q st:=by
 obtain ⟨a,t,m,u,rfl⟩:=hx
 obtain ⟨b,t',m',u',rfl⟩:=hy
 rw [lt'_eq]
 refine wpS_bind (wpS_get ?_)
 rw [hk,keyLt'_oneType]
 refine wpS_bind (wpS_lift (wpAny_attempt (oneLt_int ⟨rfl,?_⟩)))
 exact wpS_pure (hq _)
theorem big_ltAt {i j:Nat}{Q:Option Bool→SortSt→Prop}(I:SI2 n pd st) (hi:i<n) (hj:j<n) (hq:∀b,Q (some b) st):wpS (model prog w) A E s (ltAt' i j) Q st:=by
 obtain ⟨p,hp,pp⟩:=I.at hi
 obtain ⟨q,hq',pq⟩:=I.at hj
 rw [ltAt'_eq]
 refine wpS_bind (wpS_get ?_)
 exact wpS_bind (big_elem hp (wpS_bind (big_elem hq' (big_lt I.kind pp pq hq))))
theorem big_rev {i j:Nat}{Q:Unit→SortSt→Prop}(I:SI2 n pd st) (hq:∀st',SI2 n pd st'→Q () st'):wpS (model prog w) A E s (reverseSlice' i j) Q st:=by
 rw [reverseSlice'_eq]
 exact wpS_modify (hq _ (I.set (mirror_perm _ _ _ _)))
theorem big_move {i j:Nat}{Q:Unit→SortSt→Prop}(I:SI2 n pd st) (hq:∀st',SI2 n pd st'→Q () st'):wpS (model prog w) A E s (moveDown' i j) Q st:=by
 rw [moveDown'_eq]
 exact wpS_modify (hq _ (I.set (bubble_perm _ _ _)))
theorem big_rule {x:String}{Q:Unit→SortSt→Prop}(hq:Q () st):wpS (model prog w) A E s (liftM (rule x):StateT SortSt Sem Unit) Q st:=wpS_lift (wpAny_rule ⟨rfl,hq⟩)
theorem big_bin {lo m ok:Nat}{Q:Bool→SortSt→Prop}(I:SI2 n pd st) (hl:lo+m≤n) (hq:∀st',SI2 n pd st'→Q true st'):wpS (model prog w) A E s (binarySort' lo m ok) Q st:=by
 rw [binarySort'_eq]
 refine wpS_bind (wpS_mono (wpS_forRange (I:=fun k c st'=>c=(none,())∧SI2 n pd st') (Q:=fun c st'=>c=(none,())∧SI2 n pd st') ?step ?fin ⟨rfl,I⟩) ?post)
 case post =>
  rintro c st' ⟨rfl,I'⟩
  exact wpS_pure (hq st' I')
 case fin=>exact fun c st' h=>h
 case step =>
  rintro k c st' h1 h2 ⟨rfl,I'⟩
  dsimp only
  refine wpS_bind (wpS_mono (wpS_forRange (I:=fun _ c st'=>c.1=none∧c.2.2≤k∧SI2 n pd st') (Q:=fun c st'=>c.1=none∧SI2 n pd st') ?step2 (fun c st' h=>⟨h.1,h.2.2⟩) ⟨rfl,Nat.le_refl _,I'⟩) ?post2)
  case step2 =>
   rintro i ⟨c1,l,r⟩ st2 _ hi ⟨rfl,hr,I2⟩
   dsimp only at hr ⊢
   by_cases hlr:l≥r
   ·rw [if_pos hlr]
    exact wpS_pure ⟨rfl,I2⟩
   ·rw [if_neg hlr]
    refine wpS_bind (big_ltAt I2 (by lia) (by lia) fun b=>?_)
    dsimp only
    cases b with
    | true=>exact wpS_pure ⟨rfl,by show (l+r) / 2≤k;lia,I2⟩
    | false=>exact wpS_pure ⟨rfl,hr,I2⟩
  case post2 =>
   rintro ⟨c1,l,r⟩ st2 ⟨h,I2⟩
   dsimp only at h ⊢
   subst h
   dsimp only
   exact wpS_bind (big_move I2 fun st3 I3=>wpS_pure ⟨rfl,I3⟩)
end
end L2

namespace L2
open PySem PySem.W PyProof.Rows
theorem bothS {G:Prop}{C R:SortSt→Prop}(use:(∀st,C st→R st)→G) (tail:∀st,C st→R st):G:=use tail
section
variable {prog:Program}{w:World}{A:Around}{E:Value→Shared→Prop}{s:Shared}{n:Nat}{pd:Array (Nat × Nat × Nat)}{st:SortSt}
theorem big_count {lo nrem:Nat}{Q:Option Nat→SortSt→Prop}(I:SI2 n pd st) (hl:lo+nrem≤n) (h1:1≤nrem) (hq:∀m st',SI2 n pd st'→1≤m→m≤nrem→Q (some m) st'):wpS (model prog w) A E s (countRun' lo nrem) Q st:=by
 rw [countRun'_eq]
 refine wpS_bind (wpS_mono (wpS_forRange (I:=fun i c st'=>c.1=none∧c.2=i∧SI2 n pd st') (Q:=fun c st'=>c.1=none∧1≤c.2∧c.2≤nrem∧SI2 n pd st') ?step (fun c st' h=>⟨h.1,by rw [h.2.1];lia,by rw [h.2.1];lia,h.2.2⟩) ⟨rfl,rfl,I⟩) ?post)
 case step =>
  rintro i ⟨c1,m⟩ st2 hi1 hi2 ⟨rfl,rfl,I2⟩
  dsimp only at hi1 hi2 ⊢
  refine wpS_bind (big_ltAt I2 (by lia) (by lia) fun b=>?_)
  dsimp only
  cases b with
  | true=>exact wpS_pure ⟨rfl,hi1,by lia,I2⟩
  | false=>exact wpS_pure ⟨rfl,rfl,I2⟩
 case post =>
  rintro ⟨c1,m⟩ st2 ⟨h,hm1,hm2,I2⟩
  dsimp only at h hm1 hm2 ⊢
  subst h
  dsimp only
  by_cases e:(m==nrem)=true
  ·rw [if_pos e]
   exact wpS_pure (hq m st2 I2 hm1 hm2)
  rw [if_neg e]
  have e:m≠nrem:=by simpa using e
  refine' bothS (C:=SI2 n pd) ?use ?tail
  case use =>
   intro desc
   by_cases g:m > 1
   case neg=>rw [if_neg g];exact desc st2 I2
   case pos =>
    rw [if_pos g]
    refine wpS_bind (big_ltAt I2 (by lia) (by lia) fun b=>?_)
    dsimp only
    cases b with
    | true=>exact wpS_pure (hq m st2 I2 hm1 hm2)
    | false=>exact wpS_bind (big_rev I2 fun st3 I3=>desc st3 I3)
  intro st3 I3
  refine wpS_bind (big_rule ?_)
  refine wpS_bind (wpS_mono (wpS_forRange (I:=fun i c st'=>c.1=none∧c.2.1=i∧SI2 n pd st') (Q:=fun c st'=>c.1=none∧1≤c.2.1∧c.2.1≤nrem∧SI2 n pd st') ?step (fun c st' h=>⟨h.1,by rw [h.2.1];lia,by rw [h.2.1];lia,h.2.2⟩) ⟨rfl,rfl,I3⟩) ?post)
  case step =>
   rintro i ⟨c1,k,q⟩ st4 hi1 hi2 ⟨rfl,rfl,I4⟩
   dsimp only at hi1 hi2 ⊢
   refine wpS_bind (big_ltAt I4 (by lia) (by lia) fun b=>?_)
   dsimp only
   cases b with
   | true =>
    rw [if_pos rfl]
    by_cases hz:q > 0
    ·rw [if_pos hz]
     exact wpS_bind (big_rev I4 fun st5 I5=>wpS_pure ⟨rfl,rfl,I5⟩)
    ·rw [if_neg hz]
     exact wpS_pure ⟨rfl,rfl,I4⟩
   | false =>
    rw [if_neg (by decide)]
    refine wpS_bind (big_ltAt I4 (by lia) (by lia) fun b=>?_)
    dsimp only
    cases b with
    | true=>exact wpS_pure ⟨rfl,by show 1≤k;lia,by show k≤nrem;lia,I4⟩
    | false=>exact wpS_pure ⟨rfl,rfl,I4⟩
  case post =>
   rintro ⟨c1,k,q⟩ st4 ⟨h,hk1,hk2,I4⟩
   dsimp only at h hk1 hk2 ⊢
   subst h
   dsimp only
   refine' bothS (C:=SI2 n pd) ?use2 ?tail2
   case use2 =>
    intro t3
    by_cases hz:q > 0
    case neg=>rw [if_neg hz];exact wpS_bind (big_rev I4 fun st5 I5=>t3 st5 I5)
    case pos=>rw [if_pos hz];exact wpS_bind (big_rev I4 fun st5 I5=>wpS_bind (big_rev I5 fun st6 I6=>t3 st6 I6))
   intro st5 I5
   refine wpS_bind (wpS_mono (wpS_forRange (I:=fun i c st'=>c.1=none∧c.2=i∧SI2 n pd st') (Q:=fun c st'=>c.1=none∧1≤c.2∧c.2≤nrem∧SI2 n pd st') ?step (fun c st' h=>⟨h.1,by rw [h.2.1];lia,by rw [h.2.1];lia,h.2.2⟩) ⟨rfl,rfl,I5⟩) ?post)
   case step =>
    rintro i ⟨c1,m⟩ st2 hi1 hi2 ⟨rfl,rfl,I2⟩
    dsimp only at hi1 hi2 ⊢
    refine wpS_bind (big_ltAt I2 (by lia) (by lia) fun b=>?_)
    dsimp only
    cases b with
    | true=>exact wpS_pure ⟨rfl,by show 1≤m;lia,by show m≤nrem;lia,I2⟩
    | false=>exact wpS_pure ⟨rfl,rfl,I2⟩
   case post =>
    rintro ⟨c1,m⟩ st2 ⟨h,hm1,hm2,I2⟩
    dsimp only at h hm1 hm2 ⊢
    subst h
    exact wpS_pure (hq m st2 I2 hm1 hm2)
end
end L2

namespace L2
open PySem PySem.W PyProof.Rows
def gallopB:Bool→Keyed→Array Keyed→Nat→Nat→Nat→StateT SortSt Sem (Option Nat):=sortPriv% PySem.Builtin.gallop
theorem bothH {G:Prop}{C R:Nat→Nat→Prop}(use:(∀lo hi,C lo hi→R lo hi)→G) (tail:∀lo hi,C lo hi→R lo hi):G:=use tail
section
variable {prog:Program}{w:World}{A:Around}{E:Value→Shared→Prop}{s:Shared}{n:Nat}{pd:Array (Nat × Nat × Nat)}{st:SortSt}
theorem big_gallop {left:Bool}{key:Keyed}{arr:Array Keyed}{b m h:Nat}{Q:Option Nat→SortSt→Prop}(hk:kindOf st=oneType') (pk:KI2 key) (pa:∀p∈arr,KI2 p) (hb:b+m≤arr.size) (hh:h<m) (hq:∀k,k≤m→Q (some k) st):wpS (model prog w) A E s (gallopB left key arr b m h) Q st:=by
 have look:∀i,i<m→∃p,arr[b+i]? = some p∧KI2 p:=fun i hi=>⟨_,Array.getElem?_eq_getElem (by lia),pa _ (Array.getElem_mem _)⟩
 have bey:∀(i:Nat) (Q':Option Bool→SortSt→Prop),i<m→(∀c,Q' (some c) st)→wpS (model prog w) A E s (elem' arr (b+i) >>= fun x=>if left=true then lt' x key else lt' key x >>= fun r=>pure (Option.map (fun c=>!c) r)) Q' st:=fun i Q' hi hQ=>by
  obtain ⟨p,hp,pp⟩:=look i hi
  refine wpS_bind (big_elem hp ?_)
  cases left with
  | true=>exact big_lt hk pp pk hQ
  | false=>exact wpS_bind (big_lt hk pk pp fun c=>wpS_pure (hQ _))
 refine wpS_bind (bey h _ hh fun right=>?_)
 dsimp only
 refine' bothH (C:=fun lo hi=>lo≤m∧hi≤m) ?use ?tail
 case use =>
  intro fin
  by_cases hr:right=true
  ·rw [if_pos hr]
   refine wpS_bind (wpS_mono (wpS_forRange (I:=fun _ c st'=>c.1=none∧h+c.2.1<m∧st=st') (Q:=fun c st'=>c.1=none∧h+c.2.1<m∧st=st') ?step (fun c st' h=>h) ⟨rfl,hh,rfl⟩) ?post)
   case step =>
    rintro i ⟨c1,lo,o⟩ st2 _ hi ⟨rfl,hlo,rfl⟩
    dsimp only at hlo ⊢
    by_cases ho:o≥m - h
    ·rw [if_pos ho]
     exact wpS_pure ⟨rfl,hlo,rfl⟩
    ·rw [if_neg ho]
     refine wpS_bind (bey (h+o) _ (by lia) fun c=>?_)
     dsimp only
     cases c with
     | true=>exact wpS_pure ⟨rfl,by show h+o<m;lia,rfl⟩
     | false=>exact wpS_pure ⟨rfl,hlo,rfl⟩
   case post =>
    rintro ⟨c1,lo,o⟩ st2 ⟨e,hlo,rfl⟩
    dsimp only at e hlo ⊢
    subst e
    dsimp only
    have g1:h+lo+1≤m:=by lia
    have g2:h+min o (m - h)≤m:=by lia
    generalize h+lo+1=l1 at g1 ⊢
    generalize h+min o (m - h)=l2 at g2 ⊢
    exact fin l1 l2 ⟨g1,g2⟩
  ·rw [if_neg hr]
   refine wpS_bind (wpS_mono (wpS_forRange (I:=fun _ c st'=>c.1=none∧st=st') (Q:=fun c st'=>c.1=none∧st=st') ?step (fun c st' h=>h) ⟨rfl,rfl⟩) ?post)
   case step =>
    rintro i ⟨c1,lo,o⟩ st2 _ hi ⟨rfl,rfl⟩
    dsimp only
    by_cases ho:o≥h+1
    ·rw [if_pos ho]
     exact wpS_pure ⟨rfl,rfl⟩
    ·rw [if_neg ho]
     refine wpS_bind (bey (h - o) _ (by lia) fun c=>?_)
     dsimp only
     cases c with
     | true=>exact wpS_pure ⟨rfl,rfl⟩
     | false=>exact wpS_pure ⟨rfl,rfl⟩
   case post =>
    rintro ⟨c1,lo,o⟩ st2 ⟨e,rfl⟩
    dsimp only at e ⊢
    subst e
    dsimp only
    have g1:h+1 - min o (h+1)≤m:=by lia
    have g2:h - lo≤m:=by lia
    generalize h+1 - min o (h+1)=l1 at g1 ⊢
    generalize h - lo=l2 at g2 ⊢
    exact fin l1 l2 ⟨g1,g2⟩
 intro lo hi hlh
 refine wpS_bind (wpS_mono (wpS_forRange (I:=fun _ c st'=>c.1=none∧c.2.2≤m∧st=st') (Q:=fun c st'=>c.1=none∧c.2.2≤m∧st=st') ?step (fun c st' h=>h) ⟨rfl,hlh.2,rfl⟩) ?post)
 case step =>
  rintro i ⟨c1,lo,hi⟩ st2 _ hi2 ⟨rfl,hh2,rfl⟩
  dsimp only at hh2 ⊢
  by_cases ho:lo≥hi
  ·rw [if_pos ho]
   exact wpS_pure ⟨rfl,hh2,rfl⟩
  ·rw [if_neg ho]
   refine wpS_bind (bey (lo+(hi - lo) / 2) _ (by lia) fun c=>?_)
   dsimp only
   cases c with
   | true=>exact wpS_pure ⟨rfl,hh2,rfl⟩
   | false=>exact wpS_pure ⟨rfl,by show lo+(hi - lo) / 2≤m;lia,rfl⟩
 case post =>
  rintro ⟨c1,lo,hi⟩ st2 ⟨e,hh2,rfl⟩
  dsimp only at e hh2 ⊢
  subst e
  exact wpS_pure (hq hi hh2)
end
end L2

namespace L2
open PySem PySem.W PyProof.Rows
def AllK (x:Array Keyed):Prop:=∀p∈x,KI2 p
theorem AllK.app {x y:Array Keyed}(h:AllK x) (k:AllK y):AllK (x++y):=fun p hp=>(Array.mem_append.mp hp).elim (h p) (k p)
theorem AllK.push {x:Array Keyed}{q:Keyed}(h:AllK x) (k:KI2 q):AllK (x.push q):=fun p hp=>(Array.mem_push.mp hp).elim (h p) fun e=>e ▸ k
theorem AllK.ext {x:Array Keyed}{i j:Nat}(h:AllK x):AllK (x.extract i j):=fun p hp=>h p (by
 obtain ⟨k,hk,e⟩:=Array.mem_iff_getElem.mp hp
 rw [Array.getElem_extract] at e
 exact e ▸ Array.getElem_mem _)
theorem AllK.rev {x:Array Keyed}(h:AllK x):AllK x.reverse:=fun p hp=>h p (Array.mem_reverse.mp hp)
theorem AllK.one {q:Keyed}(k:KI2 q):AllK #[q]:=fun p hp=>by rw [show p=q by simpa using hp];exact k
def mergeLoB:Array Keyed→Array Keyed→StateT SortSt Sem (Array Keyed):=sortPriv% PySem.Builtin.mergeLo
def setMinB:Nat→StateT SortSt Sem Unit:=sortPriv% PySem.Builtin.setMinGallop
section
variable {prog:Program}{w:World}{A:Around}{E:Value→Shared→Prop}{s:Shared}{n:Nat}{pd:Array (Nat × Nat × Nat)}{st:SortSt}
theorem big_at {arr:Array Keyed}{i:Nat}{Q:Keyed→SortSt→Prop}(h:AllK arr) (hi:i<arr.size) (hq:∀p,KI2 p→Q p st):wpS (model prog w) A E s (elem' arr i) Q st :=
 big_elem (Array.getElem?_eq_getElem hi) (hq _ (h _ (Array.getElem_mem _)))
theorem big_setmin {g:Nat}{Q:Unit→SortSt→Prop}(I:SI2 n pd st) (hq:∀st',SI2 n pd st'→Q () st'):wpS (model prog w) A E s (setMinB g) Q st:=wpS_modify (hq _ ⟨I.size,I.all,I.kind,I.failed,I.pend⟩)
theorem big_mergeLo {a b:Array Keyed}{Q:Array Keyed→SortSt→Prop}(I:SI2 n pd st) (pa:AllK a) (pb:AllK b) (ha:1≤a.size) (hb:1≤b.size) (hq:∀out st',SI2 n pd st'→AllK out→Q out st'):wpS (model prog w) A E s (mergeLoB a b) Q st:=by
 refine wpS_bind (big_rule ?_)
 refine wpS_bind (big_at pb (by lia) fun b0 pb0=>?_)
 dsimp only
 by_cases e1:(1==b.size)=true
 ·rw [if_pos e1];exact wpS_pure (hq _ _ I (((AllK.one pb0).app pa.ext).app pb.ext))
 rw [if_neg e1]
 have e1:1≠b.size:=by simpa using e1
 by_cases e2:(0+1==a.size)=true
 ·rw [if_pos e2];exact wpS_pure (hq _ _ I (((AllK.one pb0).app pb.ext).app pa.ext))
 rw [if_neg e2]
 have e2:0+1≠a.size:=by simpa using e2
 refine wpS_bind (wpS_get ?_)
 refine wpS_bind (wpS_mono (wpS_forRange (I:=fun x c st'=>c.1=none∧AllK c.2.1∧c.2.2.1+1<a.size∧c.2.2.2.1<b.size∧x+1≤c.2.2.1+c.2.2.2.1∧SI2 n pd st') (Q:=fun c st'=>(∃r,c.1=some r∧AllK r)∧SI2 n pd st') ?step (fun c st' h=>absurd h.2.2.2.2.1 (by have:=h.2.2.1;have:=h.2.2.2.1;lia)) ⟨rfl,AllK.one pb0,by show 0+1<a.size;lia,by show 1<b.size;lia,by show 0+1≤0+1;lia,I⟩) ?post)
 case post =>
  rintro ⟨c1,out,ia,ib,mg⟩ st2 ⟨⟨r,e,hr⟩,I2⟩
  dsimp only at e ⊢
  subst e
  exact wpS_pure (hq _ _ I2 hr)
 case step =>
  rintro x ⟨c1,out,ia,ib,mg⟩ st2 _ hx ⟨rfl,ho,h1,h2,h3,I2⟩
  dsimp only at ho h1 h2 h3 ⊢
  refine wpS_bind (wpS_mono (wpS_forRange (I:=fun y c st'=>c.1=none∧AllK c.2.1∧c.2.2.1+1<a.size∧c.2.2.2.1<b.size∧x+1+y≤c.2.2.1+c.2.2.2.1∧SI2 n pd st') (Q:=fun c st'=>SI2 n pd st'∧((∃r,c.1=some r∧AllK r)∨(c.1=none∧AllK c.2.1∧c.2.2.1+1<a.size∧c.2.2.2.1<b.size∧x+2≤c.2.2.1+c.2.2.2.1))) ?step2 (fun c st' h=>⟨h.2.2.2.2.2,.inr ⟨h.1,h.2.1,h.2.2.1,h.2.2.2.1,by have:=h.2.2.2.2.1;lia⟩⟩) ⟨rfl,ho,h1,h2,by show x+1+0≤ia+ib;lia,I2⟩) ?post2)
  case step2 =>
   rintro y ⟨c1,out,ia,ib,ac,bc⟩ st3 _ hy ⟨rfl,ho,h1,h2,h3,I3⟩
   dsimp only at ho h1 h2 h3 ⊢
   refine wpS_bind (big_at pb h2 fun p1 k1=>wpS_bind (big_at pa (by lia) fun p2 k2=>wpS_bind (big_lt I3.kind k1 k2 fun c=>?_)))
   dsimp only
   cases c with
   | true =>
    rw [if_pos rfl]
    refine wpS_bind (big_at pb h2 fun p3 k3=>?_)
    have ho':=ho.push k3
    by_cases g1:(ib+1==b.size)=true
    ·rw [if_pos g1];exact wpS_pure ⟨I3,.inl ⟨_,rfl,(ho'.app pa.ext).app pb.ext⟩⟩
    rw [if_neg g1]
    have g1:ib+1≠b.size:=by simpa using g1
    by_cases g2:bc+1≥mg
    ·rw [if_pos g2];exact wpS_pure ⟨I3,.inr ⟨rfl,ho',h1,by show ib+1<b.size;lia,by show x+2≤ia+(ib+1);lia⟩⟩
    ·rw [if_neg g2];exact wpS_pure ⟨rfl,ho',h1,by show ib+1<b.size;lia,by show x+1+(y+1)≤ia+(ib+1);lia,I3⟩
   | false =>
    rw [if_neg (by decide)]
    refine wpS_bind (big_at pa (by lia) fun p3 k3=>?_)
    have ho':=ho.push k3
    by_cases g1:(ia+1+1==a.size)=true
    ·rw [if_pos g1];exact wpS_pure ⟨I3,.inl ⟨_,rfl,(ho'.app pb.ext).app pa.ext⟩⟩
    rw [if_neg g1]
    have g1:ia+1+1≠a.size:=by simpa using g1
    by_cases g2:ac+1≥mg
    ·rw [if_pos g2];exact wpS_pure ⟨I3,.inr ⟨rfl,ho',by show ia+1+1<a.size;lia,h2,by show x+2≤ia+1+ib;lia⟩⟩
    ·rw [if_neg g2];exact wpS_pure ⟨rfl,ho',by show ia+1+1<a.size;lia,h2,by show x+1+(y+1)≤ia+1+ib;lia,I3⟩
  case post2 =>
   rintro ⟨c1,out,ia,ib,ac,bc⟩ st3 ⟨I3,h⟩
   dsimp only at h ⊢
   rcases h with ⟨r,e,hr⟩|⟨e,ho,h1,h2,h3⟩
   ·subst e
    exact wpS_pure ⟨⟨r,rfl,hr⟩,I3⟩
   subst e
   dsimp only
   refine wpS_bind (big_rule ?_)
   refine wpS_bind (wpS_mono (wpS_forRange (I:=fun _ c st'=>c.1=none∧AllK c.2.1∧c.2.2.1+1<a.size∧c.2.2.2.1<b.size∧x+2≤c.2.2.1+c.2.2.2.1∧SI2 n pd st') (Q:=fun c st'=>SI2 n pd st'∧((∃r,c.1=some r∧AllK r)∨(c.1=none∧AllK c.2.1∧c.2.2.1+1<a.size∧c.2.2.2.1<b.size∧x+2≤c.2.2.1+c.2.2.2.1))) ?step3 (fun c st' h=>⟨h.2.2.2.2.2,.inr ⟨h.1,h.2.1,h.2.2.1,h.2.2.2.1,h.2.2.2.2.1⟩⟩) ⟨rfl,ho,h1,h2,h3,I3⟩) ?post3)
   case post3 =>
    rintro ⟨c1,out,ia,ib,mg2,ac,bc⟩ st4 ⟨I4,h⟩
    dsimp only at h ⊢
    rcases h with ⟨r,e,hr⟩|⟨e,ho,h1,h2,h3⟩
    ·subst e
     exact wpS_pure ⟨⟨r,rfl,hr⟩,I4⟩
    subst e
    exact wpS_bind (big_setmin I4 fun st5 I5=>wpS_pure ⟨rfl,ho,h1,h2,h3,I5⟩)
   case step3 =>
    rintro z ⟨c1,out,ia,ib,mg2,ac,bc⟩ st4 _ hz ⟨rfl,ho,h1,h2,h3,I4⟩
    dsimp only at ho h1 h2 h3 ⊢
    by_cases gm:mg2 > 1
    case' pos=>rw [if_pos gm]
    case' neg=>rw [if_neg gm]
    all_goals
     refine wpS_bind (big_setmin I4 fun st5 I5=>?_)
     refine wpS_bind (big_at pb h2 fun p1 k1=>?_)
     refine wpS_bind (big_gallop I5.kind k1 pa (by lia) (by lia) fun k hk=>?_)
     dsimp only
     by_cases gk:k > 0
     case' pos =>
      rw [if_pos gk]
      have ho1:=ho.app (pa.ext (i:=ia) (j:=ia+k))
      by_cases f1:(ia+k+1==a.size)=true
      ·rw [if_pos f1];exact wpS_pure ⟨I5,.inl ⟨_,rfl,(ho1.app pb.ext).app pa.ext⟩⟩
      rw [if_neg f1]
      have f1:ia+k+1≠a.size:=by simpa using f1
      by_cases f2:(ia+k==a.size)=true
      ·rw [if_pos f2];exact wpS_pure ⟨I5,.inl ⟨_,rfl,(ho1.app pa.ext).app pb.ext⟩⟩
      rw [if_neg f2]
      have f2:ia+k≠a.size:=by simpa using f2
      have q1:ia+k+1<a.size:=by lia
      have q3:x+2≤ia+k+ib:=by lia
      generalize out++a.extract ia (ia+k)=out1 at ho1 ⊢
      generalize ia+k=ia1 at q1 q3 ⊢
      clear f1 f2 hk
     case' neg =>
      rw [if_neg gk]
      have ho1:=ho
      have q1:=h1
      have q3:=h3
     all_goals
      refine wpS_bind (big_at pb h2 fun p3 k3=>?_)
      have ho2:=ho1.push k3
      split
      ·exact wpS_pure ⟨I5,.inl ⟨_,rfl,(ho2.app pa.ext).app pb.ext⟩⟩
      rename_i g3
      have g3:ib+1≠b.size:=by simpa using g3
      refine wpS_bind (big_at pa (by lia) fun p4 k4=>?_)
      refine wpS_bind (big_gallop I5.kind k4 pb (by lia) (by lia) fun k2 hk2=>?_)
      dsimp only
      by_cases gk2:k2 > 0
      case' pos =>
       rw [if_pos gk2]
       have ho3:=ho2.app (pb.ext (i:=ib+1) (j:=ib+1+k2))
       split
       ·exact wpS_pure ⟨I5,.inl ⟨_,rfl,(ho3.app pa.ext).app pb.ext⟩⟩
       rename_i g4
       have g4:ib+1+k2≠b.size:=by simpa using g4
      case' neg =>
       rw [if_neg gk2]
       have ho3:=ho2
      all_goals
       refine wpS_bind (big_at pa (by lia) fun p5 k5=>?_)
       have ho4:=ho3.push k5
       split
       ·exact wpS_pure ⟨I5,.inl ⟨_,rfl,(ho4.app pb.ext).app pa.ext⟩⟩
       rename_i g5
       simp only [beq_iff_eq] at g5
       split
       ·exact wpS_pure ⟨I5,.inr ⟨rfl,ho4,by dsimp only;lia,by dsimp only;lia,by dsimp only;lia⟩⟩
       ·exact wpS_pure ⟨rfl,ho4,by dsimp only;lia,by dsimp only;lia,by dsimp only;lia,I5⟩
end
end L2

namespace L2
open PySem PySem.W PyProof.Rows
def mergeHiB:Array Keyed→Array Keyed→StateT SortSt Sem (Array Keyed):=sortPriv% PySem.Builtin.mergeHi
section
variable {prog:Program}{w:World}{A:Around}{E:Value→Shared→Prop}{s:Shared}{n:Nat}{pd:Array (Nat × Nat × Nat)}{st:SortSt}
theorem big_mergeHi {a b:Array Keyed}{Q:Array Keyed→SortSt→Prop}(I:SI2 n pd st) (pa:AllK a) (pb:AllK b) (ha:1≤a.size) (hb:1≤b.size) (hq:∀out st',SI2 n pd st'→AllK out→Q out st'):wpS (model prog w) A E s (mergeHiB a b) Q st:=by
 refine wpS_bind (big_rule ?_)
 refine wpS_bind (big_at pa (by lia) fun a0 pa0=>?_)
 dsimp only
 by_cases e1:(a.size - 1==0)=true
 ·rw [if_pos e1];exact wpS_pure (hq _ _ I ((pa.ext.app pb.ext).app (AllK.one pa0).rev))
 rw [if_neg e1]
 have e1:a.size - 1≠0:=by simpa using e1
 by_cases e2:(b.size==1)=true
 ·rw [if_pos e2];exact wpS_pure (hq _ _ I ((pb.ext.app pa.ext).app (AllK.one pa0).rev))
 rw [if_neg e2]
 have e2:b.size≠1:=by simpa using e2
 refine wpS_bind (wpS_get ?_)
 refine wpS_bind (wpS_mono (wpS_forRange (I:=fun x c st'=>c.1=none∧AllK c.2.2.2.1∧(1≤c.2.1∧c.2.1≤a.size)∧(2≤c.2.2.1∧c.2.2.1≤b.size)∧x+c.2.1+c.2.2.1+1≤a.size+b.size∧SI2 n pd st') (Q:=fun c st'=>(∃r,c.1=some r∧AllK r)∧SI2 n pd st') ?step (fun c st' h=>absurd h.2.2.2.2.1 (by have:=h.2.2.1;have:=h.2.2.2.1;lia)) ⟨rfl,AllK.one pa0,by dsimp only;lia,by dsimp only;lia,by dsimp only;lia,I⟩) ?post)
 case post =>
  rintro ⟨c1,na,nb,out,mg⟩ st2 ⟨⟨r,e,hr⟩,I2⟩
  dsimp only at e ⊢
  subst e
  exact wpS_pure (hq _ _ I2 hr)
 case step =>
  rintro x ⟨c1,na,nb,out,mg⟩ st2 _ hx ⟨rfl,ho,h1,h2,h3,I2⟩
  dsimp only at ho h1 h2 h3 ⊢
  refine wpS_bind (wpS_mono (wpS_forRange (I:=fun y c st'=>c.1=none∧AllK c.2.2.2.1∧(1≤c.2.1∧c.2.1≤a.size)∧(2≤c.2.2.1∧c.2.2.1≤b.size)∧x+y+c.2.1+c.2.2.1+1≤a.size+b.size∧SI2 n pd st') (Q:=fun c st'=>SI2 n pd st'∧((∃r,c.1=some r∧AllK r)∨(c.1=none∧AllK c.2.2.2.1∧(1≤c.2.1∧c.2.1≤a.size)∧(2≤c.2.2.1∧c.2.2.1≤b.size)∧x+1+c.2.1+c.2.2.1+1≤a.size+b.size))) ?step2 (fun c st' h=>⟨h.2.2.2.2.2,.inr ⟨h.1,h.2.1,h.2.2.1,h.2.2.2.1,by have:=h.2.2.2.2.1;lia⟩⟩) ⟨rfl,ho,h1,h2,by dsimp only;lia,I2⟩) ?post2)
  case step2 =>
   rintro y ⟨c1,na,nb,out,ac,bc⟩ st3 _ hy ⟨rfl,ho,h1,h2,h3,I3⟩
   dsimp only at ho h1 h2 h3 ⊢
   refine wpS_bind (big_at pb (by lia) fun p1 k1=>wpS_bind (big_at pa (by lia) fun p2 k2=>wpS_bind (big_lt I3.kind k1 k2 fun c=>?_)))
   dsimp only
   cases c with
   | true =>
    rw [if_pos rfl]
    refine wpS_bind (big_at pa (by lia) fun p3 k3=>?_)
    have ho':=ho.push k3
    by_cases g1:(na - 1==0)=true
    ·rw [if_pos g1];exact wpS_pure ⟨I3,.inl ⟨_,rfl,(pa.ext.app pb.ext).app ho'.rev⟩⟩
    rw [if_neg g1]
    have g1:na - 1≠0:=by simpa using g1
    by_cases g2:ac+1≥mg
    ·rw [if_pos g2];exact wpS_pure ⟨I3,.inr ⟨rfl,ho',by dsimp only;lia,by dsimp only;lia,by dsimp only;lia⟩⟩
    ·rw [if_neg g2];exact wpS_pure ⟨rfl,ho',by dsimp only;lia,by dsimp only;lia,by dsimp only;lia,I3⟩
   | false =>
    rw [if_neg (by decide)]
    refine wpS_bind (big_at pb (by lia) fun p3 k3=>?_)
    have ho':=ho.push k3
    by_cases g1:(nb - 1==1)=true
    ·rw [if_pos g1];exact wpS_pure ⟨I3,.inl ⟨_,rfl,(pb.ext.app pa.ext).app ho'.rev⟩⟩
    rw [if_neg g1]
    have g1:nb - 1≠1:=by simpa using g1
    by_cases g2:bc+1≥mg
    ·rw [if_pos g2];exact wpS_pure ⟨I3,.inr ⟨rfl,ho',by dsimp only;lia,by dsimp only;lia,by dsimp only;lia⟩⟩
    ·rw [if_neg g2];exact wpS_pure ⟨rfl,ho',by dsimp only;lia,by dsimp only;lia,by dsimp only;lia,I3⟩
  case post2 =>
   rintro ⟨c1,na,nb,out,ac,bc⟩ st3 ⟨I3,h⟩
   dsimp only at h ⊢
   rcases h with ⟨r,e,hr⟩|⟨e,ho,h1,h2,h3⟩
   ·subst e
    exact wpS_pure ⟨⟨r,rfl,hr⟩,I3⟩
   subst e
   dsimp only
   refine wpS_bind (big_rule ?_)
   refine wpS_bind (wpS_mono (wpS_forRange (I:=fun _ c st'=>c.1=none∧AllK c.2.2.2.1∧(1≤c.2.1∧c.2.1≤a.size)∧(2≤c.2.2.1∧c.2.2.1≤b.size)∧x+1+c.2.1+c.2.2.1+1≤a.size+b.size∧SI2 n pd st') (Q:=fun c st'=>SI2 n pd st'∧((∃r,c.1=some r∧AllK r)∨(c.1=none∧AllK c.2.2.2.1∧(1≤c.2.1∧c.2.1≤a.size)∧(2≤c.2.2.1∧c.2.2.1≤b.size)∧x+1+c.2.1+c.2.2.1+1≤a.size+b.size))) ?step3 (fun c st' h=>⟨h.2.2.2.2.2,.inr ⟨h.1,h.2.1,h.2.2.1,h.2.2.2.1,h.2.2.2.2.1⟩⟩) ⟨rfl,ho,h1,h2,h3,I3⟩) ?post3)
   case post3 =>
    rintro ⟨c1,na,nb,out,mg2,ac,bc⟩ st4 ⟨I4,h⟩
    dsimp only at h ⊢
    rcases h with ⟨r,e,hr⟩|⟨e,ho,h1,h2,h3⟩
    ·subst e
     exact wpS_pure ⟨⟨r,rfl,hr⟩,I4⟩
    subst e
    exact wpS_bind (big_setmin I4 fun st5 I5=>wpS_pure ⟨rfl,ho,h1,h2,h3,I5⟩)
   case step3 =>
    rintro z ⟨c1,na,nb,out,mg2,ac,bc⟩ st4 _ hz ⟨rfl,ho,h1,h2,h3,I4⟩
    dsimp only at ho h1 h2 h3 ⊢
    by_cases gm:mg2 > 1
    case' pos=>rw [if_pos gm]
    case' neg=>rw [if_neg gm]
    all_goals
     refine wpS_bind (big_setmin I4 fun st5 I5=>?_)
     refine wpS_bind (big_at pb (by lia) fun p1 k1=>?_)
     refine wpS_bind (big_gallop I5.kind k1 pa (by lia) (by lia) fun k hk=>?_)
     dsimp only
     by_cases gk:na - k > 0
     case' pos =>
      rw [if_pos gk]
      have ho1:=ho.app (pa.ext (i:=k) (j:=na)).rev
      by_cases f1:(k==0)=true
      ·rw [if_pos f1];exact wpS_pure ⟨I5,.inl ⟨_,rfl,(pa.ext.app pb.ext).app ho1.rev⟩⟩
      rw [if_neg f1]
      have f1:k≠0:=by simpa using f1
      have q1:1≤k∧k≤a.size:=by lia
      have q3:x+1+k+nb+1≤a.size+b.size:=by lia
     case' neg =>
      rw [if_neg gk]
      have ho1:=ho
      have q1:=h1
      have q3:=h3
     all_goals
      refine wpS_bind (big_at pb (by lia) fun p3 k3=>?_)
      have ho2:=ho1.push k3
      split
      ·exact wpS_pure ⟨I5,.inl ⟨_,rfl,(pb.ext.app pa.ext).app ho2.rev⟩⟩
      rename_i g3
      have g3:nb - 1≠1:=by simpa using g3
      refine wpS_bind (big_at pa (by lia) fun p4 k4=>?_)
      refine wpS_bind (big_gallop I5.kind k4 pb (by lia) (by lia) fun k2 hk2=>?_)
      dsimp only
      by_cases gk2:nb - 1 - k2 > 0
      case' pos =>
       rw [if_pos gk2]
       have ho3:=ho2.app (pb.ext (i:=k2) (j:=nb - 1)).rev
       split
       ·exact wpS_pure ⟨I5,.inl ⟨_,rfl,(pb.ext.app pa.ext).app ho3.rev⟩⟩
       rename_i g4
       have g4:k2≠1:=by simpa using g4
       split
       ·exact wpS_pure ⟨I5,.inl ⟨_,rfl,(pa.ext.app pb.ext).app ho3.rev⟩⟩
       rename_i g6
       have g6:k2≠0:=by simpa using g6
      case' neg =>
       rw [if_neg gk2]
       have ho3:=ho2
      all_goals
       refine wpS_bind (big_at pa (by lia) fun p5 k5=>?_)
       have ho4:=ho3.push k5
       split
       ·exact wpS_pure ⟨I5,.inl ⟨_,rfl,(pa.ext.app pb.ext).app ho4.rev⟩⟩
       rename_i g5
       simp only [beq_iff_eq] at g5
       split
       ·exact wpS_pure ⟨I5,.inr ⟨rfl,ho4,by dsimp only;lia,by dsimp only;lia,by dsimp only;lia⟩⟩
       ·exact wpS_pure ⟨rfl,ho4,by dsimp only;lia,by dsimp only;lia,by dsimp only;lia,I5⟩
end
end L2

namespace L2
open PySem PySem.W PyProof.Rows
structure RunsTo (pd:Array (Nat × Nat × Nat)) (hi:Nat):Prop where
 len:∀(i:Nat) (p:Nat × Nat × Nat),pd[i]? = some p→1≤p.2.1
 adj:∀(i:Nat) (p q:Nat × Nat × Nat),pd[i]? = some p→pd[i+1]? = some q→q.1=p.1+p.2.1
 last:∀(i:Nat) (p:Nat × Nat × Nat),pd[i]? = some p→i+1=pd.size→p.1+p.2.1=hi
theorem RunsTo.le {pd:Array (Nat × Nat × Nat)}{hi:Nat}(h:RunsTo pd hi):∀(k i:Nat) (p:Nat × Nat × Nat),i+1+k=pd.size→pd[i]? = some p→p.1+p.2.1≤hi
 | 0,i,p,e,hp=>Nat.le_of_eq (h.last i p hp e)
 | k+1,i,p,e,hp=>by
  have hq:pd[i+1]? = some pd[i+1]:=Array.getElem?_eq_getElem (by lia)
  have:=h.le k (i+1) _ (by lia) hq
  have:=h.adj i p _ hp hq
  lia
theorem RunsTo.empty:RunsTo #[] 0:=⟨fun _ _ h=>(by simp at h),fun _ _ _ h=>(by simp at h),fun _ _ h=>(by simp at h)⟩
theorem RunsTo.push {pd:Array (Nat × Nat × Nat)}{hi m g:Nat}(h:RunsTo pd hi) (hm:1≤m):RunsTo (pd.push (hi,m,g)) (hi+m) where
 len:=fun i p e=>by
  rw [Array.getElem?_push] at e
  split at e
  ·obtain rfl:=Option.some.inj e;exact hm
  ·exact h.len i p e
 adj:=fun i p q e f=>by
  rw [Array.getElem?_push] at e f
  split at f
  ·obtain rfl:=Option.some.inj f
   rw [if_neg (by lia)] at e
   exact (h.last i p e (by assumption)).symm
  ·split at e
   ·rw [Array.getElem?_eq_none (by lia)] at f;cases f
   ·exact h.adj i p q e f
 last:=fun i p e l=>by
  rw [Array.size_push] at l
  rw [Array.getElem?_push,if_pos (by lia)] at e
  obtain rfl:=Option.some.inj e
  rfl
theorem RunsTo.mod {pd:Array (Nat × Nat × Nat)}{hi j g:Nat}(h:RunsTo pd hi):RunsTo (pd.modify j fun x=>(x.1,x.2.1,g)) hi:=by
 have key:∀(i:Nat) (p:Nat × Nat × Nat),(pd.modify j fun x=>(x.1,x.2.1,g))[i]? = some p→∃q:Nat × Nat × Nat,pd[i]? = some q∧p.1=q.1∧p.2.1=q.2.1:=fun i p e=>by
  rw [Array.getElem?_modify] at e
  split at e
  ·cases f:pd[i]? with
   | none=>rw [f] at e;cases e
   | some q=>rw [f] at e;obtain rfl:=Option.some.inj e;exact⟨q,rfl,rfl,rfl⟩
  ·exact⟨p,e,rfl,rfl⟩
 refine⟨fun i p e=>?_,fun i p q e f=>?_,fun i p e l=>?_⟩
 ·obtain ⟨q,e1,e2,e3⟩:=key i p e
  rw [e3];exact h.len i q e1
 ·obtain ⟨p',e1,e2,e3⟩:=key i p e
  obtain ⟨q',f1,f2,f3⟩:=key (i+1) q f
  rw [e2,e3,f2];exact h.adj i p' q' e1 f1
 ·obtain ⟨q,e1,e2,e3⟩:=key i p e
  rw [e2,e3];exact h.last i q e1 (by simpa using l)
theorem RunsTo.join {pd:Array (Nat × Nat × Nat)}{hi i sa na g sb nb g':Nat}(h:RunsTo pd hi) (ea:pd[i]? = some (sa,na,g)) (eb:pd[i+1]? = some (sb,nb,g')):RunsTo ((pd.setIfInBounds i (sa,na+nb,g)).eraseIdxIfInBounds (i+1)) hi∧((pd.setIfInBounds i (sa,na+nb,g)).eraseIdxIfInBounds (i+1)).size+1=pd.size:=by
 have hs:i+1<pd.size:=by
  rcases Nat.lt_or_ge (i+1) pd.size with x|x
  ·exact x
  ·rw [Array.getElem?_eq_none x] at eb;cases eb
 have hab:=h.adj i _ _ ea eb
 have la:=h.len i _ ea
 have lb:=h.len _ _ eb
 dsimp only at hab la lb
 have hz:((pd.setIfInBounds i (sa,na+nb,g)).eraseIdxIfInBounds (i+1)).size+1=pd.size:=by
  simp [Array.eraseIdxIfInBounds,hs];lia
 have key:∀j,((pd.setIfInBounds i (sa,na+nb,g)).eraseIdxIfInBounds (i+1))[j]? = if j<i then pd[j]? else if j=i then some (sa,na+nb,g) else pd[j+1]? := fun j=>by
  simp only [Array.eraseIdxIfInBounds,Array.size_setIfInBounds,hs,dif_pos,Array.getElem?_eraseIdx,Array.getElem?_setIfInBounds]
  by_cases c1:j<i
  ·simp [c1,show j<i+1 by lia,show i≠j by lia]
  ·by_cases c2:j=i
   ·subst c2;simp [show j<pd.size by lia]
   ·simp [c1,c2,show ¬j<i+1 by lia,show i≠j+1 by lia]
 refine⟨⟨fun j p e=>?_,fun j p q e f=>?_,fun j p e l=>?_⟩,hz⟩
 ·rw [key] at e
  split at e
  ·exact h.len _ _ e
  ·split at e
   ·obtain rfl:=Option.some.inj e;dsimp only;lia
   ·exact h.len _ _ e
 ·rw [key] at e f
  by_cases c1:j+1<i
  ·rw [if_pos (by lia)] at e;rw [if_pos c1] at f;exact h.adj _ _ _ e f
  rw [if_neg c1] at f
  by_cases c2:j+1=i
  ·rw [if_pos (by lia)] at e
   rw [if_pos c2] at f
   obtain rfl:=Option.some.inj f
   subst c2
   have:=h.adj _ _ _ e ea
   exact this
  rw [if_neg c2] at f
  rw [if_neg (by lia)] at e
  by_cases c3:j=i
  ·rw [if_pos c3] at e
   obtain rfl:=Option.some.inj e
   subst c3
   have:=h.adj _ _ _ eb f
   dsimp only at this ⊢
   lia
  ·rw [if_neg c3] at e
   exact h.adj _ _ _ e f
 ·rw [key] at e
  rw [if_neg (by lia)] at e
  split at e
  ·obtain rfl:=Option.some.inj e
   have:=h.last _ _ eb (by lia)
   dsimp only at this ⊢
   lia
  ·exact h.last _ _ e (by lia)
theorem fold_all (sa:Nat):∀(l:List (Keyed × Nat)) (x:Array Keyed),AllK x→(∀p∈l,KI2 p.1)→AllK (l.foldl (fun a p=>a.setIfInBounds (sa+p.2) p.1) x)∧(l.foldl (fun a p=>a.setIfInBounds (sa+p.2) p.1) x).size=x.size
 | [],x,h,_=>⟨h,rfl⟩
 | q::l,x,h,k=>by
  have:=fold_all sa l (x.setIfInBounds (sa+q.2) q.1) (fun p hp=>by
   rcases Array.mem_or_eq_of_mem_setIfInBounds hp with c|c
   ·exact h p c
   ·exact c ▸ k q (List.mem_cons_self ..)) fun p hp=>k p (List.mem_cons_of_mem _ hp)
  exact⟨this.1,this.2.trans (Array.size_setIfInBounds ..)⟩
end L2

namespace L2
open PySem PySem.W PyProof.Rows
section
variable {prog:Program}{w:World}{A:Around}{E:Value→Shared→Prop}{s:Shared}{n:Nat}{pd:Array (Nat × Nat × Nat)}{st:SortSt}
theorem big_set {st':SortSt}{Q:PUnit→SortSt→Prop}(h:Q ⟨⟩ st'):wpS (model prog w) A E s (set st':StateT SortSt Sem PUnit) Q st:=wpS_modify (f:=fun _=>st') h
theorem big_end {sa:Nat}{r:Array Keyed}{Q:Bool→SortSt→Prop}(I:SI2 n pd st) (hr:AllK r) (hq:∀st',SI2 n pd st'→Q true st'):wpS (model prog w) A E s ((modify fun s=>setArr s (r.toList.zipIdx.foldl (fun a x=>a.setIfInBounds (sa+x.2) x.1) (arrOf s))) >>= fun _=>get >>= fun s=>pure (failedOf s).isNone) Q st:=by
 have f:=fold_all sa r.toList.zipIdx (arrOf st) I.all (fun p hp=>hr _ (by
  have:=List.fst_mem_of_mem_zipIdx hp
  simpa using this))
 refine wpS_bind (wpS_modify (wpS_bind (wpS_get ?_)))
 have I':SI2 n pd (setArr st (r.toList.zipIdx.foldl (fun a x=>a.setIfInBounds (sa+x.2) x.1) (arrOf st))):=⟨f.2.trans I.size,f.1,I.kind,I.failed,I.pend⟩
 have:=wpS_pure (M:=model prog w) (A:=A) (E:=E) (s:=s) (hq _ I')
 rw [show (true:Bool)=(failedOf st).isNone from by rw [I.failed];rfl] at this
 exact this
theorem big_mergeAt {i hi:Nat}{Q:Bool→SortSt→Prop}(I:SI2 n pd st) (P:RunsTo pd hi) (hn:hi≤n) (hs:i+1<pd.size) (hq:∀pd' st',SI2 n pd' st'→RunsTo pd' hi→pd'.size+1=pd.size→Q true st'):wpS (model prog w) A E s (mergeAt' i) Q st:=by
 have ea:pd[i]? = some pd[i]:=Array.getElem?_eq_getElem (by lia)
 have eb:pd[i+1]? = some pd[i+1]:=Array.getElem?_eq_getElem hs
 generalize pd[i]=pa at ea
 generalize pd[i+1]=pb at eb
 obtain ⟨sa,na,g⟩:=pa
 obtain ⟨sb,nb,g'⟩:=pb
 have ab:=P.adj _ _ _ ea eb
 have la:=P.len _ _ ea
 have lb:=P.len _ _ eb
 have hb:=P.le (pd.size - (i+2)) _ _ (by lia) eb
 dsimp only at ab la lb hb
 have J:=P.join ea eb
 refine wpS_bind (wpS_get ?_)
 have ea':=I.pend ▸ ea
 have eb':=I.pend ▸ eb
 rw [ea',eb']
 dsimp only
 refine wpS_bind (big_set ?_)
 have I1:SI2 n ((pd.setIfInBounds i (sa,na+nb,g)).eraseIdxIfInBounds (i+1)) (SortSt.mk' (kindOf st) (arrOf st) (((pendingOf st).setIfInBounds i (sa,na+nb,g)).eraseIdxIfInBounds (i+1)) (gallopOf st) (failedOf st)):=⟨I.size,I.all,I.kind,I.failed,by show ((pendingOf st).setIfInBounds i _).eraseIdxIfInBounds _=_;rw [I.pend]⟩
 have hz:=I.size
 have fin:∀st',SI2 n ((pd.setIfInBounds i (sa,na+nb,g)).eraseIdxIfInBounds (i+1)) st'→Q true st':=fun st' I'=>hq _ _ I' J.1 J.2
 have all:AllK (arrOf st):=I.all
 refine wpS_bind (big_at all (by lia) fun p1 k1=>?_)
 refine wpS_bind (big_gallop I1.kind k1 all (by lia) (by lia) fun k hk=>?_)
 dsimp only
 by_cases c1:(na - k==0)=true
 ·rw [if_pos c1];exact wpS_pure (fin _ I1)
 rw [if_neg c1]
 have c1:na - k≠0:=by simpa using c1
 refine wpS_bind (big_at all (by lia) fun p2 k2=>?_)
 refine wpS_bind (big_gallop I1.kind k2 all (by lia) (by lia) fun m hm=>?_)
 dsimp only
 by_cases c2:(m==0)=true
 ·rw [if_pos c2];exact wpS_pure (fin _ I1)
 rw [if_neg c2]
 have c2:m≠0:=by simpa using c2
 have z1:1≤((arrOf st).extract (sa+k) sb).size:=by rw [Array.size_extract];lia
 have z2:1≤((arrOf st).extract sb (sb+m)).size:=by rw [Array.size_extract];lia
 by_cases c3:na - k≤m
 ·rw [if_pos c3]
  exact wpS_bind (big_mergeLo I1 all.ext all.ext z1 z2 fun out st2 I2 ho=>big_end I2 ho fin)
 ·rw [if_neg c3]
  exact wpS_bind (big_mergeHi I1 all.ext all.ext z1 z2 fun out st2 I2 ho=>big_end I2 ho fin)
end
end L2

namespace L2
open PySem PySem.W PyProof.Rows
theorem SI2.push {n:Nat}{pd:Array (Nat × Nat × Nat)}{st:SortSt}{e:Nat × Nat × Nat}(h:SI2 n pd st):SI2 n (pd.push e) (setPending st ((pendingOf st).push e)):=⟨h.size,h.all,h.kind,h.failed,by show (pendingOf st).push _=_;rw [h.pend]⟩
theorem SI2.mod {n g:Nat}{pd:Array (Nat × Nat × Nat)}{st:SortSt}(h:SI2 n pd st):SI2 n (pd.modify (pd.size - 1) fun x=>(x.1,x.2.1,g)) (setPending st ((pendingOf st).modify ((pendingOf st).size - 1) fun x=>(x.1,x.2.1,g))):=⟨h.size,h.all,h.kind,h.failed,by have e:=h.pend;subst e;rfl⟩
section
variable {prog:Program}{w:World}{A:Around}{E:Value→Shared→Prop}{s:Shared}{n:Nat}{st:SortSt}
theorem big_runs {Q:Unit→SortSt→Prop}(I:SI2 n #[] st) (hq:∀pd st',SI2 n pd st'→Q () st'):wpS (model prog w) A E s sortRuns' Q st:=by
 rw [sortRuns'_eq]
 refine wpS_bind (wpS_get ?_)
 dsimp only
 simp only [I.size]
 generalize minRun' n n 0=mr
 refine wpS_bind (wpS_mono (wpS_forRange (I:=fun _ c st'=>c.1=none∧c.2≤n∧∃pd,SI2 n pd st'∧RunsTo pd c.2) (Q:=fun c st'=>c.1=none∧c.2≤n∧∃pd,SI2 n pd st'∧RunsTo pd c.2) ?step (fun c st' h=>h) ⟨rfl,Nat.zero_le _,_,I,RunsTo.empty⟩) ?post)
 case post =>
  rintro ⟨c1,lo⟩ st2 ⟨e,hl,pd,I2,P2⟩
  dsimp only at e hl P2 ⊢
  subst e
  dsimp only
  refine wpS_bind (wpS_mono (wpS_forRange (I:=fun _ c st'=>c.1=none∧∃pd,SI2 n pd st'∧RunsTo pd lo) (Q:=fun c st'=>c.1=none∧∃pd,SI2 n pd st'∧RunsTo pd lo) ?step2 (fun c st' h=>h) ⟨rfl,_,I2,P2⟩) ?post2)
  case post2 =>
   rintro ⟨c1,_⟩ st3 ⟨e,pd3,I3,P3⟩
   dsimp only at e ⊢
   subst e
   exact wpS_pure (hq _ _ I3)
  case step2 =>
   rintro x ⟨c1,_⟩ st3 _ hx ⟨e,pd3,I3,P3⟩
   dsimp only at e ⊢
   subst e
   refine wpS_bind (wpS_get ?_)
   rw [I3.pend]
   by_cases c:pd3.size≤1
   ·rw [if_pos c];exact wpS_pure ⟨rfl,_,I3,P3⟩
   rw [if_neg c]
   generalize hj:(if (Option.any _ _:Bool)=true then pd3.size - 2 - 1 else pd3.size - 2)=j
   have hj':j+1<pd3.size:=by split at hj <;> lia
   refine wpS_bind (big_mergeAt I3 P3 hl hj' fun pd4 st4 I4 P4 z4=>?_)
   exact wpS_pure ⟨rfl,_,I4,P4⟩
 case step =>
  rintro x ⟨c1,lo⟩ st2 _ hx ⟨e,hl,pd,I2,P2⟩
  dsimp only at e hl P2 ⊢
  subst e
  by_cases c:lo≥n
  ·rw [if_pos c];exact wpS_pure ⟨rfl,hl,_,I2,P2⟩
  rw [if_neg c]
  refine wpS_bind (big_count I2 (by lia) (by lia) fun m st3 I3 m1 m2=>?_)
  dsimp only
  by_cases cm:m<mr
  case' pos =>
   rw [if_pos cm]
   refine wpS_bind (big_rule (wpS_bind (big_bin I3 (by lia) fun st4 I4=>?_)))
   have k1:1≤min (n - lo) mr:=by lia
   have k2:min (n - lo) mr≤n - lo:=by lia
   generalize min (n - lo) mr=k at k1 k2 ⊢
   rw [if_neg (by decide)]
  case' neg =>
   rw [if_neg cm]
   have I4:=I3
   have k1:=m1
   have k2:=m2
  all_goals
   refine wpS_bind (wpS_get ?_)
   split
   ·refine wpS_bind (wpS_mono (wpS_forRange (I:=fun _ c st'=>c.1=none∧∃pd,SI2 n pd st'∧RunsTo pd lo) (Q:=fun c st'=>c.1=none∧∃pd,SI2 n pd st'∧RunsTo pd lo) ?step3 (fun c st' h=>h) ⟨rfl,_,I4,P2⟩) ?post3)
    case post3 =>
     rintro ⟨c1,_⟩ st5 ⟨e,pd5,I5,P5⟩
     dsimp only at e ⊢
     subst e
     refine wpS_bind (wpS_modify ?_)
     refine wpS_bind (wpS_modify ?_)
     exact wpS_pure ⟨rfl,by dsimp only;lia,_,I5.mod.push,P5.mod.push k1⟩
    case step3 =>
     rintro y ⟨c1,_⟩ st5 _ hy ⟨e,pd5,I5,P5⟩
     dsimp only at e ⊢
     subst e
     refine wpS_bind (wpS_get ?_)
     rw [I5.pend]
     split
     ·rename_i hp
      have z:1<pd5.size:=by
       by_cases z:1<pd5.size
       ·exact z
       ·rw [if_neg z] at hp;cases hp
      split
      ·exact wpS_pure ⟨rfl,_,I5,P5⟩
      ·exact wpS_bind (big_mergeAt I5 P5 hl (by lia) fun pd6 st6 I6 P6 _=>wpS_pure ⟨rfl,_,I6,P6⟩)
     ·exact wpS_pure ⟨rfl,_,I5,P5⟩
   ·refine wpS_bind (wpS_modify ?_)
    exact wpS_pure ⟨rfl,by dsimp only;lia,_,I4.push,P2.push k1⟩
end
end L2

namespace L2
open PySem PySem.W PyProof.Rows
section
variable {prog:Program}{w:World}{A:Around}{E:Value→Shared→Prop}{s:Shared}
theorem big_sort {z:Addr}{us:List Value}{ns:List Int}{e:Nat}{R:PySem.Fin→Shared→Prop}(hz:s.heap.get? z=some (seqObj "list" us.toArray e)) (hI:IntsAre us ns) (h2:2≤us.length) (hL:us.length≤sizeLine) (k:∀(out:Array Value) (ns':List Int),IntsAre out.toList ns'→ns'.length=us.length→R (.done (.ret .none)) { s with heap:=sortedHeap s.heap z us out }) :
  wpAny (model prog w) A (Builtin.«list.sort» ⟨[.ref z],[]⟩) R E s:=by
 have hlt:=Heap.lt_size hz
 rw [list_sort_plain]
 refine wpAny_bind (listItems_at hz rfl (wpAny_bind (listUpdate_at hz rfl ?_ (by rw [List.size_toArray];exact hL) (Nat.zero_le _))))
 obtain ⟨e1,hz1⟩:∃e1,(s.heap.update z (Obj.mapSeq fun _=>#[])).get? z=some (seqObj "list" #[] e1):=⟨_,get?_update_seq hz (fun _=>#[])⟩
 refine wpAny_bind (seqEpoch_at hz1 rfl (wpAny_bind (wpAny_newTuple (wpAny_bind (wpAny_newList (wpAny_holding ?_) (Nat.zero_le _))) hL)))
 have hz6:(((s.heap.update z (Obj.mapSeq fun _=>#[])).push (seqObj "tuple" us.toArray 0)).push (seqObj "list" #[] 0)).get? z=some (seqObj "list" #[] e1):=Heap.get?_push_of_some _ (Heap.get?_push_of_some _ hz1)
 show wpAny (model prog w) A _ R E { s with heap:=((s.heap.update z (Obj.mapSeq fun _=>#[])).push (seqObj "tuple" us.toArray 0)).push (seqObj "list" #[] 0) }
 dsimp only
 have n2:¬us.toArray.size<2:=by rw [List.size_toArray];lia
 rw [if_neg n2,if_neg n2]
 obtain ⟨u,v,us,rfl⟩:∃u v l,us=u::v::l:=match us,h2 with|u::v::l,_=>⟨u,v,l,rfl⟩
 have I0:SI2 (u::v::us).length #[] (SortSt.mk' oneType' ((u::v::us).toArray.zip (u::v::us).toArray) #[] 7 none):=by
  refine⟨by show ((u::v::us).toArray.zip (u::v::us).toArray).size=_;rw [Array.size_zip,List.size_toArray,Nat.min_self],fun p hp=>?_,rfl,rfl,rfl⟩
  have hp:p∈(u::v::us).toArray.zip (u::v::us).toArray:=hp
  rw [←Array.mem_toList_iff,Array.toList_zip] at hp
  obtain ⟨a,b⟩:=p
  obtain ⟨h1,h3⟩:=List.of_mem_zip hp
  obtain ⟨i,t,rfl⟩:=hI.all _ h1
  obtain ⟨j,t',rfl⟩:=hI.all _ h3
  exact⟨i,t,j,t',rfl⟩
 rw [keyKind_ints hI]
 refine wpAny_bind (wpAny_pure (wpAny_bind (wpAny_mono (big_runs (Q:=fun _ st'=>∃pd,SI2 (u::v::us).length pd st') I0 fun pd st' I=>⟨pd,I⟩) ?_ fun _ _ e=>e)))
 rintro ⟨⟨⟩,st'⟩ s' ⟨rfl,pd,I⟩
 have hsz:((arrOf st').map (·.2)).size=(u::v::us).length:=(Array.size_map ..).trans I.size
 refine wpAny_bind (seqEpoch_at hz6 rfl (wpAny_bind (listUpdate_at hz6 rfl ?_ (Nat.zero_le _) (by rw [hsz];exact Nat.le_succ_of_le hL))))
 rw [I.failed]
 simp only [bne_self_eq_false,Bool.false_eq_true,if_false]
 refine wpAny_pure (k _ _ (intsAre_map _ fun x hx=>?_) ?_)
 ·rw [Array.toList_map,List.mem_map] at hx
  obtain ⟨p,hp,rfl⟩:=hx
  obtain ⟨i,t,j,t',rfl⟩:=I.all p (Array.mem_toList_iff.mp hp)
  exact⟨j,t',rfl⟩
 ·rw [List.length_map,Array.length_toList];exact hsz
end
end L2

namespace L2
open PySem PySem.Spec PyProof.Rows PySem.W
section
variable {prog:Program}{w:World}{A:Around}{E:Value→Shared→Prop}{s:Shared}
def sortsTo (ns ns':List Int):Prop:=ns'.length=ns.length∧(ns.length<64→ns'.Perm ns∧ns'.Pairwise (· ≤ ·))
theorem any_sort {z:Addr}{us:List Value}{ns:List Int}{e:Nat}{R:PySem.Fin→Shared→Prop}(hz:s.heap.get? z=some (seqObj "list" us.toArray e)) (hI:IntsAre us ns) (hn:us.length=ns.length) (hL:us.length≤sizeLine) (k:∀(out:Array Value) (ns':List Int),IntsAre out.toList ns'→sortsTo ns ns'→R (.done (.ret .none)) { s with heap:=sortedHeap s.heap z us out }) :
  wpAny (model prog w) A (Builtin.«list.sort» ⟨[.ref z],[]⟩) R E s:=by
 by_cases h:us.length<64
 ·exact list_sort_tree hz hI h fun out ns' a b c=>k out ns' a ⟨b.length_eq,fun _=>⟨b,c⟩⟩
 ·exact big_sort hz hI (by lia) hL fun out ns' a b=>k out ns' a ⟨by lia,fun x=>by lia⟩
theorem any_sorted {v:Value}{us:List Value}{ns:List Int}{Q:Value→Shared→Prop}(hcol:∀(A:Around) (Q:List Value→Shared→Prop),(∀h',(∀b o,s.heap.get? b=some o→h'.get? b=some o)→Q us { s with heap:=h' })→wpAny (model prog w) A (collect v) Q E s) (hI:IntsAre us ns) (hn:us.length=ns.length) (hL:us.length≤sizeLine)
  (k:∀(h h':Heap) (a:Addr) (out:Array Value) (ns':List Int) (c:Nat),(∀b o,s.heap.get? b=some o→h.get? b=some o)→(∀b o,h.get? b=some o→h'.get? b=some o)→h.objs.size≤a→h'.get? a=some (seqObj "list" out c)→IntsAre out.toList ns'→sortsTo ns ns'→Q (.ref a) { s with heap:=h' }) :
  wpAny (model prog w) A (call (.builtin "sorted") [v]) Q E s:=by
 refine Calls.call_function_entry kind_sorted plain_sorted entry_sorted (args_sorted1 _) ?_
 unfold Builtin.«sorted»
 refine wpAny_bind (m:=checkCount "sorted" 1 1 _) (wpAny_pure (wpAny_bind (hcol _ _ fun h hk=>wpAny_bind (wpAny_newList ?_ hL))))
 have ho:(h.push (seqObj "list" us.toArray 0)).get? h.objs.size=some (seqObj "list" us.toArray 0):=Heap.get?_push_size _ rfl
 show wpAny _ _ _ _ _ { s with heap:=h.push (seqObj "list" us.toArray 0) }
 refine wpAny_bind (wpAny_holding (wpAny_call_entry slot_list_sort ⟨_,ho,rfl⟩ entry_list_sort (any_sort ho hI hn hL fun out ns' a b=>⟨_,rfl,wpAny_pure ⟨_,rfl,?_⟩⟩) (args_list_sort _)))
 obtain ⟨c,hc⟩:=sortedHeap_at (out:=out) ho
 refine k h _ _ out ns' c hk (fun b o e=>?_) (Nat.le_refl _) hc a b
 have hb:=Heap.lt_size e
 show (sortedHeap (h.push (seqObj "list" us.toArray 0)) h.objs.size us out).get? b=some o
 rw [sortedHeap_old (Nat.ne_of_lt hb) (by rw [size_push'];exact Nat.lt_succ_of_lt hb)]
 exact Heap.get?_push_of_some _ e
end
section
variable {X:Cx}
inductive rSortTI (K:PySem.W.Frag) (xs:List V) (H:Hp) (Q:VK):Prop
 | mk:∀(p:Addr) (ns:List Int),(xs=[.ref p])→(SqT K H p (ns.map V.int))→(∀(q:Addr) (ns':List Int),H q=none→sortsTo ns ns'→Q (.ref q) (upd H q (.lst (ns'.map V.int))))→rSortTI K xs H Q
theorem call_sortTI:CallR X (.builtin "sorted") (rSortTI X.K):=by
 intro pins s σ H xs us Q I r h
 obtain ⟨p,ns,rfl,hq,q⟩:=h
 obtain ⟨u,rfl,ru⟩:=vals1 r
 cases ru
 obtain ⟨its,rv,⟨o,ho,hc,n,hd⟩,hz⟩:=I.tuple hq
 have hl:=rv.length
 rw [List.length_map] at hl hz
 refine any_sorted (fun A Q hQ=>wpAny_collect_seq p (.inr rfl) ho hc hd (fun h' hk=>?_) (by rw [List.size_toArray];lia)) (vals_ia rv) (by lia) (by lia) fun h h' a out ns' c k1 k2 ha hc hia st=>?_
 ·exact hQ h' hk
 have I1:=I.kept (t':=s.toks) k1
 have hf:H a=none:=I1.hok.fresh ha
 refine⟨.ref _,_,I1.laid (t':=s.toks) (o:=.lst (ns'.map V.int)) k2 ha ⟨?_,out.toList,c,vals_ints hia,?_⟩,rfl,q _ ns' hf st⟩
 ·rw [List.length_map,st.1];exact hz
 ·rw [show out.toList.toArray=out from by simp];exact hc
end
end L2

namespace L2
open PySem
theorem erase_perm {α:Type}:∀{l:List α}{i:Nat}(h:i<l.length),(l[i]::l.eraseIdx i).Perm l
 | a::l,0,_=>List.Perm.refl _
 | a::l,i+1,h=>(List.Perm.swap a _ _).trans (List.Perm.cons a (erase_perm (l:=l) (Nat.lt_of_succ_lt_succ h)))
theorem pick_go {α:Type}(next:Nat→Nat):∀(f k:Nat) (l:List α) (out:Array α),l.length=f→(pickOrder.go next f k l out).toList.Perm (out.toList++l)
 | 0,k,l,out,h=>by
  obtain rfl:=List.length_eq_zero_iff.mp h
  rw [List.append_nil]
  exact List.Perm.refl _
 | f+1,k,l,out,h=>by
  have hl:next k % l.length<l.length:=Nat.mod_lt _ (by lia)
  have e:l[next k % l.length]? = some l[next k % l.length]:=List.getElem?_eq_getElem hl
  unfold pickOrder.go
  rw [e]
  dsimp only
  refine (pick_go next f (k+1) _ _ (by rw [List.length_eraseIdx_of_lt hl];lia)).trans ?_
  rw [Array.toList_push,List.append_assoc]
  refine List.Perm.append_left _ ?_
  exact erase_perm hl
theorem pick_perm {α:Type}(next:Nat→Nat) (xs:Array α):(pickOrder next xs).toList.Perm xs.toList:=by
 have:=pick_go next xs.size 0 xs.toList #[] (by simp)
 exact this.trans (by simp)
theorem below_go (xs:Array Nat) (j:Nat):∀(f lo hi:Nat),hi≤lo+f→lo≤hi→hi≤xs.size→(∀i (h:i<xs.size),i<lo→xs[i]<j)→(∀i (h:i<xs.size),hi≤i→j≤xs[i])→(∀a b (ha:a<xs.size) (hb:b<xs.size),a≤b→xs[a]≤xs[b]) →
  (∀i (h:i<xs.size),i<SetTable.below.go xs j f lo hi→xs[i]<j)∧(∀i (h:i<xs.size),SetTable.below.go xs j f lo hi≤i→j≤xs[i])∧SetTable.below.go xs j f lo hi≤xs.size
 | 0,lo,hi,h1,h2,h3,h4,h5,_=>by
  obtain rfl:lo=hi:=by lia
  exact⟨h4,h5,h3⟩
 | f+1,lo,hi,h1,h2,h3,h4,h5,mo=>by
  unfold SetTable.below.go
  by_cases c:lo<hi
  ·rw [if_pos c]
   dsimp only
   have hm:(lo+hi) / 2<xs.size:=by lia
   have e:xs.getD ((lo+hi) / 2) j=xs[(lo+hi) / 2]:=by rw [Array.getD_eq_getD_getElem?,Array.getElem?_eq_getElem hm];rfl
   rw [e]
   by_cases d:xs[(lo+hi) / 2]<j
   ·rw [if_pos d]
    exact below_go xs j f _ hi (by lia) (by lia) h3 (fun i h hi'=>Nat.lt_of_le_of_lt (mo i _ h hm (by lia)) d) h5 mo
   ·rw [if_neg d]
    exact below_go xs j f lo _ (by lia) (by lia) (by lia) h4 (fun i h hi'=>Nat.le_trans (Nat.le_of_not_lt d) (mo _ i hm h hi')) mo
  ·rw [if_neg c]
   obtain rfl:lo=hi:=by lia
   exact⟨h4,h5,h3⟩
theorem below_next {xs:Array Nat}(mo:∀a b (ha:a<xs.size) (hb:b<xs.size),a<b→xs[a]<xs[b]) {i:Nat}(hi:i<xs.size):SetTable.below xs (xs[i]+1)=i+1:=by
 have mo':∀a b (ha:a<xs.size) (hb:b<xs.size),a≤b→xs[a]≤xs[b]:=fun a b ha hb h=>by
  by_cases e:a=b
  ·subst e;exact Nat.le_refl _
  ·exact Nat.le_of_lt (mo a b ha hb (by lia))
 have B:=below_go xs (xs[i]+1) xs.size 0 xs.size (by lia) (by lia) (by lia) (fun _ _ h=>absurd h (by lia)) (fun _ h h'=>absurd h (by lia)) mo'
 show SetTable.below.go xs (xs[i]+1) xs.size 0 xs.size=i+1
 generalize SetTable.below.go xs (xs[i]+1) xs.size 0 xs.size=r at B
 obtain ⟨b1,b2,b3⟩:=B
 rcases Nat.lt_trichotomy r (i+1) with c|c|c
 ·exact absurd (b2 i hi (by lia)) (by lia)
 ·exact c
 ·have:=b1 (i+1) (by lia) c
  have:=mo i (i+1) hi (by lia) (by lia)
  lia
theorem below_zero {xs:Array Nat}(mo:∀a b (ha:a<xs.size) (hb:b<xs.size),a<b→xs[a]<xs[b]):SetTable.below xs 0=0:=by
 have mo':∀a b (ha:a<xs.size) (hb:b<xs.size),a≤b→xs[a]≤xs[b]:=fun a b ha hb h=>by
  by_cases e:a=b
  ·subst e;exact Nat.le_refl _
  ·exact Nat.le_of_lt (mo a b ha hb (by lia))
 have B:=below_go xs 0 xs.size 0 xs.size (by lia) (by lia) (by lia) (fun _ _ h=>absurd h (by lia)) (fun _ h h'=>absurd h (by lia)) mo'
 show SetTable.below.go xs 0 xs.size 0 xs.size=0
 generalize SetTable.below.go xs 0 xs.size 0 xs.size=r at B
 obtain ⟨b1,b2,b3⟩:=B
 rcases Nat.eq_zero_or_pos r with c|c
 ·exact c
 ·exact absurd (b1 0 (by lia) c) (by lia)
end L2

namespace L2
open PySem
def Rises (xs:Array Nat):Prop:=xs.toList.Pairwise (· < ·)
theorem Rises.at {xs:Array Nat}(h:Rises xs):∀a b (ha:a<xs.size) (hb:b<xs.size),a<b→xs[a]<xs[b]:=fun a b ha hb hab=>by
 have:=List.pairwise_iff_getElem.mp h a b (by simpa using ha) (by simpa using hb) hab
 simpa using this
theorem Rises.split {l r:List Nat}{j:Nat}(h:(l++r).Pairwise (· < ·)) (hl:∀x∈l,x<j) (hr:∀x∈r,j<x):(l++j::r).Pairwise (· < ·):=by
 rw [List.pairwise_append] at h ⊢
 refine⟨h.1,List.pairwise_cons.mpr ⟨hr,h.2.1⟩,fun a ha b hb=>?_⟩
 rcases List.mem_cons.mp hb with e|e
 ·exact e ▸ hl a ha
 ·exact h.2.2 a ha b e
theorem Rises.insert {xs:Array Nat}{j:Nat}(h:Rises xs) (hj:j ∉ xs.toList):Rises (SetTable.insertAt xs (SetTable.below xs j) j):=by
 have mo':∀a b (ha:a<xs.size) (hb:b<xs.size),a≤b→xs[a]≤xs[b]:=fun a b ha hb hab=>by
  by_cases e:a=b
  ·subst e;exact Nat.le_refl _
  ·exact Nat.le_of_lt (h.at a b ha hb (by lia))
 have B:=below_go xs j xs.size 0 xs.size (by lia) (by lia) (by lia) (fun _ _ h=>absurd h (by lia)) (fun _ h h'=>absurd h (by lia)) mo'
 show Rises (SetTable.insertAt xs (SetTable.below.go xs j xs.size 0 xs.size) j)
 generalize SetTable.below.go xs j xs.size 0 xs.size=p at B
 obtain ⟨b1,b2,b3⟩:=B
 have e:(SetTable.insertAt xs p j).toList=xs.toList.take p++j::xs.toList.drop p:=by
  unfold SetTable.insertAt
  rw [Array.toList_append,Array.toList_push,Array.toList_extract,Array.toList_extract]
  simp [List.extract_eq_take_drop]
  exact List.take_of_length_le (by rw [List.length_drop,Array.length_toList];exact Nat.le_refl _)
 unfold Rises
 rw [e]
 refine Rises.split (by rw [List.take_append_drop];exact h) (fun x hx=>?_) fun x hx=>?_
 ·obtain ⟨i,hi,rfl⟩:=List.mem_iff_getElem.mp hx
  rw [List.length_take] at hi
  have:=b1 i (by have:=xs.length_toList;lia) (by lia)
  simpa using this
 ·obtain ⟨i,hi,rfl⟩:=List.mem_iff_getElem.mp hx
  rw [List.length_drop] at hi
  have hs:=xs.length_toList
  have h1:=b2 (p+i) (by lia) (by lia)
  have h2:xs.toList[p+i]'(by lia)≠j:=fun q=>hj (q ▸ List.getElem_mem _)
  rw [List.getElem_drop]
  rw [Array.getElem_toList] at h2 ⊢
  lia
end L2

namespace L2
open PySem
theorem free_own {t:SetTable}{k:Nat}(hd:t.dummies=#[]) (hm:k≤t.mask) (hm2:t.mask<64) (hk:k ∉ t.place.toList):t.freeSlot (k:Int)=some (k,false):=by
 have hb:SetTable.bits (k:Int) % (t.mask+1)=k:=by
  have:SetTable.bits (k:Int)=k:=by unfold SetTable.bits;lia
  rw [this];exact Nat.mod_eq_of_lt (by lia)
 have hs:t.slot k=.empty:=by
  unfold SetTable.slot
  have n1:¬(t.place[SetTable.below t.place k]? == some k)=true:=fun h=>hk (by
   have h:=eq_of_beq h
   exact Array.mem_toList_iff.mpr (Array.mem_of_getElem? h))
  dsimp only
  rw [if_neg n1,hd]
  rfl
 unfold SetTable.freeSlot SetTable.probe
 obtain ⟨f,hf⟩:∃f,10*SetTable.turns t.mask=f+1:=⟨10*SetTable.turns t.mask - 1,by unfold SetTable.turns;lia⟩
 rw [hf]
 unfold SetTable.probe.go
 have e:(t.probeStart (k:Int)).j=k:=hb
 rw [e,hs]
 rfl
end L2

namespace L2
open PySem
theorem lay_five {f mv:Nat}{led pl:Bool}:∀ns∈[[1,2,3,4,5],[0,2,3,4,5],[0,1,3,4,5],[0,1,2,4,5],[0,1,2,3,5],[0,1,2,3,4]],∃t,SetTable.laid 31 f mv led pl (ns.map Int.ofNat).toArray=some (t,#[0,1,2,3,4])∧t.place=ns.toArray∧t.dummies=#[]∧t.mask=31∧t.led=led∧t.plain=pl:=by
 intro ns h
 simp only [List.mem_cons,List.not_mem_nil,or_false] at h
 rcases h with rfl|rfl|rfl|rfl|rfl|rfl <;> exact⟨_,rfl,rfl,rfl,rfl,rfl,rfl⟩
end L2

namespace L2
open PySem
structure TabI (t:SetTable) (ns:List Nat):Prop where
 pl:t.place=ns.toArray
 up:ns.Pairwise (· < ·)
 lt:∀x∈ns,x<6
 dm:t.dummies=#[]
 pn:t.plain=true
 ms:t.mask=7∨t.mask=31
theorem rising_len:∀(ns:List Nat) (lo:Nat),ns.Pairwise (· < ·)→(∀x∈ns,lo≤x∧x<6)→ns.length≤6 - lo
 | [],_,_,_=>Nat.zero_le _
 | a::r,lo,h,k=>by
  obtain ⟨h1,h2⟩:=List.pairwise_cons.mp h
  have ha:=k a (List.mem_cons_self ..)
  have:=rising_len r (a+1) h2 fun x hx=>⟨h1 x hx,(k x (List.mem_cons_of_mem _ hx)).2⟩
  rw [List.length_cons]
  lia
theorem TabI.len {t:SetTable}{ns:List Nat}(h:TabI t ns):ns.length≤6:=rising_len ns 0 h.up fun x hx=>⟨Nat.zero_le _,h.lt x hx⟩
theorem TabI.fits {t:SetTable}{ns:List Nat}(h:TabI t ns):t.fits ns.length=true:=by
 unfold SetTable.fits SetTable.fill
 have:=h.len
 rw [h.pl,h.dm]
 rcases h.ms with e|e <;> rw [e] <;> simp <;> lia
end L2

namespace L2
open PySem
theorem insertAt_list {α:Type}(xs:Array α) (p:Nat) (x:α):(SetTable.insertAt xs p x).toList=xs.toList.take p++x::xs.toList.drop p:=by
 unfold SetTable.insertAt
 rw [Array.toList_append,Array.toList_push,Array.toList_extract,Array.toList_extract]
 simp [List.extract_eq_take_drop]
 exact List.take_of_length_le (by rw [List.length_drop,Array.length_toList];exact Nat.le_refl _)
theorem insertAt_map {α β:Type}(f:α→β) (xs:Array α) (p:Nat) (x:α):(SetTable.insertAt xs p x).map f=SetTable.insertAt (xs.map f) p (f x):=by
 apply Array.toList_inj.mp
 rw [Array.toList_map,insertAt_list,insertAt_list,Array.toList_map,List.map_append,List.map_cons,List.map_take,List.map_drop]
theorem insertAt_perm {α:Type}(xs:Array α) (p:Nat) (x:α):(SetTable.insertAt xs p x).toList.Perm (x::xs.toList):=by
 rw [insertAt_list]
 refine List.perm_middle.trans (List.Perm.cons _ ?_)
 rw [List.take_append_drop]
theorem TabI.put {t:SetTable}{ns:List Nat}{k:Nat}(h:TabI t ns) (hk:k<6) (hn:k ∉ ns):TabI (t.put k).1 (SetTable.insertAt ns.toArray (SetTable.below ns.toArray k) k).toList∧(t.put k).2=SetTable.below ns.toArray k∧(t.put k).1.led=t.led∧(t.put k).1.mask=t.mask:=by
 have e1:(t.put k).1.place=SetTable.insertAt ns.toArray (SetTable.below ns.toArray k) k:=by unfold SetTable.put;dsimp only;rw [h.pl]
 refine⟨⟨by rw [e1],?_,fun x hx=>?_,?_,h.pn,h.ms⟩,by unfold SetTable.put;dsimp only;rw [h.pl],rfl,rfl⟩
 ·exact Rises.insert (xs:=ns.toArray) h.up hn
 ·rcases List.mem_cons.mp ((insertAt_perm _ _ _).mem_iff.mp hx) with e|e
  ·exact e ▸ hk
  ·exact h.lt x e
 ·unfold SetTable.put
  dsimp only
  rw [h.dm]
  rfl
end L2

namespace L2
open PySem
theorem TabI.lay {t:SetTable}{ns:List Nat}{k:Nat}{es:Array (Int × Value)}{x:Value}(h:TabI t ns) (hk:k<6) (hn:k ∉ ns) (he:es.map (·.1)=(ns.map Int.ofNat).toArray) :
  ∃es' t' ns',layNew t es (k:Int) x=(es',t',false,false)∧TabI t' ns'∧t'.led=t.led∧t'.mask=t.mask∧ns'.Perm (k::ns)∧es'.map (·.1)=(ns'.map Int.ofNat).toArray∧es'.toList.Perm ((k,x)::es.toList):=by
 have hz:es.size=ns.length:=by have:=congrArg Array.size he;simpa using this
 obtain ⟨P,e2,e3,e4⟩:=h.put hk hn
 have hf:=P.fits
 have hl:(SetTable.insertAt es (SetTable.below ns.toArray k) ((k:Int),x)).size=(SetTable.insertAt ns.toArray (SetTable.below ns.toArray k) k).toList.length:=by
  rw [←Array.length_toList,(insertAt_perm _ _ _).length_eq,(insertAt_perm _ _ _).length_eq]
  simpa using hz
 refine⟨SetTable.insertAt es (SetTable.below ns.toArray k) ((k:Int),x),(t.put k).1,_,?_,P,e3,e4,insertAt_perm _ _ _,?_,insertAt_perm _ _ _⟩
 ·unfold layNew
  rw [free_own h.dm (by rcases h.ms with e|e <;> rw [e] <;> lia) (by rcases h.ms with e|e <;> rw [e] <;> lia) (by rw [h.pl];exact hn)]
  dsimp only
  rw [e2,hl]
  unfold SetTable.orStandIn
  rw [if_pos hf,hf]
  rfl
 ·rw [insertAt_map,he]
  apply Array.toList_inj.mp
  rw [insertAt_list,insertAt_list,List.map_append,List.map_cons,List.map_take,List.map_drop]
  rfl
end L2

namespace L2
open PySem
theorem five_of (ns:List Nat) (h:ns.Pairwise (· < ·)) (k:∀x∈ns,x<6) (h5:ns.length=5):ns∈[[1,2,3,4,5],[0,2,3,4,5],[0,1,3,4,5],[0,1,2,4,5],[0,1,2,3,5],[0,1,2,3,4]]:=by
 match ns,h5 with
 | [a,b,c,d,e],_ =>
  simp only [List.pairwise_cons,List.mem_cons,List.not_mem_nil,or_false,forall_eq_or_imp,forall_eq] at h k
  obtain ⟨⟨h1,_,_,_⟩,⟨h2,_,_⟩,⟨h3,_⟩,h4,_⟩:=h
  obtain ⟨_,_,_,_,k5⟩:=k
  simp only [List.mem_cons,List.cons.injEq,List.not_mem_nil,and_true,or_false]
  omega
theorem TabI.relay {t:SetTable}{ns:List Nat}{es:Array (Int × Value)}(h:TabI t ns) (h5:ns.length=5) (he:es.map (·.1)=(ns.map Int.ofNat).toArray) :
  ∃t',relayAll t es (SetTable.grown es.size)=(es,t',false)∧TabI t' ns∧t'.led=t.led∧t'.mask=31:=by
 have hz:es.size=5:=by have:=congrArg Array.size he;rw [←h5];simpa using this
 obtain ⟨t',e,pl,dm,ms,ld,pn⟩:=lay_five (f:=t.finger) (mv:=t.movedTo 31) (led:=t.led) (pl:=t.plain) ns (five_of ns h.up h.lt h5)
 have T:TabI t' ns:=⟨pl,h.up,h.lt,dm,pn.trans h.pn,.inr ms⟩
 refine⟨t',?_,T,ld,ms⟩
 have e':t.relaid (es.map (·.1)) (SetTable.grown es.size)=some (t',#[0,1,2,3,4]):=by rw [he,hz];exact e
 have ee:(#[0,1,2,3,4]:Array Nat).filterMap (es[·]?)=es:=by
  obtain ⟨l⟩:=es
  match l,hz with
  | [a,b,c,d,e],_=>rfl
 unfold relayAll
 rw [e']
 dsimp only
 rw [ee,hz,←h5,T.fits,h5]
 rfl
end L2

namespace L2
open PySem PySem.Spec PyProof.Rows
structure SI (b:Bool) (o:Obj) (es:Array (Int × Value)) (ep:Nat) (t:SetTable) (ns:List Nat):Prop where
 ex:o.ExactSet
 dt:o.data=.set es ep t
 tb:TabI t ns
 ks:es.map (·.1)=(ns.map Int.ofNat).toArray
 vs:∀e∈es.toList,∃τ,e.2=.int e.1 τ
 ld:t.led=!b
 fw:t.mask=7→ns.length≤4
def SmS (b:Bool) (h:Heap) (a:Addr) (ns:List Nat):Prop:=∃o es ep t,h.get? a=some o∧SI b o es ep t ns
theorem hash_small:∀j:Nat,j<6→hashInt (j:Int)=(j:Int):=by decide
section
variable {b:Bool}{o:Obj}{es:Array (Int × Value)}{ep:Nat}{t:SetTable}{ns:List Nat}
theorem SI.size (I:SI b o es ep t ns):es.size=ns.length:=by have:=congrArg Array.size I.ks;simpa using this
theorem SI.fits (I:SI b o es ep t ns):t.fits es.size=true:=by rw [I.size];exact I.tb.fits
theorem SI.keys (I:SI b o es ep t ns):es.toList.map (·.1)=ns.map Int.ofNat:=by
 have:=congrArg Array.toList I.ks
 simpa using this
theorem SI.mem (I:SI b o es ep t ns) {e:Int × Value}(he:e∈es.toList):∃j,j∈ns∧e.1=(j:Int):=by
 have:e.1∈es.toList.map (·.1):=List.mem_map_of_mem he
 rw [I.keys] at this
 obtain ⟨j,hj,e1⟩:=List.mem_map.mp this
 exact⟨j,hj,e1.symm⟩
theorem SI.there (I:SI b o es ep t ns) {j:Nat}(hj:j∈ns):∃e∈es.toList,e.1=(j:Int):=by
 have:(j:Int)∈ns.map Int.ofNat:=List.mem_map_of_mem (f:=Int.ofNat) hj
 rw [←I.keys] at this
 obtain ⟨e,he,e1⟩:=List.mem_map.mp this
 exact⟨e,he,e1⟩
theorem SI.elems (I:SI b o es ep t ns) {prog:Program}{w:World}:ElemsOf (intKind prog w) es.toList:=fun e he=>by
 obtain ⟨j,hj,e1⟩:=I.mem he
 obtain ⟨τ,e2⟩:=I.vs e he
 refine⟨⟨e.1,by rw [e2];exact intKind_is _ _ _ _,?_⟩,by rw [e2];rfl⟩
 rw [e1]
 exact (hash_small j (I.tb.lt j hj)).symm
end
section
variable {prog:Program}{w:World}{A:Around}{E:Value→Shared→Prop}{s:Shared}
theorem put_at {S:Addr}{h:Heap}{o:Obj}{es es':Array (Int × Value)}{ep:Nat}{t t':SetTable}(ho:h.get? S=some o) (hd:o.data=.set es ep t):(h.update S (Obj.putSet es' t')).get? S=some { o with data:=.set es' (ep+1) t' }:=by
 have:=Heap.get?_update_self (Obj.putSet es' t') ho (by rw [putSet_of _ t' hd];rfl)
 rw [putSet_of _ t' hd] at this
 exact this
theorem add_small {S:Addr}{b:Bool}{ns:List Nat}{k:Nat}{τ:Tok}{Q:Bool→Shared→Prop}(hS:SmS b s.heap S ns) (hk:k<6)
  (h:∀h' r ns',Heap.SameBut S s.heap h'→SmS b h' S ns'→(∀j,j∈ns'↔j∈ns∨j=k)→Q r { s with heap:=h' }) :
  wpAny (model prog w) A (setAddHashed S (.int (k:Int) τ) (hashInt (k:Int))) Q E s:=by
 obtain ⟨o,es,ep,t,ho,I⟩:=hS
 have hel:=I.elems (prog:=prog) (w:=w)
 have hz:=I.size
 have hl:=I.tb.len
 have hsz:es.size<scanBound:=by unfold scanBound;lia
 unfold setAddHashed setAddHashedIn
 refine wpAny_holding (wpAny_bind (wpAny_setState_of ho I.dt I.fits ?_))
 dsimp only
 rw [byScan_of (knd:=intKind prog w) (x:=.int (k:Int) τ) rfl hsz hel,if_pos rfl]
 unfold setAddByScan
 refine wpAny_bind ?_
 refine wpAny_bind (wpAny_rule ?_)
 refine wpAny_bind (wpAny_setScan_of (knd:=intKind prog w) (k:=(k:Int)) (intKind_is _ _ _ _) ho I.dt I.fits hel ?_)
 cases hr:List.findIdx? (fun e=>(intKind prog w).is (k:Int) e.2) es.toList with
 | some j =>
  dsimp only
  obtain ⟨hj,hpj,_⟩:=List.findIdx?_eq_some_iff_getElem.mp hr
  have hm:=List.getElem_mem hj
  obtain ⟨i,hi,e1⟩:=I.mem hm
  obtain ⟨τ',e2⟩:=I.vs _ hm
  have hik:i=k:=by
   rw [e2,e1] at hpj
   have:=(intKind prog w).inj _ _ _ hpj (intKind_is _ _ _ _)
   lia
  have hkn:k∈ns:=hik ▸ hi
  refine wpAny_pure (wpAny_pure ?_)
  have:=h s.heap false ns (Heap.SameBut.refl S s.heap) ⟨o,es,ep,t,ho,I⟩ fun j'=>⟨.inl,fun c=>c.elim id fun c=>c ▸ hkn⟩
  cases s
  exact this
 | none =>
  dsimp only
  have hkn:k ∉ ns:=fun hk'=>by
   obtain ⟨e,he,e1⟩:=I.there hk'
   obtain ⟨τ',e2⟩:=I.vs e he
   have:=List.findIdx?_eq_none_iff.mp hr e he
   rw [e2,e1,intKind_is] at this
   exact Bool.noConfusion this
  obtain ⟨es1,t1,ns1,eL,T1,l1,m1,p1,k1,q1⟩:=I.tb.lay (es:=es) (x:=.int (k:Int) τ) hk hkn I.ks
  rw [hash_small k hk,eL]
  dsimp only
  refine wpAny_bind (wpAny_pure ?_)
  rw [T1.pn,if_pos rfl]
  refine wpAny_bind ?_
  rw [hashByValue_scannable 8 (x:=.int (k:Int) τ) rfl]
  refine wpAny_pure ?_
  simp only [show plainKind (Value.int (k:Int) τ)=true from rfl,↓reduceIte]
  have hpl:=p1.length_eq
  rw [List.length_cons] at hpl
  have hl1:=T1.len
  have hz1:es1.size=ns1.length:=by have:=congrArg Array.size k1;simpa using this
  have hm1:∀j,j∈ns1↔j∈ns∨j=k:=fun j=>by
   rw [p1.mem_iff,List.mem_cons]
   exact⟨fun c=>c.elim .inr .inl,fun c=>c.elim .inr .inl⟩
  have hv1:∀e∈es1.toList,∃τ,e.2=.int e.1 τ:=fun e he=>by
   rcases List.mem_cons.mp (q1.mem_iff.mp he) with c|c
   ·subst c;exact⟨τ,rfl⟩
   ·exact I.vs e c
  show wpAny _ _ (storeSet S es1 t1 >>= _) _ _ _
  refine wpAny_bind (wpAny_storeSet_of ho I.dt ?_ (by rw [sizeLine_eq];lia))
  have hg:=put_at (es':=es1) (t':=t1) ho I.dt
  have sb:=Heap.SameBut.update s.heap S (Obj.putSet es1 t1)
  show wpAny _ _ (if (!false && t1.tooFull)=true then _ else _) _ _ _
  have hfill:t1.fill=ns1.length:=by unfold SetTable.fill;rw [T1.pl,T1.dm];simp
  have hfm:=I.fw
  rw [←m1] at hfm
  by_cases hf:t1.tooFull=true
  ·rw [if_pos (show (!false && t1.tooFull)=true by rw [hf];rfl)]
   unfold SetTable.tooFull at hf
   rw [decide_eq_true_eq,hfill] at hf
   have h5:ns1.length=5:=by rcases T1.ms with c|c <;> rw [c] at hf hfm <;> simp at hfm <;> lia
   obtain ⟨t2,e3,T2,l2,m2⟩:=T1.relay (es:=es1) h5 k1
   rw [e3]
   dsimp only
   refine wpAny_bind (wpAny_pure ?_)
   refine wpAny_bind (wpAny_storeSet_of hg rfl ?_ (by rw [sizeLine_eq];lia))
   refine wpAny_pure (wpAny_pure ?_)
   refine h _ _ ns1 (sb.trans (Heap.SameBut.update _ S _)) ⟨_,es1,_,t2,put_at hg rfl,I.ex,rfl,T2,k1,hv1,(l2.trans l1).trans I.ld,fun c=>?_⟩ hm1
   rw [m2] at c
   exact absurd c (by decide)
  ·rw [Bool.not_eq_true] at hf
   rw [if_neg (show ¬(!false && t1.tooFull)=true by rw [hf];decide)]
   refine wpAny_pure (wpAny_pure ?_)
   refine h _ _ ns1 sb ⟨_,es1,_,t1,hg,I.ex,rfl,T1,k1,hv1,l1.trans I.ld,fun c=>?_⟩ hm1
   unfold SetTable.tooFull at hf
   rw [decide_eq_false_iff_not,hfill,c] at hf
   lia
end
end L2

namespace L2
open PySem PySem.Spec PyProof.Rows
def setNil (b:Bool):Obj:={ cls:=.type "set", dict:=none,data:=.set #[] 0 (.fresh 0 0 (!b)) }
theorem SmS.nil {h:Heap}{b:Bool}{a:Addr}(e:h.get? a=some (setNil b)):SmS b h a [] :=
 ⟨_,#[],0,_,e,⟨rfl,rfl,rfl⟩,rfl,⟨rfl,.nil,(fun x hx=>nomatch hx),rfl,rfl,.inl rfl⟩,by simp,fun e he=>by simp at he,rfl,fun _=>Nat.zero_le _⟩
theorem SmS.at {h h':Heap}{b:Bool}{a:Addr}{ns:List Nat}(x:SmS b h a ns) (k:∀o,h.get? a=some o→h'.get? a=some o):SmS b h' a ns:=by
 obtain ⟨o,es,ep,t,ho,I⟩:=x
 exact⟨o,es,ep,t,k _ ho,I⟩
section
variable {prog:Program}{w:World}{A:Around}{E:Value→Shared→Prop}{s:Shared}
theorem new_led (v:Value) {R:Value→Shared→Prop}(k:R (.ref s.heap.objs.size) { s with heap:=s.heap.push (setNil (w.params.followText "set-order")) }) :
  codeAny (model prog w) A (.call (.builtin "set.__new__") ⟨[.type "set", v],[]⟩) (wants R E) s:=by
 refine codeAny_of_tree (show wpAny _ A.in1 (do checkBuiltinCall "set.__new__" ⟨[.type "set", v],[]⟩;again (.builtin "set.__new__" ⟨[.type "set", v],[]⟩)) _ _ s from ?_)
 refine wpAny_bind (s:=s) (wpAny_of_eq (F.newCall_set_1 v) (wpAny_pure ⟨plainId_quiet F.plain_set_new _,codeAny_builtin F.entry_set_new ?_⟩))
 rw [Around.under_plainId F.plain_set_new _];unfold Builtin.«set.__new__» Builtin.Frozenset.newClass
 have hsub:=sub_set_self
 obtain ⟨hp,g,d,tk,os⟩:=s;dsimp only;wp_walk
 refine wpAny_askSetting (wpAny_pure ?_)
 dsimp only;simp only [newObj]
 exact wpAny_bind (wpAny_alloc (wpAny_pure (wpAny_pure k)))
end
section
variable {prog:Program}{w:World}{A:Around}{R:Result→Shared→Prop}{I:Addr}{fp wr:List Addr}{G:Array GenState→Array GenState→Prop}{n:Nat}{P:Nat→Value→Prop}{St:Nat→Shared→Prop}
theorem small_loop (W:WalksS prog w A.in1 I fp wr G n P St) (S:Addr) (hSf:S ∉ fp) {b:Bool}(val:Nat→Nat) (hval:∀i v,P i v→val i<6∧∃τ,v=.int (val i:Int) τ) :
  ∀(k i:Nat) (s:Shared) (ns:List Nat),n - i=k→i≤n→St i s→SmS b s.heap S ns→(∀j,j∈ns ↔ ∃m,m<i∧val m=j) →
   (∀s' ns',Moved (S::wr) G s s'→SmS b s'.heap S ns'→(∀j,j∈ns' ↔ ∃m,m<n∧val m=j)→R (.ok (.ret .none)) s') →
   codeAny (model prog w) A (.builtin "set.update.loop" ⟨[.ref S,.ref I],[]⟩) R s:=by
 have hw:S ∉ wr:=fun h=>hSf (W.sub _ h)
 have hb:∀c∈wr,c∈S::wr:=fun c hc=>List.mem_cons_of_mem _ hc
 intro k
 induction k with
 | zero =>
  intro i s ns hk hi hst hS hm hR
  obtain rfl:i=n:=by lia
  refine codeAny_builtin F.entry_set_update_loop (by
   rw [Around.under_plainId F.plain_set_update_loop _]
   show wpAny _ A.in1 (pyNext (.ref I) >>= _) _ _ s
   refine wpAny_bind (W.done s _ _ hst fun s' mv=>?_)
   show wpAny _ A.in1 (ret Value.none) _ _ s'
   exact wpAny_pure (hR s' ns (mv.mono hb) (hS.at fun o e=>mv.heap S o hw e) hm))
 | succ k ih =>
  intro i s ns hk hi hst hS hm hR
  have hlt:i<n:=by lia
  refine codeAny_builtin F.entry_set_update_loop ?_
  rw [Around.under_plainId F.plain_set_update_loop _];show wpAny _ A.in1 (pyNext (.ref I) >>= _) _ _ s
  refine wpAny_bind (W.item i s _ _ hlt hst fun v s' hP hst' mv=>?_)
  obtain ⟨h6,τ,rfl⟩:=hval i v hP
  have hS':SmS b s'.heap S ns:=hS.at fun o e=>mv.heap S o hw e
  show wpAny _ A.in1 (holding [Value.int (val i:Int) τ] (setAdd S (.int (val i:Int) τ)) >>= _) _ _ s'
  refine wpAny_bind (wpAny_holding ?_)
  unfold setAdd
  refine wpAny_holding (wpAny_bind ((intKind prog w).pyHash (k:=(val i:Int)) (intKind_is _ _ _ _) ?_))
  refine add_small (s:={ s' with toks:=s'.toks+1 }) hS' h6 fun h' r ns' sb hS2 hm2=>?_
  refine wpAny_pure ⟨plainId_quiet F.plain_set_update_loop _,ih (i+1) _ ns' (by lia) hlt (W.frame _ s' _ _ hst' (Nat.le_succ _) fun c hc o e=>?_) hS2 (fun j=>?_) fun s'' ns'' mv'' hS'' hm''=>?_⟩
  ·rw [sb.2 c (fun h:c=S=>hSf (h ▸ hc))];exact e
  ·rw [hm2,hm]
   constructor
   ·rintro (⟨m,h1,h2⟩|rfl)
    ·exact⟨m,by lia,h2⟩
    ·exact⟨i,by lia,rfl⟩
   ·rintro ⟨m,h1,h2⟩
    by_cases e:m=i
    ·subst e;exact .inr h2.symm
    ·exact .inl ⟨m,by lia,h2⟩
  ·refine hR s'' ns'' (Moved.trans W.gtrans ((mv.mono hb).then_heap (Nat.le_succ _) fun c o hc e=>?_) mv'') hS'' hm''
   rw [sb.2 c (fun h:c=S=>hc (by rw [h];exact List.mem_cons_self))];exact e
end
section
variable {prog:Program}{w:World}{A:Around}{E:Value→Shared→Prop}{s:Shared}
theorem sub_tuple_set:isSubtype (.type "tuple") (.type "set")=pure false:=by rw [isSubtype_type];kernel_rfl
theorem sub_tuple_frozenset:isSubtype (.type "tuple") (.type "frozenset")=pure false:=by rw [isSubtype_type];kernel_rfl
theorem call_set_small {l:Addr}{items:Array Value}{us:List Nat}{Q:Value→Shared→Prop}(hh:A.handled=none) (hl:s.heap.IsTuple l items) (hi:IntsAre items.toList (us.map Int.ofNat)) (h6:∀j∈us,j<6)
  (k:∀(h':Heap) (tk:Nat) (ns:List Nat),SmS (w.params.followText "set-order") h' s.heap.objs.size ns→(∀j,j∈ns↔j∈us) →
   (∀c o,c<s.heap.objs.size→s.heap.get? c=some o→h'.get? c=some o)→Q (.ref s.heap.objs.size) { s with heap:=h',toks:=tk }) :
  wpAny (model prog w) A (call (.type "set") [.ref l]) Q E s:=by
 have hsz:items.size=us.length:=by have:=IntsAre.length hi;simpa using this
 obtain ⟨cs,tl,hmro⟩:=F.called_set.mro
 have hmade:=F.called_set.made
 have hsub:=F.called_set.sub
 refine wpAny_call (codeAny_of_tree (show wpAny _ _ (callAny (.type "set") _) _ _ _ from ?_))
 refine wpAny_pure ⟨Code.quiet_builtin _ (by decide +kernel),codeAny_builtin F.entry_type_call ?_⟩
 rw [Around.under_plain (weight_type_call_type "set" [.ref l] []) rfl]
 have h1:=F.called_set.notType
 have h2:=F.called_set.canCreate
 have hct:=F.typeCall_set_1 (.ref l)
 repeat (any_goals (first|assumption|wp_step))
 refine codeAny_mono (new_led (.ref l) (E:=E) (R:=fun ob s1=>ob=.ref s.heap.objs.size∧s1={ s with heap:=s.heap.push (setNil (w.params.followText "set-order")) }) ⟨rfl,rfl⟩) fun r s1 hr=>?_
 generalize w.params.followText "set-order" = b at k hr
 cases r with
 | error e=>exact hr
 | ok fl =>
  cases fl with
  | ret ob =>
   obtain ⟨rfl,rfl⟩:=hr
   have hS:(s.heap.push (setNil b)).get? s.heap.objs.size=some (setNil b):=Heap.get?_push_size _ rfl
   have hTy:Shared.TypeIs { s with heap:=s.heap.push (setNil b) } (.ref s.heap.objs.size) "set" := ⟨_,hS,rfl⟩
   have hli:=F.called_set.init.lookup
   have hbi:=F.called_set.init.bind (.ref s.heap.objs.size)
   repeat (any_goals (first|assumption|wp_step))
   refine codeAny_mono (codeAny_call_builtin (R:=wants (fun r s2=>r=.none∧∃h' tk ns,s2={ s with heap:=h',toks:=tk }∧SmS b h' s.heap.objs.size ns∧(∀j,j∈ns↔j∈us) ∧
     (∀c o,c<s.heap.objs.size→s.heap.get? c=some o→h'.get? c=some o)) E) F.called_set.init.plain F.entry_set_init (check_set_init_1 hTy ?_)) fun r2 s2 hr2=>?_
   ·obtain ⟨ol,hol,hcl,nl,hdl⟩:=hl
    obtain ⟨ocls,odict,odata,oslots⟩:=ol
    simp only at hcl hdl
    subst hcl;subst hdl
    have hol':(s.heap.push (setNil b)).get? l=some { cls:=.type "tuple", dict:=odict,data:=.seq items nl,slots:=oslots }:=Heap.get?_push_of_some _ hol
    have hsls:=sub_tuple_set
    have hslf:=sub_tuple_frozenset
    have hne:(Value.type "tuple" == Value.type "dict")=false:=by decide
    have hl1:(s.heap.push (setNil b)).IsTuple l items:=⟨_,hol',rfl,nl,rfl⟩
    unfold Builtin.«set.__init__» noKeywords Builtin.Frozenset.updateFrom
    generalize hPI:pyIter=PI
    wp_walk
    subst hPI
    refine wpAny_pyIter_tuple hl1 (wpAny_bind (wpAny_runValue ?_))
    have hlS:l<s.heap.objs.size:=Heap.lt_size hol
    have hh3:A.in1.in1.in1.handled=none:=by simp [hh]
    have hneI:l≠(s.heap.push (setNil b)).objs.size:=by rw [Heap.size_push];exact Nat.ne_of_lt (Nat.lt_succ_of_lt hlS)
    have hSf:s.heap.objs.size ∉ [(s.heap.push (setNil b)).objs.size,l]:=by
     rw [Heap.size_push];simp only [List.mem_cons,List.not_mem_nil,or_false,not_or]
     exact⟨Nat.ne_of_lt (Nat.lt_succ_self _),Nat.ne_of_gt hlS⟩
    refine small_loop ((Walks.tuple hh3 _ l hneI items).toS) s.heap.objs.size hSf (b:=b) (fun i=>us.getD i 0) (fun i v hv=>?hv) (items.size - 0) 0 _ [] (by lia) (Nat.zero_le _)
     ⟨⟨_,Heap.get?_push_size _ rfl,rfl,rfl⟩,(hl1.push _)⟩ (SmS.nil (Heap.get?_push_of_some _ hS)) (fun j=>?h0) ?hR
    case hv =>
     obtain ⟨τ,e⟩:=IntsAre.int_at hi i v (by rw [Array.getElem?_toList];exact hv)
     have hil:i<us.length:=by rw [←hsz];exact (Array.getElem?_eq_some_iff.mp hv).1
     refine⟨?_,τ,?_⟩
     ·show us.getD i 0<6
      rw [List.getD_eq_getElem?_getD,List.getElem?_eq_getElem hil]
      exact h6 _ (List.getElem_mem hil)
     ·rw [e]
      congr 1
      rw [List.getD_eq_getElem?_getD,List.getD_eq_getElem?_getD,List.getElem?_map,List.getElem?_eq_getElem hil]
      rfl
    case h0 =>
     constructor
     ·intro h;cases h
     ·rintro ⟨m,hm,_⟩;exact absurd hm (Nat.not_lt_zero _)
    case hR =>
     intro s' ns hm hS' hmem
     obtain ⟨h',g',d',tk',os'⟩:=s'
     obtain rfl:g'=s.gens:=hm.gens
     obtain rfl:d'=s.drawn:=hm.drawn
     obtain rfl:os'=s.os:=hm.os
     show wpAny _ _ _ _ _ _
     refine wpAny_pure ?_
     show wpAny _ _ (ret Value.none) _ _ _
     refine wpAny_pure ⟨rfl,h',tk',ns,rfl,hS',fun j=>?_,fun c o hc e=>?_⟩
     ·rw [hmem]
      constructor
      ·rintro ⟨m,hm',rfl⟩
       rw [hsz] at hm'
       show us.getD m 0∈us
       rw [List.getD_eq_getElem?_getD,List.getElem?_eq_getElem hm']
       exact List.getElem_mem hm'
      ·intro hj
       obtain ⟨m,hm',rfl⟩:=List.getElem_of_mem hj
       refine⟨m,by rw [hsz];exact hm',?_⟩
       show us.getD m 0=_
       rw [List.getD_eq_getElem?_getD,List.getElem?_eq_getElem hm']
       rfl
     ·have hb1:c≠s.heap.objs.size:=Nat.ne_of_lt hc
      have hb2:c≠(s.heap.push (setNil b)).objs.size:=by rw [Heap.size_push];exact Nat.ne_of_lt (Nat.lt_succ_of_lt hc)
      exact hm.heap c o (by simp only [List.mem_cons,List.not_mem_nil,or_false,not_or];exact⟨hb1,hb2⟩) (Heap.get?_push_of_some _ (Heap.get?_push_of_some _ e))
   ·cases r2 with
    | error e=>exact hr2
    | ok fl2 =>
     cases fl2 with
     | ret r =>
      obtain ⟨rfl,h',tk,ns,rfl,hS',hm',hk'⟩:=hr2
      repeat (any_goals (first|assumption|wp_step))
      exact k _ _ ns hS' hm' hk'
     | _=>exact hr2.elim
  | _=>exact hr.elim
end
end L2

namespace L2
open PySem PySem.Spec PyProof.Rows
theorem slot_si_next:Slot "set_iterator" "__next__" "set_iterator.__next__" :=
 .of (owner := "set_iterator") (n := "__next__") (by rw [typeLookup_type,builtinLookup_eq_fast];kernel_rfl) (by decide +kernel) (by decide +kernel) (by decide +kernel) (by first|exact .inl (by decide +kernel)|exact .inr (by decide +kernel)) (by rw [isSubtype_type];kernel_rfl)
theorem slot_si_iter:Slot "set_iterator" "__iter__" "set_iterator.__iter__" :=
 .of (owner := "set_iterator") (n := "__iter__") (by rw [typeLookup_type,builtinLookup_eq_fast];kernel_rfl) (by decide +kernel) (by decide +kernel) (by decide +kernel) (by first|exact .inl (by decide +kernel)|exact .inr (by decide +kernel)) (by rw [isSubtype_type];kernel_rfl)
theorem entry_si_next:entryFor table "set_iterator.__next__" = some Builtin.«set_iterator.__next__» := entryFor_of_tree (by kernel_rfl)
theorem entry_si_iter:entryFor table "set_iterator.__iter__" = some Builtin.«dict_keyiterator.__iter__» := entryFor_alias (id' := "dict_keyiterator.__iter__") (by kernel_rfl) rfl (by decide +kernel) (by kernel_rfl)
theorem entry_s_iter:entryFor table "set.__iter__" = some Builtin.«frozenset.__iter__» := entryFor_alias (id' := "frozenset.__iter__") (by kernel_rfl) rfl (by decide +kernel) (by kernel_rfl)
theorem owner_si:Manifest.owners.lookup (String.ofList ['r', 'o', 't', 'a', 'r', 'e', 't', 'i', '_', 't', 'e', 's'].reverse)=some Manifest.sig_set_iterator:=by kernel_rfl
theorem args_si_next (a:Value):argsOk "set_iterator.__next__" ⟨[a],[]⟩:=by
 unfold argsOk;rw [signature?_of (id := "set_iterator.__next__") (n:=['_', '_', 't', 'x', 'e', 'n', '_', '_']) (o:=['r', 'o', 't', 'a', 'r', 'e', 't', 'i', '_', 't', 'e', 's']) (by kernel_rfl) owner_si];kernel_rfl
theorem args_si_iter (a:Value):argsOk "set_iterator.__iter__" ⟨[a],[]⟩:=by
 unfold argsOk;rw [signature?_of (id := "set_iterator.__iter__") (n:=['_', '_', 'r', 'e', 't', 'i', '_', '_']) (o:=['r', 'o', 't', 'a', 'r', 'e', 't', 'i', '_', 't', 'e', 's']) (by kernel_rfl) owner_si];kernel_rfl
abbrev byT (w:World):Bool:=w.params.followText "set-order"
def walkL (w:World) (a:Addr) (ep:Nat) (es:Array (Int × Value)):Array (Int × Value):=if byT w=true then pickOrder (w.params.setOrder a ep) es else es
theorem walk_perm {w:World}{a:Addr}{ep:Nat}{es:Array (Int × Value)}:(walkL w a ep es).toList.Perm es.toList:=by
 unfold walkL
 split
 ·exact pick_perm _ _
 ·exact List.Perm.refl _
def slotL (b:Bool) (ns:List Nat) (i:Nat):Nat:=if b=true then 0 else if i=0 then 0 else ns.getD (i - 1) 0+1
section
variable {prog:Program}{w:World}{A:Around}{E:Value→Shared→Prop}{s:Shared}
theorem below_at {ns:List Nat}(up:ns.Pairwise (· < ·)) {i:Nat}(hi:i≤ns.length):SetTable.below ns.toArray (slotL false ns i)=i:=by
 have mo:∀a b (ha:a<ns.toArray.size) (hb:b<ns.toArray.size),a<b→ns.toArray[a]<ns.toArray[b]:=fun a b ha hb h=>by
  simpa using List.pairwise_iff_getElem.mp up a b (by simpa using ha) (by simpa using hb) h
 unfold slotL
 rw [if_neg (by decide)]
 by_cases h0:i=0
 ·rw [if_pos h0,h0];exact below_zero mo
 ·rw [if_neg h0]
  have hl:i - 1<ns.toArray.size:=by rw [List.size_toArray];lia
  have e:=below_next mo hl
  have e2:ns.getD (i - 1) 0=ns.toArray[i - 1]:=by
   rw [List.getD_eq_getElem?_getD,List.getElem?_eq_getElem (by simpa using hl)];simp
  rw [e2,e]
  lia
theorem ask_text {Q:Bool→Shared→Prop}(k:Q (byT w) s):wpAny (model prog w) A setsByText Q E s:=by
 unfold setsByText
 exact wpAny_bind (wpAny_askSetting (wpAny_pure k))
theorem set_next {a:Addr}{o:Obj}{es:Array (Int × Value)}{ep:Nat}{t:SetTable}{ns:List Nat}{i:Nat}{Q:Option (Value × Nat)→Shared→Prop}(ho:s.heap.get? a=some o) (I:SI (byT w) o es ep t ns) (hi:i≤ns.length)
  (k:Q (((walkL w a ep es)[i]?).map fun e=>(e.2,slotL (byT w) ns (i+1))) s):wpAny (model prog w) A (setNext a (slotL (byT w) ns i) i ep) Q E s:=by
 have hf:=I.fits
 have hz:=I.size
 unfold setNext
 refine wpAny_bind (wpAny_setState_of ho I.dt hf ?_)
 dsimp only
 refine wpAny_bind (ask_text ?_)
 show wpAny _ _ (if byT w=true then _ else _) _ _ _
 by_cases hb:byT w=true
 ·rw [if_pos hb]
  show wpAny _ _ (if (ep != ep)=true then _ else _) _ _ _
  rw [if_neg (by simp)]
  refine wpAny_bind (m:=setWalk a) ?_
  unfold setWalk
  refine wpAny_bind (wpAny_setState_of ho I.dt hf ?_)
  dsimp only
  refine wpAny_bind (ask_text ?_)
  show wpAny _ _ (if byT w=true then _ else _) _ _ _
  rw [if_pos hb]
  refine wpAny_bind (wpAny_askSetting (wpAny_pure (wpAny_pure ?_)))
  have e1:walkL w a ep es=pickOrder (w.params.setOrder a ep) es:=if_pos hb
  have e2:∀j,slotL (byT w) ns j=0:=fun j=>if_pos hb
  rw [e1,e2] at k
  rw [e2]
  exact k
 ·rw [if_neg hb]
  have hbf:byT w=false:=by simpa using hb
  have hld:t.led=true:=by rw [I.ld,hbf];rfl
  show wpAny _ _ (if (!t.plain && decide (es.size > 1))=true then _ else _) _ _ _
  rw [I.tb.pn,if_neg (by simp)]
  refine wpAny_bind (show wpAny _ _ (if (!t.led && !es.isEmpty)=true then _ else _) _ _ _ from ?_)
  rw [hld,if_neg (by simp)]
  refine wpAny_pure ?_
  have e1:walkL w a ep es=es:=if_neg hb
  rw [e1] at k
  refine wpAny_pure ?_
  rw [hbf] at k ⊢
  rw [I.tb.pl,below_at I.tb.up hi]
  by_cases hl:i<ns.length
  ·have h1:es[i]? = some es[i]:=Array.getElem?_eq_getElem (by lia)
   have h2:ns.toArray[i]? = some ns[i]:=by rw [List.getElem?_toArray,List.getElem?_eq_getElem hl]
   rw [h1] at k ⊢
   rw [h2]
   have e3:slotL false ns (i+1)=ns[i]+1:=by
    unfold slotL
    rw [if_neg (by decide),if_neg (by lia),Nat.add_sub_cancel,List.getD_eq_getElem?_getD,List.getElem?_eq_getElem hl]
    rfl
   rw [e3] at k
   exact k
  ·have h1:es[i]? = none:=Array.getElem?_eq_none (by lia)
   rw [h1] at k ⊢
   exact k
end
end L2

namespace L2
open PySem PySem.Spec PyProof.Rows
def SIt (h:Heap) (I S:Addr) (sl i n ep:Nat):Prop:=∃o,h.get? I=some o∧o.cls=.type "set_iterator" ∧ o.data=.fields #[.int (sl:Int) 0,.int (i:Int) 0,.ref S,.int (n:Int) 0,.int (ep:Int) 0]
theorem SIt.at {h h':Heap}{I S:Addr}{sl i n ep:Nat}(x:SIt h I S sl i n ep) (k:∀o,h.get? I=some o→h'.get? I=some o):SIt h' I S sl i n ep:=by
 obtain ⟨o,ho,r⟩:=x
 exact⟨o,k _ ho,r⟩
structure SWalk (w:World) (S I:Addr) (o:Obj) (es:Array (Int × Value)) (ep:Nat) (t:SetTable) (ns:List Nat) (i:Nat) (h:Heap):Prop where
 hs:h.get? S=some o
 si:SI (byT w) o es ep t ns
 it:SIt h I S (slotL (byT w) ns i) i ns.length ep
section
variable {prog:Program}{w:World}{A:Around}{E:Value→Shared→Prop}{s:Shared}
theorem si_item {S I:Addr}{o:Obj}{es:Array (Int × Value)}{ep:Nat}{t:SetTable}{ns:List Nat}{i:Nat}{e:Int × Value}{Q:Option Value→Shared→Prop}(hne:S≠I) (W:SWalk w S I o es ep t ns i s.heap) (hi:i<ns.length) (he:(walkL w S ep es)[i]? = some e)
  (k:∀h',SWalk w S I o es ep t ns (i+1) h'→Heap.ExtBut I s.heap h'→Q (some e.2) { s with heap:=h' }):wpAny (model prog w) A (pyNext (.ref I)) Q E s:=by
 obtain ⟨hs,si,oi,hoi,hci,hdi⟩:=W
 have hT:s.TypeIs (.ref I) "set_iterator" := ⟨oi,hoi,hci⟩
 unfold pyNext
 refine wpAny_bind (wpAny_attempt (wpAny_callSpecial?_slot (name:=Str.ofString "__next__") hT slot_si_next (wpAny_call_entry slot_si_next hT entry_si_next ?_ (args_si_next _))))
 unfold Builtin.«set_iterator.__next__»
 refine wpAny_bind (m:=slotArgs "__next__" 0 _) (wpAny_pure ?_)
 refine wpAny_bind (wpAny_fieldsOf hoi hdi ?_)
 show wpAny _ _ (setEntries S >>= _) _ _ s
 refine wpAny_bind (wpAny_setEntries_of hs si.dt si.fits ?_)
 rw [si.size,if_neg (by simp)]
 show wpAny _ _ (setNext S (Int.toNat (slotL (byT w) ns i:Nat)) (Int.toNat (i:Nat)) (Int.toNat (ep:Nat)) >>= _) _ _ s
 rw [Int.toNat_natCast,Int.toNat_natCast,Int.toNat_natCast]
 refine wpAny_bind (set_next hs si (Nat.le_of_lt hi) ?_)
 rw [he]
 dsimp only [Option.map]
 refine wpAny_bind (wpAny_setField hoi hdi (by simp) ?_)
 have h1:=Heap.get?_update_self (Obj.mapFields (·.setIfInBounds 0 (rawInt (slotL (byT w) ns (i+1):Nat)))) hoi (Obj.isFreed_of_fields (Obj.data_mapFields hdi _))
 have hd1:=Obj.data_mapFields hdi (·.setIfInBounds 0 (rawInt (slotL (byT w) ns (i+1):Nat)))
 refine wpAny_bind (wpAny_setField h1 hd1 (by simp) (wpAny_pure ⟨e.2,rfl,wpAny_pure (k _ ⟨?_,si,?_⟩ ?_)⟩))
 ·exact (Heap.get?_update_other _ _ hne.symm).trans ((Heap.get?_update_other _ _ hne.symm).trans hs)
 ·refine⟨_,Heap.get?_update_self _ h1 (Obj.isFreed_of_fields (Obj.data_mapFields hd1 _)),(Obj.cls_mapFields ..).trans ((Obj.cls_mapFields ..).trans hci),?_⟩
  rw [Obj.data_mapFields hd1]
  simp [rawInt]
 ·exact fun c o' hc e'=>(Heap.get?_update_other _ _ (Ne.symm hc)).trans ((Heap.get?_update_other _ _ (Ne.symm hc)).trans e')
theorem si_end {S I:Addr}{o:Obj}{es:Array (Int × Value)}{ep:Nat}{t:SetTable}{ns:List Nat}{Q:Option Value→Shared→Prop}(hh:A.handled=none) (W:SWalk w S I o es ep t ns ns.length s.heap)
  (k:∀h',Heap.ExtBut I s.heap h'→Q none { s with heap:=h' }):wpAny (model prog w) A (pyNext (.ref I)) Q E s:=by
 obtain ⟨hs,si,oi,hoi,hci,hdi⟩:=W
 have hT:s.TypeIs (.ref I) "set_iterator" := ⟨oi,hoi,hci⟩
 have hwn:(walkL w S ep es)[ns.length]? = none:=by
  have:=(walk_perm (w:=w) (a:=S) (ep:=ep) (es:=es)).length_eq
  rw [Array.length_toList,Array.length_toList,si.size] at this
  exact Array.getElem?_eq_none (by lia)
 unfold pyNext
 refine wpAny_bind (wpAny_attempt (wpAny_callSpecial?_slot (name:=Str.ofString "__next__") hT slot_si_next (wpAny_call_entry slot_si_next hT entry_si_next ?_ (args_si_next _))))
 unfold Builtin.«set_iterator.__next__»
 refine wpAny_bind (m:=slotArgs "__next__" 0 _) (wpAny_pure ?_)
 refine wpAny_bind (wpAny_fieldsOf hoi hdi ?_)
 show wpAny _ _ (setEntries S >>= _) _ _ s
 refine wpAny_bind (wpAny_setEntries_of hs si.dt si.fits ?_)
 rw [si.size,if_neg (by simp)]
 show wpAny _ _ (setNext S (Int.toNat (slotL (byT w) ns ns.length:Nat)) (Int.toNat (ns.length:Nat)) (Int.toNat (ep:Nat)) >>= _) _ _ s
 rw [Int.toNat_natCast,Int.toNat_natCast,Int.toNat_natCast]
 refine wpAny_bind (set_next hs si (Nat.le_refl _) ?_)
 rw [hwn]
 dsimp only [Option.map]
 refine wpAny_bind (wpAny_setField hoi hdi (by simp) ?_)
 show wpAny _ _ (newExc (.type "StopIteration") [] >>= _) _ _ _
 refine wpAny_bind ?_
 simp only [newExc,newTuple]
 refine wpAny_bind (wpAny_newObj_type ?_ (by size_fits))
 refine wpAny_bind (m:=firstArgMember _ _) (wpAny_of_eq (a:=Value.none) (by first|rfl|(simp only [firstArgMember];rfl)) (wpAny_newObj_type ?_ (by size_fits)))
 simp only [raiseNew]
 refine wpAny_bind (wpAny_handled ?_)
 first|rw [show A.in1.handled=none from hh]|rw [hh]
 refine wpAny_bind (wpAny_pure (wpAny_throw ?_));refine wpAny_bind (wpAny_isInstance (T := "StopIteration") (b:=true) ⟨_,Heap.get?_push_size _ rfl,rfl⟩ isSubtype_stop ?_)
 exact wpAny_pure (k _ (((Heap.SameBut.update ..).extBut.push _).push _))
theorem si_self {I:Addr}{Q:Value→Shared→Prop}(hT:s.TypeIs (.ref I) "set_iterator") (k:Q (.ref I) s):wpAny (model prog w) A (pyIter (.ref I)) Q E s:=by
 refine wpAny_pyIter_slot hT slot_si_iter (wpAny_call_entry slot_si_iter hT entry_si_iter ?_ (args_si_iter _))
 show wpAny _ _ (ret (.ref I)) _ _ s
 exact wpAny_pure ⟨_,rfl, "set_iterator", _,hT,slot_si_next.lookup,k⟩
theorem set_walks (hh:A.handled=none) {S I:Addr}(hne:S≠I) {o:Obj}{es:Array (Int × Value)}{ep:Nat}{t:SetTable}{ns:List Nat} :
  Walks prog w A I [I,S] [I] ns.length (fun i v=>((walkL w S ep es)[i]?).map (·.2)=some v) (fun i h=>SWalk w S I o es ep t ns i h) where
 sub:=fun b hb=>by simp at hb;simp [hb]
 frame:=fun i h h' st hk=>⟨hk S (by simp) _ st.hs,st.si,st.it.at fun o' e=>hk I (by simp) o' e⟩
 item:=fun i s Q E hi st hQ=>by
  have hl:=(walk_perm (w:=w) (a:=S) (ep:=ep) (es:=es)).length_eq
  rw [Array.length_toList,Array.length_toList,st.si.size] at hl
  have he:(walkL w S ep es)[i]? = some (walkL w S ep es)[i]:=Array.getElem?_eq_getElem (by lia)
  exact si_item hne st hi he fun h' W' x=>hQ _ h' s.toks (by rw [he];rfl) W' fun b o hb e=>x b o (fun h=>hb (by simp [h])) e
 done:=fun s Q E st hQ=>si_end hh st fun h' x=>hQ h' s.toks fun b o hb e=>x b o (fun h=>hb (by simp [h])) e
 self:=fun _ _ _ _ st hQ=>by
  obtain ⟨oi,hoi,hci,_⟩:=st.it
  exact si_self ⟨oi,hoi,hci⟩ hQ
end
end L2

namespace L2
open PySem PySem.Spec PyProof.Rows
section
variable {prog:Program}{w:World}{A:Around}{E:Value→Shared→Prop}{s:Shared}
theorem set_iter {S:Addr}{o:Obj}{es:Array (Int × Value)}{ep:Nat}{t:SetTable}{ns:List Nat}{Q:Value→Shared→Prop}(hs:s.heap.get? S=some o) (si:SI (byT w) o es ep t ns)
  (k:∀h',SWalk w S s.heap.objs.size o es ep t ns 0 h'→(∀b o',s.heap.get? b=some o'→h'.get? b=some o')→Q (.ref s.heap.objs.size) { s with heap:=h' }):wpAny (model prog w) A (pyIter (.ref S)) Q E s:=by
 have hT:s.TypeIs (.ref S) "set" := ⟨o,hs,si.ex.1⟩
 refine wpAny_pyIter_slot hT F.slot_set_iter (wpAny_call_entry F.slot_set_iter hT entry_s_iter ?_ (F.args_set_iter_1 _))
 unfold Builtin.«frozenset.__iter__» Builtin.Frozenset.slot0 slotArgs
 simp only [List.isEmpty_nil,Bool.not_true,Bool.false_eq_true,↓reduceIte,bind_assoc,List.length_nil,bne_self_eq_false]
 unfold Builtin.Frozenset.addrOf Builtin.Frozenset.sizeOf
 refine wpAny_bind (wpAny_pure (wpAny_bind (wpAny_pure ?_)))
 refine wpAny_bind (wpAny_bind (wpAny_setEntries_of hs si.dt si.fits (wpAny_pure ?_)))
 refine wpAny_bind (m:=setDrawn S) ?_
 unfold setDrawn
 refine wpAny_bind (wpAny_setState_of hs si.dt si.fits ?_)
 dsimp only
 refine wpAny_bind (ask_text ?_)
 refine wpAny_pure ?_
 have hd:(!byT w && (!t.plain && decide (es.size > 1)))=false:=by rw [si.tb.pn];simp
 show wpAny _ _ (if (!byT w && (!t.plain && decide (es.size > 1)))=true then _ else _) _ _ _
 rw [hd,if_neg (by decide)]
 refine wpAny_bind (wpAny_pure ?_)
 refine wpAny_bind (wpAny_setEpoch_of hs si.dt si.fits ?_)
 refine wpAny_bind (wpAny_newObj_type (wpAny_pure ⟨_,rfl, "set_iterator", _,⟨_,Heap.get?_push_size _ rfl,rfl⟩,slot_si_next.lookup,k _ ⟨Heap.get?_push_of_some _ hs,si,⟨_,Heap.get?_push_size _ rfl,rfl,?_⟩⟩ fun b o' e=>Heap.get?_push_of_some _ e⟩))
 have e0:slotL (byT w) ns 0=0:=by unfold slotL;split <;> rfl
 rw [e0,si.size]
 rfl
theorem hint_set {S:Addr}{o:Obj}{Q:Bool→Shared→Prop}(hs:s.heap.get? S=some o) (hc:o.cls=.type "set") (k:Q false s):wpAny (model prog w) A (Builtin.List.listLengthHint (.ref S)) Q E s:=by
 have hT:s.TypeIs (.ref S) "set" := ⟨o,hs,hc⟩
 unfold Builtin.List.listLengthHint
 refine wpAny_bind (wpAny_specialOf hT F.slot_set_len.lookup ?_)
 generalize hid:("set.__len__" : String)=id0
 wp_delta
 rw [show splitId id0=some ("set", "__len__") from by subst hid;decide +kernel]
 subst hid
 refine wpAny_bind (wpAny_isInstance (T := "set") (b:=true) hT sub_set_self ?_)
 refine wpAny_ite_split (fun z=>absurd z (by decide)) (fun _=>?_)
 refine wpAny_ite_split (fun _=>?_) (fun z=>absurd (by decide +kernel) z)
 refine wpAny_bind (wpAny_typeOf hT ?_)
 exact wpAny_pure k
theorem collect_set {S:Addr}{o:Obj}{es:Array (Int × Value)}{ep:Nat}{t:SetTable}{ns:List Nat}{Q:List Value→Shared→Prop}(hh:A.handled=none) (hs:s.heap.get? S=some o) (si:SI (byT w) o es ep t ns)
  (k:∀(h':Heap) (tk:Nat) (acc:Array Value),(∀b o',s.heap.get? b=some o'→h'.get? b=some o')→ItemsOf (fun i v=>((walkL w S ep es)[i]?).map (·.2)=some v) acc ns.length→Q acc.toList { s with heap:=h',toks:=tk }) :
  wpAny (model prog w) A (collect (.ref S)) Q E s:=by
 have hSl:S<s.heap.objs.size:=Heap.lt_size hs
 have hlen:=si.tb.len
 unfold collect
 refine wpAny_bind (wpAny_runValue (codeAny_builtin F.entry_proto_collect ?_))
 rw [Around.under_plainId F.plain_proto_collect _];show wpAny _ A.in1 (newList [] >>= fun z=>again (.builtin "list.__iadd__" ⟨[z,.ref S],[]⟩)) _ _ s
 refine wpAny_bind (wpAny_newObj_type (wpAny_pure ⟨plainId_quiet F.plain_list_iadd _,codeAny_builtin F.entry_list_iadd ?_⟩))
 rw [Around.under_plainId F.plain_list_iadd _];show wpAny _ A.in1 (Builtin.List.listExtendWith (.ref s.heap.objs.size) (.ref S) (.ref s.heap.objs.size)) _ _ _
 generalize hH:s.heap.push { cls:=.type "list", data:=.seq ([]:List Value).toArray }=H
 have hHz:H.objs.size=s.heap.objs.size+1:=by rw [←hH,Heap.size_push]
 have hS1:H.get? S=some o:=hH ▸ Heap.get?_push_of_some _ hs
 have hL1:H.get? s.heap.objs.size=some { cls:=.type "list", data:=.seq ([]:List Value).toArray }:=hH ▸ Heap.get?_push_size _ rfl
 have hold:∀b o',s.heap.get? b=some o'→H.get? b=some o':=fun b o' e=>hH ▸ Heap.get?_push_of_some _ e
 unfold Builtin.List.listExtendWith
 refine wpAny_bind (wpAny_typeOf (T := "set") ⟨o,hS1,si.ex.1⟩ ?_)
 have h1:Builtin.List.listSameRef (.ref s.heap.objs.size) (.ref S)=false:=by simp [Builtin.List.listSameRef];exact Nat.ne_of_gt hSl
 have h2:(Value.type "set" == Value.type "list")=false:=by decide
 have h3:(Value.type "set" == Value.type "tuple")=false:=by decide
 simp only [h1,h2,h3,Bool.or_false,Bool.false_eq_true,if_false]
 refine wpAny_bind (set_iter (s:={ s with heap:=H }) hS1 si fun h2 W hk=>?_)
 refine wpAny_bind (wpAny_holding (hint_set W.hs si.ex.1 ?_))
 refine wpAny_ite_split (fun _=>?_) (fun z=>absurd (by decide) z)
 refine wpAny_bind (wpAny_rule (wpAny_bind ?_))
 have hL2:=hk _ _ hL1
 show wpAny _ A.in1 (updateSeq s.heap.objs.size (·.push .none) >>= fun _=>updateSeq s.heap.objs.size (·.pop)) _ _ _
 refine wpAny_bind (wpAny_updateSeq hL2 rfl ?_)
 have hL3:=Heap.get?_update_self (Obj.mapSeq (·.push Value.none)) hL2 rfl
 refine wpAny_updateSeq (hz:=by seq_fits) hL3 rfl ?_
 have hL4:=Heap.get?_update_self (Obj.mapSeq (·.pop)) hL3 rfl
 have oth:∀b o',b≠s.heap.objs.size→h2.get? b=some o'→((h2.update s.heap.objs.size (Obj.mapSeq (·.push Value.none))).update s.heap.objs.size (Obj.mapSeq (·.pop))).get? b=some o' :=
  fun b o' hb e=>(Heap.get?_update_other _ _ (Ne.symm hb)).trans ((Heap.get?_update_other _ _ (Ne.symm hb)).trans e)
 have hIz:s.heap.objs.size≠H.objs.size:=by rw [hHz];exact Nat.ne_of_lt (Nat.lt_succ_self _)
 have hSI:S≠H.objs.size:=by rw [hHz];exact Nat.ne_of_lt (Nat.lt_succ_of_lt hSl)
 have hSf:s.heap.objs.size ∉ [H.objs.size,S]:=by
  simp only [List.mem_cons,List.not_mem_nil,or_false,not_or]
  exact⟨hIz,Nat.ne_of_gt hSl⟩
 refine wpAny_pure ⟨plainId_quiet F.plain_extend_loop _,codeAny_extend_loopS (set_walks (prog:=prog) (w:=w) (A:=A.in1) hh hSI (o:=o) (es:=es) (ep:=ep) (t:=t) (ns:=ns)).toS (by rw [sizeLine_eq];lia) _ hSf _ ns.length 0 _ _ _ rfl (Nat.zero_le _)
  ⟨oth _ _ (Nat.ne_of_lt hSl) W.hs,si,W.it.at fun o' e=>oth _ _ hIz.symm e⟩ hL4 (ItemsOf.nil _) fun s' acc c' hm hS' hacc=>?_⟩
 obtain ⟨h',g',d',tk',os'⟩:=s'
 obtain rfl:g'=s.gens:=hm.gens
 obtain rfl:d'=s.drawn:=hm.drawn
 obtain rfl:os'=s.os:=hm.os
 show wpAny _ A (load s.heap.objs.size >>= _) _ _ _
 refine wpAny_bind (wpAny_load hS' (wpAny_pure (k h' tk' acc (fun b o' e=>?_) hacc)))
 have hb:=Heap.lt_size e
 refine hm.heap b o' ?_ (oth b o' (Nat.ne_of_lt hb) (hk b o' (hold b o' e)))
 simp only [List.mem_cons,List.not_mem_nil,or_false,not_or]
 exact⟨Nat.ne_of_lt hb,by rw [hHz];exact Nat.ne_of_lt (Nat.lt_succ_of_lt hb)⟩
end
end L2

namespace L2
open PySem PySem.Spec PyProof.Rows PySem.W
theorem up_unique:∀{as bs:List Int},as.Perm bs→as.Pairwise (· ≤ ·)→bs.Pairwise (· ≤ ·)→as=bs:=fun p ha hb=>List.Perm.eq_of_pairwise (fun a b _ _ h1 h2=>Int.le_antisymm h1 h2) ha hb p
section
variable {prog:Program}{w:World}{A:Around}{E:Value→Shared→Prop}{s:Shared}
theorem any_sortedM {v:Value}{P:List Value→Prop}{Q:Value→Shared→Prop}(hcol:∀(A':Around) (Q:List Value→Shared→Prop),A'.handled=A.handled→(∀h' tk us,(∀b o,s.heap.get? b=some o→h'.get? b=some o)→P us→Q us { s with heap:=h',toks:=tk })→wpAny (model prog w) A' (collect v) Q E s)
  (hI:∀us,P us→us.length≤sizeLine∧∃ns,IntsAre us ns)
  (k:∀(us:List Value) (ns:List Int) (h h':Heap) (tk:Nat) (a:Addr) (out:Array Value) (ns':List Int) (c:Nat),P us→IntsAre us ns→(∀b o,s.heap.get? b=some o→h.get? b=some o)→(∀b o,h.get? b=some o→h'.get? b=some o)→h.objs.size≤a→h'.get? a=some (seqObj "list" out c)→IntsAre out.toList ns'→sortsTo ns ns'→Q (.ref a) { s with heap:=h',toks:=tk }) :
  wpAny (model prog w) A (call (.builtin "sorted") [v]) Q E s:=by
 refine Calls.call_function_entry kind_sorted plain_sorted entry_sorted (args_sorted1 _) ?_
 unfold Builtin.«sorted»
 refine wpAny_bind (m:=checkCount "sorted" 1 1 _) (wpAny_pure (wpAny_bind (hcol _ _ rfl fun h tk us hk hP=>?_)))
 obtain ⟨hL,ns,hia⟩:=hI us hP
 have hn:=IntsAre.length hia
 refine wpAny_bind (wpAny_newList ?_ hL)
 have ho:(h.push (seqObj "list" us.toArray 0)).get? h.objs.size=some (seqObj "list" us.toArray 0):=Heap.get?_push_size _ rfl
 show wpAny _ _ _ _ _ { s with heap:=h.push (seqObj "list" us.toArray 0),toks:=tk }
 refine wpAny_bind (wpAny_holding (wpAny_call_entry slot_list_sort ⟨_,ho,rfl⟩ entry_list_sort (any_sort (s:={ s with heap:=h.push (seqObj "list" us.toArray 0),toks:=tk }) ho hia hn hL fun out ns' a b=>⟨_,rfl,wpAny_pure ⟨_,rfl,?_⟩⟩) (args_list_sort _)))
 obtain ⟨c,hc⟩:=sortedHeap_at (out:=out) ho
 refine k us ns h _ tk _ out ns' c hP hia hk (fun b o e=>?_) (Nat.le_refl _) hc a b
 have hb:=Heap.lt_size e
 show (sortedHeap (h.push (seqObj "list" us.toArray 0)) h.objs.size us out).get? b=some o
 rw [sortedHeap_old (Nat.ne_of_lt hb) (by rw [size_push'];exact Nat.lt_succ_of_lt hb)]
 exact Heap.get?_push_of_some _ e
theorem ints_of {l:List (Int × Value)}(h:∀e∈l,∃τ,e.2=.int e.1 τ):IntsAre (l.map (·.2)) (l.map (·.1)):=by
 induction l with
 | nil=>exact .nil
 | cons e r ih =>
  obtain ⟨τ,e1⟩:=h e (List.mem_cons_self ..)
  rw [List.map_cons,List.map_cons,e1]
  exact .cons _ τ (ih fun e he=>h e (List.mem_cons_of_mem _ he))
theorem ints_same {us:List Value}{as bs:List Int}(h1:IntsAre us as) (h2:IntsAre us bs):as=bs:=by
 induction h1 generalizing bs with
 | nil=>cases h2;rfl
 | cons n t hr ih =>
  cases h2 with
  | cons n' t' hr'=>rw [ih hr']
theorem sorted_small {S:Addr}{ns:List Nat}{Q:Value→Shared→Prop}(hh:A.handled=none) (hS:SmS (byT w) s.heap S ns)
  (k:∀(h h':Heap) (tk:Nat) (a:Addr) (out:Array Value) (c:Nat),(∀b o,s.heap.get? b=some o→h.get? b=some o)→(∀b o,h.get? b=some o→h'.get? b=some o)→h.objs.size≤a→h'.get? a=some (seqObj "list" out c)→IntsAre out.toList (ns.map Int.ofNat)→Q (.ref a) { s with heap:=h',toks:=tk }) :
  wpAny (model prog w) A (call (.builtin "sorted") [.ref S]) Q E s:=by
 obtain ⟨o,es,ep,t,ho,si⟩:=hS
 have hwp:=walk_perm (w:=w) (a:=S) (ep:=ep) (es:=es)
 have hlen:=si.tb.len
 have hint:IntsAre ((walkL w S ep es).toList.map (·.2)) ((walkL w S ep es).toList.map (·.1)):=ints_of fun e he=>si.vs e (hwp.mem_iff.mp he)
 have hwl:(walkL w S ep es).toList.length=ns.length:=by rw [hwp.length_eq,Array.length_toList,si.size]
 refine any_sortedM (P:=fun us=>us=(walkL w S ep es).toList.map (·.2)) (fun A' Q' hA kQ=>collect_set (hA.trans hh) ho si fun h' tk acc hk hit=>kQ h' tk _ hk ?_) (fun us e=>?_) fun us ns0 h h' tk a out ns' c e hia k1 k2 ha hc hio st=>?_
 ·refine List.ext_getElem? fun i=>?_
  rw [List.getElem?_map,Array.getElem?_toList,Array.getElem?_toList]
  by_cases hi:i<acc.size
  ·rw [Array.getElem?_eq_getElem hi]
   exact (hit.2 i _ (Array.getElem?_eq_getElem hi)).symm
  ·have:=hit.1
   rw [Array.length_toList] at hwl
   rw [Array.getElem?_eq_none (by lia),Array.getElem?_eq_none (by lia)]
   rfl
 ·subst e
  exact⟨by rw [List.length_map,hwl,sizeLine_eq];lia,_,hint⟩
 ·subst e
  obtain rfl:=ints_same hint hia
  have hlt:((walkL w S ep es).toList.map (·.1)).length<64:=by rw [List.length_map,hwl];lia
  obtain ⟨p1,p2⟩:=st.2 hlt
  have e3:ns'=ns.map Int.ofNat:=by
   refine up_unique (p1.trans ?_) p2 ?_
   ·have:=hwp.map (·.1)
    rw [si.keys] at this
    exact this
   ·rw [List.pairwise_map]
    exact si.tb.up.imp fun h=>by simp only [Int.ofNat_eq_natCast];lia
  rw [e3] at hio
  exact k h h' tk a out c k1 k2 ha hc hio
end
def setS (b:Bool) (a:Addr) (ns:List Nat):HO:=.ext fun h=>SmS b h a ns
section
variable {X:Cx}
inductive rSetSm (K:PySem.W.Frag) (b:Bool) (xs:List V) (H:Hp) (Q:VK):Prop
 | mk:∀(p:Addr) (us:List Nat),(xs=[.ref p])→(SqT K H p ((us.map Int.ofNat).map V.int))→(∀j∈us,j<6)→(∀(q:Addr) (ns:List Nat),H q=none→ns.Pairwise (· < ·)→(∀j,j∈ns↔j∈us)→Q (.ref q) (upd H q (setS b q ns)))→rSetSm K b xs H Q
theorem call_setSm (hc:X.calm=true):CallR X (.type "set") (rSetSm X.K (byT X.w)):=by
 intro pins s σ H xs us Q I r h
 obtain ⟨p,ms,rfl,hq,h6,q⟩:=h
 obtain ⟨u,rfl,ru⟩:=vals1 r
 cases ru
 obtain ⟨its,rv,hit,hz⟩:=I.tuple hq
 refine call_set_small (us:=ms) (I.ok.hd hc) hit (by simpa using vals_ia rv) h6 fun h' tk ns hS hm hk=>?_
 have hf:H s.heap.objs.size=none:=I.hok.fresh (Nat.le_refl _)
 have hup:ns.Pairwise (· < ·):=by obtain ⟨o,es,ep,t,_,si⟩:=hS;exact si.tb.up
 exact⟨.ref s.heap.objs.size,_,I.laid (o:=setS (byT X.w) s.heap.objs.size ns) (fun b o e=>hk b o (Heap.lt_size e) e) (Nat.le_refl _) ⟨hS,(by obtain ⟨o,es,ep,t,e,_⟩:=hS;exact⟨o,e⟩),fun h1 h2 x k=>x.at fun o e=>k o e⟩,rfl,q _ ns hf hup hm⟩
inductive rSortSm (b:Bool) (xs:List V) (H:Hp) (Q:VK):Prop
 | mk:∀(p:Addr) (ns:List Nat),(xs=[.ref p])→(H p=some (setS b p ns))→(∀(q:Addr),H q=none→Q (.ref q) (upd H q (.lst ((ns.map Int.ofNat).map V.int))))→rSortSm b xs H Q
theorem call_sortSm (hc:X.calm=true):CallR X (.builtin "sorted") (rSortSm (byT X.w)):=by
 intro pins s σ H xs us Q I r h
 obtain ⟨p,ns,rfl,hp,q⟩:=h
 obtain ⟨u,rfl,ru⟩:=vals1 r
 cases ru
 obtain ⟨hS,_,_⟩:=I.hok p _ hp
 have hl:ns.length≤6:=by obtain ⟨o,es,ep,t,_,si⟩:=id hS;exact si.tb.len
 refine sorted_small (I.ok.hd hc) hS fun h h' tk a out c k1 k2 ha hc hia=>?_
 have I1:=I.kept (t':=tk) k1
 have hf:H a=none:=I1.hok.fresh ha
 refine⟨.ref _,_,I1.laid (t':=tk) (o:=.lst ((ns.map Int.ofNat).map V.int)) k2 ha ⟨?_,out.toList,c,vals_ints hia,?_⟩,rfl,q _ hf⟩
 ·rw [List.length_map,List.length_map,sizeLine_eq];lia
 ·rw [show out.toList.toArray=out from by simp];exact hc
end
end L2

namespace L2
open PySem PySem.Spec PyProof.Rows
section
variable {prog:Program}{w:World}{A:Around}{E:Value→Shared→Prop}{s:Shared}
theorem collect_rng {Q:List Value→Shared→Prop}{r:Addr}{a b c:Int}{t u v:Tok}{n:Nat}(hh:A.handled=none) (hr:IsRange s.heap r a b c t u v) (hs:Builtin.Range.small a b c=true) (hn:Builtin.Range.rangeSize a b c=n) (hl:n≤2 ^ 24)
  (k:∀(h':Heap) (tk:Nat) (acc:Array Value),(∀d o,s.heap.get? d=some o→h'.get? d=some o)→ItemsOf (fun i v=>∃t,v=.int (a+i*c) t) acc n→Q acc.toList { s with heap:=h',toks:=tk }) :
  wpAny (model prog w) A (collect (.ref r)) Q E s:=by
 unfold collect
 refine wpAny_bind (wpAny_runValue (codeAny_builtin F.entry_proto_collect (by
  rw [Around.under_plainId F.plain_proto_collect _]
  show wpAny _ A.in1 (newList [] >>= fun z=>again (.builtin "list.__iadd__" ⟨[z,.ref r],[]⟩)) _ _ s
  refine wpAny_bind (wpAny_newObj_type (wpAny_pure ⟨plainId_quiet F.plain_list_iadd _,codeAny_builtin F.entry_list_iadd ?_⟩))
  rw [Around.under_plainId F.plain_list_iadd _]
  show wpAny _ A.in1 (Builtin.List.listExtendWith (.ref s.heap.objs.size) (.ref r) (.ref s.heap.objs.size)) _ _ _
  have fin:∀(h':Heap) (tk:Nat) (acc:Array Value) (c':Nat),(∀d o,d≠s.heap.objs.size→(s.heap.push { cls:=.type "list", data:=.seq ([]:List Value).toArray }).get? d=some o→h'.get? d=some o)→h'.get? s.heap.objs.size=some { cls:=.type "list", dict:=none,data:=.seq acc c',slots:=#[] }→ItemsOf (fun i v=>∃t,v=.int (a+i*c) t) acc n →
    wpAny (model prog w) A (load s.heap.objs.size >>= fun o=>match o.data with | .seq xs _=>pure xs.toList|_=>unsupported "internal:collect") Q E { s with heap:=h',toks:=tk }:=fun h' tk acc c' hk hS hacc =>
   wpAny_bind (wpAny_load hS (wpAny_pure (k h' tk acc (fun d o e=>hk d o (Nat.ne_of_lt (Heap.lt_size e)) (Heap.get?_push_of_some _ e)) hacc)))
  refine wpAny_mono (wpAny_extend_range (s:={ s with heap:=s.heap.push { cls:=.type "list", data:=.seq ([]:List Value).toArray } }) (R:=fun r s'=>∃h' tk acc c',r=.ok (.ret (.ref s.heap.objs.size))∧s'={ s with heap:=h',toks:=tk }∧(∀d o,d≠s.heap.objs.size→(s.heap.push { cls:=.type "list", data:=.seq ([]:List Value).toArray }).get? d=some o→h'.get? d=some o)∧h'.get? s.heap.objs.size=some { cls:=.type "list", dict:=none,data:=.seq acc c',slots:=#[] }∧ItemsOf (fun i v=>∃t,v=.int (a+i*c) t) acc n) hh (Heap.get?_push_of_some _ hr) hs hn hl s.heap.objs.size _ 0 (Heap.get?_push_size _ rfl) fun h' tk acc c' hk hS hacc=>⟨h',tk,acc,c',rfl,rfl,hk,hS,hacc⟩) (fun f s' h=>?_) (fun e s' h=>?_)
  ·cases f with
   | done f =>
    obtain ⟨h',tk,acc,c',e,rfl,hk,hS,hacc⟩:=h
    cases e
    exact fin h' tk acc c' hk hS hacc
   | again c'=>exact⟨h.1,codeAny_mono h.2 fun r s'' hr=>by
     obtain ⟨h',tk,acc,c',rfl,rfl,hk,hS,hacc⟩:=hr
     exact fin h' tk acc c' hk hS hacc⟩
  ·obtain ⟨_,_,_,_,e,_⟩:=h
   cases e)))
theorem meets_tupRng (r:Addr) (a b c:Int) (t u v:Tok) (n:Nat) (hs:Builtin.Range.small a b c=true) (hn:Builtin.Range.rangeSize a b c=n) (hl:n≤2 ^ 24) :
  Meets (Builtin.«tuple.__new__» ⟨[.type "tuple", .ref r],[]⟩)
   (fun A R s=>A.handled=none∧IsRange s.heap r a b c t u v∧∀(h':Heap) (tk:Nat) (acc:Array Value),(∀d o,s.heap.get? d=some o→h'.get? d=some o)→ItemsOf (fun i v=>∃t,v=.int (a+i*c) t) acc n →
    R (.ok (.ret (.ref h'.objs.size))) { s with heap:=h'.push { cls:=.type "tuple", data:=.seq acc },toks:=tk }) :=
 .of_wp fun prog w A R s h=>by
  obtain ⟨hh,hr,k⟩:=h
  have hsub:=sub_tuple_self
  have hinit:=init_tuple_lookup
  have hmh:=madeHere_tuple
  have hT:s.TypeIs (.ref r) "range" := ⟨_,hr,rfl⟩
  have hh1:A.in1.handled=none:=hh
  wp_walk using AutoSeq1.wpAny_loadPart' hr,wpAny_typeOf hT,collect_rng hh1 hr hs hn hl
  intro h' tk acc hk hacc
  show wpAny _ _ (Builtin.Tuple.tupleExact acc.toList.toArray >>= fun v=>ret v) _ _ _
  unfold Builtin.Tuple.tupleExact
  have hz:acc.toList.toArray.size≤sizeLine:=by simp only [Array.toArray_toList];rw [hacc.1,sizeLine_eq];lia
  refine wpAny_bind (wpAny_newObj_type (wpAny_pure ⟨_,rfl,?_⟩) hz)
  rw [show acc.toList.toArray=acc by simp]
  exact k h' tk acc hk hacc
theorem call_tupRng0 {Q:Value→Shared→Prop}{r:Addr}{a b c:Int}{t u v:Tok}{n:Nat}(hh:A.handled=none) (hr:IsRange s.heap r a b c t u v) (hs:Builtin.Range.small a b c=true) (hn:Builtin.Range.rangeSize a b c=n) (hl:n≤2 ^ 24)
  (k:∀(h':Heap) (tk:Nat) (acc:Array Value),(∀d o,s.heap.get? d=some o→h'.get? d=some o)→ItemsOf (fun i v=>∃t,v=.int (a+i*c) t) acc n→Q (.ref h'.objs.size) { s with heap:=h'.push { cls:=.type "tuple", data:=.seq acc },toks:=tk }) :
  wpAny (model prog w) A (call (.type "tuple") [.ref r]) Q E s :=
 callType_new F.called_tuple (by decide) (F.typeCall_tuple_1 _) (F.newCall_tuple_1 _) (fun ob=>F.args_object_init_2 ob _) F.entry_tuple_new
  (meets_tupRng r a b c t u v n hs hn hl) ⟨hh,hr,fun h' tk acc hk hacc=>⟨⟨_,Heap.get?_push_size _ rfl,rfl⟩,k h' tk acc hk hacc⟩⟩
end
section
variable {X:Cx}
inductive rTupRng (xs:List V) (H:Hp) (Q:VK):Prop
 | mk:∀p lo hi,(xs=[.ref p])→(H p=some (.rng lo hi))→((-(2 ^ 62)≤lo∧lo<2 ^ 62∧-(2 ^ 62)≤hi∧hi<2 ^ 62))→((hi - lo).toNat≤2 ^ 24)→(∀l,H l=none→Q (.ref l) (upd H l (.tup ((rangeL lo (hi - lo).toNat).map V.int))))→rTupRng xs H Q
theorem call_tupRng (hc:X.calm=true):CallR X (.type "tuple") rTupRng:=by
 intro pins s σ H xs us Q I r h
 obtain ⟨p,lo,hi,rfl,hp,⟨h1,h2,h3,h4⟩,hz2,q⟩:=h
 obtain ⟨u,rfl,rx⟩:=vals1 r
 cases rx
 obtain ⟨t,u,v,e⟩:=I.hok p _ hp
 have hsz:Builtin.Range.rangeSize lo hi 1=((hi - lo).toNat:Nat):=by rw [rangeSize_one];split <;> lia
 refine call_tupRng0 (I.ok.hd hc) (r:=p) e (small_one h1 h2 h3 h4) hsz hz2 fun h' tk acc hk hit=>?_
 have I1:Inv X pins σ H { s with heap:=h',toks:=tk }:=I.kept hk
 refine⟨.ref h'.objs.size,_,I1.laid (t':=tk) (o:=.tup ((rangeL lo (hi - lo).toNat).map V.int)) (fun b o e=>Heap.get?_push_of_some _ e) (Nat.le_refl _) ⟨?_,acc.toList,vals_of_items (by rw [Array.length_toList];exact hit.1) (fun j v e=>?_),by simpa using IsTup.new _ _⟩,rfl,q _ (I1.hok.fresh (Nat.le_refl _))⟩
 ·rw [List.length_map,rangeL,List.length_map,List.length_range,sizeLine_eq];lia
 ·obtain ⟨t,rfl⟩:=hit.2 j v (by simpa using e)
  exact⟨t,by rw [Int.mul_one]⟩
end
end L2

namespace L2
open PySem PySem.Spec PyProof.Rows NM
theorem textF {r:Nat→Str}{f:Nat→Option Nat}(h:∀i,(r i).cps.toList=(f i).toList):∀u:List Nat,(textW r u).cps.toList=u.filterMap f
 | []=>by simp [textW];decide
 | [a]=>by
  show (r a).cps.toList=_
  rw [h,List.filterMap_cons]
  cases f a <;> rfl
 | a::b::s=>by
  rw [textW_cons (by simp),List.filterMap_cons]
  have ih:=textF h (b::s)
  show ((r a).cps++(textW r (b::s)).cps).toList=_
  rw [Array.toList_append,ih,h]
  cases f a <;> rfl
theorem fm_len (f:Nat→Option Nat):∀l:List Nat,(l.filterMap f).length=l.countP fun x=>(f x).isSome
 | []=>rfl
 | a::r=>by
  rw [List.filterMap_cons,List.countP_cons]
  cases h:f a with
  | none=>rw [fm_len f r];rfl
  | some b=>dsimp only;rw [List.length_cons,fm_len f r];rfl
theorem countP_or {a b:Nat}(h:a≠b):∀u:List Nat,u.countP (fun x=>decide (x=a) || decide (x=b))=u.count a+u.count b
 | []=>rfl
 | c::r=>by
  rw [List.countP_cons,countP_or h r,List.count_cons,List.count_cons]
  by_cases h1:c=a
  ·subst h1
   simp [h]
   lia
  ·by_cases h2:c=b
   ·subst h2
    simp [h1]
    lia
   ·simp [h1,h2]
theorem range_count (t p:Nat):(List.range (p+1)).count t=if t≤p then 1 else 0:=by
 rw [List.nodup_range.count]
 by_cases h:t≤p
 ·rw [if_pos h,if_pos (List.mem_range.mpr (by lia))]
 ·rw [if_neg h,if_neg (fun z=>h (by have:=List.mem_range.mp z;lia))]
theorem two_sub {u:List Nat}{a b i j:Nat}(hij:i<j) (ha:u[i]? = some a) (hb:u[j]? = some b):List.Sublist [a,b] u:=by
 have e:u=u.take j++u.drop j:=(List.take_append_drop j u).symm
 rw [e]
 have h1:a∈u.take j:=List.mem_of_getElem? (i:=i) (by rw [List.getElem?_take_of_lt hij];exact ha)
 have h2:b∈u.drop j:=List.mem_of_getElem? (i:=0) (by rw [List.getElem?_drop,Nat.add_zero];exact hb)
 exact List.Sublist.append (l₁:=[a]) (r₁:=[b]) (List.singleton_sublist.mpr h1) (List.singleton_sublist.mpr h2)
def rowAt (w:Nat) (best:List Nat) (i:Nat):Str:=strAt ((rowOf w best).map V.str) i
theorem rowAt_eq {w:Nat}{best:List Nat}{i:Nat}:rowAt w best i=(rowOf w best).getD i (Str.ofString ""):=by
 unfold rowAt strAt
 rw [List.getElem?_map,List.getD_eq_getElem?_getD]
 cases (rowOf w best)[i]? <;> rfl
theorem row1 {w t:Nat}(ht:t<w) (i:Nat):(rowAt w [t] i).cps.toList=(if i=t then some 97 else none:Option Nat).toList:=by
 rw [rowAt_eq]
 show (((List.replicate w (Str.ofString "")).set t ⟨#[97]⟩).getD i (Str.ofString "")).cps.toList=_
 rw [List.getD_eq_getElem?_getD,List.getElem?_set]
 by_cases h:i=t
 ·rw [if_pos h.symm,if_pos (by rw [List.length_replicate];exact ht),if_pos h]
  rfl
 ·rw [if_neg (fun z=>h z.symm),if_neg h,List.getElem?_replicate]
  split <;> decide
theorem row2 {w a b:Nat}(ha:a<w) (hb:b<w) (hab:a≠b) (i:Nat):(rowAt w [a,b] i).cps.toList=(if i=a then some 97 else if i=b then some 98 else none:Option Nat).toList:=by
 rw [rowAt_eq]
 show ((((List.replicate w (Str.ofString "")).set a ⟨#[97]⟩).set b ⟨#[98]⟩).getD i (Str.ofString "")).cps.toList=_
 rw [List.getD_eq_getElem?_getD,List.getElem?_set]
 by_cases h:i=b
 ·rw [if_pos h.symm,if_pos (by rw [List.length_set,List.length_replicate];exact hb),if_neg (fun z=>hab (z.symm.trans h)),if_pos h]
  rfl
 ·rw [if_neg (fun z=>h z.symm),if_neg h,List.getElem?_set]
  by_cases h2:i=a
  ·rw [if_pos h2.symm,if_pos (by rw [List.length_replicate];exact ha),if_pos h2]
   rfl
  ·rw [if_neg (fun z=>h2 z.symm),if_neg h2,List.getElem?_replicate]
   split <;> decide
theorem best_shows {N:NetN}(hN:N.Ok) {p o:Nat}(ho:o<N.w+N.st.length) {best:List Nat}(h:BestOk N p o best):textW (rowAt N.w best) (N.words.getD o [])≠textW (rowAt N.w best) (List.range (p+1)):=by
 intro e
 obtain ⟨hlt,_,_⟩:=best_lt hN ho h
 have e2:=congrArg (fun s:Str=>s.cps.toList) e
 rcases h with ⟨t,rfl,hs⟩|⟨a,b,i,j,rfl,hns,hij,ha,hb,hba⟩
 ·have ht:=hlt t (by simp)
  rw [textF (row1 ht),textF (row1 ht)] at e2
  have e3:=congrArg List.length e2
  have cp:∀l:List Nat,(l.filterMap fun i=>(if i=t then some 97 else none:Option Nat)).length=l.count t:=fun l=>by
   rw [fm_len,List.count_eq_countP]
   refine List.countP_congr fun x _=>?_
   by_cases hx:x=t
   ·simp [hx]
   ·simp [hx]
  rw [cp,cp,range_count] at e3
  exact hs.2 e3
 ·have h1:=hlt a (by simp)
  have h2:=hlt b (by simp)
  have hab:a≠b:=by lia
  rw [textF (row2 h1 h2 hab),textF (row2 h1 h2 hab)] at e2
  have cnt:∀t,t<N.w→(N.words.getD o []).count t=if t≤p then 1 else 0:=fun t ht=>Classical.byContradiction fun z=>hns t ⟨ht,z⟩
  have ma:a∈N.words.getD o []:=List.mem_of_getElem? ha
  have mb:b∈N.words.getD o []:=List.mem_of_getElem? hb
  have ca:=cnt a h1
  have cb:=cnt b h2
  have pa:=List.count_pos_iff.mpr ma
  have pb:=List.count_pos_iff.mpr mb
  have hap:a≤p:=Classical.byContradiction fun z=>by rw [if_neg z] at ca;lia
  have hbp:b≤p:=by lia
  rw [if_pos hap] at ca
  rw [if_pos hbp] at cb
  have cp:∀l:List Nat,(l.filterMap fun i=>(if i=a then some 97 else if i=b then some 98 else none:Option Nat)).length=l.count a+l.count b:=fun l=>by
   rw [fm_len,←countP_or hab]
   refine List.countP_congr fun x _=>?_
   by_cases hx:x=a
   ·simp [hx]
   ·by_cases hy:x=b
    ·have hz:¬b=a:=hab.symm
     simp [hy,hz]
    ·simp [hx,hy]
  have s1:=(two_sub hij ha hb).filterMap fun i=>(if i=a then some 97 else if i=b then some 98 else none:Option Nat)
  have s2:=(two_sub (u:=List.range (p+1)) hba (List.getElem?_range (by lia)) (List.getElem?_range (by lia))).filterMap fun i=>(if i=a then some 97 else if i=b then some 98 else none:Option Nat)
  have v1:([a,b].filterMap fun i=>(if i=a then some 97 else if i=b then some 98 else none:Option Nat))=[97,98]:=by
   have:b≠a:=hab.symm
   simp [this]
  have v2:([b,a].filterMap fun i=>(if i=a then some 97 else if i=b then some 98 else none:Option Nat))=[98,97]:=by
   have:b≠a:=hab.symm
   simp [this]
  rw [v1] at s1
  rw [v2] at s2
  have q1:=s1.eq_of_length (by rw [cp,ca,cb];rfl)
  have q2:=s2.eq_of_length (by rw [cp,range_count,range_count,if_pos hap,if_pos hbp];rfl)
  rw [←q1,←q2] at e2
  exact absurd e2 (by decide)
theorem fold_sum {r:Nat→Int}:∀{u:List Nat},u≠[]→foldW (fun a b=>a+b) r u=(u.map r).foldr (fun a b=>a+b) 0
 | [a],_=>by show r a=r a+0;lia
 | a::b::s,_=>by
  rw [foldW_cons (by simp),fold_sum (u:=b::s) (by simp)]
  rfl
theorem foldr_perm {l m:List Int}(p:l.Perm m):l.foldr (fun a b=>a+b) 0=m.foldr (fun a b=>a+b) 0:=by
 induction p with
 | nil=>rfl
 | cons x _ ih=>simp only [List.foldr_cons,ih]
 | swap x y l=>simp only [List.foldr_cons];lia
 | trans _ _ h1 h2=>exact h1.trans h2
theorem fold_max {r:Nat→Int}:∀{u:List Nat},u≠[]→(∃i∈u,foldW gtI r u=r i)∧∀i∈u,r i≤foldW gtI r u
 | [a],_=>⟨⟨a,by simp,rfl⟩,fun i hi=>by simp at hi;subst hi;exact Int.le_refl _⟩
 | a::b::s,_=>by
  obtain ⟨⟨i,hi,e⟩,h⟩:=fold_max (r:=r) (u:=b::s) (by simp)
  rw [foldW_cons (by simp)]
  unfold gtI at e h ⊢
  split
  ·exact⟨⟨i,List.mem_cons_of_mem _ hi,e⟩,fun j hj=>by
    rcases List.mem_cons.mp hj with rfl|hj
    ·lia
    ·exact h j hj⟩
  ·exact⟨⟨a,List.mem_cons_self ..,rfl⟩,fun j hj=>by
    rcases List.mem_cons.mp hj with rfl|hj
    ·exact Int.le_refl _
    ·have:=h j hj;lia⟩
theorem val_due {x:Str}{xs:List V}{u:List Nat}{k:Nat}(hx:x∈kinds) (hu:u≠[]) (h:dueB x u k):valW x xs u=valW x xs (List.range (k+1)):=by
 have hr:List.range (k+1)≠[]:=by simp
 unfold valW
 rcases kinds_cases hx with rfl|rfl|rfl
 ·rw [du_any.mp h]
 ·rw [if_neg any_com.symm,if_neg any_com.symm]
  have e:opK kCom=fun a b=>a+b:=by unfold opK;rw [if_neg com_gre]
  rw [e,fold_sum hu,fold_sum hr,foldr_perm ((du_com.mp h).map _)]
 ·rw [if_neg any_gre.symm,if_neg any_gre.symm]
  have e:opK kGre=gtI:=by unfold opK;rw [if_pos rfl]
  rw [e]
  obtain ⟨⟨i,hi,e1⟩,h1⟩:=fold_max (r:=intAt xs) hu
  obtain ⟨⟨j,hj,e2⟩,h2⟩:=fold_max (r:=intAt xs) hr
  have hm:=du_gre.mp h
  have a1:=h1 j ((hm j).mpr hj)
  have a2:=h2 i ((hm i).mp hi)
  congr 1
  lia
theorem show_val {N:NetN}(hN:N.Ok) {x:Str}(hx:x∈kinds) {p o:Nat}(hp:p<N.w) (ho:o<N.w+N.st.length) {H:Hp}{l:Addr}(h:ShowV H x N p o l) :
  ∃xs:List V,H l=some (.lst xs)∧xs.length=N.w∧(∀v∈xs,Thing v)∧(∀v∈xs,isOf x v=true)∧valW x xs (N.words.getD o [])≠valW x xs (List.range (p+1)):=by
 unfold ShowV at h
 by_cases e:x=kAny
 ·rw [if_pos e] at h
  obtain ⟨best,hl,hb⟩:=h
  refine⟨_,hl,by rw [List.length_map,rowOf_len],fun v hv=>?_,fun v hv=>?_,?_⟩
  ·obtain ⟨s,hs,rfl⟩:=List.mem_map.mp hv
   refine .inl ⟨s,rfl,?_⟩
   obtain ⟨i,hi,rfl⟩:=List.getElem_of_mem hs
   have e3:(rowOf N.w best)[i]=rowAt N.w best i:=by rw [rowAt_eq,List.getD_eq_getElem?_getD,List.getElem?_eq_getElem hi];rfl
   obtain ⟨hlt,_,_⟩:=best_lt hN ho hb
   rw [e3]
   show (rowAt N.w best i).cps.size≤2
   rw [←Array.length_toList]
   rcases hb with ⟨t,rfl,hs⟩|⟨a,b,i',j',rfl,_,_,_,_,hba⟩
   ·rw [row1 (hlt t (by simp))]
    split <;> decide
   ·rw [row2 (hlt a (by simp)) (hlt b (by simp)) (by lia)]
    split
    ·decide
    ·split <;> decide
  ·obtain ⟨s,hs,rfl⟩:=List.mem_map.mp hv
   simp [isOf,e]
  ·unfold valW
   rw [if_pos e,if_pos e]
   intro z
   exact best_shows hN ho hb (V.str.inj z)
 ·rw [if_neg e] at h
  obtain ⟨t,ht,hl,hs⟩:=h
  refine⟨_,hl,by rw [List.length_map,List.length_range],fun v hv=>?_,fun v hv=>?_,?_⟩
  ·obtain ⟨s,hs,rfl⟩:=List.mem_map.mp hv
   exact .inr ⟨_,rfl⟩
  ·obtain ⟨s,hs,rfl⟩:=List.mem_map.mp hv
   simp [isOf,e]
  ·unfold valW
   rw [if_neg e,if_neg e]
   intro z
   refine hs ?_
   have cg:∀u:List Nat,(∀i∈u,i<N.w)→foldW (opK x) (intAt ((List.range N.w).map fun i=>V.int (cnt1 t i))) u=foldW (opK x) (cnt1 t) u:=by
    intro u
    have one:∀i,i<N.w→intAt ((List.range N.w).map fun i=>V.int (cnt1 t i)) i=cnt1 t i:=fun i hi=>by
     unfold intAt
     rw [List.getElem?_map,List.getElem?_range hi]
     rfl
    induction u with
    | nil=>intro _;rfl
    | cons a r ih =>
     intro hu
     cases r with
     | nil=>exact one a (hu a (by simp))
     | cons b r =>
      rw [foldW_cons (a:=a) (t:=b::r) (by simp),foldW_cons (a:=a) (t:=b::r) (by simp),ih fun i hi=>hu i (List.mem_cons_of_mem _ hi),one a (hu a (by simp))]
   have z2:=V.int.inj z
   rw [cg _ (fun i hi=>word_lt hN o ho i hi),cg _ (fun i hi=>by have:=List.mem_range.mp hi;lia)] at z2
   exact z2
end L2

namespace L2
open PySem PySem.Spec PyProof.Rows NM
inductive spRefusalJ (CB CK CR:Addr) (vs:List V) (H:Hp) (Q:VK) (_e3:XK):Prop
 | mk:∀(e C:Addr) (x:Str),(vs=[.ref e])→(H e=some (excO e C))→(C=CB∧x=Str.ofString "net" ∨ C=CK∧x=Str.ofString "kind" ∨ C=CR∧x=Str.ofString "row")→(∀H',Same H H'→Q (.str x) H')→spRefusalJ CB CK CR vs H Q _e3
def pickV (xs:List V) (u:List Nat):List V:=u.map fun i=>xs.getD i .non
inductive spSumL (vs:List V) (H:Hp) (Q:VK) (_e3:XK):Prop
 | mk:∀(x:Str) (ra:Addr) (xs:List V) (u:List Nat),(vs=[.str x,.ref ra])→(x∈kinds)→(H ra=some (.lst (pickV xs u)))→(RowOk x xs)→(u≠[])→(∀i∈u,i<xs.length)→(shortW u)→(∀H',Same H H'→Q (valW x xs u) H')→spSumL vs H Q _e3
inductive spDueJ (vs:List V) (H:Hp) (Q:VK) (_e3:XK):Prop
 | mk:∀(x:Str) (wa:Addr) (u:List Nat) (k:Nat),(vs=[.str x,.ref wa,.int (k:Nat)])→(x∈kinds)→(H wa=some (.tup ((u.map Int.ofNat).map V.int)))→(∀j∈u,j<6)→(k<6)→(∀H' (b:Bool),Same H H'→(b=true↔dueB x u k)→Q (.bl b) H')→spDueJ vs H Q _e3
def BadJ (way:Int) (wide:Int) (steps:List (List Int)) (outs:List Int) (x:Str) (xs:List V) (y:Str):Prop :=
 (¬Good wide steps outs∧y=Str.ofString "net")∨(Good wide steps outs∧x ∉ kinds∧y=Str.ofString "kind")∨(Good wide steps outs∧way≠0∧steps.length≤20∧x∈kinds∧¬(((xs.length:Nat):Int)=wide∧∀v∈xs,isOf x v=true)∧y=Str.ofString "row")
inductive spToldJ (vs:List V) (H:Hp) (Q:VK) (_e3:XK):Prop
 | mk:∀(way:Int) (n sa oa:Addr) (rs:List V) (wide:Int) (steps:List (List Int)) (outs:List Int) (x:Str) (ra:Addr) (xs:List V) (y:Str),(vs=[.int way,.ref n,.str x,.ref ra])→(way=0∨way=1)→(outs.length≤10000)→(NetAt H n wide steps outs sa oa rs)→(H ra=some (.lst xs))→(xs.length≤10000)→(∀v∈xs,Thing v)→(BadJ way wide steps outs x xs y)→(∀H',Same H H'→Q (.str y) H')→spToldJ vs H Q _e3
inductive spRunsJ (vs:List V) (H:Hp) (Q:VK) (_e3:XK):Prop
 | mk:∀(n sa oa wl ra:Addr) (rs ts:List V) (N:NetN) (x:Str) (xs:List V),(vs=[.ref n,.ref wl,.str x,.ref ra])→(NetAt H n N.w N.steps N.outs sa oa rs)→(N.Ok)→(N.st.length≤20)→(H wl=some (.lst ts))→(StepsAt H ts (wordsI N.words))→(x∈kinds)→(H ra=some (.lst xs))→(xs.length=N.w)→(∀v∈xs,Thing v)→(∀v∈xs,isOf x v=true)→(∀H',Same H H'→Q (.bl true) H')→spRunsJ vs H Q _e3
theorem val_snoc {x:Str}{xs:List V}(hk:x∈kinds) {u:List Nat}(hu:u≠[]) (i:Nat):valW x xs (u++[i])=if x=kAny then .str (textW (strAt xs) u++strAt xs i) else .int (opK x (foldW (opK x) (intAt xs) u) (intAt xs i)):=by
 unfold valW
 by_cases e:x=kAny
 ·rw [if_pos e,if_pos e,textW_append (by simp) hu]
  rfl
 ·rw [if_neg e,if_neg e,foldW_append (opK_as x) (by simp) hu]
  rfl
theorem up_mem {as bs:List Nat}(ha:as.Pairwise (· < ·)) (hb:bs.Pairwise (· < ·)) (h:∀j,j∈as↔j∈bs):as=bs:=by
 have na:as.Nodup:=ha.imp fun h=>Nat.ne_of_lt h
 have nb:bs.Nodup:=hb.imp fun h=>Nat.ne_of_lt h
 have p:as.Perm bs:=(List.perm_ext_iff_of_nodup na nb).mpr h
 exact List.Perm.eq_of_pairwise (fun a b _ _ h1 h2=>by lia) ha hb p
theorem range_up (n:Nat):(List.range n).Pairwise (· < ·):=List.pairwise_lt_range
theorem ints_inj {as bs:List Nat}:as.map Int.ofNat=bs.map Int.ofNat↔as=bs:=List.map_inj_right fun _ _ e=>Int.ofNat.inj e
theorem rangeL_nat (n:Nat):rangeL 0 n=(List.range n).map Int.ofNat:=by
 unfold rangeL
 refine List.map_congr_left fun i _=>?_
 simp
theorem due_com {u:List Nat}{k:Nat}{ns:List Int}(hk:k<6) (h:sortsTo (u.map Int.ofNat) ns):ns=(List.range (k+1)).map Int.ofNat↔u.Perm (List.range (k+1)):=by
 obtain ⟨h1,h2⟩:=h
 rw [List.length_map] at h1 h2
 constructor
 ·intro e
  have hl:u.length<64:=by
   have:=congrArg List.length e
   rw [List.length_map,List.length_range] at this
   lia
  have p:=(h2 hl).1
  rw [e] at p
  have p2:=p.symm.map Int.toNat
  rw [List.map_map,List.map_map] at p2
  have e0:∀l:List Nat,l.map (Int.toNat ∘ Int.ofNat)=l:=fun l=>by
   have:(Int.toNat ∘ Int.ofNat)=id:=by funext x;rfl
   rw [this,List.map_id]
  rw [e0,e0] at p2
  exact p2
 ·intro p
  have hl:u.length<64:=by rw [p.length_eq,List.length_range];lia
  obtain ⟨q1,q2⟩:=h2 hl
  refine up_unique (q1.trans (p.map _)) q2 ?_
  rw [List.pairwise_map]
  exact (range_up _).imp fun h=>by simp only [Int.ofNat_eq_natCast];lia
theorem due_gre {u ns:List Nat}{k:Nat}(hup:ns.Pairwise (· < ·)) (hm:∀j,j∈ns↔j∈u):ns.map Int.ofNat=(List.range (k+1)).map Int.ofNat ↔ ∀j,j∈u↔j∈List.range (k+1):=by
 rw [ints_inj]
 constructor
 ·intro e j
  rw [←hm,e]
 ·intro h
  exact up_mem hup (range_up _) fun j=>(hm j).trans (h j)
theorem dp_tupI {l:List Int}:(dStep l).dp≤8:=by
 unfold dStep
 simp only [Dt.dp,dps_ints3]
 exact Nat.succ_pos _
theorem pick5J {α:Type}{a b c d e:α}{i:Int}(h0:0≤i) (h1:i<5) {R:α→Prop}(ha:R a) (hb:R b) (hc:R c) (hd:R d) (he:R e):∃z,atI [a,b,c,d,e] i=some z∧R z:=by
 have:i=0∨i=1∨i=2∨i=3∨i=4:=by lia
 rcases this with rfl|rfl|rfl|rfl|rfl
 ·exact⟨a,rfl,ha⟩
 ·exact⟨b,rfl,hb⟩
 ·exact⟨c,rfl,hc⟩
 ·exact⟨d,rfl,hd⟩
 ·exact⟨e,rfl,he⟩
structure BsJ (K:PySem.W.Frag) (PT:Addr) (lp:Pos) (a:Addr) (ns:List Int) (n sa oa:Addr) (rs:List V) (N:NetN) (wl:Addr) (ts:List V) (tl nl:Addr) (ss:List Str) (ms:List Int) (H:Hp):Prop where
 S:SqL K H a (ns.map V.int)
 lam:LamOk lamQ lp PT H
 nt:NetAt H n N.w N.steps N.outs sa oa rs
 hw:H wl=some (.lst ts)
 st:StepsAt H ts (wordsI N.words)
 ht:H tl=some (.lst (ss.map V.str))
 hm:H nl=some (.lst (ms.map V.int))
section
variable {K:PySem.W.Frag}{PT:Addr}{lp:Pos}{a:Addr}{ns:List Int}{n sa oa:Addr}{rs:List V}{N:NetN}{wl:Addr}{ts:List V}{tl nl:Addr}{ss:List Str}{ms:List Int}{H H':Hp}
theorem BsJ.sameB (B:BsJ K PT lp a ns n sa oa rs N wl ts tl nl ss ms H) (s:SameB PT H H') (l:LamOk lamQ lp PT H'):BsJ K PT lp a ns n sa oa rs N wl ts tl nl ss ms H' :=
 ⟨(s.toX B.lam).seq B.S,l,B.nt.monoX (s.toX B.lam),s.lst B.lam B.hw,B.st.keep fun r u e=>(s.toX B.lam) _ _ (by intro ps z;cases z) e,s.lst B.lam B.ht,s.lst B.lam B.hm⟩
theorem BsJ.same (B:BsJ K PT lp a ns n sa oa rs N wl ts tl nl ss ms H) (s:Same H H'):BsJ K PT lp a ns n sa oa rs N wl ts tl nl ss ms H':=B.sameB s.toB (B.lam.same s)
end
theorem word_at {N:NetN}{H:Hp}{ts:List V}(st:StepsAt H ts (wordsI N.words)) {o:Nat}(ho:o<N.w+N.st.length):∃t,ts[o]? = some (.ref t)∧H t=some (.tup (((N.words.getD o []).map Int.ofNat).map V.int)):=by
 have e:N.words[o]? = some (N.words.getD o []):=getD_some [] (by rw [N.words_len];exact ho)
 have e2:(wordsI N.words)[o]? = some ((N.words.getD o []).map Int.ofNat):=by unfold wordsI;rw [List.getElem?_map,e];rfl
 obtain ⟨t,h1,h2⟩:=st.get' e2
 exact⟨t,h1,h2⟩
def dueK (x:Str) (N:NetN) (k:Nat):Prop:=dueB x (N.words.getD (N.ou.getD k 0) []) k
open Classical in
def badL (x:Str) (N:NetN) (i:Nat):List Nat:=(List.range i).filter fun k=>decide (¬dueK x N k)
theorem bad_yes {x:Str}{N:NetN}{i:Nat}(h:dueK x N i):badL x N (i+1)=badL x N i:=by
 unfold badL
 rw [List.range_succ,List.filter_append,List.filter_cons_of_neg (by simp [h])]
 simp
theorem bad_no {x:Str}{N:NetN}{i:Nat}(h:¬dueK x N i):badL x N (i+1)=badL x N i++[i]:=by
 unfold badL
 rw [List.range_succ,List.filter_append,List.filter_cons_of_pos (by simp [h])]
 simp
theorem bad_nil {x:Str}{N:NetN}{i:Nat}(h:∀k,k<i→dueK x N k):badL x N i=[]:=by
 unfold badL
 rw [List.filter_eq_nil_iff]
 intro k hk
 simp [h k (List.mem_range.mp hk)]
theorem bad_first {x:Str}{N:NetN}{k:Nat}:∀{i:Nat},k<i→(∀j,j<k→dueK x N j)→¬dueK x N k→∃r,badL x N i=k::r
 | 0,h,_,_=>absurd h (Nat.not_lt_zero _)
 | i+1,h,h1,h2=>by
  by_cases e:k=i
  ·subst e
   exact⟨[],by rw [bad_no h2,bad_nil h1];rfl⟩
  ·obtain ⟨r,hr⟩:=bad_first (i:=i) (by lia) h1 h2
   by_cases d:dueK x N i
   ·exact⟨r,by rw [bad_yes d,hr]⟩
   ·exact⟨r++[i],by rw [bad_no d,hr];rfl⟩
theorem bad_len {x:Str}{N:NetN}:∀{i:Nat},(badL x N i).length≤i
 | 0=>Nat.le_refl _
 | i+1=>by
  have ih:=bad_len (x:=x) (N:=N) (i:=i)
  by_cases d:dueK x N i
  ·rw [bad_yes d];lia
  ·rw [bad_no d,List.length_append,List.length_singleton];lia
theorem right_due {x:Str}{N:NetN}{k:Nat}(h:RightK x N k) (hk:k≤N.ou.length):∀j,j<k→dueK x N j:=fun j hj=>by
 have e:N.ou[j]? = some (N.ou.getD j 0):=getD_some 0 (by lia)
 exact h j _ hj e
theorem seq_ifvar {tt:TT}{i j k:Nat}{u:TS}{D:Ends}{σ:St}{H:Hp}{x y:V}{c:Prop} [Decidable c] (hi:σ[i]? = some (some x)) (hj:σ[j]? = some (some y)) (ht:∀Q:Bool→Hp→Prop,Q (decide c) H→tt σ H Q) (go:∀v,(c∧v=x ∨ ¬c∧v=y)→u D (σ.set k (some v)) H):tSeq (tAsg (tIf tt (tVar i) (tVar j)) (gName k)) u D σ H:=by
 show tt σ H _
 refine ht _ ?_
 by_cases h:c
 ·rw [decide_eq_true h,if_pos rfl]
  show onO σ[i]? _
  rw [hi]
  exact go x (.inl ⟨h,rfl⟩)
 ·rw [decide_eq_false h,if_neg (by decide)]
  show onO σ[j]? _
  rw [hj]
  exact go y (.inr ⟨h,rfl⟩)
theorem bothN {G:Prop}{C R:Hp→Addr→Addr→Addr→List V→NetN→Prop}(use:(∀H n sa oa rs N,C H n sa oa rs N→R H n sa oa rs N)→G) (tail:∀H n sa oa rs N,C H n sa oa rs N→R H n sa oa rs N):G:=use tail
def dVal (x:Str) (xs:List V) (u:List Nat):Dt:=if x=kAny then .str (textW (strAt xs) u) else .int (foldW (opK x) (intAt xs) u)
theorem deep_val {K:PySem.W.Frag}{H:Hp}{x:Str}{xs:List V}{u:List Nat}:Deep K H (dVal x xs u) (valW x xs u):=by
 unfold dVal valW
 by_cases e:x=kAny
 ·rw [if_pos e,if_pos e];simp only [Deep]
 ·rw [if_neg e,if_neg e];simp only [Deep]
theorem deeps_vals {K:PySem.W.Frag}{H:Hp}{x:Str}{xs:List V}:∀us:List (List Nat),Deeps K H (us.map (dVal x xs)) (us.map (valW x xs))
 | []=>by simp only [List.map_nil,Deeps]
 | u::us=>by
  simp only [List.map_cons,Deeps]
  exact⟨_,_,rfl,deep_val,deeps_vals us⟩
def dVals (x:Str) (xs:List V) (us:List (List Nat)):Dt:=.lst (us.map (dVal x xs))
theorem deep_vals {K:PySem.W.Frag}{H:Hp}{x:Str}{xs:List V}{us:List (List Nat)}{l:Addr}(h:H l=some (.lst (us.map (valW x xs)))):Deep K H (dVals x xs us) (.ref l):=by
 simp only [dVals,Deep]
 exact⟨l,_,rfl,SqL.of h,deeps_vals us⟩
theorem dps_vals {x:Str}{xs:List V}:∀us:List (List Nat),Dt.dps (us.map (dVal x xs))=0
 | []=>by simp [Dt.dps]
 | u::us=>by
  rw [List.map_cons]
  simp only [Dt.dps,dps_vals us]
  unfold dVal
  split <;> simp [Dt.dp]
theorem dp_vals {x:Str}{xs:List V}{us:List (List Nat)}:(dVals x xs us).dp≤8:=by
 unfold dVals
 simp only [Dt.dp,dps_vals]
 exact Nat.succ_pos _
def dWk (k:Nat):Dt:=.tup [.str (Str.ofString "wrong"),.int (k:Nat)]
theorem deep_wk {K:PySem.W.Frag}{H:Hp}{p:Addr}{k:Nat}(h:H p=some (.tup [.str (Str.ofString "wrong"),.int (k:Nat)])):Deep K H (dWk k) (.ref p):=by
 simp only [dWk,Deep]
 refine⟨p,_,rfl,SqT.of h,?_⟩
 simp only [Deeps,Deep]
 exact⟨_,_,rfl,rfl,_,_,rfl,rfl,rfl⟩
theorem dp_wk {k:Nat}:(dWk k).dp≤8:=by simp [dWk,Dt.dp,Dt.dps]
end L2

namespace K10
open PySem L2 NM PyProof.Rows
def top (i:Nat):Stmt:=PySem.Challenge.pw_sumspan_k10_whole_judged.main.body.getD i (.Pass ⟨0,0,0,0⟩)
structure Txt (K:PySem.W.Frag) (mg:Str→Option Value) (CB CK CR CT CW CS DR DT FJ FG FS FA FE:Addr) (P:Program) (w:World):Prop where
 x_BadNet:ExC K mg "BadNet" CB
 g_BadNet:mg "BadNet" = some (.ref CB)
 x_BadKind:ExC K mg "BadKind" CK
 g_BadKind:mg "BadKind" = some (.ref CK)
 x_BadRow:ExC K mg "BadRow" CR
 q_BadNet:Kd5 K CB CK CB CR CT CW false true false false false
 q_BadRow:Kd5 K CR CK CB CR CT CW false false true false false
 q_BadKind:Kd5 K CK CK CB CR CT CW true false false false false
 m_BadNet:PySem.W.exmOne K (.ref CB) (.ref CS)=some true
 m_BadRow:PySem.W.exmOne K (.ref CR) (.ref CS)=some true
 m_BadKind:PySem.W.exmOne K (.ref CK) (.ref CS)=some true
 g_BadRow:mg "BadRow" = some (.ref CR)
 g_BadText:mg "BadText" = some (.ref CT)
 g_Wrong:mg "Wrong" = some (.ref CW)
 g_SumError:mg "SumError" = some (.ref CS)
 z_ValueError:mg "ValueError" = none
 g_MOST_THINGS:∃t,mg "MOST_THINGS" = some (.int 64 t)
 g_MOST_STEPS:∃t,mg "MOST_STEPS" = some (.int 500 t)
 g_RULES:mg "RULES" = some (.ref DR)
 k_RULES:KDict P w K DR [(Sum.inr "any", .ref FJ),(Sum.inr "commuting", .ref FJ),(Sum.inr "greatest", .ref FG)]
 g_TRACES:mg "TRACES" = some (.ref DT)
 k_TRACES:KDict P w K DT [(Sum.inr "any", .ref FS),(Sum.inr "commuting", .ref FA),(Sum.inr "greatest", .ref FE)]
 g_joined:mg "joined" = some (.ref FJ)
 g_greater:mg "greater" = some (.ref FG)
 g_apart_joined:mg "apart_joined" = some (.ref FA)
 g_either_joined:mg "either_joined" = some (.ref FE)
 z_str:mg "str" = none
 z_sorted:mg "sorted" = none
 z_set:mg "set" = none
 g_span_joined:mg "span_joined" = some (.ref FS)
 z_isinstance:mg "isinstance" = none
 z_int:mg "int" = none
 z_bool:mg "bool" = none
 z_tuple:mg "tuple" = none
 z_list:mg "list" = none
 z_len:mg "len" = none
 z_max:mg "max" = none
 z_min:mg "min" = none
 z_sum:mg "sum" = none
 z_zip:mg "zip" = none
 z_range:mg "range" = none
 z_enumerate:mg "enumerate" = none
section
variable {P:Program}{w:World}{K:PySem.W.Frag}{mg:Str→Option Value}{base:Heap}{CB CK CR CT CW CS DR DT FJ FG FS FA FE PT:Addr}
abbrev s_is_whole:Stmt:=top 8
theorem sc_is_whole:FnScope ["value"] ["value"] (defScope s_is_whole):=⟨rfl,rfl,rfl,by decide +kernel,rfl,by decide +kernel,by decide +kernel⟩
theorem ok_is_whole {f:Addr}{fd:FuncData}(F:Fun K "is_whole" "is_whole" s_is_whole f fd) (T:Txt K mg CB CK CR CT CW CS DR DT FJ FG FS FA FE P w)  : FnOk P w K mg base (CX1 P w) 1 f fd ["value"] (spWhole):=by
 refine F.ok1 sc_is_whole (fun vs H Q E h=>?_) (fun cdv A outer s H vs Q E hr h=>?_)
 ·obtain ⟨i,rfl,q⟩:=h;rfl
 ·obtain ⟨i,rfl,q⟩:=h
  have nd:=sc_is_whole.nd
  refine⟨_,(pss_one (ps_ret (pe_and (pe_callB call_isi rfl T.z_isinstance boot_isinstance (pa_cons (pv 0) (pa_cons (pe_bltn (v:=.ty "int") rfl T.z_int boot_int rfl) pa_nil))) (pe_one (pe_not (pe_callB call_isi rfl T.z_isinstance boot_isinstance (pa_cons (pv 0) (pa_cons (pe_bltn (v:=.ty "bool") rfl T.z_bool boot_bool rfl) pa_nil)))))))),?_⟩
  skip
  refine⟨_,_,_,_,true,rfl,rfl,.int i,rfl,?_⟩
  exact⟨_,_,_,_,false,rfl,rfl,.int i,(by kernel_rfl),q⟩
abbrev s_is_within:Stmt:=top 9
theorem sc_is_within:FnScope ["value", "least", "most"] ["value", "least", "most"] (defScope s_is_within):=⟨rfl,rfl,rfl,by decide +kernel,rfl,by decide +kernel,by decide +kernel⟩
theorem ok_is_within {f:Addr}{fd:FuncData}(F:Fun K "is_within" "is_within" s_is_within f fd) (T:Txt K mg CB CK CR CT CW CS DR DT FJ FG FS FA FE P w) (d_is_whole:Df P w K mg base "is_whole" 1 ["value"] (spWhole)):FnOk P w K mg base (CX1 P w) 2 f fd ["value", "least", "most"] (spWithin):=by
 refine F.ok1 sc_is_within (fun vs H Q E h=>?_) (fun cdv A outer s H vs Q E hr h=>?_)
 ·obtain ⟨v,lo,hi,rfl,q⟩:=h;rfl
 ·obtain ⟨v,lo,hi,rfl,q⟩:=h
  have nd:=sc_is_within.nd
  refine⟨_,(pss_one (ps_ret (pe_and (pe_own d_is_whole (hr.mono (by first|decide|lia)) rfl pass1 (pa_cons (pv 0) pa_nil)) (pe_one (pe_chain op_le op_le (pv 1) (pv 0) (pv 2)))))),?_⟩
  skip
  refine⟨_,rfl,?_⟩
  refine⟨_,rfl,?_⟩
  cases hv:decide (lo≤v) with
  | true =>
   rw [hv] at q
   exact (q)
  | false =>
   rw [hv] at q
   exact q
abbrev s_is_node:Stmt:=top 13
theorem sc_is_node:FnScope ["value", "ahead"] ["value", "ahead"] (defScope s_is_node):=⟨rfl,rfl,rfl,by decide +kernel,rfl,by decide +kernel,by decide +kernel⟩
theorem ok_is_node {f:Addr}{fd:FuncData}(F:Fun K "is_node" "is_node" s_is_node f fd) (T:Txt K mg CB CK CR CT CW CS DR DT FJ FG FS FA FE P w) (d_is_within:Df P w K mg base "is_within" 2 ["value", "least", "most"] (spWithin)):FnOk P w K mg base (CX1 P w) 3 f fd ["value", "ahead"] (spNode):=by
 refine F.ok1 sc_is_node (fun vs H Q E h=>?_) (fun cdv A outer s H vs Q E hr h=>?_)
 ·obtain ⟨v,ahead,rfl,q⟩:=h;rfl
 ·obtain ⟨v,ahead,rfl,q⟩:=h
  have nd:=sc_is_node.nd
  refine⟨_,(pss_one (ps_ret (pe_own d_is_within (hr.mono (by first|decide|lia)) rfl pass1 (pa_cons (pv 0) (pa_cons pe_int (pa_cons (pe_op op_sub (pv 1) pe_int) pa_nil)))))),?_⟩
  skip
  refine⟨v,0,ahead - 1,rfl,?_⟩
  have e:(decide (0≤v) && decide (v≤ahead - 1))=nodeB v ahead:=by
   unfold nodeB
   congr 1
   exact decide_eq_decide.mpr ⟨fun h=>by lia,fun h=>by lia⟩
  rw [e]
  exact q
abbrev s_is_step:Stmt:=top 14
theorem sc_is_step:FnScope ["value", "ahead"] ["value", "ahead"] (defScope s_is_step):=⟨rfl,rfl,rfl,by decide +kernel,rfl,by decide +kernel,by decide +kernel⟩
theorem ok_is_step {f:Addr}{fd:FuncData}(F:Fun K "is_step" "is_step" s_is_step f fd) (T:Txt K mg CB CK CR CT CW CS DR DT FJ FG FS FA FE P w) (d_is_node:Df P w K mg base "is_node" 3 ["value", "ahead"] (spNode)):FnOk P w K mg base (CX1 P w) 4 f fd ["value", "ahead"] (spStep):=by
 refine F.ok1 sc_is_step (fun vs H Q E h=>?_) (fun cdv A outer s H vs Q E hr h=>?_)
 ·obtain ⟨r,l,ahead,rfl,hr0,q⟩:=h;rfl
 ·obtain ⟨r,l,ahead,rfl,hr0,q⟩:=h
  have nd:=sc_is_step.nd
  refine⟨_,(pss_cons (ps_if (PW.pt (pw_or (pt_not (pt_truth (pe_callB call_isi rfl T.z_isinstance boot_isinstance (pa_cons (pv 0) (pa_cons (pe_bltn (v:=.ty "tuple") rfl T.z_tuple boot_tuple rfl) pa_nil))) (fun _=>rfl))) (pw_or1 (pt_cmpR op_ne (pe_callB call_len_seq rfl T.z_len boot_len (pa_cons (pv 0) pa_nil)) pe_int (nomark _)))))
   (pss_one (ps_ret pe_bl))
   pss_nil)
   (pss_one (ps_ret (pe_and (pe_own d_is_node (hr.mono (by first|decide|lia)) rfl pass1 (pa_cons (pe_ix ix_tup (pv 0) pe_int (fun _ _=>rfl)) (pa_cons (pv 1) pa_nil))) (pe_one (pe_own d_is_node (hr.mono (by first|decide|lia)) rfl pass1 (pa_cons (pe_ix ix_tup (pv 0) pe_int (fun _ _=>rfl)) (pa_cons (pv 1) pa_nil)))))))),?_⟩
  skip
  refine⟨_,_,_,_,true,rfl,rfl,.tup hr0,rfl,true,rfl,?_⟩
  refine⟨_,_,rfl,.inr (SqT.of hr0),?_⟩
  by_cases hl:l.length=2
  ·refine iteNS (by rw [List.length_map,hl];rfl) ?_
   match l,hl with
   | [x,y],_ =>
    refine⟨_,_,_,_,rfl,rfl,SqT.of hr0,rfl,_,_,rfl,?_⟩
    have e:stepOk ahead [x,y]=(nodeB x ahead && nodeB y ahead):=by
     simp [stepOk,nodeB]
    rw [e] at q
    cases hx:nodeB x ahead with
    | false =>
     rw [hx] at q
     exact q
    | true =>
     rw [hx] at q
     exact⟨_,_,_,_,rfl,rfl,SqT.of hr0,rfl,_,_,rfl,q⟩
  ·have e:stepOk ahead l=false:=by simp [stepOk,hl]
   rw [e] at q
   refine iteNT (fun z=>hl ?_) q
   rw [List.length_map] at z
   have:=V.int.inj z
   lia
abbrev s_look_wide:Stmt:=top 16
theorem sc_look_wide:FnScope ["wide"] ["wide"] (defScope s_look_wide):=⟨rfl,rfl,rfl,by decide +kernel,rfl,by decide +kernel,by decide +kernel⟩
theorem ok_look_wide {f:Addr}{fd:FuncData}(F:Fun K "look_wide" "look_wide" s_look_wide f fd) (T:Txt K mg CB CK CR CT CW CS DR DT FJ FG FS FA FE P w) (d_is_within:Df P w K mg base "is_within" 2 ["value", "least", "most"] (spWithin)):FnOk P w K mg base (CX1 P w) 3 f fd ["wide"] (spWide CB):=by
 refine F.ok1 sc_look_wide (fun vs H Q E h=>?_) (fun cdv A outer s H vs Q E hr h=>?_)
 ·obtain ⟨i,rfl,q1,q2⟩:=h;rfl
 ·obtain ⟨i,rfl,q1,q2⟩:=h
  have nd:=sc_look_wide.nd
  refine⟨_,(pss_one (ps_if (pt_not (pt_truth (pe_own d_is_within (hr.mono (by first|decide|lia)) rfl pass1 (pa_cons (pv 0) (pa_cons pe_int (pa_cons (pe_glob (v:=.int 64) rfl T.g_MOST_THINGS.choose_spec ⟨_,rfl⟩) pa_nil)))) (fun _=>rfl)))
   (pss_one (ps_raise rfl throws1 T.x_BadNet rfl (pa_cons (pe_fstr (pj_cons pe_str (pj_cons (pe_fv (pe_glob (v:=.int 64) rfl T.g_MOST_THINGS.choose_spec ⟨_,rfl⟩)) (pj_cons pe_str pj_nil)))) pa_nil)))
   pss_nil)),?_⟩
  skip
  refine⟨i,1,64,rfl,?_⟩
  refine⟨_,rfl,?_⟩
  refine iteN (fun h2=>?_) (fun h2=>?_)
  ·exact⟨_,rfl,fA _ (by decide),_,rfl,(by decide),_,rfl,fB _ (by decide) (by decide),_,rfl,fC _ _ (by decide) (by decide) (by decide),fC _ _ (by decide) (by decide) (by decide),(by decide),q2 (fun z=>by simp at h2;lia)⟩
  ·exact q1 (by simp at h2;lia)
abbrev s_look_steps:Stmt:=top 17
theorem sc_look_steps:FnScope ["wide", "steps", "place", "step"] ["wide", "steps"] (defScope s_look_steps):=⟨rfl,rfl,rfl,by decide +kernel,rfl,by decide +kernel,by decide +kernel⟩
inductive Iv_look_steps_0 (H:Hp) (i:Int) (sa:Addr) (ls:List (List Int)) (j:Nat) (σ2:L2.St) (H2:Hp):Prop
 | mk:∀v2 v3,(σ2=[some (.int i),some (.ref sa),v2,v3])→(Same H H2)→(∀(m:Nat) l,m<j→ls[m]? = some l→stepOk (i+m) l=true)→Iv_look_steps_0 H i sa ls j σ2 H2
theorem ok_look_steps {f:Addr}{fd:FuncData}(F:Fun K "look_steps" "look_steps" s_look_steps f fd) (T:Txt K mg CB CK CR CT CW CS DR DT FJ FG FS FA FE P w) (d_is_step:Df P w K mg base "is_step" 4 ["value", "ahead"] (spStep)):FnOk P w K mg base (CX1 P w) 5 f fd ["wide", "steps"] (spSteps CB):=by
 refine F.ok1 sc_look_steps (fun vs H Q E h=>?_) (fun cdv A outer s H vs Q E hr h=>?_)
 ·obtain ⟨i,sa,rs,ls,rfl,hsa,hst,k⟩:=h;rfl
 ·obtain ⟨i,sa,rs,ls,rfl,hsa,hst,k⟩:=h
  have nd:=sc_look_steps.nd
  refine⟨_,(pss_cons (ps_if (PW.pt (pw_or (pt_not (pt_truth (pe_callB call_isi rfl T.z_isinstance boot_isinstance (pa_cons (pv 1) (pa_cons (pe_bltn (v:=.ty "list") rfl T.z_list boot_list rfl) pa_nil))) (fun _=>rfl))) (pw_or1 (pt_cmpR op_gt (pe_callB call_len_seq rfl T.z_len boot_len (pa_cons (pv 1) pa_nil)) (pe_glob (v:=.int 500) rfl T.g_MOST_STEPS.choose_spec ⟨_,rfl⟩) (nomark _)))))
   (pss_one (ps_raise rfl throws1 T.x_BadNet rfl (pa_cons (pe_fstr (pj_cons pe_str (pj_cons (pe_fv (pe_glob (v:=.int 500) rfl T.g_MOST_STEPS.choose_spec ⟨_,rfl⟩)) (pj_cons pe_str pj_nil)))) pa_nil)))
   pss_nil)
   (pss_one (ps_for powns1 rfl (pi_enum rfl T.z_enumerate (pa_cons (pv 1) pa_nil)) (pg_tup rfl (pgs_cons (pg_name (i:=2) nd rfl (Or.inl rfl)) (pgs_cons (pg_name (i:=3) nd rfl (Or.inl rfl)) pgs_nil)))
   (pss_one (ps_if (pt_not (pt_truth (pe_own d_is_step (hr.mono (by first|decide|lia)) rfl pass1 (pa_cons (pv 3) (pa_cons (pe_op op_add (pv 0) (pv 2)) pa_nil))) (fun _=>rfl)))
   (pss_one (ps_raise rfl throws1 T.x_BadNet rfl (pa_cons (pe_fstr (pj_cons pe_str (pj_cons (pe_fv (pv 2)) (pj_cons pe_str pj_nil)))) pa_nil)))
   pss_nil))))),?_⟩
  skip
  have hll:=hst.length
  refine⟨_,_,_,_,true,rfl,rfl,.lst hsa,rfl,true,rfl,?_⟩
  refine⟨_,_,rfl,.inl (SqL.of hsa),?_⟩
  refine iteB (fun h1=>?_) (fun h1=>?_)
  ·refine⟨_,rfl,fA _ (by decide),_,rfl,(by decide),_,rfl,fB _ (by decide) (by decide),_,rfl,fC _ _ (by decide) (by decide) (by decide),fC _ _ (by decide) (by decide) (by decide),(by decide),(k H (Same.refl H)).2 (fun z=>by simp at h1;lia)⟩
  ·refine⟨sa,rfl,⟨_,SqL.of hsa⟩,for_enum (K:=K) (a:=sa) (xs:=rs) (Iv_look_steps_0 H i sa ls)
    ⟨_,_,rfl,Same.refl H,fun m l hm=>absurd hm (Nat.not_lt_zero _)⟩ (fun j σ2 H2 _ ⟨_,_,_,s2,_⟩=>SqL.of (s2 _ _ hsa)) ?_ ?_⟩
   ·rintro j x σ2 H2 p hx ⟨v2,v3,rfl,s2,hok⟩ hp
    refine L2.ob_eeaa (hst.get hx) fun r l e_2 hl hr0=>?_;subst e_2
    have s3:Same H (upd H2 p (.tup [.int j,.ref r])):=s2.upd (s2.free hp)
    refine⟨p,_,rfl,SqT.of upd_same,rfl,?_⟩
    refine⟨r,l,_,rfl,s3 _ _ hr0,_,rfl,?_⟩
    have hj:j≤16777216:=by
     have:=(List.getElem?_eq_some_iff.mp hx).1
     simp at h1
     lia
    refine iteN (fun h2=>?_) (fun h2=>?_)
    ·refine⟨_,rfl,fA _ (by decide),_,rfl,log2_small hj,_,rfl,fB _ (by decide) (log2_small hj),_,rfl,fC _ _ (by decide) (by decide) (log2_small hj),fC _ _ (by decide) (by decide) (log2_small hj),(show 1≤sizeLine by decide),(k _ s3).2 (fun z=>?_)⟩
     have:=z.2 j l hl
     rw [h2] at this;cases this
    ·refine⟨_,_,rfl,s3,fun m l' hm hl'=>?_⟩
     by_cases e:m=j
     ·subst e
      rw [hl] at hl';obtain rfl:=Option.some.inj hl'
      exact h2
     ·exact hok m l' (by lia) hl'
   ·rintro σ2 H2 ⟨v2,v3,rfl,s2,hok⟩
    refine (k H2 s2).1 ⟨by simp at h1;lia,fun m l hl=>hok m l ?_ hl⟩
    rw [hll];exact (List.getElem?_eq_some_iff.mp hl).1
abbrev s_look_outs:Stmt:=top 18
theorem sc_look_outs:FnScope ["wide", "steps", "outs", "place", "out"] ["wide", "steps", "outs"] (defScope s_look_outs):=⟨rfl,rfl,rfl,by decide +kernel,rfl,by decide +kernel,by decide +kernel⟩
inductive Iv_look_outs_0 (H:Hp) (i:Int) (sa:Addr) (oa:Addr) (rs:List V) (outs:List Int) (j:Nat) (σ2:L2.St) (H2:Hp):Prop
 | mk:∀v2 v3,(σ2=[some (.int i),some (.ref sa),some (.ref oa),v2,v3])→(Same H H2)→(∀(m:Nat) v,m<j→outs[m]? = some v→0≤v∧v<i+rs.length)→Iv_look_outs_0 H i sa oa rs outs j σ2 H2
theorem ok_look_outs {f:Addr}{fd:FuncData}(F:Fun K "look_outs" "look_outs" s_look_outs f fd) (T:Txt K mg CB CK CR CT CW CS DR DT FJ FG FS FA FE P w) (d_is_node:Df P w K mg base "is_node" 3 ["value", "ahead"] (spNode)):FnOk P w K mg base (CX1 P w) 4 f fd ["wide", "steps", "outs"] (spOuts CB):=by
 refine F.ok1 sc_look_outs (fun vs H Q E h=>?_) (fun cdv A outer s H vs Q E hr h=>?_)
 ·obtain ⟨i,sa,oa,rs,outs,rfl,hol,hsa,hoa,k⟩:=h;rfl
 ·obtain ⟨i,sa,oa,rs,outs,rfl,hol,hsa,hoa,k⟩:=h
  have nd:=sc_look_outs.nd
  refine⟨_,(pss_cons (ps_if (PW.pt (pw_or (pt_not (pt_truth (pe_callB call_isi rfl T.z_isinstance boot_isinstance (pa_cons (pv 2) (pa_cons (pe_bltn (v:=.ty "list") rfl T.z_list boot_list rfl) pa_nil))) (fun _=>rfl))) (pw_or1 (pt_cmpR op_ne (pe_callB call_len_seq rfl T.z_len boot_len (pa_cons (pv 2) pa_nil)) (pv 0) (nomark _)))))
   (pss_one (ps_raise rfl throws1 T.x_BadNet rfl (pa_cons pe_str pa_nil)))
   pss_nil)
   (pss_one (ps_for powns1 rfl (pi_enum rfl T.z_enumerate (pa_cons (pv 2) pa_nil)) (pg_tup rfl (pgs_cons (pg_name (i:=3) nd rfl (Or.inl rfl)) (pgs_cons (pg_name (i:=4) nd rfl (Or.inl rfl)) pgs_nil)))
   (pss_one (ps_if (pt_not (pt_truth (pe_own d_is_node (hr.mono (by first|decide|lia)) rfl pass1 (pa_cons (pv 4) (pa_cons (pe_op op_add (pv 0) (pe_callB call_len_seq rfl T.z_len boot_len (pa_cons (pv 1) pa_nil))) pa_nil))) (fun _=>rfl)))
   (pss_one (ps_raise rfl throws1 T.x_BadNet rfl (pa_cons (pe_fstr (pj_cons pe_str (pj_cons (pe_fv (pv 3)) (pj_cons pe_str pj_nil)))) pa_nil)))
   pss_nil))))),?_⟩
  skip
  refine⟨_,_,_,_,true,rfl,rfl,.lst hoa,rfl,true,rfl,?_⟩
  refine⟨_,_,rfl,.inl (SqL.of hoa),?_⟩
  by_cases h1:(outs.length:Int)=i
  ·refine iteNS (by rw [List.length_map,h1]) ?_
   refine⟨oa,rfl,⟨_,SqL.of hoa⟩,for_enum (K:=K) (a:=oa) (xs:=outs.map V.int) (Iv_look_outs_0 H i sa oa rs outs)
    ⟨_,_,rfl,Same.refl H,fun m l hm=>absurd hm (Nat.not_lt_zero _)⟩ (fun j σ2 H2 _ ⟨_,_,_,s2,_⟩=>SqL.of (s2 _ _ hoa)) ?_ ?_⟩
   ·rintro j x σ2 H2 p hx ⟨v2,v3,rfl,s2,hok⟩ hp
    rw [List.getElem?_map] at hx
    refine L2.ob_ea (Option.map_eq_some_iff.mp hx) fun v hv e_2=>?_;subst e_2
    have s3:Same H (upd H2 p (.tup [.int j,.int v])):=s2.upd (s2.free hp)
    refine⟨p,_,rfl,SqT.of upd_same,rfl,?_⟩
    refine⟨_,_,rfl,.inl (SqL.of (s3 _ _ hsa)),v,_,rfl,_,rfl,?_⟩
    have hj:j≤16777216:=by
     have h3:=(List.getElem?_eq_some_iff.mp hv).1
     lia
    refine iteN (fun h2=>?_) (fun h2=>?_)
    ·refine⟨_,rfl,fA _ (by decide),_,rfl,log2_small hj,_,rfl,fB _ (by decide) (log2_small hj),_,rfl,fC _ _ (by decide) (by decide) (log2_small hj),fC _ _ (by decide) (by decide) (log2_small hj),(show 1≤sizeLine by decide),(k _ s3).2 (fun z=>?_)⟩
     have:=z.2 v (List.mem_of_getElem? hv)
     unfold nodeB at h2
     simp at h2
     lia
    ·refine⟨_,_,rfl,s3,fun m v' hm hv'=>?_⟩
     by_cases e:m=j
     ·subst e
      rw [hv] at hv';obtain rfl:=Option.some.inj hv'
      unfold nodeB at h2
      simp at h2
      lia
     ·exact hok m v' (by lia) hv'
   ·rintro σ2 H2 ⟨v2,v3,rfl,s2,hok⟩
    refine (k H2 s2).1 ⟨h1,fun v hv=>?_⟩
    obtain ⟨m,hm⟩:=List.getElem?_of_mem hv
    exact hok m v (by rw [List.length_map];exact (List.getElem?_eq_some_iff.mp hm).1) hm
  ·refine iteNT (fun z=>h1 ?_) ⟨by decide,(k H (Same.refl H)).2 (fun z=>h1 z.1)⟩
   rw [List.length_map] at z
   exact V.int.inj z
abbrev s_look_net:Stmt:=top 15
theorem sc_look_net:FnScope ["net"] ["net"] (defScope s_look_net):=⟨rfl,rfl,rfl,by decide +kernel,rfl,by decide +kernel,by decide +kernel⟩
theorem ok_look_net {f:Addr}{fd:FuncData}(F:Fun K "look_net" "look_net" s_look_net f fd) (T:Txt K mg CB CK CR CT CW CS DR DT FJ FG FS FA FE P w) (d_look_wide:Df P w K mg base "look_wide" 3 ["wide"] (spWide CB)) (d_look_steps:Df P w K mg base "look_steps" 5 ["wide", "steps"] (spSteps CB)) (d_look_outs:Df P w K mg base "look_outs" 4 ["wide", "steps", "outs"] (spOuts CB)):FnOk P w K mg base (CX1 P w) 6 f fd ["net"] (spLook CB):=by
 refine F.ok1 sc_look_net (fun vs H Q E h=>?_) (fun cdv A outer s H vs Q E hr h=>?_)
 ·obtain ⟨a,sa,oa,rs,wide,steps,outs,rfl,hol,n,k⟩:=h;rfl
 ·obtain ⟨a,sa,oa,rs,wide,steps,outs,rfl,hol,n,k⟩:=h
  have nd:=sc_look_net.nd
  refine⟨_,(pss_cons (ps_if (PW.pt (pw_or (pt_not (pt_truth (pe_callB call_isi rfl T.z_isinstance boot_isinstance (pa_cons (pv 0) (pa_cons (pe_bltn (v:=.ty "tuple") rfl T.z_tuple boot_tuple rfl) pa_nil))) (fun _=>rfl))) (pw_or1 (pt_cmpR op_ne (pe_callB call_len_seq rfl T.z_len boot_len (pa_cons (pv 0) pa_nil)) pe_int (nomark _)))))
   (pss_one (ps_raise rfl throws1 T.x_BadNet rfl (pa_cons pe_str pa_nil)))
   pss_nil)
   (pss_cons (ps_expr (pe_own d_look_wide (hr.mono (by first|decide|lia)) rfl pass1 (pa_cons (pe_ix ix_tup (pv 0) pe_int (fun _ _=>rfl)) pa_nil)))
   (pss_cons (ps_expr (pe_own d_look_steps (hr.mono (by first|decide|lia)) rfl pass1 (pa_cons (pe_ix ix_tup (pv 0) pe_int (fun _ _=>rfl)) (pa_cons (pe_ix ix_tup (pv 0) pe_int (fun _ _=>rfl)) pa_nil))))
   (pss_one (ps_expr (pe_own d_look_outs (hr.mono (by first|decide|lia)) rfl pass1 (pa_cons (pe_ix ix_tup (pv 0) pe_int (fun _ _=>rfl)) (pa_cons (pe_ix ix_tup (pv 0) pe_int (fun _ _=>rfl)) (pa_cons (pe_ix ix_tup (pv 0) pe_int (fun _ _=>rfl)) pa_nil))))))))),?_⟩
  skip
  have hll:=n.st.length
  refine⟨_,_,_,_,true,rfl,rfl,.tup n.net,rfl,true,rfl,?_⟩
  refine⟨_,_,rfl,.inr (SqT.of n.net),?_⟩
  refine⟨_,_,_,_,rfl,rfl,SqT.of n.net,rfl,wide,rfl,fun h1=>?_,fun h1=>(k H (Same.refl H)).2 (fun g=>h1 ⟨g.lo,g.hi⟩)⟩
  refine⟨_,_,_,_,rfl,rfl,SqT.of n.net,rfl,_,_,_,_,rfl,rfl,SqT.of n.net,rfl,wide,sa,rs,steps,rfl,n.sts,n.st,fun H2 s2=>⟨fun h2=>?_,fun h2=>(k H2 s2).2 (fun g=>h2 ⟨g.len,g.st⟩)⟩⟩
  have n2:=n.mono s2
  refine⟨_,_,_,_,rfl,rfl,SqT.of n2.net,rfl,_,_,_,_,rfl,rfl,SqT.of n2.net,rfl,_,_,_,_,rfl,rfl,SqT.of n2.net,rfl,wide,sa,oa,rs,outs,rfl,hol,n2.sts,n2.ots,fun H3 s3=>⟨fun h3=>?_,fun h3=>(k H3 (s2.trans s3)).2 (fun g=>h3 ⟨g.ol,by rw [hll];exact g.ou⟩)⟩⟩
  rw [hll] at h3
  exact (k H3 (s2.trans s3)).1 ⟨h1.1,h1.2,h2.1,h2.2,h3.1,h3.2⟩
abbrev s_used_nodes:Stmt:=top 19
theorem sc_used_nodes:FnScope ["net", "wide", "steps", "marks", "out", "place"] ["net"] (defScope s_used_nodes):=⟨rfl,rfl,rfl,by decide +kernel,rfl,by decide +kernel,by decide +kernel⟩
inductive Iv_used_nodes_0 (H:Hp) (a:Addr) (sa:Addr) (N:NetN) (l:Addr) (i:Nat) (σ3:L2.St) (H3:Hp):Prop
 | mk:∀v v',(σ3=[some (.ref a),some (.int N.w),some (.ref sa),some (.ref l),v,v'])→(Same H H3)→(H3 l=some (.lst ((markOuts (N.ou.take i) (List.replicate (N.w+N.st.length) false)).map V.bl)))→Iv_used_nodes_0 H a sa N l i σ3 H3
inductive Iv_used_nodes_1 (H:Hp) (a:Addr) (sa:Addr) (N:NetN) (l:Addr) (i:Nat) (σ3:L2.St) (H3:Hp):Prop
 | mk:∀v v',(σ3=[some (.ref a),some (.int N.w),some (.ref sa),some (.ref l),v,v'])→(Same H H3)→(H3 l=some (.lst ((N.backTo i).map V.bl)))→Iv_used_nodes_1 H a sa N l i σ3 H3
theorem ok_used_nodes {f:Addr}{fd:FuncData}(F:Fun K "used_nodes" "used_nodes" s_used_nodes f fd) (T:Txt K mg CB CK CR CT CW CS DR DT FJ FG FS FA FE P w)  : FnOk P w K mg base (CX1 P w) 1 f fd ["net"] (spNetOk (tellBls NetN.used)):=by
 refine F.ok1 sc_used_nodes (fun vs H Q E h=>?_) (fun cdv A outer s H vs Q E hr h=>?_)
 ·obtain ⟨a,sa,oa,rs,N,rfl,n,hN,k⟩:=h;rfl
 ·obtain ⟨a,sa,oa,rs,N,rfl,n,hN,k⟩:=h
  have nd:=sc_used_nodes.nd
  refine⟨_,(pss_cons (ps_set (i:=1) nd rfl (Or.inl rfl) (pe_ix ix_tup (pv 0) pe_int (fun _ _=>rfl)))
   (pss_cons (ps_set (i:=2) nd rfl (Or.inl rfl) (pe_ix ix_tup (pv 0) pe_int (fun _ _=>rfl)))
   (pss_cons (ps_set (i:=3) nd rfl (Or.inl rfl) (pe_op op_rep (pe_lst (pa_cons pe_bl pa_nil)) (pe_op op_add (pv 1) (pe_callB call_len_seq rfl T.z_len boot_len (pa_cons (pv 2) pa_nil)))))
   (pss_cons (ps_for powns1 rfl (pi_list (pe_ix ix_tup (pv 0) pe_int (fun _ _=>rfl))) (pg_name (i:=4) nd rfl (Or.inl rfl))
   (pss_one (ps_asg pe_bl (pg_sub (pv 3) (pv 4) set_list))))
   (pss_cons (ps_for powns1 rfl (pi_down rfl T.z_range (pa_cons (pe_op op_sub (pe_callB call_len_seq rfl T.z_len boot_len (pa_cons (pv 2) pa_nil)) pe_int) (pa_cons (pe_un un_neg pe_int) (pa_cons (pe_un un_neg pe_int) pa_nil)))) (pg_name (i:=5) nd rfl (Or.inl rfl))
   (pss_one (ps_if (pt_truth (pe_ix ix_list (pv 3) (pe_op op_add (pv 1) (pv 5)) (fun _ _=>rfl)) (fun _=>rfl))
   (pss_cons (ps_asg pe_bl (pg_sub (pv 3) (pe_ix ix_tup (pe_ix ix_list (pv 2) (pv 5) (fun _ _=>rfl)) pe_int (fun _ _=>rfl)) set_list))
   (pss_one (ps_asg pe_bl (pg_sub (pv 3) (pe_ix ix_tup (pe_ix ix_list (pv 2) (pv 5) (fun _ _=>rfl)) pe_int (fun _ _=>rfl)) set_list))))
   pss_nil)))
   (pss_one (ps_ret (pv 3)))))))),?_⟩
  skip
  have hw:=hN.hi
  have hln:=hN.len
  have hrl:rs.length=N.st.length:=by rw [n.st.length,steps_len]
  refine⟨_,_,_,_,rfl,rfl,SqT.of n.net,rfl,?_⟩
  refine⟨_,_,_,_,rfl,rfl,SqT.of n.net,rfl,?_⟩
  refine⟨(show 1≤sizeLine by decide),fun q hq=>?_⟩
  have s3:Same H (upd H q (.lst [.bl false])):=Same.new hq
  refine⟨_,_,rfl,.inl (SqL.of (s3 _ _ n.sts)),q,_,_,rfl,rfl,upd_same,by solve_by_elim,by lia,fits (by simp;lia),fun l hl=>?_⟩
  have hlH:H l=none:=s3.free hl
  have s4:∀o,Same H (upd (upd H q (.lst [.bl false])) l o):=fun o=>s3.upd hlH
  have e1:((N.w:Int)+(rs.length:Int)).toNat=N.w+N.st.length:=by lia
  rw [e1,rep_bl]
  refine⟨_,_,_,_,rfl,rfl,SqT.of (s4 _ _ _ n.net),rfl,oa,rfl,⟨_,SqL.of (s4 _ _ _ n.ots)⟩,for_list (K:=K) (a:=oa) (xs:=N.outs.map V.int) (Iv_used_nodes_0 H a sa N l)
   ⟨_,_,rfl,s4 _,by rw [upd_same];rfl⟩ (fun i σ3 H3 _ ⟨_,_,_,s5,_⟩=>SqL.of (s5 _ _ n.ots)) ?_ ?_⟩
  ·rintro i x σ3 H3 hx ⟨v,v',rfl,s5,hl3⟩
   refine L2.ob_ea (outs_get hx) fun o ho e_2=>?_;subst e_2
   have hob:=hN.ob o (List.mem_of_getElem? ho)
   refine⟨l,_,_,o,rfl,rfl,hl3,ixN_nat (by rw [List.length_map,markOuts_len,List.length_replicate];exact hob),?_⟩
   refine⟨_,_,rfl,s5.upd hlH,?_⟩
   rw [upd_same]
   unfold markOuts
   rw [foldl_take _ _ _ _ _ ho,List.map_set]
  ·rintro σ3 H3 ⟨v,v',rfl,s5,hl3⟩
   have e0:markOuts (N.ou.take (N.outs.map V.int).length) (List.replicate (N.w+N.st.length) false)=N.marks0:=by
    rw [List.length_map,outs_len,List.take_length];rfl
   rw [e0] at hl3
   refine⟨_,_,rfl,.inl (SqL.of (s5 _ _ n.sts)),_,_,rfl,⟨by lia,by lia,by exact Int.natCast_nonneg _,by exact Int.natCast_nonneg _⟩,?_⟩
   have e2:((rs.length:Int) - 1 - -1).toNat=N.st.length:=by lia
   rw [e2]
   refine for_down (lo:=(rs.length:Int) - 1) (n:=N.st.length) (Iv_used_nodes_1 H a sa N l)
    ⟨_,_,rfl,s5,hl3⟩ ?_ ?_
   ·rintro i σ3 H3 hi ⟨v,v',rfl,s5,hl3⟩
    have hk:N.st.length - 1 - i<N.st.length:=by lia
    have e3:(rs.length:Int) - 1 - (i:Int)=((N.st.length - 1 - i:Nat):Int):=by lia
    have e4:(N.w:Int)+((N.st.length - 1 - i:Nat):Int)=((N.w+(N.st.length - 1 - i):Nat):Int):=by rfl
    have hbl:=N.backTo_len i
    obtain ⟨p,hp⟩:∃p,N.st[N.st.length - 1 - i]? = some p:=⟨_,List.getElem?_eq_getElem hk⟩
    obtain ⟨p1,p2⟩:=hN.s1 _ p hp
    rw [e3]
    refine⟨l,_,_,.bl ((N.backTo i).getD (N.w+(N.st.length - 1 - i)) false),rfl,rfl,SqL.of hl3,(by rw [e4];exact atI_bls (by lia)),_,rfl,?_⟩
    have hD:N.st.getD (N.st.length - 1 - i) (0,0)=p:=by rw [List.getD_eq_getElem?_getD,hp];rfl
    refine iteB (fun h1=>?_) (fun h1=>?_)
    ·obtain ⟨x,hx⟩:∃x,rs[N.st.length - 1 - i]? = some x:=⟨_,List.getElem?_eq_getElem (by lia)⟩
     refine L2.ob_eeaa (NetN.Ok.steps_get n.st hx) fun r p' e_2 hp' hr0=>?_;subst e_2
     rw [hp] at hp';obtain rfl:=Option.some.inj hp'
     refine⟨sa,_,_,_,rfl,rfl,SqL.of (s5 _ _ n.sts),atI_nat hx,r,_,_,_,rfl,rfl,SqT.of (s5 _ _ hr0),rfl,l,_,_,p.1,rfl,rfl,hl3,ixN_nat (by rw [List.length_map];lia),?_⟩
     have s6:∀o,Same H (upd H3 l o):=fun o=>s5.upd hlH
     refine⟨sa,_,_,_,rfl,rfl,SqL.of (s6 _ _ _ n.sts),atI_nat hx,r,_,_,_,rfl,rfl,SqT.of (s6 _ _ _ hr0),rfl,l,_,_,p.2,rfl,rfl,upd_same,ixN_nat (by rw [List.length_set,List.length_map];lia),?_⟩
     refine⟨_,_,rfl,(s6 _).upd hlH,?_⟩
     rw [upd_same]
     show _=some (HO.lst ((N.bstep (N.st.length - 1 - i) (N.backTo i)).map V.bl))
     unfold NetN.bstep
     rw [if_pos h1,hD,List.map_set,List.map_set]
    ·refine⟨_,_,rfl,s5,?_⟩
     show _=some (HO.lst ((N.bstep (N.st.length - 1 - i) (N.backTo i)).map V.bl))
     unfold NetN.bstep
     rw [if_neg (by rw [h1];exact Bool.false_ne_true)]
     exact hl3
   ·rintro σ3 H3 ⟨v,v',rfl,s5,hl3⟩
    conv=>whnf
    rw [N.used_backTo] at hl3
    exact k H3 s5 l hl3
end
end K10

namespace K10
open PySem L2 NM PyProof.Rows
section
variable {P:Program}{w:World}{K:PySem.W.Frag}{mg:Str→Option Value}{base:Heap}{CB CK CR CT CW CS DR DT FJ FG FS FA FE PT:Addr}
abbrev s_joined:Stmt:=top 22
theorem sc_joined:FnScope ["one", "other"] ["one", "other"] (defScope s_joined):=⟨rfl,rfl,rfl,by decide +kernel,rfl,by decide +kernel,by decide +kernel⟩
theorem ok_joined {f:Addr}{fd:FuncData}(F:Fun K "joined" "joined" s_joined f fd) (T:Txt K mg CB CK CR CT CW CS DR DT FJ FG FS FA FE P w)  : FnOk P w K mg base (CX1 P w) 1 f fd ["one", "other"] (spJoined):=by
 refine F.ok1 sc_joined (fun vs H Q E h=>?_) (fun cdv A outer s H vs Q E hr h=>?_)
 ·rcases h with ⟨_,_,rfl,_⟩|⟨_,_,_,_,rfl,_⟩|⟨_,_,rfl,_⟩ <;> rfl
 ·have h0:=h
  have nd:=sc_joined.nd
  refine⟨_,(pss_one (ps_ret (pe_op ((op_add.or op_cat).or op_add_str) (pv 0) (pv 1)))),?_⟩
  skip
  rcases h with ⟨i,j,rfl,q⟩|⟨a,b,xs,ys,rfl,ha,hb,hz,q⟩|⟨x,y,rfl,hz,q⟩
  ·exact (.inl (.inl (q)))
  ·exact (.inl (.inr ⟨_,_,_,_,rfl,rfl,ha,hb,hz,q⟩))
  ·exact (.inr ⟨_,_,rfl,rfl,hz,q⟩)
abbrev s_span_joined:Stmt:=top 24
theorem sc_span_joined:FnScope ["one", "other"] ["one", "other"] (defScope s_span_joined):=⟨rfl,rfl,rfl,by decide +kernel,rfl,by decide +kernel,by decide +kernel⟩
theorem ok_span_joined {f:Addr}{fd:FuncData}(F:Fun K "span_joined" "span_joined" s_span_joined f fd) (T:Txt K mg CB CK CR CT CW CS DR DT FJ FG FS FA FE P w)  : FnOk P w K mg base (CX1 P w) 1 f fd ["one", "other"] (spSpan):=by
 refine F.ok1 sc_span_joined (fun vs H Q E h=>?_) (fun cdv A outer s H vs Q E hr h=>?_)
 ·obtain ⟨x,y,a,b,rfl,hx,hy,q⟩:=h;rfl
 ·obtain ⟨x,y,a,b,rfl,hx,hy,q⟩:=h
  have nd:=sc_span_joined.nd
  refine⟨_,(pss_cons (ps_if (PW.pt (pw_or (pt_cmpR op_isN (pv 0) pe_non (nomark _)) (pw_or (pt_cmpR op_isN (pv 1) pe_non (nomark _)) (pw_or1 (pt_cmpR op_ne (pe_ix ix_tup (pv 0) pe_int (fun _ _=>rfl)) (pe_ix ix_tup (pv 1) pe_int (fun _ _=>rfl)) (nomark _))))))
   (pss_one (ps_ret pe_non))
   pss_nil)
   (pss_one (ps_ret (pe_tup (pa_cons (pe_ix ix_tup (pv 0) pe_int (fun _ _=>rfl)) (pa_cons (pe_ix ix_tup (pv 1) pe_int (fun _ _=>rfl)) pa_nil)))))),?_⟩
  skip
  cases a with
  | none =>
   have hx':x=.non:=hx
   subst hx'
   exact⟨rfl,((q _ H (Same.refl H) (by cases b <;> rfl) (by first|(rintro _ _ ⟨⟩;done)|(rintro _ ⟨⟩;done)|(rintro ⟨⟩;done)|nofun)))⟩
  | some ab =>
   obtain ⟨a,a'⟩:=ab
   obtain ⟨p,rfl,hp⟩:=hx
   refine⟨rfl,?_⟩
   cases b with
   | none =>
    have hy':y=.non:=hy
    subst hy'
    exact⟨rfl,((q _ H (Same.refl H) rfl (by first|(rintro _ _ ⟨⟩;done)|(rintro _ ⟨⟩;done)|(rintro ⟨⟩;done)|nofun)))⟩
   | some bb =>
    obtain ⟨b,b'⟩:=bb
    obtain ⟨r,rfl,hr0⟩:=hy
    refine⟨rfl,?_⟩
    refine⟨_,_,_,_,rfl,rfl,SqT.of hp,rfl,_,_,_,_,rfl,rfl,SqT.of hr0,rfl,?_⟩
    by_cases e:a'=b
    ·subst e
     refine iteNS rfl ?_
     refine⟨_,_,_,_,rfl,rfl,SqT.of hp,rfl,_,_,_,_,rfl,rfl,SqT.of hr0,rfl,(show 2≤sizeLine by decide),fun t ht=>?_⟩
     exact q _ _ (Same.new ht) (by show spanV _ _ (if a'=a' then _ else _);rw [if_pos rfl];exact⟨t,rfl,upd_same⟩) (fun z e=>by cases e;exact ht)
    ·refine iteNT (fun z=>e ?_) ?_
     ·have:=V.int.inj z
      lia
     ·exact q _ H (Same.refl H) (by show spanV _ _ (if a'=b then _ else _);rw [if_neg e];rfl) (by first|(rintro _ _ ⟨⟩;done)|(rintro _ ⟨⟩;done)|(rintro ⟨⟩;done)|nofun)
abbrev s_in_line:Stmt:=top 34
theorem sc_in_line:FnScope ["row", "together", "sums", "thing"] ["row", "together"] (defScope s_in_line):=⟨rfl,rfl,rfl,by decide +kernel,rfl,by decide +kernel,by decide +kernel⟩
inductive Iv_in_line_0 (H:Hp) (ra:Addr) (f:Addr) (xs:List V) (R:RWd) (sm:Addr) (p:Addr) (j:Nat) (σ3:L2.St) (H3:Hp):Prop
 | mk:∀(v3:Option V) (zs:List V),(σ3=[some (.ref ra),some (.ref f),some (.ref sm),v3])→(Same H H3)→(H3 p=some (.lst (xs.drop 1)))→(H3 sm=some (.lst zs))→(zs.length=j+1)→(∀(i:Nat) z,zs[i]? = some z→z ≠ .ref sm∧R H3 z (List.range (i+1)))→Iv_in_line_0 H ra f xs R sm p j σ3 H3
theorem ok_in_line {f:Addr}{fd:FuncData}(F:Fun K "in_line" "in_line" s_in_line f fd) (T:Txt K mg CB CK CR CT CW CS DR DT FJ FG FS FA FE P w)  : FnOk P w K mg base (CX1 P w) 2 f fd ["row", "together"] (spInLine P w K mg base):=by
 refine F.ok1 sc_in_line (fun vs H Q E h=>?_) (fun cdv A outer s H vs Q E hr h=>?_)
 ·obtain ⟨ra,f,xs,R,ok,rfl,hq,hne,hl,loc,dv,hrow,hok,k⟩:=h;rfl
 ·obtain ⟨ra,f,xs,R,ok,rfl,hq,hne,hl,loc,dv,hrow,hok,k⟩:=h
  have nd:=sc_in_line.nd
  refine⟨_,(pss_cons (ps_set (i:=2) nd rfl (Or.inl rfl) (pe_slice sl_list (pv 0) po_none (po_some pe_int)))
   (pss_cons (ps_for powns1 rfl (pi_list (pe_slice sl_list (pv 0) (po_some pe_int) po_none)) (pg_name (i:=3) nd rfl (Or.inl rfl))
   (pss_one (ps_expr (pe_bm PySem.F.plainAttrs_list PySem.F.slot_list_append PySem.F.type_list_append mt_append (pv 2) (pa_cons (pe_callV (k:=1) 1 (hr.mono (by first|decide|lia)) pass1 (pa_cons (pe_ix ix_list (pv 2) (pe_un un_neg pe_int) (fun _ _=>rfl)) (pa_cons (pv 3) pa_nil))) pa_nil)))))
   (pss_one (ps_ret (pv 2))))),?_⟩
  skip
  have hpos:0<xs.length:=List.length_pos_iff.mpr hne
  refine⟨ra,xs,rfl,hq,fun sm g1=>?_⟩
  rw [show cutV xs none (some 1)=xs.take 1 from cutL_take xs 1]
  have q1:=(Same.new (o:=.lst (xs.take 1)) g1).seq hq
  refine⟨ra,xs,rfl,q1,fun p g2=>?_⟩
  rw [show cutV xs (some 1) none=xs.drop 1 from cutL_drop xs 1]
  have f2:H p=none:=(Same.new g1).free g2
  have np:sm≠p:=fun z=>by rw [←z,upd_same] at g2;exact L2.sn_ g2
  refine⟨p,rfl,⟨_,SqL.of upd_same⟩,for_list (K:=K) (a:=p) (xs:=xs.drop 1) (Iv_in_line_0 H ra f xs R sm p)
   ⟨_,xs.take 1,rfl,(Same.new g1).trans (Same.new g2),upd_same,new_at g2 upd_same,by rw [List.length_take];lia,fun i z hz=>?_⟩ (fun j σ3 H3 _ ⟨_,_,_,_,hp,_,_,_⟩=>SqL.of hp) ?_ ?_⟩
  ·have hi:i<1:=by have:=(List.getElem?_eq_some_iff.mp hz).1;rw [List.length_take] at this;lia
   rw [List.getElem?_take_of_lt hi] at hz
   have e:i=0:=by lia
   subst e
   have hr0:=hrow 0 z hz
   exact⟨loc.ne hr0 g1,loc.mono ((Same.new g1).trans (Same.new g2)) hr0⟩
  ·rintro j x σ3 H3 hx ⟨v3,zs,rfl,s3,hp,hs,hzl,hz⟩
   rw [List.getElem?_drop] at hx
   have hjl:1+j<xs.length:=(List.getElem?_eq_some_iff.mp hx).1
   obtain ⟨z,hzj⟩:∃z,zs[j]? = some z:=⟨_,List.getElem?_eq_getElem (by lia)⟩
   refine⟨.inl ⟨rfl,_,SqL.of hs⟩,f,rfl,_,dv,sm,zs,-1,z,rfl,rfl,SqL.of hs,?_,?_⟩
   ·unfold atI
    rw [hzl,ixN_last]
    exact hzj
   refine⟨z,x,List.range (j+1),[1+j],rfl,by simp,by simp,(hz j z hzj).2,loc.mono s3 (hrow _ _ hx),?_,fun z' H4 s4 r4 n4=>?_⟩
   ·have:=hok (j+1) (by lia)
    rw [List.range_succ] at this
    rw [show 1+j=j+1 by lia]
    exact this
   ·refine⟨sm,zs,z',rfl,rfl,s4 _ _ hs,fits (by lia),?_⟩
    refine⟨_,_,rfl,(s3.trans s4).upd g1,by rw [upd_ne (Ne.symm np)];exact s4 _ _ hp,upd_same,by simp [hzl],fun i y hy=>?_⟩
    have ne':z' ≠ .ref sm:=fun e=>by rw [n4 _ e] at hs;exact L2.ns_ hs
    by_cases hi:i<zs.length
    ·rw [List.getElem?_append_left hi] at hy
     obtain ⟨h1,h2⟩:=hz i y hy
     exact⟨h1,loc.upd h1 (loc.mono s4 h2)⟩
    ·have hil:i=zs.length:=by
      have:=(List.getElem?_eq_some_iff.mp hy).1
      simp at this
      lia
     rw [hil,List.getElem?_concat_length] at hy
     obtain rfl:=Option.some.inj hy
     refine⟨ne',loc.upd ne' ?_⟩
     rw [hil,hzl,List.range_succ,show j+1=1+j by lia]
     rw [show j+1=1+j by lia] at r4
     exact r4
  ·rintro σ3 H3 ⟨v3,zs,rfl,s3,hp,hs,hzl,hz⟩
   refine (k H3 sm zs s3 hs g1 ?_ fun i z hzi=>(hz i z hzi).2)
   rw [hzl,List.length_drop]
   lia
abbrev s_outs_by:Stmt:=top 20
theorem sc_outs_by:FnScope ["net", "row", "together", "marks", "values", "step"] ["net", "row", "together"] (defScope s_outs_by):=⟨rfl,rfl,rfl,by decide +kernel,rfl,by decide +kernel,by decide +kernel⟩
inductive Iv_outs_by_0 (N:NetN) (H3:Hp) (zs:List V) (i:Nat) (ys:List V) (H5:Hp):Prop
 | mk:(H5=H3)→(ys.length=i)→(∀(k o:Nat) (z:V),N.ou[k]? = some o→ys[k]? = some z→zs[o]? = some z)→Iv_outs_by_0 N H3 zs i ys H5
theorem ok_outs_by {f:Addr}{fd:FuncData}(F:Fun K "outs_by" "outs_by" s_outs_by f fd) (T:Txt K mg CB CK CR CT CW CS DR DT FJ FG FS FA FE P w) (d_used_nodes:Df P w K mg base "used_nodes" 1 ["net"] (spNetOk (tellBls NetN.used))):FnOk P w K mg base (CX1 P w) 2 f fd ["net", "row", "together"] (spOutsBy P w K mg base):=by
 refine F.ok1 sc_outs_by (fun vs H Q E h=>?_) (fun cdv A outer s H vs Q E hr h=>?_)
 ·obtain ⟨n,sa,oa,ra,f,rs,xs,N,R,ok,rfl,hn,hN,hq,hxl,loc,dv,hrow,hok,k⟩:=h;rfl
 ·obtain ⟨n,sa,oa,ra,f,rs,xs,N,R,ok,rfl,hn,hN,hq,hxl,loc,dv,hrow,hok,k⟩:=h
  have nd:=sc_outs_by.nd
  refine⟨_,(pss_cons (ps_set (i:=3) nd rfl (Or.inl rfl) (pe_own d_used_nodes (hr.mono (by first|decide|lia)) rfl pass1 (pa_cons (pv 0) pa_nil)))
   (pss_cons (ps_set (i:=4) nd rfl (Or.inr rfl) (pe_callTy call_list_of rfl T.z_list boot_list (pa_cons (pv 1) pa_nil)))
   (pss_cons (ps_for powns1 rfl (pi_list (pe_ix ix_tup (pv 0) pe_int (fun _ _=>rfl))) (pg_name (i:=5) nd rfl (Or.inl rfl))
   (pss_one (ps_if (pt_truth (pe_ix ix_list (pv 3) (pe_callB call_len_seq rfl T.z_len boot_len (pa_cons (pv 4) pa_nil)) (fun _ _=>rfl)) (fun _=>rfl))
   (pss_one (ps_expr (pe_bm PySem.F.plainAttrs_list PySem.F.slot_list_append PySem.F.type_list_append mt_append (pv 4) (pa_cons (pe_callV (k:=1) 2 (hr.mono (by first|decide|lia)) pass1 (pa_cons (pe_ix ix_list (pv 4) (pe_ix ix_tup (pv 5) pe_int (fun _ _=>rfl)) (fun _ _=>rfl)) (pa_cons (pe_ix ix_list (pv 4) (pe_ix ix_tup (pv 5) pe_int (fun _ _=>rfl)) (fun _ _=>rfl)) pa_nil))) pa_nil))))
   (pss_one (ps_expr (pe_bm PySem.F.plainAttrs_list PySem.F.slot_list_append PySem.F.type_list_append mt_append (pv 4) (pa_cons pe_non pa_nil)))))))
   (pss_one (ps_ret (pe_comp (ot:=none) [4] rfl (pi_list (pe_ix ix_tup (pv 0) pe_int (fun _ _=>rfl))) (fun _ _ _ _=>(pe_ix (show IxR _ (rIxL K) from ix_list) (pv 1) (pv 0) (fun _ _=>rfl))) (fun _ _ _ _=>trivial) rfl (nodupS_of rfl))))))),?_⟩
  skip
  refine⟨n,sa,oa,rs,N,rfl,hn,hN,fun H2 s2 l hl=>?_⟩
  have n2:=hn.mono s2
  have hw:=hN.hi
  have hln:=hN.len
  have hul:=N.used_len
  have hrl:rs.length=N.st.length:=by rw [n2.st.length,steps_len]
  refine⟨ra,xs,rfl,.inl (s2.seq hq),fun vl g1=>?_⟩
  have f1:H vl=none:=s2.free g1
  have s3:Same H (upd H2 vl (.lst xs)):=s2.trans (Same.new g1)
  refine⟨_,_,_,_,rfl,rfl,SqT.of (s3 _ _ hn.net),rfl,sa,rfl,⟨_,SqL.of (s3 _ _ hn.sts)⟩,for_list (K:=K) (a:=sa) (xs:=rs) (fun j σ3 H3=>∃(v5:Option V) (zs:List V),σ3=[some (.ref n),some (.ref ra),some (.ref f),some (.ref l),some (.ref vl),v5]∧OBI R N H2 H3 vl zs j)
   ⟨_,xs,rfl,Same.new g1,upd_same,hxl,fun i z hz hu=>?_⟩ (fun j σ3 H3 _ ⟨_,_,_,b⟩=>SqL.of (b.sm _ _ n2.sts)) ?_ ?_⟩
  ·have hi:i<N.w:=by rw [←hxl];exact (List.getElem?_eq_some_iff.mp hz).1
   rw [N.word_low hi]
   exact⟨loc.ne (hrow i z hz) f1,loc.mono s3 (hrow i z hz)⟩
  ·rintro j x σ3 H3 hx ⟨v5,zs,rfl,B⟩
   refine L2.ob_eeaa (NetN.Ok.steps_get n2.st hx) fun r q e_2 hqj hr0=>?_;subst e_2
   have hjl:=(List.getElem?_eq_some_iff.mp hqj).1
   obtain ⟨q1,q2⟩:=hN.s1 j q hqj
   have hzl:=B.len
   refine⟨vl,zs,rfl,.inl (SqL.of B.hv),l,_,_,.bl (N.used.getD (N.w+j) false),rfl,rfl,SqL.of (B.sm _ _ hl),(by rw [hzl];exact atI_bls (by lia)),_,rfl,iteB (fun b=>?_) (fun b=>?_)⟩
   ·obtain ⟨u1,u2⟩:=hN.used_child hqj b
    obtain ⟨z1,hz1⟩:∃z,zs[q.1]? = some z:=⟨_,List.getElem?_eq_getElem (by lia)⟩
    obtain ⟨z2,hz2⟩:∃z,zs[q.2]? = some z:=⟨_,List.getElem?_eq_getElem (by lia)⟩
    obtain ⟨m1,r1⟩:=B.val q.1 z1 hz1 (.inr u1)
    obtain ⟨m2,r2⟩:=B.val q.2 z2 hz2 (.inr u2)
    have hr4:=B.sm _ _ hr0
    have ew:=hN.word_step hqj
    refine⟨.inl ⟨rfl,_,SqL.of B.hv⟩,f,rfl,_,dv,r,_,_,_,rfl,rfl,SqT.of hr4,rfl,vl,zs,_,z1,rfl,rfl,SqL.of B.hv,atI_nat hz1,r,_,_,_,rfl,rfl,SqT.of hr4,rfl,vl,zs,_,z2,rfl,rfl,SqL.of B.hv,atI_nat hz2,?_⟩
    refine⟨z1,z2,N.words.getD q.1 [],N.words.getD q.2 [],rfl,word_ne hN (by lia),word_ne hN (by lia),r1,r2,?_,fun z H4 s5 r5 n5=>?_⟩
    ·rw [←ew]
     exact hok _ (by simp) b
    ·refine⟨vl,zs,z,rfl,rfl,s5 _ _ B.hv,fits (by lia),?_⟩
     exact⟨_,_,rfl,B.snoc g1 loc s5 (fun e=>by have:=n5 _ e;rw [B.hv] at this;exact L2.sn_ this) (fun _=>by rw [ew];exact r5)⟩
   ·refine⟨.inl ⟨rfl,_,SqL.of B.hv⟩,vl,zs,_,rfl,rfl,B.hv,fits (by lia),?_⟩
    exact⟨_,_,rfl,B.snoc g1 loc (Same.refl _) (by first|(rintro _ _ ⟨⟩;done)|(rintro _ ⟨⟩;done)|(rintro ⟨⟩;done)|nofun) (fun h=>by rw [b] at h;cases h)⟩
  ·rintro σ3 H3 ⟨v5,zs,rfl,B⟩
   have n4:=n2.mono B.sm
   have hzl:=B.len
   rw [hrl] at hzl
   have hol:N.ou.length=N.w:=hN.ol
   refine⟨_,_,_,_,rfl,rfl,SqT.of n4.net,rfl,oa,rfl,⟨_,SqL.of n4.ots⟩,comp_list (K:=K) (a:=oa) (xs:=N.outs.map V.int) (Iv_outs_by_0 N H3 zs)
    ⟨rfl,rfl,fun k o z _ h=>by simp at h⟩ (fun i ys H5 _ ⟨e,_,_⟩=>by rw [e];exact SqL.of n4.ots) (fun i ys H5 hi ⟨_,e,_⟩=>fits (by
     rw [outs_nats,List.length_map] at hi
     lia)) ?_ ?_⟩
   ·rintro i x ys H5 TT hx ⟨rfl,e,hy⟩ ht
    rw [outs_nats,List.getElem?_map] at hx
    refine L2.ob_ea (Option.map_eq_some_iff.mp hx) fun o ho e_2=>?_;subst e_2
    have hob:=hN.ob o (List.mem_of_getElem? ho)
    obtain ⟨z,hz⟩:∃z,zs[o]? = some z:=⟨_,List.getElem?_eq_getElem (by lia)⟩
    refine⟨vl,zs,_,z,rfl,rfl,SqL.of B.hv,atI_nat hz,ht _ _ ⟨rfl,by simp [e],fun k o' z' ho' hz'=>?_⟩⟩
    by_cases hk:k<ys.length
    ·rw [List.getElem?_append_left hk] at hz'
     exact hy k o' z' ho' hz'
    ·have hkl:k=ys.length:=by
      have:=(List.getElem?_eq_some_iff.mp hz').1
      rw [List.length_append] at this
      simp at this
      lia
     rw [hkl,List.getElem?_concat_length] at hz'
     obtain rfl:=Option.some.inj hz'
     rw [hkl,e,ho] at ho'
     obtain rfl:=Option.some.inj ho'
     exact hz
   ·rintro ys H5 ⟨rfl,e,hy⟩ p hp
    refine k _ p ys ((s2.trans B.sm).trans (Same.new hp)) upd_same ((s2.trans B.sm).free hp) (by rw [e,outs_nats,List.length_map];exact hol) fun i o z ho hz=>loc.mono (Same.new hp) (B.val o z (hy i o z ho hz) ?_).2
    exact .inr ((hN.used_iff o).mpr ⟨o,List.mem_of_getElem? ho,.self⟩)
end
end K10

namespace K10
open PySem L2 NM PyProof.Rows
section
variable {P:Program}{w:World}{K:PySem.W.Frag}{mg:Str→Option Value}{base:Heap}{CB CK CR CT CW CS DR DT FJ FG FS FA FE PT:Addr}
abbrev s_alone:Stmt:=top 38
theorem sc_alone:FnScope ["wide", "thing"] ["wide", "thing"] (defScope s_alone):=⟨rfl,rfl,rfl,by decide +kernel,rfl,by decide +kernel,by decide +kernel⟩
theorem ok_alone {f:Addr}{fd:FuncData}(F:Fun K "alone" "alone" s_alone f fd) (T:Txt K mg CB CK CR CT CW CS DR DT FJ FG FS FA FE P w)  : FnOk P w K mg base (CX1 P w) 1 f fd ["wide", "thing"] (spAlone):=by
 refine F.ok1 sc_alone (fun vs H Q E h=>?_) (fun cdv A outer s H vs Q E hr h=>?_)
 ·obtain ⟨w',t,rfl,hw,k⟩:=h;rfl
 ·obtain ⟨w',t,rfl,hw,k⟩:=h
  have nd:=sc_alone.nd
  refine⟨_,(pss_one (ps_ret (pe_comp (ot:=none) [1] rfl (pi_range1 rfl T.z_range (pa_cons (pv 0) pa_nil)) (fun _ _ _ _=>(pe_ifExp (pt_cmpR op_eq (pv 0) (pv 1) (nomark _)) pe_int pe_int)) (fun _ _ _ _=>trivial) rfl (nodupS_of rfl)))),?_⟩
  skip
  refine⟨_,rfl,by solve_by_elim,by lia,comp_range (fun i ys H5=>H5=H∧ys=(List.range i).map fun i=>V.int (([i].count t:Nat):Int)) ⟨rfl,rfl⟩ (fun i ys H5 hi ⟨_,e⟩=>fits (by rw [e];simp;lia)) ?_ ?_⟩
  ·rintro i ys H5 TT hi ⟨rfl,rfl⟩ ht
   conv=>whnf
   have e0:∀c:Nat,[i].count t=c→TT (.int (c:Nat)) H5:=fun c hc=>ht _ _ ⟨rfl,by rw [List.range_succ,List.map_append];simp [hc]⟩
   by_cases e:i=t
   ·subst e
    rw [decide_eq_true (show V.int (0+(i:Int))=V.int (i:Nat) by simp)]
    exact (e0 1 (by simp))
   ·rw [decide_eq_false (fun z=>e (by have:=V.int.inj z;lia))]
    exact (e0 0 (by simp [e]))
  ·rintro ys H5 ⟨rfl,rfl⟩ p hp
   exact k _ p (Same.new hp) hp (by rw [upd_same];simp)
abbrev s_first_traces:Stmt:=top 36
theorem sc_first_traces:FnScope ["wide", "kind"] ["wide", "kind"] (defScope s_first_traces):=⟨rfl,rfl,rfl,by decide +kernel,rfl,by decide +kernel,by decide +kernel⟩
theorem ok_first_traces {f:Addr}{fd:FuncData}(F:Fun K "first_traces" "first_traces" s_first_traces f fd) (T:Txt K mg CB CK CR CT CW CS DR DT FJ FG FS FA FE P w)  : FnOk P w K mg base (CX1 P w) 1 f fd ["wide", "kind"] (spTracesK):=by
 refine F.ok1 sc_first_traces (fun vs H Q E h=>?_) (fun cdv A outer s H vs Q E hr h=>?_)
 ·obtain ⟨w',x,rfl,hx,hw,k⟩:=h;rfl
 ·obtain ⟨w',x,rfl,hx,hw,k⟩:=h
  have nd:=sc_first_traces.nd
  refine⟨_,(pss_cons (ps_if (pt_cmpR op_eq (pv 1) pe_str (nomark _))
   (pss_one (ps_ret (pe_comp (ot:=none) [] rfl (pi_range1 rfl T.z_range (pa_cons (pv 0) pa_nil)) (fun _ _ _ _=>(pe_tup (pa_cons (pv 0) (pa_cons (pe_op op_add (pv 0) pe_int) pa_nil)))) (fun _ _ _ _=>trivial) rfl (nodupS_of rfl))))
   pss_nil)
   (pss_one (ps_ret (pe_comp (ot:=none) [] rfl (pi_range1 rfl T.z_range (pa_cons (pv 0) pa_nil)) (fun _ _ _ _=>(pe_op op_shl pe_int (pv 0))) (fun _ _ _ _=>trivial) rfl (nodupS_of rfl))))),?_⟩
  skip
  by_cases hany:x=kAny
  ·subst hany
   refine ?_
   refine⟨_,rfl,by lia,by lia,comp_range (fun i ys H5=>Same H H5∧ys.length=i∧∀(k:Nat) z,ys[k]? = some z→∃p,z=.ref p∧H5 p=some (.tup [.int (k:Nat),.int ((k+1:Nat):Int)])) ⟨Same.refl H,rfl,fun k z h=>by simp at h⟩ (fun i ys H5 hi ⟨_,e,_⟩=>fits (by rw [e];lia)) ?_ ?_⟩
   ·rintro i ys H5 TT hi ⟨s5,e,hy⟩ ht
    refine⟨(show 2≤sizeLine by decide),fun p hp=>ht _ _ ⟨s5.trans (Same.new hp),by simp [e],fun k z hz=>?_⟩⟩
    by_cases hk:k<ys.length
    ·rw [List.getElem?_append_left hk] at hz
     obtain ⟨q,e1,e2⟩:=hy k z hz
     exact⟨q,e1,new_at hp e2⟩
    ·have hkl:k=ys.length:=by
      have:=(List.getElem?_eq_some_iff.mp hz).1
      rw [List.length_append] at this
      simp at this
      lia
     rw [hkl,List.getElem?_concat_length] at hz
     cases hz
     refine⟨p,rfl,?_⟩
     rw [upd_same,hkl,e]
     simp
   ·rintro ys H5 ⟨s5,e,hy⟩ p hp
    refine k _ p ys (s5.trans (Same.new hp)) (s5.free hp) upd_same (by rw [e];simp) fun i z hz=>?_
    obtain ⟨q,e1,e2⟩:=hy i z hz
    rw [rt_any]
    unfold RSpan
    rw [spanOf_one]
    exact⟨q,e1,new_at hp e2⟩
  ·refine iteDF (fun z=>hany (V.str.inj z)) ?_
   refine⟨_,rfl,by lia,by lia,comp_range (fun i ys H5=>H5=H∧ys=(List.range i).map fun t=>V.int ((mask [t]:Nat):Int)) ⟨rfl,rfl⟩ (fun i ys H5 hi ⟨_,e⟩=>fits (by rw [e];simp;lia)) ?_ ?_⟩
   ·rintro i ys H5 TT hi ⟨rfl,rfl⟩ ht
    have hi:i<w':=by simpa using hi
    rw [Int.zero_add]
    refine⟨⟨by lia,by lia,by decide⟩,ht _ _ ⟨rfl,?_⟩⟩
    rw [List.range_succ,List.map_append]
    simp [mask]
   ·rintro ys H5 ⟨rfl,rfl⟩ p hp
    refine k _ p _ (Same.new hp) hp upd_same (by simp) fun i z hz=>?_
    have hil:i<w':=by have:=(List.getElem?_eq_some_iff.mp hz).1;simpa using this
    rw [List.getElem?_map,List.getElem?_range (by simpa using hil)] at hz
    cases hz
    rcases kinds_cases hx with rfl|rfl|rfl
    ·exact absurd rfl hany
    ·rw [rt_com]
     unfold RApart apartOf
     rw [if_pos (by simp)]
     rfl
    ·rw [rt_gre]
     rfl
abbrev s_look_kind:Stmt:=top 29
theorem sc_look_kind:FnScope ["kind"] ["kind"] (defScope s_look_kind):=⟨rfl,rfl,rfl,by decide +kernel,rfl,by decide +kernel,by decide +kernel⟩
theorem ok_look_kind {f:Addr}{fd:FuncData}(F:Fun K "look_kind" "look_kind" s_look_kind f fd) (T:Txt K mg CB CK CR CT CW CS DR DT FJ FG FS FA FE P w)  : FnOk P w K mg base (CX1 P w) 1 f fd ["kind"] (spKind CK):=by
 refine F.ok1 sc_look_kind (fun vs H Q E h=>?_) (fun cdv A outer s H vs Q E hr h=>?_)
 ·obtain ⟨x,rfl,q1,q2⟩:=h;rfl
 ·obtain ⟨x,rfl,q1,q2⟩:=h
  have nd:=sc_look_kind.nd
  refine⟨_,(pss_one (ps_if (pt_cmpR op_notInKD (pv 0) (pe_glob (v:=.ref _) rfl T.g_RULES rfl) (by with_unfolding_all rfl))
   (pss_one (ps_raise rfl throws1 T.x_BadKind rfl (pa_cons pe_str pa_nil)))
   pss_nil)),?_⟩
  skip
  refine⟨DR,_,Sum.inr x,rfl,T.k_RULES,rfl,?_⟩
  rw [kind_val]
  by_cases hx:x∈kinds
  ·rw [decide_eq_true hx]
   exact (q1 hx)
  ·rw [decide_eq_false hx]
   exact⟨by decide,q2 hx⟩
abbrev s_told_order:Stmt:=top 42
theorem sc_told_order:FnScope ["net", "place", "wide", "single"] ["net", "place"] (defScope s_told_order):=⟨rfl,rfl,rfl,by decide +kernel,rfl,by decide +kernel,by decide +kernel⟩
inductive Iv_told_order_0 (H3:Hp) (i:Nat) (ys:List V) (H5:Hp):Prop
 | mk:(Same H3 H5)→(ys.length=i)→(∀(k:Nat) z,ys[k]? = some z→RList H5 z [k])→Iv_told_order_0 H3 i ys H5
theorem ok_told_order {f:Addr}{fd:FuncData}(F:Fun K "told_order" "told_order" s_told_order f fd) (T:Txt K mg CB CK CR CT CW CS DR DT FJ FG FS FA FE P w) (d_outs_by:Df P w K mg base "outs_by" 2 ["net", "row", "together"] (spOutsBy P w K mg base)) (d_joined:Df P w K mg base "joined" 1 ["one", "other"] (spJoined)):FnOk P w K mg base (CX1 P w) 3 f fd ["net", "place"] (spOrder):=by
 refine F.ok1 sc_told_order (fun vs H Q E h=>?_) (fun cdv A outer s H vs Q E hr h=>?_)
 ·obtain ⟨n,sa,oa,rs,N,p,o,rfl,hn,hN,ho,hlen,k⟩:=h;rfl
 ·obtain ⟨n,sa,oa,rs,N,p,o,rfl,hn,hN,ho,hlen,k⟩:=h
  have nd:=sc_told_order.nd
  refine⟨_,(pss_cons (ps_set (i:=2) nd rfl (Or.inl rfl) (pe_ix ix_tup (pv 0) pe_int (fun _ _=>rfl)))
   (pss_cons (ps_set (i:=3) nd rfl (Or.inl rfl) (pe_tup (pa_cons (pv 2) (pa_cons (pe_ix ix_tup (pv 0) pe_int (fun _ _=>rfl)) (pa_cons (pe_op op_rep (pe_lst (pa_cons (pe_ix ix_list (pe_ix ix_tup (pv 0) pe_int (fun _ _=>rfl)) (pv 1) (fun _ _=>rfl)) pa_nil)) (pv 2)) pa_nil)))))
   (pss_one (ps_ret (pe_ix ix_list (pe_own d_outs_by (hr.mono (by first|decide|lia)) rfl pass1 (pa_cons (pv 3) (pa_cons (pe_comp (ot:=none) [] rfl (pi_range1 rfl T.z_range (pa_cons (pv 2) pa_nil)) (fun _ _ _ _=>(pe_lst (pa_cons (pv 0) pa_nil))) (fun _ _ _ _=>trivial) rfl (nodupS_of rfl)) (pa_cons (pe_glob (v:=.ref _) rfl T.g_joined rfl) pa_nil)))) pe_int (fun _ _=>rfl)))))),?_⟩
  skip
  have hw:=hN.hi
  have hlo:=hN.lo
  have hob:=hN.ob o (List.mem_of_getElem? ho)
  have hol:=hN.ol
  refine⟨_,_,_,_,rfl,rfl,SqT.of hn.net,rfl,?_⟩
  refine⟨_,_,_,_,rfl,rfl,SqT.of hn.net,rfl,_,_,_,_,rfl,rfl,SqT.of hn.net,rfl,oa,_,_,.int (o:Nat),rfl,rfl,SqL.of hn.ots,(by rw [outs_nats];exact atI_nat (by rw [List.getElem?_map,ho];rfl)),(show 1≤sizeLine by decide),fun l1 g1=>?_⟩
  refine⟨l1,(N.w:Int),_,rfl,rfl,upd_same,by solve_by_elim,by lia,fits (by simp;lia),fun l2 g2=>?_⟩
  refine⟨(show 3≤sizeLine by decide),fun t g3=>?_⟩
  have e1:(List.replicate (N.w:Int).toNat [V.int (o:Nat)]).flatten=(NetN.single N o).outs.map V.int:=by
   rw [rep_one]
   simp [NetN.single,NetN.outs]
  rw [e1] at g3 ⊢
  have s2:Same H (upd (upd H l1 (.lst [V.int (o:Nat)])) l2 (.lst ((NetN.single N o).outs.map V.int))):=(Same.new g1).trans (Same.new g2)
  have h2:(upd (upd H l1 (.lst [V.int (o:Nat)])) l2 (.lst ((NetN.single N o).outs.map V.int))) l2=some (.lst ((NetN.single N o).outs.map V.int)):=upd_same
  generalize upd (upd H l1 (.lst [V.int (o:Nat)])) l2 (.lst ((NetN.single N o).outs.map V.int))=H2 at s2 h2 g3 ⊢
  have n3:NetAt (upd H2 t (.tup [.int N.w,.ref sa,.ref l2])) t (NetN.single N o).w (NetN.single N o).steps (NetN.single N o).outs sa l2 rs:=netAt_new g3 (s2 _ _ hn.sts) (hn.st.mono s2) h2
  have s3:Same H (upd H2 t (.tup [.int N.w,.ref sa,.ref l2])):=s2.trans (Same.new g3)
  generalize upd H2 t (.tup [.int N.w,.ref sa,.ref l2])=H3 at n3 s3 ⊢
  refine⟨_,rfl,by solve_by_elim,by lia,comp_range (Iv_told_order_0 H3) ⟨Same.refl H3,rfl,fun k z h=>by simp at h⟩ (fun i ys H5 hi ⟨_,e,_⟩=>fits (by rw [e];lia)) ?_ ?_⟩
  ·rintro i ys H5 TT hi ⟨s5,e,hy⟩ ht
   refine⟨(show 1≤sizeLine by decide),fun p hp=>ht _ _ ⟨s5.trans (Same.new hp),by simp [e],fun k z hz=>?_⟩⟩
   by_cases hk:k<ys.length
   ·rw [List.getElem?_append_left hk] at hz
    exact loc_list.mono (Same.new hp) (hy k z hz)
   ·have hkl:k=ys.length:=by
     have:=(List.getElem?_eq_some_iff.mp hz).1
     rw [List.length_append] at this
     simp at this
     lia
    rw [hkl,List.getElem?_concat_length] at hz
    obtain rfl:=Option.some.inj hz
    refine⟨p,rfl,?_⟩
    rw [upd_same,hkl,e]
    simp [wordV]
  ·rintro ys H5 ⟨s5,e,hy⟩ q hq
   have hyl:ys.length=N.w:=by rw [e];simp
   refine⟨t,sa,l2,q,FJ,rs,ys,NetN.single N o,RList,fun u=>u.length≤64,rfl,n3.mono (s5.trans (Same.new hq)),single_ok hN hob,SqL.of upd_same,hyl,loc_list,d_joined.dv T.g_joined (joined_list fun u hu=>fits (by lia)),fun i v hv=>loc_list.mono (Same.new hq) (hy i v hv),fun j _ hu=>Nat.le_trans (single_used hN hob hu) hlen,fun H' l zs s' hl _ hzl hz=>?_⟩
   have hzl':zs.length=N.w:=hzl
   obtain ⟨z,hz0⟩:∃z,zs[0]? = some z:=⟨_,List.getElem?_eq_getElem (by lia)⟩
   obtain ⟨pz,rfl,hpz⟩:=hz 0 o z (by show (List.replicate N.w o)[0]? = some o;rw [List.getElem?_replicate,if_pos (by assumption)]) hz0
   refine⟨l,zs,0,_,rfl,rfl,SqL.of hl,atI_nat (j:=0) hz0,k H' pz (s3.trans ((s5.trans (Same.new hq)).trans s')) hpz⟩
abbrev s_turned_pairs:Stmt:=top 41
theorem sc_turned_pairs:FnScope ["net", "place", "order", "pairs", "late", "thing"] ["net", "place"] (defScope s_turned_pairs):=⟨rfl,rfl,rfl,by decide +kernel,rfl,by decide +kernel,by decide +kernel⟩
inductive Iv_turned_pairs_0 (n:Addr) (p:Nat) (H2:Hp) (l:Addr) (u:List Nat) (pr:Addr) (j:Nat) (σ3:L2.St) (H3:Hp):Prop
 | mk:∀(v4 v5:Option V) (zs:List V),(σ3=[some (.ref n),some (.int (p:Nat)),some (.ref l),some (.ref pr),v4,v5])→(Same H2 H3)→(H3 pr=some (.lst zs))→(zs.length≤j*64)→((∀z∈zs,z ≠ .ref pr∧turnedV H3 u z))→(∀(i m:Nat) a b,i<m→m<j→u[i]? = some a→u[m]? = some b→b<a→zs≠[])→Iv_turned_pairs_0 n p H2 l u pr j σ3 H3
inductive Iv_turned_pairs_1 (u:List Nat) (pr:Addr) (b:Nat) (H6:Hp) (i:Nat) (ys:List V) (H7:Hp):Prop
 | mk:(Same H6 H7)→(ys.length≤i)→((∀z∈ys,z ≠ .ref pr∧turnedV H7 u z))→(∀(m a:Nat),m<i→u[m]? = some a→b<a→ys≠[])→Iv_turned_pairs_1 u pr b H6 i ys H7
theorem ok_turned_pairs {f:Addr}{fd:FuncData}(F:Fun K "turned_pairs" "turned_pairs" s_turned_pairs f fd) (T:Txt K mg CB CK CR CT CW CS DR DT FJ FG FS FA FE P w) (d_told_order:Df P w K mg base "told_order" 3 ["net", "place"] (spOrder)):FnOk P w K mg base (CX1 P w) 4 f fd ["net", "place"] (spTurned):=by
 refine F.ok1 sc_turned_pairs (fun vs H Q E h=>?_) (fun cdv A outer s H vs Q E hr h=>?_)
 ·obtain ⟨n,sa,oa,rs,N,p,o,rfl,hn,hN,ho,hlen,k⟩:=h;rfl
 ·obtain ⟨n,sa,oa,rs,N,p,o,rfl,hn,hN,ho,hlen,k⟩:=h
  have nd:=sc_turned_pairs.nd
  refine⟨_,(pss_cons (ps_set (i:=2) nd rfl (Or.inl rfl) (pe_own d_told_order (hr.mono (by first|decide|lia)) rfl pass1 (pa_cons (pv 0) (pa_cons (pv 1) pa_nil))))
   (pss_cons (ps_set (i:=3) nd rfl (Or.inl rfl) (pe_lst pa_nil))
   (pss_cons (ps_for powns1 rfl (pi_enum rfl T.z_enumerate (pa_cons (pv 2) pa_nil)) (pg_tup rfl (pgs_cons (pg_name (i:=4) nd rfl (Or.inl rfl)) (pgs_cons (pg_name (i:=5) nd rfl (Or.inr rfl)) pgs_nil)))
   (pss_one (ps_expr (pe_bm PySem.F.plainAttrs_list PySem.F.slot_list_extend PySem.F.type_list_extend mt_extend (pv 3) (pa_cons (pe_comp (ot:=some _) [5] rfl (pi_list (pe_slice sl_list (pv 2) po_none (po_some (pv 4)))) (fun _ _ _ _=>(pe_lst (pa_cons (pv 0) (pa_cons (pv 1) pa_nil)))) (fun _ _ _ _=>(pt_cmpR op_gt (pv 0) (pv 1) (nomark _))) rfl (nodupS_of rfl)) pa_nil)))))
   (pss_one (ps_ret (pv 3)))))),?_⟩
  skip
  refine⟨n,sa,oa,rs,N,p,o,rfl,hn,hN,ho,hlen,fun H2 l s2 hl=>?_⟩
  generalize hu:N.words.getD o []=u at hl k hlen ⊢
  refine⟨(show 0≤sizeLine by decide),fun pr g1=>?_⟩
  have h1:(upd H2 pr (.lst [])) pr=some (.lst []):=upd_same
  have f1:H2 pr=none:=g1
  have s3:Same H2 (upd H2 pr (.lst [])):=Same.new g1
  have hwl:(wordV u).length=u.length:=by unfold wordV;rw [List.length_map]
  refine⟨l,rfl,⟨_,SqL.of (s3 _ _ hl)⟩,for_enum (K:=K) (a:=l) (xs:=wordV u) (Iv_turned_pairs_0 n p H2 l u pr)
   ⟨_,_,[],rfl,s3,h1,by simp,fun z hz=>by simp at hz,fun i m a b h1 h2=>by lia⟩ (fun j σ3 H3 _ ⟨_,_,_,_,s3,_,_,_,_⟩=>SqL.of (s3 _ _ hl)) ?_ ?_⟩
  ·rintro j x σ3 H3 q hx ⟨v4,v5,zs,rfl,s4,hpr,hzl,hz1,hz2⟩ hq
   refine L2.ob_ea (wordV_get hx) fun b hb e_2=>?_;subst e_2
   have hjl:=(List.getElem?_eq_some_iff.mp hb).1
   have s5:Same H3 (upd H3 q (.tup [.int (j:Nat),.int (b:Nat)])):=Same.new hq
   refine⟨q,_,rfl,SqT.of upd_same,rfl,?_⟩
   generalize upd H3 q (.tup [.int (j:Nat),.int (b:Nat)])=H4 at s5 ⊢
   refine⟨.inl ⟨rfl,_,SqL.of (s5 _ _ hpr)⟩,l,_,rfl,SqL.of (s5 _ _ (s4 _ _ hl)),fun sl g2=>?_⟩
   rw [show cutV (wordV u) none (some (j:Int))=(wordV u).take j from cutL_take (wordV u) j]
   have s6:Same H3 (upd H4 sl (.lst ((wordV u).take j))):=s5.trans (Same.new g2)
   have h6:(upd H4 sl (.lst ((wordV u).take j))) sl=some (.lst ((wordV u).take j)):=upd_same
   generalize upd H4 sl (.lst ((wordV u).take j))=H6 at s6 h6 ⊢
   have hp6:=s6 _ _ hpr
   have htl:((wordV u).take j).length=j:=by rw [List.length_take,hwl];lia
   refine⟨sl,rfl,⟨_,SqL.of h6⟩,comp_listIf (K:=K) (a:=sl) (xs:=(wordV u).take j) (Iv_turned_pairs_1 u pr b H6)
    ⟨Same.refl H6,by simp,fun z hz=>by simp at hz,fun m a h=>by lia⟩ (fun i ys H7 _ ⟨s7,_,_,_⟩=>SqL.of (s7 _ _ h6)) (fun i ys H7 hi ⟨_,e,_,_⟩=>fits (by lia)) ?_ ?_⟩
   ·rintro i y ys H7 T1 T0 hy ⟨s7,hyl,hy1,hy2⟩ t1 t0
    have hij:i<j:=by
     have:=(List.getElem?_eq_some_iff.mp hy).1
     lia
    rw [List.getElem?_take_of_lt hij] at hy
    refine L2.ob_ea (wordV_get hy) fun a ha e_2=>?_;subst e_2
    conv=>whnf
    by_cases hba:b<a
    ·rw [decide_eq_true (show (b:Int)<(a:Int) by lia)]
     refine⟨(show 2≤sizeLine by decide),fun p hp=>t1 _ _ ⟨s7.trans (Same.new hp),by simp;lia,fun z hz=>?_,fun m a' _ _ _=>by simp⟩⟩
     rcases List.mem_append.mp hz with hz|hz
     ·obtain ⟨n1,n2⟩:=hy1 z hz
      exact⟨n1,n2.mono (Same.new hp)⟩
     ·obtain rfl:=List.mem_singleton.mp hz
      have ne0:V.ref p ≠ .ref pr:=fun e=>by
       have e':=V.ref.inj e
       rw [e',s7 _ _ hp6] at hp
       exact L2.sn_ hp
      exact⟨ne0,⟨p,i,j,a,b,rfl,upd_same,hij,ha,hb,hba⟩⟩
    ·rw [decide_eq_false (show ¬(b:Int)<(a:Int) by lia)]
     refine (t0 _ ⟨s7,by solve_by_elim,hy1,fun m a' hm ha' hba'=>?_⟩)
     by_cases e:m=i
     ·subst e
      rw [ha] at ha';obtain rfl:=Option.some.inj ha'
      exact absurd hba' hba
     ·exact hy2 m a' (by lia) ha' hba'
   ·rintro ys H7 ⟨s7,hyl,hy1,hy2⟩ ex gx
    rw [htl] at hyl hy2
    have hp7:=s7 _ _ hp6
    refine⟨pr,ex,zs,ys,rfl,rfl,new_at gx hp7,upd_same,fits (by lia),?_⟩
    refine⟨_,_,_,rfl,((s4.trans (s6.trans s7)).trans (Same.new gx)).upd f1,upd_same,by rw [List.length_append];lia,fun z hz=>?_,fun i m a b' h1 h2 h3 h4 h5=>?_⟩
    ·rcases List.mem_append.mp hz with hz|hz
     ·obtain ⟨n1,n2⟩:=hz1 z hz
      exact⟨n1,((n2.mono (s6.trans s7)).mono (Same.new gx)).upd n1⟩
     ·obtain ⟨n1,n2⟩:=hy1 z hz
      exact⟨n1,(n2.mono (Same.new gx)).upd n1⟩
    ·by_cases e:m=j
     ·subst e
      rw [hb] at h4;obtain rfl:=Option.some.inj h4
      have:=hy2 i a h1 h3 h5
      simp [this]
     ·have:=hz2 i m a b' h1 (by lia) h3 h4 h5
      simp [this]
  ·rintro σ3 H3 ⟨v4,v5,zs,rfl,s4,hpr,hzl,hz1,hz2⟩
   refine (k H3 pr zs (s2.trans s4) hpr (fun z hz=>(hz1 z hz).2) fun i j a b h1 h2 h3=>hz2 i j a b h1 ?_ h2 h3)
   rw [hwl]
   exact (List.getElem?_eq_some_iff.mp h3).1
end
end K10

namespace K10
open PySem L2 NM PyProof.Rows
section
variable {P:Program}{w:World}{K:PySem.W.Frag}{mg:Str→Option Value}{base:Heap}{CB CK CR CT CW CS DR DT FJ FG FS FA FE PT:Addr}
abbrev s_greater:Stmt:=top 23
theorem sc_greater:FnScope ["one", "other"] ["one", "other"] (defScope s_greater):=⟨rfl,rfl,rfl,by decide +kernel,rfl,by decide +kernel,by decide +kernel⟩
theorem ok_greater {f:Addr}{fd:FuncData}(F:Fun K "greater" "greater" s_greater f fd) (T:Txt K mg CB CK CR CT CW CS DR DT FJ FG FS FA FE P w)  : FnOk P w K mg base (CX1 P w) 1 f fd ["one", "other"] (spNum gtI):=by
 refine F.ok1 sc_greater (fun vs H Q E h=>?_) (fun cdv A outer s H vs Q E hr h=>?_)
 ·obtain ⟨i,j,rfl,q⟩:=h;rfl
 ·obtain ⟨i,j,rfl,q⟩:=h
  have nd:=sc_greater.nd
  refine⟨_,(pss_one (ps_ret (pe_callB (call_max2 rfl) rfl T.z_max boot_max (pa_cons (pv 0) (pa_cons (pv 1) pa_nil))))),?_⟩
  skip
  exact⟨_,_,rfl,q⟩
abbrev s_either_joined:Stmt:=top 26
theorem sc_either_joined:FnScope ["one", "other"] ["one", "other"] (defScope s_either_joined):=⟨rfl,rfl,rfl,by decide +kernel,rfl,by decide +kernel,by decide +kernel⟩
theorem ok_either_joined {f:Addr}{fd:FuncData}(F:Fun K "either_joined" "either_joined" s_either_joined f fd) (T:Txt K mg CB CK CR CT CW CS DR DT FJ FG FS FA FE P w)  : FnOk P w K mg base (CX1 P w) 1 f fd ["one", "other"] (spEither):=by
 refine F.ok1 sc_either_joined (fun vs H Q E h=>?_) (fun cdv A outer s H vs Q E hr h=>?_)
 ·obtain ⟨a,b,rfl,q⟩:=h;rfl
 ·obtain ⟨a,b,rfl,q⟩:=h
  have nd:=sc_either_joined.nd
  refine⟨_,(pss_one (ps_ret (pe_op op_or (pv 0) (pv 1)))),?_⟩
  skip
  show Q (V.int (Builtin.bitOr (a:Int) (b:Int))) H
  rw [or_nat]
  exact q
abbrev s_apart_joined:Stmt:=top 25
theorem sc_apart_joined:FnScope ["one", "other"] ["one", "other"] (defScope s_apart_joined):=⟨rfl,rfl,rfl,by decide +kernel,rfl,by decide +kernel,by decide +kernel⟩
theorem ok_apart_joined {f:Addr}{fd:FuncData}(F:Fun K "apart_joined" "apart_joined" s_apart_joined f fd) (T:Txt K mg CB CK CR CT CW CS DR DT FJ FG FS FA FE P w)  : FnOk P w K mg base (CX1 P w) 1 f fd ["one", "other"] (spApart):=by
 refine F.ok1 sc_apart_joined (fun vs H Q E h=>?_) (fun cdv A outer s H vs Q E hr h=>?_)
 ·obtain ⟨x,y,a,b,rfl,hx,hy,q⟩:=h;rfl
 ·obtain ⟨x,y,a,b,rfl,hx,hy,q⟩:=h
  have nd:=sc_apart_joined.nd
  refine⟨_,(pss_cons (ps_if (PW.pt (pw_or (pt_cmpR op_isN (pv 0) pe_non (nomark _)) (pw_or (pt_cmpR op_isN (pv 1) pe_non (nomark _)) (pw_or1 (pt_truth (pe_op op_and (pv 0) (pv 1)) (fun _=>rfl))))))
   (pss_one (ps_ret pe_non))
   pss_nil)
   (pss_one (ps_ret (pe_op op_or (pv 0) (pv 1))))),?_⟩
  skip
  cases a with
  | none =>
   have hx':x=.non:=hx
   subst hx'
   exact⟨rfl,(q _ (by cases b <;> rfl))⟩
  | some a =>
   have hx':x=.int (a:Nat):=hx
   subst hx'
   refine⟨rfl,?_⟩
   cases b with
   | none =>
    have hy':y=.non:=hy
    subst hy'
    exact⟨rfl,(q _ rfl)⟩
   | some b =>
    have hy':y=.int (b:Nat):=hy
    subst hy'
    refine⟨rfl,?_⟩
    refine⟨_,rfl,?_⟩
    rw [and_nat]
    by_cases e:a &&& b=0
    ·rw [show (((a &&& b:Nat):Int) != 0)=false by rw [e];rfl]
     show Q (V.int (Builtin.bitOr (a:Int) (b:Int))) H
     rw [or_nat]
     exact q _ (by show apartV _ (if a &&& b=0 then _ else _);rw [if_pos e];rfl)
    ·rw [show (((a &&& b:Nat):Int) != 0)=true by simp;lia]
     exact (q _ (by show apartV _ (if a &&& b=0 then _ else _);rw [if_neg e];rfl))
end
end K10

namespace K10
open PySem L2 NM PyProof.Rows
section
variable {P:Program}{w:World}{K:PySem.W.Frag}{mg:Str→Option Value}{base:Heap}{CB CK CR CT CW CS DR DT FJ FG FS FA FE PT:Addr}
abbrev s_is_thing:Stmt:=top 30
theorem sc_is_thing:FnScope ["kind", "value"] ["kind", "value"] (defScope s_is_thing):=⟨rfl,rfl,rfl,by decide +kernel,rfl,by decide +kernel,by decide +kernel⟩
theorem ok_is_thing {f:Addr}{fd:FuncData}(F:Fun K "is_thing" "is_thing" s_is_thing f fd) (T:Txt K mg CB CK CR CT CW CS DR DT FJ FG FS FA FE P w) (d_is_whole:Df P w K mg base "is_whole" 1 ["value"] (spWhole2)):FnOk P w K mg base (CX1 P w) 2 f fd ["kind", "value"] (spThing):=by
 refine F.ok1 sc_is_thing (fun vs H Q E h=>?_) (fun cdv A outer s H vs Q E hr h=>?_)
 ·obtain ⟨x,v,rfl,hv,q⟩:=h;rfl
 ·obtain ⟨x,v,rfl,hv,q⟩:=h
  have nd:=sc_is_thing.nd
  refine⟨_,(pss_cons (ps_if (pt_cmpR op_eq (pv 0) pe_str (nomark _))
   (pss_one (ps_ret (pe_callB call_isi rfl T.z_isinstance boot_isinstance (pa_cons (pv 1) (pa_cons (pe_bltn (v:=.ty "str") rfl T.z_str boot_str rfl) pa_nil)))))
   pss_nil)
   (pss_one (ps_ret (pe_own d_is_whole (hr.mono (by first|decide|lia)) rfl pass1 (pa_cons (pv 1) pa_nil))))),?_⟩
  skip
  by_cases hany:x=kAny
  ·subst hany
   refine ?_
   rcases hv with ⟨s',rfl,_⟩|⟨m,rfl⟩
   ·exact⟨_,_,_,_,true,rfl,rfl,.str s',rfl,by show Q (.bl true) H;simpa [isOf] using q⟩
   ·exact⟨_,_,_,_,false,rfl,rfl,.int m,(by kernel_rfl),by show Q (.bl false) H;simpa [isOf] using q⟩
  ·refine iteDF (fun z=>hany (V.str.inj z)) ⟨v,rfl,hv,?_⟩
   rcases hv with ⟨s',rfl,_⟩|⟨m,rfl⟩
   ·simpa [isOf,hany] using q
   ·simpa [isOf,hany] using q
abbrev s_look_row:Stmt:=top 31
theorem sc_look_row:FnScope ["wide", "kind", "row", "place", "thing"] ["wide", "kind", "row"] (defScope s_look_row):=⟨rfl,rfl,rfl,by decide +kernel,rfl,by decide +kernel,by decide +kernel⟩
theorem ok_look_row {f:Addr}{fd:FuncData}(F:Fun K "look_row" "look_row" s_look_row f fd) (T:Txt K mg CB CK CR CT CW CS DR DT FJ FG FS FA FE P w) (d_is_thing:Df P w K mg base "is_thing" 2 ["kind", "value"] (spThing)):FnOk P w K mg base (CX1 P w) 3 f fd ["wide", "kind", "row"] (spRow K CR):=by
 refine F.ok1 sc_look_row (fun vs H Q E h=>?_) (fun cdv A outer s H vs Q E hr h=>?_)
 ·obtain ⟨w',x,ra,xs,rfl,hra,hxl,hth,k⟩:=h;rfl
 ·obtain ⟨w',x,ra,xs,rfl,hra,hxl,hth,k⟩:=h
  have nd:=sc_look_row.nd
  refine⟨_,(pss_cons (ps_if (PW.pt (pw_or (pt_not (pt_truth (pe_callB call_isi rfl T.z_isinstance boot_isinstance (pa_cons (pv 2) (pa_cons (pe_bltn (v:=.ty "list") rfl T.z_list boot_list rfl) pa_nil))) (fun _=>rfl))) (pw_or1 (pt_cmpR op_ne (pe_callB call_len_seq rfl T.z_len boot_len (pa_cons (pv 2) pa_nil)) (pv 0) (nomark _)))))
   (pss_one (ps_raise rfl throws1 T.x_BadRow rfl (pa_cons pe_str pa_nil)))
   pss_nil)
   (pss_one (ps_for powns1 rfl (pi_enum rfl T.z_enumerate (pa_cons (pv 2) pa_nil)) (pg_tup rfl (pgs_cons (pg_name (i:=3) nd rfl (Or.inl rfl)) (pgs_cons (pg_name (i:=4) nd rfl (Or.inl rfl)) pgs_nil)))
   (pss_one (ps_if (pt_not (pt_truth (pe_own d_is_thing (hr.mono (by first|decide|lia)) rfl pass1 (pa_cons (pv 1) (pa_cons (pv 4) pa_nil))) (fun _=>rfl)))
   (pss_one (ps_raise rfl throws1 T.x_BadRow rfl (pa_cons (pe_fstr (pj_cons pe_str (pj_cons (pe_fv (pv 3)) (pj_cons pe_str pj_nil)))) pa_nil)))
   pss_nil))))),?_⟩
  skip
  refine⟨_,_,_,_,true,rfl,rfl,.lst hra,rfl,true,rfl,?_⟩
  refine⟨_,_,rfl,.inl (SqL.of hra),?_⟩
  by_cases h1:xs.length=w'
  ·refine iteNS (by rw [h1]) ?_
   refine⟨ra,rfl,⟨_,SqL.of hra⟩,for_enum (K:=K) (a:=ra) (xs:=xs) (fun j σ2 H2=>∃v3 v4,σ2=[some (.int (w':Nat)),some (.str x),some (.ref ra),v3,v4]∧Same H H2∧∀(m:Nat) v,m<j→xs[m]? = some v→isOf x v=true)
    ⟨_,_,rfl,Same.refl H,fun m l hm=>absurd hm (Nat.not_lt_zero _)⟩ (fun j σ2 H2 _ ⟨_,_,_,s2,_⟩=>SqL.of (s2 _ _ hra)) ?_ ?_⟩
   ·rintro j y σ2 H2 q hy ⟨v3,v4,rfl,s2,hok⟩ hq
    have s3:Same H (upd H2 q (.tup [.int j,y])):=s2.upd (s2.free hq)
    refine⟨q,_,rfl,SqT.of upd_same,rfl,?_⟩
    generalize upd H2 q (.tup [.int j,y])=H3 at s3 ⊢
    have hj:j≤16777216:=by
     have h3:=(List.getElem?_eq_some_iff.mp hy).1
     lia
    refine⟨x,y,rfl,hth y (List.mem_of_getElem? hy),_,rfl,?_⟩
    refine iteN (fun h2=>?_) (fun h2=>?_)
    ·refine⟨_,rfl,fA _ (by decide),_,rfl,log2_small hj,_,rfl,fB _ (by decide) (log2_small hj),_,rfl,fC _ _ (by decide) (by decide) (log2_small hj),fC _ _ (by decide) (by decide) (log2_small hj),(show 1≤sizeLine by decide),(k _ s3).2 (fun z=>?_)⟩
     rw [z.2 y (List.mem_of_getElem? hy)] at h2
     cases h2
    ·refine⟨_,_,rfl,s3,fun m v hm hv=>?_⟩
     by_cases e:m=j
     ·subst e
      rw [hy] at hv;cases hv
      exact h2
     ·exact hok m v (by lia) hv
   ·rintro σ2 H2 ⟨v3,v4,rfl,s2,hok⟩
    refine (k H2 s2).1 ⟨h1,fun v hv=>?_⟩
    obtain ⟨m,hm⟩:=List.getElem?_of_mem hv
    exact hok m v (List.getElem?_eq_some_iff.mp hm).1 hm
  ·refine iteNT (fun z=>h1 ?_) ⟨by decide,(k H (Same.refl H)).2 (fun z=>h1 z.1)⟩
   have:=V.int.inj z
   lia
end
end K10

namespace K10
open PySem L2 NM PyProof.Rows
section
variable {P:Program}{w:World}{K:PySem.W.Frag}{mg:Str→Option Value}{base:Heap}{CB CK CR CT CW CS DR DT FJ FG FS FA FE PT:Addr}
abbrev s_showing_numbers:Stmt:=top 39
theorem sc_showing_numbers:FnScope ["net", "kind", "place", "together", "rows", "shown"] ["net", "kind", "place"] (defScope s_showing_numbers):=⟨rfl,rfl,rfl,by decide +kernel,rfl,by decide +kernel,by decide +kernel⟩
theorem ok_showing_numbers {f:Addr}{fd:FuncData}(F:Fun K "showing_numbers" "showing_numbers" s_showing_numbers f fd) (T:Txt K mg CB CK CR CT CW CS DR DT FJ FG FS FA FE P w) (d_outs_by:Df P w K mg base "outs_by" 2 ["net", "row", "together"] (spOutsBy P w K mg base)) (d_joined:Df P w K mg base "joined" 1 ["one", "other"] (spJoined)) (d_greater:Df P w K mg base "greater" 1 ["one", "other"] (spNum gtI)) (d_in_line:Df P w K mg base "in_line" 2 ["row", "together"] (spInLine P w K mg base)) (d_alone:Df P w K mg base "alone" 1 ["wide", "thing"] (spAlone)):FnOk P w K mg base (CX1 P w) 3 f fd ["net", "kind", "place"] (spNumbers):=by
 refine F.ok1 sc_showing_numbers (fun vs H Q E h=>?_) (fun cdv A outer s H vs Q E hr h=>?_)
 ·obtain ⟨n,sa,oa,rs,N,p,o,x,rfl,hx,hn,hN,ho,hwr,k⟩:=h;rfl
 ·obtain ⟨n,sa,oa,rs,N,p,o,x,rfl,hx,hn,hN,ho,hwr,k⟩:=h
  have nd:=sc_showing_numbers.nd
  refine⟨_,(pss_cons (ps_set (i:=3) nd rfl (Or.inr rfl) (pe_ix ix_kd (pe_glob (v:=.ref _) rfl T.g_RULES rfl) (pv 1) (fun _ _=>rfl)))
   (pss_cons (ps_setcomp (ot:=none) 4 [0] rfl nd rfl rfl (pi_range1 rfl T.z_range (pa_cons (pe_ix ix_tup (pv 0) pe_int (fun _ _=>rfl)) pa_nil)) (fun _ _ _ _=>(pe_own d_alone (hr.mono (by first|decide|lia)) rfl pass10 (pa_cons (pe_ix (show IxR _ (rIxT K) from ix_tup) (pv 1) pe_int (fun _ _=>rfl)) (pa_cons (pv 0) pa_nil)))) (fun _ _ _ _=>trivial) rfl (nodupS_of rfl))
   (pss_cons (ps_setcomp (ot:=some _) 5 [0,2,3] rfl nd rfl rfl (pi_list (pv 4)) (fun _ _ _ _=>(pv 0)) (fun _ _ _ _=>(pt_cmpR op_ne (pe_ix (show IxR _ (rIxL K) from ix_list) (pe_own d_outs_by (hr.mono (by first|decide|lia)) rfl pass10 (pa_cons (pv 1) (pa_cons (pv 0) (pa_cons (pv 3) pa_nil)))) (pv 2) (fun _ _=>rfl)) (pe_ix (show IxR _ (rIxL K) from ix_list) (pe_own d_in_line (hr.mono (by first|decide|lia)) rfl pass10 (pa_cons (pv 0) (pa_cons (pv 3) pa_nil))) (pv 2) (fun _ _=>rfl)) (nomark _))) rfl (nodupS_of rfl))
   (pss_one (ps_ret (pe_ix ix_list (pv 5) pe_int (fun _ _=>rfl))))))),?_⟩
  skip
  have hw:=hN.hi
  have hlo:=hN.lo
  have hol:=hN.ol
  have hob:=hN.ob o (List.mem_of_getElem? ho)
  have hpw:p<N.w:=by have:=(List.getElem?_eq_some_iff.mp ho).1;lia
  obtain ⟨FT,hval,dv⟩:∃FT,valV [((Sum.inr (Str.ofString "any"):Key),V.ref FJ),(Sum.inr (Str.ofString "commuting"),V.ref FJ),(Sum.inr (Str.ofString "greatest"),V.ref FG)] (Sum.inr x)=some (V.ref FT)∧∀r:Nat→Int,Dv P w K mg base FT 1 (spBinW (RNum (opK x) r) fun _=>True):=by
   rcases hx with rfl|rfl
   ·refine⟨FJ,(valV_neg (fun e=>any_com (Sum.inr.inj e))).trans (valV_pos rfl),fun r=>d_joined.dv T.g_joined fun vs H Q E h=>joined_num vs H Q E ?_⟩
    unfold opK at h
    rw [if_neg com_gre] at h
    exact num_bin (fun a b c=>by lia) vs H Q E h
   ·refine⟨FG,(valV_neg (fun e=>any_gre (Sum.inr.inj e))).trans ((valV_neg (fun e=>com_gre (Sum.inr.inj e))).trans (valV_pos rfl)),fun r=>d_greater.dv T.g_greater fun vs H Q E h=>?_⟩
    unfold opK at h
    rw [if_pos rfl] at h
    exact num_bin gtI_as vs H Q E h
  refine⟨DR,_,Sum.inr x,_,rfl,T.k_RULES,rfl,hval,?_⟩
  refine⟨_,_,_,_,rfl,rfl,SqT.of hn.net,rfl,_,rfl,by lia,by lia,comp_range (fun i ys H5=>Same H H5∧ys.length=i∧∀(t:Nat) z,ys[t]? = some z→∃c,z=.ref c∧H5 c=some (.lst ((List.range N.w).map fun i=>V.int (cnt1 t i)))) ⟨Same.refl H,rfl,fun k z h=>by simp at h⟩ (fun i ys H5 hi ⟨_,e,_⟩=>fits (by rw [e];lia)) ?_ ?_⟩
  ·rintro i ys H5 TT hi ⟨s5,e,hy⟩ ht
   have n5:=hn.mono s5
   refine⟨_,_,_,_,rfl,rfl,SqT.of n5.net,rfl,N.w,i,by simp,hw,fun H6 l6 s6 g6 h6=>ht _ _ ⟨s5.trans s6,by simp [e],fun t z hz=>?_⟩⟩
   by_cases hk:t<ys.length
   ·rw [List.getElem?_append_left hk] at hz
    obtain ⟨c,e1,e2⟩:=hy t z hz
    exact⟨c,e1,s6 _ _ e2⟩
   ·have hkl:t=ys.length:=by
     have:=(List.getElem?_eq_some_iff.mp hz).1
     rw [List.length_append] at this
     simp at this
     lia
    rw [hkl,List.getElem?_concat_length] at hz
    cases hz
    refine⟨l6,rfl,?_⟩
    rw [hkl,e]
    exact h6
  ·rintro rw' H1 ⟨s1,e,hrw⟩ rl g1
   have hrl:rw'.length=N.w:=by rw [e];simp
   have s2:Same H (upd H1 rl (.lst rw')):=s1.trans (Same.new g1)
   have h2:(upd H1 rl (.lst rw')) rl=some (.lst rw'):=upd_same
   have hrw2:∀(t:Nat) z,rw'[t]? = some z→∃c,z=.ref c∧(upd H1 rl (.lst rw')) c=some (.lst ((List.range N.w).map fun i=>V.int (cnt1 t i))):=fun t z hz=>by
    obtain ⟨c,e1,e2⟩:=hrw t z hz
    exact⟨c,e1,new_at g1 e2⟩
   generalize upd H1 rl (.lst rw')=H2 at s2 h2 hrw2 ⊢
   clear g1 hrw e s1
   refine⟨rl,rfl,⟨_,SqL.of h2⟩,comp_listIf (K:=K) (a:=rl) (xs:=rw') (fun i ys H5=>Same H2 H5∧ys.length≤i∧(∀z∈ys,∃(c':Addr) (t:Nat),z=.ref c'∧H5 c'=some (.lst ((List.range N.w).map fun i=>V.int (cnt1 t i)))∧t<N.w∧ShowN x (N.words.getD o []) p t)∧((∃t,t<i∧ShowN x (N.words.getD o []) p t)→ys≠[]))
    ⟨Same.refl H2,by simp,fun z hz=>by simp at hz,fun ⟨t,h,_⟩=>by lia⟩ (fun i ys H5 _ ⟨s5,_⟩=>SqL.of (s5 _ _ h2)) (fun i ys H5 hi ⟨_,e,_⟩=>fits (by lia)) ?_ ?_⟩
   ·rintro i y ys H5 T1 T0 hy ⟨s5,hyl,hy1,hy2⟩ t1 t0
    have hi:i<N.w:=by have:=(List.getElem?_eq_some_iff.mp hy).1;lia
    obtain ⟨c,rfl,hc⟩:=hrw2 i y hy
    have hc5:=s5 _ _ hc
    have hrow:∀(m:Nat) v,((List.range N.w).map fun j=>V.int (cnt1 i j))[m]? = some v→RNum (opK x) (cnt1 i) H5 v [m]:=fun m v hv=>by
     have hm:m<N.w:=by have:=(List.getElem?_eq_some_iff.mp hv).1;simpa using this
     rw [List.getElem?_map,List.getElem?_range hm] at hv
     cases hv
     rfl
    refine⟨n,sa,oa,c,FT,rs,_,N,RNum (opK x) (cnt1 i),fun _=>True,rfl,hn.mono (s2.trans s5),hN,SqL.of hc5,by simp,loc_num,dv _,hrow,fun _ _ _=>trivial,fun H6 l6 z6 s6 h6 _ hz6 hr6=>?_⟩
    obtain ⟨z1,hz1⟩:∃z,z6[p]? = some z:=⟨_,List.getElem?_eq_getElem (by lia)⟩
    have e1:z1=.int (foldW (opK x) (cnt1 i) (N.words.getD o [])):=hr6 p o z1 ho hz1
    refine⟨l6,z6,_,z1,rfl,rfl,SqL.of h6,atI_nat hz1,c,FT,_,RNum (opK x) (cnt1 i),fun _=>True,rfl,SqL.of (s6 _ _ hc5),fun z=>by have:=congrArg List.length z;simp at this;lia,by simp;lia,loc_num,dv _,hrow,fun _ _=>trivial,fun H7 l7 z7 s7 h7 _ hz7 hr7=>?_⟩
    have hl7:z7.length=N.w:=by rw [hz7];simp
    obtain ⟨z2,hz2⟩:∃z,z7[p]? = some z:=⟨_,List.getElem?_eq_getElem (by lia)⟩
    have e2:z2=.int (foldW (opK x) (cnt1 i) (List.range (p+1))):=hr7 p z2 hz2
    have s57:Same H2 H7:=s5.trans (s6.trans s7)
    have hy1':∀z∈ys,∃(c':Addr) (t:Nat),z=.ref c'∧H7 c'=some (.lst ((List.range N.w).map fun i=>V.int (cnt1 t i)))∧t<N.w∧ShowN x (N.words.getD o []) p t:=fun z hz=>by
     obtain ⟨c',t,q1,q2,q3⟩:=hy1 z hz
     exact⟨c',t,q1,s7 _ _ (s6 _ _ q2),q3⟩
    subst e1 e2
    refine⟨l7,z7,_,_,rfl,rfl,SqL.of h7,atI_nat hz2,?_⟩
    by_cases hs:ShowN x (N.words.getD o []) p i
    ·refine iteNT (fun z=>hs (V.int.inj z)) (t1 _ _ ⟨s57,by simp;lia,fun z hz=>?_,fun _=>by simp⟩)
     rcases List.mem_append.mp hz with hz|hz
     ·exact hy1' z hz
     ·obtain rfl:=List.mem_singleton.mp hz
      exact⟨c,i,rfl,s7 _ _ (s6 _ _ hc5),hi,hs⟩
    ·refine iteNS (congrArg V.int (Classical.byContradiction fun z=>hs z)) (t0 _ ⟨s57,by lia,hy1',fun ⟨t,ht,hst⟩=>hy2 ⟨t,?_,hst⟩⟩)
     by_cases e:t=i
     ·subst e
      exact absurd hst hs
     ·lia
   ·rintro ys H5 ⟨s5,hyl,hy1,hy2⟩ sl gs
    obtain ⟨t,htw,hst⟩:=show_ex hx (word_ne hN hob) hpw (word_lt hN o hob) hwr
    have hne:=hy2 ⟨t,by lia,hst⟩
    cases ys with
    | nil=>exact absurd rfl hne
    | cons z r =>
     obtain ⟨c',t',e1,e2,e3,e4⟩:=hy1 z (by simp)
     subst e1
     exact⟨sl,_,0,_,rfl,rfl,SqL.of upd_same,atI_nat (j:=0) rfl,k _ c' t' ((s2.trans s5).trans (Same.new gs)) e3 (new_at gs e2) e4⟩
end
end K10

namespace K10
open PySem L2 NM PyProof.Rows
local macro_rules | `(tactic| walk_at "hp")=>`(tactic| (repeat (first | exact upd_same | assumption | refine new_at (by assumption) ?_)))
local macro_rules | `(tactic| walk_at "sm")=>`(tactic| (repeat (first | exact Same.refl _ | assumption | refine same_new ?_ (by assumption))))
section
variable {P:Program}{w:World}{K:PySem.W.Frag}{mg:Str→Option Value}{base:Heap}{CB CK CR CT CW CS DR DT FJ FG FS FA FE PT:Addr}
abbrev s__law_cell:Stmt:=top 44
theorem sc__law_cell:FnScope ["_law_script", "_law_k"] ["_law_script", "_law_k"] (defScope s__law_cell):=⟨rfl,rfl,rfl,by decide +kernel,rfl,by decide +kernel,by decide +kernel⟩
theorem ok__law_cell {f:Addr}{fd:FuncData}(F:Fun K "_law_cell" "_law_cell" s__law_cell f fd) (T:Txt K mg CB CK CR CT CW CS DR DT FJ FG FS FA FE P w)  : FnOk P w K mg base (CX1 P w) 1 f fd ["_law_script", "_law_k"] (spCell K):=by
 refine F.ok1 sc__law_cell (fun vs H Q E h=>?_) (fun cdv A outer s H vs Q E hr h=>?_)
 ·obtain ⟨a,ns,k,rfl,S,q⟩:=h;rfl
 ·obtain ⟨a,ns,k,rfl,S,q⟩:=h
  have nd:=sc__law_cell.nd
  refine⟨_,(pss_cons (ps_if (pt_truth (pv 0) (fun _=>rfl))
   (pss_one (ps_ret (pe_ix ix_list (pv 0) (pe_op op_mod (pv 1) (pe_callB call_len_seq rfl T.z_len boot_len (pa_cons (pv 0) pa_nil))) (fun _ _=>rfl))))
   pss_nil)
   (pss_one (ps_ret pe_int))),?_⟩
  skip
  refine⟨_,.inl ⟨_,S,rfl⟩,iteN (fun h1=>?_) (fun h1=>q 0)⟩
  have hne:ns≠[]:=fun z=>by rw [z] at h1;cases h1
  obtain ⟨z,hz⟩:=mod_at (k:=k) hne
  have hp:=pos_of_ne hne
  exact⟨_,_,rfl,.inl S,(by rw [List.length_map];lia),a,_,_,_,rfl,rfl,S,hz,q _⟩
abbrev s__law_mix:Stmt:=top 45
theorem sc__law_mix:FnScope ["_law_script", "_law_k", "_law_number"] ["_law_script", "_law_k"] (defScope s__law_mix):=⟨rfl,rfl,rfl,by decide +kernel,rfl,by decide +kernel,by decide +kernel⟩
theorem ok__law_mix {f:Addr}{fd:FuncData}(F:Fun K "_law_mix" "_law_mix" s__law_mix f fd) (T:Txt K mg CB CK CR CT CW CS DR DT FJ FG FS FA FE P w) (d__law_cell:Df P w K mg base "_law_cell" 1 ["_law_script", "_law_k"] (spCell K)):FnOk P w K mg base (CX1 P w) 2 f fd ["_law_script", "_law_k"] (spMix K):=by
 refine F.ok1 sc__law_mix (fun vs H Q E h=>?_) (fun cdv A outer s H vs Q E hr h=>?_)
 ·obtain ⟨a,ns,k,rfl,S,q⟩:=h;rfl
 ·obtain ⟨a,ns,k,rfl,S,q⟩:=h
  have nd:=sc__law_mix.nd
  refine⟨_,(pss_cons (ps_set (i:=2) nd rfl (Or.inl rfl) (pe_op op_mod (pe_op op_add (pe_own d__law_cell (hr.mono (by first|decide|lia)) rfl pass1 (pa_cons (pv 0) (pa_cons (pv 1) pa_nil))) (pe_op op_mul pe_int (pe_op op_add (pv 1) pe_int))) pe_int))
   (pss_cons (ps_set (i:=2) nd rfl (Or.inl rfl) (pe_op op_mod (pe_op op_mul (pv 2) pe_int) pe_int))
   (pss_one (ps_ret (pe_op op_mod (pe_op op_add (pe_op op_mul (pe_op op_fdiv (pv 2) pe_int) pe_int) (pv 2)) pe_int))))),?_⟩
  skip
  refine⟨a,ns,k,rfl,S,fun i=>?_⟩
  refine⟨.inl ⟨by decide,by decide⟩,(show (0:Int)<4294967291 by decide),?_⟩
  refine⟨.inr ⟨by decide,by decide⟩,(show (0:Int)<4294967279 by decide),?_⟩
  refine⟨⟨by decide,by decide⟩,.inr ⟨by decide,by decide⟩,(show (0:Int)<4294967231 by decide),?_⟩
  exact q _ (Int.emod_nonneg _ (by decide))
abbrev s__law_whole:Stmt:=top 46
theorem sc__law_whole:FnScope ["_law_found"] ["_law_found"] (defScope s__law_whole):=⟨rfl,rfl,rfl,by decide +kernel,rfl,by decide +kernel,by decide +kernel⟩
theorem ok__law_whole {f:Addr}{fd:FuncData}(F:Fun K "_law_whole" "_law_whole" s__law_whole f fd) (T:Txt K mg CB CK CR CT CW CS DR DT FJ FG FS FA FE P w)  : FnOk P w K mg base (CX1 P w) 1 f fd ["_law_found"] (spWhole):=by
 refine F.ok1 sc__law_whole (fun vs H Q E h=>?_) (fun cdv A outer s H vs Q E hr h=>?_)
 ·obtain ⟨i,rfl,q⟩:=h;rfl
 ·obtain ⟨i,rfl,q⟩:=h
  have nd:=sc__law_whole.nd
  refine⟨_,(pss_one (ps_ret (pe_and (pe_callB call_isi rfl T.z_isinstance boot_isinstance (pa_cons (pv 0) (pa_cons (pe_bltn (v:=.ty "int") rfl T.z_int boot_int rfl) pa_nil))) (pe_one (pe_not (pe_callB call_isi rfl T.z_isinstance boot_isinstance (pa_cons (pv 0) (pa_cons (pe_bltn (v:=.ty "bool") rfl T.z_bool boot_bool rfl) pa_nil)))))))),?_⟩
  skip
  refine⟨_,_,_,_,true,rfl,rfl,.int i,rfl,?_⟩
  exact⟨_,_,_,_,false,rfl,rfl,.int i,(by kernel_rfl),q⟩
abbrev s__law_net:Stmt:=top 47
theorem sc__law_net:FnScope ["_law_script", "_law_k", "_law_most", "_law_wide", "_law_steps", "_law_j", "_law_number", "_law_other", "_law_one", "_law_outs"] ["_law_script", "_law_k", "_law_most"] (defScope s__law_net):=⟨rfl,rfl,rfl,by decide +kernel,rfl,by decide +kernel,by decide +kernel⟩
theorem ok__law_net {f:Addr}{fd:FuncData}(F:Fun K "_law_net" "_law_net" s__law_net f fd) (T:Txt K mg CB CK CR CT CW CS DR DT FJ FG FS FA FE P w) (d__law_mix:Df P w K mg base "_law_mix" 2 ["_law_script", "_law_k"] (spMix K)):FnOk P w K mg base (CX1 P w) 3 f fd ["_law_script", "_law_k", "_law_most"] (spDrawnN K):=by
 refine F.ok1 sc__law_net (fun vs H Q E h=>?_) (fun cdv A outer s H vs Q E hr h=>?_)
 ·obtain ⟨a,ns,k,most,rfl,m1,m2,S,q⟩:=h;rfl
 ·obtain ⟨a,ns,k,most,rfl,m1,m2,S,q⟩:=h
  have nd:=sc__law_net.nd
  refine⟨_,(pss_cons (ps_set (i:=3) nd rfl (Or.inr rfl) (pe_op op_add pe_int (pe_op op_mod (pe_own d__law_mix (hr.mono (by first|decide|lia)) rfl pass1 (pa_cons (pv 0) (pa_cons (pv 1) pa_nil))) (pv 2))))
   (pss_cons (ps_set (i:=4) nd rfl (Or.inr rfl) (pe_lst pa_nil))
   (pss_cons (ps_for powns1 rfl (pi_range1 rfl T.z_range (pa_cons (pe_op op_mod (pe_own d__law_mix (hr.mono (by first|decide|lia)) rfl pass1 (pa_cons (pv 0) (pa_cons (pe_op op_add (pv 1) pe_int) pa_nil))) pe_int) pa_nil)) (pg_name (i:=5) nd rfl (Or.inl rfl))
   (pss_cons (ps_set (i:=6) nd rfl (Or.inl rfl) (pe_own d__law_mix (hr.mono (by first|decide|lia)) rfl pass1 (pa_cons (pv 0) (pa_cons (pe_op op_add (pe_op op_add (pv 1) pe_int) (pv 5)) pa_nil))))
   (pss_cons (ps_set (i:=7) nd rfl (Or.inl rfl) (pe_op op_mod (pe_op op_fdiv (pv 6) pe_int) (pe_op op_add (pv 3) (pv 5))))
   (pss_cons (ps_set (i:=8) nd rfl (Or.inl rfl) (pe_ix ix_list (pe_lst (pa_cons (pe_callB (call_max2 rfl) rfl T.z_max boot_max (pa_cons pe_int (pa_cons (pe_op op_sub (pv 7) pe_int) pa_nil))) (pa_cons (pe_op op_mod (pv 6) (pe_op op_add (pv 3) (pv 5))) (pa_cons (pv 7) (pa_cons (pe_op op_sub (pe_op op_add (pv 3) (pv 5)) pe_int) pa_nil))))) (pe_op op_mod (pe_op op_fdiv (pv 6) pe_int) pe_int) (fun _ _=>rfl)))
   (pss_one (ps_expr (pe_bm PySem.F.plainAttrs_list PySem.F.slot_list_append PySem.F.type_list_append mt_append (pv 4) (pa_cons (pe_tup (pa_cons (pv 8) (pa_cons (pv 7) pa_nil))) pa_nil))))))))
   (pss_cons (ps_setcomp (ot:=none) 9 [0,1,3,4] rfl nd rfl rfl (pi_range1 rfl T.z_range (pa_cons (pv 3) pa_nil)) (fun _ _ _ _=>(pe_op op_mod (pe_own d__law_mix (hr.mono (by first|decide|lia)) rfl pass10 (pa_cons (pv 1) (pa_cons (pe_op op_add (pe_op op_add (pv 2) pe_int) (pv 0)) pa_nil))) (pe_op op_add (pv 3) (pe_callB (show CallR _ _ (rLenS K) from call_lenS) rfl T.z_len boot_len (pa_cons (pv 4) pa_nil))))) (fun _ _ _ _=>trivial) rfl (nodupS_of rfl))
   (pss_one (ps_ret (pe_tup (pa_cons (pv 3) (pa_cons (pv 4) (pa_cons (pv 9) pa_nil)))))))))),?_⟩
  skip
  refine⟨a,ns,k,rfl,S,fun i hi=>?_⟩
  refine⟨(show (0:Int)<(most:Int) by lia),?_⟩
  have w0:=Int.emod_nonneg i (show (most:Int)≠0 by lia)
  have w1:=Int.emod_lt_of_pos i (show 0<(most:Int) by lia)
  try dsimp only [rI0,onI]
  generalize i % (most:Int)=w' at w0 w1 ⊢
  obtain ⟨w,hw⟩:∃w:Nat,1+w'=(w:Int):=⟨(1+w').toNat,by lia⟩
  try dsimp only [rI0,onI]
  rw [hw]
  refine⟨(show 0≤sizeLine by decide),fun sa hsa=>?_⟩
  have s1:∀o,Same H (upd H sa o):=fun o=>Same.new hsa
  refine⟨a,ns,_,rfl,(s1 _).seq S,fun i2 hi2=>?_⟩
  have c0:=Int.emod_nonneg i2 (show (9:Int)≠0 by decide)
  have c1:=Int.emod_lt_of_pos i2 (show (0:Int)<9 by decide)
  refine⟨(show (0:Int)<9 by decide),_,rfl,(by lia),(by lia),?_⟩
  generalize i2 % 9=c at c0 c1 ⊢
  refine for_range (lo:=0) (n:=c.toNat) (fun j σ2 H2=>∃(rs:List V) (st:List (Nat × Nat)) (v5 v6 v7 v8 v9:Option V),σ2=[some (.ref a),some (.int k),some (.int (most:Nat)),some (.int (w:Nat)),some (.ref sa),v5,v6,v7,v8,v9]∧Same H H2∧H2 sa=some (.lst rs)∧StepsAt H2 rs (st.map pairI)∧st.length=j∧∀(k:Nat) p,st[k]? = some p→p.1<w+k∧p.2<w+k)
   ⟨[],[],_,_,_,_,_,rfl,s1 _,upd_same,.nil,rfl,fun k p z=>by simp at z⟩ ?_ ?_
  ·rintro j σ2 H2 hj ⟨rs,st,v5,v6,v7,v8,v9,rfl,s2,hs2,st2,hll,hok⟩
   refine⟨a,ns,_,rfl,s2.seq S,fun num hn=>?_⟩
   have pos:0<(w:Int)+(0+(j:Int)):=by lia
   refine⟨⟨by decide,by decide⟩,pos,?_⟩
   have d0:=Int.emod_nonneg (num / 4096) (show (4:Int)≠0 by decide)
   have d1:=Int.emod_lt_of_pos (num / 4096) (show (0:Int)<4 by decide)
   have o0:=Int.emod_nonneg (num / 64) (show (w:Int)+(0+(j:Int))≠0 by lia)
   have o1:=Int.emod_lt_of_pos (num / 64) pos
   have x0:=Int.emod_nonneg num (show (w:Int)+(0+(j:Int))≠0 by lia)
   have x1:=Int.emod_lt_of_pos num pos
   dsimp only
   generalize num / 64 % ((w:Int)+(0+(j:Int)))=ot at o0 o1 ⊢
   obtain ⟨o,rfl⟩:∃o:Nat,ot=(o:Int):=⟨ot.toNat,by lia⟩
   refine⟨_,_,rfl,pos,(show 4≤sizeLine by decide),fun q4 hq4=>?_⟩
   obtain ⟨z,hone,one,rfl,ho⟩:=pick4 (a:=V.int (if (o:Int) - 1 > 0 then (o:Int) - 1 else 0)) (b:=V.int (num % ((w:Int)+(0+(j:Int))))) (c:=V.int (o:Int)) (d:=V.int ((w:Int)+(0+(j:Int)) - 1)) d0 d1 (R:=fun z=>∃u:Nat,z=V.int (u:Nat)∧u<w+j)
    ⟨(if (o:Int) - 1 > 0 then (o:Int) - 1 else 0).toNat,by congr 1;split <;> lia,by split <;> lia⟩ ⟨(num % ((w:Int)+(0+(j:Int)))).toNat,by congr 1;lia,by lia⟩ ⟨o,rfl,by lia⟩ ⟨w+j - 1,by congr 1;lia,by lia⟩
   refine⟨⟨by decide,by decide⟩,(show (0:Int)<4 by decide),q4,_,_,_,rfl,rfl,SqL.of upd_same,hone,?_⟩
   have s3:∀o,Same H2 (upd H2 q4 o):=fun o=>Same.new hq4
   refine⟨.inl ⟨rfl,_,SqL.of (s3 _ _ _ hs2)⟩,(show 2≤sizeLine by decide),fun t ht=>?_⟩
   have s4:∀o o',Same H2 (upd (upd H2 q4 o) t o'):=fun o o'=>(s3 o).upd ((s3 _).free ht)
   have hrl:=st2.length
   rw [List.length_map] at hrl
   refine⟨sa,_,_,rfl,rfl,s4 _ _ _ _ hs2,fitsL (by lia),?_⟩
   have hsaH:∀o o' o2,Same H (upd (upd (upd H2 q4 o) t o') sa o2):=fun o o' o2=>((s2.trans (s4 o o'))).upd hsa
   have ne:∀r u,H2 r=some (.tup u)→r≠sa:=fun r u e=>ne_of e hs2 (by intro z;cases z)
   have tne:t≠sa:=fun z=>by rw [z] at ht;rw [s3 _ _ _ hs2] at ht;cases ht
   refine⟨rs++[.ref t],st++[(one,o)],_,_,_,_,_,rfl,hsaH _ _ _,upd_same,?_,by rw [List.length_append,hll];rfl,steps_snoc_ok hok (by rw [hll];exact ho) (by rw [hll];show o<w+j;lia)⟩
   rw [List.map_append]
   refine StepsAt.snoc (st2.keep fun r u e=>?_) ?_
   ·rw [upd_ne (ne r u e)]
    exact s4 _ _ _ _ e
   ·rw [upd_ne tne,upd_same]
    rfl
  ·rintro σ2 H2 ⟨rs,st,v5,v6,v7,v8,v9,rfl,s2,hs2,st2,hll,hok⟩
   have hrl:=st2.length
   rw [List.length_map] at hrl
   refine⟨_,rfl,by exact Int.natCast_nonneg _,(by lia),?_⟩
   rw [Int.toNat_natCast]
   refine comp_range (lo:=0) (n:=w) (fun j ys H3=>∃os:List Nat,Same H2 H3∧ys=(os.map Int.ofNat).map V.int∧os.length=j∧∀v∈os,v<w+st.length) ⟨[],Same.refl H2,rfl,rfl,fun v z=>nomatch z⟩ (fun j ys H3 hj ⟨os,_,e,hl,_⟩=>?_) ?_ ?_
   ·rw [e,List.length_map,List.length_map,hl]
    exact fitsL (by lia)
   ·rintro j ys H3 R hj ⟨os,s3,rfl,hl,hos⟩ kR
    refine⟨a,ns,_,rfl,(s2.trans s3).seq S,fun num hn=>?_⟩
    have pos:0<(w:Int)+(rs.length:Int):=by lia
    have x0:=Int.emod_nonneg num (show (w:Int)+(rs.length:Int)≠0 by lia)
    have x1:=Int.emod_lt_of_pos num pos
    refine⟨_,_,rfl,.inl (SqL.of (s3 _ _ hs2)),pos,kR _ _ ⟨os++[(num % ((w:Int)+(rs.length:Int))).toNat],s3,?_,by rw [List.length_append,hl];rfl,fun v hv=>?_⟩⟩
    ·rw [List.map_append,List.map_append]
     congr 1
     show [V.int _]=[V.int ((num % ((w:Int)+(rs.length:Int))).toNat:Int)]
     rw [Int.toNat_of_nonneg x0]
    ·rcases List.mem_append.mp hv with z|z
     ·exact hos v z
     ·have:v=(num % ((w:Int)+(rs.length:Int))).toNat:=by simpa using z
      lia
   ·rintro ys H3 ⟨os,s3,rfl,hl,hos⟩
    intro oa hoa
    refine⟨(show 3≤sizeLine by decide),fun n hn=>?_⟩
    refine q _ n sa oa rs ⟨w,st,os⟩ ((s2.trans s3).trans ((Same.new hoa).trans (Same.new hn))) (netAt_new hn (new_at hoa (s3 _ _ hs2)) (st2.mono (s3.trans (Same.new hoa))) upd_same) ⟨by show 1≤w;lia,by show w≤64;lia,by show st.length≤500;lia,hok,hl,hos⟩ (by show w≤most;lia) (by show st.length≤8;lia)
abbrev s__law_cut:Stmt:=top 48
theorem sc__law_cut:FnScope ["_law_first", "_law_last", "_law_script", "_law_k", "_law_nodes", "_law_steps", "_law_wide", "_law_cut_here", "_law_one", "_law_other"] ["_law_first", "_law_last", "_law_script", "_law_k", "_law_nodes", "_law_steps", "_law_wide"] (defScope s__law_cut):=⟨rfl,rfl,rfl,by decide +kernel,rfl,by decide +kernel,by decide +kernel⟩
theorem step__law_cut {n:Nat}{f:Addr}{fd:FuncData}(F:Fun K "_law_cut" "_law_cut" s__law_cut f fd) (T:Txt K mg CB CK CR CT CW CS DR DT FJ FG FS FA FE P w) (d__law_mix:Df P w K mg base "_law_mix" 2 ["_law_script", "_law_k"] (spMix K)) (d__law_cut:Df P w K mg base "_law_cut" (3+n) ["_law_first", "_law_last", "_law_script", "_law_k", "_law_nodes", "_law_steps", "_law_wide"] (spCut K n)):FnOk P w K mg base (CX1 P w) (3+n+1) f fd ["_law_first", "_law_last", "_law_script", "_law_k", "_law_nodes", "_law_steps", "_law_wide"] (spCut K (n+1)):=by
 refine F.ok1 sc__law_cut (fun vs H Q E h=>?_) (fun cdv A outer s H vs Q E hr h=>?_)
 ·obtain ⟨f,l,w,a,dn,sa,ns,k,kvs,rs,st,rfl,_⟩:=h;rfl
 ·obtain ⟨f,l,w,a,dn,sa,ns,k,kvs,rs,st,rfl,hfl,hlw,hln,hb,S,C,q⟩:=h
  have nd:=sc__law_cut.nd
  refine⟨_,(pss_cons (ps_if (pt_cmpR op_eq (pv 0) (pv 1) (nomark _))
 (pss_one (ps_ret (pv 0)))
 pss_nil)
 (pss_cons (ps_if (pt_cmp (pc_dnotin (hu_of hr) (pe_tup (pa_cons (pv 0) (pa_cons (pv 1) pa_nil))) (pv 4)))
 (pss_cons (ps_set (i:=7) nd rfl (Or.inl rfl) (pe_op op_add (pv 0) (pe_op op_mod (pe_own d__law_mix (hr.mono (by first|decide|lia)) rfl pass1 (pa_cons (pv 2) (pa_cons (pe_op op_add (pe_op op_add (pv 3) (pe_op op_mul pe_int (pv 0))) (pv 1)) pa_nil))) (pe_op op_sub (pv 1) (pv 0)))))
 (pss_cons (ps_set (i:=8) nd rfl (Or.inl rfl) (pe_own d__law_cut (hr.mono (by first|decide|lia)) rfl pass1 (pa_cons (pv 0) (pa_cons (pv 7) (pa_cons (pv 2) (pa_cons (pv 3) (pa_cons (pv 4) (pa_cons (pv 5) (pa_cons (pv 6) pa_nil)))))))))
 (pss_cons (ps_set (i:=9) nd rfl (Or.inl rfl) (pe_own d__law_cut (hr.mono (by first|decide|lia)) rfl pass1 (pa_cons (pe_op op_add (pv 7) pe_int) (pa_cons (pv 1) (pa_cons (pv 2) (pa_cons (pv 3) (pa_cons (pv 4) (pa_cons (pv 5) (pa_cons (pv 6) pa_nil)))))))))
 (pss_cons (ps_expr (pe_bm PySem.F.plainAttrs_list PySem.F.slot_list_append PySem.F.type_list_append mt_append (pv 5) (pa_cons (pe_tup (pa_cons (pv 8) (pa_cons (pv 9) pa_nil))) pa_nil)))
 (pss_one (ps_dput (hu_of hr) (pv 4) (pe_tup (pa_cons (pv 0) (pa_cons (pv 1) pa_nil))) (pe_op op_sub (pe_op op_add (pv 6) (pe_callB call_len_seq rfl T.z_len boot_len (pa_cons (pv 5) pa_nil))) pe_int) rfl))))))
 pss_nil)
 (pss_one (ps_ret (pe_dget (hu_of hr) (pv 4) (pe_tup (pa_cons (pv 0) (pa_cons (pv 1) pa_nil))) (fun _ _=>rfl)))))),?_⟩
  skip
  conv=>whnf
  by_cases e:f=l
  ·refine iteDT (by rw [e]) (q H f kvs rs st (But.refl H) C (Nat.le_refl _) (Nat.le_add_right _ _) (by lia))
  refine iteDF (fun z=>e (by have:=V.int.inj z;lia)) ?_
  refine⟨(show 2≤sizeLine by decide),fun t ht=>⟨dn,_,rfl,DGet.t (k:=[Sum.inl (f:Int),Sum.inl (l:Int)]) (new_at ht C.hd) upd_same,?_⟩⟩
  have C1:CutAt (upd H t (.tup [.int (f:Nat),.int (l:Nat)])) dn sa w kvs rs st:=C.new ht
  have B1:But dn sa H (upd H t (.tup [.int (f:Nat),.int (l:Nat)])):=But.same (Same.new ht)
  generalize upd H t (.tup [.int (f:Nat),.int (l:Nat)])=H1 at C1 B1 ⊢
  clear C ht
  cases ev:valV kvs ([Sum.inl (f:Int),Sum.inl (l:Int)]:List Key) with
  | some v0 =>
   refine ?_
   refine L2.ob_ea (C1.kv _ _ ev) fun u e_1 hu=>?_;subst e_1
   refine⟨(show 2≤sizeLine by decide),fun t2 ht2=>⟨dn,.int (u:Nat),rfl,?_,?_⟩⟩
   ·rw [←ev]
    exact DGet.t (k:=[Sum.inl (f:Int),Sum.inl (l:Int)]) (new_at ht2 C1.hd) upd_same
   ·exact q _ u kvs rs st (B1.trans (But.same (Same.new ht2))) (C1.new ht2) (Nat.le_refl _) (Nat.le_add_right _ _) hu
  | none =>
   refine ?_
   refine⟨.inl ⟨by decide,by decide⟩,a,ns,_,rfl,S _ B1,fun i hi=>?_⟩
   have pos:0<(l:Int) - (f:Int):=by lia
   have x0:=Int.emod_nonneg i (show (l:Int) - (f:Int)≠0 by lia)
   have x1:=Int.emod_lt_of_pos i pos
   refine⟨pos,?_⟩
   obtain ⟨c,hc⟩:∃c:Nat,(f:Int)+i % ((l:Int) - (f:Int))=(c:Int):=⟨((f:Int)+i % ((l:Int) - (f:Int))).toNat,by lia⟩
   dsimp only [rI0,onI]
   rw [hc]
   have hc0:f≤c:=by lia
   have hc1:c<l:=by lia
   refine⟨f,c,w,a,dn,sa,ns,k,kvs,rs,st,rfl,hc0,by lia,by lia,by lia,(fun H' b=>S H' (B1.trans b)),C1,fun H2 v1 kvs1 rs1 st1 B2 C2 g1 g2 hv1=>?_⟩
   have ec:(c:Int)+1=((c+1:Nat):Int):=by rfl
   refine⟨c+1,l,w,a,dn,sa,ns,k,kvs1,rs1,st1,congrArg (fun z=>[V.int z,V.int (l:Nat),V.ref a,V.int k,V.ref dn,V.ref sa,V.int (w:Nat)]) ec,by assumption,by lia,by lia,by lia,(fun H' b=>S H' ((B1.trans B2).trans b)),C2,fun H3 v2 kvs2 rs2 st2 B3 C3 g3 g4 hv2=>?_⟩
   have ne:=C3.ne
   have hrl:=C3.sp.length
   rw [List.length_map] at hrl
   refine⟨.inl ⟨rfl,_,SqL.of C3.hs⟩,(show 2≤sizeLine by decide),fun t3 ht3=>?_⟩
   have C4:CutAt (upd H3 t3 (.tup [.int (v1:Nat),.int (v2:Nat)])) dn sa w kvs2 rs2 st2:=C3.new ht3
   have ht4:upd H3 t3 (.tup [.int (v1:Nat),.int (v2:Nat)]) t3=some (.tup [.int (v1:Nat),.int (v2:Nat)]):=upd_same
   have B4:But dn sa H3 (upd H3 t3 (.tup [.int (v1:Nat),.int (v2:Nat)])):=But.same (Same.new ht3)
   generalize upd H3 t3 (.tup [.int (v1:Nat),.int (v2:Nat)])=H4 at C4 ht4 B4 ⊢
   refine⟨sa,_,_,rfl,rfl,C4.hs,fitsL (by lia),?_⟩
   have tneS:t3≠sa:=ne_of ht4 C4.hs (by intro z;cases z)
   have keepS:∀r u,H4 r=some (.tup u)→(upd H4 sa (.lst (rs2++[.ref t3]))) r=some (.tup u):=fun r u e=>by
    rw [upd_ne (ne_of e C4.hs (by intro z;cases z))];exact e
   have C5:CutAt (upd H4 sa (.lst (rs2++[.ref t3]))) dn sa w kvs2 (rs2++[.ref t3]) (st2++[(v1,v2)]) :=
    ⟨by rw [upd_ne ne];exact C4.hd,upd_same,by rw [List.map_append];exact (C4.sp.keep keepS).snoc (keepS _ _ ht4),steps_snoc_ok C4.ok (show v1<w+st2.length by lia) hv2,
     fun kk vv e=>by
      refine L2.ob_ea (C4.kv kk vv e) fun u e1 e2=>?_
      exact⟨u,e1,by rw [List.length_append];solve_by_elim⟩,by have:=C4.ln;rw [List.length_append];solve_by_elim⟩
   have B5:But dn sa H4 (upd H4 sa (.lst (rs2++[.ref t3]))):=But.sa
   have hl5:(st2++[(v1,v2)]).length=st2.length+1:=by rw [List.length_append];rfl
   generalize upd H4 sa (.lst (rs2++[.ref t3]))=H5 at C5 B5 ⊢
   generalize st2++[(v1,v2)]=st5 at C5 hl5
   have hr5:(rs2++[V.ref t3]).length=st2.length+1:=by rw [List.length_append,hrl];rfl
   generalize rs2++[V.ref t3]=rs5 at C5 hr5
   refine⟨_,_,rfl,.inl (SqL.of C5.hs),(show 2≤sizeLine by decide),fun t6 ht6=>?_⟩
   have C6:CutAt (upd H5 t6 (.tup [.int (f:Nat),.int (l:Nat)])) dn sa w kvs2 rs5 st5:=C5.new ht6
   have hle:=C5.ln
   refine⟨dn,_,rfl,DPut.t (k:=[Sum.inl (f:Int),Sum.inl (l:Int)]) C6.hd upd_same (by rw [sizeLine_eq];lia),?_⟩
   have ev6:(w:Int)+(rs5.length:Int) - 1=((w+st2.length:Nat):Int):=by lia
   dsimp only
   rw [ev6]
   have B6:But dn sa H5 (upd H5 t6 (.tup [.int (f:Nat),.int (l:Nat)])):=But.same (Same.new ht6)
   generalize upd H5 t6 (.tup [.int (f:Nat),.int (l:Nat)])=H6 at C6 B6 ⊢
   have keepD:∀r u,H6 r=some (.tup u)→(upd H6 dn (.dT (putK kvs2 [Sum.inl (f:Int),Sum.inl (l:Int)] (.int ((w+st2.length:Nat):Int))))) r=some (.tup u):=fun r u e=>by
    rw [upd_ne (ne_of e C6.hd (by intro z;cases z))];exact e
   have C7:CutAt (upd H6 dn (.dT (putK kvs2 [Sum.inl (f:Int),Sum.inl (l:Int)] (.int ((w+st2.length:Nat):Int))))) dn sa w (putK kvs2 [Sum.inl (f:Int),Sum.inl (l:Int)] (.int ((w+st2.length:Nat):Int))) rs5 st5 :=
    ⟨upd_same,by rw [upd_ne ne.symm];exact C6.hs,C6.sp.keep keepD,C6.ok,fun kk vv e=>by
     rw [valV_put] at e
     by_cases c:kk=[Sum.inl (f:Int),Sum.inl (l:Int)]
     ·rw [if_pos c] at e
      obtain rfl:=Option.some.inj e
      exact⟨w+st2.length,rfl,by lia⟩
     ·rw [if_neg c] at e
      exact C6.kv kk vv e,by have:=length_putK kvs2 [Sum.inl (f:Int),Sum.inl (l:Int)] (.int ((w+st2.length:Nat):Int));have:=C4.ln;lia⟩
   have B7:But dn sa H6 (upd H6 dn (.dT (putK kvs2 [Sum.inl (f:Int),Sum.inl (l:Int)] (.int ((w+st2.length:Nat):Int))))):=But.dn
   have ev7:valV (putK kvs2 [Sum.inl (f:Int),Sum.inl (l:Int)] (.int ((w+st2.length:Nat):Int))) [Sum.inl (f:Int),Sum.inl (l:Int)]=some (.int ((w+st2.length:Nat):Int)):=by rw [valV_put,if_pos rfl]
   generalize upd H6 dn (.dT (putK kvs2 [Sum.inl (f:Int),Sum.inl (l:Int)] (.int ((w+st2.length:Nat):Int))))=H7 at C7 B7 ⊢
   generalize putK kvs2 [Sum.inl (f:Int),Sum.inl (l:Int)] (.int ((w+st2.length:Nat):Int))=kvs7 at C7 ev7
   refine⟨(show 2≤sizeLine by decide),fun t8 ht8=>⟨dn,.int ((w+st2.length:Nat):Int),rfl,?_,?_⟩⟩
   ·rw [←ev7]
    exact DGet.t (k:=[Sum.inl (f:Int),Sum.inl (l:Int)]) (new_at ht8 C7.hd) upd_same
   ·exact q _ (w+st2.length) kvs7 rs5 st5 ((((((B1.trans B2).trans B3).trans B4).trans B5).trans B6).trans (B7.trans (But.same (Same.new ht8)))) (C7.new ht8) (by lia) (by lia) (by lia)
theorem ok__law_cut {f:Addr}{fd:FuncData}(F:Fun K "_law_cut" "_law_cut" s__law_cut f fd) (T:Txt K mg CB CK CR CT CW CS DR DT FJ FG FS FA FE P w) (d__law_mix:Df P w K mg base "_law_mix" 2 ["_law_script", "_law_k"] (spMix K)) (hm:mg "_law_cut" = some (.ref f)) (hk:PySem.W.keepIn K (.ref f)=true) (hb:Binds K fd ["_law_first", "_law_last", "_law_script", "_law_k", "_law_nodes", "_law_steps", "_law_wide"] []):FnOk P w K mg base (CX1 P w) 16 f fd ["_law_first", "_law_last", "_law_script", "_law_k", "_law_nodes", "_law_steps", "_law_wide"] (spCut K 13):=by
 have all:∀n,FnOk P w K mg base (CX1 P w) (3+n) f fd ["_law_first", "_law_last", "_law_script", "_law_k", "_law_nodes", "_law_steps", "_law_wide"] (spCut K n):=by
  intro n
  induction n with
  | zero =>
   refine F.ok1 sc__law_cut (fun vs H Q E h=>?_) (fun cdv A outer s H vs Q E hr h=>?_)
   ·obtain ⟨f,l,w,a,dn,sa,ns,k,kvs,rs,st,rfl,_⟩:=h;rfl
   ·obtain ⟨f,l,w,a,dn,sa,ns,k,kvs,rs,st,rfl,hfl,hlw,hln,_⟩:=h
    lia
  | succ n ih=>exact step__law_cut F T d__law_mix ⟨f,fd,hm,hk,hb,ih⟩
 exact all 13
abbrev s__law_right:Stmt:=top 49
theorem sc__law_right:FnScope ["_law_script", "_law_k", "_law_most", "_law_wide", "_law_nodes", "_law_steps", "_law_outs"] ["_law_script", "_law_k", "_law_most"] (defScope s__law_right):=⟨rfl,rfl,rfl,by decide +kernel,rfl,by decide +kernel,by decide +kernel⟩
inductive Iv_law_right_0 (w:Nat) (dn:Addr) (sa:Addr) (H2:Hp) (j:Nat) (ys:List V) (H3:Hp):Prop
 | mk:∀(os:List Nat) (kvs:List (List Key × V)) (rs:List V) (st:List (Nat × Nat)),(But dn sa H2 H3)→(CutAt H3 dn sa w kvs rs st)→(ys=(os.map Int.ofNat).map V.int)→(os.length=j)→((∀v∈os,v<w+st.length))→(2*st.length≤j*(j - 1))→(st.length≤j*12)→Iv_law_right_0 w dn sa H2 j ys H3
theorem ok__law_right {f:Addr}{fd:FuncData}(F:Fun K "_law_right" "_law_right" s__law_right f fd) (T:Txt K mg CB CK CR CT CW CS DR DT FJ FG FS FA FE P w) (d__law_mix:Df P w K mg base "_law_mix" 2 ["_law_script", "_law_k"] (spMix K)) (d__law_cut:Df P w K mg base "_law_cut" 16 ["_law_first", "_law_last", "_law_script", "_law_k", "_law_nodes", "_law_steps", "_law_wide"] (spCut K 13)):FnOk P w K mg base (CX1 P w) 17 f fd ["_law_script", "_law_k", "_law_most"] (spRight K):=by
 refine F.ok1 sc__law_right (fun vs H Q E h=>?_) (fun cdv A outer s H vs Q E hr h=>?_)
 ·obtain ⟨a,ns,k,most,rfl,m1,m2,S,q⟩:=h;rfl
 ·obtain ⟨a,ns,k,most,rfl,m1,m2,S,q⟩:=h
  have nd:=sc__law_right.nd
  refine⟨_,(pss_cons (ps_set (i:=3) nd rfl (Or.inr rfl) (pe_op op_add pe_int (pe_op op_mod (pe_own d__law_mix (hr.mono (by first|decide|lia)) rfl pass1 (pa_cons (pv 0) (pa_cons (pv 1) pa_nil))) (pv 2))))
   (pss_cons (ps_set (i:=4) nd rfl (Or.inr rfl) pe_dnewT)
   (pss_cons (ps_set (i:=5) nd rfl (Or.inr rfl) (pe_lst pa_nil))
   (pss_cons (ps_setcomp (ot:=none) 6 [0,1,3,4,5] rfl nd rfl rfl (pi_range1 rfl T.z_range (pa_cons (pv 3) pa_nil)) (fun _ _ _ _=>(pe_own d__law_cut (hr.mono (by first|decide|lia)) rfl pass10 (pa_cons pe_int (pa_cons (pv 0) (pa_cons (pv 1) (pa_cons (pe_op op_add (pv 2) pe_int) (pa_cons (pv 4) (pa_cons (pv 5) (pa_cons (pv 3) pa_nil))))))))) (fun _ _ _ _=>trivial) rfl (nodupS_of rfl))
   (pss_one (ps_ret (pe_tup (pa_cons (pv 3) (pa_cons (pv 5) (pa_cons (pv 6) pa_nil)))))))))),?_⟩
  skip
  refine⟨a,ns,k,rfl,S,fun i hi=>?_⟩
  refine⟨(by lia),?_⟩
  have w0:=Int.emod_nonneg i (show (most:Int)≠0 by lia)
  have w1:=Int.emod_lt_of_pos i (show 0<(most:Int) by lia)
  dsimp only [rI0,onI]
  generalize i % (most:Int)=w' at w0 w1 ⊢
  obtain ⟨w,hw⟩:∃w:Nat,1+w'=(w:Int):=⟨(1+w').toNat,by lia⟩
  rw [hw]
  intro dn hdn
  refine⟨(show 0≤sizeLine by decide),fun sa hsa=>?_⟩
  have s2:Same H (upd (upd H dn (.dT [])) sa (.lst [])):=(Same.new hdn).trans (Same.new hsa)
  have fdn:H dn=none:=hdn
  have fsa:H sa=none:=(Same.new hdn).free hsa
  have C0:CutAt (upd (upd H dn (.dT [])) sa (.lst [])) dn sa w [] [] []:=⟨new_at hsa upd_same,upd_same,.nil,(fun k p z=>by simp at z),(fun k v z=>by rw [valV_nil] at z;exact L2.ns_ z),Nat.le_refl _⟩
  have SS:=But.all S fdn fsa s2
  generalize upd (upd H dn (.dT [])) sa (.lst [])=H2 at s2 C0 SS ⊢
  refine⟨_,rfl,by solve_by_elim,by lia,?_⟩
  rw [Int.toNat_natCast]
  refine comp_range (lo:=0) (n:=w) (Iv_law_right_0 w dn sa H2) ⟨[],[],[],[],But.refl H2,C0,rfl,rfl,(fun v z=>nomatch z),Nat.le_refl _,Nat.le_refl _⟩ (fun j ys H3 hj ⟨os,_,_,_,_,_,e,hl,_,_,_⟩=>?_) ?_ ?_
  ·rw [e,List.length_map,List.length_map,hl]
   exact fitsL (by lia)
  ·rintro j ys H3 R hj ⟨os,kvs,rs,st,B,C,rfl,hl,hos,h2,h3⟩ kR
   refine⟨0,j,w,a,dn,sa,ns,_,kvs,rs,st,by rw [Int.zero_add];rfl,Nat.zero_le _,hj,by lia,by lia,(fun H' b=>SS H' (B.trans b)),C,fun H4 v kvs4 rs4 st4 B4 C4 g1 g2 hv=>kR _ _ ⟨os++[v],kvs4,rs4,st4,B.trans B4,C4,?_,by rw [List.length_append,hl];rfl,fun u hu=>?_,?_,by lia⟩⟩
   ·rw [List.map_append,List.map_append];rfl
   ·rcases List.mem_append.mp hu with z|z
    ·have:=hos u z
     lia
    ·have:u=v:=by simpa using z
     lia
   ·have e:(j+1)*(j+1 - 1)=j*(j - 1)+2*j:=by
     cases j with
     | zero=>rfl
     | succ j =>
      show (j+1+1)*(j+1)=(j+1)*j+2*(j+1)
      rw [Nat.mul_comm,Nat.mul_add,Nat.mul_add,Nat.mul_one]
      lia
    rw [e];lia
  ·rintro ys H3 ⟨os,kvs,rs,st,B,C,rfl,hl,hos,h2,h3⟩
   intro oa hoa
   refine⟨(show 3≤sizeLine by decide),fun n hn=>?_⟩
   have s3:Same H H3:=fun b o e=>B b o (ne_of_none e fdn) (ne_of_none e fsa) (s2 b o e)
   refine q _ n sa oa rs ⟨w,st,os⟩ (s3.trans ((Same.new hoa).trans (Same.new hn))) (netAt_new hn (new_at hoa C.hs) (C.sp.mono (Same.new hoa)) upd_same) ⟨by show 1≤w;lia,by show w≤64;lia,by show st.length≤500;lia,C.ok,hl,hos⟩ (by show w≤most;lia) h2
abbrev s__law_bent:Stmt:=top 50
theorem sc__law_bent:FnScope ["_law_script", "_law_k", "_law_net_here", "_law_wide", "_law_steps", "_law_outs", "_law_number", "_law_at", "_law_other", "_law_bent_here"] ["_law_script", "_law_k", "_law_net_here"] (defScope s__law_bent):=⟨rfl,rfl,rfl,by decide +kernel,rfl,by decide +kernel,by decide +kernel⟩
inductive Iv_law_bent_0 (H:Hp) (N:NetN) (j:Nat) (o:Nat) (p:Nat × Nat) (t1:Addr) (t2:Addr) (t3:Addr) (q4:Addr) (z:V):Prop
 | mk:∀(t:Addr) (qq:Nat × Nat),(z=V.ref t)→((upd (upd (upd (upd H t1 (.tup [.int (p.1:Nat),.int (o:Nat)])) t2 (.tup [.int (o:Nat),.int (p.2:Nat)])) t3 (.tup [.int (p.2:Nat),.int (p.1:Nat)])) q4 (.lst [.ref t1,.ref t2,.ref t3])) t=some (.tup ((pairI qq).map V.int)))→(qq.1<N.w+j)→(qq.2<N.w+j)→Iv_law_bent_0 H N j o p t1 t2 t3 q4 z
theorem ok__law_bent {f:Addr}{fd:FuncData}(F:Fun K "_law_bent" "_law_bent" s__law_bent f fd) (T:Txt K mg CB CK CR CT CW CS DR DT FJ FG FS FA FE P w) (d__law_mix:Df P w K mg base "_law_mix" 2 ["_law_script", "_law_k"] (spMix K)):FnOk P w K mg base (CX1 P w) 3 f fd ["_law_script", "_law_k", "_law_net_here"] (spBent K):=by
 refine F.ok1 sc__law_bent (fun vs H Q E h=>?_) (fun cdv A outer s H vs Q E hr h=>?_)
 ·obtain ⟨a,ns,k,n,sa,oa,rs,N,rfl,S,nt,hN,hlt,q⟩:=h;rfl
 ·obtain ⟨a,ns,k,n,sa,oa,rs,N,rfl,S,nt,hN,hlt,q⟩:=h
  have nd:=sc__law_bent.nd
  refine⟨_,(pss_cons (ps_asg (pv 2) (pg_tup rfl (pgs_cons (pg_name (i:=3) nd rfl (Or.inl rfl)) (pgs_cons (pg_name (i:=4) nd rfl (Or.inl rfl)) (pgs_cons (pg_name (i:=5) nd rfl (Or.inl rfl)) pgs_nil)))))
   (pss_cons (ps_set (i:=6) nd rfl (Or.inl rfl) (pe_own d__law_mix (hr.mono (by first|decide|lia)) rfl pass1 (pa_cons (pv 0) (pa_cons (pv 1) pa_nil))))
   (pss_cons (ps_set (i:=7) nd rfl (Or.inl rfl) (pe_op op_mod (pe_op op_fdiv (pv 6) pe_int) (pe_callB (call_max2 rfl) rfl T.z_max boot_max (pa_cons pe_int (pa_cons (pe_callB call_len_seq rfl T.z_len boot_len (pa_cons (pv 4) pa_nil)) pa_nil)))))
   (pss_cons (ps_if (PW.pt (pw_and (pt_cmpR op_eq (pe_op op_mod (pv 6) pe_int) pe_int (nomark _)) (pw_and1 (pt_truth (pv 4) (fun _=>rfl)))))
   (pss_cons (ps_set (i:=8) nd rfl (Or.inl rfl) (pe_op op_mod (pe_op op_fdiv (pv 6) pe_int) (pe_op op_add (pv 3) (pv 7))))
   (pss_cons (ps_set (i:=9) nd rfl (Or.inl rfl) (pe_ix ix_list (pe_lst (pa_cons (pe_tup (pa_cons (pe_ix ix_tup (pe_ix ix_list (pv 4) (pv 7) (fun _ _=>rfl)) pe_int (fun _ _=>rfl)) (pa_cons (pv 8) pa_nil))) (pa_cons (pe_tup (pa_cons (pv 8) (pa_cons (pe_ix ix_tup (pe_ix ix_list (pv 4) (pv 7) (fun _ _=>rfl)) pe_int (fun _ _=>rfl)) pa_nil))) (pa_cons (pe_rev2 (pe_ix ix_list (pv 4) (pv 7) (fun _ _=>rfl))) pa_nil)))) (pe_op op_mod (pe_op op_fdiv (pv 6) pe_int) pe_int) (fun _ _=>rfl)))
   (pss_one (ps_ret (pe_tup (pa_cons (pv 3) (pa_cons (pe_op op_cat (pe_op op_cat (pe_slice sl_list (pv 4) po_none (po_some (pv 7))) (pe_lst (pa_cons (pv 9) pa_nil))) (pe_slice sl_list (pv 4) (po_some (pe_op op_add (pv 7) pe_int)) po_none)) (pa_cons (pv 5) pa_nil))))))))
   pss_nil)
   (pss_cons (ps_if (pt_cmpR op_eq (pe_op op_mod (pv 6) pe_int) pe_int (nomark _))
   (pss_cons (ps_set (i:=7) nd rfl (Or.inl rfl) (pe_op op_mod (pe_op op_fdiv (pv 6) pe_int) (pv 3)))
   (pss_one (ps_ret (pe_tup (pa_cons (pv 3) (pa_cons (pv 4) (pa_cons (pe_op op_cat (pe_op op_cat (pe_slice sl_list (pv 5) po_none (po_some (pv 7))) (pe_lst (pa_cons (pe_op op_mod (pe_op op_fdiv (pv 6) pe_int) (pe_op op_add (pv 3) (pe_callB call_len_seq rfl T.z_len boot_len (pa_cons (pv 4) pa_nil)))) pa_nil))) (pe_slice sl_list (pv 5) (po_some (pe_op op_add (pv 7) pe_int)) po_none)) pa_nil)))))))
   pss_nil)
   (pss_cons (ps_if (pt_cmpR op_eq (pe_op op_mod (pv 6) pe_int) pe_int (nomark _))
   (pss_one (ps_ret (pe_tup (pa_cons (pv 3) (pa_cons (pe_op op_cat (pv 4) (pe_lst (pa_cons (pe_tup (pa_cons (pe_op op_mod (pe_op op_fdiv (pv 6) pe_int) (pe_op op_add (pv 3) (pe_callB call_len_seq rfl T.z_len boot_len (pa_cons (pv 4) pa_nil)))) (pa_cons (pe_op op_mod (pe_op op_fdiv (pv 6) pe_int) (pv 3)) pa_nil))) pa_nil))) (pa_cons (pv 5) pa_nil))))))
   pss_nil)
   (pss_one (ps_ret (pv 2))))))))),?_⟩
  skip
  have hw0:=hN.lo
  have hw1:=hN.hi
  have hol:=hN.ol
  have hrl:rs.length=N.st.length:=by rw [nt.st.length,steps_len]
  refine⟨n,_,rfl,SqT.of nt.net,rfl,?_⟩
  refine⟨a,ns,k,rfl,S,fun num hnum=>?_⟩
  have posm:(0:Int)<if (rs.length:Int) > 1 then (rs.length:Int) else 1:=by split <;> lia
  refine⟨⟨by decide,by decide⟩,_,_,rfl,.inl (SqL.of nt.sts),_,_,rfl,posm,?_⟩
  have a0:=Int.emod_nonneg (num / 8) (show (if (rs.length:Int) > 1 then (rs.length:Int) else 1)≠0 by lia)
  have a1:=Int.emod_lt_of_pos (num / 8) posm
  dsimp only
  generalize num / 8 % (if (rs.length:Int) > 1 then (rs.length:Int) else 1)=at' at a0 a1 ⊢
  obtain ⟨j,rfl⟩:∃j:Nat,at'=(j:Int):=⟨at'.toNat,by lia⟩
  have hjr:0<rs.length→j<rs.length:=fun h=>by split at a1 <;> lia
  refine⟨(show (0:Int)<8 by decide),iteB (fun c1=>⟨_,.inl ⟨_,SqL.of nt.sts,rfl⟩,iteN (fun c2=>?A) (fun c2=>?B1)⟩) (fun c1=>?B2)⟩
  case A =>
   have hjl:j<rs.length:=hjr (by cases rs with
    | nil=>cases c2
    | cons _ _=>simp)
   have pos:0<(N.w:Int)+(j:Int):=by lia
   have o0:=Int.emod_nonneg (num / 64) (show (N.w:Int)+(j:Int)≠0 by lia)
   have o1:=Int.emod_lt_of_pos (num / 64) pos
   refine⟨⟨by decide,by decide⟩,pos,?_⟩
   dsimp only
   generalize num / 64 % ((N.w:Int)+(j:Int))=ot at o0 o1 ⊢
   obtain ⟨o,rfl⟩:∃o:Nat,ot=(o:Int):=⟨ot.toNat,by lia⟩
   obtain ⟨y,hy⟩:∃y,rs[j]? = some y:=⟨_,List.getElem?_eq_getElem hjl⟩
   refine L2.ob_eeaa (NetN.Ok.steps_get nt.st hy) fun r p e_2 hp hr0=>?_;subst e_2
   obtain ⟨p1,p2⟩:=hN.s1 j p hp
   have d0:=Int.emod_nonneg (num / 4096) (show (3:Int)≠0 by decide)
   have d1:=Int.emod_lt_of_pos (num / 4096) (show (0:Int)<3 by decide)
   refine⟨sa,_,_,_,rfl,rfl,SqL.of nt.sts,atI_nat hy,r,_,_,_,rfl,rfl,SqT.of hr0,rfl,(show 2≤sizeLine by decide),fun t1 h1=>?_⟩
   refine⟨sa,_,_,_,rfl,rfl,SqL.of (new_at h1 nt.sts),atI_nat hy,r,_,_,_,rfl,rfl,SqT.of (new_at h1 hr0),rfl,(show 2≤sizeLine by decide),fun t2 h2=>?_⟩
   refine⟨sa,_,_,_,rfl,rfl,SqL.of (new_at h2 (new_at h1 nt.sts)),atI_nat hy,r,_,_,rfl,SqT.of (new_at h2 (new_at h1 hr0)),fun t3 h3=>⟨(show 3≤sizeLine by decide),fun q4 h4=>?_⟩⟩
   obtain ⟨z,hz,t,qq,rfl,ht,hq1,hq2⟩:=pick3 (a:=V.ref t1) (b:=V.ref t2) (c:=V.ref t3) d0 d1 (R:=Iv_law_bent_0 H N j o p t1 t2 t3 q4)
    ⟨t1,(p.1,o),rfl,by walk_at "hp", p1,by show o<N.w+j;lia⟩ ⟨t2,(o,p.2),rfl,by walk_at "hp", by show o<N.w+j;lia,p2⟩ ⟨t3,(p.2,p.1),rfl,by walk_at "hp", p2,p1⟩
   refine⟨⟨by decide,by decide⟩,(show (0:Int)<3 by decide),q4,_,_,_,rfl,rfl,SqL.of upd_same,hz,?_⟩
   have s4:Same H (upd (upd (upd (upd H t1 (.tup [.int (p.1:Nat),.int (o:Nat)])) t2 (.tup [.int (o:Nat),.int (p.2:Nat)])) t3 (.tup [.int (p.2:Nat),.int (p.1:Nat)])) q4 (.lst [.ref t1,.ref t2,.ref t3])):=by walk_at "sm"
   generalize (upd (upd (upd (upd H t1 (.tup [.int (p.1:Nat),.int (o:Nat)])) t2 (.tup [.int (o:Nat),.int (p.2:Nat)])) t3 (.tup [.int (p.2:Nat),.int (p.1:Nat)])) q4 (.lst [.ref t1,.ref t2,.ref t3]))=H4 at ht s4 ⊢
   clear h1 h2 h3 h4
   have nt4:=nt.mono s4
   have hsts:=nt4.sts
   have hots:=nt4.ots
   have ec:(j:Int)+1=((j+1:Nat):Int):=by rfl
   refine⟨sa,rs,rfl,SqL.of hsts,fun q1 g1=>?_⟩
   refine⟨(show 1≤sizeLine by decide),fun q2 g2=>?_⟩
   refine⟨q1,q2,cutV rs none (some (j:Int)),[.ref t],rfl,rfl,(by walk_at "hp"),upd_same,fits (by have:=cutV_length rs none (some (j:Int));show _+1≤10000;lia),fun q3 g3=>?_⟩
   refine⟨sa,rs,rfl,SqL.of (by walk_at "hp"),fun q5 g5=>?_⟩
   refine⟨q3,q5,cutV rs none (some (j:Int))++[.ref t],cutV rs (some ((j:Int)+1)) none,rfl,rfl,(by walk_at "hp"),upd_same,fits (by have:=cutV_length rs none (some (j:Int));have:=cutV_length rs (some ((j:Int)+1)) none;rw [List.length_append];show _+1+_≤10000;lia),fun q6 g6=>?_⟩
   refine⟨(show 3≤sizeLine by decide),fun n' hn'=>?_⟩
   have hNs:=net_step hN (i:=j) (q:=qq) (by lia) hq1 hq2
   have es:NetN.steps ⟨N.w,N.st.take j++[qq]++N.st.drop (j+1),N.ou⟩=(cutL N.steps none (some (j:Int))++[pairI qq])++cutL N.steps (some ((j:Int)+1)) none:=by
    rw [ec,cutL_take,cutL_drop]
    show List.map pairI _=_
    unfold NetN.steps
    rw [List.map_append,List.map_append,List.map_take,List.map_drop]
    rfl
   refine q _ n' q6 oa _ ⟨N.w,N.st.take j++[qq]++N.st.drop (j+1),N.ou⟩ (by walk_at "sm") (netAt_new hn' upd_same ?_ (by walk_at "hp")) hNs.1 rfl (by show (N.st.take j++[qq]++N.st.drop (j+1)).length≤_;rw [hNs.2];solve_by_elim)
   rw [es]
   refine StepsAt.append (StepsAt.append ?_ (.cons ?_ .nil)) ?_
   ·exact (nt4.st.mono (by walk_at "sm")).cut none (some (j:Int))
   ·walk_at "hp"
   ·exact (nt4.st.mono (by walk_at "sm")).cut (some ((j:Int)+1)) none
  all_goals
   have hsts:=nt.sts
   have hots:=nt.ots
   have posw:(0:Int)<(N.w:Int):=by lia
   have posn:(0:Int)<(N.w:Int)+(rs.length:Int):=by lia
   have m0:=Int.emod_nonneg (num / 64) (show (N.w:Int)+(rs.length:Int)≠0 by lia)
   have m1:=Int.emod_lt_of_pos (num / 64) posn
   have b0:=Int.emod_nonneg (num / 8) (show (N.w:Int)≠0 by lia)
   have b1:=Int.emod_lt_of_pos (num / 8) posw
   obtain ⟨m,hm⟩:∃m:Nat,num / 64 % ((N.w:Int)+(rs.length:Int))=(m:Int):=⟨(num / 64 % ((N.w:Int)+(rs.length:Int))).toNat,by lia⟩
   obtain ⟨i,hi⟩:∃i:Nat,num / 8 % (N.w:Int)=(i:Int):=⟨(num / 8 % (N.w:Int)).toNat,by lia⟩
   refine⟨(show (0:Int)<8 by decide),iteB (fun e1=>?C) (fun e1=>⟨(show (0:Int)<8 by decide),iteB (fun e2=>?D) (fun e2=>?F)⟩)⟩
   case C =>
    refine⟨⟨by decide,by decide⟩,posw,?_⟩
    dsimp only
    rw [hi]
    refine⟨oa,_,rfl,SqL.of hots,fun q1 g1=>?_⟩
    refine⟨⟨by decide,by decide⟩,_,_,rfl,.inl (SqL.of (by walk_at "hp")),posn,(show 1≤sizeLine by decide),fun q2 g2=>?_⟩
    refine⟨q1,q2,cutV (N.outs.map V.int) none (some (i:Int)),[.int (num / 64 % ((N.w:Int)+(rs.length:Int)))],rfl,rfl,(by walk_at "hp"),upd_same,fits (by have:=cutV_length (N.outs.map V.int) none (some (i:Int));rw [List.length_map,outs_len] at this;show _+1≤10000;lia),fun q3 g3=>?_⟩
    refine⟨oa,N.outs.map V.int,rfl,SqL.of (by walk_at "hp"),fun q5 g5=>?_⟩
    refine⟨q3,q5,cutV (N.outs.map V.int) none (some (i:Int))++[.int (num / 64 % ((N.w:Int)+(rs.length:Int)))],cutV (N.outs.map V.int) (some ((i:Int)+1)) none,rfl,rfl,(by walk_at "hp"),upd_same,fits (by have:=cutV_length (N.outs.map V.int) none (some (i:Int));have:=cutV_length (N.outs.map V.int) (some ((i:Int)+1)) none;rw [List.length_map,outs_len] at *;rw [List.length_append];show _+1+_≤10000;lia),fun q6 g6=>?_⟩
    refine⟨(show 3≤sizeLine by decide),fun n' hn'=>?_⟩
    have es:NetN.outs ⟨N.w,N.st,N.ou.take i++[m]++N.ou.drop (i+1)⟩=(cutL N.outs none (some (i:Int))++[(m:Int)])++cutL N.outs (some ((i:Int)+1)) none:=by
     rw [show (i:Int)+1=((i+1:Nat):Int) by rfl,cutL_take,cutL_drop]
     show List.map Int.ofNat _=_
     unfold NetN.outs
     rw [List.map_append,List.map_append,List.map_take,List.map_drop]
     rfl
    refine q _ n' sa q6 rs ⟨N.w,N.st,N.ou.take i++[m]++N.ou.drop (i+1)⟩ (by walk_at "sm") (netAt_new hn' (by walk_at "hp") (nt.st.mono (by walk_at "sm")) ?_) (net_out hN (by lia) (by lia)) rfl (by show N.st.length≤_;solve_by_elim)
    rw [es,List.map_append,List.map_append,←cut_map,←cut_map,←hm]
    exact upd_same
   case D =>
    refine⟨⟨by decide,by decide⟩,_,_,rfl,.inl (SqL.of hsts),posn,⟨by decide,by decide⟩,posw,(show 2≤sizeLine by decide),fun t g1=>⟨(show 1≤sizeLine by decide),fun q2 g2=>?_⟩⟩
    refine⟨sa,q2,rs,[.ref t],rfl,rfl,(by walk_at "hp"),upd_same,fits (by show _+1≤10000;lia),fun q3 g3=>⟨(show 3≤sizeLine by decide),fun n' hn'=>?_⟩⟩
    refine q _ n' q3 oa _ ⟨N.w,N.st++[(m,i)],N.ou⟩ (by walk_at "sm") (netAt_new hn' upd_same ?_ (by walk_at "hp")) (net_more hN hlt (show m<N.w+N.st.length by lia) (show i<N.w+N.st.length by lia)) rfl (by show (N.st++[(m,i)]).length≤_;rw [List.length_append];exact Nat.le_refl _)
    show StepsAt _ _ (List.map pairI (N.st++[(m,i)]))
    rw [List.map_append]
    refine StepsAt.append (nt.st.mono (by walk_at "sm")) (.cons ?_ .nil)
    show _=some (HO.tup [.int (m:Nat),.int (i:Nat)])
    rw [←hm,←hi]
    walk_at "hp"
   case F=>exact (q H n sa oa rs N (Same.refl H) nt hN rfl (Nat.le_succ _))
end
end K10

namespace K10
open PySem L2 NM PyProof.Rows
section
variable {P:Program}{w:World}{K:PySem.W.Frag}{mg:Str→Option Value}{base:Heap}{CB CK CR CT CW CS DR DT FJ FG FS FA FE PT:Addr}
abbrev s__law_refusal:Stmt:=top 52
theorem sc__law_refusal:FnScope ["_law_kept", "_law_kinds"] ["_law_kept"] (defScope s__law_refusal):=⟨rfl,rfl,rfl,by decide +kernel,rfl,by decide +kernel,by decide +kernel⟩
theorem ok__law_refusal {f:Addr}{fd:FuncData}(F:Fun K "_law_refusal" "_law_refusal" s__law_refusal f fd) (T:Txt K mg CB CK CR CT CW CS DR DT FJ FG FS FA FE P w)  : FnOk P w K mg base (CX1 P w) 1 f fd ["_law_kept"] (spRefusalJ CB CK CR):=by
 refine F.ok1 sc__law_refusal (fun vs H Q E h=>?_) (fun cdv A outer s H vs Q E hr h=>?_)
 ·obtain ⟨e,C,x,rfl,he,hC,k⟩:=h;rfl
 ·obtain ⟨e,C,x,rfl,he,hC,k⟩:=h
  have nd:=sc__law_refusal.nd
  refine⟨_,(pss_cons (ps_if (pt_cmpR op_isN (pv 0) pe_non (nomark _))
   (pss_one (ps_ret pe_str))
   pss_nil)
   (pss_cons (ps_set (i:=1) nd rfl (Or.inl rfl) (pe_lst (pa_cons (pe_callB call_isiX rfl T.z_isinstance boot_isinstance (pa_cons (pv 0) (pa_cons (pe_glob (v:=.ref _) rfl T.g_BadKind rfl) pa_nil))) (pa_cons (pe_callB call_isiX rfl T.z_isinstance boot_isinstance (pa_cons (pv 0) (pa_cons (pe_glob (v:=.ref _) rfl T.g_BadNet rfl) pa_nil))) (pa_cons (pe_callB call_isiX rfl T.z_isinstance boot_isinstance (pa_cons (pv 0) (pa_cons (pe_glob (v:=.ref _) rfl T.g_BadRow rfl) pa_nil))) pa_nil)))))
   (pss_cons (ps_set (i:=1) nd rfl (Or.inl rfl) (pe_op op_cat (pv 1) (pe_lst (pa_cons (pe_callB call_isiX rfl T.z_isinstance boot_isinstance (pa_cons (pv 0) (pa_cons (pe_glob (v:=.ref _) rfl T.g_BadText rfl) pa_nil))) (pa_cons (pe_callB call_isiX rfl T.z_isinstance boot_isinstance (pa_cons (pv 0) (pa_cons (pe_glob (v:=.ref _) rfl T.g_Wrong rfl) pa_nil))) pa_nil)))))
   (pss_cons (ps_if (PW.pt (pw_or (pt_cmpR op_ne (pe_bm PySem.F.plainAttrs_list PySem.F.slot_list_count PySem.F.type_list_count mt_count (pv 1) (pa_cons pe_bl pa_nil)) pe_int (nomark _)) (pw_or1 (pt_not (pt_truth (pe_callB call_isiX rfl T.z_isinstance boot_isinstance (pa_cons (pv 0) (pa_cons (pe_bltn (v:=.ty "ValueError") rfl T.z_ValueError boot_ValueError rfl) pa_nil))) (fun _=>rfl))))))
   (pss_one (ps_ret pe_str))
   pss_nil)
   (pss_one (ps_ret (pe_ix ix_list (pe_lst (pa_cons pe_str (pa_cons pe_str (pa_cons pe_str (pa_cons pe_str (pa_cons pe_str pa_nil)))))) (pe_bm PySem.F.plainAttrs_list PySem.F.slot_list_index PySem.F.type_list_index mt_index (pv 1) (pa_cons pe_bl pa_nil)) (fun _ _=>rfl)))))))),?_⟩
  skip
  refine⟨rfl,?_⟩
  rcases hC with ⟨rfl,rfl⟩|⟨rfl,rfl⟩|⟨rfl,rfl⟩
  case' inl=>have T5:=T.q_BadNet
  case' inr.inl=>have T5:=T.q_BadKind
  case' inr.inr=>have T5:=T.q_BadRow
  all_goals
   refine⟨e,_,_,_,_,rfl,rfl,he,T5.e,T5.k0,e,_,_,_,_,rfl,rfl,he,T5.e,T5.k1,e,_,_,_,_,rfl,rfl,he,T5.e,T5.k2,(show 3≤sizeLine by decide),fun q1 h1=>?_⟩
   have s1:∀o,Same H (upd H q1 o):=fun o=>Same.new h1
   refine⟨e,_,_,_,_,rfl,rfl,s1 _ _ _ he,T5.e,T5.k3,e,_,_,_,_,rfl,rfl,s1 _ _ _ he,T5.e,T5.k4,(show 2≤sizeLine by decide),fun q2 h2=>?_⟩
   have n21:q1≠q2:=fun z=>by rw [←z,upd_same] at h2;cases h2
   have s2:∀o o',Same H (upd (upd H q1 o) q2 o'):=fun o o'=>(s1 o).upd ((s1 _).free h2)
   refine⟨q1,q2,_,_,rfl,rfl,(by rw [upd_ne n21];exact upd_same),upd_same,(by show 5≤sizeLine;decide),fun q3 h3=>?_⟩
   have s3:∀o o' o'',Same H (upd (upd (upd H q1 o) q2 o') q3 o''):=fun o o' o''=>(s2 o o').upd ((s2 _ _).free h3)
   refine⟨.inl ⟨rfl,_,SqL.of upd_same⟩,q3,_,_,rfl,rfl,SqL.of upd_same,rfl,rfl,?_⟩
   refine⟨e,_,_,_,_,rfl,rfl,s3 _ _ _ _ _ he,T5.e,T5.kv,_,rfl,?_⟩
   refine⟨(show 5≤sizeLine by decide),fun q4 h4=>?_⟩
   have n34:q3≠q4:=fun z=>by rw [←z,upd_same] at h4;cases h4
   have kk:=fun o1 o2 o3 o4=>k (upd (upd (upd (upd H q1 o1) q2 o2) q3 o3) q4 o4) ((s3 _ _ _).upd ((s3 _ _ _).free h4))
  all_goals first|refine⟨.inl ⟨rfl,_,SqL.of (by rw [upd_ne n34];exact upd_same)⟩,q3,_,_,1,rfl,rfl,SqL.of (by rw [upd_ne n34];exact upd_same),rfl,rfl,⟨_,rfl,rfl⟩,fun m z hm hz=>?_,q4,_,_,_,rfl,rfl,SqL.of upd_same,rfl,kk _ _ _ _⟩|refine⟨.inl ⟨rfl,_,SqL.of (by rw [upd_ne n34];exact upd_same)⟩,q3,_,_,2,rfl,rfl,SqL.of (by rw [upd_ne n34];exact upd_same),rfl,rfl,⟨_,rfl,rfl⟩,fun m z hm hz=>?_,q4,_,_,_,rfl,rfl,SqL.of upd_same,rfl,kk _ _ _ _⟩|refine⟨.inl ⟨rfl,_,SqL.of (by rw [upd_ne n34];exact upd_same)⟩,q3,_,_,0,rfl,rfl,SqL.of (by rw [upd_ne n34];exact upd_same),rfl,rfl,⟨_,rfl,rfl⟩,fun m z hm hz=>?_,q4,_,_,_,rfl,rfl,SqL.of upd_same,rfl,kk _ _ _ _⟩
  all_goals
   rcases m with _|_|_|_|m
   all_goals first|(cases hz;rfl)|(exfalso;lia)
abbrev s__law_words:Stmt:=top 51
theorem sc__law_words:FnScope ["_law_net_here", "_law_found", "_law_one", "_law_other"] ["_law_net_here"] (defScope s__law_words):=⟨rfl,rfl,rfl,by decide +kernel,rfl,by decide +kernel,by decide +kernel⟩
theorem ok__law_words {f:Addr}{fd:FuncData}(F:Fun K "_law_words" "_law_words" s__law_words f fd) (T:Txt K mg CB CK CR CT CW CS DR DT FJ FG FS FA FE P w)  : FnOk P w K mg base (CX1 P w) 1 f fd ["_law_net_here"] (spWords):=by
 refine F.ok1 sc__law_words (fun vs H Q E h=>?_) (fun cdv A outer s H vs Q E hr h=>?_)
 ·obtain ⟨a,sa,oa,rs,N,rfl,n,hN,hl20,k⟩:=h;rfl
 ·obtain ⟨a,sa,oa,rs,N,rfl,n,hN,hl20,k⟩:=h
  have nd:=sc__law_words.nd
  refine⟨_,(pss_cons (ps_setcomp (ot:=none) 1 [] rfl nd rfl rfl (pi_range1 rfl T.z_range (pa_cons (pe_ix ix_tup (pv 0) pe_int (fun _ _=>rfl)) pa_nil)) (fun _ _ _ _=>(pe_tup (pa_cons (pv 0) pa_nil))) (fun _ _ _ _=>trivial) rfl (nodupS_of rfl))
   (pss_cons (ps_for powns1 rfl (pi_list (pe_ix ix_tup (pv 0) pe_int (fun _ _=>rfl))) (pg_tup rfl (pgs_cons (pg_name (i:=2) nd rfl (Or.inl rfl)) (pgs_cons (pg_name (i:=3) nd rfl (Or.inl rfl)) pgs_nil)))
   (pss_one (ps_expr (pe_bm PySem.F.plainAttrs_list PySem.F.slot_list_append PySem.F.type_list_append mt_append (pv 1) (pa_cons (pe_op op_catT (pe_ix ix_list (pv 1) (pv 2) (fun _ _=>rfl)) (pe_ix ix_list (pv 1) (pv 3) (fun _ _=>rfl))) pa_nil)))))
   (pss_one (ps_ret (pv 1))))),?_⟩
  skip
  have hw:=hN.hi
  have hrl:rs.length=N.st.length:=by rw [n.st.length,steps_len]
  refine⟨_,_,_,_,rfl,rfl,SqT.of n.net,rfl,_,rfl,by lia,by lia,?_⟩
  rw [Int.toNat_natCast]
  refine comp_range (lo:=0) (n:=N.w) (fun i ys H3=>Same H H3∧StepsAt H3 ys (wordsI ((List.range i).map fun v=>[v]))∧ys.length=i) ⟨Same.refl H,.nil,rfl⟩ (fun i ys H3 hi ⟨_,_,e⟩=>?_) ?_ ?_
  ·rw [e]
   exact fitsL (by lia)
  ·rintro i ys H3 R hi ⟨s3,st3,hl3⟩ kR
   refine⟨(show 1≤sizeLine by decide),fun t ht=>kR _ _ ⟨s3.trans (Same.new ht),?_,by rw [List.length_append,hl3];rfl⟩⟩
   have e:wordsI ((List.range (i+1)).map fun v=>[v])=wordsI ((List.range i).map fun v=>[v])++[[(i:Int)]]:=by
    unfold wordsI
    rw [List.range_succ,List.map_append,List.map_append];rfl
   rw [e]
   refine (st3.mono (Same.new ht)).snoc ?_
   rw [upd_same,Int.zero_add]
   rfl
  rintro ys H3 ⟨s3,st3,hl3⟩
  intro l hl
  have hlH:H l=none:=s3.free hl
  have s4:Same H (upd H3 l (.lst ys)):=s3.trans (Same.new hl)
  have st4:=st3.mono (Same.new (o:=.lst ys) hl)
  have hl4:upd H3 l (.lst ys) l=some (.lst ys):=upd_same
  generalize upd H3 l (.lst ys)=H4 at s4 st4 hl4 ⊢
  refine⟨_,_,_,_,rfl,rfl,SqT.of (s4 _ _ n.net),rfl,sa,rfl,⟨_,SqL.of (s4 _ _ n.sts)⟩,for_list (K:=K) (a:=sa) (xs:=rs) (fun i σ5 H5=>∃(v2 v3:Option V) (ts:List V),σ5=[some (.ref a),some (.ref l),v2,v3]∧Same H H5∧H5 l=some (.lst ts)∧StepsAt H5 ts (wordsI (N.wordsTo i)))
   ⟨_,_,ys,rfl,s4,hl4,by rw [N.wordsTo_zero];exact st4⟩ (fun i σ5 H5 _ ⟨_,_,_,_,s5,_⟩=>SqL.of (s5 _ _ n.sts)) ?_ ?_⟩
  ·rintro i x σ5 H5 hx ⟨v2,v3,ts,rfl,s5,hl5,st5⟩
   obtain ⟨r,p,rfl,hp,hr0⟩:=NetN.Ok.steps_get n.st hx
   obtain ⟨p1,p2⟩:=hN.s1 i p hp
   have hil:=(List.getElem?_eq_some_iff.mp hp).1
   have hwl:=N.wordsTo_len i (by lia)
   have htl:=st5.length
   unfold wordsI at htl
   rw [List.length_map,hwl] at htl
   have word:∀j,j<N.w+i→∃t,ts[j]? = some (.ref t)∧H5 t=some (.tup ((((N.wordsTo i).getD j []).map Int.ofNat).map V.int))∧(N.wordsTo i).getD j []≠[]∧((N.wordsTo i).getD j []).length≤2 ^ i:=fun j hj=>by
    have e:(N.wordsTo i)[j]? = some ((N.wordsTo i).getD j []):=getD_some [] (by lia)
    have e2:(wordsI (N.wordsTo i))[j]? = some (((N.wordsTo i).getD j []).map Int.ofNat):=by unfold wordsI;rw [List.getElem?_map,e];rfl
    obtain ⟨t,h1,h2⟩:=st5.get' e2
    exact⟨t,h1,h2,hN.wordsTo_ne i (by lia) _ (List.mem_of_getElem? e),N.wordsTo_size i (by lia) _ (List.mem_of_getElem? e)⟩
   obtain ⟨t1,e1,h1,ne1,z1⟩:=word p.1 p1
   obtain ⟨t2,e2,h2,ne2,z2⟩:=word p.2 p2
   have hpow:2 ^ i≤2 ^ 20:=Nat.pow_le_pow_right (by decide) (by lia)
   refine⟨r,_,rfl,SqT.of (s5 _ _ hr0),rfl,?_⟩
   refine⟨.inl ⟨rfl,_,SqL.of hl5⟩,l,_,_,_,rfl,rfl,SqL.of hl5,atI_nat e1,l,_,_,_,rfl,rfl,SqL.of hl5,atI_nat e2,t1,t2,_,_,rfl,rfl,SqT.of h1,SqT.of h2,(by intro z;exact ne1 (by simpa using z)),(by rw [List.length_map,List.length_map,List.length_map,List.length_map,sizeLine_eq];have:(2:Nat) ^ 20=1048576:=(by decide);lia),(fun z=>absurd (by simpa using z) ne2),fun _ t ht=>?_⟩
   refine⟨l,_,_,rfl,rfl,new_at ht hl5,fitsL (by lia),?_⟩
   have nl:t≠l:=fun z=>by rw [z] at ht;rw [hl5] at ht;cases ht
   refine⟨_,_,ts++[.ref t],rfl,(s5.trans (Same.new ht)).upd hlH,upd_same,?_⟩
   have ew:wordsI (N.wordsTo (i+1))=wordsI (N.wordsTo i)++[((N.wordsTo i).getD p.1 []).map Int.ofNat++((N.wordsTo i).getD p.2 []).map Int.ofNat]:=by
    rw [N.wordsTo_succ hp,wstep]
    unfold wordsI
    rw [List.map_append,List.map_cons,List.map_nil,List.map_append]
   rw [ew]
   refine StepsAt.snoc (st5.keep fun r u e=>?_) ?_
   ·rw [upd_ne (ne_of e hl5 (by intro z;cases z))]
    exact new_at ht e
   ·rw [upd_ne nl,upd_same,List.map_append]
  ·rintro σ5 H5 ⟨v2,v3,ts,rfl,s5,hl5,st5⟩
   rw [hrl] at st5
   exact k H5 l ts s5 hl5 st5
end
end K10

namespace K10
open PySem L2 NM PyProof.Rows
section
variable {P:Program}{w:World}{K:PySem.W.Frag}{mg:Str→Option Value}{base:Heap}{CB CK CR CT CW CS DR DT FJ FG FS FA FE PT:Addr}
abbrev s_plain:Stmt:=top 33
theorem sc_plain:FnScope ["kind", "row"] ["kind", "row"] (defScope s_plain):=⟨rfl,rfl,rfl,by decide +kernel,rfl,by decide +kernel,by decide +kernel⟩
theorem ok_plain {f:Addr}{fd:FuncData}(F:Fun K "plain" "plain" s_plain f fd) (T:Txt K mg CB CK CR CT CW CS DR DT FJ FG FS FA FE P w) (d_joined:Df P w K mg base "joined" 1 ["one", "other"] (spJoined)) (d_greater:Df P w K mg base "greater" 1 ["one", "other"] (spNum gtI)) (d_look_kind:Df P w K mg base "look_kind" 1 ["kind"] (spKind CK)) (d_in_line:Df P w K mg base "in_line" 2 ["row", "together"] (spInLine P w K mg base)):FnOk P w K mg base (CX1 P w) 3 f fd ["kind", "row"] (spPlain K CK):=by
 refine F.ok1 sc_plain (fun vs H Q E h=>?_) (fun cdv A outer s H vs Q E hr h=>?_)
 ·obtain ⟨x,ra,xs,rfl,hra,hne,hxl,hx,hrow,k⟩:=h;rfl
 ·obtain ⟨x,ra,xs,rfl,hra,hne,hxl,hx,hrow,k⟩:=h
  have nd:=sc_plain.nd
  refine⟨_,(pss_cons (ps_expr (pe_own d_look_kind (hr.mono (by first|decide|lia)) rfl pass1 (pa_cons (pv 0) pa_nil)))
   (pss_one (ps_ret (pe_own d_in_line (hr.mono (by first|decide|lia)) rfl pass1 (pa_cons (pv 1) (pa_cons (pe_ix ix_kd (pe_glob (v:=.ref _) rfl T.g_RULES rfl) (pv 0) (fun _ _=>rfl)) pa_nil)))))),?_⟩
  skip
  obtain ⟨FT,hval,dv⟩:∃FT,valV [((Sum.inr (Str.ofString "any"):Key),V.ref FJ),(Sum.inr (Str.ofString "commuting"),V.ref FJ),(Sum.inr (Str.ofString "greatest"),V.ref FG)] (Sum.inr x)=some (V.ref FT)∧Dv P w K mg base FT 1 (spBinW (RVal x xs) shortW):=by
   rcases kinds_cases hx with rfl|rfl|rfl
   ·exact⟨FJ,valV_pos rfl,d_joined.dv T.g_joined (val_joined any_gre hrow)⟩
   ·exact⟨FJ,(valV_neg (fun e=>any_com (Sum.inr.inj e))).trans (valV_pos rfl),d_joined.dv T.g_joined (val_joined com_gre hrow)⟩
   ·exact⟨FG,(valV_neg (fun e=>any_gre (Sum.inr.inj e))).trans ((valV_neg (fun e=>com_gre (Sum.inr.inj e))).trans (valV_pos rfl)),d_greater.dv T.g_greater val_greater⟩
  refine⟨x,rfl,fun _=>?_,fun z=>absurd hx z⟩
  refine⟨DR,_,Sum.inr x,_,rfl,T.k_RULES,rfl,hval,ra,FT,xs,RVal x xs,shortW,rfl,SqL.of hra,hne,hxl,loc_val,dv,fun i v hv=>val_one hrow hv,fun k hk=>fits (by simp;lia),fun H' l zs s' hl g' hzl hz=>k H' l s' ?_⟩
  rw [hl]
  congr 2
  refine List.ext_getElem? fun i=>?_
  rw [List.getElem?_map]
  by_cases hi:i<zs.length
  ·obtain ⟨z,hzi⟩:∃z,zs[i]? = some z:=⟨_,List.getElem?_eq_getElem hi⟩
   rw [hzi,List.getElem?_range (by lia)]
   exact congrArg some (hz i z hzi)
  ·rw [List.getElem?_eq_none (by lia),List.getElem?_eq_none (by simp;lia)]
   rfl
abbrev s_run:Stmt:=top 32
theorem sc_run:FnScope ["net", "kind", "row"] ["net", "kind", "row"] (defScope s_run):=⟨rfl,rfl,rfl,by decide +kernel,rfl,by decide +kernel,by decide +kernel⟩
theorem ok_run {f:Addr}{fd:FuncData}(F:Fun K "run" "run" s_run f fd) (T:Txt K mg CB CK CR CT CW CS DR DT FJ FG FS FA FE P w) (d_look_net:Df P w K mg base "look_net" 6 ["net"] (spLook CB)) (d_outs_by:Df P w K mg base "outs_by" 2 ["net", "row", "together"] (spOutsBy P w K mg base)) (d_joined:Df P w K mg base "joined" 1 ["one", "other"] (spJoined)) (d_greater:Df P w K mg base "greater" 1 ["one", "other"] (spNum gtI)) (d_look_kind:Df P w K mg base "look_kind" 1 ["kind"] (spKind CK)) (d_look_row:Df P w K mg base "look_row" 3 ["wide", "kind", "row"] (spRow K CR)):FnOk P w K mg base (CX1 P w) 7 f fd ["net", "kind", "row"] (spRun K CB CK CR):=by
 refine F.ok1 sc_run (fun vs H Q E h=>?_) (fun cdv A outer s H vs Q E hr h=>?_)
 ·obtain ⟨n,sa,oa,rs,wide,steps,outs,x,ra,xs,rfl,hol,hn,hra,hxl,hth,k⟩:=h;rfl
 ·obtain ⟨n,sa,oa,rs,wide,steps,outs,x,ra,xs,rfl,hol,hn,hra,hxl,hth,k⟩:=h
  have nd:=sc_run.nd
  refine⟨_,(pss_cons (ps_expr (pe_own d_look_net (hr.mono (by first|decide|lia)) rfl pass1 (pa_cons (pv 0) pa_nil)))
   (pss_cons (ps_expr (pe_own d_look_kind (hr.mono (by first|decide|lia)) rfl pass1 (pa_cons (pv 1) pa_nil)))
   (pss_cons (ps_expr (pe_own d_look_row (hr.mono (by first|decide|lia)) rfl pass1 (pa_cons (pe_ix ix_tup (pv 0) pe_int (fun _ _=>rfl)) (pa_cons (pv 1) (pa_cons (pv 2) pa_nil)))))
   (pss_one (ps_ret (pe_own d_outs_by (hr.mono (by first|decide|lia)) rfl pass1 (pa_cons (pv 0) (pa_cons (pv 2) (pa_cons (pe_ix ix_kd (pe_glob (v:=.ref _) rfl T.g_RULES rfl) (pv 1) (fun _ _=>rfl)) pa_nil))))))))),?_⟩
  skip
  refine⟨n,sa,oa,rs,wide,steps,outs,rfl,hol,hn,fun H2 s2=>⟨fun g=>?_,fun g=>(k H2 s2).1 g⟩⟩
  refine⟨x,rfl,fun hx=>?_,fun hx=>(k H2 s2).2.1 g hx⟩
  obtain ⟨N,hN,rfl,rfl,rfl⟩:=g.net
  have n2:=hn.mono s2
  refine⟨_,_,_,_,rfl,rfl,SqT.of n2.net,rfl,N.w,x,ra,xs,rfl,s2 _ _ hra,hxl,hth,fun H3 s3=>⟨fun hr3=>?_,fun hr3=>((k H3 (s2.trans s3)).2.2 N hN rfl rfl rfl hx).1 hr3⟩⟩
  have hst:=((k H3 (s2.trans s3)).2.2 N hN rfl rfl rfl hx).2.1
  have hrow:=rowOk_of hth hr3.2
  obtain ⟨FT,hval,dv⟩:∃FT,valV [((Sum.inr (Str.ofString "any"):Key),V.ref FJ),(Sum.inr (Str.ofString "commuting"),V.ref FJ),(Sum.inr (Str.ofString "greatest"),V.ref FG)] (Sum.inr x)=some (V.ref FT)∧Dv P w K mg base FT 1 (spBinW (RVal x xs) shortW):=by
   rcases kinds_cases hx with rfl|rfl|rfl
   ·exact⟨FJ,valV_pos rfl,d_joined.dv T.g_joined (val_joined any_gre hrow)⟩
   ·exact⟨FJ,(valV_neg (fun e=>any_com (Sum.inr.inj e))).trans (valV_pos rfl),d_joined.dv T.g_joined (val_joined com_gre hrow)⟩
   ·exact⟨FG,(valV_neg (fun e=>any_gre (Sum.inr.inj e))).trans ((valV_neg (fun e=>com_gre (Sum.inr.inj e))).trans (valV_pos rfl)),d_greater.dv T.g_greater val_greater⟩
  have n3:=n2.mono s3
  refine⟨DR,_,Sum.inr x,_,rfl,T.k_RULES,rfl,hval,n,sa,oa,ra,FT,rs,xs,N,RVal x xs,shortW,rfl,n3,hN,SqL.of ((s2.trans s3) _ _ hra),hr3.1,loc_val,dv,fun i v hv=>val_one hrow hv,fun j hj hu=>?_,fun H4 l zs s4 hl g4 hzl hz=>?_⟩
  ·exact word_short hN hst
  ·refine ((k H4 ((s2.trans s3).trans s4)).2.2 N hN rfl rfl rfl hx).2.2 l hr3 ?_
   rw [hl]
   congr 2
   refine List.ext_getElem? fun i=>?_
   rw [List.getElem?_map]
   by_cases hi:i<zs.length
   ·obtain ⟨z,hzi⟩:∃z,zs[i]? = some z:=⟨_,List.getElem?_eq_getElem hi⟩
    obtain ⟨o,ho⟩:∃o,N.ou[i]? = some o:=⟨_,List.getElem?_eq_getElem (by have:=hN.ol;lia)⟩
    rw [hzi,ho]
    exact congrArg some (hz i o z ho hzi)
   ·rw [List.getElem?_eq_none (by lia),List.getElem?_eq_none (by have:=hN.ol;lia)]
    rfl
end
end K10

namespace K10
open PySem L2 NM PyProof.Rows
section
variable {P:Program}{w:World}{K:PySem.W.Frag}{mg:Str→Option Value}{base:Heap}{CB CK CR CT CW CS DR DT FJ FG FS FA FE PT:Addr}
abbrev s__law_told:Stmt:=top 55
theorem sc__law_told:FnScope ["_law_way", "_law_net_here", "_law_kind", "_law_row", "_law_kept", "_law_found", "e"] ["_law_way", "_law_net_here", "_law_kind", "_law_row"] (defScope s__law_told):=⟨rfl,rfl,rfl,by decide +kernel,rfl,by decide +kernel,by decide +kernel⟩
theorem ok__law_told {f:Addr}{fd:FuncData}(F:Fun K "_law_told" "_law_told" s__law_told f fd) (T:Txt K mg CB CK CR CT CW CS DR DT FJ FG FS FA FE P w) (d_run:Df P w K mg base "run" 7 ["net", "kind", "row"] (spRun K CB CK CR)) (d_judged:Df P w K mg base "judged" 7 ["net", "kind"] (spJudgedK CB CK PT lp)) (d__law_refusal:Df P w K mg base "_law_refusal" 1 ["_law_kept"] (spRefusalJ CB CK CR)):FnOk P w K mg base (CX1 P w) 8 f fd ["_law_way", "_law_net_here", "_law_kind", "_law_row"] (spToldJ):=by
 refine F.ok1 sc__law_told (fun vs H Q E h=>?_) (fun cdv A outer s H vs Q E hr h=>?_)
 ·obtain ⟨way,n,sa,oa,rs,wide,steps,outs,x,ra,xs,y,rfl,hway,hol,hn,hra,hxl,hth,hbad,k⟩:=h;rfl
 ·obtain ⟨way,n,sa,oa,rs,wide,steps,outs,x,ra,xs,y,rfl,hway,hol,hn,hra,hxl,hth,hbad,k⟩:=h
  have nd:=sc__law_told.nd
  refine⟨_,(pss_cons (ps_set (i:=4) nd rfl (Or.inl rfl) pe_non)
   (pss_cons (ps_set (i:=5) nd rfl (Or.inl rfl) pe_non)
   (pss_cons (ps_try (i:=6) own1 rfl (fun _ _ _ hp =>
   (pss_one (ps_set (i:=5) nd rfl (Or.inl rfl) (pe_ifExp (pt_cmpR op_eq (pv 0) pe_int (nomark _)) (pe_own d_judged (hr.mono (by first|decide|lia)) rfl hp (pa_cons (pv 1) (pa_cons (pv 2) pa_nil))) (pe_own d_run (hr.mono (by first|decide|lia)) rfl hp (pa_cons (pv 1) (pa_cons (pv 2) (pa_cons (pv 3) pa_nil)))))))) (fun _=>(pss_one (ps_set (i:=4) nd rfl (Or.inl rfl) (pv 6)))) nd rfl rfl rfl T.g_SumError)
   (pss_one (ps_ret (pe_ifExp (pt_cmpR op_isN (pv 4) pe_non (nomark _)) (pv 5) (pe_own d__law_refusal (hr.mono (by first|decide|lia)) rfl pass1 (pa_cons (pv 4) pa_nil)))))))),?_⟩
  skip
  rcases hway with rfl|rfl
  ·refine⟨n,sa,oa,rs,wide,steps,outs,x,rfl,hol,hn,fun H2 s2 g=>⟨CB,rfl,T.m_BadNet,fun e he=>?_⟩,fun H2 s2 g hx=>⟨CK,rfl,T.m_BadKind,fun e he=>?_⟩,fun g hx=>?_,fun N hN e1 e2 e3 hx=>?_⟩
   ·obtain rfl:y=Str.ofString "net" := by rcases hbad with ⟨_,h⟩|⟨h,_⟩|⟨h,_⟩ <;> first|exact h|exact absurd h g
    exact⟨rfl,⟨e,_,_,rfl,upd_same,.inl ⟨rfl,rfl⟩,fun H3 s3=>k H3 ((s2.trans (Same.new he)).trans s3)⟩⟩
   ·obtain rfl:y=Str.ofString "kind" := by rcases hbad with ⟨h,_⟩|⟨_,_,h⟩|⟨_,h,_⟩ <;> first|exact h|exact absurd g h|exact absurd rfl h
    exact⟨rfl,⟨e,_,_,rfl,upd_same,.inr (.inl ⟨rfl,rfl⟩),fun H3 s3=>k H3 ((s2.trans (Same.new he)).trans s3)⟩⟩
   ·rcases hbad with ⟨h,_⟩|⟨_,h,_⟩|⟨_,h,_⟩
    ·exact absurd g h
    ·exact absurd hx h
    ·exact absurd rfl h
   ·have g:Good wide steps outs:=by rw [e1,e2,e3];exact hN.good
    exfalso
    rcases hbad with ⟨h,_⟩|⟨_,h,_⟩|⟨_,h,_⟩
    ·exact absurd g h
    ·exact absurd hx h
    ·exact absurd rfl h
  ·refine⟨n,sa,oa,rs,wide,steps,outs,x,ra,xs,rfl,hol,hn,hra,hxl,hth,fun H2 s2=>⟨fun g=>⟨CB,rfl,T.m_BadNet,fun e he=>?_⟩,fun g hx=>⟨CK,rfl,T.m_BadKind,fun e he=>?_⟩,fun N hN e1 e2 e3 hx=>⟨fun hb=>⟨CR,rfl,T.m_BadRow,fun e he=>?_⟩,?_⟩⟩⟩
   ·obtain rfl:y=Str.ofString "net" := by rcases hbad with ⟨_,h⟩|⟨h,_⟩|⟨h,_⟩ <;> first|exact h|exact absurd h g
    exact⟨rfl,⟨e,_,_,rfl,upd_same,.inl ⟨rfl,rfl⟩,fun H3 s3=>k H3 ((s2.trans (Same.new he)).trans s3)⟩⟩
   ·obtain rfl:y=Str.ofString "kind" := by rcases hbad with ⟨h,_⟩|⟨_,_,h⟩|⟨_,_,_,h,_⟩ <;> first|exact h|exact absurd g h|exact absurd h hx
    exact⟨rfl,⟨e,_,_,rfl,upd_same,.inr (.inl ⟨rfl,rfl⟩),fun H3 s3=>k H3 ((s2.trans (Same.new he)).trans s3)⟩⟩
   ·have g:Good wide steps outs:=by rw [e1,e2,e3];exact hN.good
    obtain rfl:y=Str.ofString "row" := by rcases hbad with ⟨h,_⟩|⟨_,h,_⟩|⟨_,_,_,_,_,h⟩ <;> first|exact h|exact absurd g h|exact absurd hx h
    exact⟨rfl,⟨e,_,_,rfl,upd_same,.inr (.inr ⟨rfl,rfl⟩),fun H3 s3=>k H3 ((s2.trans (Same.new he)).trans s3)⟩⟩
   ·have g:Good wide steps outs:=by rw [e1,e2,e3];exact hN.good
    obtain ⟨hs,hr⟩:steps.length≤20∧¬(((xs.length:Nat):Int)=wide∧∀v∈xs,isOf x v=true):=by
     rcases hbad with ⟨h,_⟩|⟨_,h,_⟩|⟨_,_,h1,_,h2,_⟩
     ·exact absurd g h
     ·exact absurd hx h
     ·exact⟨h1,h2⟩
    refine⟨by rw [e2,steps_len] at hs;exact hs,fun l hr2 _=>absurd ⟨by rw [e1,hr2.1],hr2.2⟩ hr⟩
end
end K10

namespace K10
open PySem L2 NM PyProof.Rows
section
variable {P:Program}{w:World}{K:PySem.W.Frag}{mg:Str→Option Value}{base:Heap}{CB CK CR CT CW CS DR DT FJ FG FS FA FE PT:Addr}
abbrev s__law_sum:Stmt:=top 53
theorem sc__law_sum:FnScope ["_law_kind", "_law_some", "_law_found", "_law_one"] ["_law_kind", "_law_some"] (defScope s__law_sum):=⟨rfl,rfl,rfl,by decide +kernel,rfl,by decide +kernel,by decide +kernel⟩
inductive Iv_sum (H:Hp) (x:Str) (ra:Addr) (xs:List V) (u:List Nat) (p:Addr) (j:Nat) (σ3:L2.St) (H3:Hp):Prop
 | mk:∀(v3:Option V),(σ3=[some (.str x),some (.ref ra),some (valW x xs (u.take (j+1))),v3])→(Same H H3)→(H3 p=some (.lst ((pickV xs u).drop 1)))→Iv_sum H x ra xs u p j σ3 H3
theorem ok__law_sum {f:Addr}{fd:FuncData}(F:Fun K "_law_sum" "_law_sum" s__law_sum f fd) (T:Txt K mg CB CK CR CT CW CS DR DT FJ FG FS FA FE P w)  : FnOk P w K mg base (CX1 P w) 1 f fd ["_law_kind", "_law_some"] (spSumL):=by
 refine F.ok1 sc__law_sum (fun vs H Q E h=>?_) (fun cdv A outer s H vs Q E hr h=>?_)
 ·obtain ⟨x,ra,xs,u,rfl,hx,hra,hrow,hu,hlt,hsh,k⟩:=h;rfl
 ·obtain ⟨x,ra,xs,u,rfl,hx,hra,hrow,hu,hlt,hsh,k⟩:=h
  have nd:=sc__law_sum.nd
  refine⟨_,(pss_cons (ps_set (i:=2) nd rfl (Or.inl rfl) (pe_ix ix_list (pv 1) pe_int (fun _ _=>rfl)))
   (pss_cons (ps_for powns1 rfl (pi_list (pe_slice sl_list (pv 1) (po_some pe_int) po_none)) (pg_name (i:=3) nd rfl (Or.inl rfl))
   (pss_one (ps_set (i:=2) nd rfl (Or.inl rfl) (pe_ifExp (pt_cmpR op_ne (pv 0) pe_str (nomark _)) (pe_op ((op_add.or op_cat).or op_add_str) (pv 2) (pv 3)) (pe_callB (call_max2 rfl) rfl T.z_max boot_max (pa_cons (pv 2) (pa_cons (pv 3) pa_nil)))))))
   (pss_one (ps_ret (pv 2))))),?_⟩
  skip
  have one:∀i∈u,xs.getD i .non=valW x xs [i]:=fun i hi=>val_one hrow (by rw [List.getD_eq_getElem?_getD,List.getElem?_eq_getElem (hlt i hi)];rfl)
  obtain ⟨a0,hu0⟩:∃a,u[0]? = some a:=⟨_,List.getElem?_eq_getElem (List.length_pos_iff.mpr hu)⟩
  have ht1:u.take 1=[a0]:=by rw [List.take_succ,hu0];rfl
  have hp0:(pickV xs u)[0]? = some (valW x xs (u.take 1)):=by unfold pickV;rw [List.getElem?_map,hu0,ht1,←one a0 (List.mem_of_getElem? hu0)];rfl
  refine⟨ra,_,0,_,rfl,rfl,SqL.of hra,atI_nat (j:=0) hp0,?_⟩
  refine⟨ra,_,rfl,SqL.of hra,fun p g=>?_⟩
  rw [show cutV (pickV xs u) (some 1) none=(pickV xs u).drop 1 from cutL_drop _ 1]
  refine⟨p,rfl,⟨_,SqL.of upd_same⟩,for_list (K:=K) (a:=p) (xs:=(pickV xs u).drop 1) (Iv_sum H x ra xs u p) ⟨_,rfl,Same.new g,upd_same⟩ (fun j σ3 H3 _ ⟨_,_,_,hp⟩=>SqL.of hp) ?_ ?_⟩
  ·rintro j y σ3 H3 hy ⟨v3,rfl,s3,hp⟩
   rw [List.getElem?_drop,pickV,List.getElem?_map] at hy
   obtain ⟨i,hi,rfl⟩:=Option.map_eq_some_iff.mp hy
   have hil:=(List.getElem?_eq_some_iff.mp hi).1
   rw [one i (List.mem_of_getElem? hi)]
   have ht:u.take (j+1+1)=u.take (j+1)++[i]:=by rw [List.take_succ,show u[j+1]? = some i by rw [Nat.add_comm];exact hi];rfl
   have hne:u.take (j+1)≠[]:=by simp [hu]
   have e:=val_snoc (xs:=xs) hx hne i
   rw [←ht] at e
   by_cases hg:x=kGre
   ·have hna:x≠kAny:=fun z=>any_gre (z.symm.trans hg)
    have e1:∀w,valW x xs w=.int (foldW (opK x) (intAt xs) w):=fun w=>by unfold valW;rw [if_neg hna]
    have e2:opK x=gtI:=by unfold opK;rw [if_pos hg]
    rw [if_neg hna,e2] at e
    rw [e1,e1]
    refine iteNS (c:=V.str x=V.str kGre) (by rw [hg]) ?_
    refine⟨_,_,rfl,some (V.int (foldW (opK x) (intAt xs) [i])),?_,s3,hp⟩
    rw [e,e2]
    rfl
   ·by_cases ha:x=kAny
    ·have e1:∀w,valW x xs w=.str (textW (strAt xs) w):=fun w=>by unfold valW;rw [if_pos ha]
     rw [if_pos ha] at e
     rw [e1,e1]
     refine iteNT (c:=V.str x=V.str kGre) (fun z=>hg (V.str.inj z)) ?_
     refine .inr ⟨_,_,rfl,rfl,?_,some (V.str (textW (strAt xs) [i])),?_,s3,hp⟩
     ·rw [ha] at hrow
      have h1:=textW_len (strAt_len hrow) (u:=u.take (j+1))
      have h2:=strAt_len hrow i
      rw [List.length_take] at h1
      unfold shortW at hsh
      show (textW (strAt xs) (u.take (j+1))).length+(strAt xs i).length≤sizeLine
      lia
     ·rw [e]
      rfl
    ·have e1:∀w,valW x xs w=.int (foldW (opK x) (intAt xs) w):=fun w=>by unfold valW;rw [if_neg ha]
     have e2:opK x=fun a b=>a+b:=by unfold opK;rw [if_neg hg]
     rw [if_neg ha,e2] at e
     rw [e1,e1]
     refine iteNT (c:=V.str x=V.str kGre) (fun z=>hg (V.str.inj z)) ?_
     refine .inl (.inl ⟨some (V.int (foldW (opK x) (intAt xs) [i])),?_,s3,hp⟩)
     rw [e,e2]
     rfl
  ·rintro σ3 H3 ⟨v3,rfl,s3,hp⟩
   have e:u.take (((pickV xs u).drop 1).length+1)=u:=List.take_of_length_le (by rw [List.length_drop,pickV,List.length_map];lia)
   have:=k H3 s3
   rw [e]
   exact this
end
end K10

namespace K10
open PySem L2 NM PyProof.Rows
section
variable {P:Program}{w:World}{K:PySem.W.Frag}{mg:Str→Option Value}{base:Heap}{CB CK CR CT CW CS DR DT FJ FG FS FA FE PT:Addr}
abbrev s__law_is_due:Stmt:=top 54
theorem sc__law_is_due:FnScope ["_law_kind", "_law_word", "_law_out", "_law_due"] ["_law_kind", "_law_word", "_law_out"] (defScope s__law_is_due):=⟨rfl,rfl,rfl,by decide +kernel,rfl,by decide +kernel,by decide +kernel⟩
theorem ok__law_is_due {f:Addr}{fd:FuncData}(F:Fun K "_law_is_due" "_law_is_due" s__law_is_due f fd) (T:Txt K mg CB CK CR CT CW CS DR DT FJ FG FS FA FE P w)  : FnOk P w K mg base (CX1 P w) 1 f fd ["_law_kind", "_law_word", "_law_out"] (spDueJ):=by
 refine F.ok1 sc__law_is_due (fun vs H Q E h=>?_) (fun cdv A outer s H vs Q E hr h=>?_)
 ·obtain ⟨x,wa,u,kk,rfl,hx,hwa,h6,hk6,k⟩:=h;rfl
 ·obtain ⟨x,wa,u,kk,rfl,hx,hwa,h6,hk6,k⟩:=h
  have nd:=sc__law_is_due.nd
  refine⟨_,(pss_cons (ps_set (i:=3) nd rfl (Or.inl rfl) (pe_callTy (call_tupRng rfl) rfl T.z_tuple boot_tuple (pa_cons (pe_callTy call_range1 rfl T.z_range boot_range (pa_cons (pe_op op_add (pv 2) pe_int) pa_nil)) pa_nil)))
   (pss_cons (ps_if (pt_cmpR op_eq (pv 0) pe_str (nomark _))
   (pss_one (ps_ret (pe_cmpR (op_eqG hr) (pv 1) (pv 3) (nomark _))))
   pss_nil)
   (pss_cons (ps_if (pt_cmpR op_eq (pv 0) pe_str (nomark _))
   (pss_one (ps_ret (pe_cmpR (op_eqG hr) (pe_callTy call_tuple_of rfl T.z_tuple boot_tuple (pa_cons (pe_callB call_sortTI rfl T.z_sorted boot_sorted (pa_cons (pv 1) pa_nil)) pa_nil)) (pv 3) (nomark _))))
   pss_nil)
   (pss_one (ps_ret (pe_cmpR (op_eqG hr) (pe_callTy call_tuple_of rfl T.z_tuple boot_tuple (pa_cons (pe_callB (call_sortSm rfl) rfl T.z_sorted boot_sorted (pa_cons (pe_callTy (call_setSm rfl) rfl T.z_set boot_set (pa_cons (pv 1) pa_nil)) pa_nil)) pa_nil)) (pv 3) (nomark _))))))),?_⟩
  skip
  refine⟨_,rfl,by lia,by lia,fun p g=>⟨p,0,_,rfl,upd_same,⟨by decide,by decide,by lia,by lia⟩,by lia,fun d gd=>?_⟩⟩
  rw [show ((kk:Int)+1 - 0).toNat=kk+1 by lia,rangeL_nat]
  have s2:Same H (upd (upd H p (.rng 0 ((kk:Int)+1))) d (.tup (((List.range (kk+1)).map Int.ofNat).map V.int))):=(Same.new g).trans (Same.new gd)
  have hd:(upd (upd H p (.rng 0 ((kk:Int)+1))) d (.tup (((List.range (kk+1)).map Int.ofNat).map V.int))) d=some (.tup (((List.range (kk+1)).map Int.ofNat).map V.int)):=upd_same
  generalize upd (upd H p (.rng 0 ((kk:Int)+1))) d (.tup (((List.range (kk+1)).map Int.ofNat).map V.int))=H2 at s2 hd ⊢
  have hwa2:=s2 _ _ hwa
  have fin:∀(H3:Hp) (l:List Int) (q:Addr),Same H2 H3→H3 q=some (.tup (l.map V.int))→(l=(List.range (kk+1)).map Int.ofNat↔dueB x u kk)→rEqG K (.ref q) (.ref d) H3 Q:=fun H3 l q s3 hq hi=>⟨dStep l,dStep ((List.range (kk+1)).map Int.ofNat),deep_t3 hq,deep_t3 (s3 _ _ hd),dp_tupI,k H3 _ (s2.trans s3) (by rw [dStep_eq,decide_eq_true_eq];exact hi)⟩
  by_cases ha:x=kAny
  ·refine iteDT (c:=V.str x=V.str kAny) (by rw [ha]) ?_
   exact fin H2 _ wa (Same.refl H2) hwa2 (by rw [ha,ints_inj,du_any])
  refine iteDF (c:=V.str x=V.str kAny) (fun z=>ha (V.str.inj z)) ?_
  by_cases hc:x=kCom
  ·refine iteDT (c:=V.str x=V.str kCom) (by rw [hc]) ?_
   refine⟨wa,_,rfl,SqT.of hwa2,fun q ns' gq hs=>?_⟩
   refine⟨q,_,rfl,.inl ⟨SqL.of upd_same,fun l gl=>?_⟩⟩
   exact fin _ ns' l ((Same.new gq).trans (Same.new gl)) upd_same (by rw [hc,du_com];exact due_com hk6 hs)
  ·refine iteDF (c:=V.str x=V.str kCom) (fun z=>hc (V.str.inj z)) ?_
   have hg:x=kGre:=((kinds_cases hx).resolve_left ha).resolve_left hc
   refine⟨wa,u,rfl,SqT.of hwa2,h6,fun q ns gq hup hm=>?_⟩
   refine⟨q,ns,rfl,upd_same,fun l gl=>?_⟩
   refine⟨l,_,rfl,.inl ⟨SqL.of upd_same,fun t gt=>?_⟩⟩
   exact fin _ _ t (((Same.new gq).trans (Same.new gl)).trans (Same.new gt)) upd_same (by rw [hg,du_gre];exact due_gre hup hm)
end
end K10

namespace K10
open PySem L2 NM PyProof.Rows
section
variable {P:Program}{w:World}{K:PySem.W.Frag}{mg:Str→Option Value}{base:Heap}{CB CK CR CT CW CS DR DT FJ FG FS FA FE:Addr}
def lp:Pos:=⟨141,26,141,86⟩
abbrev s_showing_texts:Stmt:=top 40
theorem sc_showing_texts:FnScope ["net", "place", "wide", "counts", "strays", "found", "best", "row", "letter", "thing"] ["net", "place"] (defScope s_showing_texts):=⟨rfl,rfl,rfl,by decide +kernel,rfl,by decide +kernel,by decide +kernel⟩
inductive Iv_showing_texts_0 (N:NetN) (p:Nat) (o:Nat) (H2:Hp) (v:V) (H4:Hp):Prop
 | mk:∀(fl:Addr) (zs:List V),(v=.ref fl)→(Same H2 H4)→(H4 fl=some (.lst zs))→(zs≠[])→(∀z∈zs,bestV H4 N p o z)→Iv_showing_texts_0 N p o H2 v H4
inductive Iv_showing_texts_1 (H6:Hp) (i:Nat) (ys:List V) (H7:Hp):Prop
 | mk:(H7=H6)→(ys.length=i)→∀ns:List Int,(ys=ns.map V.int)→Iv_showing_texts_1 H6 i ys H7
inductive Iv_showing_texts_2 (n:Addr) (N:NetN) (p:Nat) (cl:Addr) (sl:Addr) (fl:Addr) (H6:Hp) (c':Addr) (best:List Nat) (rl:Addr) (i:Nat) (σ3:L2.St) (H8:Hp):Prop
 | mk:∀v8 v9:Option V,(σ3=[some (.ref n),some (.int (p:Nat)),some (.int (N.w:Nat)),some (.ref cl),some (.ref sl),some (.ref fl),some (.ref c'),some (.ref rl),v8,v9])→(Same H6 H8)→(H8 rl=some (.lst ((rowOf N.w (best.take i)).map V.str)))→Iv_showing_texts_2 n N p cl sl fl H6 c' best rl i σ3 H8
inductive Iv_showing_texts_3 (H:Hp) (N:NetN) (i:Nat) (ys:List V) (H5:Hp):Prop
 | mk:(Same H H5)→(ys.length=i)→(∀(t:Nat) z,ys[t]? = some z→∃c,z=.ref c∧H5 c=some (.lst ((cntL N t).map V.int)))→Iv_showing_texts_3 H N i ys H5
inductive Iv_showing_texts_4 (N:NetN) (p:Nat) (o:Nat) (H2:Hp) (i:Nat) (ys:List V) (H5:Hp):Prop
 | mk:(Same H2 H5)→(ys.length≤i)→((∀z∈ys,∃(c':Addr) (t:Nat),z=.ref c'∧H5 c'=some (.lst (wordV [t]))∧Stray N p o t))→(((∃t,t<i∧Stray N p o t)→ys≠[]))→Iv_showing_texts_4 N p o H2 i ys H5
theorem ok_showing_texts {f c PT:Addr}{fd:FuncData}(F:Fun K "showing_texts" "showing_texts" s_showing_texts f fd) (hcode:fd.code=.ref c) (L:Lt K mg base c PT) (T:Txt K mg CB CK CR CT CW CS DR DT FJ FG FS FA FE P w) (d_outs_by:Df P w K mg base "outs_by" 2 ["net", "row", "together"] (spOutsBy P w K mg base)) (d_joined:Df P w K mg base "joined" 1 ["one", "other"] (spJoined)) (d_alone:Df P w K mg base "alone" 1 ["wide", "thing"] (spAlone)) (d_turned_pairs:Df P w K mg base "turned_pairs" 4 ["net", "place"] (spTurned)):FnOk P w K mg base (CX1 P w) 5 f fd ["net", "place"] (spTexts PT lp):=by
 refine F.ok1c hcode sc_showing_texts (fun vs H Q E h=>?_) (fun A outer s H vs Q E hr h=>?_)
 ·obtain ⟨n,sa,oa,rs,N,p,o,rfl,_⟩:=h;rfl
 ·obtain ⟨n,sa,oa,rs,N,p,o,rfl,hn,hN,ho,hwr,hlam,k⟩:=h
  have nd:=sc_showing_texts.nd
  refine⟨_,(pss_cons (ps_set (i:=2) nd rfl (Or.inr rfl) (pe_ix ix_tup (pv 0) pe_int (fun _ _=>rfl)))
 (pss_cons (ps_set (i:=3) nd rfl (Or.inr rfl) (pe_comp (ot:=none) [0,2] rfl (pi_range1 rfl T.z_range (pa_cons (pv 2) pa_nil)) (fun _ _ _ _=>(pe_own d_outs_by (hr.mono (by first|decide|lia)) rfl pass10 (pa_cons (pv 1) (pa_cons (pe_own d_alone (hr.mono (by first|decide|lia)) rfl pass10 (pa_cons (pv 2) (pa_cons (pv 0) pa_nil))) (pa_cons (pe_glob (v:=.ref _) rfl T.g_joined rfl) pa_nil))))) (fun _ _ _ _=>trivial) rfl (nodupS_of rfl)))
 (pss_cons (ps_setcomp (ot:=some _) 4 [1,3] rfl nd rfl rfl (pi_range1 rfl T.z_range (pa_cons (pv 2) pa_nil)) (fun _ _ _ _=>(pe_lst (pa_cons (pv 0) pa_nil))) (fun _ _ _ _=>(pt_cmpR op_ne (pe_ix (show IxR _ (rIxL K) from ix_list) (pe_ix (show IxR _ (rIxL K) from ix_list) (pv 2) (pv 0) (fun _ _=>rfl)) (pv 1) (fun _ _=>rfl)) (pe_ifExp (pt_cmpR op_le (pv 0) (pv 1) (nomark _)) pe_int pe_int) (nomark _))) rfl (nodupS_of rfl))
 (pss_cons (ps_set (i:=5) nd rfl (Or.inl rfl) (pe_orT (pv 4) (pe_one (pe_own d_turned_pairs (hr.mono (by first|decide|lia)) rfl pass1 (pa_cons (pv 0) (pa_cons (pv 1) pa_nil))))))
 (pss_cons (ps_set (i:=6) nd rfl (Or.inl rfl) (pe_minLam (k:=1) [3] rfl (hr.mono (by first|decide|lia)) rfl T.z_min L rfl rfl rfl (fun _ _ _ _ _ _=>rfl) rfl rfl (fun _ _ _ _ _ hr=>(pe_callB (show CallR _ _ (rSum K) from call_sum rfl) rfl T.z_sum boot_sum (pa_cons (pe_comp (ot:=none) [1] rfl (show PI _ _ _ (iList K _) from pi_list (pv 0)) (fun _ _ _ _=>(pe_callB (show CallR _ _ (rSum K) from call_sum rfl) rfl T.z_sum boot_sum (pa_cons (pe_ix (show IxR _ (rIxL K) from ix_list) (pv 1) (pv 0) (fun _ _=>rfl)) pa_nil))) (fun _ _ _ _=>trivial) rfl (nodupS_of rfl)) pa_nil))) (pa_cons (pv 5) pa_nil)))
 (pss_cons (ps_set (i:=7) nd rfl (Or.inl rfl) (pe_op op_rep (pe_lst (pa_cons pe_str pa_nil)) (pv 2)))
 (pss_cons (ps_for powns1 rfl (pi_zs rfl T.z_zip (pa_cons pe_str (pa_cons (pv 6) pa_nil))) (pg_tup rfl (pgs_cons (pg_name (i:=8) nd rfl (Or.inl rfl)) (pgs_cons (pg_name (i:=9) nd rfl (Or.inl rfl)) pgs_nil)))
 (pss_one (ps_asg (pv 8) (pg_sub (pv 7) (pv 9) set_list))))
 (pss_one (ps_ret (pv 7)))))))))),?_⟩
  skip
  have hw:=hN.hi
  have hlo:=hN.lo
  have hob:=hN.ob o (List.mem_of_getElem? ho)
  have hol:=hN.ol
  have hpw:p<N.w:=by have:=(List.getElem?_eq_some_iff.mp ho).1;lia
  refine⟨_,_,_,_,rfl,rfl,SqT.of hn.net,rfl,?_⟩
  refine⟨_,rfl,by solve_by_elim,by lia,comp_range (Iv_showing_texts_3 H N) ⟨Same.refl H,rfl,fun k z h=>by simp at h⟩ (fun i ys H5 hi ⟨_,e,_⟩=>fits (by rw [e];lia)) ?_ ?_⟩
  ·rintro i ys H5 TT hi ⟨s5,e,hy⟩ ht
   have n5:=hn.mono s5
   refine⟨N.w,i,by simp,hw,fun H6 l6 s6 g6 h6=>?_⟩
   refine⟨n,sa,oa,l6,FJ,rs,_,N,RCount i,fun _=>True,rfl,n5.mono s6,hN,SqL.of h6,by simp,loc_count,d_joined.dv T.g_joined joined_count,fun m v hv=>?_,fun _ _ _=>trivial,fun H7 l zs s7 hl _ hzl hz=>?_⟩
   ·rw [List.getElem?_map] at hv
    obtain ⟨a,h1,rfl⟩:=Option.map_eq_some_iff.mp hv
    have hm:m<N.w:=by have:=(List.getElem?_eq_some_iff.mp h1).1;simpa using this
    rw [List.getElem?_range hm] at h1
    obtain rfl:=Option.some.inj h1
    rfl
   ·have ez:=cntL_of (by lia) hz
    subst ez
    refine ht _ _ ⟨s5.trans (s6.trans s7),by simp [e],fun t z hzt=>?_⟩
    by_cases hk:t<ys.length
    ·rw [List.getElem?_append_left hk] at hzt
     refine L2.ob_ea (hy t z hzt) fun c e1 e2=>?_
     exact⟨c,e1,s7 _ _ (s6 _ _ e2)⟩
    ·have hkl:t=ys.length:=by
      have:=(List.getElem?_eq_some_iff.mp hzt).1
      rw [List.length_append] at this
      simp at this
      lia
     rw [hkl,List.getElem?_concat_length] at hzt
     obtain rfl:=Option.some.inj hzt
     refine⟨l,rfl,?_⟩
     rw [hkl,e]
     exact hl
  ·rintro cs H1 ⟨s1,e,hcs⟩ cl g1
   have hcl:cs.length=N.w:=by rw [e];simp
   have s2:Same H (upd H1 cl (.lst cs)):=s1.trans (Same.new g1)
   have h2:(upd H1 cl (.lst cs)) cl=some (.lst cs):=upd_same
   have hcs2:∀(t:Nat) z,cs[t]? = some z→∃c,z=.ref c∧(upd H1 cl (.lst cs)) c=some (.lst ((cntL N t).map V.int)):=fun t z hz=>by
    refine L2.ob_ea (hcs t z hz) fun c e1 e2=>?_
    exact⟨c,e1,new_at g1 e2⟩
   generalize upd H1 cl (.lst cs)=H2 at s2 h2 hcs2 ⊢
   clear g1 hcs e s1
   refine⟨_,rfl,by solve_by_elim,by lia,comp_rangeIf (Iv_showing_texts_4 N p o H2) ⟨Same.refl H2,by simp,fun z hz=>by simp at hz,fun ⟨t,h,_⟩=>by contradiction⟩ (fun i ys H5 hi ⟨_,e,_,_⟩=>fits (by lia)) ?_ ?_⟩
   ·rintro i ys H5 T1 T0 hi ⟨s5,hyl,hy1,hy2⟩ t1 t0
    have hi:i<N.w:=by simpa using hi
    rw [Int.zero_add]
    obtain ⟨z,hz⟩:∃z,cs[i]? = some z:=⟨_,List.getElem?_eq_getElem (by lia)⟩
    refine L2.ob_ea (hcs2 i z hz) fun ci e_1 hci=>?_;subst e_1
    have hcp:((cntL N i).map V.int)[p]? = some (.int (((N.words.getD o []).count i:Nat):Int)):=by
     unfold cntL
     rw [List.map_map,List.getElem?_map,ho]
     rfl
    refine⟨cl,cs,_,_,rfl,rfl,SqL.of (s5 _ _ h2),atI_nat hz,ci,_,_,_,rfl,rfl,SqL.of (s5 _ _ hci),atI_nat hcp,iteB (fun hle=>?_) (fun hle=>?_)⟩
    all_goals simp only [decide_eq_true_eq,decide_eq_false_iff_not,Int.ofNat_le] at hle
    all_goals refine (?_)
    ·by_cases hc:(N.words.getD o []).count i=1
     ·refine iteNS (show V.int (((N.words.getD o []).count i:Nat):Int)=V.int 1 by rw [hc];rfl) ?_
      refine t0 _ ⟨s5,by solve_by_elim,hy1,fun ⟨t,ht,hst⟩=>hy2 ⟨t,?_,hst⟩⟩
      by_cases e:t=i
      ·subst e
       exact absurd (by rw [if_pos hle];exact hc) hst.2
      ·lia
     ·refine iteNT (fun z=>hc (by have:=V.int.inj z;lia)) ?_
      refine⟨(show 1≤sizeLine by decide),fun q hq=>t1 _ _ ⟨s5.trans (Same.new hq),by simp;lia,fun z hz=>?_,fun _=>by simp⟩⟩
      rcases List.mem_append.mp hz with hz|hz
      ·refine L2.ob_eeaa (hy1 z hz) fun c' t e1 e2 e3=>?_
       exact⟨c',t,e1,new_at hq e2,e3⟩
      ·obtain rfl:=List.mem_singleton.mp hz
       exact⟨q,i,rfl,by rw [upd_same];rfl,hi,by rw [if_pos hle];exact hc⟩
    ·by_cases hc:(N.words.getD o []).count i=0
     ·refine iteNS (show V.int (((N.words.getD o []).count i:Nat):Int)=V.int 0 by rw [hc];rfl) ?_
      refine t0 _ ⟨s5,by lia,hy1,fun ⟨t,ht,hst⟩=>hy2 ⟨t,?_,hst⟩⟩
      by_cases e:t=i
      ·subst e
       exact absurd (by rw [if_neg hle];exact hc) hst.2
      ·lia
     ·refine iteNT (fun z=>hc (by have:=V.int.inj z;lia)) ?_
      refine⟨(show 1≤sizeLine by decide),fun q hq=>t1 _ _ ⟨s5.trans (Same.new hq),by simp;lia,fun z hz=>?_,fun _=>by simp⟩⟩
      rcases List.mem_append.mp hz with hz|hz
      ·obtain ⟨c',t,e1,e2,e3⟩:=hy1 z hz
       exact⟨c',t,e1,new_at hq e2,e3⟩
      ·obtain rfl:=List.mem_singleton.mp hz
       exact⟨q,i,rfl,by rw [upd_same];rfl,hi,by rw [if_neg hle];exact hc⟩
   ·rintro ys H5 ⟨s5,hyl,hy1,hy2⟩ sl gs
    have s3:Same H2 (upd H5 sl (.lst ys)):=s5.trans (Same.new gs)
    have h3:(upd H5 sl (.lst ys)) sl=some (.lst ys):=upd_same
    have hy3:∀z∈ys,bestV (upd H5 sl (.lst ys)) N p o z:=fun z hz=>by
     refine L2.ob_eeaa (hy1 z hz) fun c' t e1 e2 e3=>?_
     exact⟨c',[t],e1,new_at gs e2,.inl ⟨t,rfl,e3⟩⟩
    generalize upd H5 sl (.lst ys)=H3 at s3 h3 hy3 ⊢
    have hy2':ys=[]→∀t,¬Stray N p o t:=fun e t hst=>hy2 ⟨t,by simpa using hst.1,hst⟩ e
    clear gs hy1 hy2 s5 hyl
    refine orT_of (Iv_showing_texts_0 N p o H2) h3 (fun hne=>⟨sl,ys,rfl,s3,h3,hne,hy3⟩) ?_ ?_
    ·rintro v H4 ⟨fl,zs,rfl,s4,hfl,hne,hz⟩
     have lam4:LamOk lamQ lp PT H4:=hlam.same (s2.trans s4)
     refine⟨fl,zs,rfl,SqL.of hfl,hne,lam4,fun v H6 hv sB=>?_,fun v H6 hv sB lam6=>?_⟩
     ·obtain ⟨c',best,rfl,hc',hb⟩:=hz v hv
      refine L2.ob_aa (best_lt hN hob hb) fun blt _ _=>?_
      have hc6:=sB.lst lam4 hc'
      have hcl6:=sB.lst lam4 (s4 _ _ h2)
      refine⟨c',rfl,⟨_,SqL.of hc6⟩,comp_list (K:=K) (a:=c') (xs:=wordV best) (Iv_showing_texts_1 H6) ⟨rfl,rfl,[],rfl⟩ (fun i ys H7 _ ⟨e,_,_,_⟩=>by rw [e];exact SqL.of hc6) (fun i ys H7 hi ⟨_,e,_,_⟩=>fits (by
       have:=(best_lt hN hob hb).2.1
       unfold wordV at hi
       rw [List.length_map] at hi
       lia)) ?_ ?_⟩
      ·rintro i x ys H7 TT hx ⟨rfl,e,ns,rfl⟩ ht
       refine L2.ob_ea (wordV_get hx) fun t ht1 e_2=>?_;subst e_2
       have htw:=blt t (List.mem_of_getElem? ht1)
       obtain ⟨z,hzc⟩:∃z,cs[t]? = some z:=⟨_,List.getElem?_eq_getElem (by lia)⟩
       refine L2.ob_ea (hcs2 t z hzc) fun ci e_1 hci=>?_;subst e_1
       refine⟨cl,cs,_,_,rfl,rfl,SqL.of hcl6,atI_nat hzc,ci,cntL N t,rfl,SqL.of (sB.lst lam4 (s4 _ _ hci)),fun m=>ht _ _ ⟨rfl,by simpa using e,ns++[m],by simp⟩⟩
      ·rintro ys H7 ⟨rfl,e,ns,rfl⟩ q hq
       exact⟨q,ns,rfl,SqL.of upd_same,fun m=>⟨⟨m,rfl⟩,Same.new hq⟩⟩
     ·obtain ⟨c',best,rfl,hc',hb⟩:=hz v hv
      refine L2.ob_aa (best_lt hN hob hb) fun blt bl2 _=>?_
      have hc6:=sB.lst lam4 hc'
      refine⟨(show 1≤sizeLine by decide),fun l1 g1=>⟨l1,(N.w:Int),_,rfl,rfl,upd_same,by solve_by_elim,by lia,fits (by simp;lia),fun rl g2=>?_⟩⟩
      have e1:(List.replicate (N.w:Int).toNat [V.str (Str.ofString "")]).flatten=(rowOf N.w []).map V.str:=by
       rw [rep_one]
       simp [rowOf]
      rw [e1]
      have f6:H6 rl=none:=(Same.new g1).free g2
      have s7:Same H6 (upd (upd H6 l1 (.lst [V.str (Str.ofString "")])) rl (.lst ((rowOf N.w []).map V.str))):=(Same.new g1).trans (Same.new g2)
      have h7:(upd (upd H6 l1 (.lst [V.str (Str.ofString "")])) rl (.lst ((rowOf N.w []).map V.str))) rl=some (.lst ((rowOf N.w []).map V.str)):=upd_same
      generalize upd (upd H6 l1 (.lst [V.str (Str.ofString "")])) rl (.lst ((rowOf N.w []).map V.str))=H7 at s7 h7 ⊢
      have hwl:(wordV best).length=best.length:=by unfold wordV;rw [List.length_map]
      refine⟨Str.ofString "ab", c',rfl,(by decide +kernel),⟨_,SqL.of (s7 _ _ hc6)⟩,for_zs (K:=K) (a:=c') (xs:=wordV best) best.length (by rw [hwl,show (Str.ofString "ab").cps.size=2 by decide];lia) (Iv_showing_texts_2 n N p cl sl fl H6 c' best rl)
       ⟨_,_,rfl,s7,h7⟩ (fun i σ3 H8 _ ⟨_,_,_,s8,_⟩=>SqL.of (s8 _ _ hc6)) ?_ ?_⟩
      ·rintro i x ch σ3 H8 q hx hch ⟨v8,v9,rfl,s8,hr8⟩ hq
       obtain ⟨t,ht1,rfl⟩:=wordV_get hx
       have htw:=blt t (List.mem_of_getElem? ht1)
       refine⟨q,_,rfl,SqT.of upd_same,rfl,?_⟩
       refine⟨rl,_,_,t,rfl,rfl,new_at hq hr8,ixN_nat (by rw [List.length_map,rowOf_len];exact htw),?_⟩
       refine⟨_,_,rfl,(s8.trans (Same.new hq)).upd f6,?_⟩
       rw [upd_same,rowOf_step bl2 ht1 hch,List.map_set]
      ·rintro σ3 H8 ⟨v8,v9,rfl,s8,hr8⟩
       refine (k H8 rl best (((s2.trans s4).toB.trans sB).trans s8.toB) (lam6.same s8) ?_ (by rw [List.take_length] at hr8;exact hr8) hb)
       exact (s2.trans s4).free (sB.free lam6 f6)
    ·intro hnil hq
     have hst:=hy2' hnil
     have hcnt:∀t,t<N.w→(N.words.getD o []).count t=if t≤p then 1 else 0:=fun t ht=>Classical.byContradiction fun z=>hst t ⟨ht,z⟩
     have hlt:=word_lt hN o hob
     refine⟨n,sa,oa,rs,N,p,o,rfl,hn.mono (s2.trans s3),hN,ho,?_,fun H4 l zs s4 hl hz1 hz2=>hq _ _ ⟨l,zs,rfl,s3.trans s4,hl,fun e=>?_,fun z hz=>?_⟩⟩
     ·rw [count_len hpw hlt hcnt]
      lia
     ·exact hwr (right_of hpw hlt hcnt fun i j a b h1 h2 h3 h4=>hz2 i j a b h1 h2 h3 h4 e)
     ·obtain ⟨c',i,j,a,b,e1,e2,e3,e4,e5,e6⟩:=hz1 z hz
      exact⟨c',[a,b],e1,e2,.inr ⟨a,b,i,j,rfl,hst,e3,e4,e5,e6⟩⟩
end
end K10

namespace K10
open PySem L2 NM PyProof.Rows
section
variable {P:Program}{w:World}{K:PySem.W.Frag}{mg:Str→Option Value}{base:Heap}{CB CK CR CT CW CS DR DT FJ FG FS FA FE PT:Addr}
abbrev s_showing_row:Stmt:=top 37
theorem sc_showing_row:FnScope ["net", "kind", "place"] ["net", "kind", "place"] (defScope s_showing_row):=⟨rfl,rfl,rfl,by decide +kernel,rfl,by decide +kernel,by decide +kernel⟩
theorem ok_showing_row {f:Addr}{fd:FuncData}(F:Fun K "showing_row" "showing_row" s_showing_row f fd) (T:Txt K mg CB CK CR CT CW CS DR DT FJ FG FS FA FE P w) (d_showing_numbers:Df P w K mg base "showing_numbers" 3 ["net", "kind", "place"] (spNumbers)) (d_showing_texts:Df P w K mg base "showing_texts" 5 ["net", "place"] (spTexts PT lp)):FnOk P w K mg base (CX1 P w) 6 f fd ["net", "kind", "place"] (spShowK PT lp):=by
 refine F.ok1 sc_showing_row (fun vs H Q E h=>?_) (fun cdv A outer s H vs Q E hr h=>?_)
 ·obtain ⟨n,sa,oa,rs,N,p,o,x,rfl,hx,hn,hN,ho,hwr,hlam,k⟩:=h;rfl
 ·obtain ⟨n,sa,oa,rs,N,p,o,x,rfl,hx,hn,hN,ho,hwr,hlam,k⟩:=h
  have nd:=sc_showing_row.nd
  refine⟨_,(pss_cons (ps_if (pt_cmpR op_eq (pv 1) pe_str (nomark _))
   (pss_one (ps_ret (pe_own d_showing_texts (hr.mono (by first|decide|lia)) rfl pass1 (pa_cons (pv 0) (pa_cons (pv 2) pa_nil)))))
   pss_nil)
   (pss_one (ps_ret (pe_own d_showing_numbers (hr.mono (by first|decide|lia)) rfl pass1 (pa_cons (pv 0) (pa_cons (pv 1) (pa_cons (pv 2) pa_nil))))))),?_⟩
  skip
  by_cases hany:x=kAny
  ·subst hany
   refine⟨n,sa,oa,rs,N,p,o,rfl,hn,hN,ho,fun z=>hwr (du_any.mpr z),hlam,fun H' l best sB lam g h b=>k H' l sB lam ?_⟩
   unfold ShowV
   rw [if_pos rfl]
   exact⟨best,h,b⟩
  ·refine iteDF (fun z=>hany (V.str.inj z)) ⟨n,sa,oa,rs,N,p,o,x,rfl,(kinds_cases hx).resolve_left hany,hn,hN,ho,hwr,fun H' l t s' ht h b=>k H' l s'.toB (hlam.same s') ?_⟩
   unfold ShowV
   rw [if_neg hany]
   exact⟨t,ht,h,b⟩
abbrev s_judged:Stmt:=top 35
theorem sc_judged:FnScope ["net", "kind", "traces", "due", "place", "trace"] ["net", "kind"] (defScope s_judged):=⟨rfl,rfl,rfl,by decide +kernel,rfl,by decide +kernel,by decide +kernel⟩
theorem ok_judged {f:Addr}{fd:FuncData}(F:Fun K "judged" "judged" s_judged f fd) (T:Txt K mg CB CK CR CT CW CS DR DT FJ FG FS FA FE P w) (d_look_net:Df P w K mg base "look_net" 6 ["net"] (spLook CB)) (d_outs_by:Df P w K mg base "outs_by" 2 ["net", "row", "together"] (spOutsBy P w K mg base)) (d_span_joined:Df P w K mg base "span_joined" 1 ["one", "other"] (spSpan)) (d_apart_joined:Df P w K mg base "apart_joined" 1 ["one", "other"] (spApart)) (d_either_joined:Df P w K mg base "either_joined" 1 ["one", "other"] (spEither)) (d_look_kind:Df P w K mg base "look_kind" 1 ["kind"] (spKind CK)) (d_in_line:Df P w K mg base "in_line" 2 ["row", "together"] (spInLine P w K mg base)) (d_first_traces:Df P w K mg base "first_traces" 1 ["wide", "kind"] (spTracesK)) (d_showing_row:Df P w K mg base "showing_row" 6 ["net", "kind", "place"] (spShowK PT lp)):FnOk P w K mg base (CX1 P w) 7 f fd ["net", "kind"] (spJudgedK CB CK PT lp):=by
 refine F.ok1 sc_judged (fun vs H Q E h=>?_) (fun cdv A outer s H vs Q E hr h=>?_)
 ·obtain ⟨n,sa,oa,rs,wide,steps,outs,x,rfl,hol,hn,bad,badK,hlam,k⟩:=h;rfl
 ·obtain ⟨n,sa,oa,rs,wide,steps,outs,x,rfl,hol,hn,bad,badK,hlam,k⟩:=h
  have nd:=sc_judged.nd
  refine⟨_,(pss_cons (ps_expr (pe_own d_look_net (hr.mono (by first|decide|lia)) rfl pass1 (pa_cons (pv 0) pa_nil)))
   (pss_cons (ps_expr (pe_own d_look_kind (hr.mono (by first|decide|lia)) rfl pass1 (pa_cons (pv 1) pa_nil)))
   (pss_cons (ps_set (i:=2) nd rfl (Or.inl rfl) (pe_own d_first_traces (hr.mono (by first|decide|lia)) rfl pass1 (pa_cons (pe_ix ix_tup (pv 0) pe_int (fun _ _=>rfl)) (pa_cons (pv 1) pa_nil))))
   (pss_cons (ps_set (i:=3) nd rfl (Or.inl rfl) (pe_own d_in_line (hr.mono (by first|decide|lia)) rfl pass1 (pa_cons (pv 2) (pa_cons (pe_ix ix_kd (pe_glob (v:=.ref _) rfl T.g_TRACES rfl) (pv 1) (fun _ _=>rfl)) pa_nil))))
   (pss_cons (ps_for powns1 rfl (pi_enum rfl T.z_enumerate (pa_cons (pe_own d_outs_by (hr.mono (by first|decide|lia)) rfl pass1 (pa_cons (pv 0) (pa_cons (pv 2) (pa_cons (pe_ix ix_kd (pe_glob (v:=.ref _) rfl T.g_TRACES rfl) (pv 1) (fun _ _=>rfl)) pa_nil)))) pa_nil)) (pg_tup rfl (pgs_cons (pg_name (i:=4) nd rfl (Or.inl rfl)) (pgs_cons (pg_name (i:=5) nd rfl (Or.inl rfl)) pgs_nil)))
   (pss_one (ps_if (pt_cmpR (op_neG hr) (pv 5) (pe_ix ix_list (pv 3) (pv 4) (fun _ _=>rfl)) (nomark _))
   (pss_one (ps_ret (pe_tup (pa_cons pe_str (pa_cons (pv 4) (pa_cons (pe_own d_showing_row (hr.mono (by first|decide|lia)) rfl pass1 (pa_cons (pv 0) (pa_cons (pv 1) (pa_cons (pv 4) pa_nil)))) pa_nil))))))
   pss_nil)))
   (pss_one (ps_ret (pe_tup (pa_cons pe_str pa_nil))))))))),?_⟩
  skip
  refine⟨n,sa,oa,rs,wide,steps,outs,rfl,hol,hn,fun H2 s2=>⟨fun g=>?_,fun g=>bad H2 s2 g⟩⟩
  refine⟨x,rfl,fun hx=>?_,fun hx=>badK H2 s2 g hx⟩
  have lam2:=(hlam g hx).same s2
  obtain ⟨N,hN,rfl,rfl,rfl⟩:=g.net
  obtain ⟨kr,kw⟩:=k N hN rfl rfl rfl hx
  clear k bad hlam badK
  have n2:=hn.mono s2
  have hw:=hN.hi
  have hlo:=hN.lo
  have hol':=hN.ol
  obtain ⟨FT,hany,dv⟩:∃FT,valV [((Sum.inr (Str.ofString "any"):Key),V.ref FS),(Sum.inr (Str.ofString "commuting"),V.ref FA),(Sum.inr (Str.ofString "greatest"),V.ref FE)] (Sum.inr x)=some (V.ref FT)∧Dv P w K mg base FT 1 (spBinW (RTrace x) fun _=>True):=by
   rcases kinds_cases hx with rfl|rfl|rfl
   ·exact⟨FS,valV_pos rfl,by rw [rt_any];exact d_span_joined.dv T.g_span_joined span_bin⟩
   ·exact⟨FA,(valV_neg (fun e=>any_com (Sum.inr.inj e))).trans (valV_pos rfl),by rw [rt_com];exact d_apart_joined.dv T.g_apart_joined apart_bin⟩
   ·exact⟨FE,(valV_neg (fun e=>any_gre (Sum.inr.inj e))).trans ((valV_neg (fun e=>com_gre (Sum.inr.inj e))).trans (valV_pos rfl)),by rw [rt_gre];exact d_either_joined.dv T.g_either_joined either_bin⟩
  have loc:=loc_trace hx
  refine⟨_,_,_,_,rfl,rfl,SqT.of n2.net,rfl,N.w,x,rfl,hx,hw,fun H3 tl zs s3 g3 h3 hl3 hz3=>?_⟩
  refine⟨DT,_,Sum.inr x,_,rfl,T.k_TRACES,rfl,hany,tl,FT,zs,RTrace x,fun _=>True,rfl,SqL.of h3,fun z=>by rw [z] at hl3;simp at hl3;lia,by lia,loc,dv,hz3,fun _ _=>trivial,fun H4 dl ds s4 h4 g4 hl4 hz4=>?_⟩
  have n4:=n2.mono (s3.trans s4)
  refine⟨DT,_,Sum.inr x,_,rfl,T.k_TRACES,rfl,hany,n,sa,oa,tl,FT,rs,zs,N,RTrace x,fun _=>True,rfl,n4,hN,SqL.of (s4 _ _ h3),hl3,loc,dv,fun i v hv=>loc.mono s4 (hz3 i v hv),fun _ _ _=>trivial,fun H5 ol os s5 h5 g5 hl5 hz5=>?_⟩
  have sH:Same H H5:=((s2.trans s3).trans s4).trans s5
  have lam5:LamOk lamQ lp PT H5:=lam2.same ((s3.trans s4).trans s5)
  have h45:=s5 _ _ h4
  refine⟨ol,rfl,⟨_,SqL.of h5⟩,for_enum (K:=K) (a:=ol) (xs:=os) (fun j σ6 H6=>∃v4 v5:Option V,σ6=[some (.ref n),some (.str x),some (.ref tl),some (.ref dl),v4,v5]∧Same H5 H6∧RightK x N j)
   ⟨_,_,rfl,Same.refl H5,fun i o hi=>absurd hi (Nat.not_lt_zero _)⟩ (fun j σ6 H6 _ ⟨_,_,_,s6,_⟩=>SqL.of (s6 _ _ h5)) ?_ ?_⟩
  ·rintro j y σ6 H6 q hy ⟨v4,v5,rfl,s6,hrt⟩ hq
   have hjl:=(List.getElem?_eq_some_iff.mp hy).1
   obtain ⟨o,ho⟩:∃o,N.ou[j]? = some o:=⟨_,List.getElem?_eq_getElem (by lia)⟩
   have s7:Same H5 (upd H6 q (.tup [.int (j:Nat),y])):=s6.trans (Same.new hq)
   refine⟨q,_,rfl,SqT.of upd_same,rfl,?_⟩
   generalize upd H6 q (.tup [.int (j:Nat),y])=H7 at s7 ⊢
   obtain ⟨z,hz⟩:∃z,ds[j]? = some z:=⟨_,List.getElem?_eq_getElem (by lia)⟩
   have r1:RTrace x H7 y (N.words.getD o []):=loc.mono s7 (hz5 j o y ho hy)
   have r2:RTrace x H7 z (List.range (j+1)):=loc.mono s7 (loc.mono s5 (hz4 j z hz))
   refine⟨dl,ds,_,z,rfl,rfl,SqL.of (s7 _ _ h45),atI_nat hz,_,_,deep_trace hx r1,deep_trace hx r2,dp_trace hx,?_⟩
   by_cases e:dueB x (N.words.getD o []) j
   ·rw [(due_iff hx).mpr e]
    refine⟨_,_,rfl,s7,fun i o' hi ho'=>?_⟩
    by_cases hij:i=j
    ·subst hij
     rw [ho] at ho';cases ho'
     exact e
    ·exact hrt i o' (by lia) ho'
   ·rw [show (dTrace x (N.words.getD o [])).eqB (dTrace x (List.range (j+1)))=false from by
     cases h:(dTrace x (N.words.getD o [])).eqB (dTrace x (List.range (j+1))) with
     | false=>rfl
     | true=>exact absurd ((due_iff hx).mp h) e]
    refine⟨n,sa,oa,rs,N,j,o,x,rfl,hx,hn.mono (sH.trans s7),hN,ho,e,lam5.same s7,fun H8 l sB lam8 h8=>?_⟩
    refine⟨(show 3≤sizeLine by decide),fun t gt=>?_⟩
    exact kw _ t l j o ((((sH.trans s7).toB).trans sB).trans (Same.new gt).toB) (lam8.same (Same.new gt)) hrt ho e (h8.mono (Same.new gt)) upd_same
  ·rintro σ6 H6 ⟨v4,v5,rfl,s6,hrt⟩
   refine⟨(show 1≤sizeLine by decide),fun t gt=>?_⟩
   exact kr _ t ((sH.trans s6).trans (Same.new gt)).toB ((lam5.same s6).same (Same.new gt)) (by rw [hl5] at hrt;exact hrt) upd_same
end
end K10

namespace K10
open PySem L2 NM PyProof.Rows
section
variable {P:Program}{w:World}{K:PySem.W.Frag}{mg:Str→Option Value}{base:Heap}{CB CK CR CT CW CS DR DT FJ FG FS FA FE PT:Addr}
abbrev s__law_runs:Stmt:=top 56
theorem sc__law_runs:FnScope ["_law_net_here", "_law_words_here", "_law_kind", "_law_row", "_law_due", "_law_beginnings"] ["_law_net_here", "_law_words_here", "_law_kind", "_law_row"] (defScope s__law_runs):=⟨rfl,rfl,rfl,by decide +kernel,rfl,by decide +kernel,by decide +kernel⟩
inductive Iv_out (x:Str) (xs:List V) (N:NetN) (H5:Hp) (i:Nat) (ys:List V) (H:Hp):Prop
 | mk:(Same H5 H)→(ys=((N.ou.take i).map fun o=>N.words.getD o []).map (valW x xs))→Iv_out x xs N H5 i ys H
inductive Iv_pick (xs:List V) (u:List Nat) (H5:Hp) (i:Nat) (ys:List V) (H:Hp):Prop
 | mk:(H=H5)→(ys=pickV xs (u.take i))→Iv_pick xs u H5 i ys H
inductive Iv_beg (x:Str) (xs:List V) (H5:Hp) (i:Nat) (ys:List V) (H:Hp):Prop
 | mk:(Same H5 H)→(ys=((List.range i).map fun k=>List.range (k+1)).map (valW x xs))→Iv_beg x xs H5 i ys H
theorem ok__law_runs {f:Addr}{fd:FuncData}(F:Fun K "_law_runs" "_law_runs" s__law_runs f fd) (T:Txt K mg CB CK CR CT CW CS DR DT FJ FG FS FA FE P w) (d_run:Df P w K mg base "run" 7 ["net", "kind", "row"] (spRun K CB CK CR)) (d_plain:Df P w K mg base "plain" 3 ["kind", "row"] (spPlain K CK)) (d__law_sum:Df P w K mg base "_law_sum" 1 ["_law_kind", "_law_some"] (spSumL)):FnOk P w K mg base (CX1 P w) 8 f fd ["_law_net_here", "_law_words_here", "_law_kind", "_law_row"] (spRunsJ):=by
 refine F.ok1 sc__law_runs (fun vs H Q E h=>?_) (fun cdv A outer s H vs Q E hr h=>?_)
 ·obtain ⟨n,sa,oa,wl,ra,rs,ts,N,x,xs,rfl,hn,hN,hst,hwl,hts,hx,hra,hxl,hth,hof,k⟩:=h;rfl
 ·obtain ⟨n,sa,oa,wl,ra,rs,ts,N,x,xs,rfl,hn,hN,hst,hwl,hts,hx,hra,hxl,hth,hof,k⟩:=h
  have nd:=sc__law_runs.nd
  refine⟨_,(pss_cons (ps_setcomp (ot:=none) 4 [1,2,3] rfl nd rfl rfl (pi_list (pe_ix ix_tup (pv 0) pe_int (fun _ _=>rfl))) (fun _ _ _ _=>(pe_own d__law_sum (hr.mono (by first|decide|lia)) rfl pass10 (pa_cons (pv 2) (pa_cons (pe_comp (ot:=none) [3] rfl (show PI _ _ _ (iTup K _) from pi_tup (pe_ix (show IxR _ (rIxL K) from ix_list) (pv 1) (pv 0) (fun _ _=>rfl))) (fun _ _ _ _=>(pe_ix (show IxR _ (rIxL K) from ix_list) (pv 1) (pv 0) (fun _ _=>rfl))) (fun _ _ _ _=>trivial) rfl (nodupS_of rfl)) pa_nil)))) (fun _ _ _ _=>trivial) rfl (nodupS_of rfl))
   (pss_cons (ps_setcomp (ot:=none) 5 [2,3] rfl nd rfl rfl (pi_range1 rfl T.z_range (pa_cons (pe_ix ix_tup (pv 0) pe_int (fun _ _=>rfl)) pa_nil)) (fun _ _ _ _=>(pe_own d__law_sum (hr.mono (by first|decide|lia)) rfl pass10 (pa_cons (pv 1) (pa_cons (pe_slice (show SlR _ (rSlL K) from sl_list) (pv 2) po_none (po_some (pe_op op_add (pv 0) pe_int))) pa_nil)))) (fun _ _ _ _=>trivial) rfl (nodupS_of rfl))
   (pss_one (ps_ret (pe_and (pe_cmpR (op_eqG hr) (pe_own d_run (hr.mono (by first|decide|lia)) rfl pass1 (pa_cons (pv 0) (pa_cons (pv 2) (pa_cons (pe_callTy call_list_of rfl T.z_list boot_list (pa_cons (pv 3) pa_nil)) pa_nil)))) (pv 4) (nomark _)) (pe_one (pe_cmpR (op_eqG hr) (pe_own d_plain (hr.mono (by first|decide|lia)) rfl pass1 (pa_cons (pv 2) (pa_cons (pe_callTy call_list_of rfl T.z_list boot_list (pa_cons (pv 3) pa_nil)) pa_nil))) (pv 5) (nomark _)))))))),?_⟩
  skip
  have hrow:=rowOk_of hth hof
  have hw64:=hN.hi
  have hol:=hN.ol
  have hoL:N.outs.length≤10000:=by rw [outs_len];lia
  refine⟨_,_,_,_,rfl,rfl,SqT.of hn.net,rfl,oa,rfl,⟨_,SqL.of hn.ots⟩,comp_list (K:=K) (a:=oa) (xs:=N.outs.map V.int) (Iv_out x xs N H) ⟨Same.refl H,rfl⟩ (fun i ys H2 _ ⟨s2,_⟩=>SqL.of (s2 _ _ hn.ots)) (fun i ys H2 hi ⟨_,e⟩=>fitsL (by rw [e,List.length_map,List.length_map,List.length_take];lia)) ?_ ?_⟩
  ·rintro i y ys H2 R hy ⟨s2,rfl⟩ kR
   obtain ⟨o,ho,rfl⟩:=outs_get hy
   have hoN:=hN.ob o (List.mem_of_getElem? ho)
   obtain ⟨t,ht1,ht2⟩:=word_at (hts.mono s2) hoN
   have hul:∀v∈N.words.getD o [],v<xs.length:=fun v hv=>by rw [hxl];exact word_lt hN o hoN v hv
   refine⟨wl,_,_,_,rfl,rfl,SqL.of (s2 _ _ hwl),atI_nat ht1,t,rfl,⟨_,SqT.of ht2⟩,comp_tup (K:=K) (a:=t) (xs:=((N.words.getD o []).map Int.ofNat).map V.int) (Iv_pick xs (N.words.getD o []) H2) ⟨rfl,rfl⟩ (fun m ys H3 _ ⟨e,_⟩=>by rw [e];exact SqT.of ht2) (fun m ys H3 hm ⟨_,e⟩=>?_) ?_ ?_⟩
   ·have hsh:=word_short hN hst (j:=o)
    unfold shortW at hsh
    rw [List.length_map,List.length_map] at hm
    rw [e,pickV,List.length_map,List.length_take]
    lia
   ·rintro m y ys H3 R2 hy2 ⟨rfl,rfl⟩ kR2
    rw [List.getElem?_map,List.getElem?_map] at hy2
    obtain ⟨z,hz,rfl⟩:=Option.map_eq_some_iff.mp hy2
    obtain ⟨v,hv,rfl⟩:=Option.map_eq_some_iff.mp hz
    have hvl:=hul v (List.mem_of_getElem? hv)
    refine⟨ra,xs,_,xs.getD v .non,rfl,rfl,SqL.of (s2 _ _ hra),atI_nat (by rw [List.getD_eq_getElem?_getD,List.getElem?_eq_getElem hvl];rfl),kR2 _ _ ⟨rfl,?_⟩⟩
    unfold pickV
    rw [List.take_succ,hv,List.map_append]
    rfl
   ·rintro ys H3 ⟨rfl,rfl⟩ p gp
    rw [List.length_map,List.length_map,List.take_length]
    refine⟨x,p,xs,N.words.getD o [],rfl,hx,upd_same,hrow,word_ne hN hoN,hul,word_short hN hst,fun H4 s4=>kR _ _ ⟨(s2.trans (Same.new gp)).trans s4,?_⟩⟩
    rw [List.take_succ,ho,List.map_append,List.map_append]
    rfl
  rintro ys H2 ⟨s2,rfl⟩ dl gd
  have ed:(N.ou.take (N.outs.map V.int).length)=N.ou:=List.take_of_length_le (by rw [List.length_map,outs_len];exact Nat.le_refl _)
  rw [ed]
  have s3:=s2.trans (Same.new (o:=.lst ((N.ou.map fun o=>N.words.getD o []).map (valW x xs))) gd)
  have hd3:(upd H2 dl (.lst ((N.ou.map fun o=>N.words.getD o []).map (valW x xs)))) dl=some (.lst ((N.ou.map fun o=>N.words.getD o []).map (valW x xs))):=upd_same
  generalize upd H2 dl (.lst ((N.ou.map fun o=>N.words.getD o []).map (valW x xs)))=H3 at s3 hd3 ⊢
  refine⟨_,_,_,_,rfl,rfl,SqT.of (s3 _ _ hn.net),rfl,_,rfl,by exact Int.natCast_nonneg _,by lia,?_⟩
  rw [Int.toNat_natCast]
  refine comp_range (lo:=0) (n:=N.w) (Iv_beg x xs H3) ⟨Same.refl H3,rfl⟩ (fun j ys H4 hj ⟨_,e⟩=>fitsL (by rw [e,List.length_map,List.length_map,List.length_range];lia)) ?_ ?_
  ·rintro j ys H4 R hj ⟨s4,rfl⟩ kR
   refine⟨ra,xs,rfl,SqL.of (s4 _ _ (s3 _ _ hra)),fun p gp=>?_⟩
   have ep:cutV xs none (some (0+(j:Int)+1))=pickV xs (List.range (j+1)):=by
    rw [show (0+(j:Int)+1)=((j+1:Nat):Int) by lia]
    refine (cutL_take xs (j+1)).trans ?_
    unfold pickV
    refine List.ext_getElem? fun i=>?_
    rw [List.getElem?_map]
    by_cases hi:i<j+1
    ·rw [List.getElem?_take_of_lt hi,List.getElem?_range hi,List.getElem?_eq_getElem (by lia)]
     show _=some (xs.getD i .non)
     rw [List.getD_eq_getElem?_getD,List.getElem?_eq_getElem (by lia)]
     rfl
    ·rw [List.getElem?_eq_none (by rw [List.length_take];lia),List.getElem?_eq_none (by rw [List.length_range];lia)]
     rfl
   rw [ep]
   refine⟨x,p,xs,List.range (j+1),rfl,hx,upd_same,hrow,by simp,(fun i hi=>by have:=List.mem_range.mp hi;lia),by unfold shortW;rw [List.length_range,sizeLine_eq];lia,fun H5 s5=>kR _ _ ⟨(s4.trans (Same.new gp)).trans s5,?_⟩⟩
   have er:((List.range (j+1)).map fun k=>List.range (k+1))=((List.range j).map fun k=>List.range (k+1))++[List.range (j+1)]:=(congrArg (List.map fun k=>List.range (k+1)) List.range_succ).trans List.map_append
   rw [er,List.map_append]
   rfl
  rintro ys H4 ⟨s4,rfl⟩ bl gb
  have s5:=s4.trans (Same.new (o:=.lst (((List.range N.w).map fun k=>List.range (k+1)).map (valW x xs))) gb)
  have hb5:(upd H4 bl (.lst (((List.range N.w).map fun k=>List.range (k+1)).map (valW x xs)))) bl=some (.lst (((List.range N.w).map fun k=>List.range (k+1)).map (valW x xs))):=upd_same
  generalize upd H4 bl (.lst (((List.range N.w).map fun k=>List.range (k+1)).map (valW x xs)))=H5 at s5 hb5 ⊢
  have s05:=s3.trans s5
  refine⟨ra,xs,rfl,.inl (SqL.of (s05 _ _ hra)),fun l gl=>?_⟩
  have s6:=s05.trans (Same.new (o:=.lst xs) gl)
  refine⟨n,sa,oa,rs,N.w,N.steps,N.outs,x,l,xs,rfl,hoL,hn.mono s6,upd_same,by lia,hth,fun H7 s7=>⟨fun g=>absurd hN.good g,fun _ h=>absurd hx h,fun N' hN' e1 e2 e3 _=>?_⟩⟩
  obtain rfl:=net_inj e1 e2 e3
  refine⟨fun h=>absurd ⟨hxl,hof⟩ h,hst,fun q _ hq=>?_⟩
  have s57:=(Same.new (o:=.lst xs) gl).trans s7
  refine⟨dVals x xs (N.ou.map fun o=>N.words.getD o []),dVals x xs (N.ou.map fun o=>N.words.getD o []),deep_vals (by rw [hq,List.map_map];rfl),deep_vals (s57 _ _ (s5 _ _ hd3)),dp_vals,?_⟩
  rw [eqB_refl]
  have s07:=s6.trans s7
  refine⟨ra,xs,rfl,.inl (SqL.of (s07 _ _ hra)),fun l2 g2=>⟨x,l2,xs,rfl,upd_same,(fun z=>by rw [z] at hxl;have:=hN.lo;simp at hxl;lia),by lia,hx,hrow,fun H9 q2 s9 hq2=>?_⟩⟩
  have s59:=(s57.trans (Same.new (o:=.lst xs) g2)).trans s9
  refine⟨dVals x xs ((List.range N.w).map fun k=>List.range (k+1)),dVals x xs ((List.range N.w).map fun k=>List.range (k+1)),deep_vals (by rw [hq2,hxl,List.map_map];rfl),deep_vals (s59 _ _ hb5),dp_vals,?_⟩
  rw [eqB_refl]
  exact k H9 ((s07.trans (Same.new g2)).trans s9)
end
end K10

namespace K10
open PySem L2 NM PyProof.Rows
section
variable {P:Program}{w:World}{K:PySem.W.Frag}{mg:Str→Option Value}{base:Heap}{CB CK CR CT CW CS DR DT FJ FG FS FA FE PT:Addr}
abbrev s_law:Stmt:=top 57
theorem sc_law:FnScope ["_law_script", "_law_net_here", "_law_words_here", "_law_texts", "_law_numbers", "_law_kind", "_law_row", "_law_bad", "_law_found", "_law_rows"] ["_law_script"] (defScope s_law):=⟨rfl,rfl,rfl,by decide +kernel,rfl,by decide +kernel,by decide +kernel⟩
inductive spLawT (K:PySem.W.Frag) (PT:Addr) (lp:Pos) (vs:List V) (H:Hp) (Q:VK) (_e3:XK):Prop
 | mk:∀(a:Addr) (ns:List Int),(vs=[.ref a])→(SqL K H a (ns.map V.int))→(LamOk lamQ lp PT H)→(∀H',Q (.bl true) H')→spLawT K PT lp vs H Q _e3
inductive Iv_txt (H5:Hp) (i:Nat) (ys:List V) (H:Hp):Prop
 | mk:∀ss:List Str,(Same H5 H)→(ys=ss.map V.str)→(ss.length=i)→(∀s∈ss,s.length≤2)→Iv_txt H5 i ys H
inductive Iv_num (H5:Hp) (i:Nat) (ys:List V) (H:Hp):Prop
 | mk:∀xs:List Int,(Same H5 H)→(ys=xs.map V.int)→(xs.length=i)→Iv_num H5 i ys H
inductive Iv_kd (K:PySem.W.Frag) (PT:Addr) (lp:Pos) (a:Addr) (ns:List Int) (n sa oa:Addr) (rs:List V) (N:NetN) (wl:Addr) (ts:List V) (tl nl:Addr) (ss:List Str) (ms:List Int) (tp:Addr) (j:Nat) (σ:L2.St) (H:Hp):Prop
 | mk:∀v5 v6 v7 v8:Option V,(σ=[some (.ref a),some (.ref n),some (.ref wl),some (.ref tl),some (.ref nl),v5,v6,v7,v8,none])→(BsJ K PT lp a ns n sa oa rs N wl ts tl nl ss ms H)→(H tp=some (.tup [.str kAny,.str kCom,.str kGre]))→Iv_kd K PT lp a ns n sa oa rs N wl ts tl nl ss ms tp j σ H
inductive Iv_bad (x:Str) (N:NetN) (H5:Hp) (i:Nat) (ys:List V) (H:Hp):Prop
 | mk:(Same H5 H)→(ys=wordV (badL x N i))→Iv_bad x N H5 i ys H
inductive Iv_kw (H5:Hp) (i:Nat) (ys:List V) (H:Hp):Prop
 | mk:(Same H5 H)→(ys=(List.replicate i (Str.ofString "kind")).map V.str)→Iv_kw H5 i ys H
theorem ok_law {f:Addr}{fd:FuncData}(F:Fun K "law" "law" s_law f fd) (T:Txt K mg CB CK CR CT CW CS DR DT FJ FG FS FA FE P w) (d_run:Df P w K mg base "run" 7 ["net", "kind", "row"] (spRun K CB CK CR)) (d_plain:Df P w K mg base "plain" 3 ["kind", "row"] (spPlain K CK)) (d_judged:Df P w K mg base "judged" 7 ["net", "kind"] (spJudgedK CB CK PT lp)) (d__law_mix:Df P w K mg base "_law_mix" 2 ["_law_script", "_law_k"] (spMix K)) (d__law_whole:Df P w K mg base "_law_whole" 1 ["_law_found"] (spWhole)) (d__law_net:Df P w K mg base "_law_net" 3 ["_law_script", "_law_k", "_law_most"] (spDrawnN K)) (d__law_right:Df P w K mg base "_law_right" 17 ["_law_script", "_law_k", "_law_most"] (spRight K)) (d__law_bent:Df P w K mg base "_law_bent" 3 ["_law_script", "_law_k", "_law_net_here"] (spBent K)) (d__law_words:Df P w K mg base "_law_words" 1 ["_law_net_here"] (spWords)) (d__law_is_due:Df P w K mg base "_law_is_due" 1 ["_law_kind", "_law_word", "_law_out"] (spDueJ)) (d__law_told:Df P w K mg base "_law_told" 8 ["_law_way", "_law_net_here", "_law_kind", "_law_row"] (spToldJ)) (d__law_runs:Df P w K mg base "_law_runs" 8 ["_law_net_here", "_law_words_here", "_law_kind", "_law_row"] (spRunsJ)):FnOk P w K mg base (CX1 P w) 18 f fd ["_law_script"] (spLawT K PT lp):=by
 refine F.ok1 sc_law (fun vs H Q E h=>?_) (fun cdv A outer s H vs Q E hr h=>?_)
 ·obtain ⟨a,ns,rfl,S,hlam,k⟩:=h;rfl
 ·obtain ⟨a,ns,rfl,S,hlam,k⟩:=h
  have nd:=sc_law.nd
  refine⟨_,(pss_cons (ps_set (i:=1) nd rfl (Or.inr rfl) (pe_own d__law_net (hr.mono (by first|decide|lia)) rfl pass1 (pa_cons (pv 0) (pa_cons pe_int (pa_cons pe_int pa_nil)))))
   (pss_cons (ps_if (pt_cmpR op_gt (pe_op op_mod (pe_own d__law_mix (hr.mono (by first|decide|lia)) rfl pass1 (pa_cons (pv 0) (pa_cons pe_int pa_nil))) pe_int) pe_int (nomark _))
   (pss_one (ps_set (i:=1) nd rfl (Or.inr rfl) (pe_own d__law_bent (hr.mono (by first|decide|lia)) rfl pass1 (pa_cons (pv 0) (pa_cons pe_int (pa_cons (pe_own d__law_right (hr.mono (by first|decide|lia)) rfl pass1 (pa_cons (pv 0) (pa_cons pe_int (pa_cons pe_int pa_nil)))) pa_nil))))))
   pss_nil)
   (pss_cons (ps_set (i:=2) nd rfl (Or.inr rfl) (pe_own d__law_words (hr.mono (by first|decide|lia)) rfl pass1 (pa_cons (pv 1) pa_nil)))
   (pss_cons (ps_setcomp (ot:=none) 3 [0] rfl nd rfl rfl (pi_range1 rfl T.z_range (pa_cons (pe_ix ix_tup (pv 1) pe_int (fun _ _=>rfl)) pa_nil)) (fun _ _ _ _=>(pe_ix (show IxR _ (rIxL K) from ix_list) (pe_lst (pa_cons pe_str (pa_cons pe_str (pa_cons pe_str (pa_cons pe_str (pa_cons (pe_op op_add_str pe_str (pe_callTy call_str_int rfl T.z_str boot_str (pa_cons (pv 0) pa_nil))) pa_nil)))))) (pe_op op_mod (pe_own d__law_mix (hr.mono (by first|decide|lia)) rfl pass10 (pa_cons (pv 1) (pa_cons (pe_op op_add pe_int (pv 0)) pa_nil))) pe_int) (fun _ _=>rfl))) (fun _ _ _ _=>trivial) rfl (nodupS_of rfl))
   (pss_cons (ps_setcomp (ot:=none) 4 [0] rfl nd rfl rfl (pi_range1 rfl T.z_range (pa_cons (pe_ix ix_tup (pv 1) pe_int (fun _ _=>rfl)) pa_nil)) (fun _ _ _ _=>(pe_op op_sub (pe_op op_mod (pe_own d__law_mix (hr.mono (by first|decide|lia)) rfl pass10 (pa_cons (pv 1) (pa_cons (pe_op op_add pe_int (pv 0)) pa_nil))) pe_int) pe_int)) (fun _ _ _ _=>trivial) rfl (nodupS_of rfl))
   (pss_cons (ps_for powns1 rfl (pi_tup (pe_tup (pa_cons pe_str (pa_cons pe_str (pa_cons pe_str pa_nil))))) (pg_name (i:=5) nd rfl (Or.inr rfl))
   (pss_cons (ps_set (i:=6) nd rfl (Or.inl rfl) (pe_ifExp (pt_cmpR op_eq (pv 5) pe_str (nomark _)) (pv 3) (pv 4)))
   (pss_cons (ps_if (pt_not (pt_truth (pe_own d__law_runs (hr.mono (by first|decide|lia)) rfl pass1 (pa_cons (pv 1) (pa_cons (pv 2) (pa_cons (pv 5) (pa_cons (pv 6) pa_nil))))) (fun _=>rfl)))
   (pss_one (ps_ret pe_bl))
   pss_nil)
   (pss_cons (ps_setcomp (ot:=some _) 7 [1,2,5] rfl nd rfl rfl (pi_range1 rfl T.z_range (pa_cons (pe_ix ix_tup (pv 1) pe_int (fun _ _=>rfl)) pa_nil)) (fun _ _ _ _=>(pv 0)) (fun _ _ _ _=>(pt_not (pt_val (pe_own d__law_is_due (hr.mono (by first|decide|lia)) rfl pass10 (pa_cons (pv 3) (pa_cons (pe_ix (show IxR _ (rIxL K) from ix_list) (pv 2) (pe_ix (show IxR _ (rIxL K) from ix_list) (pe_ix (show IxR _ (rIxT K) from ix_tup) (pv 1) pe_int (fun _ _=>rfl)) (pv 0) (fun _ _=>rfl)) (fun _ _=>rfl)) (pa_cons (pv 0) pa_nil))))))) rfl (nodupS_of rfl))
   (pss_cons (ps_set (i:=8) nd rfl (Or.inl rfl) (pe_own d_judged (hr.mono (by first|decide|lia)) rfl pass1 (pa_cons (pv 1) (pa_cons (pv 5) pa_nil))))
   (pss_one (ps_if (pt_cmpR (op_eqG hr) (pv 7) (pe_lst pa_nil) (nomark _))
   (pss_one (ps_if (PW.pt (pw_or (pt_cmpR (op_neG hr) (pv 8) (pe_tup (pa_cons pe_str pa_nil)) (nomark _)) (pw_or1 (pt_cmpR (op_neG hr) (pe_own d_run (hr.mono (by first|decide|lia)) rfl pass1 (pa_cons (pv 1) (pa_cons (pv 5) (pa_cons (pv 6) pa_nil)))) (pe_own d_plain (hr.mono (by first|decide|lia)) rfl pass1 (pa_cons (pv 5) (pa_cons (pv 6) pa_nil))) (nomark _)))))
   (pss_one (ps_ret pe_bl))
   pss_nil))
   (pss_cons (ps_if (PW.pt (pw_or (pt_cmpR op_ne (pe_callB call_len_seq rfl T.z_len boot_len (pa_cons (pv 8) pa_nil)) pe_int (nomark _)) (pw_or (pt_cmpR (op_neD hr) (pe_slice sl_tup (pv 8) po_none (po_some pe_int)) (pe_tup (pa_cons pe_str (pa_cons (pe_ix ix_list (pv 7) pe_int (fun _ _=>rfl)) pa_nil))) (nomark _)) (pw_or1 (pt_not (pt_truth (pe_own d__law_whole (hr.mono (by first|decide|lia)) rfl pass1 (pa_cons (pe_ix ix_tup (pv 8) pe_int (fun _ _=>rfl)) pa_nil)) (fun _=>rfl)))))))
   (pss_one (ps_ret pe_bl))
   pss_nil)
   (pss_one (ps_if (pt_cmpR op_eq (pe_ix ix_list (pe_own d_run (hr.mono (by first|decide|lia)) rfl pass1 (pa_cons (pv 1) (pa_cons (pv 5) (pa_cons (pe_ix ix_tup (pv 8) pe_int (fun _ _=>rfl)) pa_nil)))) (pe_ix ix_list (pv 7) pe_int (fun _ _=>rfl)) (fun _ _=>rfl)) (pe_ix ix_list (pe_own d_plain (hr.mono (by first|decide|lia)) rfl pass1 (pa_cons (pv 5) (pa_cons (pe_ix ix_tup (pv 8) pe_int (fun _ _=>rfl)) pa_nil))) (pe_ix ix_list (pv 7) pe_int (fun _ _=>rfl)) (fun _ _=>rfl)) (nomark _))
   (pss_one (ps_ret pe_bl))
   pss_nil))))))))))
   (pss_cons (ps_if (pt_cmpR (op_neD hr) (pe_comp (ot:=none) [1] rfl (pi_range1 rfl T.z_range (pa_cons pe_int pa_nil)) (fun _ _ _ _=>(pe_own d__law_told (hr.mono (by first|decide|lia)) rfl pass10 (pa_cons (pv 0) (pa_cons (pv 1) (pa_cons pe_str (pa_cons (pe_lst pa_nil) pa_nil)))))) (fun _ _ _ _=>trivial) rfl (nodupS_of rfl)) (pe_op op_rep (pe_lst (pa_cons pe_str pa_nil)) pe_int) (nomark _))
   (pss_one (ps_ret pe_bl))
   pss_nil)
   (pss_cons (ps_if (PW.pt (pw_or (pt_cmpR op_ne (pe_own d__law_told (hr.mono (by first|decide|lia)) rfl pass1 (pa_cons pe_int (pa_cons (pe_tup (pa_cons pe_int (pa_cons (pe_lst pa_nil) (pa_cons (pe_lst pa_nil) pa_nil)))) (pa_cons pe_str (pa_cons (pe_lst pa_nil) pa_nil))))) pe_str (nomark _)) (pw_or1 (pt_cmpR op_ne (pe_own d__law_told (hr.mono (by first|decide|lia)) rfl pass1 (pa_cons pe_int (pa_cons (pe_tup (pa_cons pe_int (pa_cons (pe_lst pa_nil) (pa_cons (pe_lst (pa_cons pe_int pa_nil)) pa_nil)))) (pa_cons pe_str (pa_cons (pe_lst pa_nil) pa_nil))))) pe_str (nomark _)))))
   (pss_one (ps_ret pe_bl))
   pss_nil)
   (pss_cons (ps_set (i:=9) nd rfl (Or.inl rfl) (pe_lst (pa_cons (pe_own d__law_told (hr.mono (by first|decide|lia)) rfl pass1 (pa_cons pe_int (pa_cons (pv 1) (pa_cons pe_str (pa_cons (pv 4) pa_nil))))) (pa_cons (pe_own d__law_told (hr.mono (by first|decide|lia)) rfl pass1 (pa_cons pe_int (pa_cons (pv 1) (pa_cons pe_str (pa_cons (pv 3) pa_nil))))) pa_nil))))
   (pss_cons (ps_expr (pe_bm PySem.F.plainAttrs_list PySem.F.slot_list_append PySem.F.type_list_append mt_append (pv 9) (pa_cons (pe_own d__law_told (hr.mono (by first|decide|lia)) rfl pass1 (pa_cons pe_int (pa_cons (pv 1) (pa_cons pe_str (pa_cons (pe_op op_cat (pv 3) (pe_lst (pa_cons pe_str pa_nil))) pa_nil))))) pa_nil)))
   (pss_one (ps_ret (pe_cmpR (op_eqD hr) (pe_op op_cat (pv 9) (pe_lst (pa_cons (pe_own d__law_told (hr.mono (by first|decide|lia)) rfl pass1 (pa_cons pe_int (pa_cons (pv 1) (pa_cons pe_str (pa_cons (pe_slice sl_list (pv 4) (po_some pe_int) po_none) pa_nil))))) pa_nil))) (pe_op op_rep (pe_lst (pa_cons pe_str pa_nil)) pe_int) (nomark _)))))))))))))),?_⟩
  skip
  apply bothN (C:=fun H5 n sa oa rs N=>Same H H5∧NetAt H5 n N.w N.steps N.outs sa oa rs∧N.Ok∧N.w≤6∧N.st.length≤20)
  case use =>
   intro go
   refine⟨a,ns,0,6,rfl,by decide,by decide,S,fun H3 n sa oa rs N s3 nt hN w2 l2=>?_⟩
   refine⟨a,ns,30,rfl,s3.seq S,fun num hnum=>?_⟩
   refine⟨(show (0:Int)<4 by decide),iteB (fun c=>?A) (fun c=>?B)⟩
   case B=>exact go H3 n sa oa rs N ⟨s3,nt,hN,w2,by lia⟩
   case A =>
    clear nt hN w2 l2
    refine⟨a,ns,32,6,rfl,by decide,by decide,s3.seq S,fun H4 n sa oa rs N s4 nt hN w2 l2=>?_⟩
    have l2':N.w*(N.w - 1)≤6*5:=Nat.mul_le_mul w2 (by lia)
    refine⟨a,ns,31,n,sa,oa,rs,N,rfl,(s3.trans s4).seq S,nt,hN,by lia,fun H5 n sa oa rs N s5 nt hN w3 l3=>?_⟩
    exact go H5 n sa oa rs N ⟨(s3.trans s4).trans s5,nt,hN,by lia,by lia⟩
  intro H5 n sa oa rs N ⟨s5,nt,hN,hw,hst⟩
  have hlo:=hN.lo
  have hoL:N.outs.length≤10000:=by rw [outs_len];have:=hN.ol;lia
  refine⟨n,sa,oa,rs,N,rfl,nt,hN,hst,fun H6 wl ts s6 hwl hts=>?_⟩
  have nt6:=nt.mono s6
  refine⟨_,_,_,_,rfl,rfl,SqT.of nt6.net,rfl,_,rfl,by exact Int.natCast_nonneg _,by lia,?_⟩
  rw [Int.toNat_natCast]
  refine comp_range (lo:=0) (n:=N.w) (Iv_txt H6) ⟨[],Same.refl H6,rfl,rfl,fun _ h=>by cases h⟩ (fun j ys H7 hj ⟨ss,_,e,hl,_⟩=>fitsL (by rw [e,List.length_map,hl];lia)) ?_ ?_
  ·rintro j ys H7 R hj ⟨ss,s7,rfl,hl,hs⟩ kR
   have c2:∀m:Nat,m<6→((Str.ofString "c")++(Str.ofString (toString (0+(m:Int))))).length≤2:=by decide +kernel
   have c1:∀m:Nat,m<6→(Str.ofString "c").length+(Str.ofString (toString (0+(m:Int)))).length≤100:=by decide +kernel
   have h1:=c1 j (by lia)
   refine⟨_,rfl,log2_small (by lia),_,_,rfl,rfl,by rw [sizeLine_eq];lia,(show 5≤sizeLine by decide),fun p gp=>?_⟩
   refine⟨a,ns,_,rfl,((s5.trans s6).trans (s7.trans (Same.new gp))).seq S,fun num hnum=>?_⟩
   obtain ⟨z,hz,y,rfl,hy⟩:=pick5J (a:=V.str (Str.ofString "")) (b:=V.str (Str.ofString "a")) (c:=V.str (Str.ofString "b")) (d:=V.str (Str.ofString "ab")) (e:=V.str ((Str.ofString "c")++(Str.ofString (toString (0+(j:Int)))))) (i:=num % 5) (Int.emod_nonneg _ (by decide)) (Int.emod_lt_of_pos _ (by decide)) (R:=fun z=>∃y:Str,z=V.str y∧y.length≤2) ⟨_,rfl,by decide⟩ ⟨_,rfl,by decide⟩ ⟨_,rfl,by decide⟩ ⟨_,rfl,by decide⟩ ⟨_,rfl,c2 j (by lia)⟩
   refine⟨(show (0:Int)<5 by decide),p,_,_,_,rfl,rfl,SqL.of upd_same,hz,kR _ _ ⟨ss++[y],s7.trans (Same.new gp),by rw [List.map_append];rfl,by rw [List.length_append,hl];rfl,fun s hs'=>(List.mem_append.mp hs').elim (hs s) fun h=>by rw [List.mem_singleton.mp h];exact hy⟩⟩
  rintro ys H7 ⟨ss,s7,rfl,hsl,hs2⟩ tl gt
  have s8:=s7.trans (Same.new (o:=.lst (ss.map V.str)) gt)
  have ht8:(upd H7 tl (.lst (ss.map V.str))) tl=some (.lst (ss.map V.str)):=upd_same
  generalize upd H7 tl (.lst (ss.map V.str))=H8 at s8 ht8 ⊢
  refine⟨_,_,_,_,rfl,rfl,SqT.of (s8 _ _ nt6.net),rfl,_,rfl,by exact Int.natCast_nonneg _,by lia,?_⟩
  rw [Int.toNat_natCast]
  refine comp_range (lo:=0) (n:=N.w) (Iv_num H8) ⟨[],Same.refl H8,rfl,rfl⟩ (fun j ys H9 hj ⟨xs,_,e,hl⟩=>fitsL (by rw [e,List.length_map,hl];lia)) ?_ ?_
  ·rintro j ys H9 R hj ⟨xs,s9,rfl,hl⟩ kR
   exact⟨a,ns,_,rfl,(((s5.trans s6).trans s8).trans s9).seq S,fun num hnum=>⟨(show (0:Int)<9 by decide),kR _ _ ⟨xs++[num % 9 - 4],s9,by rw [List.map_append];rfl,by rw [List.length_append,hl];rfl⟩⟩⟩
  rintro ys H9 ⟨ms,s9,rfl,hml⟩ nl gn
  have s10:=s9.trans (Same.new (o:=.lst (ms.map V.int)) gn)
  have B0:BsJ K PT lp a ns n sa oa rs N wl ts tl nl ss ms (upd H9 nl (.lst (ms.map V.int))):=⟨((s5.trans s6).trans (s8.trans s10)).seq S,hlam.same ((s5.trans s6).trans (s8.trans s10)),(nt6.mono s8).mono s10,s10 _ _ (s8 _ _ hwl),(hts.mono s8).mono s10,s10 _ _ ht8,upd_same⟩
  generalize upd H9 nl (.lst (ms.map V.int))=H10 at B0 ⊢
  clear s10 s9 gn s8 ht8 gt s7 nt6 hwl hts s6 nt s5 S hlam
  have thT:∀v∈ss.map V.str,Thing v:=fun v hv=>by obtain ⟨s,hs,rfl⟩:=List.mem_map.mp hv;exact .inl ⟨s,rfl,hs2 s hs⟩
  have thI:∀v∈ms.map V.int,Thing v:=fun v hv=>by obtain ⟨s,hs,rfl⟩:=List.mem_map.mp hv;exact .inr ⟨s,rfl⟩
  have ofT:∀v∈ss.map V.str,isOf kAny v=true:=fun v hv=>by obtain ⟨s,hs,rfl⟩:=List.mem_map.mp hv;simp [isOf]
  have ofI:∀x,x≠kAny→∀v∈ms.map V.int,isOf x v=true:=fun x hx v hv=>by obtain ⟨s,hs,rfl⟩:=List.mem_map.mp hv;simp [isOf,hx]
  refine⟨(show 3≤sizeLine by decide),fun tp gp=>?_⟩
  refine⟨tp,rfl,⟨_,SqT.of upd_same⟩,for_tup (K:=K) (a:=tp) (xs:=[.str kAny,.str kCom,.str kGre]) (Iv_kd K PT lp a ns n sa oa rs N wl ts tl nl ss ms tp) ⟨none,none,none,none,rfl,B0.same (Same.new gp),upd_same⟩ (fun j σ2 H2 _ ⟨_,_,_,_,_,_,h⟩=>SqT.of h) ?_ ?_⟩
  ·rintro j y σ2 H2 hy ⟨v5,v6,v7,v8,rfl,B,htp⟩
   obtain ⟨x,rfl,hx⟩:∃x:Str,y=.str x∧x∈kinds:=by
    have:=List.mem_of_getElem? hy
    simp only [List.mem_cons,List.not_mem_nil,or_false] at this
    rcases this with rfl|rfl|rfl
    ·exact⟨_,rfl,by simp [kinds]⟩
    ·exact⟨_,rfl,by simp [kinds]⟩
    ·exact⟨_,rfl,by simp [kinds]⟩
   refine seq_ifvar (c:=V.str x=V.str kAny) rfl rfl (fun Q h=>h) fun v hv=>?_
   obtain ⟨rl,xs,rfl,hrl,hxl,hth,hof⟩:∃rl xs,v=.ref rl∧H2 rl=some (.lst xs)∧xs.length=N.w∧(∀v∈xs,Thing v)∧(∀v∈xs,isOf x v=true):=by
    rcases hv with ⟨hc,rfl⟩|⟨hc,rfl⟩
    ·obtain rfl:=V.str.inj hc
     exact⟨tl,_,rfl,B.ht,by rw [List.length_map];exact hsl,thT,ofT⟩
    ·exact⟨nl,_,rfl,B.hm,by rw [List.length_map];exact hml,thI,ofI x (fun z=>hc (by rw [z]))⟩
   refine⟨n,sa,oa,wl,rl,rs,ts,N,x,xs,rfl,B.nt,hN,hst,B.hw,B.st,hx,hrl,hxl,hth,hof,fun H3 s3=>?_⟩
   have B3:=B.same s3
   have hrl3:=s3 _ _ hrl
   have htp3:=s3 _ _ htp
   clear hrl htp s3 B
   have hrow:=rowOk_of hth hof
   have hxne:xs≠[]:=fun z=>by rw [z] at hxl;simp at hxl;lia
   refine⟨true,rfl,?_⟩
   refine⟨_,_,_,_,rfl,rfl,SqT.of B3.nt.net,rfl,_,rfl,by exact Int.natCast_nonneg _,by lia,?_⟩
   rw [Int.toNat_natCast]
   refine comp_rangeIf (lo:=0) (n:=N.w) (Iv_bad x N H3) ⟨Same.refl H3,rfl⟩ (fun i ys H4 hi ⟨_,e⟩=>fitsL (by rw [e,wordV,List.length_map];have:=bad_len (x:=x) (N:=N) (i:=i);lia)) ?_ ?_
   ·rintro i ys H4 R R0 hi ⟨s4,rfl⟩ kR kR0
    rw [show (0+(i:Int))=(i:Int) from Int.zero_add _]
    have B4:=B3.same s4
    obtain ⟨o,ho⟩:∃o,N.ou[i]? = some o:=⟨_,List.getElem?_eq_getElem (by have:=hN.ol;lia)⟩
    have hoN:=hN.ob o (List.mem_of_getElem? ho)
    have hod:N.ou.getD i 0=o:=by rw [List.getD_eq_getElem?_getD,ho];rfl
    obtain ⟨t,ht1,ht2⟩:=word_at B4.st hoN
    refine⟨_,_,_,_,rfl,rfl,SqT.of B4.nt.net,rfl,oa,_,_,_,rfl,rfl,SqL.of B4.nt.ots,atI_nat (v:=.int (o:Nat)) (by rw [outs_nats,List.getElem?_map,ho];rfl),wl,_,_,_,rfl,rfl,SqL.of B4.hw,atI_nat ht1,x,t,N.words.getD o [],i,rfl,hx,ht2,(fun j hj=>by have:=word_lt hN o hoN j hj;lia),by lia,fun H5 b s5 hb=>?_⟩
    have hd:dueK x N i↔dueB x (N.words.getD o []) i:=by unfold dueK;rw [hod]
    refine iteN (fun h=>?_) (fun h=>?_)
    ·refine kR _ _ ⟨s4.trans s5,?_⟩
     rw [bad_no (fun z=>by rw [hb.mpr (hd.mp z)] at h;cases h),wordV,wordV,List.map_append]
     rfl
    ·exact kR0 _ ⟨s4.trans s5,by rw [bad_yes (hd.mpr (hb.mp h))]⟩
   rintro ys H4 ⟨s4,rfl⟩ bl gb
   have B5:=(B3.same s4).same (Same.new (o:=.lst (wordV (badL x N N.w))) gb)
   have hrl5:=new_at (o:=.lst (wordV (badL x N N.w))) gb (s4 _ _ hrl3)
   have htp5:=new_at (o:=.lst (wordV (badL x N N.w))) gb (s4 _ _ htp3)
   have hbl5:(upd H4 bl (.lst (wordV (badL x N N.w)))) bl=some (.lst (wordV (badL x N N.w))):=upd_same
   generalize upd H4 bl (.lst (wordV (badL x N N.w)))=H5 at B5 hrl5 htp5 hbl5 ⊢
   clear hrl3 htp3 B3 gb s4
   refine⟨n,sa,oa,rs,N.w,N.steps,N.outs,x,rfl,hoL,B5.nt,(fun H' _ g=>absurd hN.good g),(fun _ _ _ h=>absurd hx h),(fun _ _=>B5.lam),fun N' hN' e1 e2 e3 _=>?_⟩
   obtain rfl:=net_inj e1 e2 e3
   refine⟨fun H6 l sB lam hR hl=>?_,fun H6 l r k' o sB lam hrt ho hwr hsh hl=>?_⟩
   ·have hbn:badL x N N.w=[]:=bad_nil (right_due hR (by rw [hN.ol];exact Nat.le_refl _))
    have B6:=B5.sameB sB lam
    have hrl6:=sB.lst B5.lam hrl5
    have hbl6:=sB.lst B5.lam hbl5
    have htp6:=(sB.toX B5.lam) _ _ (by intro ps z;cases z) htp5
    clear hrl5 hbl5 htp5 B5 sB lam
    refine⟨(show 0≤sizeLine by decide),fun q gq=>⟨dWord (badL x N N.w),dWord [],deep_word (new_at gq hbl6),deep_word upd_same,dp_word,?_⟩⟩
    rw [dWord_eq,hbn]
    refine⟨(show 1≤sizeLine by decide),fun q2 g2=>⟨dRight,dRight,deep_right (new_at g2 (new_at gq hl)),deep_right upd_same,dp_right,?_⟩⟩
    rw [eqB_refl]
    have sq:Same H6 (upd (upd H6 q (.lst [])) q2 (.tup [.str (Str.ofString "right")])):=(Same.new gq).trans (Same.new g2)
    generalize upd (upd H6 q (.lst [])) q2 (.tup [.str (Str.ofString "right")])=H7 at sq ⊢
    refine⟨n,sa,oa,rs,N.w,N.steps,N.outs,x,rl,xs,rfl,hoL,B6.nt.mono sq,sq _ _ hrl6,by lia,hth,fun H8 s8=>⟨fun g=>absurd hN.good g,fun _ h=>absurd hx h,fun N' hN' e1 e2 e3 _=>?_⟩⟩
    obtain rfl:=net_inj e1 e2 e3
    refine⟨fun h=>absurd ⟨hxl,hof⟩ h,hst,fun p _ hp=>?_⟩
    refine⟨x,rl,xs,rfl,s8 _ _ (sq _ _ hrl6),hxne,by lia,hx,hrow,fun H9 p2 s9 hp2=>?_⟩
    have ev:(N.ou.map fun o=>valW x xs (N.words.getD o []))=(List.range xs.length).map fun k=>valW x xs (List.range (k+1)):=by
     refine List.ext_getElem? fun i=>?_
     rw [List.getElem?_map,List.getElem?_map]
     by_cases hi:i<N.ou.length
     ·rw [List.getElem?_range (by rw [hxl,←hN.ol];exact hi),List.getElem?_eq_getElem hi]
      exact congrArg some (val_due hx (word_ne hN (hN.ob _ (List.getElem_mem hi))) (hR i _ (by rw [←hN.ol];exact hi) (List.getElem?_eq_getElem hi)))
     ·rw [List.getElem?_eq_none (by lia),List.getElem?_eq_none (by rw [List.length_range];have:=hN.ol;lia)]
      rfl
    rw [ev] at hp
    refine⟨dVals x xs ((List.range xs.length).map fun k=>List.range (k+1)),dVals x xs ((List.range xs.length).map fun k=>List.range (k+1)),deep_vals (by rw [s9 _ _ hp,List.map_map];rfl),deep_vals (by rw [hp2,List.map_map];rfl),dp_vals,?_⟩
    rw [eqB_refl]
    have s79:=(sq.trans s8).trans s9
    exact⟨_,_,_,_,rfl,B6.same s79,s79 _ _ htp6⟩
   ·have B6:=B5.sameB sB lam
    have hbl6:=sB.lst B5.lam hbl5
    have htp6:=(sB.toX B5.lam) _ _ (by intro ps z;cases z) htp5
    clear hrl5 hbl5 htp5 B5 sB lam
    have hk:k'<N.w:=by have:=(List.getElem?_eq_some_iff.mp ho).1;rw [hN.ol] at this;exact this
    have hoN:=hN.ob o (List.mem_of_getElem? ho)
    have hod:N.ou.getD k' 0=o:=by rw [List.getD_eq_getElem?_getD,ho];rfl
    obtain ⟨rest,hbd⟩:=bad_first (x:=x) (N:=N) hk (right_due hrt (by rw [hN.ol];lia)) (by unfold dueK;rw [hod];exact hwr)
    rw [hbd] at hbl6
    refine⟨(show 0≤sizeLine by decide),fun q gq=>⟨dWord (k'::rest),dWord [],deep_word (new_at gq hbl6),deep_word upd_same,dp_word,?_⟩⟩
    rw [dWord_eq]
    have sq:Same H6 (upd H6 q (.lst [])):=Same.new gq
    generalize upd H6 q (.lst [])=H7 at sq ⊢
    have hl7:=sq _ _ hl
    have hbl7:=sq _ _ hbl6
    have B7:=B6.same sq
    have htp7:=sq _ _ htp6
    obtain ⟨ys,hys,hyl,hyt,hyo,hyne⟩:=show_val hN hx hk hoN (hsh.mono sq)
    clear hl hbl6 B6 htp6 hsh sq gq
    have hb0:atI (wordV (k'::rest)) 0=some (V.int (k':Nat)):=atI_nat (j:=0) rfl
    refine⟨l,_,rfl,.inr (SqT.of hl7),?_⟩
    refine⟨l,_,rfl,SqT.of hl7,(fun z=>absurd z.2 (show ¬((2:Nat)=3) by decide)),fun q2 g2=>⟨bl,_,_,_,rfl,rfl,SqL.of (new_at g2 hbl7),hb0,(show 2≤sizeLine by decide),fun q3 g3=>⟨dWk k',q2,q3,rfl,rfl,deep_wk (new_at g3 upd_same),deep_wk upd_same,dp_wk,?_⟩⟩⟩
    have sq:Same H7 (upd (upd H7 q2 (.tup (cutV [V.str (Str.ofString "wrong"),V.int (k':Nat),V.ref r] none (some 2)))) q3 (.tup [.str (Str.ofString "wrong"),.int (k':Nat)])):=(Same.new g2).trans (Same.new g3)
    generalize upd (upd H7 q2 (.tup (cutV [V.str (Str.ofString "wrong"),V.int (k':Nat),V.ref r] none (some 2)))) q3 (.tup [.str (Str.ofString "wrong"),.int (k':Nat)])=H8 at sq ⊢
    refine⟨l,_,_,_,rfl,rfl,SqT.of (sq _ _ hl7),rfl,⟨(k':Int),rfl,⟨true,rfl,?_⟩⟩⟩
    refine⟨l,_,_,_,rfl,rfl,SqT.of (sq _ _ hl7),rfl,n,sa,oa,rs,N.w,N.steps,N.outs,x,r,ys,rfl,hoL,B7.nt.mono sq,sq _ _ hys,by lia,hyt,fun H9 s9=>⟨fun g=>absurd hN.good g,fun _ h=>absurd hx h,fun N' hN' e1 e2 e3 _=>?_⟩⟩
    obtain rfl:=net_inj e1 e2 e3
    refine⟨fun h=>absurd ⟨hyl,hyo⟩ h,hst,fun p _ hp=>?_⟩
    have s79:=sq.trans s9
    refine⟨bl,_,_,_,rfl,rfl,SqL.of (s79 _ _ hbl7),hb0,p,_,_,_,rfl,rfl,SqL.of hp,atI_nat (v:=valW x ys (N.words.getD o [])) (by rw [List.getElem?_map,ho];rfl),?_⟩
    refine⟨l,_,_,_,rfl,rfl,SqT.of (s79 _ _ hl7),rfl,x,r,ys,rfl,s79 _ _ hys,(fun z=>by rw [z] at hyl;simp at hyl;lia),by lia,hx,rowOk_of hyt hyo,fun H10 p2 s10 hp2=>?_⟩
    have s710:=s79.trans s10
    refine⟨bl,_,_,_,rfl,rfl,SqL.of (s710 _ _ hbl7),hb0,p2,_,_,_,rfl,rfl,SqL.of hp2,atI_nat (v:=valW x ys (List.range (k'+1))) (by rw [List.getElem?_map,List.getElem?_range (by lia)];rfl),?_⟩
    by_cases ha:x=kAny
    ·have e1:∀w,valW x ys w=.str (textW (strAt ys) w):=fun w=>by unfold valW;rw [if_pos ha]
     rw [e1,e1] at hyne ⊢
     refine iteDF (c:=V.str _=V.str _) hyne ?_
     exact⟨_,_,_,_,rfl,B7.same s710,s710 _ _ htp7⟩
    ·have e1:∀w,valW x ys w=.int (foldW (opK x) (intAt ys) w):=fun w=>by unfold valW;rw [if_neg ha]
     rw [e1,e1] at hyne ⊢
     refine iteDF (c:=V.int _=V.int _) hyne ?_
     exact⟨_,_,_,_,rfl,B7.same s710,s710 _ _ htp7⟩
  ·rintro σ2 H2 ⟨v5,v6,v7,v8,rfl,B,htp⟩
   clear B0 gp htp
   refine⟨_,rfl,by decide,by decide,?_⟩
   refine comp_range (lo:=0) (n:=2) (Iv_kw H2) ⟨Same.refl H2,rfl⟩ (fun j ys H3 hj ⟨_,e⟩=>fitsL (by rw [e,List.length_map,List.length_replicate];lia)) ?_ ?_
   ·rintro j ys H3 R hj ⟨s3,rfl⟩ kR
    refine⟨(show 0≤sizeLine by decide),fun p gp=>⟨_,n,sa,oa,rs,N.w,N.steps,N.outs,Str.ofString "some", p,[],_,rfl,by lia,hoL,(B.same (s3.trans (Same.new gp))).nt,upd_same,by decide,(fun v hv=>by cases hv),.inr (.inl ⟨hN.good,by decide,rfl⟩),fun H4 s4=>kR _ _ ⟨(s3.trans (Same.new gp)).trans s4,?_⟩⟩⟩
    rw [List.replicate_succ',List.map_append]
    rfl
   rintro ys H3 ⟨s3,rfl⟩ kl gk
   refine⟨(show 1≤sizeLine by decide),fun r1 g1=>⟨r1,2,[.str (Str.ofString "kind")],rfl,rfl,upd_same,by decide,by decide,fits (show 2≤10000 by decide),fun r2 g2=>⟨dStrs (List.replicate 2 (Str.ofString "kind")),kl,r2,rfl,rfl,deep_strs (new_at g2 (new_at g1 upd_same)),deep_strs (by rw [upd_same];rfl),dp_strs,?_⟩⟩⟩
   have sA:=fun o3:HO=>((s3.trans (Same.new gk)).trans (Same.new g1)).trans (Same.new (o:=o3) g2)
   refine⟨(show 0≤sizeLine by decide),fun p1 h1=>⟨(show 0≤sizeLine by decide),fun p2 h2=>⟨(show 3≤sizeLine by decide),fun p3 h3=>⟨(show 0≤sizeLine by decide),fun p4 h4=>⟨0,p3,p1,p2,[],0,[],[],Str.ofString "some", p4,[],Str.ofString "net", rfl,.inl rfl,by decide,⟨new_at h4 upd_same,new_at h4 (new_at h3 (new_at h2 upd_same)),.nil,new_at h4 (new_at h3 upd_same)⟩,upd_same,by decide,(fun v hv=>by cases hv),.inl ⟨fun g=>absurd g.lo (by decide),rfl⟩,fun H4 s4=>?_⟩⟩⟩⟩⟩
   replace B:=B.same ((((((sA _).trans (Same.new h1)).trans (Same.new h2)).trans (Same.new h3)).trans (Same.new h4)).trans s4)
   clear sA s4 h1 h2 h3 h4 g1 g2 gk s3
   refine⟨(show 0≤sizeLine by decide),fun p1 h1=>⟨(show 1≤sizeLine by decide),fun p2 h2=>⟨(show 3≤sizeLine by decide),fun p3 h3=>⟨(show 0≤sizeLine by decide),fun p4 h4=>⟨1,p3,p1,p2,[],1,[],[1],kAny,p4,[],Str.ofString "net", rfl,.inr rfl,by decide,⟨new_at h4 upd_same,new_at h4 (new_at h3 (new_at h2 upd_same)),.nil,new_at h4 (new_at h3 upd_same)⟩,upd_same,by decide,(fun v hv=>by cases hv),.inl ⟨fun g=>absurd (g.ou 1 (by simp)).2 (by decide),rfl⟩,fun H5 s5=>?_⟩⟩⟩⟩⟩
   replace B:=B.same (((((Same.new h1).trans (Same.new h2)).trans (Same.new h3)).trans (Same.new h4)).trans s5)
   clear s5 h1 h2 h3 h4
   have hst20:N.steps.length≤20:=by rw [steps_len];exact hst
   have kA:kAny∈kinds:=by simp [kinds]
   have kC:kCom∈kinds:=by simp [kinds]
   have kG:kGre∈kinds:=by simp [kinds]
   have nA:¬(((ms.map V.int).length:Int)=N.w∧∀v∈ms.map V.int,isOf kAny v=true):=fun z=>by
    obtain ⟨m,hm⟩:∃m,m∈ms:=List.exists_mem_of_ne_nil _ (fun e=>by rw [e] at hml;simp at hml;lia)
    have:=z.2 _ (List.mem_map_of_mem hm)
    simp [isOf] at this
   have nG:¬(((ss.map V.str).length:Int)=N.w∧∀v∈ss.map V.str,isOf kGre v=true):=fun z=>by
    obtain ⟨m,hm⟩:∃m,m∈ss:=List.exists_mem_of_ne_nil _ (fun e=>by rw [e] at hsl;simp at hsl;lia)
    have:=z.2 _ (List.mem_map_of_mem hm)
    rw [isOf,decide_eq_true_eq] at this
    exact any_gre this.symm
   refine⟨1,n,sa,oa,rs,N.w,N.steps,N.outs,kAny,nl,_,Str.ofString "row", rfl,.inr rfl,hoL,B.nt,B.hm,by rw [List.length_map];lia,thI,.inr (.inr ⟨hN.good,by decide,hst20,kA,nA,rfl⟩),fun H6 s6=>?_⟩
   replace B:=B.same s6
   clear s6
   refine⟨1,n,sa,oa,rs,N.w,N.steps,N.outs,kGre,tl,_,Str.ofString "row", rfl,.inr rfl,hoL,B.nt,B.ht,by rw [List.length_map];lia,thT,.inr (.inr ⟨hN.good,by decide,hst20,kG,nG,rfl⟩),fun H7 s7=>?_⟩
   replace B:=B.same s7
   clear s7
   refine⟨(show 2≤sizeLine by decide),fun wr gw=>?_⟩
   have s78:=Same.new (o:=.lst [.str (Str.ofString "row"),.str (Str.ofString "row")]) gw
   have hwr:(upd H7 wr (.lst [.str (Str.ofString "row"),.str (Str.ofString "row")])) wr=some (.lst [.str (Str.ofString "row"),.str (Str.ofString "row")]):=upd_same
   generalize upd H7 wr (.lst [.str (Str.ofString "row"),.str (Str.ofString "row")])=H8 at s78 hwr ⊢
   have B7:=B
   replace B:=B.same s78
   refine⟨.inl ⟨rfl,_,SqL.of hwr⟩,?_⟩
   refine⟨(show 1≤sizeLine by decide),fun t1 g1=>⟨tl,t1,_,_,rfl,rfl,new_at g1 B.ht,upd_same,fits (by simp;lia),fun t2 g2=>?_⟩⟩
   have thT2:∀v∈ss.map V.str++[V.str (Str.ofString "")],Thing v:=fun v hv=>(List.mem_append.mp hv).elim (thT v) fun h=>by rw [List.mem_singleton.mp h];exact .inl ⟨_,rfl,by decide⟩
   refine⟨1,n,sa,oa,rs,N.w,N.steps,N.outs,kAny,t2,_,Str.ofString "row", rfl,.inr rfl,hoL,((B.same (Same.new g1)).same (Same.new g2)).nt,upd_same,by rw [List.length_append,List.length_map];show _+1≤10000;lia,thT2,.inr (.inr ⟨hN.good,by decide,hst20,kA,(fun z=>by have:=z.1;rw [List.length_append,List.length_map,hsl] at this;simp at this;lia),rfl⟩),fun H9 s9=>?_⟩
   have s89:=((Same.new g1).trans (Same.new g2)).trans s9
   replace B:=B.same s89
   replace hwr:=s89 _ _ hwr
   refine⟨wr,_,_,rfl,rfl,hwr,fits (show 3≤10000 by decide),?_⟩
   have B9:=B7.same ((s78.trans s89).upd (o:=.lst ([.str (Str.ofString "row"),.str (Str.ofString "row")]++[.str (Str.ofString "row")])) gw)
   have hw9:(upd H9 wr (.lst ([.str (Str.ofString "row"),.str (Str.ofString "row")]++[.str (Str.ofString "row")]))) wr=some (.lst ((List.replicate 3 (Str.ofString "row")).map V.str)):=upd_same
   generalize upd H9 wr (.lst ([.str (Str.ofString "row"),.str (Str.ofString "row")]++[.str (Str.ofString "row")]))=H10 at B9 hw9 ⊢
   refine⟨nl,_,rfl,SqL.of B9.hm,fun c1 gc=>?_⟩
   rw [show cutV (ms.map V.int) (some 1) none=(ms.map V.int).drop 1 from cutL_drop _ 1]
   refine⟨1,n,sa,oa,rs,N.w,N.steps,N.outs,kCom,c1,_,Str.ofString "row", rfl,.inr rfl,hoL,(B9.same (Same.new gc)).nt,upd_same,by rw [List.length_drop,List.length_map];lia,(fun v hv=>thI v (List.mem_of_mem_drop hv)),.inr (.inr ⟨hN.good,by decide,hst20,kC,(fun z=>by have:=z.1;rw [List.length_drop,List.length_map,hml] at this;lia),rfl⟩),fun H11 s11=>?_⟩
   refine⟨(show 1≤sizeLine by decide),fun t3 g3=>⟨wr,t3,_,_,rfl,rfl,new_at g3 (s11 _ _ (new_at gc hw9)),upd_same,fits (show 4≤10000 by decide),fun t4 g4=>?_⟩⟩
   refine⟨(show 1≤sizeLine by decide),fun r1 gr1=>⟨r1,4,[.str (Str.ofString "row")],rfl,rfl,upd_same,by decide,by decide,fits (show 4≤10000 by decide),fun r2 gr2=>⟨dStrs (List.replicate 4 (Str.ofString "row")),t4,r2,rfl,rfl,deep_strs (new_at gr2 (new_at gr1 upd_same)),deep_strs (by rw [upd_same];rfl),dp_strs,k _⟩⟩⟩
end
end K10

namespace K10
open PySem L2 NM PyProof.Rows
section
variable {P:Program}{w:World}{K:PySem.W.Frag}{mg:Str→Option Value}{base:Heap}{CB CK CR CT CW CS DR DT FJ FG FS FA FE PT:Addr}
theorem ok_is_whole2 {f:Addr}{fd:FuncData}(F:Fun K "is_whole" "is_whole" s_is_whole f fd) (T:Txt K mg CB CK CR CT CW CS DR DT FJ FG FS FA FE P w)  : FnOk P w K mg base (CX1 P w) 1 f fd ["value"] (spWhole2):=by
 refine F.ok1 sc_is_whole (fun vs H Q E h=>?_) (fun cdv A outer s H vs Q E hr h=>?_)
 ·obtain ⟨v,rfl,hv,q⟩:=h;rfl
 ·obtain ⟨v,rfl,hv,q⟩:=h
  have nd:=sc_is_whole.nd
  refine⟨_,(pss_one (ps_ret (pe_and (pe_callB call_isi rfl T.z_isinstance boot_isinstance (pa_cons (pv 0) (pa_cons (pe_bltn (v:=.ty "int") rfl T.z_int boot_int rfl) pa_nil))) (pe_one (pe_not (pe_callB call_isi rfl T.z_isinstance boot_isinstance (pa_cons (pv 0) (pa_cons (pe_bltn (v:=.ty "bool") rfl T.z_bool boot_bool rfl) pa_nil)))))))),?_⟩
  skip
  rcases hv with ⟨x,rfl,_⟩|⟨i,rfl⟩
  ·exact⟨_,_,_,_,false,rfl,rfl,.str x,rfl,q⟩
  ·refine⟨_,_,_,_,true,rfl,rfl,.int i,rfl,?_⟩
   exact⟨_,_,_,_,false,rfl,rfl,.int i,(by kernel_rfl),q⟩
end
end K10

namespace K10
open PySem L2 NM PyProof.Rows
structure Kfs (K:PySem.W.Frag) (cT:Addr):Prop where
 fis_whole:KFn K "is_whole" s_is_whole
 fis_within:KFn K "is_within" s_is_within
 fis_node:KFn K "is_node" s_is_node
 fis_step:KFn K "is_step" s_is_step
 flook_net:KFn K "look_net" s_look_net
 flook_wide:KFn K "look_wide" s_look_wide
 flook_steps:KFn K "look_steps" s_look_steps
 flook_outs:KFn K "look_outs" s_look_outs
 fused_nodes:KFn K "used_nodes" s_used_nodes
 fouts_by:KFn K "outs_by" s_outs_by
 fjoined:KFn K "joined" s_joined
 fgreater:KFn K "greater" s_greater
 fspan_joined:KFn K "span_joined" s_span_joined
 fapart_joined:KFn K "apart_joined" s_apart_joined
 feither_joined:KFn K "either_joined" s_either_joined
 flook_kind:KFn K "look_kind" s_look_kind
 fis_thing:KFn K "is_thing" s_is_thing
 flook_row:KFn K "look_row" s_look_row
 frun:KFn K "run" s_run
 fplain:KFn K "plain" s_plain
 fin_line:KFn K "in_line" s_in_line
 fjudged:KFn K "judged" s_judged
 ffirst_traces:KFn K "first_traces" s_first_traces
 fshowing_row:KFn K "showing_row" s_showing_row
 falone:KFn K "alone" s_alone
 fshowing_numbers:KFn K "showing_numbers" s_showing_numbers
 fshowing_texts:KFnC K "showing_texts" s_showing_texts cT
 fturned_pairs:KFn K "turned_pairs" s_turned_pairs
 ftold_order:KFn K "told_order" s_told_order
 f_law_cell:KFn K "_law_cell" s__law_cell
 f_law_mix:KFn K "_law_mix" s__law_mix
 f_law_whole:KFn K "_law_whole" s__law_whole
 f_law_net:KFn K "_law_net" s__law_net
 f_law_cut:KFn K "_law_cut" s__law_cut
 f_law_right:KFn K "_law_right" s__law_right
 f_law_bent:KFn K "_law_bent" s__law_bent
 f_law_words:KFn K "_law_words" s__law_words
 f_law_refusal:KFn K "_law_refusal" s__law_refusal
 f_law_sum:KFn K "_law_sum" s__law_sum
 f_law_is_due:KFn K "_law_is_due" s__law_is_due
 f_law_told:KFn K "_law_told" s__law_told
 f_law_runs:KFn K "_law_runs" s__law_runs
 flaw:KFn K "law" s_law
theorem txt_mk {l:PySem.W.OpenLaw}{w:World}{K:PySem.W.Frag}{h:Heap}{mg:Str→Option Value}{CB CK CR CT CW CS DR DT FJ FG FS FA FE:Addr}(X:K.In h) (G:h.Ns mainGlobals mg)
  {tg_MOST_THINGS:Tok}
  {tg_MOST_STEPS:Tok}
  {t1k_RULES t2k_RULES t3k_RULES:Tok}{nk_RULES:Nat}
  {t1k_TRACES t2k_TRACES t3k_TRACES:Tok}{nk_TRACES:Nat}
  (ag_BadNet:PySem.W.nsIn K mainGlobals "BadNet" = some (some (.ref CB)))
  (ag_BadKind:PySem.W.nsIn K mainGlobals "BadKind" = some (some (.ref CK)))
  (ag_BadRow:PySem.W.nsIn K mainGlobals "BadRow" = some (some (.ref CR)))
  (ag_BadText:PySem.W.nsIn K mainGlobals "BadText" = some (some (.ref CT)))
  (ag_Wrong:PySem.W.nsIn K mainGlobals "Wrong" = some (some (.ref CW)))
  (ag_SumError:PySem.W.nsIn K mainGlobals "SumError" = some (some (.ref CS)))
  (ag_RULES:PySem.W.nsIn K mainGlobals "RULES" = some (some (.ref DR)))
  (ag_TRACES:PySem.W.nsIn K mainGlobals "TRACES" = some (some (.ref DT)))
  (ag_joined:PySem.W.nsIn K mainGlobals "joined" = some (some (.ref FJ)))
  (ag_greater:PySem.W.nsIn K mainGlobals "greater" = some (some (.ref FG)))
  (ag_apart_joined:PySem.W.nsIn K mainGlobals "apart_joined" = some (some (.ref FA)))
  (ag_either_joined:PySem.W.nsIn K mainGlobals "either_joined" = some (some (.ref FE)))
  (ag_span_joined:PySem.W.nsIn K mainGlobals "span_joined" = some (some (.ref FS)))
  (hx_BadNet:ExK K CB)
  (hx_BadKind:ExK K CK)
  (hx_BadRow:ExK K CR)
  (hq_BadNet0:PySem.W.findIn K (.ref CB) "__getattribute__" = some (some (.builtin "BaseException.__getattribute__")))
  (hq_BadNet1:PySem.W.findIn K (.ref CB) "__getattr__" = some none)
  (hq_BadNet2:PySem.W.findIn K (.ref CB) "__class__" = some (some (.builtin "object.__class__")))
  (hq_BadNet3:PySem.W.subIn K (.ref CB) (.type "object")=some true)
  (hq_BadNet4:PySem.W.subIn K (.ref CB) (.type "BaseException")=some true)
  (hq_BadNet5:PySem.W.kitCls K (.ref CB) (.ref CB)=some true)
  (hq_BadNetk0:PySem.W.kitOne K (.ref CB) (.ref CK)=some false)
  (hq_BadNetk1:PySem.W.kitOne K (.ref CB) (.ref CB)=some true)
  (hq_BadNetk2:PySem.W.kitOne K (.ref CB) (.ref CR)=some false)
  (hq_BadNetk3:PySem.W.kitOne K (.ref CB) (.ref CT)=some false)
  (hq_BadNetk4:PySem.W.kitOne K (.ref CB) (.ref CW)=some false)
  (hq_BadNetkv:PySem.W.kitOne K (.ref CB) (.type "ValueError")=some true)
  (hq_BadRow0:PySem.W.findIn K (.ref CR) "__getattribute__" = some (some (.builtin "BaseException.__getattribute__")))
  (hq_BadRow1:PySem.W.findIn K (.ref CR) "__getattr__" = some none)
  (hq_BadRow2:PySem.W.findIn K (.ref CR) "__class__" = some (some (.builtin "object.__class__")))
  (hq_BadRow3:PySem.W.subIn K (.ref CR) (.type "object")=some true)
  (hq_BadRow4:PySem.W.subIn K (.ref CR) (.type "BaseException")=some true)
  (hq_BadRow5:PySem.W.kitCls K (.ref CR) (.ref CR)=some true)
  (hq_BadRowk0:PySem.W.kitOne K (.ref CR) (.ref CK)=some false)
  (hq_BadRowk1:PySem.W.kitOne K (.ref CR) (.ref CB)=some false)
  (hq_BadRowk2:PySem.W.kitOne K (.ref CR) (.ref CR)=some true)
  (hq_BadRowk3:PySem.W.kitOne K (.ref CR) (.ref CT)=some false)
  (hq_BadRowk4:PySem.W.kitOne K (.ref CR) (.ref CW)=some false)
  (hq_BadRowkv:PySem.W.kitOne K (.ref CR) (.type "ValueError")=some true)
  (hq_BadKind0:PySem.W.findIn K (.ref CK) "__getattribute__" = some (some (.builtin "BaseException.__getattribute__")))
  (hq_BadKind1:PySem.W.findIn K (.ref CK) "__getattr__" = some none)
  (hq_BadKind2:PySem.W.findIn K (.ref CK) "__class__" = some (some (.builtin "object.__class__")))
  (hq_BadKind3:PySem.W.subIn K (.ref CK) (.type "object")=some true)
  (hq_BadKind4:PySem.W.subIn K (.ref CK) (.type "BaseException")=some true)
  (hq_BadKind5:PySem.W.kitCls K (.ref CK) (.ref CK)=some true)
  (hq_BadKindk0:PySem.W.kitOne K (.ref CK) (.ref CK)=some true)
  (hq_BadKindk1:PySem.W.kitOne K (.ref CK) (.ref CB)=some false)
  (hq_BadKindk2:PySem.W.kitOne K (.ref CK) (.ref CR)=some false)
  (hq_BadKindk3:PySem.W.kitOne K (.ref CK) (.ref CT)=some false)
  (hq_BadKindk4:PySem.W.kitOne K (.ref CK) (.ref CW)=some false)
  (hq_BadKindkv:PySem.W.kitOne K (.ref CK) (.type "ValueError")=some true)
  (hm_BadNet:PySem.W.exmOne K (.ref CB) (.ref CS)=some true)
  (hm_BadRow:PySem.W.exmOne K (.ref CR) (.ref CS)=some true)
  (hm_BadKind:PySem.W.exmOne K (.ref CK) (.ref CS)=some true)
  (hz_ValueError:PySem.W.nsIn K mainGlobals "ValueError" = some none)
  (hg_MOST_THINGS:PySem.W.nsIn K mainGlobals "MOST_THINGS" = some (some (.int 64 tg_MOST_THINGS)))
  (hg_MOST_STEPS:PySem.W.nsIn K mainGlobals "MOST_STEPS" = some (some (.int 500 tg_MOST_STEPS)))
  (hk_RULES:K.lookup DR=some { cls:=.type "dict", data:=.dict #[{ hash:=PyData.keyHash w.params "any", key:=.str "any" t1k_RULES,val:=.ref FJ },{ hash:=PyData.keyHash w.params "commuting", key:=.str "commuting" t2k_RULES,val:=.ref FJ },{ hash:=PyData.keyHash w.params "greatest", key:=.str "greatest" t3k_RULES,val:=.ref FG }] nk_RULES })
  (sk_RULES:(DR==sysModules)=false)
  (hk_TRACES:K.lookup DT=some { cls:=.type "dict", data:=.dict #[{ hash:=PyData.keyHash w.params "any", key:=.str "any" t1k_TRACES,val:=.ref FS },{ hash:=PyData.keyHash w.params "commuting", key:=.str "commuting" t2k_TRACES,val:=.ref FA },{ hash:=PyData.keyHash w.params "greatest", key:=.str "greatest" t3k_TRACES,val:=.ref FE }] nk_TRACES })
  (sk_TRACES:(DT==sysModules)=false)
  (hz_str:PySem.W.nsIn K mainGlobals "str" = some none)
  (hz_sorted:PySem.W.nsIn K mainGlobals "sorted" = some none)
  (hz_set:PySem.W.nsIn K mainGlobals "set" = some none)
  (hz_isinstance:PySem.W.nsIn K mainGlobals "isinstance" = some none)
  (hz_int:PySem.W.nsIn K mainGlobals "int" = some none)
  (hz_bool:PySem.W.nsIn K mainGlobals "bool" = some none)
  (hz_tuple:PySem.W.nsIn K mainGlobals "tuple" = some none)
  (hz_list:PySem.W.nsIn K mainGlobals "list" = some none)
  (hz_len:PySem.W.nsIn K mainGlobals "len" = some none)
  (hz_max:PySem.W.nsIn K mainGlobals "max" = some none)
  (hz_min:PySem.W.nsIn K mainGlobals "min" = some none)
  (hz_sum:PySem.W.nsIn K mainGlobals "sum" = some none)
  (hz_zip:PySem.W.nsIn K mainGlobals "zip" = some none)
  (hz_range:PySem.W.nsIn K mainGlobals "range" = some none)
  (hz_enumerate:PySem.W.nsIn K mainGlobals "enumerate" = some none):Txt K mg CB CK CR CT CW CS DR DT FJ FG FS FA FE l.prog w:=⟨⟨PySem.W.mg_of X G ag_BadNet,hx_BadNet⟩,
  PySem.W.mg_of X G ag_BadNet,
  ⟨PySem.W.mg_of X G ag_BadKind,hx_BadKind⟩,
  PySem.W.mg_of X G ag_BadKind,
  ⟨PySem.W.mg_of X G ag_BadRow,hx_BadRow⟩,
  ⟨⟨hq_BadNet0,hq_BadNet1,hq_BadNet2,hq_BadNet3,hq_BadNet4,hq_BadNet5⟩,hq_BadNetk0,hq_BadNetk1,hq_BadNetk2,hq_BadNetk3,hq_BadNetk4,hq_BadNetkv⟩,
  ⟨⟨hq_BadRow0,hq_BadRow1,hq_BadRow2,hq_BadRow3,hq_BadRow4,hq_BadRow5⟩,hq_BadRowk0,hq_BadRowk1,hq_BadRowk2,hq_BadRowk3,hq_BadRowk4,hq_BadRowkv⟩,
  ⟨⟨hq_BadKind0,hq_BadKind1,hq_BadKind2,hq_BadKind3,hq_BadKind4,hq_BadKind5⟩,hq_BadKindk0,hq_BadKindk1,hq_BadKindk2,hq_BadKindk3,hq_BadKindk4,hq_BadKindkv⟩,
  hm_BadNet,
  hm_BadRow,
  hm_BadKind,
  PySem.W.mg_of X G ag_BadRow,
  PySem.W.mg_of X G ag_BadText,
  PySem.W.mg_of X G ag_Wrong,
  PySem.W.mg_of X G ag_SumError,
  PySem.W.mg_none_of X G hz_ValueError,
  ⟨_,PySem.W.mg_of X G hg_MOST_THINGS⟩,
  ⟨_,PySem.W.mg_of X G hg_MOST_STEPS⟩,
  PySem.W.mg_of X G ag_RULES,
  kdict3 sk_RULES (by decide) (by decide) (by decide) hk_RULES,
  PySem.W.mg_of X G ag_TRACES,
  kdict3 sk_TRACES (by decide) (by decide) (by decide) hk_TRACES,
  PySem.W.mg_of X G ag_joined,
  PySem.W.mg_of X G ag_greater,
  PySem.W.mg_of X G ag_apart_joined,
  PySem.W.mg_of X G ag_either_joined,
  PySem.W.mg_none_of X G hz_str,
  PySem.W.mg_none_of X G hz_sorted,
  PySem.W.mg_none_of X G hz_set,
  PySem.W.mg_of X G ag_span_joined,
  PySem.W.mg_none_of X G hz_isinstance,
  PySem.W.mg_none_of X G hz_int,
  PySem.W.mg_none_of X G hz_bool,
  PySem.W.mg_none_of X G hz_tuple,
  PySem.W.mg_none_of X G hz_list,
  PySem.W.mg_none_of X G hz_len,
  PySem.W.mg_none_of X G hz_max,
  PySem.W.mg_none_of X G hz_min,
  PySem.W.mg_none_of X G hz_sum,
  PySem.W.mg_none_of X G hz_zip,
  PySem.W.mg_none_of X G hz_range,
  PySem.W.mg_none_of X G hz_enumerate⟩
structure Al (l:PySem.W.OpenLaw) (w:World) (K:PySem.W.Frag) (h:Heap) (mg:Str→Option Value) (base:Heap) (CB CK CR CT CW CS DR DT FJ FG FS FA FE cT PT:Addr):Prop where
 X:K.In h
 G:h.Ns mainGlobals mg
 T:Txt K mg CB CK CR CT CW CS DR DT FJ FG FS FA FE l.prog w
 F:Kfs K cT
 L:Lt K mg base cT PT
section
variable {l:PySem.W.OpenLaw}{w:World}{K:PySem.W.Frag}{h:Heap}{mg:Str→Option Value}{base:Heap}{CB CK CR CT CW CS DR DT FJ FG FS FA FE cT PT:Addr}(A:Al l w K h mg base CB CK CR CT CW CS DR DT FJ FG FS FA FE cT PT)
include A
theorem dm_is_whole:Df l.prog w K mg base "is_whole" 1 ["value"] (spWhole):=KFn.df A.X A.G A.F.fis_whole (fun _ _ _ _ _ _ _ hl=>len1 (C:=BindQ _ _ _ _ _ _ _ _ _) hl fun _=>rfl) fun _ _ F _ _ _=>ok_is_whole F A.T
theorem dm_is_whole2:Df l.prog w K mg base "is_whole" 1 ["value"] (spWhole2):=KFn.df A.X A.G A.F.fis_whole (fun _ _ _ _ _ _ _ hl=>len1 (C:=BindQ _ _ _ _ _ _ _ _ _) hl fun _=>rfl) fun _ _ F _ _ _=>ok_is_whole2 F A.T
theorem dm_used_nodes:Df l.prog w K mg base "used_nodes" 1 ["net"] (spNetOk (tellBls NetN.used)):=KFn.df A.X A.G A.F.fused_nodes (fun _ _ _ _ _ _ _ hl=>len1 (C:=BindQ _ _ _ _ _ _ _ _ _) hl fun _=>rfl) fun _ _ F _ _ _=>ok_used_nodes F A.T
theorem dm_joined:Df l.prog w K mg base "joined" 1 ["one", "other"] (spJoined):=KFn.df A.X A.G A.F.fjoined (fun _ _ _ _ _ _ _ hl=>len2 (C:=BindQ _ _ _ _ _ _ _ _ _) hl fun _ _=>rfl) fun _ _ F _ _ _=>ok_joined F A.T
theorem dm_greater:Df l.prog w K mg base "greater" 1 ["one", "other"] (spNum gtI):=KFn.df A.X A.G A.F.fgreater (fun _ _ _ _ _ _ _ hl=>len2 (C:=BindQ _ _ _ _ _ _ _ _ _) hl fun _ _=>rfl) fun _ _ F _ _ _=>ok_greater F A.T
theorem dm_span_joined:Df l.prog w K mg base "span_joined" 1 ["one", "other"] (spSpan):=KFn.df A.X A.G A.F.fspan_joined (fun _ _ _ _ _ _ _ hl=>len2 (C:=BindQ _ _ _ _ _ _ _ _ _) hl fun _ _=>rfl) fun _ _ F _ _ _=>ok_span_joined F A.T
theorem dm_apart_joined:Df l.prog w K mg base "apart_joined" 1 ["one", "other"] (spApart):=KFn.df A.X A.G A.F.fapart_joined (fun _ _ _ _ _ _ _ hl=>len2 (C:=BindQ _ _ _ _ _ _ _ _ _) hl fun _ _=>rfl) fun _ _ F _ _ _=>ok_apart_joined F A.T
theorem dm_either_joined:Df l.prog w K mg base "either_joined" 1 ["one", "other"] (spEither):=KFn.df A.X A.G A.F.feither_joined (fun _ _ _ _ _ _ _ hl=>len2 (C:=BindQ _ _ _ _ _ _ _ _ _) hl fun _ _=>rfl) fun _ _ F _ _ _=>ok_either_joined F A.T
theorem dm_look_kind:Df l.prog w K mg base "look_kind" 1 ["kind"] (spKind CK):=KFn.df A.X A.G A.F.flook_kind (fun _ _ _ _ _ _ _ hl=>len1 (C:=BindQ _ _ _ _ _ _ _ _ _) hl fun _=>rfl) fun _ _ F _ _ _=>ok_look_kind F A.T
theorem dm_first_traces:Df l.prog w K mg base "first_traces" 1 ["wide", "kind"] (spTracesK):=KFn.df A.X A.G A.F.ffirst_traces (fun _ _ _ _ _ _ _ hl=>len2 (C:=BindQ _ _ _ _ _ _ _ _ _) hl fun _ _=>rfl) fun _ _ F _ _ _=>ok_first_traces F A.T
theorem dm_alone:Df l.prog w K mg base "alone" 1 ["wide", "thing"] (spAlone):=KFn.df A.X A.G A.F.falone (fun _ _ _ _ _ _ _ hl=>len2 (C:=BindQ _ _ _ _ _ _ _ _ _) hl fun _ _=>rfl) fun _ _ F _ _ _=>ok_alone F A.T
theorem dm__law_cell:Df l.prog w K mg base "_law_cell" 1 ["_law_script", "_law_k"] (spCell K):=KFn.df A.X A.G A.F.f_law_cell (fun _ _ _ _ _ _ _ hl=>len2 (C:=BindQ _ _ _ _ _ _ _ _ _) hl fun _ _=>rfl) fun _ _ F _ _ _=>ok__law_cell F A.T
theorem dm__law_whole:Df l.prog w K mg base "_law_whole" 1 ["_law_found"] (spWhole):=KFn.df A.X A.G A.F.f_law_whole (fun _ _ _ _ _ _ _ hl=>len1 (C:=BindQ _ _ _ _ _ _ _ _ _) hl fun _=>rfl) fun _ _ F _ _ _=>ok__law_whole F A.T
theorem dm__law_words:Df l.prog w K mg base "_law_words" 1 ["_law_net_here"] (spWords):=KFn.df A.X A.G A.F.f_law_words (fun _ _ _ _ _ _ _ hl=>len1 (C:=BindQ _ _ _ _ _ _ _ _ _) hl fun _=>rfl) fun _ _ F _ _ _=>ok__law_words F A.T
theorem dm__law_refusal:Df l.prog w K mg base "_law_refusal" 1 ["_law_kept"] (spRefusalJ CB CK CR):=KFn.df A.X A.G A.F.f_law_refusal (fun _ _ _ _ _ _ _ hl=>len1 (C:=BindQ _ _ _ _ _ _ _ _ _) hl fun _=>rfl) fun _ _ F _ _ _=>ok__law_refusal F A.T
theorem dm__law_sum:Df l.prog w K mg base "_law_sum" 1 ["_law_kind", "_law_some"] (spSumL):=KFn.df A.X A.G A.F.f_law_sum (fun _ _ _ _ _ _ _ hl=>len2 (C:=BindQ _ _ _ _ _ _ _ _ _) hl fun _ _=>rfl) fun _ _ F _ _ _=>ok__law_sum F A.T
theorem dm__law_is_due:Df l.prog w K mg base "_law_is_due" 1 ["_law_kind", "_law_word", "_law_out"] (spDueJ):=KFn.df A.X A.G A.F.f_law_is_due (fun _ _ _ _ _ _ _ hl=>len3 (C:=BindQ _ _ _ _ _ _ _ _ _) hl fun _ _ _=>rfl) fun _ _ F _ _ _=>ok__law_is_due F A.T
theorem dm_is_within:Df l.prog w K mg base "is_within" 2 ["value", "least", "most"] (spWithin):=KFn.df A.X A.G A.F.fis_within (fun _ _ _ _ _ _ _ hl=>len3 (C:=BindQ _ _ _ _ _ _ _ _ _) hl fun _ _ _=>rfl) fun _ _ F _ _ _=>ok_is_within F A.T (dm_is_whole A)
theorem dm_outs_by:Df l.prog w K mg base "outs_by" 2 ["net", "row", "together"] (spOutsBy l.prog w K mg base):=KFn.df A.X A.G A.F.fouts_by (fun _ _ _ _ _ _ _ hl=>len3 (C:=BindQ _ _ _ _ _ _ _ _ _) hl fun _ _ _=>rfl) fun _ _ F _ _ _=>ok_outs_by F A.T (dm_used_nodes A)
theorem dm_is_thing:Df l.prog w K mg base "is_thing" 2 ["kind", "value"] (spThing):=KFn.df A.X A.G A.F.fis_thing (fun _ _ _ _ _ _ _ hl=>len2 (C:=BindQ _ _ _ _ _ _ _ _ _) hl fun _ _=>rfl) fun _ _ F _ _ _=>ok_is_thing F A.T (dm_is_whole2 A)
theorem dm_in_line:Df l.prog w K mg base "in_line" 2 ["row", "together"] (spInLine l.prog w K mg base):=KFn.df A.X A.G A.F.fin_line (fun _ _ _ _ _ _ _ hl=>len2 (C:=BindQ _ _ _ _ _ _ _ _ _) hl fun _ _=>rfl) fun _ _ F _ _ _=>ok_in_line F A.T
theorem dm__law_mix:Df l.prog w K mg base "_law_mix" 2 ["_law_script", "_law_k"] (spMix K):=KFn.df A.X A.G A.F.f_law_mix (fun _ _ _ _ _ _ _ hl=>len2 (C:=BindQ _ _ _ _ _ _ _ _ _) hl fun _ _=>rfl) fun _ _ F _ _ _=>ok__law_mix F A.T (dm__law_cell A)
theorem dm_is_node:Df l.prog w K mg base "is_node" 3 ["value", "ahead"] (spNode):=KFn.df A.X A.G A.F.fis_node (fun _ _ _ _ _ _ _ hl=>len2 (C:=BindQ _ _ _ _ _ _ _ _ _) hl fun _ _=>rfl) fun _ _ F _ _ _=>ok_is_node F A.T (dm_is_within A)
theorem dm_look_wide:Df l.prog w K mg base "look_wide" 3 ["wide"] (spWide CB):=KFn.df A.X A.G A.F.flook_wide (fun _ _ _ _ _ _ _ hl=>len1 (C:=BindQ _ _ _ _ _ _ _ _ _) hl fun _=>rfl) fun _ _ F _ _ _=>ok_look_wide F A.T (dm_is_within A)
theorem dm_look_row:Df l.prog w K mg base "look_row" 3 ["wide", "kind", "row"] (spRow K CR):=KFn.df A.X A.G A.F.flook_row (fun _ _ _ _ _ _ _ hl=>len3 (C:=BindQ _ _ _ _ _ _ _ _ _) hl fun _ _ _=>rfl) fun _ _ F _ _ _=>ok_look_row F A.T (dm_is_thing A)
theorem dm_plain:Df l.prog w K mg base "plain" 3 ["kind", "row"] (spPlain K CK):=KFn.df A.X A.G A.F.fplain (fun _ _ _ _ _ _ _ hl=>len2 (C:=BindQ _ _ _ _ _ _ _ _ _) hl fun _ _=>rfl) fun _ _ F _ _ _=>ok_plain F A.T (dm_joined A) (dm_greater A) (dm_look_kind A) (dm_in_line A)
theorem dm_showing_numbers:Df l.prog w K mg base "showing_numbers" 3 ["net", "kind", "place"] (spNumbers):=KFn.df A.X A.G A.F.fshowing_numbers (fun _ _ _ _ _ _ _ hl=>len3 (C:=BindQ _ _ _ _ _ _ _ _ _) hl fun _ _ _=>rfl) fun _ _ F _ _ _=>ok_showing_numbers F A.T (dm_outs_by A) (dm_joined A) (dm_greater A) (dm_in_line A) (dm_alone A)
theorem dm_told_order:Df l.prog w K mg base "told_order" 3 ["net", "place"] (spOrder):=KFn.df A.X A.G A.F.ftold_order (fun _ _ _ _ _ _ _ hl=>len2 (C:=BindQ _ _ _ _ _ _ _ _ _) hl fun _ _=>rfl) fun _ _ F _ _ _=>ok_told_order F A.T (dm_outs_by A) (dm_joined A)
theorem dm__law_net:Df l.prog w K mg base "_law_net" 3 ["_law_script", "_law_k", "_law_most"] (spDrawnN K):=KFn.df A.X A.G A.F.f_law_net (fun _ _ _ _ _ _ _ hl=>len3 (C:=BindQ _ _ _ _ _ _ _ _ _) hl fun _ _ _=>rfl) fun _ _ F _ _ _=>ok__law_net F A.T (dm__law_mix A)
theorem dm__law_bent:Df l.prog w K mg base "_law_bent" 3 ["_law_script", "_law_k", "_law_net_here"] (spBent K):=KFn.df A.X A.G A.F.f_law_bent (fun _ _ _ _ _ _ _ hl=>len3 (C:=BindQ _ _ _ _ _ _ _ _ _) hl fun _ _ _=>rfl) fun _ _ F _ _ _=>ok__law_bent F A.T (dm__law_mix A)
theorem dm_is_step:Df l.prog w K mg base "is_step" 4 ["value", "ahead"] (spStep):=KFn.df A.X A.G A.F.fis_step (fun _ _ _ _ _ _ _ hl=>len2 (C:=BindQ _ _ _ _ _ _ _ _ _) hl fun _ _=>rfl) fun _ _ F _ _ _=>ok_is_step F A.T (dm_is_node A)
theorem dm_look_outs:Df l.prog w K mg base "look_outs" 4 ["wide", "steps", "outs"] (spOuts CB):=KFn.df A.X A.G A.F.flook_outs (fun _ _ _ _ _ _ _ hl=>len3 (C:=BindQ _ _ _ _ _ _ _ _ _) hl fun _ _ _=>rfl) fun _ _ F _ _ _=>ok_look_outs F A.T (dm_is_node A)
theorem dm_turned_pairs:Df l.prog w K mg base "turned_pairs" 4 ["net", "place"] (spTurned):=KFn.df A.X A.G A.F.fturned_pairs (fun _ _ _ _ _ _ _ hl=>len2 (C:=BindQ _ _ _ _ _ _ _ _ _) hl fun _ _=>rfl) fun _ _ F _ _ _=>ok_turned_pairs F A.T (dm_told_order A)
theorem dm_look_steps:Df l.prog w K mg base "look_steps" 5 ["wide", "steps"] (spSteps CB):=KFn.df A.X A.G A.F.flook_steps (fun _ _ _ _ _ _ _ hl=>len2 (C:=BindQ _ _ _ _ _ _ _ _ _) hl fun _ _=>rfl) fun _ _ F _ _ _=>ok_look_steps F A.T (dm_is_step A)
theorem dm_showing_texts:Df l.prog w K mg base "showing_texts" 5 ["net", "place"] (spTexts PT lp):=KFnC.df A.X A.G A.F.fshowing_texts (fun _ _ _ _ _ _ _ hl=>len2 (C:=BindQ _ _ _ _ _ _ _ _ _) hl fun _ _=>rfl) fun _ _ F c=>ok_showing_texts F c A.L A.T (dm_outs_by A) (dm_joined A) (dm_alone A) (dm_turned_pairs A)
theorem dm_look_net:Df l.prog w K mg base "look_net" 6 ["net"] (spLook CB):=KFn.df A.X A.G A.F.flook_net (fun _ _ _ _ _ _ _ hl=>len1 (C:=BindQ _ _ _ _ _ _ _ _ _) hl fun _=>rfl) fun _ _ F _ _ _=>ok_look_net F A.T (dm_look_wide A) (dm_look_steps A) (dm_look_outs A)
theorem dm_showing_row:Df l.prog w K mg base "showing_row" 6 ["net", "kind", "place"] (spShowK PT lp):=KFn.df A.X A.G A.F.fshowing_row (fun _ _ _ _ _ _ _ hl=>len3 (C:=BindQ _ _ _ _ _ _ _ _ _) hl fun _ _ _=>rfl) fun _ _ F _ _ _=>ok_showing_row F A.T (dm_showing_numbers A) (dm_showing_texts A)
theorem dm_run:Df l.prog w K mg base "run" 7 ["net", "kind", "row"] (spRun K CB CK CR):=KFn.df A.X A.G A.F.frun (fun _ _ _ _ _ _ _ hl=>len3 (C:=BindQ _ _ _ _ _ _ _ _ _) hl fun _ _ _=>rfl) fun _ _ F _ _ _=>ok_run F A.T (dm_look_net A) (dm_outs_by A) (dm_joined A) (dm_greater A) (dm_look_kind A) (dm_look_row A)
theorem dm_judged:Df l.prog w K mg base "judged" 7 ["net", "kind"] (spJudgedK CB CK PT lp):=KFn.df A.X A.G A.F.fjudged (fun _ _ _ _ _ _ _ hl=>len2 (C:=BindQ _ _ _ _ _ _ _ _ _) hl fun _ _=>rfl) fun _ _ F _ _ _=>ok_judged F A.T (dm_look_net A) (dm_outs_by A) (dm_span_joined A) (dm_apart_joined A) (dm_either_joined A) (dm_look_kind A) (dm_in_line A) (dm_first_traces A) (dm_showing_row A)
theorem dm__law_told:Df l.prog w K mg base "_law_told" 8 ["_law_way", "_law_net_here", "_law_kind", "_law_row"] (spToldJ):=KFn.df A.X A.G A.F.f_law_told (fun _ _ _ _ _ _ _ hl=>len4 (C:=BindQ _ _ _ _ _ _ _ _ _) hl fun _ _ _ _=>rfl) fun _ _ F _ _ _=>ok__law_told F A.T (dm_run A) (dm_judged A) (dm__law_refusal A)
theorem dm__law_runs:Df l.prog w K mg base "_law_runs" 8 ["_law_net_here", "_law_words_here", "_law_kind", "_law_row"] (spRunsJ):=KFn.df A.X A.G A.F.f_law_runs (fun _ _ _ _ _ _ _ hl=>len4 (C:=BindQ _ _ _ _ _ _ _ _ _) hl fun _ _ _ _=>rfl) fun _ _ F _ _ _=>ok__law_runs F A.T (dm_run A) (dm_plain A) (dm__law_sum A)
theorem dm__law_cut:Df l.prog w K mg base "_law_cut" 16 ["_law_first", "_law_last", "_law_script", "_law_k", "_law_nodes", "_law_steps", "_law_wide"] (spCut K 13):=KFn.df A.X A.G A.F.f_law_cut (fun _ _ _ _ _ _ _ hl=>len7 (C:=BindQ _ _ _ _ _ _ _ _ _) hl fun _ _ _ _ _ _ _=>rfl) fun _ _ F m k b=>ok__law_cut F A.T (dm__law_mix A) m k b
theorem dm__law_right:Df l.prog w K mg base "_law_right" 17 ["_law_script", "_law_k", "_law_most"] (spRight K):=KFn.df A.X A.G A.F.f_law_right (fun _ _ _ _ _ _ _ hl=>len3 (C:=BindQ _ _ _ _ _ _ _ _ _) hl fun _ _ _=>rfl) fun _ _ F _ _ _=>ok__law_right F A.T (dm__law_mix A) (dm__law_cut A)
end
theorem all_mk {l:PySem.W.OpenLaw}{w:World}{K:PySem.W.Frag}{h:Heap}{mg:Str→Option Value}{fa:Addr}{CB CK CR CT CW CS DR DT FJ FG FS FA FE cT PT:Addr}(X:K.In h) (G:h.Ns mainGlobals mg) (hfa:mg "law" = some (.ref fa)) (T:Txt K mg CB CK CR CT CW CS DR DT FJ FG FS FA FE l.prog w) (F:Kfs K cT) :
  ∃fd:FuncData,(∀(s:Shared) (v:Value),BindsTo s fd ⟨[v],[]⟩ [("_law_script", v)])∧∀base:Heap,K.In base→base.Ns mainGlobals mg→Lt K mg base cT PT→FnOk l.prog w K mg base (CX1 l.prog w) 18 fa fd ["_law_script"] (spLawT K PT lp) :=
 F.flaw.last X G hfa fun _ _ _ _ _ _ F0=>⟨fun s v=>.of_eq rfl,fun base _ _ L=>have A:Al l w K h mg base CB CK CR CT CW CS DR DT FJ FG FS FA FE cT PT:=⟨X,G,T,F,L⟩;ok_law F0 T (dm_run A) (dm_plain A) (dm_judged A) (dm__law_mix A) (dm__law_whole A) (dm__law_net A) (dm__law_right A) (dm__law_bent A) (dm__law_words A) (dm__law_is_due A) (dm__law_told A) (dm__law_runs A)⟩
theorem walk {l:PySem.W.OpenLaw}{q:Program}{loose:List Str}{XP:(Str→Option Value)→Heap→Prop}{YP:World→Heap→Prop}{d:DefRec}{K:Params→PySem.W.Frag}{cT PT:Addr}(hn:l.most=some 63) (hdf:d.params.defaults=[])
  (hY:∀(w:World) (h:Heap),YP w h→(K w.params).In h) (hP:∀(w:World) (h:Heap),YP w h→h.get? PT=some (PySem.W.tabObj #[])) (hC:∀w:World,PySem.W.codeHdIn (K w.params) cT PT=true) (hKP:∀w:World,(K w.params).lookup PT=none)
  (F:∀(w:World) (mg:Str→Option Value) (fa:Addr) (h:Heap),(K w.params).In h→h.Ns mainGlobals mg→mg d.name=some (.ref fa) →
   ∃fd:FuncData,(∀(s:Shared) (u:Value),BindsTo s fd ⟨[u],[]⟩ [("_law_script", u)])∧∀base:Heap,(K w.params).In base→base.Ns mainGlobals mg→Lt (K w.params) mg base cT PT→FnOk l.prog w (K w.params) mg base (CX1 l.prog w) 18 fa fd ["_law_script"] (spLawT (K w.params) PT lp)) :
  PySem.W.WalkO q loose XP YP l.row.toRowW d [] (fun f vs=>PySem.call f vs) :=
 L2.walk_ofT (n:=63) (k:=18) (x := "_law_script") (CX:=fun w=>CX1 l.prog w) (sp:=fun w=>spLawT (K w.params) PT lp) hn (by decide) hdf ⟨rfl,by decide,by decide⟩ hY hP hC hKP F (fun _ _ a ns hl hP hS=>⟨a,ns,rfl,hS,.inl hP,fun _=>rfl⟩) fun _ _ _ _ _ z=>by
  obtain ⟨_,_,_,_,_,_,_,z⟩:=z
  exact z
end K10
open PySem PySem.W PyProof.Rows
def PySem.W.Fast.tw979459471340812415:Unit:=()
def PySem.W.Fast.tw7782935962299786856:Unit:=()
def PySem.W.Fast.tw9569595454812745207:Unit:=()
def PySem.W.Fast.tw14895109382069146603:Unit:=()
def PySem.W.Fast.tw13760620384687053310:Unit:=()
def PySem.W.Fast.tw8971613686285905243:Unit:=()
def PySem.W.Fast.tw616496748392550515:Unit:=()
def PySem.W.Fast.tw14658113316561674425:Unit:=()
def PySem.W.Fast.tw7085170247646343748:Unit:=()
def PySem.W.Fast.tw14025759426251230208:Unit:=()
def PySem.W.Fast.tw6875372026386296318:Unit:=()
def PySem.W.Fast.tw17269230735726888836:Unit:=()
def PySem.W.Fast.tw13455067663320262106:Unit:=()
set_option maxRecDepth 100000 in
set_option maxHeartbeats 0 in
theorem PySem.Challenge.cw_sumspan_k10_whole_judged_holds : PySem.Challenge.rw_sumspan_k10_whole_judged.Holds := by
 w_on;o_law;k_head;(case hw=>w_witness2)
 k_fill
 refine' K10.walk (l:=PySem.Challenge.rw_sumspan_k10_whole_judged) (PT:=265) rfl rfl (fun w h Y=>PySem.W.km_in_of Y) (fun w h Y=>PySem.W.km_tabs_of Y 265 (by simp)) ?hC (fun w=>by kernel_rfl) ?F
 case F =>
  intro w mg fa h KX G hmg
  refine' K10.all_mk KX G hmg (K10.txt_mk KX G ?ag_BadNet ?ag_BadKind ?ag_BadRow ?ag_BadText ?ag_Wrong ?ag_SumError ?ag_RULES ?ag_TRACES ?ag_joined ?ag_greater ?ag_apart_joined ?ag_either_joined ?ag_span_joined ?hx_BadNet ?hx_BadKind ?hx_BadRow ?hq_BadNet0 ?hq_BadNet1 ?hq_BadNet2 ?hq_BadNet3 ?hq_BadNet4 ?hq_BadNet5 ?hq_BadNetk0 ?hq_BadNetk1 ?hq_BadNetk2 ?hq_BadNetk3 ?hq_BadNetk4 ?hq_BadNetkv ?hq_BadRow0 ?hq_BadRow1 ?hq_BadRow2 ?hq_BadRow3 ?hq_BadRow4 ?hq_BadRow5 ?hq_BadRowk0 ?hq_BadRowk1 ?hq_BadRowk2 ?hq_BadRowk3 ?hq_BadRowk4 ?hq_BadRowkv ?hq_BadKind0 ?hq_BadKind1 ?hq_BadKind2 ?hq_BadKind3 ?hq_BadKind4 ?hq_BadKind5 ?hq_BadKindk0 ?hq_BadKindk1 ?hq_BadKindk2 ?hq_BadKindk3 ?hq_BadKindk4 ?hq_BadKindkv ?hm_BadNet ?hm_BadRow ?hm_BadKind ?hz_ValueError ?hg_MOST_THINGS ?hg_MOST_STEPS ?hk_RULES ?sk_RULES ?hk_TRACES ?sk_TRACES ?hz_str ?hz_sorted ?hz_set ?hz_isinstance ?hz_int ?hz_bool ?hz_tuple ?hz_list ?hz_len ?hz_max ?hz_min ?hz_sum ?hz_zip ?hz_range ?hz_enumerate) (K10.Kfs.mk ?f_is_whole ?f_is_within ?f_is_node ?f_is_step ?f_look_net ?f_look_wide ?f_look_steps ?f_look_outs ?f_used_nodes ?f_outs_by ?f_joined ?f_greater ?f_span_joined ?f_apart_joined ?f_either_joined ?f_look_kind ?f_is_thing ?f_look_row ?f_run ?f_plain ?f_in_line ?f_judged ?f_first_traces ?f_showing_row ?f_alone ?f_showing_numbers ?f_showing_texts ?f_turned_pairs ?f_told_order ?f__law_cell ?f__law_mix ?f__law_whole ?f__law_net ?f__law_cut ?f__law_right ?f__law_bent ?f__law_words ?f__law_refusal ?f__law_sum ?f__law_is_due ?f__law_told ?f__law_runs ?f_law)
  (case ag_BadNet=>k_is)
  (case ag_BadKind=>k_is)
  (case ag_BadRow=>k_is)
  (case ag_BadText=>k_is)
  (case ag_Wrong=>k_is)
  (case ag_SumError=>k_is)
  (case ag_RULES=>k_is)
  (case ag_TRACES=>k_is)
  (case ag_joined=>k_is)
  (case ag_greater=>k_is)
  (case ag_apart_joined=>k_is)
  (case ag_either_joined=>k_is)
  (case ag_span_joined=>k_is)
  (case hx_BadNet=>refine' L2.ExK.mk ?a ?b ?c ?d;(case a=>k_is);(case b=>first|kernel_rfl|rfl);(case c=>first|kernel_rfl|rfl);(case d=>k_is))
  (case hx_BadKind=>refine' L2.ExK.mk ?a ?b ?c ?d;(case a=>k_is);(case b=>first|kernel_rfl|rfl);(case c=>first|kernel_rfl|rfl);(case d=>k_is))
  (case hx_BadRow=>refine' L2.ExK.mk ?a ?b ?c ?d;(case a=>k_is);(case b=>first|kernel_rfl|rfl);(case c=>first|kernel_rfl|rfl);(case d=>k_is))
  (case hq_BadNet0=>k_is)
  (case hq_BadNet1=>k_is)
  (case hq_BadNet2=>k_is)
  (case hq_BadNet3=>k_is)
  (case hq_BadNet4=>k_is)
  (case hq_BadNet5=>first|kernel_rfl|rfl)
  (case hq_BadNetk0=>first|kernel_rfl|rfl)
  (case hq_BadNetk1=>first|kernel_rfl|rfl)
  (case hq_BadNetk2=>first|kernel_rfl|rfl)
  (case hq_BadNetk3=>first|kernel_rfl|rfl)
  (case hq_BadNetk4=>first|kernel_rfl|rfl)
  (case hq_BadNetkv=>first|kernel_rfl|rfl)
  (case hq_BadRow0=>k_is)
  (case hq_BadRow1=>k_is)
  (case hq_BadRow2=>k_is)
  (case hq_BadRow3=>k_is)
  (case hq_BadRow4=>k_is)
  (case hq_BadRow5=>first|kernel_rfl|rfl)
  (case hq_BadRowk0=>first|kernel_rfl|rfl)
  (case hq_BadRowk1=>first|kernel_rfl|rfl)
  (case hq_BadRowk2=>first|kernel_rfl|rfl)
  (case hq_BadRowk3=>first|kernel_rfl|rfl)
  (case hq_BadRowk4=>first|kernel_rfl|rfl)
  (case hq_BadRowkv=>first|kernel_rfl|rfl)
  (case hq_BadKind0=>k_is)
  (case hq_BadKind1=>k_is)
  (case hq_BadKind2=>k_is)
  (case hq_BadKind3=>k_is)
  (case hq_BadKind4=>k_is)
  (case hq_BadKind5=>first|kernel_rfl|rfl)
  (case hq_BadKindk0=>first|kernel_rfl|rfl)
  (case hq_BadKindk1=>first|kernel_rfl|rfl)
  (case hq_BadKindk2=>first|kernel_rfl|rfl)
  (case hq_BadKindk3=>first|kernel_rfl|rfl)
  (case hq_BadKindk4=>first|kernel_rfl|rfl)
  (case hq_BadKindkv=>first|kernel_rfl|rfl)
  (case hm_BadNet=>first|kernel_rfl|rfl)
  (case hm_BadRow=>first|kernel_rfl|rfl)
  (case hm_BadKind=>first|kernel_rfl|rfl)
  (case hz_ValueError=>k_is)
  (case hg_MOST_THINGS=>k_is)
  (case hg_MOST_STEPS=>k_is)
  (case hk_RULES=>k_is)
  (case sk_RULES=>rfl)
  (case hk_TRACES=>k_is)
  (case sk_TRACES=>rfl)
  (case hz_str=>k_is)
  (case hz_sorted=>k_is)
  (case hz_set=>k_is)
  (case hz_isinstance=>k_is)
  (case hz_int=>k_is)
  (case hz_bool=>k_is)
  (case hz_tuple=>k_is)
  (case hz_list=>k_is)
  (case hz_len=>k_is)
  (case hz_max=>k_is)
  (case hz_min=>k_is)
  (case hz_sum=>k_is)
  (case hz_zip=>k_is)
  (case hz_range=>k_is)
  (case hz_enumerate=>k_is)
  (case f_is_whole=>refine' L2.KFn.mk ?a ?l ?c ?k;(case a=>k_is);(case l=>k_is);(case c=>k_is);(case k=>k_is))
  (case f_is_within=>refine' L2.KFn.mk ?a ?l ?c ?k;(case a=>k_is);(case l=>k_is);(case c=>k_is);(case k=>k_is))
  (case f_is_node=>refine' L2.KFn.mk ?a ?l ?c ?k;(case a=>k_is);(case l=>k_is);(case c=>k_is);(case k=>k_is))
  (case f_is_step=>refine' L2.KFn.mk ?a ?l ?c ?k;(case a=>k_is);(case l=>k_is);(case c=>k_is);(case k=>k_is))
  (case f_look_net=>refine' L2.KFn.mk ?a ?l ?c ?k;(case a=>k_is);(case l=>k_is);(case c=>k_is);(case k=>k_is))
  (case f_look_wide=>refine' L2.KFn.mk ?a ?l ?c ?k;(case a=>k_is);(case l=>k_is);(case c=>k_is);(case k=>k_is))
  (case f_look_steps=>refine' L2.KFn.mk ?a ?l ?c ?k;(case a=>k_is);(case l=>k_is);(case c=>k_is);(case k=>k_is))
  (case f_look_outs=>refine' L2.KFn.mk ?a ?l ?c ?k;(case a=>k_is);(case l=>k_is);(case c=>k_is);(case k=>k_is))
  (case f_used_nodes=>refine' L2.KFn.mk ?a ?l ?c ?k;(case a=>k_is);(case l=>k_is);(case c=>k_is);(case k=>k_is))
  (case f_outs_by=>refine' L2.KFn.mk ?a ?l ?c ?k;(case a=>k_is);(case l=>k_is);(case c=>k_is);(case k=>k_is))
  (case f_joined=>refine' L2.KFn.mk ?a ?l ?c ?k;(case a=>k_is);(case l=>k_is);(case c=>k_is);(case k=>k_is))
  (case f_greater=>refine' L2.KFn.mk ?a ?l ?c ?k;(case a=>k_is);(case l=>k_is);(case c=>k_is);(case k=>k_is))
  (case f_span_joined=>refine' L2.KFn.mk ?a ?l ?c ?k;(case a=>k_is);(case l=>k_is);(case c=>k_is);(case k=>k_is))
  (case f_apart_joined=>refine' L2.KFn.mk ?a ?l ?c ?k;(case a=>k_is);(case l=>k_is);(case c=>k_is);(case k=>k_is))
  (case f_either_joined=>refine' L2.KFn.mk ?a ?l ?c ?k;(case a=>k_is);(case l=>k_is);(case c=>k_is);(case k=>k_is))
  (case f_look_kind=>refine' L2.KFn.mk ?a ?l ?c ?k;(case a=>k_is);(case l=>k_is);(case c=>k_is);(case k=>k_is))
  (case f_is_thing=>refine' L2.KFn.mk ?a ?l ?c ?k;(case a=>k_is);(case l=>k_is);(case c=>k_is);(case k=>k_is))
  (case f_look_row=>refine' L2.KFn.mk ?a ?l ?c ?k;(case a=>k_is);(case l=>k_is);(case c=>k_is);(case k=>k_is))
  (case f_run=>refine' L2.KFn.mk ?a ?l ?c ?k;(case a=>k_is);(case l=>k_is);(case c=>k_is);(case k=>k_is))
  (case f_plain=>refine' L2.KFn.mk ?a ?l ?c ?k;(case a=>k_is);(case l=>k_is);(case c=>k_is);(case k=>k_is))
  (case f_in_line=>refine' L2.KFn.mk ?a ?l ?c ?k;(case a=>k_is);(case l=>k_is);(case c=>k_is);(case k=>k_is))
  (case f_judged=>refine' L2.KFn.mk ?a ?l ?c ?k;(case a=>k_is);(case l=>k_is);(case c=>k_is);(case k=>k_is))
  (case f_first_traces=>refine' L2.KFn.mk ?a ?l ?c ?k;(case a=>k_is);(case l=>k_is);(case c=>k_is);(case k=>k_is))
  (case f_showing_row=>refine' L2.KFn.mk ?a ?l ?c ?k;(case a=>k_is);(case l=>k_is);(case c=>k_is);(case k=>k_is))
  (case f_alone=>refine' L2.KFn.mk ?a ?l ?c ?k;(case a=>k_is);(case l=>k_is);(case c=>k_is);(case k=>k_is))
  (case f_showing_numbers=>refine' L2.KFn.mk ?a ?l ?c ?k;(case a=>k_is);(case l=>k_is);(case c=>k_is);(case k=>k_is))
  (case f_showing_texts=>refine' L2.KFnC.mk ?a ?l ?c ?k;(case a=>k_is);(case l=>k_is);(case c=>k_is);(case k=>k_is))
  (case f_turned_pairs=>refine' L2.KFn.mk ?a ?l ?c ?k;(case a=>k_is);(case l=>k_is);(case c=>k_is);(case k=>k_is))
  (case f_told_order=>refine' L2.KFn.mk ?a ?l ?c ?k;(case a=>k_is);(case l=>k_is);(case c=>k_is);(case k=>k_is))
  (case f__law_cell=>refine' L2.KFn.mk ?a ?l ?c ?k;(case a=>k_is);(case l=>k_is);(case c=>k_is);(case k=>k_is))
  (case f__law_mix=>refine' L2.KFn.mk ?a ?l ?c ?k;(case a=>k_is);(case l=>k_is);(case c=>k_is);(case k=>k_is))
  (case f__law_whole=>refine' L2.KFn.mk ?a ?l ?c ?k;(case a=>k_is);(case l=>k_is);(case c=>k_is);(case k=>k_is))
  (case f__law_net=>refine' L2.KFn.mk ?a ?l ?c ?k;(case a=>k_is);(case l=>k_is);(case c=>k_is);(case k=>k_is))
  (case f__law_cut=>refine' L2.KFn.mk ?a ?l ?c ?k;(case a=>k_is);(case l=>k_is);(case c=>k_is);(case k=>k_is))
  (case f__law_right=>refine' L2.KFn.mk ?a ?l ?c ?k;(case a=>k_is);(case l=>k_is);(case c=>k_is);(case k=>k_is))
  (case f__law_bent=>refine' L2.KFn.mk ?a ?l ?c ?k;(case a=>k_is);(case l=>k_is);(case c=>k_is);(case k=>k_is))
  (case f__law_words=>refine' L2.KFn.mk ?a ?l ?c ?k;(case a=>k_is);(case l=>k_is);(case c=>k_is);(case k=>k_is))
  (case f__law_refusal=>refine' L2.KFn.mk ?a ?l ?c ?k;(case a=>k_is);(case l=>k_is);(case c=>k_is);(case k=>k_is))
  (case f__law_sum=>refine' L2.KFn.mk ?a ?l ?c ?k;(case a=>k_is);(case l=>k_is);(case c=>k_is);(case k=>k_is))
  (case f__law_is_due=>refine' L2.KFn.mk ?a ?l ?c ?k;(case a=>k_is);(case l=>k_is);(case c=>k_is);(case k=>k_is))
  (case f__law_told=>refine' L2.KFn.mk ?a ?l ?c ?k;(case a=>k_is);(case l=>k_is);(case c=>k_is);(case k=>k_is))
  (case f__law_runs=>refine' L2.KFn.mk ?a ?l ?c ?k;(case a=>k_is);(case l=>k_is);(case c=>k_is);(case k=>k_is))
  (case f_law=>refine' L2.KFn.mk ?a ?l ?c ?k;(case a=>k_is);(case l=>k_is);(case c=>k_is);(case k=>k_is))
 case hC=>exact fun w=>by kernel_rfl
