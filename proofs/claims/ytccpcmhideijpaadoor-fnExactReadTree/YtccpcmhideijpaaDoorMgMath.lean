/-
  Messages in plain terms: what a message is, when it is right.
-/
import Derived.Test.YtccpcmhideijpaaDoorIn
import Derived.Test.YtccpcmhideijpaaDoorKey
import Derived.Test.YtccpcmhideijpaaDoorKeyImpl
import Derived.Deep.RegionHeld
namespace Go.Proofs.YtccpcmhideijpaaDoor
namespace Mth

/-- A message: kind, from, to, id, low, key, n. -/
structure Mg where
  K : Int
  F : Int
  T : Int
  I : Int
  L : Int
  k : ByteArray
  N : Int
abbrev mgv (m : Mg) : Value := .agg #[.int .i64 m.K, .int .i64 m.F, .int .i64 m.T, .int .i64 m.I, .int .i64 m.L, .string m.k, .int .i64 m.N]
def ndB (n : Int) : Bool := decide (0 ≤ n ∧ n ≤ 29)
def smB (n : Int) : Bool := decide (1 ≤ n ∧ n ≤ 1000000000)
def rtB (f t : Int) : Bool := ndB f && ndB t && decide (f ≠ t)
def mgOk (m : Mg) : Bool :=
  rtB m.F m.T &&
    (if m.K = 0 then keyOk m.k.data.toList && smB m.N && decide (m.I = 0) && decide (m.L = 0)
     else if m.K = 1 then keyOk m.k.data.toList && smB m.N && smB m.I && decide (1 ≤ m.L ∧ m.L ≤ m.I)
     else if m.K = 2 then smB m.I && decide (m.k.size = 0) && decide (m.N = 0) && decide (m.L = 0)
     else false)
end Mth
open Go.RowKit
open Mth

theorem wp_at {P : Program} {Q : Exit → Act → World → Prop} {c : Code} {a : Act} {W : World} (h : ∀ W', W' = W → Code.wp P c Q a W') : Code.wp P c Q a W := h W rfl
theorem below_one (w : World) (o : Obj) : Below w.heap.size w (w.alloc o) := (Below.refl _ _).alloc (Nat.le_refl _) _
theorem ret_true {p : Prop} [Decidable p] (h : p) : Ending.returned (.bool true) = .returned (.bool (decide p)) := by rw [decide_eq_true h]
theorem ret_false {p : Prop} [Decidable p] (h : ¬ p) : Ending.returned (.bool false) = .returned (.bool (decide p)) := by rw [decide_eq_false h]
theorem ret_dec {p q : Prop} [Decidable p] [Decidable q] (h : p ↔ q) : Ending.returned (.bool (decide p)) = .returned (.bool (decide q)) := by rw [decide_eq_decide.2 h]

theorem l01InR (x a b : Int) (r : Bool) (w : World) (h : decide (a ≤ x ∧ x ≤ b) = r) : Calls Tryd.prog 28 #[.int .i64 x, .int .i64 a, .int .i64 b] w fun e w' => e = .returned (.bool r) ∧ w = w' := by
  subst h
  by_cases h : a ≤ x ∧ x ≤ b
  · rw [decide_eq_true h]; exact l01In_yes x a b w h.1 h.2
  · rw [decide_eq_false h]; exact l01In_no x a b w (by omega)
end Go.Proofs.YtccpcmhideijpaaDoor
