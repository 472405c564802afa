/-
  Buckets as plain numbers: when one is right, what it has at a tick, what is taken, how long one waits.
-/
import Derived.Test.YthjpjamihlopeaaIn
namespace Go.Proofs.Ythjpjamihlopeaa
namespace Mth

/-- An amount. -/
def Am (n : Int) : Prop := 0 ≤ n ∧ n ≤ 1000000000
instance (n : Int) : Decidable (Am n) := by unfold Am; infer_instance

/-- A bucket: its size, rate, per, what it has, its part, its last tick. -/
structure Bk where
  S : Int
  R : Int
  P : Int
  H : Int
  T : Int
  L : Int

/-- What never changes of a bucket is right. -/
def Bk.Fix (b : Bk) : Prop := 0 ≤ b.S ∧ b.S ≤ 1000000000 ∧ 0 ≤ b.R ∧ b.R ≤ 1000000000 ∧ 1 ≤ b.P ∧ b.P ≤ 1000000
instance (b : Bk) : Decidable b.Fix := by unfold Bk.Fix; infer_instance
/-- A bucket is right. -/
def Bk.Ok (b : Bk) : Prop := 0 ≤ b.S ∧ b.S ≤ 1000000000 ∧ 0 ≤ b.R ∧ b.R ≤ 1000000000 ∧ 1 ≤ b.P ∧ b.P ≤ 1000000 ∧ 0 ≤ b.L ∧ b.L ≤ 1000000000 ∧ 0 ≤ b.H ∧ b.H ≤ b.S ∧ 0 ≤ b.T ∧ b.T < b.P ∧ (b.H < b.S ∨ b.T = 0)
instance (b : Bk) : Decidable b.Ok := by unfold Bk.Ok; infer_instance
/-- It can be told at a tick. -/
def Bk.Can (b : Bk) (n : Int) : Prop := b.Ok ∧ b.L ≤ n ∧ n ≤ 1000000000
instance (b : Bk) (n : Int) : Decidable (b.Can n) := by unfold Bk.Can; infer_instance

/-- The parts that came up to a tick, with the one that it had. -/
def Bk.parts (b : Bk) (n : Int) : Int := b.R * (n - b.L) + b.T
/-- The bucket at a tick. -/
def Bk.fill (b : Bk) (n : Int) : Bk := if b.S ≤ b.H + b.parts n / b.P then { b with H := b.S, T := 0, L := n } else { b with H := b.H + b.parts n / b.P, T := b.parts n % b.P, L := n }
def Bk.fillAny (b : Bk) (n : Int) : Bk := if b.Can n then b.fill n else b
def Bk.taken (b : Bk) (m : Int) : Bk × Bool := if b.H < m then (b, false) else ({ b with H := b.H - m }, true)
def Bk.take (b : Bk) (n m : Int) : Bk × Bool := if b.Can n ∧ Am m then (b.fill n).taken m else (b, false)
/-- In how many ticks a bucket with a rate, that has fewer, has m. -/
def Bk.ticks (b : Bk) (m : Int) : Int := ((m - b.H) * b.P - b.T + b.R - 1) / b.R
def Bk.wait (b : Bk) (m : Int) : Int := if ¬ b.Ok ∨ m < 0 ∨ b.S < m then -1 else if m ≤ b.H then 0 else if b.R = 0 then -1 else b.ticks m

/-- As the program has it. -/
abbrev bkv (b : Bk) : Value := .agg #[.int .i64 b.S, .int .i64 b.R, .int .i64 b.P, .int .i64 b.H, .int .i64 b.T, .int .i64 b.L]

theorem rate_bound {b : Bk} {n : Int} (h : b.Can n) : 0 ≤ b.R * (n - b.L) ∧ b.R * (n - b.L) ≤ 1000000000000000000 := by
  obtain ⟨⟨_, _, r0, r1, _, _, l0, _⟩, h1, h2⟩ := h
  refine ⟨Int.mul_nonneg r0 (by omega), ?_⟩
  have h3 : b.R * (n - b.L) ≤ 1000000000 * (n - b.L) := Int.mul_le_mul_of_nonneg_right r1 (by omega)
  omega
theorem parts_bound {b : Bk} {n : Int} (h : b.Can n) : 0 ≤ b.parts n ∧ b.parts n ≤ 1000000000001000000 := by
  have h0 := rate_bound h
  obtain ⟨⟨_, _, _, _, _, _, _, _, _, _, _, _, _⟩, _, _⟩ := h
  unfold Bk.parts
  omega
theorem div_bound (a p : Int) (ha : 0 ≤ a) (hp : 1 ≤ p) : 0 ≤ a / p ∧ a / p ≤ a ∧ 0 ≤ a % p ∧ a % p < p ∧ a / p * p + a % p = a :=
  ⟨Int.ediv_nonneg ha (by omega), Int.ediv_le_self p ha, Int.emod_nonneg a (by omega), Int.emod_lt_of_pos a (by omega), Int.ediv_mul_add_emod a p⟩
end Mth
end Go.Proofs.Ythjpjamihlopeaa
