/-
  Demand as plain numbers: when one is right, what is asked, a tick, the forecast, what lacks and what is over.
-/
import Derived.Test.YtmflajfddjnmhaaAmS
namespace Go.Proofs.Ytmflajfddjnmhaa
namespace Mth

/-- A demand: its average (sixteen times), its count, what is open. -/
structure Dm where
  A : Int
  C : Int
  O : Int

/-- It is right. -/
def Dm.Ok (d : Dm) : Prop := Inn d.A 0 16000000000 ∧ Inn d.C 0 1000000000 ∧ Inn d.O 0 1000000000
instance (d : Dm) : Decidable d.Ok := by unfold Dm.Ok; infer_instance

/-- At most an amount. -/
def most (n : Int) : Int := if n > 1000000000 then 1000000000 else n
def Dm.ask (d : Dm) (n : Int) : Dm := if d.Ok ∧ Inn n 0 1000000000 then ⟨d.A, d.C, most (d.O + n)⟩ else d
def Dm.tick (d : Dm) : Dm := if d.Ok then ⟨if d.C = 0 then 16 * d.O else d.A - d.A / 16 + d.O, most (d.C + 1), 0⟩ else d
def Dm.fore (d : Dm) (t : Int) : Int := if d.Ok ∧ Inn t 0 1000 then most ((d.A * t + 15) / 16) else -1
def Dm.lack (d : Dm) (f l h : Int) : Int :=
  if d.fore l < 0 ∨ d.fore h < 0 ∨ h < l ∨ ¬ Inn f 0 1000000000 then -1 else if d.fore l ≤ f ∨ d.fore h < f then 0 else d.fore h - f
def Dm.over (d : Dm) (f h : Int) : Int :=
  if d.fore h < 0 ∨ ¬ Inn f 0 1000000000 then -1 else if f < d.fore h then 0 else f - d.fore h

/-- As the program has it. -/
abbrev dmv (d : Dm) : Value := .agg #[.int .i64 d.A, .int .i64 d.C, .int .i64 d.O]

theorem most_le (n : Int) : most n ≤ 1000000000 ∧ most n ≤ n := by
  unfold most
  split <;> omega
theorem most_up {n : Int} (h : 0 ≤ n) : 0 ≤ most n := by
  unfold most
  split <;> omega
theorem dm_mul {d : Dm} {t : Int} (h : d.Ok) (ht : Inn t 0 1000) : 0 ≤ d.A * t ∧ d.A * t ≤ 16000000000000 := by
  obtain ⟨⟨a0, a1⟩, _, _⟩ := h
  obtain ⟨t0, t1⟩ := ht
  refine ⟨Int.mul_nonneg a0 t0, ?_⟩
  have h3 : d.A * t ≤ 16000000000 * t := Int.mul_le_mul_of_nonneg_right a1 t0
  omega
theorem fore_bound (d : Dm) (t : Int) : -1 ≤ d.fore t ∧ d.fore t ≤ 1000000000 := by
  unfold Dm.fore
  split
  · rename_i h
    have hm := dm_mul h.1 h.2
    have h1 := most_le ((d.A * t + 15) / 16)
    have h2 : 0 ≤ most ((d.A * t + 15) / 16) := most_up (by omega)
    omega
  · omega
theorem ask_ok {d : Dm} (h : d.Ok) (n : Int) : (d.ask n).Ok := by
  unfold Dm.ask
  split
  · rename_i g
    obtain ⟨_, n0, _⟩ := g
    obtain ⟨h1, h2, h3, h4⟩ := h
    have m1 := most_le (d.O + n)
    have m2 : 0 ≤ most (d.O + n) := most_up (by omega)
    exact ⟨h1, h2, m2, m1.1⟩
  · exact h
theorem tick_ok {d : Dm} (h : d.Ok) : d.tick.Ok := by
  unfold Dm.tick
  rw [if_pos h]
  obtain ⟨⟨h1, h2⟩, ⟨h3, h4⟩, h5, h6⟩ := h
  have m1 := most_le (d.C + 1)
  have m2 : 0 ≤ most (d.C + 1) := most_up (by omega)
  refine ⟨?_, ⟨m2, m1.1⟩, ⟨by simp, by simp⟩⟩
  dsimp only
  constructor
  · split <;> omega
  · split <;> omega
end Mth
end Go.Proofs.Ytmflajfddjnmhaa
