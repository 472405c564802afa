/-
  A bucket that is looked at in between has just what it has when it is looked at once; it never has less, nor more than its size.
-/
import Derived.Test.YthjpjamihlopeaaBkTake
namespace Go.Proofs.Ythjpjamihlopeaa
namespace Mth

theorem fill_cap {b : Bk} {n : Int} (h : b.S ≤ b.H + b.parts n / b.P) : b.fill n = ⟨b.S, b.R, b.P, b.S, 0, n⟩ := by unfold Bk.fill; rw [if_pos h]
theorem fill_low {b : Bk} {n : Int} (h : ¬ b.S ≤ b.H + b.parts n / b.P) : b.fill n = ⟨b.S, b.R, b.P, b.H + b.parts n / b.P, b.parts n % b.P, n⟩ := by unfold Bk.fill; rw [if_neg h]
/-- It never has less than it had. -/
theorem fill_more {b : Bk} {n : Int} (h : b.Can n) : b.H ≤ (b.fill n).H := by
  have h2 := parts_bound h
  have h3 := div_bound (b.parts n) b.P h2.1 h.1.2.2.2.2.1
  obtain ⟨ho, _⟩ := h
  unfold Bk.Ok at ho
  by_cases hc : b.S ≤ b.H + b.parts n / b.P
  · rw [fill_cap hc]; dsimp only; omega
  · rw [fill_low hc]; dsimp only; omega
/-- A tick in between. -/
theorem mid_can {b : Bk} {n m : Int} (h : b.Can n) (h1 : b.L ≤ m) (h2 : m ≤ n) : b.Can m ∧ (b.fill m).Can n := by
  have hm : b.Can m := ⟨h.1, h1, by have := h.2.2; omega⟩
  obtain ⟨ho, hL⟩ := fill_ok hm
  exact ⟨hm, ho, by rw [hL]; exact h2, h.2.2⟩
theorem fill_fill {b : Bk} {n m : Int} (h : b.Can n) (h1 : b.L ≤ m) (h2 : m ≤ n) : (b.fill m).fill n = b.fill n := by
  obtain ⟨hm, hmn⟩ := mid_can h h1 h2
  have p1 := parts_bound hm
  have pn := parts_bound h
  have p2 := parts_bound hmn
  have hP : 1 ≤ b.P := h.1.2.2.2.2.1
  have hR : 0 ≤ b.R := h.1.2.2.1
  have d1 := div_bound (b.parts m) b.P p1.1 hP
  have ho := h.1
  unfold Bk.Ok at ho
  have e1 : b.R * (n - b.L) = b.R * (n - m) + b.R * (m - b.L) := by
    rw [← Int.mul_add]
    congr 1
    omega
  have hx : 0 ≤ b.R * (n - m) := Int.mul_nonneg hR (by omega)
  have hle : b.parts m ≤ b.parts n := by unfold Bk.parts; omega
  by_cases hc : b.S ≤ b.H + b.parts m / b.P
  · rw [fill_cap hc] at hmn p2 ⊢
    have hmono : b.parts m / b.P ≤ b.parts n / b.P := Int.ediv_le_ediv (by omega) hle
    have hq : 0 ≤ Bk.parts ⟨b.S, b.R, b.P, b.S, 0, m⟩ n / b.P := Int.ediv_nonneg p2.1 (by omega)
    rw [fill_cap (b := ⟨b.S, b.R, b.P, b.S, 0, m⟩) (by dsimp only; omega), fill_cap (by omega)]
  · rw [fill_low hc] at hmn p2 ⊢
    have e2 : b.parts n = Bk.parts ⟨b.S, b.R, b.P, b.H + b.parts m / b.P, b.parts m % b.P, m⟩ n + (b.parts m / b.P) * b.P := by
      have := d1.2.2.2.2
      unfold Bk.parts at this ⊢
      dsimp only
      omega
    have e3 : b.parts n / b.P = Bk.parts ⟨b.S, b.R, b.P, b.H + b.parts m / b.P, b.parts m % b.P, m⟩ n / b.P + b.parts m / b.P := by
      rw [e2, Int.add_mul_ediv_right _ _ (by omega)]
    have e4 : b.parts n % b.P = Bk.parts ⟨b.S, b.R, b.P, b.H + b.parts m / b.P, b.parts m % b.P, m⟩ n % b.P := by
      rw [e2, Int.add_mul_emod_self_right]
    unfold Bk.fill
    dsimp only
    rw [e3, e4]
    have e5 : b.H + (Bk.parts ⟨b.S, b.R, b.P, b.H + b.parts m / b.P, b.parts m % b.P, m⟩ n / b.P + b.parts m / b.P) = b.H + b.parts m / b.P + Bk.parts ⟨b.S, b.R, b.P, b.H + b.parts m / b.P, b.parts m % b.P, m⟩ n / b.P := by omega
    rw [e5]
end Mth
end Go.Proofs.Ythjpjamihlopeaa
