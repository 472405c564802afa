/-
  What the model's DecText comes to: a number's decimal text.
-/
import Derived.Test.YtdlhlfndobbocaaGreatDecMath
import Derived.Test.YtdlhlfndobbocaaGreatBase
import Derived.Laws.DeepStrings4
namespace Go.Proofs.YtdlhlfndobbocaaGreat
open Go.RowKit
open Go.Lib (decDigits itoa)

/-- The digits that are still to come; none for nought. -/
def leftDigits (a : Nat) : List UInt8 := if a = 0 then [] else decDigits a
theorem left_step (a : Nat) (l t : List UInt8) (h0 : a ≠ 0) (h : leftDigits a ++ l = t) : leftDigits (a / 10) ++ (UInt8.ofNat (48 + a % 10) :: l) = t := by
  unfold leftDigits at *
  rw [if_neg h0] at h
  by_cases hs : a < 10
  · have e1 : a / 10 = 0 := by omega
    have e2 : a % 10 = a := by omega
    rw [Mth.digits_small a hs] at h
    rw [e1, e2, if_pos rfl]; simpa using h
  · rw [Mth.digits_big a hs] at h
    rw [if_neg (by omega), ← h]; simp
/-- A digit cut out of the ten. -/
theorem ten_at : ∀ d : Fin 10, (ByteArray.mk #[48, 49, 50, 51, 52, 53, 54, 55, 56, 57]).extract d.1 (d.1 + 1) = ⟨#[UInt8.ofNat (48 + d.1)]⟩ := by decide +kernel
theorem ten_add (d : Nat) (hd : d < 10) (l : List UInt8) : (ByteArray.mk #[48, 49, 50, 51, 52, 53, 54, 55, 56, 57]).extract d (d + 1) ++ ⟨l.toArray⟩ = ⟨(UInt8.ofNat (48 + d) :: l).toArray⟩ := by
  rw [ten_at ⟨d, hd⟩]
  apply ByteArray.ext
  simp

theorem neg_tmod (a : Nat) : (-(a : Int)).tmod 10 = -((a : Int) % 10) := by rw [Int.neg_tmod, Int.tmod_eq_emod_of_nonneg (by omega)]
theorem neg_tdiv (a : Nat) : (-(a : Int)).tdiv 10 = -((a : Int) / 10) := by rw [Int.neg_tdiv, Int.tdiv_eq_ediv_of_nonneg (by omega)]
theorem minus_add (l : List UInt8) : (ByteArray.mk #[45]) ++ ⟨l.toArray⟩ = ⟨(45 :: l).toArray⟩ := by
  apply ByteArray.ext; simp

end Go.Proofs.YtdlhlfndobbocaaGreat
