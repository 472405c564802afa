/-
  What the model's DecText comes to: a number's decimal text.
-/
import Derived.Test.YtccpcmhideijpaaDoorDecMath
import Derived.Test.YtccpcmhideijpaaDoorBase
import Derived.Laws.DeepStrings4
namespace Go.Proofs.YtccpcmhideijpaaDoor
open Go.RowKit
open Go.Lib (decDigits itoa)

/-- The digits that are still to come; none for nought. -/
def leftDigits (a : Nat) : List UInt8 := if a = 0 then [] else decDigits a
theorem left_step (a : Nat) (l t : List UInt8) (h0 : a ≠ 0) (h : leftDigits a ++ l = t) : leftDigits (a / 10) ++ (UInt8.ofNat (48 + a % 10) :: l) = t := by
  unfold leftDigits at *
  rw [if_neg h0] at h
  by_cases hs : a < 10
  · have e1 : a / 10 = 0 := by omega
    have e2 : a % 10 = a := by omega
    rw [Mth.digits_small a hs] at h
    rw [e1, e2, if_pos rfl]; simpa using h
  · rw [Mth.digits_big a hs] at h
    rw [if_neg (by omega), ← h]; simp
/-- A digit cut out of the ten. -/
theorem ten_at : ∀ d : Fin 10, (ByteArray.mk #[48, 49, 50, 51, 52, 53, 54, 55, 56, 57]).extract d.1 (d.1 + 1) = ⟨#[UInt8.ofNat (48 + d.1)]⟩ := by decide +kernel
theorem ten_add (d : Nat) (hd : d < 10) (l : List UInt8) : (ByteArray.mk #[48, 49, 50, 51, 52, 53, 54, 55, 56, 57]).extract d (d + 1) ++ ⟨l.toArray⟩ = ⟨(UInt8.ofNat (48 + d) :: l).toArray⟩ := by
  rw [ten_at ⟨d, hd⟩]
  apply ByteArray.ext
  simp

set_option maxHeartbeats 1000000 in
set_option maxRecDepth 100000 in
theorem specDec_pos (n : Nat) (w : World) (h0 : 0 < n) (hn : (n : Int) ≤ 9223372036854775807) :
    Calls Tryd.prog 24 #[.int .i64 n] w fun e w' => e = .returned (.string ⟨(decDigits n).toArray⟩) ∧ w = w' := by
  have hlen : (decDigits n).length ≤ 21 := by have := Lib.itoa_length_le n (by omega) hn; rw [Lib.itoa, if_neg (by omega)] at this; simpa using this
  have hne : ((n : Int) == 0) = false := beq_eq_false_iff_ne.2 (by omega)
  go_enter Tryd.func24, Tryd.ntmps24
  go_wp2
  go_loop [3, 4] (fun o m => ∃ (a : Nat) (l : List UInt8), a ≤ n ∧ m = .int .i64 a ∧ o = .string ⟨l.toArray⟩ ∧ leftDigits a ++ l = decDigits n) (fun _ m => (intOf m).toNat)
  case atStart => exact ⟨n, [], Nat.le_refl _, rfl, rfl, by unfold leftDigits; rw [if_neg (by omega)]; simp⟩
  case round =>
    obtain ⟨a, l, ha, rfl, rfl, hl⟩ := hrel
    have HL := hide hl
    have hll : l.length ≤ 21 := by have := congrArg List.length hl; rw [List.length_append] at this; omega
    clear hl
    by_cases hz : a = 0
    · subst hz
      have HE := hide (show l = decDigits n by have := unhide HL; simpa [leftDigits] using this)
      clear HL
      go_wp2
      go_ret
      exact ⟨ret_string (by rw [unhide HE]), rfl⟩
    · have HS := hide (left_step a l _ hz (unhide HL))
      have hA := hide (ten_add (a % 10) (by omega) l)
      have hne2 : ((a : Int) == 0) = false := beq_eq_false_iff_ne.2 (by omega)
      clear HL
      go_wp2
      go_round
      case rel => exact ⟨a / 10, _, by omega, by go_num, by rw [unhide hA], unhide HS⟩
      case measure => simp [intOf]; omega

theorem neg_tmod (a : Nat) : (-(a : Int)).tmod 10 = -((a : Int) % 10) := by rw [Int.neg_tmod, Int.tmod_eq_emod_of_nonneg (by omega)]
theorem neg_tdiv (a : Nat) : (-(a : Int)).tdiv 10 = -((a : Int) / 10) := by rw [Int.neg_tdiv, Int.tdiv_eq_ediv_of_nonneg (by omega)]
theorem minus_add (l : List UInt8) : (ByteArray.mk #[45]) ++ ⟨l.toArray⟩ = ⟨(45 :: l).toArray⟩ := by
  apply ByteArray.ext; simp

set_option maxHeartbeats 1000000 in
set_option maxRecDepth 100000 in
theorem specDec_neg (n : Nat) (w : World) (h0 : 0 < n) (hn : (n : Int) ≤ 9223372036854775808) :
    Calls Tryd.prog 24 #[.int .i64 (-(n : Int))] w fun e w' => e = .returned (.string ⟨(45 :: decDigits n).toArray⟩) ∧ w = w' := by
  have hlen : (decDigits n).length ≤ 21 := by have := Lib.itoa_length_le (-(n : Int)) (by omega) (by omega); rw [Lib.itoa, if_pos (by omega)] at this; simp at this; omega
  have hne : (-(n : Int) == 0) = false := beq_eq_false_iff_ne.2 (by omega)
  go_enter Tryd.func24, Tryd.ntmps24
  go_wp2
  go_loop [3, 4] (fun o m => ∃ (a : Nat) (l : List UInt8), a ≤ n ∧ m = .int .i64 (-(a : Int)) ∧ o = .string ⟨l.toArray⟩ ∧ leftDigits a ++ l = decDigits n) (fun _ m => (intOf m).natAbs)
  case atStart => exact ⟨n, [], Nat.le_refl _, rfl, rfl, by unfold leftDigits; rw [if_neg (by omega)]; simp⟩
  case round =>
    obtain ⟨a, l, ha, rfl, rfl, hl⟩ := hrel
    have HL := hide hl
    have hll : l.length ≤ 21 := by have := congrArg List.length hl; rw [List.length_append] at this; omega
    clear hl
    by_cases hz : a = 0
    · subst hz
      have HE := hide (show l = decDigits n by have := unhide HL; simpa [leftDigits] using this)
      have hA := hide (minus_add l)
      clear HL
      go_wp2
      go_ret
      exact ⟨ret_string (by rw [← unhide HE]; exact unhide hA), rfl⟩
    · have HS := hide (left_step a l _ hz (unhide HL))
      have hA := hide (ten_add (a % 10) (by omega) l)
      have hne2 : (-(a : Int) == 0) = false := beq_eq_false_iff_ne.2 (by omega)
      have hm := neg_tmod a
      have hq := neg_tdiv a
      clear HL
      have E1 := hide (show (-((a : Int) % 10)).toNat = a % 10 ∨ a % 10 ≠ 0 by omega)
      have E2 := hide (show (-((a : Int) % 10) + 1).toNat = a % 10 + 1 ∨ a % 10 ≠ 0 by omega)
      by_cases hd : a % 10 = 0
      · have E1' := hide ((unhide E1).resolve_right (fun h => h hd))
        have E2' := hide ((unhide E2).resolve_right (fun h => h hd))
        go_wp2
        go_round
        case rel => exact ⟨a / 10, _, by omega, by go_num, by rw [unhide E1', unhide E2', unhide hA], unhide HS⟩
        case measure => simp [intOf]; omega
      · go_wp2
        go_round
        case rel => exact ⟨a / 10, _, by omega, by go_num, by rw [unhide hA], unhide HS⟩
        case measure => simp [intOf]; omega

theorem specDec_zero (w : World) : Calls Tryd.prog 24 #[.int .i64 0] w fun e w' => e = .returned (.string ⟨#[48]⟩) ∧ w = w' := by
  go_enter Tryd.func24, Tryd.ntmps24
  go_wp2
  go_ret
  exact ⟨rfl, rfl⟩

/-- The decimal text of every number. -/
theorem specDec (n : Int) (w : World) (h0 : -9223372036854775808 ≤ n) (h1 : n ≤ 9223372036854775807) : Calls Tryd.prog 24 #[.int .i64 n] w fun e w' => e = .returned (.string ⟨(itoa n).toArray⟩) ∧ w = w' := by
  rcases Int.lt_trichotomy n 0 with h | h | h
  · obtain ⟨k, hk⟩ : ∃ k : Nat, n = -(k : Int) := ⟨n.natAbs, by omega⟩
    subst hk
    have e : itoa (-(k : Int)) = 45 :: decDigits k := by unfold itoa; rw [if_pos h]; simp
    rw [e]
    exact specDec_neg k w (by omega) (by omega)
  · subst h
    have e : itoa 0 = [48] := by unfold itoa; rw [if_neg (by omega)]; exact Mth.digits_small 0 (by omega)
    rw [e]
    exact specDec_zero w
  · obtain ⟨k, rfl⟩ := Int.eq_ofNat_of_zero_le (show 0 ≤ n by omega)
    have e : itoa (k : Int) = decDigits k := by unfold itoa; rw [if_neg (by omega)]; rfl
    have h' : 0 < k := by omega
    show Calls _ _ #[.int .i64 (k : Int)] w fun e w' => e = .returned (.string ⟨(itoa (k : Int)).toArray⟩) ∧ w = w'
    rw [e]
    exact specDec_pos k w h' h1
end Go.Proofs.YtccpcmhideijpaaDoor
