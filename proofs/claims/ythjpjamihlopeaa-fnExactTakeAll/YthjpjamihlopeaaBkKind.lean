/-
  How a bucket stands to its size, and whether it can be told at a tick: as the program says it.
-/
import Derived.Test.YthjpjamihlopeaaBkI
namespace Go.Proofs.Ythjpjamihlopeaa
open Go.RowKit
open Mth

/-- The kind's number: 0 wrong, 1 full, 2 with nothing coming, 3 filling. -/
def kindOf (b : Bk) : Int := if b.Ok then (if b.H < b.S then (if 0 < b.R then 3 else 2) else 1) else 0
theorem kind_zero {b : Bk} (h : ¬ b.Ok) : kindOf b = 0 := by unfold kindOf; rw [if_neg h]
theorem kind_three {b : Bk} (h : b.Ok) (h1 : b.H < b.S) (h2 : 0 < b.R) : kindOf b = 3 := by unfold kindOf; rw [if_pos h, if_pos h1, if_pos h2]
theorem kind_two {b : Bk} (h : b.Ok) (h1 : b.H < b.S) (h2 : ¬ 0 < b.R) : kindOf b = 2 := by unfold kindOf; rw [if_pos h, if_pos h1, if_neg h2]
theorem kind_one {b : Bk} (h : b.Ok) (h1 : ¬ b.H < b.S) : kindOf b = 1 := by unfold kindOf; rw [if_pos h, if_neg h1]

set_option maxRecDepth 100000 in
set_option maxHeartbeats 2000000 in
theorem kind (b : Bk) (w : World) : Calls Try.prog 42 #[bkv b] w fun e w' => e = .returned (.int .i64 (kindOf b)) ∧ Below w.heap.size w w' := by
  obtain ⟨S, R, P, H, T, L⟩ := b
  have HB := hide (fun o => below_one w o)
  by_cases h1 : Bk.Fix ⟨S, R, P, H, T, L⟩
  · have g1 : decide (Bk.Fix ⟨S, R, P, H, T, L⟩) = true := decide_eq_true h1
    by_cases h2 : Am L
    · have g2 : decide (Am L) = true := decide_eq_true h2
      unfold Bk.Fix at h1
      unfold Am at h2
      dsimp only at h1
      have k0 : (H < 0 ∨ S < H ∨ T < 0 ∨ P ≤ T ∨ (S ≤ H ∧ 0 < T)) → kindOf ⟨S, R, P, H, T, L⟩ = 0 := fun h => kind_zero (by unfold Bk.Ok; dsimp only; omega)
      have k3 : 0 ≤ H → 0 ≤ T → T < P → H < S → 0 < R → kindOf ⟨S, R, P, H, T, L⟩ = 3 := fun _ _ _ _ _ => kind_three (by unfold Bk.Ok; dsimp only; omega) (by dsimp only; omega) (by dsimp only; omega)
      have k2 : 0 ≤ H → 0 ≤ T → T < P → H < S → ¬ 0 < R → kindOf ⟨S, R, P, H, T, L⟩ = 2 := fun _ _ _ _ _ => kind_two (by unfold Bk.Ok; dsimp only; omega) (by dsimp only; omega) (by dsimp only; omega)
      have k1 : 0 ≤ H → H = S → T = 0 → kindOf ⟨S, R, P, H, T, L⟩ = 1 := fun _ _ _ => kind_one (by unfold Bk.Ok; dsimp only; omega) (by dsimp only; omega)
      have K0 := hide k0
      have K1 := hide k1
      have K2 := hide k2
      have K3 := hide k3
      clear k0 k1 k2 k3
      by_cases h3 : H < 0
      · go_enter Try.func42, Try.ntmps42
        go_wp2_with (first | (go_at_call 46; refine (isAmount _ _).mono ?_; rintro e w1 ⟨rfl, rfl⟩) | (go_at_call 51; refine (fixedOk ⟨S, R, P, H, T, L⟩ _).mono ?_; rintro e w1 ⟨rfl, hb1⟩; obtain ⟨c0, c1, c2, c3, c4, c5, cf, cs, cb⟩ := bk6 hb1; clear hb1))
        go_ret
        exact ⟨ret_int (unhide K0 (by omega)).symm, cb⟩
      by_cases h4 : S < H
      · go_enter Try.func42, Try.ntmps42
        go_wp2_with (first | (go_at_call 46; refine (isAmount _ _).mono ?_; rintro e w1 ⟨rfl, rfl⟩) | (go_at_call 51; refine (fixedOk ⟨S, R, P, H, T, L⟩ _).mono ?_; rintro e w1 ⟨rfl, hb1⟩; obtain ⟨c0, c1, c2, c3, c4, c5, cf, cs, cb⟩ := bk6 hb1; clear hb1))
        go_ret
        exact ⟨ret_int (unhide K0 (by omega)).symm, cb⟩
      by_cases h5 : T < 0
      · go_enter Try.func42, Try.ntmps42
        go_wp2_with (first | (go_at_call 46; refine (isAmount _ _).mono ?_; rintro e w1 ⟨rfl, rfl⟩) | (go_at_call 51; refine (fixedOk ⟨S, R, P, H, T, L⟩ _).mono ?_; rintro e w1 ⟨rfl, hb1⟩; obtain ⟨c0, c1, c2, c3, c4, c5, cf, cs, cb⟩ := bk6 hb1; clear hb1))
        go_ret
        exact ⟨ret_int (unhide K0 (by omega)).symm, cb⟩
      by_cases h6 : P ≤ T
      · go_enter Try.func42, Try.ntmps42
        go_wp2_with (first | (go_at_call 46; refine (isAmount _ _).mono ?_; rintro e w1 ⟨rfl, rfl⟩) | (go_at_call 51; refine (fixedOk ⟨S, R, P, H, T, L⟩ _).mono ?_; rintro e w1 ⟨rfl, hb1⟩; obtain ⟨c0, c1, c2, c3, c4, c5, cf, cs, cb⟩ := bk6 hb1; clear hb1))
        go_ret
        exact ⟨ret_int (unhide K0 (by omega)).symm, cb⟩
      by_cases h7 : H < S
      · by_cases h8 : 0 < R
        · go_enter Try.func42, Try.ntmps42
          go_wp2_with (first | (go_at_call 46; refine (isAmount _ _).mono ?_; rintro e w1 ⟨rfl, rfl⟩) | (go_at_call 51; refine (fixedOk ⟨S, R, P, H, T, L⟩ _).mono ?_; rintro e w1 ⟨rfl, hb1⟩; obtain ⟨c0, c1, c2, c3, c4, c5, cf, cs, cb⟩ := bk6 hb1; clear hb1))
          go_ret
          exact ⟨ret_int (unhide K3 (by omega) (by omega) (by omega) (by omega) (by omega)).symm, cb⟩
        · go_enter Try.func42, Try.ntmps42
          go_wp2_with (first | (go_at_call 46; refine (isAmount _ _).mono ?_; rintro e w1 ⟨rfl, rfl⟩) | (go_at_call 51; refine (fixedOk ⟨S, R, P, H, T, L⟩ _).mono ?_; rintro e w1 ⟨rfl, hb1⟩; obtain ⟨c0, c1, c2, c3, c4, c5, cf, cs, cb⟩ := bk6 hb1; clear hb1))
          go_ret
          exact ⟨ret_int (unhide K2 (by omega) (by omega) (by omega) (by omega) (by omega)).symm, cb⟩
      · by_cases h8 : 0 < T
        · go_enter Try.func42, Try.ntmps42
          go_wp2_with (first | (go_at_call 46; refine (isAmount _ _).mono ?_; rintro e w1 ⟨rfl, rfl⟩) | (go_at_call 51; refine (fixedOk ⟨S, R, P, H, T, L⟩ _).mono ?_; rintro e w1 ⟨rfl, hb1⟩; obtain ⟨c0, c1, c2, c3, c4, c5, cf, cs, cb⟩ := bk6 hb1; clear hb1))
          go_ret
          exact ⟨ret_int (unhide K0 (by omega)).symm, cb⟩
        · go_enter Try.func42, Try.ntmps42
          go_wp2_with (first | (go_at_call 46; refine (isAmount _ _).mono ?_; rintro e w1 ⟨rfl, rfl⟩) | (go_at_call 51; refine (fixedOk ⟨S, R, P, H, T, L⟩ _).mono ?_; rintro e w1 ⟨rfl, hb1⟩; obtain ⟨c0, c1, c2, c3, c4, c5, cf, cs, cb⟩ := bk6 hb1; clear hb1))
          go_ret
          exact ⟨ret_int (unhide K1 (by omega) (by omega) (by omega)).symm, cb⟩
    · have g2 : decide (Am L) = false := decide_eq_false h2
      have K0 := hide (kind_zero (b := ⟨S, R, P, H, T, L⟩) (fun h => h2 (by unfold Bk.Ok at h; unfold Am; dsimp only at h; omega)))
      clear h1 h2
      go_enter Try.func42, Try.ntmps42
      go_wp2_with (first | (go_at_call 46; refine (isAmount _ _).mono ?_; rintro e w1 ⟨rfl, rfl⟩) | (go_at_call 51; refine (fixedOk ⟨S, R, P, H, T, L⟩ _).mono ?_; rintro e w1 ⟨rfl, hb1⟩; obtain ⟨c0, c1, c2, c3, c4, c5, cf, cs, cb⟩ := bk6 hb1; clear hb1))
      go_ret
      exact ⟨ret_int (unhide K0).symm, cb⟩
  · have g1 : decide (Bk.Fix ⟨S, R, P, H, T, L⟩) = false := decide_eq_false h1
    have K0 := hide (kind_zero (b := ⟨S, R, P, H, T, L⟩) (fun h => h1 (by unfold Bk.Ok at h; unfold Bk.Fix; dsimp only at *; omega)))
    clear h1
    go_enter Try.func42, Try.ntmps42
    go_wp2_with (first | (go_at_call 46; refine (isAmount _ _).mono ?_; rintro e w1 ⟨rfl, rfl⟩) | (go_at_call 51; refine (fixedOk ⟨S, R, P, H, T, L⟩ _).mono ?_; rintro e w1 ⟨rfl, hb1⟩; obtain ⟨c0, c1, c2, c3, c4, c5, cf, cs, cb⟩ := bk6 hb1; clear hb1))
    go_ret
    exact ⟨ret_int (unhide K0).symm, cb⟩
end Go.Proofs.Ythjpjamihlopeaa
