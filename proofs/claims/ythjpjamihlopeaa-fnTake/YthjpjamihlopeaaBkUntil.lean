/-
  What Until comes to, of the program and of the model, and the law FnExactUntil: it returns true at every bucket and number.
-/
import Derived.Test.YthjpjamihlopeaaBkLaws
namespace Go.Proofs.Ythjpjamihlopeaa
open Go.RowKit
open Mth

theorem Mth.need_bound {b : Bk} {m : Int} (ho : b.Ok) (h1 : b.H < m) (h2 : m ≤ b.S) : b.P ≤ (m - b.H) * b.P ∧ (m - b.H) * b.P ≤ 1000000000000000 := by
  unfold Bk.Ok at ho
  have h3 : 1 * b.P ≤ (m - b.H) * b.P := Int.mul_le_mul_of_nonneg_right (by omega) (by omega)
  have h4 : (m - b.H) * b.P ≤ (m - b.H) * 1000000 := Int.mul_le_mul_of_nonneg_left (by omega) (by omega)
  omega

set_option maxRecDepth 100000 in
set_option maxHeartbeats 1000000 in
theorem ticksTo (b : Bk) (m : Int) (w : World) (ho : b.Ok) (h1 : b.H < m) (h2 : m ≤ b.S) (h3 : 0 < b.R) : Calls Try.prog 47 #[bkv b, .int .i64 m] w fun e w' => e = .returned (.int .i64 (b.ticks m)) ∧ Below w.heap.size w w' := by
  have hn := need_bound ho h1 h2
  obtain ⟨S, R, P, H, T, L⟩ := b
  unfold Bk.Ok at ho
  have HT := hide (show Bk.ticks ⟨S, R, P, H, T, L⟩ m = ((m - H) * P - T + R - 1) / R from rfl)
  dsimp only at *
  go_enter Try.func47, Try.ntmps47
  go_wp2_with fail
  go_ret
  exact ⟨ret_int (unhide HT).symm, below_one w _⟩

set_option maxRecDepth 100000 in
set_option maxHeartbeats 2000000 in
theorem implUntil (b : Bk) (m : Int) (w : World) : Calls Try.prog 24 #[bkv b, .int .i64 m] w fun e w' => e = .returned (.int .i64 (b.wait m)) ∧ Below w.heap.size w w' := by
  have HK := hide (fun w1 => kind b w1)
  by_cases ho : b.Ok
  · have hk0 : kindOf b ≠ 0 := by
      unfold kindOf
      rw [if_pos ho]
      split
      · split <;> omega
      · omega
    have hk3 : b.H < b.S → 0 < b.R → kindOf b = 3 := fun h1 h2 => kind_three ho h1 h2
    have hk2 : b.H < b.S → ¬ 0 < b.R → kindOf b = 2 := fun h1 h2 => kind_two ho h1 h2
    have g0 : (kindOf b == 0) = false := by simpa using hk0
    have hw1 : m < 0 ∨ b.S < m → b.wait m = -1 := fun h => if_pos (.inr h)
    have hw2 : ¬ (m < 0 ∨ b.S < m) → b.wait m = if m ≤ b.H then 0 else if b.R = 0 then -1 else b.ticks m := fun h => if_neg (fun h' => h'.elim (fun h2 => h2 ho) h)
    have HTK := hide (fun w1 h1 h2 h3 => ticksTo b m w1 ho h1 h2 h3)
    unfold Bk.Ok at ho
    generalize kindOf b = k at *
    clear hk0
    by_cases h1 : m < 0
    · have HW := hide (hw1 (.inl h1))
      clear hw1 hw2 hk3 hk2 HTK ho
      obtain ⟨S, R, P, H, T, L⟩ := b
      go_enter Try.func24, Try.ntmps24
      go_wp2_with (first | (go_at_call 42; refine (unhide HK _).mono ?_; rintro e w1 ⟨rfl, hb1⟩; obtain ⟨c0, c1, c2, c3, c4, c5, cf, cs, cb⟩ := bk6 hb1; clear hb1) | fail)
      go_ret
      exact ⟨ret_int (unhide HW).symm, cb⟩
    by_cases h2 : b.S < m
    · have HW := hide (hw1 (.inr h2))
      clear hw1 hw2 hk3 hk2 HTK ho
      obtain ⟨S, R, P, H, T, L⟩ := b
      dsimp only at h2
      go_enter Try.func24, Try.ntmps24
      go_wp2_with (first | (go_at_call 42; refine (unhide HK _).mono ?_; rintro e w1 ⟨rfl, hb1⟩; obtain ⟨c0, c1, c2, c3, c4, c5, cf, cs, cb⟩ := bk6 hb1; clear hb1) | fail)
      go_ret
      exact ⟨ret_int (unhide HW).symm, cb⟩
    have hw := hw2 (by omega)
    clear hw1 hw2
    by_cases h3 : m ≤ b.H
    · have HW := hide (hw.trans (if_pos h3))
      clear hw hk3 hk2 HTK ho
      obtain ⟨S, R, P, H, T, L⟩ := b
      dsimp only at h2 h3
      go_enter Try.func24, Try.ntmps24
      go_wp2_with (first | (go_at_call 42; refine (unhide HK _).mono ?_; rintro e w1 ⟨rfl, hb1⟩; obtain ⟨c0, c1, c2, c3, c4, c5, cf, cs, cb⟩ := bk6 hb1; clear hb1) | fail)
      go_ret
      exact ⟨ret_int (unhide HW).symm, cb⟩
    by_cases h4 : b.R = 0
    · have HW := hide (hw.trans ((if_neg h3).trans (if_pos h4)))
      have e2 := hk2 (by omega) (by omega)
      clear hw hk3 hk2 HTK ho h4
      obtain ⟨S, R, P, H, T, L⟩ := b
      dsimp only at h2 h3
      subst e2
      go_enter Try.func24, Try.ntmps24
      go_wp2_with (first | (go_at_call 42; refine (unhide HK _).mono ?_; rintro e w1 ⟨rfl, hb1⟩; obtain ⟨c0, c1, c2, c3, c4, c5, cf, cs, cb⟩ := bk6 hb1; clear hb1) | fail)
      go_ret
      exact ⟨ret_int (unhide HW).symm, cb⟩
    · have HW := hide (hw.trans ((if_neg h3).trans (if_neg h4)))
      have e3 := hk3 (by omega) (by omega)
      have HT := hide (fun w1 => unhide HTK w1 (by omega) (by omega) (by omega))
      clear hw hk3 hk2 HTK ho h4
      generalize b.ticks m = tk at *
      obtain ⟨S, R, P, H, T, L⟩ := b
      dsimp only at h2 h3
      subst e3
      go_enter Try.func24, Try.ntmps24
      go_wp2_with (first | (go_at_call 42; refine (unhide HK _).mono ?_; rintro e w1 ⟨rfl, hb1⟩; obtain ⟨c0, c1, c2, c3, c4, c5, cf, cs, cb⟩ := bk6 hb1; clear hb1) | fail)
      refine (unhide HT _).mono ?_
      rintro e w2 ⟨rfl, hb2⟩
      go_wp2_with fail
      go_ret
      exact ⟨ret_int (unhide HW).symm, cb.trans (hb2.mono cb.size)⟩
  · have HW := hide (show b.wait m = -1 from if_pos (.inl ho))
    have e0 : kindOf b = 0 := kind_zero ho
    rw [e0] at HK
    clear ho e0
    obtain ⟨S, R, P, H, T, L⟩ := b
    go_enter Try.func24, Try.ntmps24
    go_wp2_with (first | (go_at_call 42; refine (unhide HK _).mono ?_; rintro e w1 ⟨rfl, hb1⟩; obtain ⟨c0, c1, c2, c3, c4, c5, cf, cs, cb⟩ := bk6 hb1; clear hb1) | fail)
    go_ret
    exact ⟨ret_int (unhide HW).symm, cb⟩

set_option maxRecDepth 100000 in
set_option maxHeartbeats 2000000 in
theorem specUntil (b : Bk) (m : Int) (w : World) : Calls Try.prog 25 #[bkv b, .int .i64 m] w fun e w' => e = .returned (.int .i64 (b.wait m)) ∧ Below w.heap.size w w' := by
  have HK := hide (fun w1 => specBucketOk b w1)
  by_cases ho : b.Ok
  · have g0 : decide b.Ok = true := decide_eq_true ho
    have hw1 : m < 0 ∨ b.S < m → b.wait m = -1 := fun h => if_pos (.inr h)
    have hw2 : ¬ (m < 0 ∨ b.S < m) → b.wait m = if m ≤ b.H then 0 else if b.R = 0 then -1 else b.ticks m := fun h => if_neg (fun h' => h'.elim (fun h2 => h2 ho) h)
    have hn : b.H < m → m ≤ b.S → b.P ≤ (m - b.H) * b.P ∧ (m - b.H) * b.P ≤ 1000000000000000 := fun h1 h2 => need_bound ho h1 h2
    unfold Bk.Ok at ho
    by_cases h1 : Inn m 0 1000000000
    · have g1 : decide (Inn m 0 1000000000) = true := decide_eq_true h1
      unfold Inn at h1
      by_cases h2 : b.S < m
      · have HW := hide (hw1 (.inr h2))
        clear hw1 hw2 ho hn
        obtain ⟨S, R, P, H, T, L⟩ := b
        dsimp only at h2
        go_enter Try.func25, Try.ntmps25
        go_wp2_with (first | (go_at_call 15; refine (unhide HK _).mono ?_; rintro e w1 ⟨rfl, hb1⟩; obtain ⟨c0, c1, c2, c3, c4, c5, cf, cs, cb⟩ := bk6 hb1; clear hb1) | (go_at_call 43; refine (l01Amount _ _).mono ?_; rintro e w2 ⟨rfl, rfl⟩))
        go_ret
        exact ⟨ret_int (unhide HW).symm, cb⟩
      have hw := hw2 (by omega)
      clear hw1 hw2
      by_cases h3 : m ≤ b.H
      · have HW := hide (hw.trans (if_pos h3))
        clear hw ho hn
        obtain ⟨S, R, P, H, T, L⟩ := b
        dsimp only at h2 h3
        go_enter Try.func25, Try.ntmps25
        go_wp2_with (first | (go_at_call 15; refine (unhide HK _).mono ?_; rintro e w1 ⟨rfl, hb1⟩; obtain ⟨c0, c1, c2, c3, c4, c5, cf, cs, cb⟩ := bk6 hb1; clear hb1) | (go_at_call 43; refine (l01Amount _ _).mono ?_; rintro e w2 ⟨rfl, rfl⟩))
        go_ret
        exact ⟨ret_int (unhide HW).symm, cb⟩
      by_cases h4 : b.R = 0
      · have HW := hide (hw.trans ((if_neg h3).trans (if_pos h4)))
        have g4 : (b.R == 0) = true := by simp [h4]
        clear hw ho hn h4
        obtain ⟨S, R, P, H, T, L⟩ := b
        dsimp only at h2 h3
        go_enter Try.func25, Try.ntmps25
        go_wp2_with (first | (go_at_call 15; refine (unhide HK _).mono ?_; rintro e w1 ⟨rfl, hb1⟩; obtain ⟨c0, c1, c2, c3, c4, c5, cf, cs, cb⟩ := bk6 hb1; clear hb1) | (go_at_call 43; refine (l01Amount _ _).mono ?_; rintro e w2 ⟨rfl, rfl⟩))
        go_ret
        exact ⟨ret_int (unhide HW).symm, cb⟩
      · have HW := hide (hw.trans ((if_neg h3).trans (if_neg h4)))
        have g4 : (b.R == 0) = false := by simp [h4]
        have hn' := hn (by omega) (by omega)
        clear hw hn
        obtain ⟨S, R, P, H, T, L⟩ := b
        have HT : Hid (Bk.ticks ⟨S, R, P, H, T, L⟩ m = ((m - H) * P - T + R - 1) / R) := rfl
        dsimp only at *
        go_enter Try.func25, Try.ntmps25
        go_wp2_with (first | (go_at_call 15; refine (unhide HK _).mono ?_; rintro e w1 ⟨rfl, hb1⟩; obtain ⟨c0, c1, c2, c3, c4, c5, cf, cs, cb⟩ := bk6 hb1; clear hb1) | (go_at_call 43; refine (l01Amount _ _).mono ?_; rintro e w2 ⟨rfl, rfl⟩))
        go_ret
        exact ⟨ret_int ((unhide HW).trans (unhide HT)).symm, cb⟩
    · have g1 : decide (Inn m 0 1000000000) = false := decide_eq_false h1
      have HW := hide (hw1 (by unfold Inn at h1; omega))
      clear hw1 hw2 hn ho h1
      obtain ⟨S, R, P, H, T, L⟩ := b
      go_enter Try.func25, Try.ntmps25
      go_wp2_with (first | (go_at_call 15; refine (unhide HK _).mono ?_; rintro e w1 ⟨rfl, hb1⟩; obtain ⟨c0, c1, c2, c3, c4, c5, cf, cs, cb⟩ := bk6 hb1; clear hb1) | (go_at_call 43; refine (l01Amount _ _).mono ?_; rintro e w2 ⟨rfl, rfl⟩))
      go_ret
      exact ⟨ret_int (unhide HW).symm, cb⟩
  · have HW := hide (show b.wait m = -1 from if_pos (.inl ho))
    have g0 : decide b.Ok = false := decide_eq_false ho
    clear ho
    obtain ⟨S, R, P, H, T, L⟩ := b
    go_enter Try.func25, Try.ntmps25
    go_wp2_with (first | (go_at_call 15; refine (unhide HK _).mono ?_; rintro e w1 ⟨rfl, hb1⟩; obtain ⟨c0, c1, c2, c3, c4, c5, cf, cs, cb⟩ := bk6 hb1; clear hb1) | (go_at_call 43; refine (l01Amount _ _).mono ?_; rintro e w2 ⟨rfl, rfl⟩))
    go_ret
    exact ⟨ret_int (unhide HW).symm, cb⟩

set_option maxRecDepth 100000 in
set_option maxHeartbeats 1000000 in
theorem fnExactUntil_walk (b : Bk) (m : Int) (w : World) : Calls Try.prog 8 #[bkv b, .int .i64 m] w fun e w' => e = .returned (.bool true) ∧ Below w.heap.size w w' := by
  have HT := hide (fun w1 => toBucket b w1)
  have HI := hide (fun w1 => implUntil b m w1)
  have HS := hide (fun w1 => specUntil b m w1)
  generalize b.wait m = d at *
  obtain ⟨S, R, P, H, T, L⟩ := b
  go_enter Try.func8, Try.ntmps8
  go_wp2_with fail
  refine (unhide HT _).mono ?_
  rintro e w1 ⟨rfl, hb1⟩
  have hA1 := hide (blk_step (heap_alloc_new w _) hb1)
  have hB1 := (below_one w _).trans (hb1.mono (by simp))
  clear hb1
  go_wp2_with fail
  refine (unhide HS _).mono ?_
  rintro e w2 ⟨rfl, hb2⟩
  have hA2 := hide (blk_step (unhide hA1) hb2)
  have hB2 := hB1.trans (hb2.mono hB1.size)
  obtain ⟨⟨c0, c1, c2, c3, c4, c5⟩, _⟩ := six_at (unhide hA2)
  clear hb2 hB1 hA1
  go_wp2_with fail
  refine (unhide HT _).mono ?_
  rintro e w3 ⟨rfl, hb3⟩
  have hB3 := hB2.trans (hb3.mono hB2.size)
  clear hb3 hB2 hA2 c0 c1 c2 c3 c4 c5
  go_wp2_with fail
  refine (unhide HI _).mono ?_
  rintro e w4 ⟨rfl, hb4⟩
  have hB4 := hB3.trans (hb4.mono hB3.size)
  clear hb4 hB3
  go_wp2
  go_ret
  exact ⟨rfl, hB4⟩
end Go.Proofs.Ythjpjamihlopeaa
