/-
  What the model's functions on buckets come to, in plain numbers.
-/
import Derived.Test.YthjpjamihlopeaaBkI
import Derived.Test.YthjpjamihlopeaaIn
namespace Go.Proofs.Ythjpjamihlopeaa
open Go.RowKit
open Mth

/-- A number lies between two others. -/
def Inn (x a b : Int) : Prop := a ≤ x ∧ x ≤ b
instance (x a b : Int) : Decidable (Inn x a b) := by unfold Inn; infer_instance

theorem l01InB (x a b : Int) (w : World) : Calls Try.prog 44 #[.int .i64 x, .int .i64 a, .int .i64 b] w fun e w' => e = .returned (.bool (decide (Inn x a b))) ∧ w = w' := by
  by_cases h : Inn x a b
  · rw [decide_eq_true h]; exact l01In_yes x a b w h.1 h.2
  · rw [decide_eq_false h]; exact l01In_no x a b w (by unfold Inn at h; omega)
theorem l01Amount (n : Int) (w : World) : Calls Try.prog 43 #[.int .i64 n] w fun e w' => e = .returned (.bool (decide (Inn n 0 1000000000))) ∧ w = w' := by
  go_enter Try.func43, Try.ntmps43
  go_wp2_with (go_at_call 44; refine (l01InB _ _ _ _).mono ?_; rintro e w1 ⟨rfl, rfl⟩)
  go_ret
  exact ⟨rfl, rfl⟩

set_option maxRecDepth 100000 in
set_option maxHeartbeats 2000000 in
theorem specBucketOk (b : Bk) (w : World) : Calls Try.prog 15 #[bkv b] w fun e w' => e = .returned (.bool (decide b.Ok)) ∧ Below w.heap.size w w' := by
  obtain ⟨S, R, P, H, T, L⟩ := b
  have hd : ∀ x a b, (decide (Inn x a b) = true ∧ a ≤ x ∧ x ≤ b) ∨ (decide (Inn x a b) = false ∧ ¬ (a ≤ x ∧ x ≤ b)) := fun x a b => by
    by_cases h : Inn x a b
    · exact .inl ⟨decide_eq_true h, h⟩
    · exact .inr ⟨decide_eq_false h, h⟩
  have HB := hide (fun o => below_one w o)
  rcases hd S 0 1000000000 with ⟨g1, h1⟩ | ⟨g1, h1⟩
  · rcases hd R 0 1000000000 with ⟨g2, h2⟩ | ⟨g2, h2⟩
    · rcases hd P 1 1000000 with ⟨g3, h3⟩ | ⟨g3, h3⟩
      · rcases hd L 0 1000000000 with ⟨g4, h4⟩ | ⟨g4, h4⟩
        · rcases hd H 0 S with ⟨g5, h5⟩ | ⟨g5, h5⟩
          · rcases hd T 0 (P - 1) with ⟨g6, h6⟩ | ⟨g6, h6⟩
            · by_cases h7 : H < S
              · clear hd
                go_enter Try.func15, Try.ntmps15
                go_wp2_with (first | (go_at_call 44; refine (l01InB _ _ _ _).mono ?_; rintro e w1 ⟨rfl, rfl⟩) | (go_at_call 43; refine (l01Amount _ _).mono ?_; rintro e w1 ⟨rfl, rfl⟩))
                go_ret
                exact ⟨ret_true (by unfold Bk.Ok; dsimp only; omega), unhide HB _⟩
              · have g7 : decide (H < S) = false := by simp; omega
                by_cases h8 : T = 0
                · have g8 : (T == 0) = true := by simp [h8]
                  have H8 := hide h8
                  clear hd h8
                  go_enter Try.func15, Try.ntmps15
                  go_wp2_with (first | (go_at_call 44; refine (l01InB _ _ _ _).mono ?_; rintro e w1 ⟨rfl, rfl⟩) | (go_at_call 43; refine (l01Amount _ _).mono ?_; rintro e w1 ⟨rfl, rfl⟩))
                  go_ret
                  have h8 := unhide H8
                  exact ⟨ret_true (by unfold Bk.Ok; dsimp only; omega), unhide HB _⟩
                · have g8 : (T == 0) = false := by simp [h8]
                  clear hd
                  go_enter Try.func15, Try.ntmps15
                  go_wp2_with (first | (go_at_call 44; refine (l01InB _ _ _ _).mono ?_; rintro e w1 ⟨rfl, rfl⟩) | (go_at_call 43; refine (l01Amount _ _).mono ?_; rintro e w1 ⟨rfl, rfl⟩))
                  go_ret
                  exact ⟨ret_false (by unfold Bk.Ok; dsimp only; omega), unhide HB _⟩
            · clear hd
              go_enter Try.func15, Try.ntmps15
              go_wp2_with (first | (go_at_call 44; refine (l01InB _ _ _ _).mono ?_; rintro e w1 ⟨rfl, rfl⟩) | (go_at_call 43; refine (l01Amount _ _).mono ?_; rintro e w1 ⟨rfl, rfl⟩))
              go_ret
              exact ⟨ret_false (by unfold Bk.Ok; dsimp only; omega), unhide HB _⟩
          · clear hd
            go_enter Try.func15, Try.ntmps15
            go_wp2_with (first | (go_at_call 44; refine (l01InB _ _ _ _).mono ?_; rintro e w1 ⟨rfl, rfl⟩) | (go_at_call 43; refine (l01Amount _ _).mono ?_; rintro e w1 ⟨rfl, rfl⟩))
            go_ret
            exact ⟨ret_false (by unfold Bk.Ok; dsimp only; omega), unhide HB _⟩
        · clear hd
          go_enter Try.func15, Try.ntmps15
          go_wp2_with (first | (go_at_call 44; refine (l01InB _ _ _ _).mono ?_; rintro e w1 ⟨rfl, rfl⟩) | (go_at_call 43; refine (l01Amount _ _).mono ?_; rintro e w1 ⟨rfl, rfl⟩))
          go_ret
          exact ⟨ret_false (by unfold Bk.Ok; dsimp only; omega), unhide HB _⟩
      · clear hd
        go_enter Try.func15, Try.ntmps15
        go_wp2_with (first | (go_at_call 44; refine (l01InB _ _ _ _).mono ?_; rintro e w1 ⟨rfl, rfl⟩) | (go_at_call 43; refine (l01Amount _ _).mono ?_; rintro e w1 ⟨rfl, rfl⟩))
        go_ret
        exact ⟨ret_false (by unfold Bk.Ok; dsimp only; omega), unhide HB _⟩
    · clear hd
      go_enter Try.func15, Try.ntmps15
      go_wp2_with (first | (go_at_call 44; refine (l01InB _ _ _ _).mono ?_; rintro e w1 ⟨rfl, rfl⟩) | (go_at_call 43; refine (l01Amount _ _).mono ?_; rintro e w1 ⟨rfl, rfl⟩))
      go_ret
      exact ⟨ret_false (by unfold Bk.Ok; dsimp only; omega), unhide HB _⟩
  · clear hd
    go_enter Try.func15, Try.ntmps15
    go_wp2_with (first | (go_at_call 44; refine (l01InB _ _ _ _).mono ?_; rintro e w1 ⟨rfl, rfl⟩) | (go_at_call 43; refine (l01Amount _ _).mono ?_; rintro e w1 ⟨rfl, rfl⟩))
    go_ret
    exact ⟨ret_false (by unfold Bk.Ok; dsimp only; omega), unhide HB _⟩

set_option maxRecDepth 100000 in
set_option maxHeartbeats 1000000 in
theorem l02Can (b : Bk) (n : Int) (w : World) : Calls Try.prog 41 #[bkv b, .int .i64 n] w fun e w' => e = .returned (.bool (decide (b.Can n))) ∧ Below w.heap.size w w' := by
  by_cases h0 : b.Ok
  · have g0 : decide b.Ok = true := decide_eq_true h0
    have HO := hide h0
    clear h0
    obtain ⟨S, R, P, H, T, L⟩ := b
    go_enter Try.func41, Try.ntmps41
    go_wp2_with (first | (go_at_call 15; refine (specBucketOk ⟨S, R, P, H, T, L⟩ _).mono ?_; rintro e w1 ⟨rfl, hb1⟩; obtain ⟨c0, c1, c2, c3, c4, c5, cf, cs, cb⟩ := bk6 hb1; clear hb1) | (go_at_call 44; refine (l01InB _ _ _ _).mono ?_; rintro e w2 ⟨rfl, rfl⟩))
    go_ret
    exact ⟨ret_dec (p := Inn n L 1000000000) (q := Bk.Can ⟨S, R, P, H, T, L⟩ n) ⟨fun h => ⟨unhide HO, h⟩, fun h => h.2⟩, cb⟩
  · have g0 : decide b.Ok = false := decide_eq_false h0
    have HO := hide h0
    clear h0
    obtain ⟨S, R, P, H, T, L⟩ := b
    go_enter Try.func41, Try.ntmps41
    go_wp2_with (first | (go_at_call 15; refine (specBucketOk ⟨S, R, P, H, T, L⟩ _).mono ?_; rintro e w1 ⟨rfl, hb1⟩; obtain ⟨c0, c1, c2, c3, c4, c5, cf, cs, cb⟩ := bk6 hb1; clear hb1) | (go_at_call 44; refine (l01InB _ _ _ _).mono ?_; rintro e w2 ⟨rfl, rfl⟩))
    go_ret
    exact ⟨ret_false (fun h => unhide HO h.1), cb⟩
end Go.Proofs.Ythjpjamihlopeaa
