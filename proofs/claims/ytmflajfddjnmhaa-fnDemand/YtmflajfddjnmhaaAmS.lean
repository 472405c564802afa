/-
  Whether a number lies between two others, whether it is an amount: as the model says it.
-/
import Derived.Test.YtmflajfddjnmhaaIn
namespace Go.Proofs.Ytmflajfddjnmhaa
open Go.RowKit

/-- A number lies between two others. -/
def Inn (x a b : Int) : Prop := a ≤ x ∧ x ≤ b
instance (x a b : Int) : Decidable (Inn x a b) := by unfold Inn; infer_instance

theorem l01InB (x a b : Int) (w : World) : Calls Try.prog 39 #[.int .i64 x, .int .i64 a, .int .i64 b] w fun e w' => e = .returned (.bool (decide (Inn x a b))) ∧ w = w' := by
  by_cases h : Inn x a b
  · rw [decide_eq_true h]; exact l01In_yes x a b w h.1 h.2
  · rw [decide_eq_false h]; exact l01In_no x a b w (by unfold Inn at h; omega)
theorem l01Amount (n : Int) (w : World) : Calls Try.prog 37 #[.int .i64 n] w fun e w' => e = .returned (.bool (decide (Inn n 0 1000000000))) ∧ w = w' := by
  go_enter Try.func37, Try.ntmps37
  go_wp2_with (go_at_call 39; refine (l01InB _ _ _ _).mono ?_; rintro e w1 ⟨rfl, rfl⟩)
  go_ret
  exact ⟨rfl, rfl⟩
end Go.Proofs.Ytmflajfddjnmhaa
