/-
  The laws' eqMsg at one and the same message.
-/
import Derived.Test.YtiinpdkgnflmeaaDoorMgI
namespace Go.Proofs.YtiinpdkgnflmeaaDoor
open Go.RowKit
open Mth

set_option maxRecDepth 100000 in
set_option maxHeartbeats 1000000 in
theorem eqMsg (m : Mg) (w : World) : Calls Tryd.prog 25 #[mgv m, mgv m] w fun e w' => e = .returned (.bool true) ∧ Below w.heap.size w w' := by
  obtain ⟨K, F, T, I, L, k, N⟩ := m
  go_enter Tryd.func25, Tryd.ntmps25
  go_wp2_with fail
  go_ret
  exact ⟨rfl, ((Below.refl _ _).alloc (Nat.le_refl _) _).alloc (by simp) _⟩
end Go.Proofs.YtiinpdkgnflmeaaDoor
