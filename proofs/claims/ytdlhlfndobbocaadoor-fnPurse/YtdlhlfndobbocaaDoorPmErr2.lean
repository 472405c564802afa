/-
  The program's isRefusal at each of its named errors, and at nil.
-/
import Derived.Test.YtdlhlfndobbocaaDoorPmErr
namespace Go.Proofs.YtdlhlfndobbocaaDoor
open Go.RowKit

set_option maxRecDepth 100000 in
set_option maxHeartbeats 2000000 in
theorem isRefusal_nil {w : World} {E : Nat → Addr} (h : Errs w E) : Calls Tryd.prog 50 #[.nilIface] w fun e w' => e = .returned (.bool false) ∧ w = w' := by
  have v0 := h.var 0 (by omega)
  have v1 := h.var 1 (by omega)
  have v2 := h.var 2 (by omega)
  have v3 := h.var 3 (by omega)
  have v4 := h.var 4 (by omega)
  have HE := hide h
  clear h
  go_enter Tryd.func50, Tryd.ntmps50
  go_wp2_with (go_at_call 65; refine (is_nil _ _).mono ?_; rintro e w1 ⟨rfl, rfl⟩)
  go_ret
  exact ⟨rfl, rfl⟩

set_option maxRecDepth 100000 in
set_option maxHeartbeats 2000000 in
theorem isRefusal_at {w : World} {E : Nat → Addr} (h : Errs w E) (i : Nat) (hi : i < 5) : Calls Tryd.prog 50 #[errV (E i)] w fun e w' => e = .returned (.bool true) ∧ w = w' := by
  have v0 := h.var 0 (by omega)
  have v1 := h.var 1 (by omega)
  have v2 := h.var 2 (by omega)
  have v3 := h.var 3 (by omega)
  have v4 := h.var 4 (by omega)
  have HE := hide h
  clear h
  match i, hi with
  | 0, _ | 1, _ | 2, _ | 3, _ | 4, _ =>
    go_enter Tryd.func50, Tryd.ntmps50
    go_wp2_with (go_at_call 65; first | (refine (is_at (unhide HE) _ _ true (by omega) (by omega) (by decide)).mono ?_; rintro e w1 ⟨rfl, rfl⟩) | (refine (is_at (unhide HE) _ _ false (by omega) (by omega) (by decide)).mono ?_; rintro e w1 ⟨rfl, rfl⟩))
    go_ret
    exact ⟨rfl, rfl⟩
end Go.Proofs.YtdlhlfndobbocaaDoor
