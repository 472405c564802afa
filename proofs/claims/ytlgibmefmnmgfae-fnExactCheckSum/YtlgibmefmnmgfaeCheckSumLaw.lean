/-
  The law's walk: FnExactCheckSum returns true at every string.
-/
import Derived.Test.YtlgibmefmnmgfaeSums
namespace Go.Proofs.Ytlgibmefmnmgfae
open Go.RowKit

set_option maxHeartbeats 400000 in
theorem fnExactCheckSum_walk (s : ByteArray) (hs : s.size ≤ maxLen) (w : World) :
    Calls Try.prog 5 #[.string s] w fun e w' => e = .returned (.bool true) ∧ Below w.heap.size w w' := by
  by_cases hb : 1048576 < s.size
  · go_enter Try.func5, Try.ntmps5
    go_wp2
    go_ret
    exact ⟨rfl, Below.refl _ _⟩
  · go_enter Try.func5, Try.ntmps5
    go_wp2_with (first | (go_at_call 11; refine (specCheckSum s _ hs).mono ?_; rintro e w' ⟨rfl, rfl⟩) | (go_at_call 12; refine (implCheckSum s _ hs).mono ?_; rintro e w' ⟨rfl, rfl⟩))
    go_ret
    exact ⟨rfl, Below.refl _ _⟩
end Go.Proofs.Ytlgibmefmnmgfae
