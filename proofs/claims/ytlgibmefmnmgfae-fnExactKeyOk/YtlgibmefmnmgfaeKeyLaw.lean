/-
  The law's walk: FnExactKeyOk returns true at every string.
-/
import Derived.Test.YtlgibmefmnmgfaeKeyImpl
namespace Go.Proofs.Ytlgibmefmnmgfae
open Go.RowKit

set_option maxHeartbeats 400000 in
theorem fnExactKeyOk_walk (s : ByteArray) (hs : s.size ≤ maxLen) (w : World) :
    Calls Try.prog 6 #[.string s] w fun e w' => e = .returned (.bool true) ∧ Below w.heap.size w w' := by
  by_cases hb : 1048576 < s.size
  · go_enter Try.func6, Try.ntmps6
    go_wp2
    go_ret
    exact ⟨rfl, Below.refl _ _⟩
  · generalize hk : Mth.keyOk s.data.toList = b
    have h1 : ∀ w, Calls Try.prog 13 #[.string s] w fun e w' => e = .returned (.bool b) ∧ w = w' := fun w => hk ▸ specKeyOk s w hs
    have h2 : ∀ w, Calls Try.prog 14 #[.string s] w fun e w' => e = .returned (.bool b) ∧ w = w' := fun w => hk ▸ implKeyOk s w
    clear hk
    have H1 := hide h1
    have H2 := hide h2
    clear h1 h2
    cases b
    all_goals
      go_enter Try.func6, Try.ntmps6
      go_wp2_with (first | (go_at_call 13; refine (unhide H1 _).mono ?_; rintro e w' ⟨rfl, rfl⟩) | (go_at_call 14; refine (unhide H2 _).mono ?_; rintro e w' ⟨rfl, rfl⟩))
      go_ret
      exact ⟨rfl, Below.refl _ _⟩
end Go.Proofs.Ytlgibmefmnmgfae
