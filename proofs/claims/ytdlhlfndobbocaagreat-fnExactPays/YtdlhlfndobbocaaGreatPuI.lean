/-
  The program's own functions on one purse and on a list of purses: whether they are right, a key's purse, Free and Spent together.
-/
import Derived.Test.YtdlhlfndobbocaaGreatPuOf
import Derived.Test.YtdlhlfndobbocaaGreatPuBase
import Derived.Test.YtdlhlfndobbocaaGreatPuPut
import Derived.Test.YtdlhlfndobbocaaGreatKeyImpl
import Derived.Test.YtdlhlfndobbocaaGreatClone
import Derived.Deep.RegionHeld
namespace Go.Proofs.YtdlhlfndobbocaaGreat
open Go.RowKit
open Mth

theorem implAm (n : Int) (w : World) : Calls Tryz.prog 76 #[.int .i64 n] w fun e w' => e = .returned (.bool (decide (Inn n 0 1000000000))) ∧ w = w' := by
  by_cases h0 : 0 ≤ n
  · by_cases h1 : n ≤ 1000000000
    · rw [decide_eq_true (show Inn n 0 1000000000 from ⟨h0, h1⟩)]
      go_enter Tryz.func76, Tryz.ntmps76
      go_wp2
      go_ret
      exact ⟨rfl, rfl⟩
    · rw [decide_eq_false (show ¬ Inn n 0 1000000000 from fun h => h1 h.2)]
      go_enter Tryz.func76, Tryz.ntmps76
      go_wp2
      go_ret
      exact ⟨rfl, rfl⟩
  · rw [decide_eq_false (show ¬ Inn n 0 1000000000 from fun h => h0 h.1)]
    go_enter Tryz.func76, Tryz.ntmps76
    go_wp2
    go_ret
    exact ⟨rfl, rfl⟩
theorem implAmB (n : Int) (b : Bool) (w : World) (h : amB n = b) : Calls Tryz.prog 76 #[.int .i64 n] w fun e w' => e = .returned (.bool b) ∧ w = w' := by
  have e : decide (Inn n 0 1000000000) = b := h
  rw [← e]
  exact implAm n w
theorem implKeyB (s : ByteArray) (b : Bool) (w : World) (h : keyOk s.data.toList = b) : Calls Tryz.prog 73 #[.string s] w fun e w' => e = .returned (.bool b) ∧ w = w' := by
  rw [← h]
  exact implKeyOk s w

set_option maxRecDepth 100000 in
set_option maxHeartbeats 2000000 in
theorem implPuOk (p : Pu) (w : World) : Calls Tryz.prog 71 #[puv p] w fun e w' => e = .returned (.bool (puOk p)) ∧ Below w.heap.size w w' := by
  obtain ⟨pk, pm, pf, ps⟩ := p
  cases hk : keyOk pk.data.toList
  case' false =>
    have HP := hide (show puOk ⟨pk, pm, pf, ps⟩ = false by simp [puOk, hk])
    have HK := hide (fun w1 => implKeyB pk false w1 hk)
    clear hk
    go_enter Tryz.func71, Tryz.ntmps71
    go_wp2_with (go_at_call 73; refine (unhide HK _).mono ?_; rintro e w1 ⟨rfl, rfl⟩)
    go_ret
    exact ⟨ret_bool (unhide HP).symm, below_one' w _⟩
  have HK := hide (fun w1 => implKeyB pk true w1 hk)
  cases h1 : amB pm
  case' false =>
    have HP := hide (show puOk ⟨pk, pm, pf, ps⟩ = false by simp [puOk, h1])
    have H1 := hide (fun w1 => implAmB pm false w1 h1)
    clear hk h1
    go_enter Tryz.func71, Tryz.ntmps71
    go_wp2_with (first | (go_at_call 73; refine (unhide HK _).mono ?_; rintro e w1 ⟨rfl, rfl⟩) | (go_at_call 76; refine (unhide H1 _).mono ?_; rintro e w1 ⟨rfl, rfl⟩))
    go_ret
    exact ⟨ret_bool (unhide HP).symm, below_one' w _⟩
  have H1 := hide (fun w1 => implAmB pm true w1 h1)
  cases h2 : amB pf
  case' false =>
    have HP := hide (show puOk ⟨pk, pm, pf, ps⟩ = false by simp [puOk, h2])
    have H2 := hide (fun w1 => implAmB pf false w1 h2)
    clear hk h1 h2
    go_enter Tryz.func71, Tryz.ntmps71
    go_wp2_with (first | (go_at_call 73; refine (unhide HK _).mono ?_; rintro e w1 ⟨rfl, rfl⟩) | (go_at_call_of 76 pm; refine (unhide H1 _).mono ?_; rintro e w1 ⟨rfl, rfl⟩) | (go_at_call_of 76 pf; refine (unhide H2 _).mono ?_; rintro e w1 ⟨rfl, rfl⟩))
    go_ret
    exact ⟨ret_bool (unhide HP).symm, below_one' w _⟩
  have H2 := hide (fun w1 => implAmB pf true w1 h2)
  cases h3 : amB ps
  case' false =>
    have HP := hide (show puOk ⟨pk, pm, pf, ps⟩ = false by simp [puOk, h3])
    have H3 := hide (fun w1 => implAmB ps false w1 h3)
    clear hk h1 h2 h3
    go_enter Tryz.func71, Tryz.ntmps71
    go_wp2_with (first | (go_at_call 73; refine (unhide HK _).mono ?_; rintro e w1 ⟨rfl, rfl⟩) | (go_at_call_of 76 pm; refine (unhide H1 _).mono ?_; rintro e w1 ⟨rfl, rfl⟩) | (go_at_call_of 76 pf; refine (unhide H2 _).mono ?_; rintro e w1 ⟨rfl, rfl⟩) | (go_at_call_of 76 ps; refine (unhide H3 _).mono ?_; rintro e w1 ⟨rfl, rfl⟩))
    go_ret
    exact ⟨ret_bool (unhide HP).symm, below_one' w _⟩
  have H3 := hide (fun w1 => implAmB ps true w1 h3)
  have g2 : 0 ≤ pf ∧ pf ≤ 1000000000 := of_decide_eq_true h2
  have g3 : 0 ≤ ps ∧ ps ≤ 1000000000 := of_decide_eq_true h3
  obtain ⟨g20, g21⟩ := g2
  obtain ⟨g30, g31⟩ := g3
  have HP := hide (show puOk ⟨pk, pm, pf, ps⟩ = amB (pf + ps) by simp [puOk, hk, h1, h2, h3])
  have H4 := hide (fun w1 => implAmB (pf + ps) _ w1 rfl)
  clear hk h1 h2 h3
  go_enter Tryz.func71, Tryz.ntmps71
  go_wp2_with (first | (go_at_call 73; refine (unhide HK _).mono ?_; rintro e w1 ⟨rfl, rfl⟩) | (go_at_call_of 76 pm; refine (unhide H1 _).mono ?_; rintro e w1 ⟨rfl, rfl⟩) | (go_at_call_of 76 pf; refine (unhide H2 _).mono ?_; rintro e w1 ⟨rfl, rfl⟩) | (go_at_call_of 76 ps; refine (unhide H3 _).mono ?_; rintro e w1 ⟨rfl, rfl⟩) | (go_at_call_of 76 (pf + ps); refine (unhide H4 _).mono ?_; rintro e w1 ⟨rfl, rfl⟩))
  go_ret
  exact ⟨ret_bool (unhide HP).symm, below_one' w _⟩
end Go.Proofs.YtdlhlfndobbocaaGreat
