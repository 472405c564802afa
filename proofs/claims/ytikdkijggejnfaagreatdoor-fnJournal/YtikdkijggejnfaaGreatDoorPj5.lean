/- Parts. -/
import Derived.Test.YtikdkijggejnfaaGreatDoorPj4
import Derived.Test.YtikdkijggejnfaaGreatDoorPj1
import Derived.OrdersHeld
import Derived.Lib.QuietBelow
namespace Go.Proofs.YtikdkijggejnfaaGreatDoor
open Go.RowKit
open Mth

set_option maxRecDepth 100000 in
set_option maxHeartbeats 2000000 in
theorem specMsgOk_route (K F T I L : Int) (k : ByteArray) (N : Int) (w : World) (_hs : k.size ≤ maxLen) (hr : rtB F T = false) : Calls Tryz.prog 73 #[mgv ⟨K, F, T, I, L, k, N⟩] w fun e w' => e = .returned (.bool (mgOk ⟨K, F, T, I, L, k, N⟩)) ∧ Below w.heap.size w w' := by
  cases h1 : ndB F
  case' false =>
    have HP := hide (show mgOk ⟨K, F, T, I, L, k, N⟩ = false by simp [mgOk, rtB, h1])
    have H1 := hide (fun w1 => l04Node F false w1 h1)
    clear h1 hr
    go_enter Tryz.func73, Tryz.ntmps73
    go_wp2_with (first | (go_at_call_of 96 F; refine (unhide H1 _).mono ?_; rintro e w1 ⟨rfl, rfl⟩))
    go_ret
    exact ⟨ret_bool (unhide HP).symm, below_one w _⟩
  have H1 := hide (fun w1 => l04Node F true w1 h1)
  cases h2 : ndB T
  case' false =>
    have HP := hide (show mgOk ⟨K, F, T, I, L, k, N⟩ = false by simp [mgOk, rtB, h2])
    have H2 := hide (fun w1 => l04Node T false w1 h2)
    clear h1 h2 hr
    go_enter Tryz.func73, Tryz.ntmps73
    go_wp2_with (first | (go_at_call_of 96 F; refine (unhide H1 _).mono ?_; rintro e w1 ⟨rfl, rfl⟩) | (go_at_call_of 96 T; refine (unhide H2 _).mono ?_; rintro e w1 ⟨rfl, rfl⟩))
    go_ret
    exact ⟨ret_bool (unhide HP).symm, below_one w _⟩
  have H2 := hide (fun w1 => l04Node T true w1 h2)
  have hft : F = T := by
    rcases Decidable.em (F = T) with h | h
    · exact h
    · simp [rtB, h1, h2, h] at hr
  have HP := hide (show mgOk ⟨K, F, T, I, L, k, N⟩ = false by simp [mgOk, rtB, hft])
  clear h1 h2 hr
  subst hft
  go_enter Tryz.func73, Tryz.ntmps73
  go_wp2_with (first | (go_at_call_of 96 F; refine (unhide H1 _).mono ?_; rintro e w1 ⟨rfl, rfl⟩))
  go_ret
  exact ⟨ret_bool (unhide HP).symm, below_one w _⟩

set_option maxRecDepth 100000 in
set_option maxHeartbeats 2000000 in
theorem specMsgOk_want (_K F T I L : Int) (k : ByteArray) (N : Int) (w : World) (hs : k.size ≤ maxLen) (hr : rtB F T = true) : Calls Tryz.prog 73 #[mgv ⟨0, F, T, I, L, k, N⟩] w fun e w' => e = .returned (.bool (mgOk ⟨0, F, T, I, L, k, N⟩)) ∧ Below w.heap.size w w' := by
  have h1 : ndB F = true := by unfold rtB at hr; simp only [Bool.and_eq_true] at hr; exact hr.1.1
  have h2 : ndB T = true := by unfold rtB at hr; simp only [Bool.and_eq_true] at hr; exact hr.1.2
  have hft : ¬ F = T := by unfold rtB at hr; simp only [Bool.and_eq_true, decide_eq_true_iff] at hr; exact hr.2
  have H1 := hide (fun w1 => l04Node F true w1 h1)
  have H2 := hide (fun w1 => l04Node T true w1 h2)
  clear h1 h2
  cases hc2 : keyOk k.data.toList
  case' false =>
    have HP := hide (show mgOk ⟨0, F, T, I, L, k, N⟩ = false by simp [mgOk, hr, hc2])
    have HC2 := hide (fun w1 => specKeyB k false w1 hs hc2)
    clear hr hc2
    go_enter Tryz.func73, Tryz.ntmps73
    go_wp2_with (first | (go_at_call_of 96 F; refine (unhide H1 _).mono ?_; rintro e w1 ⟨rfl, rfl⟩) | (go_at_call_of 96 T; refine (unhide H2 _).mono ?_; rintro e w1 ⟨rfl, rfl⟩) | (go_at_call_of 76 k; refine (unhide HC2 _).mono ?_; rintro e w1 ⟨rfl, rfl⟩))
    go_ret
    exact ⟨ret_bool (unhide HP).symm, below_one w _⟩
  have HC2 := hide (fun w1 => specKeyB k true w1 hs hc2)
  cases hc3 : smB N
  case' false =>
    have HP := hide (show mgOk ⟨0, F, T, I, L, k, N⟩ = false by simp [mgOk, hr, hc2, hc3])
    have HC3 := hide (fun w1 => l04Some N false w1 hc3)
    clear hr hc2 hc3
    go_enter Tryz.func73, Tryz.ntmps73
    go_wp2_with (first | (go_at_call_of 96 F; refine (unhide H1 _).mono ?_; rintro e w1 ⟨rfl, rfl⟩) | (go_at_call_of 96 T; refine (unhide H2 _).mono ?_; rintro e w1 ⟨rfl, rfl⟩) | (go_at_call_of 76 k; refine (unhide HC2 _).mono ?_; rintro e w1 ⟨rfl, rfl⟩) | (go_at_call_of 77 N; refine (unhide HC3 _).mono ?_; rintro e w1 ⟨rfl, rfl⟩))
    go_ret
    exact ⟨ret_bool (unhide HP).symm, below_one w _⟩
  have HC3 := hide (fun w1 => l04Some N true w1 hc3)
  by_cases hzI : I = 0
  case' neg =>
    have HP := hide (show mgOk ⟨0, F, T, I, L, k, N⟩ = false by simp [mgOk, hr, hc2, hc3, hzI])
    have he : (I == 0) = false := by simp [hzI]
    clear hr hc2 hc3
    go_enter Tryz.func73, Tryz.ntmps73
    go_wp2_with (first | (go_at_call_of 96 F; refine (unhide H1 _).mono ?_; rintro e w1 ⟨rfl, rfl⟩) | (go_at_call_of 96 T; refine (unhide H2 _).mono ?_; rintro e w1 ⟨rfl, rfl⟩) | (go_at_call_of 76 k; refine (unhide HC2 _).mono ?_; rintro e w1 ⟨rfl, rfl⟩) | (go_at_call_of 77 N; refine (unhide HC3 _).mono ?_; rintro e w1 ⟨rfl, rfl⟩))
    go_ret
    exact ⟨ret_bool (by first | exact (unhide HP).symm | exact he.trans (unhide HP).symm), below_one w _⟩
  subst hzI
  by_cases hzL : L = 0
  case' neg =>
    have HP := hide (show mgOk ⟨0, F, T, 0, L, k, N⟩ = false by simp [mgOk, hr, hc2, hc3, hzL])
    have he : (L == 0) = false := by simp [hzL]
    clear hr hc2 hc3
    go_enter Tryz.func73, Tryz.ntmps73
    go_wp2_with (first | (go_at_call_of 96 F; refine (unhide H1 _).mono ?_; rintro e w1 ⟨rfl, rfl⟩) | (go_at_call_of 96 T; refine (unhide H2 _).mono ?_; rintro e w1 ⟨rfl, rfl⟩) | (go_at_call_of 76 k; refine (unhide HC2 _).mono ?_; rintro e w1 ⟨rfl, rfl⟩) | (go_at_call_of 77 N; refine (unhide HC3 _).mono ?_; rintro e w1 ⟨rfl, rfl⟩))
    go_ret
    exact ⟨ret_bool (by first | exact (unhide HP).symm | exact he.trans (unhide HP).symm), below_one w _⟩
  subst hzL
  have HP := hide (show mgOk ⟨0, F, T, 0, 0, k, N⟩ = true by simp [mgOk, hr, hc2, hc3])
  clear hr hc2 hc3
  go_enter Tryz.func73, Tryz.ntmps73
  go_wp2_with (first | (go_at_call_of 96 F; refine (unhide H1 _).mono ?_; rintro e w1 ⟨rfl, rfl⟩) | (go_at_call_of 96 T; refine (unhide H2 _).mono ?_; rintro e w1 ⟨rfl, rfl⟩) | (go_at_call_of 76 k; refine (unhide HC2 _).mono ?_; rintro e w1 ⟨rfl, rfl⟩) | (go_at_call_of 77 N; refine (unhide HC3 _).mono ?_; rintro e w1 ⟨rfl, rfl⟩))
  go_ret
  exact ⟨ret_bool (unhide HP).symm, below_one w _⟩

set_option maxRecDepth 100000 in
set_option maxHeartbeats 2000000 in
theorem specMsgOk_pay (_K F T I L : Int) (k : ByteArray) (N : Int) (w : World) (hs : k.size ≤ maxLen) (hr : rtB F T = true) : Calls Tryz.prog 73 #[mgv ⟨1, F, T, I, L, k, N⟩] w fun e w' => e = .returned (.bool (mgOk ⟨1, F, T, I, L, k, N⟩)) ∧ Below w.heap.size w w' := by
  have h1 : ndB F = true := by unfold rtB at hr; simp only [Bool.and_eq_true] at hr; exact hr.1.1
  have h2 : ndB T = true := by unfold rtB at hr; simp only [Bool.and_eq_true] at hr; exact hr.1.2
  have hft : ¬ F = T := by unfold rtB at hr; simp only [Bool.and_eq_true, decide_eq_true_iff] at hr; exact hr.2
  have H1 := hide (fun w1 => l04Node F true w1 h1)
  have H2 := hide (fun w1 => l04Node T true w1 h2)
  clear h1 h2
  cases hc2 : keyOk k.data.toList
  case' false =>
    have HP := hide (show mgOk ⟨1, F, T, I, L, k, N⟩ = false by simp [mgOk, hr, hc2])
    have HC2 := hide (fun w1 => specKeyB k false w1 hs hc2)
    clear hr hc2
    go_enter Tryz.func73, Tryz.ntmps73
    go_wp2_with (first | (go_at_call_of 96 F; refine (unhide H1 _).mono ?_; rintro e w1 ⟨rfl, rfl⟩) | (go_at_call_of 96 T; refine (unhide H2 _).mono ?_; rintro e w1 ⟨rfl, rfl⟩) | (go_at_call_of 76 k; refine (unhide HC2 _).mono ?_; rintro e w1 ⟨rfl, rfl⟩))
    go_ret
    exact ⟨ret_bool (unhide HP).symm, below_one w _⟩
  have HC2 := hide (fun w1 => specKeyB k true w1 hs hc2)
  cases hc3 : smB N
  case' false =>
    have HP := hide (show mgOk ⟨1, F, T, I, L, k, N⟩ = false by simp [mgOk, hr, hc2, hc3])
    have HC3 := hide (fun w1 => l04Some N false w1 hc3)
    clear hr hc2 hc3
    go_enter Tryz.func73, Tryz.ntmps73
    go_wp2_with (first | (go_at_call_of 96 F; refine (unhide H1 _).mono ?_; rintro e w1 ⟨rfl, rfl⟩) | (go_at_call_of 96 T; refine (unhide H2 _).mono ?_; rintro e w1 ⟨rfl, rfl⟩) | (go_at_call_of 76 k; refine (unhide HC2 _).mono ?_; rintro e w1 ⟨rfl, rfl⟩) | (go_at_call_of 77 N; refine (unhide HC3 _).mono ?_; rintro e w1 ⟨rfl, rfl⟩))
    go_ret
    exact ⟨ret_bool (unhide HP).symm, below_one w _⟩
  have HC3 := hide (fun w1 => l04Some N true w1 hc3)
  cases hc4 : smB I
  case' false =>
    have HP := hide (show mgOk ⟨1, F, T, I, L, k, N⟩ = false by simp [mgOk, hr, hc2, hc3, hc4])
    have HC4 := hide (fun w1 => l04Some I false w1 hc4)
    clear hr hc2 hc3 hc4
    go_enter Tryz.func73, Tryz.ntmps73
    go_wp2_with (first | (go_at_call_of 96 F; refine (unhide H1 _).mono ?_; rintro e w1 ⟨rfl, rfl⟩) | (go_at_call_of 96 T; refine (unhide H2 _).mono ?_; rintro e w1 ⟨rfl, rfl⟩) | (go_at_call_of 76 k; refine (unhide HC2 _).mono ?_; rintro e w1 ⟨rfl, rfl⟩) | (go_at_call_of 77 N; refine (unhide HC3 _).mono ?_; rintro e w1 ⟨rfl, rfl⟩) | (go_at_call_of 77 I; refine (unhide HC4 _).mono ?_; rintro e w1 ⟨rfl, rfl⟩))
    go_ret
    exact ⟨ret_bool (unhide HP).symm, below_one w _⟩
  have HC4 := hide (fun w1 => l04Some I true w1 hc4)
  cases hc5 : decide (1 ≤ L ∧ L ≤ I)
  case' false =>
    have HP := hide (show mgOk ⟨1, F, T, I, L, k, N⟩ = false by simp [mgOk, hr, hc2, hc3, hc4, hc5])
    have HC5 := hide (fun w1 => l01InR L 1 I false w1 hc5)
    clear hr hc2 hc3 hc4 hc5
    go_enter Tryz.func73, Tryz.ntmps73
    go_wp2_with (first | (go_at_call_of 96 F; refine (unhide H1 _).mono ?_; rintro e w1 ⟨rfl, rfl⟩) | (go_at_call_of 96 T; refine (unhide H2 _).mono ?_; rintro e w1 ⟨rfl, rfl⟩) | (go_at_call_of 76 k; refine (unhide HC2 _).mono ?_; rintro e w1 ⟨rfl, rfl⟩) | (go_at_call_of 77 N; refine (unhide HC3 _).mono ?_; rintro e w1 ⟨rfl, rfl⟩) | (go_at_call_of 77 I; refine (unhide HC4 _).mono ?_; rintro e w1 ⟨rfl, rfl⟩) | (go_at_call 72; refine (unhide HC5 _).mono ?_; rintro e w1 ⟨rfl, rfl⟩))
    go_ret
    exact ⟨ret_bool (unhide HP).symm, below_one w _⟩
  have HC5 := hide (fun w1 => l01InR L 1 I true w1 hc5)
  have HP := hide (show mgOk ⟨1, F, T, I, L, k, N⟩ = true by simp [mgOk, hr, hc2, hc3, hc4, hc5])
  clear hr hc2 hc3 hc4 hc5
  go_enter Tryz.func73, Tryz.ntmps73
  go_wp2_with (first | (go_at_call_of 96 F; refine (unhide H1 _).mono ?_; rintro e w1 ⟨rfl, rfl⟩) | (go_at_call_of 96 T; refine (unhide H2 _).mono ?_; rintro e w1 ⟨rfl, rfl⟩) | (go_at_call_of 76 k; refine (unhide HC2 _).mono ?_; rintro e w1 ⟨rfl, rfl⟩) | (go_at_call_of 77 N; refine (unhide HC3 _).mono ?_; rintro e w1 ⟨rfl, rfl⟩) | (go_at_call_of 77 I; refine (unhide HC4 _).mono ?_; rintro e w1 ⟨rfl, rfl⟩) | (go_at_call 72; refine (unhide HC5 _).mono ?_; rintro e w1 ⟨rfl, rfl⟩))
  go_ret
  exact ⟨ret_bool (unhide HP).symm, below_one w _⟩

set_option maxRecDepth 100000 in
set_option maxHeartbeats 2000000 in
theorem specMsgOk_ack (_K F T I L : Int) (k : ByteArray) (N : Int) (w : World) (hs : k.size ≤ maxLen) (hr : rtB F T = true) : Calls Tryz.prog 73 #[mgv ⟨2, F, T, I, L, k, N⟩] w fun e w' => e = .returned (.bool (mgOk ⟨2, F, T, I, L, k, N⟩)) ∧ Below w.heap.size w w' := by
  have h1 : ndB F = true := by unfold rtB at hr; simp only [Bool.and_eq_true] at hr; exact hr.1.1
  have h2 : ndB T = true := by unfold rtB at hr; simp only [Bool.and_eq_true] at hr; exact hr.1.2
  have hft : ¬ F = T := by unfold rtB at hr; simp only [Bool.and_eq_true, decide_eq_true_iff] at hr; exact hr.2
  have H1 := hide (fun w1 => l04Node F true w1 h1)
  have H2 := hide (fun w1 => l04Node T true w1 h2)
  clear h1 h2
  cases hc2 : smB I
  case' false =>
    have HP := hide (show mgOk ⟨2, F, T, I, L, k, N⟩ = false by simp [mgOk, hr, hc2])
    have HC2 := hide (fun w1 => l04Some I false w1 hc2)
    clear hr hc2
    go_enter Tryz.func73, Tryz.ntmps73
    go_wp2_with (first | (go_at_call_of 96 F; refine (unhide H1 _).mono ?_; rintro e w1 ⟨rfl, rfl⟩) | (go_at_call_of 96 T; refine (unhide H2 _).mono ?_; rintro e w1 ⟨rfl, rfl⟩) | (go_at_call_of 77 I; refine (unhide HC2 _).mono ?_; rintro e w1 ⟨rfl, rfl⟩))
    go_ret
    exact ⟨ret_bool (unhide HP).symm, below_one w _⟩
  have HC2 := hide (fun w1 => l04Some I true w1 hc2)
  by_cases hz : k.size = 0
  case' neg =>
    have hne : k.toList.isEmpty = false := not_empty k (by omega)
    have HP := hide (show mgOk ⟨2, F, T, I, L, k, N⟩ = false by simp [mgOk, hr, hc2, hz])
    clear hr hc2
    go_enter Tryz.func73, Tryz.ntmps73
    go_wp2_with (first | (go_at_call_of 96 F; refine (unhide H1 _).mono ?_; rintro e w1 ⟨rfl, rfl⟩) | (go_at_call_of 96 T; refine (unhide H2 _).mono ?_; rintro e w1 ⟨rfl, rfl⟩) | (go_at_call_of 77 I; refine (unhide HC2 _).mono ?_; rintro e w1 ⟨rfl, rfl⟩))
    go_ret
    exact ⟨ret_bool (unhide HP).symm, below_one w _⟩
  obtain rfl := eq_empty k hz
  by_cases hzN : N = 0
  case' neg =>
    have HP := hide (show mgOk ⟨2, F, T, I, L, ByteArray.empty, N⟩ = false by simp [mgOk, hr, hc2, hz, hzN])
    have he : (N == 0) = false := by simp [hzN]
    clear hr hc2
    go_enter Tryz.func73, Tryz.ntmps73
    go_wp2_with (first | (go_at_call_of 96 F; refine (unhide H1 _).mono ?_; rintro e w1 ⟨rfl, rfl⟩) | (go_at_call_of 96 T; refine (unhide H2 _).mono ?_; rintro e w1 ⟨rfl, rfl⟩) | (go_at_call_of 77 I; refine (unhide HC2 _).mono ?_; rintro e w1 ⟨rfl, rfl⟩))
    go_ret
    exact ⟨ret_bool (by first | exact (unhide HP).symm | exact he.trans (unhide HP).symm), below_one w _⟩
  subst hzN
  by_cases hzL : L = 0
  case' neg =>
    have HP := hide (show mgOk ⟨2, F, T, I, L, ByteArray.empty, 0⟩ = false by simp [mgOk, hr, hc2, hz, hzL])
    have he : (L == 0) = false := by simp [hzL]
    clear hr hc2
    go_enter Tryz.func73, Tryz.ntmps73
    go_wp2_with (first | (go_at_call_of 96 F; refine (unhide H1 _).mono ?_; rintro e w1 ⟨rfl, rfl⟩) | (go_at_call_of 96 T; refine (unhide H2 _).mono ?_; rintro e w1 ⟨rfl, rfl⟩) | (go_at_call_of 77 I; refine (unhide HC2 _).mono ?_; rintro e w1 ⟨rfl, rfl⟩))
    go_ret
    exact ⟨ret_bool (by first | exact (unhide HP).symm | exact he.trans (unhide HP).symm), below_one w _⟩
  subst hzL
  have HP := hide (show mgOk ⟨2, F, T, I, 0, ByteArray.empty, 0⟩ = true by simp [mgOk, hr, hc2, hz])
  clear hr hc2
  go_enter Tryz.func73, Tryz.ntmps73
  go_wp2_with (first | (go_at_call_of 96 F; refine (unhide H1 _).mono ?_; rintro e w1 ⟨rfl, rfl⟩) | (go_at_call_of 96 T; refine (unhide H2 _).mono ?_; rintro e w1 ⟨rfl, rfl⟩) | (go_at_call_of 77 I; refine (unhide HC2 _).mono ?_; rintro e w1 ⟨rfl, rfl⟩))
  go_ret
  exact ⟨ret_bool (unhide HP).symm, below_one w _⟩

set_option maxRecDepth 100000 in
set_option maxHeartbeats 2000000 in
theorem specMsgOk_else (K F T I L : Int) (k : ByteArray) (N : Int) (w : World) (_hs : k.size ≤ maxLen) (hr : rtB F T = true) (k0 : ¬ K = 0) (k1 : ¬ K = 1) (k2 : ¬ K = 2) : Calls Tryz.prog 73 #[mgv ⟨K, F, T, I, L, k, N⟩] w fun e w' => e = .returned (.bool (mgOk ⟨K, F, T, I, L, k, N⟩)) ∧ Below w.heap.size w w' := by
  have h1 : ndB F = true := by unfold rtB at hr; simp only [Bool.and_eq_true] at hr; exact hr.1.1
  have h2 : ndB T = true := by unfold rtB at hr; simp only [Bool.and_eq_true] at hr; exact hr.1.2
  have hft : ¬ F = T := by unfold rtB at hr; simp only [Bool.and_eq_true, decide_eq_true_iff] at hr; exact hr.2
  have H1 := hide (fun w1 => l04Node F true w1 h1)
  have H2 := hide (fun w1 => l04Node T true w1 h2)
  clear h1 h2
  have HP := hide (show mgOk ⟨K, F, T, I, L, k, N⟩ = false by simp [mgOk, hr, k0, k1, k2])
  clear hr
  go_enter Tryz.func73, Tryz.ntmps73
  go_wp2_with (first | (go_at_call_of 96 F; refine (unhide H1 _).mono ?_; rintro e w1 ⟨rfl, rfl⟩) | (go_at_call_of 96 T; refine (unhide H2 _).mono ?_; rintro e w1 ⟨rfl, rfl⟩))
  go_ret
  exact ⟨ret_bool (unhide HP).symm, below_one w _⟩

theorem specMsgOk (m : Mg) (w : World) (hs : m.k.size ≤ maxLen) : Calls Tryz.prog 73 #[mgv m] w fun e w' => e = .returned (.bool (mgOk m)) ∧ Below w.heap.size w w' := by
  obtain ⟨K, F, T, I, L, k, N⟩ := m
  cases hr : rtB F T
  · exact specMsgOk_route K F T I L k N w hs hr
  by_cases k0 : K = 0
  · subst k0; exact specMsgOk_want 0 F T I L k N w hs hr
  by_cases k1 : K = 1
  · subst k1; exact specMsgOk_pay 0 F T I L k N w hs hr
  by_cases k2 : K = 2
  · subst k2; exact specMsgOk_ack 0 F T I L k N w hs hr
  exact specMsgOk_else K F T I L k N w hs hr k0 k1 k2

/-- The second world has grown out of the first one. -/
abbrev Ge (w w' : World) : Prop := Below w.heap.size w w'
theorem Ge.trans {a b c : World} (h : Ge a b) (h' : Ge b c) : Ge a c := Below.trans h (Below.mono h' (Below.size h))
/-- A world that has grown out of another, spelt out. -/
abbrev Gr (w : World) (p : Regrown) : World := Sort.grow (redrawn w p.d) p.os

section
variable {P : Program} {ops : Array Oper} {Q : Exit → Act → World → Prop} {md : Region.Mode}

/-- Whatever order is picked from here on, in this world and in every one that has grown out of it. -/
def wpMix (P : Program) (md : Region.Mode) (ops : Array Oper) (Q : Exit → Act → World → Prop) : Nat → Array Bool → Act → World → Prop
  | 0, listed, a, w => Region.ready md ops listed = [] ∧ ∀ x, Ge w x → Q .normal a x
  | fuel + 1, listed, a, w => ∀ x, Ge w x → (Region.ready md ops listed = [] → Q .normal a x) ∧ ∀ i ∈ Region.ready md ops listed, wpOp P ops Q i (fun a' y => Ge x y ∧ wpMix P md ops Q fuel (listed.setIfInBounds i true) a' y) a x

theorem wpMix_grow {fuel : Nat} {listed : Array Bool} {a : Act} {w x : World} (hx : Ge w x) (h : wpMix P md ops Q fuel listed a w) : wpMix P md ops Q fuel listed a x := by
  cases fuel with
  | zero => exact ⟨h.1, fun y hy => h.2 y (Ge.trans hx hy)⟩
  | succ fuel => exact fun y hy => h y (Ge.trans hx hy)
theorem wpAny_of_mix : ∀ (fuel : Nat) (listed : Array Bool) (a : Act) (w : World), wpMix P md ops Q fuel listed a w → wpAny P md ops Q fuel listed a w
  | 0, _, _, w, h => ⟨h.1, h.2 w (Below.refl _ _)⟩
  | fuel + 1, _, _, w, h => ⟨(h w (Below.refl _ _)).1, fun i hi => wpOp_mono (fun a' y hy => wpAny_of_mix fuel _ a' y hy.2) ((h w (Below.refl _ _)).2 i hi)⟩

/-- In every world that has grown out of w the operation yields v, and leaves a grown world. -/
def YieldsG (P : Program) (ops : Array Oper) (o : Oper) (v : Value) (a : Act) (w : World) : Prop :=
  (Region.wanted o (yielded ops a.tmps) = true ∧ ∀ x, Ge w x → Oper.quietUpon P (Ge x) x v ((execOp a.eval o).run P x)) ∨ (Region.wanted o (yielded ops a.tmps) = false ∧ v = undef)

theorem YieldsG.wpOp {i : Nat} {o : Oper} {v : Value} {a : Act} {w x : World} (hi : ops[i]? = some o) (hy : YieldsG P ops o v a w) (hx : Ge w x) {K : Act → World → Prop} (h : ∀ y, Ge x y → K (a.put o.dst v) y) : wpOp P ops Q i K a x := by
  unfold Go.wpOp
  simp only [hi]
  rcases hy with ⟨hw, hv⟩ | ⟨hw, rfl⟩
  · rw [if_pos hw]
    left
    have h1 := hv x hx
    unfold Oper.wp
    generalize (execOp a.eval o).run P x = r at *
    cases r with
    | halt e y => simp only [Oper.quietUpon] at h1
    | ok n y =>
      cases n <;> simp only [Oper.quietUpon] at h1 <;> simp only [Oper.upon]
      case value u => obtain ⟨rfl, rfl⟩ := h1; exact h _ (Below.refl _ _)
      case skip => obtain ⟨rfl, rfl⟩ := h1; exact h _ (Below.refl _ _)
      case enter f args =>
        obtain ⟨rfl, hc⟩ := h1
        exact hc.mono fun e z ⟨he, hz⟩ => by subst he; exact h z hz
  · rw [if_neg (by rw [hw]; simp)]
    exact h _ (Below.refl _ _)

/-- What an operation sees is not turned by one apart from it. -/
theorem wpOp_past {j : Nat} {oi oj : Oper} {v : Value} (hj : ops[j]? = some oj) (hap : oi.apart ops oj = true) (hsi : ∀ cs b, oi.op ≠ .select cs b) (hsj : ∀ cs b, oj.op ≠ .select cs b)
    (hQ : ∀ c a w, Q (.panic c) (a.put oi.dst v) w → Q (.panic c) a w) {K : Act → World → Prop} {a : Act} {x : World} (h : wpOp P ops Q j K (a.put oi.dst v) x) :
    wpOp P ops Q j (fun a' y => (execOp a'.eval oi = execOp a.eval oi ∧ Region.wanted oi (yielded ops a'.tmps) = Region.wanted oi (yielded ops a.tmps)) ∧ K (a'.put oi.dst v) y) a x := by
  obtain ⟨g1, g2, g3⟩ := Oper.apart_spec hap
  have same : ∀ (b : Act) u, execOp (b.put oj.dst u).eval oi = execOp b.eval oi ∧ Region.wanted oi (yielded ops (b.put oj.dst u).tmps) = Region.wanted oi (yielded ops b.tmps) := fun b u => ⟨execOp_put oi hsi b oj.dst u g3, wanted_put oi b oj.dst u g3⟩
  unfold wpOp at *
  simp only [hj] at *
  rw [wanted_put oj a oi.dst v g1] at h
  by_cases hw : Region.wanted oj (yielded ops a.tmps) = true
  · rw [if_pos hw] at h ⊢
    rcases h with h | ⟨h, hl⟩
    · left
      unfold Oper.wp at *
      rw [execOp_put oj hsj a oi.dst v g1] at h
      generalize (execOp a.eval oj).run P x = r at *
      cases r with
      | halt e y => cases e <;> simp only [Oper.upon] at h ⊢; exact hQ _ _ _ h
      | ok n y =>
        cases n <;> simp only [Oper.upon] at h ⊢
        case value u => exact ⟨same a u, by rw [← Act.put_comm a v u g2]; exact h⟩
        case skip => exact ⟨same a _, by rw [← Act.put_comm a v undef g2]; exact h⟩
        case defer d =>
          refine ⟨same { a with defers := d :: a.defers } _, ?_⟩
          rw [← Act.put_comm _ v undef g2, ← Act.put_defers]
          exact h
        case enter f args =>
          refine Calls.mono h fun e z he => ?_
          cases e with
          | returned u => exact ⟨same a u, by rw [← Act.put_comm a v u g2]; exact he⟩
          | panicked c => exact hQ _ _ _ he
          | outgrown => exact he
        case row r args => exact Rows.mono h fun u z he => ⟨same a u, by rw [← Act.put_comm a v u g2]; exact he⟩
    · right
      refine ⟨?_, hl⟩
      unfold Oper.asks at *
      rw [execOp_put oj hsj a oi.dst v g1] at h
      exact h
  · rw [if_neg hw] at h ⊢
    exact ⟨same a _, by rw [← Act.put_comm a v undef g2]; exact h⟩

theorem wpMix_first {i : Nat} {oi : Oper} {v : Value} (hi : ops[i]? = some oi) (hsel : ∀ (j : Nat) (o : Oper) cs b, ops[j]? = some o → o.op ≠ .select cs b) (hQ : ∀ c a w, Q (.panic c) (a.put oi.dst v) w → Q (.panic c) a w) :
    ∀ (fuel : Nat) (listed : Array Bool) (a : Act) (w : World),
      (∀ j oj, ops[j]? = some oj → j ≠ i → listed.getD j true = false → (∀ e ∈ oj.after, Region.binds md e = true → e.on ≠ i) → oi.apart ops oj = true) →
      i ∈ Region.ready md ops listed → YieldsG P ops oi v a w → wpMix P md ops Q fuel (listed.setIfInBounds i true) (a.put oi.dst v) w → wpMix P md ops Q (fuel + 1) listed a w := by
  intro fuel
  induction fuel with
  | zero =>
    intro listed a w _ hr hy H x hx
    refine ⟨fun h => (by rw [h] at hr; cases hr), fun j hj => ?_⟩
    by_cases hji : j = i
    · subst hji
      exact hy.wpOp hi hx fun y hy' => ⟨hy', wpMix_grow (Ge.trans hx hy') H⟩
    · have := ready_mono hj hji
      rw [H.1] at this
      cases this
  | succ fuel ih =>
    intro listed a w hfree hr hy H x hx
    refine ⟨fun h => (by rw [h] at hr; cases hr), fun j hj => ?_⟩
    by_cases hji : j = i
    · subst hji
      exact hy.wpOp hi hx fun y hy' => ⟨hy', wpMix_grow (Ge.trans hx hy') H⟩
    · have h1 := (H x hx).2 j (ready_mono hj hji)
      obtain ⟨hjun, oj, hoj, hall⟩ := mem_ready.1 hj
      have hnot : ∀ e ∈ oj.after, Region.binds md e = true → e.on ≠ i := fun e he hb heq => by
        have h2 := hall e he hb
        have h0 := (mem_ready.1 hr).1
        rw [heq] at h2
        rcases Nat.lt_or_ge i listed.size with h' | h'
        · simp [h'] at h0 h2; rw [h0] at h2; cases h2
        · simp [Array.getElem?_eq_none h'] at h2
      have h2 := wpOp_past hoj (hfree j oj hoj hji hjun hnot) (fun cs b => hsel i oi cs b hi) (fun cs b => hsel j oj cs b hoj) hQ h1
      refine wpOp_mono (fun a' y hy2 => ?_) h2
      obtain ⟨⟨hs1, hs2⟩, hg, hm⟩ := hy2
      refine ⟨hg, ih (listed.setIfInBounds j true) a' y ?_ (ready_mono hr (Ne.symm hji)) ?_ ?_⟩
      · intro k ok hk hki hun hno
        refine hfree k ok hk hki ?_ hno
        by_cases hjk : j = k
        · subst hjk; exact hjun
        · rw [getD_set_ne true hjk] at hun; exact hun
      · unfold YieldsG at *
        rw [hs1, hs2]
        exact hy.imp (fun ⟨p, q⟩ => ⟨p, fun z hz => q z (Ge.trans (Ge.trans hx hg) hz)⟩) id
      · rw [Array.setIfInBounds_comm _ _ hji]
        exact hm

/-- Take number i first, what it yields asked in every grown world, spelt out. -/
theorem wpMix_take (i : Nat) {oi : Oper} {fuel : Nat} {listed : Array Bool} {a : Act} {w : World} (hi : ops[i]? = some oi) (hs : Region.noSelect ops = true) (hf : Region.free md ops listed i = true) (hr : (Region.ready md ops listed).contains i = true)
    (hQ : ∀ v c a w, Q (.panic c) (a.put oi.dst v) w → Q (.panic c) a w)
    (h : ∀ K : Act → Prop, (∀ a', wpMix P md ops Q fuel (listed.setIfInBounds i true) a' w → K a') → if Region.wanted oi (yielded ops a.tmps) then ∃ v, (∀ p : Regrown, Oper.quietUpon P (Ge (Gr w p)) (Gr w p) v ((execOp a.eval oi).run P (Gr w p))) ∧ K (a.put oi.dst v) else K (a.put oi.dst undef)) :
    wpMix P md ops Q (fuel + 1) listed a w := by
  have h' := h _ fun _ h => h
  by_cases hw : Region.wanted oi (yielded ops a.tmps) = true
  · rw [if_pos hw] at h'
    obtain ⟨v, hv, hk⟩ := h'
    refine wpMix_first hi (Region.noSelect_spec hs) (hQ v) fuel listed a w (Region.free_spec hi hf) (by simpa using hr) (.inl ⟨hw, fun x hx => ?_⟩) hk
    obtain ⟨p, rfl⟩ := regrown_of_below hx
    exact hv p
  · rw [if_neg hw] at h'
    exact wpMix_first hi (Region.noSelect_spec hs) (hQ undef) fuel listed a w (Region.free_spec hi hf) (by simpa using hr) (.inr ⟨by simpa using hw, rfl⟩) h'

/-- Number i alone may come up. -/
theorem wpMix_one (i : Nat) {oi : Oper} {fuel : Nat} {listed : Array Bool} {a : Act} {w : World} (hi : ops[i]? = some oi) (hr : Region.ready md ops listed = [i]) (hw : Region.wanted oi (yielded ops a.tmps) = true)
    (h : ∀ x, Ge w x → oi.wp P a x (fun a' y => Ge x y ∧ wpMix P md ops Q fuel (listed.setIfInBounds i true) a' y) Q) : wpMix P md ops Q (fuel + 1) listed a w := by
  intro x hx
  rw [hr]
  refine ⟨fun h => (by cases h), fun j hj => ?_⟩
  obtain rfl : j = i := by simpa using hj
  unfold wpOp
  simp only [hi]
  rw [if_pos hw]
  exact .inl (h x hx)

theorem wpMix_done {listed : Array Bool} {a : Act} {w : World} (hr : Region.ready md ops listed = []) (h : ∀ x, Ge w x → Q .normal a x) : wpMix P md ops Q 0 listed a w := ⟨hr, h⟩

theorem wp_region_mix {id : Nat} {a : Act} {w : World} (hm : P.follows .mixedOrders = true) (h : wpMix P .any ops Q ops.size (Array.replicate ops.size false) a w) : (Code.region id ops true).wp P Q a w :=
  wp_region_any hm (wpAny_of_mix _ _ _ _ (wpMix_grow (w := w) (x := { w with drawn := w.drawn + 1 }) ⟨rfl, rfl, rfl, Nat.le_refl _, fun _ _ => rfl⟩ h))
end
end Go.Proofs.YtikdkijggejnfaaGreatDoor
