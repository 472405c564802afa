/- Parts. -/
import Derived.Test.YtikdkijggejnfaaGreatDoorPj10
import Derived.Test.YtikdkijggejnfaaGreatDoorPj5
namespace Go.Proofs.YtikdkijggejnfaaGreatDoor
open Go.RowKit
open Mth

set_option maxRecDepth 100000 in
set_option maxHeartbeats 4000000 in
theorem specOpOk_mint (no : Int) (k : ByteArray) (n : Int) (m : Mg) (w : World) (hs : k.size ≤ maxLen) : Calls Tryz.prog 52 #[opw ⟨0, no, k, n, m⟩] w fun e w' => e = .returned (.bool (opOk ⟨0, no, k, n, m⟩)) ∧ Below w.heap.size w w' := by
  obtain ⟨mK, mF, mT, mI, mL, mk, mN⟩ := m
  obtain ⟨R, hR⟩ : ∃ R, opOk ⟨0, no, k, n, ⟨mK, mF, mT, mI, mL, mk, mN⟩⟩ = R := ⟨_, rfl⟩
  rw [hR]
  have HR := hide hR
  clear hR
  cases hk : keyOk k.data.toList
  · have HK := hide (fun w1 => specKeyB k false w1 hs hk)
    cases hn : smB n
    · have HN := hide (fun w1 => l04Some n false w1 hn)
      have HP := hide (show R = (decide (no = 0) && false && false && zmB ⟨mK, mF, mT, mI, mL, mk, mN⟩) by rw [← unhide HR]; simp [opOk, hk, hn])
      clear HR
      clear hk hn
      go_enter Tryz.func52, Tryz.ntmps52
      go_wp2_with (first | (go_at_call_of 76 k; refine (unhide HK _).mono ?_; rintro e w1 ⟨rfl, rfl⟩) | (go_at_call_of 77 n; refine (unhide HN _).mono ?_; rintro e w1 ⟨rfl, rfl⟩))
      all_goals
        go_ret
        refine ⟨ret_bool ?_, below_one w _⟩
        rw [unhide HP]
        simp [zmB, *]
    · have HN := hide (fun w1 => l04Some n true w1 hn)
      have HP := hide (show R = (decide (no = 0) && false && true && zmB ⟨mK, mF, mT, mI, mL, mk, mN⟩) by rw [← unhide HR]; simp [opOk, hk, hn])
      clear HR
      clear hk hn
      go_enter Tryz.func52, Tryz.ntmps52
      go_wp2_with (first | (go_at_call_of 76 k; refine (unhide HK _).mono ?_; rintro e w1 ⟨rfl, rfl⟩) | (go_at_call_of 77 n; refine (unhide HN _).mono ?_; rintro e w1 ⟨rfl, rfl⟩))
      all_goals
        go_ret
        refine ⟨ret_bool ?_, below_one w _⟩
        rw [unhide HP]
        simp [zmB, *]
  · have HK := hide (fun w1 => specKeyB k true w1 hs hk)
    cases hn : smB n
    · have HN := hide (fun w1 => l04Some n false w1 hn)
      have HP := hide (show R = (decide (no = 0) && true && false && zmB ⟨mK, mF, mT, mI, mL, mk, mN⟩) by rw [← unhide HR]; simp [opOk, hk, hn])
      clear HR
      clear hk hn
      go_enter Tryz.func52, Tryz.ntmps52
      go_wp2_with (first | (go_at_call_of 76 k; refine (unhide HK _).mono ?_; rintro e w1 ⟨rfl, rfl⟩) | (go_at_call_of 77 n; refine (unhide HN _).mono ?_; rintro e w1 ⟨rfl, rfl⟩))
      all_goals
        go_ret
        refine ⟨ret_bool ?_, below_one w _⟩
        rw [unhide HP]
        simp [zmB, *]
    · have HN := hide (fun w1 => l04Some n true w1 hn)
      have HP := hide (show R = (decide (no = 0) && true && true && zmB ⟨mK, mF, mT, mI, mL, mk, mN⟩) by rw [← unhide HR]; simp [opOk, hk, hn])
      clear HR
      clear hk hn
      go_enter Tryz.func52, Tryz.ntmps52
      go_wp2_with (first | (go_at_call_of 76 k; refine (unhide HK _).mono ?_; rintro e w1 ⟨rfl, rfl⟩) | (go_at_call_of 77 n; refine (unhide HN _).mono ?_; rintro e w1 ⟨rfl, rfl⟩))
      all_goals
        go_ret
        refine ⟨ret_bool ?_, below_one w _⟩
        rw [unhide HP]
        simp [zmB, *]
set_option maxRecDepth 100000 in
set_option maxHeartbeats 4000000 in
theorem specOpOk_want (no : Int) (k : ByteArray) (n : Int) (m : Mg) (w : World) (hs : k.size ≤ maxLen) : Calls Tryz.prog 52 #[opw ⟨3, no, k, n, m⟩] w fun e w' => e = .returned (.bool (opOk ⟨3, no, k, n, m⟩)) ∧ Below w.heap.size w w' := by
  obtain ⟨mK, mF, mT, mI, mL, mk, mN⟩ := m
  obtain ⟨R, hR⟩ : ∃ R, opOk ⟨3, no, k, n, ⟨mK, mF, mT, mI, mL, mk, mN⟩⟩ = R := ⟨_, rfl⟩
  rw [hR]
  have HR := hide hR
  clear hR
  cases hk : keyOk k.data.toList
  · have HK := hide (fun w1 => specKeyB k false w1 hs hk)
    cases hn : smB n
    · have HN := hide (fun w1 => l04Some n false w1 hn)
      have HP := hide (show R = (decide (no = 0) && false && false && zmB ⟨mK, mF, mT, mI, mL, mk, mN⟩) by rw [← unhide HR]; simp [opOk, hk, hn])
      clear HR
      clear hk hn
      go_enter Tryz.func52, Tryz.ntmps52
      go_wp2_with (first | (go_at_call_of 76 k; refine (unhide HK _).mono ?_; rintro e w1 ⟨rfl, rfl⟩) | (go_at_call_of 77 n; refine (unhide HN _).mono ?_; rintro e w1 ⟨rfl, rfl⟩))
      all_goals
        go_ret
        refine ⟨ret_bool ?_, below_one w _⟩
        rw [unhide HP]
        simp [zmB, *]
    · have HN := hide (fun w1 => l04Some n true w1 hn)
      have HP := hide (show R = (decide (no = 0) && false && true && zmB ⟨mK, mF, mT, mI, mL, mk, mN⟩) by rw [← unhide HR]; simp [opOk, hk, hn])
      clear HR
      clear hk hn
      go_enter Tryz.func52, Tryz.ntmps52
      go_wp2_with (first | (go_at_call_of 76 k; refine (unhide HK _).mono ?_; rintro e w1 ⟨rfl, rfl⟩) | (go_at_call_of 77 n; refine (unhide HN _).mono ?_; rintro e w1 ⟨rfl, rfl⟩))
      all_goals
        go_ret
        refine ⟨ret_bool ?_, below_one w _⟩
        rw [unhide HP]
        simp [zmB, *]
  · have HK := hide (fun w1 => specKeyB k true w1 hs hk)
    cases hn : smB n
    · have HN := hide (fun w1 => l04Some n false w1 hn)
      have HP := hide (show R = (decide (no = 0) && true && false && zmB ⟨mK, mF, mT, mI, mL, mk, mN⟩) by rw [← unhide HR]; simp [opOk, hk, hn])
      clear HR
      clear hk hn
      go_enter Tryz.func52, Tryz.ntmps52
      go_wp2_with (first | (go_at_call_of 76 k; refine (unhide HK _).mono ?_; rintro e w1 ⟨rfl, rfl⟩) | (go_at_call_of 77 n; refine (unhide HN _).mono ?_; rintro e w1 ⟨rfl, rfl⟩))
      all_goals
        go_ret
        refine ⟨ret_bool ?_, below_one w _⟩
        rw [unhide HP]
        simp [zmB, *]
    · have HN := hide (fun w1 => l04Some n true w1 hn)
      have HP := hide (show R = (decide (no = 0) && true && true && zmB ⟨mK, mF, mT, mI, mL, mk, mN⟩) by rw [← unhide HR]; simp [opOk, hk, hn])
      clear HR
      clear hk hn
      go_enter Tryz.func52, Tryz.ntmps52
      go_wp2_with (first | (go_at_call_of 76 k; refine (unhide HK _).mono ?_; rintro e w1 ⟨rfl, rfl⟩) | (go_at_call_of 77 n; refine (unhide HN _).mono ?_; rintro e w1 ⟨rfl, rfl⟩))
      all_goals
        go_ret
        refine ⟨ret_bool ?_, below_one w _⟩
        rw [unhide HP]
        simp [zmB, *]
set_option maxRecDepth 100000 in
set_option maxHeartbeats 4000000 in
theorem specOpOk_back (no : Int) (k : ByteArray) (n : Int) (m : Mg) (w : World) (hs : k.size ≤ maxLen) : Calls Tryz.prog 52 #[opw ⟨4, no, k, n, m⟩] w fun e w' => e = .returned (.bool (opOk ⟨4, no, k, n, m⟩)) ∧ Below w.heap.size w w' := by
  obtain ⟨mK, mF, mT, mI, mL, mk, mN⟩ := m
  obtain ⟨R, hR⟩ : ∃ R, opOk ⟨4, no, k, n, ⟨mK, mF, mT, mI, mL, mk, mN⟩⟩ = R := ⟨_, rfl⟩
  rw [hR]
  have HR := hide hR
  clear hR
  cases hk : keyOk k.data.toList
  · have HK := hide (fun w1 => specKeyB k false w1 hs hk)
    cases hn : smB n
    · have HN := hide (fun w1 => l04Some n false w1 hn)
      have HP := hide (show R = (decide (no = 0) && false && false && zmB ⟨mK, mF, mT, mI, mL, mk, mN⟩) by rw [← unhide HR]; simp [opOk, hk, hn])
      clear HR
      clear hk hn
      go_enter Tryz.func52, Tryz.ntmps52
      go_wp2_with (first | (go_at_call_of 76 k; refine (unhide HK _).mono ?_; rintro e w1 ⟨rfl, rfl⟩) | (go_at_call_of 77 n; refine (unhide HN _).mono ?_; rintro e w1 ⟨rfl, rfl⟩))
      all_goals
        go_ret
        refine ⟨ret_bool ?_, below_one w _⟩
        rw [unhide HP]
        simp [zmB, *]
    · have HN := hide (fun w1 => l04Some n true w1 hn)
      have HP := hide (show R = (decide (no = 0) && false && true && zmB ⟨mK, mF, mT, mI, mL, mk, mN⟩) by rw [← unhide HR]; simp [opOk, hk, hn])
      clear HR
      clear hk hn
      go_enter Tryz.func52, Tryz.ntmps52
      go_wp2_with (first | (go_at_call_of 76 k; refine (unhide HK _).mono ?_; rintro e w1 ⟨rfl, rfl⟩) | (go_at_call_of 77 n; refine (unhide HN _).mono ?_; rintro e w1 ⟨rfl, rfl⟩))
      all_goals
        go_ret
        refine ⟨ret_bool ?_, below_one w _⟩
        rw [unhide HP]
        simp [zmB, *]
  · have HK := hide (fun w1 => specKeyB k true w1 hs hk)
    cases hn : smB n
    · have HN := hide (fun w1 => l04Some n false w1 hn)
      have HP := hide (show R = (decide (no = 0) && true && false && zmB ⟨mK, mF, mT, mI, mL, mk, mN⟩) by rw [← unhide HR]; simp [opOk, hk, hn])
      clear HR
      clear hk hn
      go_enter Tryz.func52, Tryz.ntmps52
      go_wp2_with (first | (go_at_call_of 76 k; refine (unhide HK _).mono ?_; rintro e w1 ⟨rfl, rfl⟩) | (go_at_call_of 77 n; refine (unhide HN _).mono ?_; rintro e w1 ⟨rfl, rfl⟩))
      all_goals
        go_ret
        refine ⟨ret_bool ?_, below_one w _⟩
        rw [unhide HP]
        simp [zmB, *]
    · have HN := hide (fun w1 => l04Some n true w1 hn)
      have HP := hide (show R = (decide (no = 0) && true && true && zmB ⟨mK, mF, mT, mI, mL, mk, mN⟩) by rw [← unhide HR]; simp [opOk, hk, hn])
      clear HR
      clear hk hn
      go_enter Tryz.func52, Tryz.ntmps52
      go_wp2_with (first | (go_at_call_of 76 k; refine (unhide HK _).mono ?_; rintro e w1 ⟨rfl, rfl⟩) | (go_at_call_of 77 n; refine (unhide HN _).mono ?_; rintro e w1 ⟨rfl, rfl⟩))
      all_goals
        go_ret
        refine ⟨ret_bool ?_, below_one w _⟩
        rw [unhide HP]
        simp [zmB, *]
set_option maxRecDepth 100000 in
set_option maxHeartbeats 4000000 in
theorem specOpOk_admit (no : Int) (k : ByteArray) (n : Int) (m : Mg) (w : World) (hs : k.size ≤ maxLen) : Calls Tryz.prog 52 #[opw ⟨1, no, k, n, m⟩] w fun e w' => e = .returned (.bool (opOk ⟨1, no, k, n, m⟩)) ∧ Below w.heap.size w w' := by
  obtain ⟨mK, mF, mT, mI, mL, mk, mN⟩ := m
  obtain ⟨R, hR⟩ : ∃ R, opOk ⟨1, no, k, n, ⟨mK, mF, mT, mI, mL, mk, mN⟩⟩ = R := ⟨_, rfl⟩
  rw [hR]
  have HR := hide hR
  clear hR
  cases hk : keyOk k.data.toList
  · have HK := hide (fun w1 => specKeyB k false w1 hs hk)
    cases hn : smB n
    · have HN := hide (fun w1 => l04Some n false w1 hn)
      cases ho : smB no
      · have HO := hide (fun w1 => l04Some no false w1 ho)
        have HP := hide (show R = (false && false && false && zmB ⟨mK, mF, mT, mI, mL, mk, mN⟩) by rw [← unhide HR]; simp [opOk, hk, hn, ho])
        clear HR
        clear hk hn ho
        go_enter Tryz.func52, Tryz.ntmps52
        go_wp2_with (first | (go_at_call_of 76 k; refine (unhide HK _).mono ?_; rintro e w1 ⟨rfl, rfl⟩) | (go_at_call_of 77 n; refine (unhide HN _).mono ?_; rintro e w1 ⟨rfl, rfl⟩) | (go_at_call_of 77 no; refine (unhide HO _).mono ?_; rintro e w1 ⟨rfl, rfl⟩))
        all_goals
          go_ret
          refine ⟨ret_bool ?_, below_one w _⟩
          rw [unhide HP]
          simp [zmB, *]
      · have HO := hide (fun w1 => l04Some no true w1 ho)
        have HP := hide (show R = (false && false && true && zmB ⟨mK, mF, mT, mI, mL, mk, mN⟩) by rw [← unhide HR]; simp [opOk, hk, hn, ho])
        clear HR
        clear hk hn ho
        go_enter Tryz.func52, Tryz.ntmps52
        go_wp2_with (first | (go_at_call_of 76 k; refine (unhide HK _).mono ?_; rintro e w1 ⟨rfl, rfl⟩) | (go_at_call_of 77 n; refine (unhide HN _).mono ?_; rintro e w1 ⟨rfl, rfl⟩) | (go_at_call_of 77 no; refine (unhide HO _).mono ?_; rintro e w1 ⟨rfl, rfl⟩))
        all_goals
          go_ret
          refine ⟨ret_bool ?_, below_one w _⟩
          rw [unhide HP]
          simp [zmB, *]
    · have HN := hide (fun w1 => l04Some n true w1 hn)
      cases ho : smB no
      · have HO := hide (fun w1 => l04Some no false w1 ho)
        have HP := hide (show R = (false && true && false && zmB ⟨mK, mF, mT, mI, mL, mk, mN⟩) by rw [← unhide HR]; simp [opOk, hk, hn, ho])
        clear HR
        clear hk hn ho
        go_enter Tryz.func52, Tryz.ntmps52
        go_wp2_with (first | (go_at_call_of 76 k; refine (unhide HK _).mono ?_; rintro e w1 ⟨rfl, rfl⟩) | (go_at_call_of 77 n; refine (unhide HN _).mono ?_; rintro e w1 ⟨rfl, rfl⟩) | (go_at_call_of 77 no; refine (unhide HO _).mono ?_; rintro e w1 ⟨rfl, rfl⟩))
        all_goals
          go_ret
          refine ⟨ret_bool ?_, below_one w _⟩
          rw [unhide HP]
          simp [zmB, *]
      · have HO := hide (fun w1 => l04Some no true w1 ho)
        have HP := hide (show R = (false && true && true && zmB ⟨mK, mF, mT, mI, mL, mk, mN⟩) by rw [← unhide HR]; simp [opOk, hk, hn, ho])
        clear HR
        clear hk hn ho
        go_enter Tryz.func52, Tryz.ntmps52
        go_wp2_with (first | (go_at_call_of 76 k; refine (unhide HK _).mono ?_; rintro e w1 ⟨rfl, rfl⟩) | (go_at_call_of 77 n; refine (unhide HN _).mono ?_; rintro e w1 ⟨rfl, rfl⟩) | (go_at_call_of 77 no; refine (unhide HO _).mono ?_; rintro e w1 ⟨rfl, rfl⟩))
        all_goals
          go_ret
          refine ⟨ret_bool ?_, below_one w _⟩
          rw [unhide HP]
          simp [zmB, *]
  · have HK := hide (fun w1 => specKeyB k true w1 hs hk)
    cases hn : smB n
    · have HN := hide (fun w1 => l04Some n false w1 hn)
      cases ho : smB no
      · have HO := hide (fun w1 => l04Some no false w1 ho)
        have HP := hide (show R = (true && false && false && zmB ⟨mK, mF, mT, mI, mL, mk, mN⟩) by rw [← unhide HR]; simp [opOk, hk, hn, ho])
        clear HR
        clear hk hn ho
        go_enter Tryz.func52, Tryz.ntmps52
        go_wp2_with (first | (go_at_call_of 76 k; refine (unhide HK _).mono ?_; rintro e w1 ⟨rfl, rfl⟩) | (go_at_call_of 77 n; refine (unhide HN _).mono ?_; rintro e w1 ⟨rfl, rfl⟩) | (go_at_call_of 77 no; refine (unhide HO _).mono ?_; rintro e w1 ⟨rfl, rfl⟩))
        all_goals
          go_ret
          refine ⟨ret_bool ?_, below_one w _⟩
          rw [unhide HP]
          simp [zmB, *]
      · have HO := hide (fun w1 => l04Some no true w1 ho)
        have HP := hide (show R = (true && false && true && zmB ⟨mK, mF, mT, mI, mL, mk, mN⟩) by rw [← unhide HR]; simp [opOk, hk, hn, ho])
        clear HR
        clear hk hn ho
        go_enter Tryz.func52, Tryz.ntmps52
        go_wp2_with (first | (go_at_call_of 76 k; refine (unhide HK _).mono ?_; rintro e w1 ⟨rfl, rfl⟩) | (go_at_call_of 77 n; refine (unhide HN _).mono ?_; rintro e w1 ⟨rfl, rfl⟩) | (go_at_call_of 77 no; refine (unhide HO _).mono ?_; rintro e w1 ⟨rfl, rfl⟩))
        all_goals
          go_ret
          refine ⟨ret_bool ?_, below_one w _⟩
          rw [unhide HP]
          simp [zmB, *]
    · have HN := hide (fun w1 => l04Some n true w1 hn)
      cases ho : smB no
      · have HO := hide (fun w1 => l04Some no false w1 ho)
        have HP := hide (show R = (true && true && false && zmB ⟨mK, mF, mT, mI, mL, mk, mN⟩) by rw [← unhide HR]; simp [opOk, hk, hn, ho])
        clear HR
        clear hk hn ho
        go_enter Tryz.func52, Tryz.ntmps52
        go_wp2_with (first | (go_at_call_of 76 k; refine (unhide HK _).mono ?_; rintro e w1 ⟨rfl, rfl⟩) | (go_at_call_of 77 n; refine (unhide HN _).mono ?_; rintro e w1 ⟨rfl, rfl⟩) | (go_at_call_of 77 no; refine (unhide HO _).mono ?_; rintro e w1 ⟨rfl, rfl⟩))
        all_goals
          go_ret
          refine ⟨ret_bool ?_, below_one w _⟩
          rw [unhide HP]
          simp [zmB, *]
      · have HO := hide (fun w1 => l04Some no true w1 ho)
        have HP := hide (show R = (true && true && true && zmB ⟨mK, mF, mT, mI, mL, mk, mN⟩) by rw [← unhide HR]; simp [opOk, hk, hn, ho])
        clear HR
        clear hk hn ho
        go_enter Tryz.func52, Tryz.ntmps52
        go_wp2_with (first | (go_at_call_of 76 k; refine (unhide HK _).mono ?_; rintro e w1 ⟨rfl, rfl⟩) | (go_at_call_of 77 n; refine (unhide HN _).mono ?_; rintro e w1 ⟨rfl, rfl⟩) | (go_at_call_of 77 no; refine (unhide HO _).mono ?_; rintro e w1 ⟨rfl, rfl⟩))
        all_goals
          go_ret
          refine ⟨ret_bool ?_, below_one w _⟩
          rw [unhide HP]
          simp [zmB, *]
set_option maxRecDepth 100000 in
set_option maxHeartbeats 4000000 in
theorem specOpOk_release (no : Int) (k : ByteArray) (n : Int) (m : Mg) (w : World) (_hs : k.size ≤ maxLen) : Calls Tryz.prog 52 #[opw ⟨2, no, k, n, m⟩] w fun e w' => e = .returned (.bool (opOk ⟨2, no, k, n, m⟩)) ∧ Below w.heap.size w w' := by
  obtain ⟨mK, mF, mT, mI, mL, mk, mN⟩ := m
  obtain ⟨R, hR⟩ : ∃ R, opOk ⟨2, no, k, n, ⟨mK, mF, mT, mI, mL, mk, mN⟩⟩ = R := ⟨_, rfl⟩
  rw [hR]
  have HR := hide hR
  clear hR
  cases ho : smB no
  · have HO := hide (fun w1 => l04Some no false w1 ho)
    have HP := hide (show R = (decide (k.toList = []) && decide (n = 0) && false && zmB ⟨mK, mF, mT, mI, mL, mk, mN⟩) by rw [← unhide HR]; simp [opOk, ho])
    clear HR
    clear ho
    go_enter Tryz.func52, Tryz.ntmps52
    go_wp2_with (first | (go_at_call_of 77 no; refine (unhide HO _).mono ?_; rintro e w1 ⟨rfl, rfl⟩))
    all_goals
      go_ret
      refine ⟨ret_bool ?_, below_one w _⟩
      rw [unhide HP]
      simp [zmB, *]
  · have HO := hide (fun w1 => l04Some no true w1 ho)
    have HP := hide (show R = (decide (k.toList = []) && decide (n = 0) && true && zmB ⟨mK, mF, mT, mI, mL, mk, mN⟩) by rw [← unhide HR]; simp [opOk, ho])
    clear HR
    clear ho
    go_enter Tryz.func52, Tryz.ntmps52
    go_wp2_with (first | (go_at_call_of 77 no; refine (unhide HO _).mono ?_; rintro e w1 ⟨rfl, rfl⟩))
    all_goals
      go_ret
      refine ⟨ret_bool ?_, below_one w _⟩
      rw [unhide HP]
      simp [zmB, *]
set_option maxRecDepth 100000 in
set_option maxHeartbeats 4000000 in
theorem specOpOk_tick (no : Int) (k : ByteArray) (n : Int) (m : Mg) (w : World) (_hs : k.size ≤ maxLen) : Calls Tryz.prog 52 #[opw ⟨5, no, k, n, m⟩] w fun e w' => e = .returned (.bool (opOk ⟨5, no, k, n, m⟩)) ∧ Below w.heap.size w w' := by
  obtain ⟨mK, mF, mT, mI, mL, mk, mN⟩ := m
  obtain ⟨R, hR⟩ : ∃ R, opOk ⟨5, no, k, n, ⟨mK, mF, mT, mI, mL, mk, mN⟩⟩ = R := ⟨_, rfl⟩
  rw [hR]
  have HR := hide hR
  clear hR
  have HP := hide (show R = (decide (k.toList = []) && decide (n = 0) && decide (no = 0) && zmB ⟨mK, mF, mT, mI, mL, mk, mN⟩) by rw [← unhide HR]; simp [opOk])
  clear HR
  go_enter Tryz.func52, Tryz.ntmps52
  go_wp2_with fail
  all_goals
    go_ret
    refine ⟨ret_bool ?_, below_one w _⟩
    rw [unhide HP]
    simp [zmB, *]
set_option maxRecDepth 100000 in
set_option maxHeartbeats 4000000 in
theorem specOpOk_hear (no : Int) (k : ByteArray) (n : Int) (m : Mg) (w : World) (hm : m.k.size ≤ maxLen) : Calls Tryz.prog 52 #[opw ⟨6, no, k, n, m⟩] w fun e w' => e = .returned (.bool (opOk ⟨6, no, k, n, m⟩)) ∧ Below w.heap.size w w' := by
  have HM := hide (fun w1 => specMsgOk m w1 hm)
  obtain ⟨R, hR⟩ : ∃ R, opOk ⟨6, no, k, n, m⟩ = R := ⟨_, rfl⟩
  rw [hR]
  have HP := hide (show R = (decide (k.toList = []) && decide (n = 0) && decide (no = 0) && mgOk m) by rw [← hR]; simp [opOk])
  clear hR
  generalize mgOk m = OK at *
  obtain ⟨mK, mF, mT, mI, mL, mk, mN⟩ := m
  go_enter Tryz.func52, Tryz.ntmps52
  go_wp2_with (go_at_call 73; refine (unhide HM _).mono ?_; rintro e w1 ⟨rfl, hb1⟩; have HB1 := hide hb1; clear hb1)
  all_goals
    go_ret
    refine ⟨ret_bool ?_, by first | exact below_one w _ | exact (below_one w _).trans ((unhide HB1).mono (by simp))⟩
    rw [unhide HP]
    simp [*]
set_option maxRecDepth 100000 in
set_option maxHeartbeats 4000000 in
theorem specOpOk_else (K no : Int) (k : ByteArray) (n : Int) (m : Mg) (w : World) (h0 : ¬ K = 0) (h1 : ¬ K = 1) (h2 : ¬ K = 2) (h3 : ¬ K = 3) (h4 : ¬ K = 4) (h5 : ¬ K = 5) (h6 : ¬ K = 6) : Calls Tryz.prog 52 #[opw ⟨K, no, k, n, m⟩] w fun e w' => e = .returned (.bool (opOk ⟨K, no, k, n, m⟩)) ∧ Below w.heap.size w w' := by
  have HP := hide (show opOk ⟨K, no, k, n, m⟩ = false by simp [opOk, h0, h1, h2, h3, h4, h5, h6])
  obtain ⟨mK, mF, mT, mI, mL, mk, mN⟩ := m
  go_enter Tryz.func52, Tryz.ntmps52
  go_wp2_with fail
  go_ret
  exact ⟨ret_bool (unhide HP).symm, below_one w _⟩
theorem specOpOk (o : Op5) (w : World) (hs : o.k.size ≤ maxLen) (hm : o.m.k.size ≤ maxLen) : Calls Tryz.prog 52 #[opw o] w fun e w' => e = .returned (.bool (opOk o)) ∧ Below w.heap.size w w' := by
  obtain ⟨K, no, k, n, m⟩ := o
  by_cases h0 : K = 0
  · subst h0; exact specOpOk_mint no k n m w hs
  by_cases h1 : K = 1
  · subst h1; exact specOpOk_admit no k n m w hs
  by_cases h2 : K = 2
  · subst h2; exact specOpOk_release no k n m w hs
  by_cases h3 : K = 3
  · subst h3; exact specOpOk_want no k n m w hs
  by_cases h4 : K = 4
  · subst h4; exact specOpOk_back no k n m w hs
  by_cases h5 : K = 5
  · subst h5; exact specOpOk_tick no k n m w hs
  by_cases h6 : K = 6
  · subst h6; exact specOpOk_hear no k n m w hm
  exact specOpOk_else K no k n m w h0 h1 h2 h3 h4 h5 h6
end Go.Proofs.YtikdkijggejnfaaGreatDoor
