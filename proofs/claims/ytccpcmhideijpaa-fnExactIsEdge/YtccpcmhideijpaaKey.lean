/-
  What KeyOk comes to, in the program and in its model.
-/
import Derived.Test.YtccpcmhideijpaaIn
namespace Go.Proofs.Ytccpcmhideijpaa
open Go.RowKit


set_option maxRecDepth 100000 in
set_option maxHeartbeats 1000000 in
theorem specKeyOk (s : ByteArray) (w : World) (hs : s.size ≤ maxLen) :
    Calls Try.prog 64 #[.string s] w fun e w' => e = .returned (.bool (Mth.keyOk s.data.toList)) ∧ w = w' := by
  unfold maxLen at hs
  go_enter Try.func64, Try.ntmps64
  go_wp2
  go_loop [3] (fun i => ∃ k : Nat, k ≤ s.size ∧ i = .int .i64 k ∧ (s.data.toList.take k).all Mth.keyByte = true) (fun i => s.size - (intOf i).toNat)
  case atStart => exact ⟨0, Nat.zero_le _, rfl, rfl⟩
  case round =>
    obtain ⟨k, hk, rfl, hall⟩ := hrel
    have HA := hide hall
    clear hall
    by_cases hlt : k < s.size
    · have HS : Hid ((s.data.toList.take (k + 1)).all Mth.keyByte = ((s.data.toList.take k).all Mth.keyByte && Mth.keyByte s[k])) := by rw [Mth.take_snoc s k hlt]; exact Mth.all_snoc _ _
      have hc : s[k].toNat < 256 := s[k].toNat_lt
      rcases Mth.byte_cases s[k] with h | h
      · have HK := hide (Mth.keyByte_yes _ h)
        rcases h with ⟨h1, h2⟩ | ⟨h1, h2⟩
        all_goals
          go_wp2_with (go_at_call 29; first | (refine (l01In_yes _ _ _ _ ?_ ?_).mono ?_; omega; omega; rintro e w' ⟨rfl, rfl⟩) | (refine (l01In_no _ _ _ _ ?_).mono ?_; omega; rintro e w' ⟨rfl, rfl⟩))
          go_round
          case rel => exact ⟨k + 1, by omega, by go_num, by rw [unhide HS, unhide HA, unhide HK]; rfl⟩
          case measure => simp [intOf]; omega
      · have HK := hide (Mth.keyByte_no _ h)
        have HF : Hid (Mth.keyOk s.data.toList = false) := Mth.keyOk_bad _ (k + 1) (by rw [unhide HS, unhide HA, unhide HK]; rfl)
        rcases h with h1 | ⟨h1, h2⟩ | h1
        all_goals
          go_wp2_with (go_at_call 29; first | (refine (l01In_yes _ _ _ _ ?_ ?_).mono ?_; omega; omega; rintro e w' ⟨rfl, rfl⟩) | (refine (l01In_no _ _ _ _ ?_).mono ?_; omega; rintro e w' ⟨rfl, rfl⟩))
          go_ret
          exact ⟨ret_bool (unhide HF).symm, rfl⟩
    · rw [Mth.take_all s k hlt] at HA
      have HF : Hid (Mth.keyOk s.data.toList = decide (1 ≤ s.data.toList.length ∧ s.data.toList.length ≤ 10)) := Mth.keyOk_all _ (unhide HA)
      rw [size_toList s] at HF
      by_cases hin : (1 : Int) ≤ (s.size : Int) ∧ (s.size : Int) ≤ 10
      · obtain ⟨hi1, hi2⟩ := hin
        go_wp2_with (go_at_call 29; first | (refine (l01In_yes _ _ _ _ ?_ ?_).mono ?_; omega; omega; rintro e w' ⟨rfl, rfl⟩) | (refine (l01In_no _ _ _ _ ?_).mono ?_; omega; rintro e w' ⟨rfl, rfl⟩))
        go_ret
        exact ⟨ret_bool (by rw [unhide HF]; simp; omega), rfl⟩
      · go_wp2_with (go_at_call 29; first | (refine (l01In_yes _ _ _ _ ?_ ?_).mono ?_; omega; omega; rintro e w' ⟨rfl, rfl⟩) | (refine (l01In_no _ _ _ _ ?_).mono ?_; omega; rintro e w' ⟨rfl, rfl⟩))
        go_ret
        exact ⟨ret_bool (by rw [unhide HF]; simp; omega), rfl⟩

theorem small_yes (n : Int) (w : World) (h1 : 97 ≤ n) (h2 : n ≤ 122) : Calls Try.prog 97 #[.int .u8 n] w fun e w' => e = .returned (.bool true) ∧ w = w' := by
  go_enter Try.func97, Try.ntmps97
  go_wp2
  go_ret
  exact ⟨rfl, rfl⟩
theorem small_no (n : Int) (w : World) (h : n < 97 ∨ 122 < n) : Calls Try.prog 97 #[.int .u8 n] w fun e w' => e = .returned (.bool false) ∧ w = w' := by
  by_cases h1 : 97 ≤ n
  · have h2 : ¬ n ≤ 122 := by omega
    clear h
    go_enter Try.func97, Try.ntmps97
    go_wp2
    go_ret
    exact ⟨rfl, rfl⟩
  · clear h
    go_enter Try.func97, Try.ntmps97
    go_wp2
    go_ret
    exact ⟨rfl, rfl⟩
theorem digit_yes (n : Int) (w : World) (h1 : 48 ≤ n) (h2 : n ≤ 57) : Calls Try.prog 98 #[.int .u8 n] w fun e w' => e = .returned (.bool true) ∧ w = w' := by
  go_enter Try.func98, Try.ntmps98
  go_wp2
  go_ret
  exact ⟨rfl, rfl⟩
theorem digit_no (n : Int) (w : World) (h : n < 48 ∨ 57 < n) : Calls Try.prog 98 #[.int .u8 n] w fun e w' => e = .returned (.bool false) ∧ w = w' := by
  by_cases h1 : 48 ≤ n
  · have h2 : ¬ n ≤ 57 := by omega
    clear h
    go_enter Try.func98, Try.ntmps98
    go_wp2
    go_ret
    exact ⟨rfl, rfl⟩
  · clear h
    go_enter Try.func98, Try.ntmps98
    go_wp2
    go_ret
    exact ⟨rfl, rfl⟩
end Go.Proofs.Ytccpcmhideijpaa
