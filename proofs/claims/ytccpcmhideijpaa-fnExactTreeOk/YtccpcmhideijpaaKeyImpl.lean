/-
  What the program's KeyOk comes to.
-/
import Derived.Test.YtccpcmhideijpaaKey
namespace Go.Proofs.Ytccpcmhideijpaa
open Go.RowKit

set_option maxRecDepth 100000 in
set_option maxHeartbeats 1000000 in
theorem implKeyOk (s : ByteArray) (w : World) :
    Calls Try.prog 82 #[.string s] w fun e w' => e = .returned (.bool (Mth.keyOk s.data.toList)) ∧ w = w' := by
  by_cases hlen : (1 : Int) ≤ (s.size : Int) ∧ (s.size : Int) ≤ 10
  · obtain ⟨hs1, hs2⟩ := hlen
    have hne : s.toList.isEmpty = false := not_empty s (by omega)
    have h10 : decide (10 < (s.size : Int)) = false := by simp; omega
    go_enter Try.func82, Try.ntmps82
    go_wp2
    go_loop [13] (fun i => ∃ k : Nat, k ≤ s.size ∧ i = .int .i64 k ∧ (s.data.toList.take k).all Mth.keyByte = true) (fun i => s.size - (intOf i).toNat)
    case atStart => exact ⟨0, Nat.zero_le _, rfl, rfl⟩
    case round =>
      obtain ⟨k, hk, rfl, hall⟩ := hrel
      have HA := hide hall
      clear hall
      by_cases hlt : k < s.size
      · have HS : Hid ((s.data.toList.take (k + 1)).all Mth.keyByte = ((s.data.toList.take k).all Mth.keyByte && Mth.keyByte s[k])) := by rw [Mth.take_snoc s k hlt]; exact Mth.all_snoc _ _
        have hc : s[k].toNat < 256 := s[k].toNat_lt
        rcases Mth.byte_cases s[k] with h | h
        · have HK := hide (Mth.keyByte_yes _ h)
          rcases h with ⟨h1, h2⟩ | ⟨h1, h2⟩
          all_goals
            go_wp2_with (first | (go_at_call 97; first | (refine (small_yes _ _ ?_ ?_).mono ?_; omega; omega; rintro e w' ⟨rfl, rfl⟩) | (refine (small_no _ _ ?_).mono ?_; omega; rintro e w' ⟨rfl, rfl⟩)) | (go_at_call 98; first | (refine (digit_yes _ _ ?_ ?_).mono ?_; omega; omega; rintro e w' ⟨rfl, rfl⟩) | (refine (digit_no _ _ ?_).mono ?_; omega; rintro e w' ⟨rfl, rfl⟩)))
            go_round
            case rel => exact ⟨k + 1, by omega, by go_num, by rw [unhide HS, unhide HA, unhide HK]; rfl⟩
            case measure => simp [intOf]; omega
        · have HK := hide (Mth.keyByte_no _ h)
          have HF : Hid (Mth.keyOk s.data.toList = false) := Mth.keyOk_bad _ (k + 1) (by rw [unhide HS, unhide HA, unhide HK]; rfl)
          rcases h with h1 | ⟨h1, h2⟩ | h1
          all_goals
            go_wp2_with (first | (go_at_call 97; first | (refine (small_yes _ _ ?_ ?_).mono ?_; omega; omega; rintro e w' ⟨rfl, rfl⟩) | (refine (small_no _ _ ?_).mono ?_; omega; rintro e w' ⟨rfl, rfl⟩)) | (go_at_call 98; first | (refine (digit_yes _ _ ?_ ?_).mono ?_; omega; omega; rintro e w' ⟨rfl, rfl⟩) | (refine (digit_no _ _ ?_).mono ?_; omega; rintro e w' ⟨rfl, rfl⟩)))
            go_ret
            exact ⟨ret_bool (unhide HF).symm, rfl⟩
      · rw [Mth.take_all s k hlt] at HA
        have HF : Hid (Mth.keyOk s.data.toList = decide (1 ≤ s.data.toList.length ∧ s.data.toList.length ≤ 10)) := Mth.keyOk_all _ (unhide HA)
        rw [size_toList s] at HF
        go_wp2
        go_ret
        exact ⟨ret_bool (by rw [unhide HF]; simp; omega), rfl⟩
  · have HF : Hid (Mth.keyOk s.data.toList = false) := Mth.keyOk_len _ (by rw [size_toList]; omega)
    by_cases h0 : s.size = 0
    · have he : s = ByteArray.empty := eq_empty s h0
      subst he
      go_enter Try.func82, Try.ntmps82
      go_wp2
      go_ret
      exact ⟨ret_bool (unhide HF).symm, rfl⟩
    · have hne : s.toList.isEmpty = false := not_empty s (by omega)
      have h10 : 10 < (s.size : Int) := by omega
      go_enter Try.func82, Try.ntmps82
      go_wp2
      go_ret
      exact ⟨ret_bool (unhide HF).symm, rfl⟩
end Go.Proofs.Ytccpcmhideijpaa
