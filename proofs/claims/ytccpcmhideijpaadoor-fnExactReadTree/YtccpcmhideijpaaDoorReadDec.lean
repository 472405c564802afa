/-
  What ReadDec comes to, in the program and in its model: what a decimal text is worth, or -1.
-/
import Derived.Test.YtccpcmhideijpaaDoorDecS
import Derived.Test.YtccpcmhideijpaaDoorIn
import Derived.Test.YtccpcmhideijpaaDoorIsNo
import Derived.Deep.RegionWith
namespace Go.Proofs.YtccpcmhideijpaaDoor
open Go.RowKit
open Go.Lib (decDigits itoa)

/-- What ReadDec hands back. -/
def readDec (l : List UInt8) : Int := if Mth.decOkB l then (Mth.val10 l : Int) else -1
theorem readDec_yes {l : List UInt8} (h : Mth.decOk l) : readDec l = Mth.val10 l := by unfold readDec; rw [if_pos ((Mth.decOkB_iff l).2 h)]
theorem readDec_no {l : List UInt8} (h : ¬ Mth.decOk l) : readDec l = -1 := by unfold readDec; rw [if_neg (fun h' => h ((Mth.decOkB_iff l).1 h'))]

theorem dig_bad {l : List UInt8} {k : Nat} (h : ¬ ∀ c ∈ l.take k, Mth.isDig c) : ¬ Mth.decOk l := fun ⟨_, h2, _⟩ => h fun c hc => h2 c (List.mem_of_mem_take hc)
theorem take_dig (s : ByteArray) (k : Nat) (hlt : k < s.size) (h : ∀ c ∈ s.data.toList.take k, Mth.isDig c) (hc : Mth.isDig s[k]) : ∀ c ∈ s.data.toList.take (k + 1), Mth.isDig c := by
  rw [Mth.take_snoc s k hlt]
  intro c hm
  rw [List.mem_append] at hm
  rcases hm with hm | hm
  · exact h c hm
  · simp at hm; subst hm; exact hc
theorem take_undig (s : ByteArray) (k : Nat) (hlt : k < s.size) (hc : ¬ Mth.isDig s[k]) : ¬ Mth.decOk s.data.toList := by
  apply dig_bad (k := k + 1)
  rw [Mth.take_snoc s k hlt]
  intro h
  exact hc (h s[k] (by simp))
theorem val_take (s : ByteArray) (k : Nat) (hlt : k < s.size) : Mth.val10 (s.data.toList.take (k + 1)) = Mth.val10 (s.data.toList.take k) * 10 + (s[k].toNat - 48) := by
  rw [Mth.take_snoc s k hlt, Mth.val10_snoc]
theorem val_bound (s : ByteArray) (k : Nat) (hk : k ≤ s.size) (h9 : s.size ≤ 9) (h : ∀ c ∈ s.data.toList.take k, Mth.isDig c) : Mth.val10 (s.data.toList.take k) ≤ 999999999 := by
  have h1 := Mth.val10_lt _ h
  have h2 : (s.data.toList.take k).length ≤ 9 := by rw [List.length_take, size_toList]; omega
  have h3 : 10 ^ (s.data.toList.take k).length ≤ 10 ^ 9 := Nat.pow_le_pow_right (by omega) h2
  omega

set_option maxRecDepth 100000 in
set_option maxHeartbeats 1000000 in
theorem specReadDec (s : ByteArray) (w : World) (hs : s.size ≤ maxLen) : Calls Tryd.prog 15 #[.string s] w fun e w' => e = .returned (.int .i64 (readDec s.data.toList)) ∧ w = w' := by
  unfold maxLen at hs
  go_enter Tryd.func15, Tryd.ntmps15
  go_wp2
  go_loop [3, 4] (fun n i => ∃ k m : Nat, k ≤ s.size ∧ i = .int .i64 k ∧ n = .int .i64 m ∧ m = Mth.val10 (s.data.toList.take k) ∧ (∀ c ∈ s.data.toList.take k, Mth.isDig c) ∧ (0 < k → s.size ≤ 9)) (fun _ i => s.size - (intOf i).toNat)
  case atStart => exact ⟨0, 0, Nat.zero_le _, rfl, rfl, rfl, by simp, by omega⟩
  case round =>
    obtain ⟨k, m, hk, rfl, rfl, hm, hd, h9⟩ := hrel
    have HM := hide hm
    have HD := hide hd
    clear hm hd
    by_cases hlt : k < s.size
    · have hc : s[k].toNat < 256 := s[k].toNat_lt
      by_cases hg : 48 ≤ (s[k].toNat : Int) ∧ (s[k].toNat : Int) ≤ 57
      · obtain ⟨hg1, hg2⟩ := hg
        by_cases hl9 : s.size ≤ 9
        · have HV := hide (val_take s k hlt)
          have HB := hide (take_dig s k hlt (unhide HD) ⟨by omega, by omega⟩)
          have hmb : m ≤ 999999999 := by rw [unhide HM]; exact val_bound s k hk hl9 (unhide HD)
          clear h9
          go_wp2_with (go_at_call 28; first | (refine (l01In_yes _ _ _ _ ?_ ?_).mono ?_; omega; omega; rintro e w' ⟨rfl, rfl⟩) | (refine (l01In_no _ _ _ _ ?_).mono ?_; omega; rintro e w' ⟨rfl, rfl⟩))
          go_round
          case rel => exact ⟨k + 1, m * 10 + (s[k].toNat - 48), by omega, by go_num, by go_num, by rw [unhide HV, unhide HM], unhide HB, by omega⟩
          case measure => simp [intOf]; omega
        · have HR := hide (readDec_no (l := s.data.toList) (fun h => hl9 (by have := h.2.2.2; rw [size_toList] at this; exact this)))
          have hb9 : decide (9 < (s.size : Int)) = true := by simp; omega
          clear h9
          go_wp2_with (go_at_call 28; first | (refine (l01In_yes _ _ _ _ ?_ ?_).mono ?_; omega; omega; rintro e w' ⟨rfl, rfl⟩) | (refine (l01In_no _ _ _ _ ?_).mono ?_; omega; rintro e w' ⟨rfl, rfl⟩))
          go_ret
          exact ⟨ret_int (unhide HR).symm, rfl⟩
      · have HR := hide (readDec_no (take_undig s k hlt (fun h => hg ⟨by have := h.1; omega, by have := h.2; omega⟩)))
        clear h9
        go_wp2_with (go_at_call 28; first | (refine (l01In_yes _ _ _ _ ?_ ?_).mono ?_; omega; omega; rintro e w' ⟨rfl, rfl⟩) | (refine (l01In_no _ _ _ _ ?_).mono ?_; omega; rintro e w' ⟨rfl, rfl⟩))
        go_ret
        exact ⟨ret_int (unhide HR).symm, rfl⟩
    · have hks : k = s.size := by omega
      have e := Mth.take_all s k hlt
      rw [e] at HM HD
      by_cases h0 : s.size = 0
      · obtain rfl := eq_empty s h0
        have HR := hide (readDec_no (l := ByteArray.empty.data.toList) (fun h => h.1 rfl))
        clear hks e h9
        go_wp2
        go_ret
        exact ⟨ret_int (unhide HR).symm, rfl⟩
      · have h9' := h9 (by omega)
        have hne := not_empty s (by omega)
        have hmb : m ≤ 999999999 := by
          have := val_bound s k hk h9' (by rw [e]; exact unhide HD)
          rw [e] at this; rw [unhide HM]; exact this
        clear h9 hks e
        by_cases hok : Mth.decOk s.data.toList
        · have HR := hide (readDec_yes hok)
          have heq : ((itoa (m : Int)) == s.toList) = true := by
            rw [ByteArray.toList_eq, beq_iff_eq]
            unfold itoa
            rw [if_neg (by omega), Int.toNat_natCast, unhide HM]
            exact Mth.digits_val _ hok.1 hok.2.1 hok.2.2.1
          have HO := hide hok
          clear hok
          go_wp2_with (go_at_call 24; refine (specDec _ _ (by omega) (by omega)).mono ?_; rintro e w' ⟨rfl, rfl⟩)
          go_ret
          exact ⟨ret_int (by rw [unhide HR, unhide HM]), rfl⟩
        · have HR := hide (readDec_no hok)
          have heq : ((itoa (m : Int)) == s.toList) = false := by
            rw [ByteArray.toList_eq, beq_eq_false_iff_ne]
            unfold itoa
            rw [if_neg (by omega), Int.toNat_natCast]
            have hz : s.data.toList.headD 0 = 48 ∧ s.data.toList.length ≠ 1 := by
              refine ⟨Decidable.byContradiction fun h => hok ⟨?_, unhide HD, .inl h, by rw [size_toList]; exact h9'⟩, fun h => hok ⟨?_, unhide HD, .inr h, by rw [size_toList]; exact h9'⟩⟩
              all_goals
                intro hn
                have := size_toList s
                rw [hn] at this
                simp at this
                omega
            exact Mth.digits_nought _ hz.1 hz.2 m
          have HO := hide hok
          clear hok
          go_wp2_with (go_at_call 24; refine (specDec _ _ (by omega) (by omega)).mono ?_; rintro e w' ⟨rfl, rfl⟩)
          go_ret
          exact ⟨ret_int (unhide HR).symm, rfl⟩
end Go.Proofs.YtccpcmhideijpaaDoor
