/-
  What CheckSum comes to, in the program and in its model: the two sums, the second one's 65536-fold and the first.
-/
import Derived.Test.YtiinpdkgnflmeaaDoorBase
namespace Go.Proofs.YtiinpdkgnflmeaaDoor
open Go.RowKit


set_option maxRecDepth 100000 in
set_option maxHeartbeats 400000 in
theorem implCheckSum (s : ByteArray) (w : World) (hs : s.size ≤ maxLen) :
    Calls Tryd.prog 78 #[.string s] w fun e w' => e = .returned (.int .u32 (65536 * (Mth.sums s.data.toList).2 + (Mth.sums s.data.toList).1)) ∧ w = w' := by
  unfold maxLen at hs
  go_enter Tryd.func78, Tryd.ntmps78
  go_wp2
  go_loop [3, 4, 8] (fun a b i => ∃ k : Nat, k ≤ s.size ∧ i = .int .i64 k ∧ a = .int .u32 (Mth.sums (s.data.toList.take k)).1 ∧ b = .int .u32 (Mth.sums (s.data.toList.take k)).2) (fun _ _ i => s.size - (intOf i).toNat)
  case atStart => exact ⟨0, Nat.zero_le _, rfl, rfl, rfl⟩
  case round =>
    obtain ⟨k, hk, rfl, rfl, rfl⟩ := hrel
    have hb := Mth.sums_lt (s.data.toList.take k)
    by_cases hlt : k < s.size
    · have HS : Hid (Mth.sums (s.data.toList.take (k + 1)) = Mth.sumStep (Mth.sums (s.data.toList.take k)) s[k]) := by rw [Mth.take_snoc s k hlt]; exact Mth.sums_snoc _ _
      have hc : s[k].toNat < 256 := s[k].toNat_lt
      go_wp2
      go_round
      case rel => exact ⟨k + 1, by omega, by go_num, by rw [HS.out]; simp [Mth.sumStep], by rw [HS.out]; simp [Mth.sumStep]⟩
      case measure => simp [intOf]; omega
    · rw [Mth.take_all s k hlt]
      rw [Mth.take_all s k hlt] at hb
      go_wp2
      go_ret
      exact ⟨ret_int (by omega), rfl⟩

set_option maxRecDepth 100000 in
set_option maxHeartbeats 400000 in
theorem specCheckSum (s : ByteArray) (w : World) (hs : s.size ≤ maxLen) :
    Calls Tryd.prog 27 #[.string s] w fun e w' => e = .returned (.int .u32 (65536 * (Mth.sums s.data.toList).2 + (Mth.sums s.data.toList).1)) ∧ w = w' := by
  unfold maxLen at hs
  go_enter Tryd.func27, Tryd.ntmps27
  go_wp2
  go_loop [3, 4, 5] (fun a b i => ∃ k : Nat, k ≤ s.size ∧ i = .int .i64 k ∧ a = .int .i64 (Mth.sums (s.data.toList.take k)).1 ∧ b = .int .i64 (Mth.sums (s.data.toList.take k)).2) (fun _ _ i => s.size - (intOf i).toNat)
  case atStart => exact ⟨0, Nat.zero_le _, rfl, rfl, rfl⟩
  case round =>
    obtain ⟨k, hk, rfl, rfl, rfl⟩ := hrel
    have hb := Mth.sums_lt (s.data.toList.take k)
    by_cases hlt : k < s.size
    · have HS : Hid (Mth.sums (s.data.toList.take (k + 1)) = Mth.sumStep (Mth.sums (s.data.toList.take k)) s[k]) := by rw [Mth.take_snoc s k hlt]; exact Mth.sums_snoc _ _
      have hc : s[k].toNat < 256 := s[k].toNat_lt
      go_wp2
      go_round
      case rel => exact ⟨k + 1, by omega, by go_num, by rw [HS.out]; simp [Mth.sumStep], by rw [HS.out]; simp [Mth.sumStep]⟩
      case measure => simp [intOf]; omega
    · rw [Mth.take_all s k hlt]
      rw [Mth.take_all s k hlt] at hb
      go_wp2
      go_ret
      exact ⟨ret_int (by omega), rfl⟩
end Go.Proofs.YtiinpdkgnflmeaaDoor
