/- Parts. -/
import Derived.Test.YtikdkijggejnfaaGreatDoorPr5
import Derived.Test.YtikdkijggejnfaaGreatDoorPr2
namespace Go.Proofs.YtikdkijggejnfaaGreatDoor
open Go.RowKit

/-- The error that the program makes of a place. -/
theorem noNumAt (i : Int) (w : World) : Calls Tryz.prog 107 #[.int .i64 i] w fun e w' => e = .returned (.iface 145 (.agg #[.iface 123 (.agg #[.int .i64 i])])) ∧ w = w' := by
  go_enter Tryz.func107, Tryz.ntmps107
  go_wp2
  go_ret
  exact ⟨rfl, rfl⟩
theorem dig_yes (n : Int) (w : World) (h1 : 48 ≤ n) (h2 : n ≤ 57) : Calls Tryz.prog 98 #[.int .u8 n] w fun e w' => e = .returned (.bool true) ∧ w = w' := by
  go_enter Tryz.func98, Tryz.ntmps98
  go_wp2
  go_ret
  exact ⟨rfl, rfl⟩
theorem dig_no (n : Int) (w : World) (h : n < 48 ∨ 57 < n) : Calls Tryz.prog 98 #[.int .u8 n] w fun e w' => e = .returned (.bool false) ∧ w = w' := by
  by_cases h1 : 48 ≤ n
  · have h2 : ¬ n ≤ 57 := by omega
    clear h
    go_enter Tryz.func98, Tryz.ntmps98
    go_wp2
    go_ret
    exact ⟨rfl, rfl⟩
  · clear h
    go_enter Tryz.func98, Tryz.ntmps98
    go_wp2
    go_ret
    exact ⟨rfl, rfl⟩

/-- decOf hands back the number and no error, or nought and an error of the program's make. -/
def DecRes (l : List UInt8) (e : Ending) : Prop :=
  (Mth.decOk l ∧ e = .returned (.tuple #[.int .i64 (Mth.val10 l), .nilIface])) ∨ (¬ Mth.decOk l ∧ ∃ p : Int, e = .returned (.tuple #[.int .i64 0, .iface 145 (.agg #[.iface 123 (.agg #[.int .i64 p])])]))

theorem val_over (s : ByteArray) (k : Nat) (hk : k ≤ s.size) (h : 999999999 < Mth.val10 (s.data.toList.take k)) : ¬ Mth.decOk s.data.toList := by
  intro ok
  have h9 := ok.2.2.2
  rw [size_toList] at h9
  have := val_bound s k hk h9 (fun c hc => ok.2.1 c (List.mem_of_mem_take hc))
  omega
theorem ok_of (s : ByteArray) (h0 : 0 < s.size) (hd : ∀ c ∈ s.data.toList, Mth.isDig c) (hh : s.data.toList.headD 0 ≠ 48 ∨ s.size = 1) (hv : Mth.val10 s.data.toList ≤ 999999999) : Mth.decOk s.data.toList := by
  have hne : s.data.toList ≠ [] := fun e => by have := size_toList s; rw [e] at this; simp at this; omega
  refine ⟨hne, hd, ?_, ?_⟩
  · rw [size_toList]; exact hh
  · rcases hh with hh | hh
    · have hp := Mth.val10_pos _ hne hd hh
      rw [size_toList] at hp ⊢
      apply Decidable.byContradiction
      intro h10
      have : 10 ^ 9 ≤ 10 ^ (s.size - 1) := Nat.pow_le_pow_right (by omega) (by omega)
      omega
    · rw [size_toList]; omega
theorem head_at (s : ByteArray) (h : 0 < s.size) : s.data.toList.headD 0 = s[0] := by
  have := Mth.take_snoc s 0 h
  simp only [List.take_zero, List.nil_append] at this
  cases hl : s.data.toList with
  | nil => rw [hl] at this; simp at this
  | cons a r => rw [hl] at this; simpa using this

set_option maxRecDepth 100000 in
set_option maxHeartbeats 1000000 in
theorem decOf (s : ByteArray) (w : World) (hs : s.size ≤ maxLen) : Calls Tryz.prog 86 #[.string s] w fun e w' => DecRes s.data.toList e ∧ w = w' := by
  unfold maxLen at hs
  by_cases h0 : s.size = 0
  · obtain rfl := eq_empty s h0
    clear h0
    go_enter Tryz.func86, Tryz.ntmps86
    go_wp2_with (go_at_call 107; refine (noNumAt _ _).mono ?_; rintro e w' ⟨rfl, rfl⟩)
    go_ret2
    exact ⟨.inr ⟨fun h => h.1 rfl, _, rfl⟩, rfl⟩
  · have hp : 0 < s.size := by omega
    have hne := not_empty s hp
    have hc0 : s[0].toNat < 256 := s[0].toNat_lt
    by_cases hz : (s[0].toNat : Int) = 48 ∧ s.size ≠ 1
    · obtain ⟨hz0, hz1⟩ := hz
      have hb0 : ((s[0].toNat : Int) == 48) = true := beq_iff_eq.2 hz0
      have hb1 : (s.toList == [48]) = false := by
        rw [beq_eq_false_iff_ne, ByteArray.toList_eq]; intro e; have := size_toList s; rw [e] at this; simp at this; omega
      have HR := hide (show ¬ Mth.decOk s.data.toList from fun h => by
        rcases h.2.2.1 with h | h
        · rw [head_at s hp] at h; exact h (UInt8.toNat_inj.1 (by simp; omega))
        · rw [size_toList] at h; exact hz1 h)
      clear hz0 hz1
      go_enter Tryz.func86, Tryz.ntmps86
      go_wp2_with (go_at_call 107; refine (noNumAt _ _).mono ?_; rintro e w' ⟨rfl, rfl⟩)
      go_ret2
      exact ⟨.inr ⟨unhide HR, _, rfl⟩, rfl⟩
    · have HH := hide (show s.data.toList.headD 0 ≠ 48 ∨ s.size = 1 by
        by_cases h1 : s.size = 1
        · exact .inr h1
        · refine .inl fun e => hz ⟨?_, h1⟩
          rw [head_at s hp] at e; rw [e]; rfl)
      have htest : (((s[0].toNat : Int) == 48) = false) ∨ (((s[0].toNat : Int) == 48) = true ∧ (s.toList == [48]) = true) := by
        by_cases h48 : (s[0].toNat : Int) = 48
        · right
          refine ⟨beq_iff_eq.2 h48, ?_⟩
          have h1 : s.size = 1 := Decidable.byContradiction fun h => hz ⟨h48, h⟩
          rw [beq_iff_eq, ByteArray.toList_eq]
          have e := Mth.take_snoc s 0 hp
          rw [Mth.take_all s (0 + 1) (by omega)] at e
          rw [e]
          have : s[0] = 48 := UInt8.toNat_inj.1 (by simp; omega)
          simp [this]
        · left; exact beq_eq_false_iff_ne.2 h48
      clear hz
      rcases htest with hb | ⟨hb, hb2⟩
      all_goals
        go_enter Tryz.func86, Tryz.ntmps86
        go_wp2
        go_loop [4, 20] (fun n i => ∃ k m : Nat, k ≤ s.size ∧ i = .int .i64 k ∧ n = .int .i64 m ∧ m = Mth.val10 (s.data.toList.take k) ∧ (∀ c ∈ s.data.toList.take k, Mth.isDig c) ∧ m ≤ 999999999) (fun _ i => s.size - (intOf i).toNat)
        case atStart => exact ⟨0, 0, Nat.zero_le _, rfl, rfl, rfl, by simp, by omega⟩
        case round =>
          obtain ⟨k, m, hk, rfl, rfl, hm, hd, hm9⟩ := hrel
          have HM := hide hm
          have HD := hide hd
          clear hm hd
          by_cases hlt : k < s.size
          · have hc : s[k].toNat < 256 := s[k].toNat_lt
            by_cases hg : 48 ≤ (s[k].toNat : Int) ∧ (s[k].toNat : Int) ≤ 57
            · obtain ⟨hg1, hg2⟩ := hg
              have HV := hide (val_take s k hlt)
              have HB := hide (take_dig s k hlt (unhide HD) ⟨by omega, by omega⟩)
              by_cases hover : m * 10 + (s[k].toNat - 48) ≤ 999999999
              · go_wp2_with (go_at_call 98; refine (dig_yes _ _ ?_ ?_).mono ?_; omega; omega; rintro e w' ⟨rfl, rfl⟩)
                go_round
                case rel => exact ⟨k + 1, m * 10 + (s[k].toNat - 48), by omega, by go_num, by go_num, by rw [unhide HV, unhide HM], unhide HB, by omega⟩
                case measure => simp [intOf]; omega
              · have HR := hide (val_over s (k + 1) (by omega) (by rw [unhide HV, ← unhide HM]; omega))
                go_wp2_with (first | (go_at_call 98; refine (dig_yes _ _ ?_ ?_).mono ?_; omega; omega; rintro e w' ⟨rfl, rfl⟩) | (go_at_call 107; refine (noNumAt _ _).mono ?_; rintro e w' ⟨rfl, rfl⟩))
                go_ret2
                exact ⟨.inr ⟨unhide HR, _, rfl⟩, rfl⟩
            · have HR := hide (take_undig s k hlt (fun h => hg ⟨by have := h.1; omega, by have := h.2; omega⟩))
              go_wp2_with (first | (go_at_call 98; refine (dig_no _ _ ?_).mono ?_; omega; rintro e w' ⟨rfl, rfl⟩) | (go_at_call 107; refine (noNumAt _ _).mono ?_; rintro e w' ⟨rfl, rfl⟩))
              go_ret2
              exact ⟨.inr ⟨unhide HR, _, rfl⟩, rfl⟩
          · rw [Mth.take_all s k hlt] at HM HD
            have HR := hide (ok_of s hp (unhide HD) (unhide HH) (by rw [← unhide HM]; exact hm9))
            go_wp2
            go_ret2
            exact ⟨.inl ⟨unhide HR, by rw [← unhide HM]; rfl⟩, rfl⟩

set_option maxRecDepth 100000 in
set_option maxHeartbeats 1000000 in
theorem implReadDec (s : ByteArray) (w : World) (hs : s.size ≤ maxLen) (hH : Handle w) : Calls Tryz.prog 62 #[.string s] w fun e w' => e = .returned (.int .i64 (readDec s.data.toList)) ∧ Below w.heap.size w w' := by
  have HH := hide hH
  clear hH
  by_cases hok : Mth.decOk s.data.toList
  · have HR := hide (readDec_yes hok)
    have HN : Hid (∀ w1, Calls Tryz.prog 86 #[.string s] w1 fun e w' => e = .returned (.tuple #[.int .i64 (Mth.val10 s.data.toList), .nilIface]) ∧ w1 = w') := fun w1 => (decOf s w1 hs).mono fun e w' ⟨h, hw⟩ => ⟨h.elim (fun h => h.2) (fun h => absurd hok h.1), hw⟩
    clear hok
    rw [unhide HR]
    go_enter Tryz.func62, Tryz.ntmps62
    go_wp2_with (first | (go_at_call 86; refine (unhide HN _).mono ?_; rintro e w1 ⟨rfl, rfl⟩) | (go_at_call 87; refine (isNo_nil _).mono ?_; rintro e w2 ⟨rfl, hb2⟩))
    go_ret
    exact ⟨rfl, hb2⟩
  · have HR := hide (readDec_no hok)
    have HN : Hid (∀ w1, Calls Tryz.prog 86 #[.string s] w1 fun e w' => (∃ p : Int, e = .returned (.tuple #[.int .i64 0, .iface 145 (.agg #[.iface 123 (.agg #[.int .i64 p])])])) ∧ w1 = w') := fun w1 => (decOf s w1 hs).mono fun e w' ⟨h, hw⟩ => ⟨h.elim (fun h => absurd h.1 hok) (fun h => h.2), hw⟩
    clear hok
    rw [unhide HR]
    go_enter Tryz.func62, Tryz.ntmps62
    go_wp2_with (first | (go_at_call 86; refine (unhide HN _).mono ?_; rintro e w1 ⟨⟨p, rfl⟩, rfl⟩) | (go_at_call 87; refine (isNo_one _ _ (unhide HH)).mono ?_; rintro e w2 ⟨rfl, hb2⟩))
    go_ret
    exact ⟨rfl, hb2⟩
open Mth

theorem as_want_want (v : Value) (w : World) : (Instr.typeAssert (.iface 131 v) 110 131 true).run Tryz.prog w = .ok (.tuple #[v, .bool true]) w := by kernel_rfl
theorem as_pay_want (v : Value) (w : World) : (Instr.typeAssert (.iface 133 v) 110 131 true).run Tryz.prog w = .ok (.tuple #[.agg #[.int .i64 0, .int .i64 0, .string ⟨#[]⟩, .int .i64 0], .bool false]) w := by kernel_rfl
theorem as_pay_pay (v : Value) (w : World) : (Instr.typeAssert (.iface 133 v) 110 133 true).run Tryz.prog w = .ok (.tuple #[v, .bool true]) w := by kernel_rfl
theorem as_ack_want (v : Value) (w : World) : (Instr.typeAssert (.iface 135 v) 110 131 true).run Tryz.prog w = .ok (.tuple #[.agg #[.int .i64 0, .int .i64 0, .string ⟨#[]⟩, .int .i64 0], .bool false]) w := by kernel_rfl
theorem as_ack_pay (v : Value) (w : World) : (Instr.typeAssert (.iface 135 v) 110 133 true).run Tryz.prog w = .ok (.tuple #[.agg #[.int .i64 0, .int .i64 0, .int .i64 0, .int .i64 0, .string ⟨#[]⟩, .int .i64 0], .bool false]) w := by kernel_rfl
theorem as_ack_ack (v : Value) (w : World) : (Instr.typeAssert (.iface 135 v) 110 135 true).run Tryz.prog w = .ok (.tuple #[v, .bool true]) w := by kernel_rfl
set_option maxRecDepth 100000 in
set_option maxHeartbeats 2000000 in
theorem msgOf_want (F T : Int) (k : ByteArray) (N : Int) (w : World) : Calls Tryz.prog 110 #[.iface 131 (.agg #[.int .i64 F, .int .i64 T, .string k, .int .i64 N])] w fun e w' => e = .returned (mgv ⟨0, F, T, 0, 0, k, N⟩) ∧ Below w.heap.size w w' := by
  have f0 := as_want_want (.agg #[.int .i64 F, .int .i64 T, .string k, .int .i64 N])
  go_enter Tryz.func110, Tryz.ntmps110
  go_wp2_with fail
  refine bodyPost_ret (v := .agg #[.int .i64 0, .int .i64 F, .int .i64 T, .int .i64 0, .int .i64 0, .string k, .int .i64 N]) (by simp [results, Tryz.results110, go_sem]; try rfl) rfl ⟨rfl, ?_⟩
  exact ((Below.refl _ _).alloc (Nat.le_refl _) _).alloc (by simp) _

set_option maxRecDepth 100000 in
set_option maxHeartbeats 2000000 in
theorem msgOf_pay (F T I L : Int) (k : ByteArray) (N : Int) (w : World) : Calls Tryz.prog 110 #[.iface 133 (.agg #[.int .i64 F, .int .i64 T, .int .i64 I, .int .i64 L, .string k, .int .i64 N])] w fun e w' => e = .returned (mgv ⟨1, F, T, I, L, k, N⟩) ∧ Below w.heap.size w w' := by
  have f0 := as_pay_want (.agg #[.int .i64 F, .int .i64 T, .int .i64 I, .int .i64 L, .string k, .int .i64 N])
  have f1 := as_pay_pay (.agg #[.int .i64 F, .int .i64 T, .int .i64 I, .int .i64 L, .string k, .int .i64 N])
  go_enter Tryz.func110, Tryz.ntmps110
  go_wp2_with fail
  refine bodyPost_ret (v := .agg #[.int .i64 1, .int .i64 F, .int .i64 T, .int .i64 I, .int .i64 L, .string k, .int .i64 N]) (by simp [results, Tryz.results110, go_sem]; try rfl) rfl ⟨rfl, ?_⟩
  exact ((Below.refl _ _).alloc (Nat.le_refl _) _).alloc (by simp) _

set_option maxRecDepth 100000 in
set_option maxHeartbeats 2000000 in
theorem msgOf_ack (F T I : Int) (w : World) : Calls Tryz.prog 110 #[.iface 135 (.agg #[.int .i64 F, .int .i64 T, .int .i64 I])] w fun e w' => e = .returned (mgv ⟨2, F, T, I, 0, ByteArray.empty, 0⟩) ∧ Below w.heap.size w w' := by
  have f0 := as_ack_want (.agg #[.int .i64 F, .int .i64 T, .int .i64 I])
  have f1 := as_ack_pay (.agg #[.int .i64 F, .int .i64 T, .int .i64 I])
  have f2 := as_ack_ack (.agg #[.int .i64 F, .int .i64 T, .int .i64 I])
  go_enter Tryz.func110, Tryz.ntmps110
  go_wp2_with fail
  refine bodyPost_ret (v := .agg #[.int .i64 2, .int .i64 F, .int .i64 T, .int .i64 I, .int .i64 0, .string ByteArray.empty, .int .i64 0]) (by simp [results, Tryz.results110, go_sem]; try rfl) rfl ⟨rfl, ?_⟩
  exact ((Below.refl _ _).alloc (Nat.le_refl _) _).alloc (by simp) _

end Go.Proofs.YtikdkijggejnfaaGreatDoor
