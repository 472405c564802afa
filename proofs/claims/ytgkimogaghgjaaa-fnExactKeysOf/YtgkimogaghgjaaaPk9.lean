/- Parts. -/
import Derived.Test.YtgkimogaghgjaaaPk8
namespace Go.Proofs.Ytgkimogaghgjaaa
open Go.RowKit
open Mth

set_option maxRecDepth 100000 in
set_option maxHeartbeats 4000000 in
theorem scrInt (S : Nat → Prop) (a : Option Addr) (n c : Nat) (s : Int) (w : World) (hs0 : 0 < s) (hs1 : s ≤ 6917529027641081856) (hn : n ≤ 1048600) (hw : Wr S w a n 1) :
    Calls Try.prog 54 #[.slice a n c, .int .i64 s] w fun e w' => e = .returned (.int .i64 (s + 1 * (n : Int))) ∧ Scr S w w' := by
  have HW := hide hw
  clear hw
  go_enter Try.func54, Try.ntmps54
  go_wp2_with fail
  go_loopw [1, 5] (fun kk i wr => ∃ (k : Nat) (m : Int), k ≤ n ∧ i = .int .i64 k ∧ kk = .int .i64 m ∧ m = s + 1 * (k : Int) ∧ Scr S w wr) (fun _ i _ => n - (intOf i).toNat)
  case atStart => exact ⟨0, s, Nat.zero_le _, rfl, rfl, by omega, Scr.refl _ _⟩
  case round =>
    obtain ⟨k, m, hk, rfl, rfl, hm, hsc⟩ := hrel
    have HK := hide hsc
    have HM := hide hm
    have hm0 : 0 < m := by omega
    have hm1 : m ≤ 6917529042000000000 := by omega
    clear hsc hm
    by_cases hlt : k < n
    · obtain ⟨g, rfl, hS, hg, hcw⟩ := ((unhide HW).scr (unhide HK)) k hlt
      have HS := hide hS
      clear hS
      obtain ⟨v0, q0⟩ := Option.isSome_iff_exists.1 (hcw 0 (by omega)).1
      have f0 := (hcw 0 (by omega)).2
      simp only [Nat.mul_one, Nat.add_zero] at q0 f0
      clear hcw
      go_wp2_with fail
      go_roundw
      case rel => exact ⟨k + 1, _, by omega, by go_num, rfl, by have := unhide HM; omega, Scr.set (unhide HK) (unhide HS) _ _⟩
      case measure => simp [intOf]; omega
    · have hke : k = n := by omega
      subst hke
      have hnlt : decide ((k : Int) < (k : Int)) = false := by simp
      go_wp2_with fail
      go_ret
      exact ⟨ret_int (unhide HM), unhide HK⟩
set_option maxRecDepth 100000 in
set_option maxHeartbeats 4000000 in
theorem scrPurse (S : Nat → Prop) (a : Option Addr) (n c : Nat) (s : Int) (w : World) (hs0 : 0 < s) (hs1 : s ≤ 6917529027641081856) (hn : n ≤ 1048600) (hw : Wr S w a n 4) :
    Calls Try.prog 55 #[.slice a n c, .int .i64 s] w fun e w' => e = .returned (.int .i64 (s + 4 * (n : Int))) ∧ Scr S w w' := by
  have HW := hide hw
  clear hw
  go_enter Try.func55, Try.ntmps55
  go_wp2_with fail
  go_loopw [1, 5] (fun kk i wr => ∃ (k : Nat) (m : Int), k ≤ n ∧ i = .int .i64 k ∧ kk = .int .i64 m ∧ m = s + 4 * (k : Int) ∧ Scr S w wr) (fun _ i _ => n - (intOf i).toNat)
  case atStart => exact ⟨0, s, Nat.zero_le _, rfl, rfl, by omega, Scr.refl _ _⟩
  case round =>
    obtain ⟨k, m, hk, rfl, rfl, hm, hsc⟩ := hrel
    have HK := hide hsc
    have HM := hide hm
    have hm0 : 0 < m := by omega
    have hm1 : m ≤ 6917529042000000000 := by omega
    clear hsc hm
    by_cases hlt : k < n
    · obtain ⟨g, rfl, hS, hg, hcw⟩ := ((unhide HW).scr (unhide HK)) k hlt
      have HS := hide hS
      clear hS
      obtain ⟨v0, q0⟩ := Option.isSome_iff_exists.1 (hcw 0 (by omega)).1
      have f0 := (hcw 0 (by omega)).2
      simp only [Nat.add_zero] at q0 f0
      obtain ⟨v1, q1⟩ := Option.isSome_iff_exists.1 (hcw 1 (by omega)).1
      have f1 := (hcw 1 (by omega)).2
      obtain ⟨v2, q2⟩ := Option.isSome_iff_exists.1 (hcw 2 (by omega)).1
      have f2 := (hcw 2 (by omega)).2
      obtain ⟨v3, q3⟩ := Option.isSome_iff_exists.1 (hcw 3 (by omega)).1
      have f3 := (hcw 3 (by omega)).2
      clear hcw
      go_wp2_with fail
      refine (scrText _ _ (by omega) (by omega)).mono ?_
      rintro e w1 ⟨t0, rfl, hb⟩
      have HK1 := hide (Scr.below (unhide HK) hb)
      have hg1 : g < w1.heap.size := Nat.lt_of_lt_of_le hg (by have := hb.size; simpa using this)
      clear hb q0 f0 q1 f1 q2 f2 q3 f3 HK
      obtain ⟨gg, eg, _, _, hcw⟩ := ((unhide HW).scr (unhide HK1)) k hlt
      cases eg
      obtain ⟨v0, q0⟩ := Option.isSome_iff_exists.1 (hcw 0 (by omega)).1
      have f0 := (hcw 0 (by omega)).2
      simp only [Nat.add_zero] at q0 f0
      obtain ⟨v1, q1⟩ := Option.isSome_iff_exists.1 (hcw 1 (by omega)).1
      have f1 := (hcw 1 (by omega)).2
      obtain ⟨v2, q2⟩ := Option.isSome_iff_exists.1 (hcw 2 (by omega)).1
      have f2 := (hcw 2 (by omega)).2
      obtain ⟨v3, q3⟩ := Option.isSome_iff_exists.1 (hcw 3 (by omega)).1
      have f3 := (hcw 3 (by omega)).2
      clear hcw
      go_wp2_with fail
      go_roundw
      case rel => exact ⟨k + 1, _, by omega, by go_num, rfl, by have := unhide HM; omega, Scr.set (Scr.set (Scr.set (Scr.set (unhide HK1) (unhide HS) _ _) (unhide HS) _ _) (unhide HS) _ _) (unhide HS) _ _⟩
      case measure => simp [intOf]; omega
    · have hke : k = n := by omega
      subst hke
      have hnlt : decide ((k : Int) < (k : Int)) = false := by simp
      go_wp2_with fail
      go_ret
      exact ⟨ret_int (unhide HM), unhide HK⟩
set_option maxRecDepth 100000 in
set_option maxHeartbeats 4000000 in
theorem scrSent (S : Nat → Prop) (a : Option Addr) (n c : Nat) (s : Int) (w : World) (hs0 : 0 < s) (hs1 : s ≤ 6917529027641081856) (hn : n ≤ 1048600) (hw : Wr S w a n 4) :
    Calls Try.prog 56 #[.slice a n c, .int .i64 s] w fun e w' => e = .returned (.int .i64 (s + 4 * (n : Int))) ∧ Scr S w w' := by
  have HW := hide hw
  clear hw
  go_enter Try.func56, Try.ntmps56
  go_wp2_with fail
  go_loopw [1, 5] (fun kk i wr => ∃ (k : Nat) (m : Int), k ≤ n ∧ i = .int .i64 k ∧ kk = .int .i64 m ∧ m = s + 4 * (k : Int) ∧ Scr S w wr) (fun _ i _ => n - (intOf i).toNat)
  case atStart => exact ⟨0, s, Nat.zero_le _, rfl, rfl, by omega, Scr.refl _ _⟩
  case round =>
    obtain ⟨k, m, hk, rfl, rfl, hm, hsc⟩ := hrel
    have HK := hide hsc
    have HM := hide hm
    have hm0 : 0 < m := by omega
    have hm1 : m ≤ 6917529042000000000 := by omega
    clear hsc hm
    by_cases hlt : k < n
    · obtain ⟨g, rfl, hS, hg, hcw⟩ := ((unhide HW).scr (unhide HK)) k hlt
      have HS := hide hS
      clear hS
      obtain ⟨v0, q0⟩ := Option.isSome_iff_exists.1 (hcw 0 (by omega)).1
      have f0 := (hcw 0 (by omega)).2
      simp only [Nat.add_zero] at q0 f0
      obtain ⟨v1, q1⟩ := Option.isSome_iff_exists.1 (hcw 1 (by omega)).1
      have f1 := (hcw 1 (by omega)).2
      obtain ⟨v2, q2⟩ := Option.isSome_iff_exists.1 (hcw 2 (by omega)).1
      have f2 := (hcw 2 (by omega)).2
      obtain ⟨v3, q3⟩ := Option.isSome_iff_exists.1 (hcw 3 (by omega)).1
      have f3 := (hcw 3 (by omega)).2
      clear hcw
      go_wp2_with fail
      refine (scrText _ _ (by omega) (by omega)).mono ?_
      rintro e w3 ⟨t2, rfl, hb⟩
      have HK3 := hide (Scr.below (Scr.set (Scr.set (unhide HK) (unhide HS) _ _) (unhide HS) _ _) hb)
      have hg3 : g < w3.heap.size := Nat.lt_of_lt_of_le hg (by have := hb.size; simpa using this)
      clear hb q0 f0 q1 f1 q2 f2 q3 f3 HK
      obtain ⟨gg, eg, _, _, hcw⟩ := ((unhide HW).scr (unhide HK3)) k hlt
      cases eg
      obtain ⟨v2, q2⟩ := Option.isSome_iff_exists.1 (hcw 2 (by omega)).1
      have f2 := (hcw 2 (by omega)).2
      obtain ⟨v3, q3⟩ := Option.isSome_iff_exists.1 (hcw 3 (by omega)).1
      have f3 := (hcw 3 (by omega)).2
      clear hcw
      go_wp2_with fail
      go_roundw
      case rel => exact ⟨k + 1, _, by omega, by go_num, rfl, by have := unhide HM; omega, Scr.set (Scr.set (unhide HK3) (unhide HS) _ _) (unhide HS) _ _⟩
      case measure => simp [intOf]; omega
    · have hke : k = n := by omega
      subst hke
      have hnlt : decide ((k : Int) < (k : Int)) = false := by simp
      go_wp2_with fail
      go_ret
      exact ⟨ret_int (unhide HM), unhide HK⟩
set_option maxRecDepth 100000 in
set_option maxHeartbeats 4000000 in
theorem scrReq (S : Nat → Prop) (a : Option Addr) (n c : Nat) (s : Int) (w : World) (hs0 : 0 < s) (hs1 : s ≤ 6917529027641081856) (hn : n ≤ 1048600) (hw : Wr S w a n 4) :
    Calls Try.prog 58 #[.slice a n c, .int .i64 s] w fun e w' => e = .returned (.int .i64 (s + 4 * (n : Int))) ∧ Scr S w w' := by
  have HW := hide hw
  clear hw
  go_enter Try.func58, Try.ntmps58
  go_wp2_with fail
  go_loopw [1, 5] (fun kk i wr => ∃ (k : Nat) (m : Int), k ≤ n ∧ i = .int .i64 k ∧ kk = .int .i64 m ∧ m = s + 4 * (k : Int) ∧ Scr S w wr) (fun _ i _ => n - (intOf i).toNat)
  case atStart => exact ⟨0, s, Nat.zero_le _, rfl, rfl, by omega, Scr.refl _ _⟩
  case round =>
    obtain ⟨k, m, hk, rfl, rfl, hm, hsc⟩ := hrel
    have HK := hide hsc
    have HM := hide hm
    have hm0 : 0 < m := by omega
    have hm1 : m ≤ 6917529042000000000 := by omega
    clear hsc hm
    by_cases hlt : k < n
    · obtain ⟨g, rfl, hS, hg, hcw⟩ := ((unhide HW).scr (unhide HK)) k hlt
      have HS := hide hS
      clear hS
      obtain ⟨v0, q0⟩ := Option.isSome_iff_exists.1 (hcw 0 (by omega)).1
      have f0 := (hcw 0 (by omega)).2
      simp only [Nat.add_zero] at q0 f0
      obtain ⟨v1, q1⟩ := Option.isSome_iff_exists.1 (hcw 1 (by omega)).1
      have f1 := (hcw 1 (by omega)).2
      obtain ⟨v2, q2⟩ := Option.isSome_iff_exists.1 (hcw 2 (by omega)).1
      have f2 := (hcw 2 (by omega)).2
      obtain ⟨v3, q3⟩ := Option.isSome_iff_exists.1 (hcw 3 (by omega)).1
      have f3 := (hcw 3 (by omega)).2
      clear hcw
      go_wp2_with fail
      refine (scrText _ _ (by omega) (by omega)).mono ?_
      rintro e w2 ⟨t1, rfl, hb⟩
      have HK2 := hide (Scr.below (Scr.set (unhide HK) (unhide HS) _ _) hb)
      have hg2 : g < w2.heap.size := Nat.lt_of_lt_of_le hg (by have := hb.size; simpa using this)
      clear hb q0 f0 q1 f1 q2 f2 q3 f3 HK
      obtain ⟨gg, eg, _, _, hcw⟩ := ((unhide HW).scr (unhide HK2)) k hlt
      cases eg
      obtain ⟨v1, q1⟩ := Option.isSome_iff_exists.1 (hcw 1 (by omega)).1
      have f1 := (hcw 1 (by omega)).2
      obtain ⟨v2, q2⟩ := Option.isSome_iff_exists.1 (hcw 2 (by omega)).1
      have f2 := (hcw 2 (by omega)).2
      obtain ⟨v3, q3⟩ := Option.isSome_iff_exists.1 (hcw 3 (by omega)).1
      have f3 := (hcw 3 (by omega)).2
      clear hcw
      go_wp2_with fail
      go_roundw
      case rel => exact ⟨k + 1, _, by omega, by go_num, rfl, by have := unhide HM; omega, Scr.set (Scr.set (Scr.set (unhide HK2) (unhide HS) _ _) (unhide HS) _ _) (unhide HS) _ _⟩
      case measure => simp [intOf]; omega
    · have hke : k = n := by omega
      subst hke
      have hnlt : decide ((k : Int) < (k : Int)) = false := by simp
      go_wp2_with fail
      go_ret
      exact ⟨ret_int (unhide HM), unhide HK⟩
set_option maxRecDepth 100000 in
set_option maxHeartbeats 4000000 in
theorem scrMsg (S : Nat → Prop) (a : Option Addr) (n c : Nat) (s : Int) (w : World) (hs0 : 0 < s) (hs1 : s ≤ 6917529027641081856) (hn : n ≤ 1048600) (hw : Wr S w a n 7) :
    Calls Try.prog 59 #[.slice a n c, .int .i64 s] w fun e w' => e = .returned (.int .i64 (s + 7 * (n : Int))) ∧ Scr S w w' := by
  have HW := hide hw
  clear hw
  go_enter Try.func59, Try.ntmps59
  go_wp2_with fail
  go_loopw [1, 5] (fun kk i wr => ∃ (k : Nat) (m : Int), k ≤ n ∧ i = .int .i64 k ∧ kk = .int .i64 m ∧ m = s + 7 * (k : Int) ∧ Scr S w wr) (fun _ i _ => n - (intOf i).toNat)
  case atStart => exact ⟨0, s, Nat.zero_le _, rfl, rfl, by omega, Scr.refl _ _⟩
  case round =>
    obtain ⟨k, m, hk, rfl, rfl, hm, hsc⟩ := hrel
    have HK := hide hsc
    have HM := hide hm
    have hm0 : 0 < m := by omega
    have hm1 : m ≤ 6917529042000000000 := by omega
    clear hsc hm
    by_cases hlt : k < n
    · obtain ⟨g, rfl, hS, hg, hcw⟩ := ((unhide HW).scr (unhide HK)) k hlt
      have HS := hide hS
      clear hS
      obtain ⟨v0, q0⟩ := Option.isSome_iff_exists.1 (hcw 0 (by omega)).1
      have f0 := (hcw 0 (by omega)).2
      simp only [Nat.add_zero] at q0 f0
      obtain ⟨v1, q1⟩ := Option.isSome_iff_exists.1 (hcw 1 (by omega)).1
      have f1 := (hcw 1 (by omega)).2
      obtain ⟨v2, q2⟩ := Option.isSome_iff_exists.1 (hcw 2 (by omega)).1
      have f2 := (hcw 2 (by omega)).2
      obtain ⟨v3, q3⟩ := Option.isSome_iff_exists.1 (hcw 3 (by omega)).1
      have f3 := (hcw 3 (by omega)).2
      obtain ⟨v4, q4⟩ := Option.isSome_iff_exists.1 (hcw 4 (by omega)).1
      have f4 := (hcw 4 (by omega)).2
      obtain ⟨v5, q5⟩ := Option.isSome_iff_exists.1 (hcw 5 (by omega)).1
      have f5 := (hcw 5 (by omega)).2
      obtain ⟨v6, q6⟩ := Option.isSome_iff_exists.1 (hcw 6 (by omega)).1
      have f6 := (hcw 6 (by omega)).2
      clear hcw
      go_wp2_with fail
      refine (scrText _ _ (by omega) (by omega)).mono ?_
      rintro e w6 ⟨t5, rfl, hb⟩
      have HK6 := hide (Scr.below (Scr.set (Scr.set (Scr.set (Scr.set (Scr.set (unhide HK) (unhide HS) _ _) (unhide HS) _ _) (unhide HS) _ _) (unhide HS) _ _) (unhide HS) _ _) hb)
      have hg6 : g < w6.heap.size := Nat.lt_of_lt_of_le hg (by have := hb.size; simpa using this)
      clear hb q0 f0 q1 f1 q2 f2 q3 f3 q4 f4 q5 f5 q6 f6 HK
      obtain ⟨gg, eg, _, _, hcw⟩ := ((unhide HW).scr (unhide HK6)) k hlt
      cases eg
      obtain ⟨v5, q5⟩ := Option.isSome_iff_exists.1 (hcw 5 (by omega)).1
      have f5 := (hcw 5 (by omega)).2
      obtain ⟨v6, q6⟩ := Option.isSome_iff_exists.1 (hcw 6 (by omega)).1
      have f6 := (hcw 6 (by omega)).2
      clear hcw
      go_wp2_with fail
      go_roundw
      case rel => exact ⟨k + 1, _, by omega, by go_num, rfl, by have := unhide HM; omega, Scr.set (Scr.set (unhide HK6) (unhide HS) _ _) (unhide HS) _ _⟩
      case measure => simp [intOf]; omega
    · have hke : k = n := by omega
      subst hke
      have hnlt : decide ((k : Int) < (k : Int)) = false := by simp
      go_wp2_with fail
      go_ret
      exact ⟨ret_int (unhide HM), unhide HK⟩
set_option maxRecDepth 100000 in
set_option maxHeartbeats 4000000 in
theorem scrAnswer (S : Nat → Prop) (a : Option Addr) (n c : Nat) (s : Int) (w : World) (hs0 : 0 < s) (hs1 : s ≤ 6917529027641081856) (hn : n ≤ 1048600) (hw : Wr S w a n 12) :
    Calls Try.prog 60 #[.slice a n c, .int .i64 s] w fun e w' => e = .returned (.int .i64 (s + 12 * (n : Int))) ∧ Scr S w w' := by
  have HW := hide hw
  clear hw
  go_enter Try.func60, Try.ntmps60
  go_wp2_with fail
  go_loopw [1, 5] (fun kk i wr => ∃ (k : Nat) (m : Int), k ≤ n ∧ i = .int .i64 k ∧ kk = .int .i64 m ∧ m = s + 12 * (k : Int) ∧ Scr S w wr) (fun _ i _ => n - (intOf i).toNat)
  case atStart => exact ⟨0, s, Nat.zero_le _, rfl, rfl, by omega, Scr.refl _ _⟩
  case round =>
    obtain ⟨k, m, hk, rfl, rfl, hm, hsc⟩ := hrel
    have HK := hide hsc
    have HM := hide hm
    have hm0 : 0 < m := by omega
    have hm1 : m ≤ 6917529042000000000 := by omega
    clear hsc hm
    by_cases hlt : k < n
    · obtain ⟨g, rfl, hS, hg, hcw⟩ := ((unhide HW).scr (unhide HK)) k hlt
      have HS := hide hS
      clear hS
      obtain ⟨v0, q0⟩ := Option.isSome_iff_exists.1 (hcw 0 (by omega)).1
      have f0 := (hcw 0 (by omega)).2
      simp only [Nat.add_zero] at q0 f0
      obtain ⟨v1, q1⟩ := Option.isSome_iff_exists.1 (hcw 1 (by omega)).1
      have f1 := (hcw 1 (by omega)).2
      obtain ⟨v2, q2⟩ := Option.isSome_iff_exists.1 (hcw 2 (by omega)).1
      have f2 := (hcw 2 (by omega)).2
      obtain ⟨v3, q3⟩ := Option.isSome_iff_exists.1 (hcw 3 (by omega)).1
      have f3 := (hcw 3 (by omega)).2
      obtain ⟨v4, q4⟩ := Option.isSome_iff_exists.1 (hcw 4 (by omega)).1
      have f4 := (hcw 4 (by omega)).2
      obtain ⟨v5, q5⟩ := Option.isSome_iff_exists.1 (hcw 5 (by omega)).1
      have f5 := (hcw 5 (by omega)).2
      obtain ⟨v6, q6⟩ := Option.isSome_iff_exists.1 (hcw 6 (by omega)).1
      have f6 := (hcw 6 (by omega)).2
      obtain ⟨v7, q7⟩ := Option.isSome_iff_exists.1 (hcw 7 (by omega)).1
      have f7 := (hcw 7 (by omega)).2
      obtain ⟨v8, q8⟩ := Option.isSome_iff_exists.1 (hcw 8 (by omega)).1
      have f8 := (hcw 8 (by omega)).2
      obtain ⟨v9, q9⟩ := Option.isSome_iff_exists.1 (hcw 9 (by omega)).1
      have f9 := (hcw 9 (by omega)).2
      obtain ⟨v10, q10⟩ := Option.isSome_iff_exists.1 (hcw 10 (by omega)).1
      have f10 := (hcw 10 (by omega)).2
      obtain ⟨v11, q11⟩ := Option.isSome_iff_exists.1 (hcw 11 (by omega)).1
      have f11 := (hcw 11 (by omega)).2
      clear hcw
      go_wp2_with fail
      refine (scrText _ _ (by omega) (by omega)).mono ?_
      rintro e w3 ⟨t2, rfl, hb⟩
      have HK3 := hide (Scr.below (Scr.set (Scr.set (unhide HK) (unhide HS) _ _) (unhide HS) _ _) hb)
      have hg3 : g < w3.heap.size := Nat.lt_of_lt_of_le hg (by have := hb.size; simpa using this)
      clear hb q0 f0 q1 f1 q2 f2 q3 f3 q4 f4 q5 f5 q6 f6 q7 f7 q8 f8 q9 f9 q10 f10 q11 f11 HK
      obtain ⟨gg, eg, _, _, hcw⟩ := ((unhide HW).scr (unhide HK3)) k hlt
      cases eg
      obtain ⟨v2, q2⟩ := Option.isSome_iff_exists.1 (hcw 2 (by omega)).1
      have f2 := (hcw 2 (by omega)).2
      obtain ⟨v3, q3⟩ := Option.isSome_iff_exists.1 (hcw 3 (by omega)).1
      have f3 := (hcw 3 (by omega)).2
      obtain ⟨v4, q4⟩ := Option.isSome_iff_exists.1 (hcw 4 (by omega)).1
      have f4 := (hcw 4 (by omega)).2
      obtain ⟨v5, q5⟩ := Option.isSome_iff_exists.1 (hcw 5 (by omega)).1
      have f5 := (hcw 5 (by omega)).2
      obtain ⟨v6, q6⟩ := Option.isSome_iff_exists.1 (hcw 6 (by omega)).1
      have f6 := (hcw 6 (by omega)).2
      obtain ⟨v7, q7⟩ := Option.isSome_iff_exists.1 (hcw 7 (by omega)).1
      have f7 := (hcw 7 (by omega)).2
      obtain ⟨v8, q8⟩ := Option.isSome_iff_exists.1 (hcw 8 (by omega)).1
      have f8 := (hcw 8 (by omega)).2
      obtain ⟨v9, q9⟩ := Option.isSome_iff_exists.1 (hcw 9 (by omega)).1
      have f9 := (hcw 9 (by omega)).2
      obtain ⟨v10, q10⟩ := Option.isSome_iff_exists.1 (hcw 10 (by omega)).1
      have f10 := (hcw 10 (by omega)).2
      obtain ⟨v11, q11⟩ := Option.isSome_iff_exists.1 (hcw 11 (by omega)).1
      have f11 := (hcw 11 (by omega)).2
      clear hcw
      go_wp2_with fail
      refine (scrText _ _ (by omega) (by omega)).mono ?_
      rintro e w10 ⟨t9, rfl, hb⟩
      have HK10 := hide (Scr.below (Scr.set (Scr.set (Scr.set (Scr.set (Scr.set (Scr.set (Scr.set (unhide HK3) (unhide HS) _ _) (unhide HS) _ _) (unhide HS) _ _) (unhide HS) _ _) (unhide HS) _ _) (unhide HS) _ _) (unhide HS) _ _) hb)
      have hg10 : g < w10.heap.size := Nat.lt_of_lt_of_le hg3 (by have := hb.size; simpa using this)
      clear hb q2 f2 q3 f3 q4 f4 q5 f5 q6 f6 q7 f7 q8 f8 q9 f9 q10 f10 q11 f11 HK3
      obtain ⟨gg, eg, _, _, hcw⟩ := ((unhide HW).scr (unhide HK10)) k hlt
      cases eg
      obtain ⟨v9, q9⟩ := Option.isSome_iff_exists.1 (hcw 9 (by omega)).1
      have f9 := (hcw 9 (by omega)).2
      obtain ⟨v10, q10⟩ := Option.isSome_iff_exists.1 (hcw 10 (by omega)).1
      have f10 := (hcw 10 (by omega)).2
      obtain ⟨v11, q11⟩ := Option.isSome_iff_exists.1 (hcw 11 (by omega)).1
      have f11 := (hcw 11 (by omega)).2
      clear hcw
      go_wp2_with fail
      go_roundw
      case rel => exact ⟨k + 1, _, by omega, by go_num, rfl, by have := unhide HM; omega, Scr.set (Scr.set (Scr.set (unhide HK10) (unhide HS) _ _) (unhide HS) _ _) (unhide HS) _ _⟩
      case measure => simp [intOf]; omega
    · have hke : k = n := by omega
      subst hke
      have hnlt : decide ((k : Int) < (k : Int)) = false := by simp
      go_wp2_with fail
      go_ret
      exact ⟨ret_int (unhide HM), unhide HK⟩
set_option maxRecDepth 100000 in
set_option maxHeartbeats 4000000 in
theorem scrTold (S : Nat → Prop) (a : Option Addr) (n c : Nat) (s : Int) (w : World) (hs0 : 0 < s) (hs1 : s ≤ 6917529027641081856) (hn : n ≤ 1048600) (hw : Wr S w a n 13) :
    Calls Try.prog 37 #[.slice a n c, .int .i64 s] w fun e w' => e = .returned (.int .i64 (s + 13 * (n : Int))) ∧ Scr S w w' := by
  have HW := hide hw
  clear hw
  go_enter Try.func37, Try.ntmps37
  go_wp2_with fail
  go_loopw [1, 5] (fun kk i wr => ∃ (k : Nat) (m : Int), k ≤ n ∧ i = .int .i64 k ∧ kk = .int .i64 m ∧ m = s + 13 * (k : Int) ∧ Scr S w wr) (fun _ i _ => n - (intOf i).toNat)
  case atStart => exact ⟨0, s, Nat.zero_le _, rfl, rfl, by omega, Scr.refl _ _⟩
  case round =>
    obtain ⟨k, m, hk, rfl, rfl, hm, hsc⟩ := hrel
    have HK := hide hsc
    have HM := hide hm
    have hm0 : 0 < m := by omega
    have hm1 : m ≤ 6917529042000000000 := by omega
    clear hsc hm
    by_cases hlt : k < n
    · obtain ⟨g, rfl, hS, hg, hcw⟩ := ((unhide HW).scr (unhide HK)) k hlt
      have HS := hide hS
      clear hS
      obtain ⟨v0, q0⟩ := Option.isSome_iff_exists.1 (hcw 0 (by omega)).1
      have f0 := (hcw 0 (by omega)).2
      simp only [Nat.add_zero] at q0 f0
      obtain ⟨v1, q1⟩ := Option.isSome_iff_exists.1 (hcw 1 (by omega)).1
      have f1 := (hcw 1 (by omega)).2
      obtain ⟨v2, q2⟩ := Option.isSome_iff_exists.1 (hcw 2 (by omega)).1
      have f2 := (hcw 2 (by omega)).2
      obtain ⟨v3, q3⟩ := Option.isSome_iff_exists.1 (hcw 3 (by omega)).1
      have f3 := (hcw 3 (by omega)).2
      obtain ⟨v4, q4⟩ := Option.isSome_iff_exists.1 (hcw 4 (by omega)).1
      have f4 := (hcw 4 (by omega)).2
      obtain ⟨v5, q5⟩ := Option.isSome_iff_exists.1 (hcw 5 (by omega)).1
      have f5 := (hcw 5 (by omega)).2
      obtain ⟨v6, q6⟩ := Option.isSome_iff_exists.1 (hcw 6 (by omega)).1
      have f6 := (hcw 6 (by omega)).2
      obtain ⟨v7, q7⟩ := Option.isSome_iff_exists.1 (hcw 7 (by omega)).1
      have f7 := (hcw 7 (by omega)).2
      obtain ⟨v8, q8⟩ := Option.isSome_iff_exists.1 (hcw 8 (by omega)).1
      have f8 := (hcw 8 (by omega)).2
      obtain ⟨v9, q9⟩ := Option.isSome_iff_exists.1 (hcw 9 (by omega)).1
      have f9 := (hcw 9 (by omega)).2
      obtain ⟨v10, q10⟩ := Option.isSome_iff_exists.1 (hcw 10 (by omega)).1
      have f10 := (hcw 10 (by omega)).2
      obtain ⟨v11, q11⟩ := Option.isSome_iff_exists.1 (hcw 11 (by omega)).1
      have f11 := (hcw 11 (by omega)).2
      obtain ⟨v12, q12⟩ := Option.isSome_iff_exists.1 (hcw 12 (by omega)).1
      have f12 := (hcw 12 (by omega)).2
      clear hcw
      go_wp2_with fail
      refine (scrText _ _ (by omega) (by omega)).mono ?_
      rintro e w4 ⟨t3, rfl, hb⟩
      have HK4 := hide (Scr.below (Scr.set (Scr.set (Scr.set (unhide HK) (unhide HS) _ _) (unhide HS) _ _) (unhide HS) _ _) hb)
      have hg4 : g < w4.heap.size := Nat.lt_of_lt_of_le hg (by have := hb.size; simpa using this)
      clear hb q0 f0 q1 f1 q2 f2 q3 f3 q4 f4 q5 f5 q6 f6 q7 f7 q8 f8 q9 f9 q10 f10 q11 f11 q12 f12 HK
      obtain ⟨gg, eg, _, _, hcw⟩ := ((unhide HW).scr (unhide HK4)) k hlt
      cases eg
      obtain ⟨v3, q3⟩ := Option.isSome_iff_exists.1 (hcw 3 (by omega)).1
      have f3 := (hcw 3 (by omega)).2
      obtain ⟨v4, q4⟩ := Option.isSome_iff_exists.1 (hcw 4 (by omega)).1
      have f4 := (hcw 4 (by omega)).2
      obtain ⟨v5, q5⟩ := Option.isSome_iff_exists.1 (hcw 5 (by omega)).1
      have f5 := (hcw 5 (by omega)).2
      obtain ⟨v6, q6⟩ := Option.isSome_iff_exists.1 (hcw 6 (by omega)).1
      have f6 := (hcw 6 (by omega)).2
      obtain ⟨v7, q7⟩ := Option.isSome_iff_exists.1 (hcw 7 (by omega)).1
      have f7 := (hcw 7 (by omega)).2
      obtain ⟨v8, q8⟩ := Option.isSome_iff_exists.1 (hcw 8 (by omega)).1
      have f8 := (hcw 8 (by omega)).2
      obtain ⟨v9, q9⟩ := Option.isSome_iff_exists.1 (hcw 9 (by omega)).1
      have f9 := (hcw 9 (by omega)).2
      obtain ⟨v10, q10⟩ := Option.isSome_iff_exists.1 (hcw 10 (by omega)).1
      have f10 := (hcw 10 (by omega)).2
      obtain ⟨v11, q11⟩ := Option.isSome_iff_exists.1 (hcw 11 (by omega)).1
      have f11 := (hcw 11 (by omega)).2
      obtain ⟨v12, q12⟩ := Option.isSome_iff_exists.1 (hcw 12 (by omega)).1
      have f12 := (hcw 12 (by omega)).2
      clear hcw
      go_wp2_with fail
      refine (scrText _ _ (by omega) (by omega)).mono ?_
      rintro e w11 ⟨t10, rfl, hb⟩
      have HK11 := hide (Scr.below (Scr.set (Scr.set (Scr.set (Scr.set (Scr.set (Scr.set (Scr.set (unhide HK4) (unhide HS) _ _) (unhide HS) _ _) (unhide HS) _ _) (unhide HS) _ _) (unhide HS) _ _) (unhide HS) _ _) (unhide HS) _ _) hb)
      have hg11 : g < w11.heap.size := Nat.lt_of_lt_of_le hg4 (by have := hb.size; simpa using this)
      clear hb q3 f3 q4 f4 q5 f5 q6 f6 q7 f7 q8 f8 q9 f9 q10 f10 q11 f11 q12 f12 HK4
      obtain ⟨gg, eg, _, _, hcw⟩ := ((unhide HW).scr (unhide HK11)) k hlt
      cases eg
      obtain ⟨v10, q10⟩ := Option.isSome_iff_exists.1 (hcw 10 (by omega)).1
      have f10 := (hcw 10 (by omega)).2
      obtain ⟨v11, q11⟩ := Option.isSome_iff_exists.1 (hcw 11 (by omega)).1
      have f11 := (hcw 11 (by omega)).2
      obtain ⟨v12, q12⟩ := Option.isSome_iff_exists.1 (hcw 12 (by omega)).1
      have f12 := (hcw 12 (by omega)).2
      clear hcw
      go_wp2_with fail
      go_roundw
      case rel => exact ⟨k + 1, _, by omega, by go_num, rfl, by have := unhide HM; omega, Scr.set (Scr.set (Scr.set (unhide HK11) (unhide HS) _ _) (unhide HS) _ _) (unhide HS) _ _⟩
      case measure => simp [intOf]; omega
    · have hke : k = n := by omega
      subst hke
      have hnlt : decide ((k : Int) < (k : Int)) = false := by simp
      go_wp2_with fail
      go_ret
      exact ⟨ret_int (unhide HM), unhide HK⟩
set_option maxRecDepth 100000 in
set_option maxHeartbeats 4000000 in
theorem scrGiven (S : Nat → Prop) (a : Option Addr) (n c : Nat) (s : Int) (w : World) (hs0 : 0 < s) (hs1 : s ≤ 6917529027641081856) (hn : n ≤ 1048600) (hw : Wr S w a n 2) :
    Calls Try.prog 38 #[.slice a n c, .int .i64 s] w fun e w' => e = .returned (.int .i64 (s + 2 * (n : Int))) ∧ Scr S w w' := by
  have HW := hide hw
  clear hw
  go_enter Try.func38, Try.ntmps38
  go_wp2_with fail
  go_loopw [1, 5] (fun kk i wr => ∃ (k : Nat) (m : Int), k ≤ n ∧ i = .int .i64 k ∧ kk = .int .i64 m ∧ m = s + 2 * (k : Int) ∧ Scr S w wr) (fun _ i _ => n - (intOf i).toNat)
  case atStart => exact ⟨0, s, Nat.zero_le _, rfl, rfl, by omega, Scr.refl _ _⟩
  case round =>
    obtain ⟨k, m, hk, rfl, rfl, hm, hsc⟩ := hrel
    have HK := hide hsc
    have HM := hide hm
    have hm0 : 0 < m := by omega
    have hm1 : m ≤ 6917529042000000000 := by omega
    clear hsc hm
    by_cases hlt : k < n
    · obtain ⟨g, rfl, hS, hg, hcw⟩ := ((unhide HW).scr (unhide HK)) k hlt
      have HS := hide hS
      clear hS
      obtain ⟨v0, q0⟩ := Option.isSome_iff_exists.1 (hcw 0 (by omega)).1
      have f0 := (hcw 0 (by omega)).2
      simp only [Nat.add_zero] at q0 f0
      obtain ⟨v1, q1⟩ := Option.isSome_iff_exists.1 (hcw 1 (by omega)).1
      have f1 := (hcw 1 (by omega)).2
      clear hcw
      go_wp2_with fail
      go_roundw
      case rel => exact ⟨k + 1, _, by omega, by go_num, rfl, by have := unhide HM; omega, Scr.set (Scr.set (unhide HK) (unhide HS) _ _) (unhide HS) _ _⟩
      case measure => simp [intOf]; omega
    · have hke : k = n := by omega
      subst hke
      have hnlt : decide ((k : Int) < (k : Int)) = false := by simp
      go_wp2_with fail
      go_ret
      exact ⟨ret_int (unhide HM), unhide HK⟩
set_option maxRecDepth 100000 in
set_option maxHeartbeats 4000000 in
theorem scrString (S : Nat → Prop) (a : Option Addr) (n c : Nat) (s : Int) (w : World) (hs0 : 0 < s) (hs1 : s ≤ 6917529027641081856) (hn : n ≤ 1048600) (hw : Wr S w a n 1) :
    Calls Try.prog 14 #[.slice a n c, .int .i64 s] w fun e w' => e = .returned (.int .i64 (s + 1 * (n : Int))) ∧ Scr S w w' := by
  have HW := hide hw
  clear hw
  go_enter Try.func14, Try.ntmps14
  go_wp2_with fail
  go_loopw [1, 5] (fun kk i wr => ∃ (k : Nat) (m : Int), k ≤ n ∧ i = .int .i64 k ∧ kk = .int .i64 m ∧ m = s + 1 * (k : Int) ∧ Scr S w wr) (fun _ i _ => n - (intOf i).toNat)
  case atStart => exact ⟨0, s, Nat.zero_le _, rfl, rfl, by omega, Scr.refl _ _⟩
  case round =>
    obtain ⟨k, m, hk, rfl, rfl, hm, hsc⟩ := hrel
    have HK := hide hsc
    have HM := hide hm
    have hm0 : 0 < m := by omega
    have hm1 : m ≤ 6917529042000000000 := by omega
    clear hsc hm
    by_cases hlt : k < n
    · obtain ⟨g, rfl, hS, hg, hcw⟩ := ((unhide HW).scr (unhide HK)) k hlt
      have HS := hide hS
      clear hS
      obtain ⟨v0, q0⟩ := Option.isSome_iff_exists.1 (hcw 0 (by omega)).1
      have f0 := (hcw 0 (by omega)).2
      simp only [Nat.mul_one, Nat.add_zero] at q0 f0
      clear hcw
      go_wp2_with fail
      refine (scrText _ _ (by omega) (by omega)).mono ?_
      rintro e w1 ⟨t0, rfl, hb⟩
      have HK1 := hide (Scr.below (unhide HK) hb)
      have hg1 : g < w1.heap.size := Nat.lt_of_lt_of_le hg (by have := hb.size; simpa using this)
      clear hb q0 f0 HK
      obtain ⟨gg, eg, _, _, hcw⟩ := ((unhide HW).scr (unhide HK1)) k hlt
      cases eg
      obtain ⟨v0, q0⟩ := Option.isSome_iff_exists.1 (hcw 0 (by omega)).1
      have f0 := (hcw 0 (by omega)).2
      simp only [Nat.mul_one, Nat.add_zero] at q0 f0
      clear hcw
      go_wp2_with fail
      go_roundw
      case rel => exact ⟨k + 1, _, by omega, by go_num, rfl, by have := unhide HM; omega, Scr.set (unhide HK1) (unhide HS) _ _⟩
      case measure => simp [intOf]; omega
    · have hke : k = n := by omega
      subst hke
      have hnlt : decide ((k : Int) < (k : Int)) = false := by simp
      go_wp2_with fail
      go_ret
      exact ⟨ret_int (unhide HM), unhide HK⟩
end Go.Proofs.Ytgkimogaghgjaaa
