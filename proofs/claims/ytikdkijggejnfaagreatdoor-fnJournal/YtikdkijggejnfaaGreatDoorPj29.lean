/- Parts. -/
import Derived.Test.YtikdkijggejnfaaGreatDoorPj12
import Derived.Test.YtikdkijggejnfaaGreatDoorPj5
import Derived.Lib.QuietBelow
import Derived.BigQuiet
import Derived.Deep.DeepCutAuto
namespace Go.Proofs.YtikdkijggejnfaaGreatDoor
open Go.RowKit
open Mth

theorem specDecB (n : Int) (h0 : 0 ≤ n) (h1 : n ≤ 1000000000) (w : World) : Calls Tryz.prog 55 #[.int .i64 n] w fun e w' => e = .returned (.string (dec n)) ∧ Below w.heap.size w w' :=
  (specDec n w (by omega) (by omega)).mono fun _ _ ⟨he, hw⟩ => ⟨he, hw ▸ Below.refl _ _⟩
set_option maxRecDepth 100000 in
set_option maxHeartbeats 2000000 in
theorem specMsgText_no (m : Mg) (w : World) (hs : m.k.size ≤ maxLen) (h : mgOk m = false) : Calls Tryz.prog 56 #[mgv m] w fun e w' => e = .returned (.string ByteArray.empty) ∧ Below w.heap.size w w' := by
  have HO := hide (fun w1 => specMsgOk m w1 hs)
  rw [h] at HO
  clear h hs
  obtain ⟨K, F, T, I, L, k, N⟩ := m
  go_enter Tryz.func56, Tryz.ntmps56
  go_wp2_with fail
  refine (unhide HO _).mono ?_
  rintro e w1 ⟨rfl, hb1⟩
  have hB := (below_one w _).trans (hb1.mono (by simp))
  clear hb1
  go_wp2_with fail
  go_ret
  exact ⟨rfl, hB⟩

set_option maxRecDepth 100000 in
set_option maxHeartbeats 4000000 in
theorem specMsgText_want (F T I L : Int) (k : ByteArray) (N : Int) (w : World) (h : mgOk ⟨0, F, T, I, L, k, N⟩ = true) (hF0 : 0 ≤ F) (hF1 : F ≤ 1000000000) (hT0 : 0 ≤ T) (hT1 : T ≤ 1000000000) (hN0 : 0 ≤ N) (hN1 : N ≤ 1000000000) (hk : k.size ≤ 10) : Calls Tryz.prog 56 #[mgv ⟨0, F, T, I, L, k, N⟩] w fun e w' => e = .returned (.string (txWant (dec F) (dec T) k (dec N))) ∧ Below w.heap.size w w' := by
  have HO := hide (fun w1 => specMsgOk ⟨0, F, T, I, L, k, N⟩ w1 (Nat.le_trans hk (by unfold maxLen; omega)))
  rw [h] at HO
  clear h
  unfold txWant
  have DF := hide (fun w1 => specDecB F hF0 hF1 w1)
  have sF := dec_size F hF0 hF1
  have DT := hide (fun w1 => specDecB T hT0 hT1 w1)
  have sT := dec_size T hT0 hT1
  have DN := hide (fun w1 => specDecB N hN0 hN1 w1)
  have sN := dec_size N hN0 hN1
  generalize dec F = dF at *
  generalize dec T = dT at *
  generalize dec N = dN at *
  have hw1 : (⟨#[32]⟩ : ByteArray).size = 1 := rfl
  have hwg : (⟨#[32, 62, 32]⟩ : ByteArray).size = 3 := rfl
  have hw4 : (⟨#[119, 97, 110, 116]⟩ : ByteArray).size = 4 := rfl
  have hw3 : (⟨#[112, 97, 121]⟩ : ByteArray).size = 3 := rfl
  have a0 := fun w1 => run_string_add_sum (P := Tryz.prog) w1 ((⟨#[32]⟩ : ByteArray)) (dF) (by first | omega | (simp only [ByteArray.size_append]; omega))
  have a1 := fun w1 => run_string_add_sum (P := Tryz.prog) w1 ((⟨#[32]⟩ : ByteArray) ++ dF) ((⟨#[32, 62, 32]⟩ : ByteArray)) (by first | omega | (simp only [ByteArray.size_append]; omega))
  have a2 := fun w1 => run_string_add_sum (P := Tryz.prog) w1 ((⟨#[32]⟩ : ByteArray) ++ dF ++ (⟨#[32, 62, 32]⟩ : ByteArray)) (dT) (by first | omega | (simp only [ByteArray.size_append]; omega))
  have b0 := fun w1 => run_string_add_sum (P := Tryz.prog) w1 ((⟨#[119, 97, 110, 116]⟩ : ByteArray)) (((⟨#[32]⟩ : ByteArray) ++ dF ++ (⟨#[32, 62, 32]⟩ : ByteArray) ++ dT)) (by first | omega | (simp only [ByteArray.size_append]; omega))
  have b1 := fun w1 => run_string_add_sum (P := Tryz.prog) w1 ((⟨#[119, 97, 110, 116]⟩ : ByteArray) ++ ((⟨#[32]⟩ : ByteArray) ++ dF ++ (⟨#[32, 62, 32]⟩ : ByteArray) ++ dT)) ((⟨#[32]⟩ : ByteArray)) (by first | omega | (simp only [ByteArray.size_append]; omega))
  have b2 := fun w1 => run_string_add_sum (P := Tryz.prog) w1 ((⟨#[119, 97, 110, 116]⟩ : ByteArray) ++ ((⟨#[32]⟩ : ByteArray) ++ dF ++ (⟨#[32, 62, 32]⟩ : ByteArray) ++ dT) ++ (⟨#[32]⟩ : ByteArray)) (k) (by first | omega | (simp only [ByteArray.size_append]; omega))
  have b3 := fun w1 => run_string_add_sum (P := Tryz.prog) w1 ((⟨#[119, 97, 110, 116]⟩ : ByteArray) ++ ((⟨#[32]⟩ : ByteArray) ++ dF ++ (⟨#[32, 62, 32]⟩ : ByteArray) ++ dT) ++ (⟨#[32]⟩ : ByteArray) ++ k) ((⟨#[32]⟩ : ByteArray)) (by first | omega | (simp only [ByteArray.size_append]; omega))
  have b4 := fun w1 => run_string_add_sum (P := Tryz.prog) w1 ((⟨#[119, 97, 110, 116]⟩ : ByteArray) ++ ((⟨#[32]⟩ : ByteArray) ++ dF ++ (⟨#[32, 62, 32]⟩ : ByteArray) ++ dT) ++ (⟨#[32]⟩ : ByteArray) ++ k ++ (⟨#[32]⟩ : ByteArray)) (dN) (by first | omega | (simp only [ByteArray.size_append]; omega))
  have Ha0 := hide a0
  have Ha1 := hide a1
  have Ha2 := hide a2
  have Hb0 := hide b0
  have Hb1 := hide b1
  have Hb2 := hide b2
  have Hb3 := hide b3
  have Hb4 := hide b4
  clear hw1 hwg hw4 hw3 sF hF0 hF1 sT hT0 hT1 sN hN0 hN1 a0 a1 a2 b0 b1 b2 b3 b4 hk
  go_enter Tryz.func56, Tryz.ntmps56
  go_wp2_with fail
  refine (unhide HO _).mono ?_
  rintro e w1 ⟨rfl, hb1⟩
  have hA := blk_step (heap_alloc_new w _) hb1
  have hB := (below_one w _).trans (hb1.mono (by simp))
  obtain ⟨c0, c1, c2, c3, c4, c5, c6⟩ := cells7 hA
  have hz := blk_lt hA
  clear hb1
  go_upto_region 3 with fail
  refine wp_at (fun V hV => ?_)
  have hblk : V.heap[w.heap.size]? = some (.cells #[.int .i64 0, .int .i64 F, .int .i64 T, .int .i64 I, .int .i64 L, .string k, .int .i64 N] 23 (0, 0)) := by rw [hV]; exact hA
  have HBV := hide (show Below w.heap.size w V by rw [hV]; exact hB)
  have hgV := blk_lt hblk
  obtain ⟨p0, p1, p2, p3, p4, p5, p6⟩ := cells7 hblk
  have HBLK := hide hblk
  clear hV hblk hA hB c0 c1 c2 c3 c4 c5 c6 hz
  have y1 := cell_regrown p1
  have y2 := cell_regrown p2
  have n1 : ∀ d os, Calls Tryz.prog 55 #[.int .i64 F] (Sort.grow (redrawn V d) os) fun e w'' => e = .returned (.string dF) ∧ ∃ p : Regrown, w'' = Sort.grow (redrawn V p.d) p.os := fun d os => Calls.regrown_of (unhide DF _)
  have n2 : ∀ d os, Calls Tryz.prog 55 #[.int .i64 T] (Sort.grow (redrawn V d) os) fun e w'' => e = .returned (.string dT) ∧ ∃ p : Regrown, w'' = Sort.grow (redrawn V p.d) p.os := fun d os => Calls.regrown_of (unhide DT _)
  have a0 := unhide Ha0
  have a1 := unhide Ha1
  have a2 := unhide Ha2
  clear p0 p1 p2 p3 p4 p5 p6
  refine wp_region_quiet_below (by kernel_rfl) (by kernel_rfl) ?_
  repeat (first | go_big_quiet_step (first | (go_at_call_of 55 F; exact n1 _ _) | (go_at_call_of 55 T; exact n2 _ _)) | quiet_step (first | (go_at_call_of 55 F; exact n1 _ _) | (go_at_call_of 55 T; exact n2 _ _)))
  refine wpQuiet_nil ?_
  intro _ hw'
  obtain ⟨⟨dq, osq⟩, hw''⟩ := hw'
  subst hw''
  have hb2 := below_regrown V dq osq
  have HB2 := hide ((unhide HBV).trans (hb2.mono (unhide HBV).size))
  have hblk2 := blk_step (unhide HBLK) hb2
  have hz2 := blk_lt hblk2
  clear hb2 HBV HBLK y1 y2 n1 n2 a0 a1 a2 hgV
  generalize Sort.grow (redrawn V dq) osq = U at *
  obtain ⟨p0, p1, p2, p3, p4, p5, p6⟩ := cells7 hblk2
  have HBLK2 := hide hblk2
  clear hblk2
  go_upto_region 6 with fail
  refine wp_at (fun V2 hV => ?_)
  obtain rfl := hV
  clear p0 p1 p2 p3 p4 p5 p6
  obtain ⟨p0, p1, p2, p3, p4, p5, p6⟩ := cells7 (unhide HBLK2)
  have y6 := cell_regrown p6
  have y5 := cell_regrown p5
  have mN : ∀ d os, Calls Tryz.prog 55 #[.int .i64 N] (Sort.grow (redrawn V2 d) os) fun e w'' => e = .returned (.string dN) ∧ ∃ p : Regrown, w'' = Sort.grow (redrawn V2 p.d) p.os := fun d os => Calls.regrown_of (unhide DN _)
  have b0 := unhide Hb0
  have b1 := unhide Hb1
  have b2 := unhide Hb2
  have b3 := unhide Hb3
  have b4 := unhide Hb4
  clear p0 p1 p2 p3 p4 p5 p6 HBLK2
  refine wp_region_quiet_below (by kernel_rfl) (by kernel_rfl) ?_
  repeat (first | go_big_quiet_step (first | (go_at_call_of 55 N; exact mN _ _)) | quiet_step (first | (go_at_call_of 55 N; exact mN _ _)))
  refine wpQuiet_nil ?_
  intro _ hw'
  obtain ⟨⟨dr, osr⟩, hw''⟩ := hw'
  subst hw''
  have hB5 := (unhide HB2).trans ((below_regrown V2 dr osr).mono (unhide HB2).size)
  clear y6 y5 mN b0 b1 b2 b3 b4
  go_wp2_with fail
  go_ret
  exact ⟨rfl, hB5⟩

set_option maxRecDepth 100000 in
set_option maxHeartbeats 4000000 in
theorem specMsgText_pay (F T I L : Int) (k : ByteArray) (N : Int) (w : World) (h : mgOk ⟨1, F, T, I, L, k, N⟩ = true) (hF0 : 0 ≤ F) (hF1 : F ≤ 1000000000) (hT0 : 0 ≤ T) (hT1 : T ≤ 1000000000) (hI0 : 0 ≤ I) (hI1 : I ≤ 1000000000) (hL0 : 0 ≤ L) (hL1 : L ≤ 1000000000) (hN0 : 0 ≤ N) (hN1 : N ≤ 1000000000) (hk : k.size ≤ 10) : Calls Tryz.prog 56 #[mgv ⟨1, F, T, I, L, k, N⟩] w fun e w' => e = .returned (.string (txPay (dec F) (dec T) (dec I) (dec L) k (dec N))) ∧ Below w.heap.size w w' := by
  have HO := hide (fun w1 => specMsgOk ⟨1, F, T, I, L, k, N⟩ w1 (Nat.le_trans hk (by unfold maxLen; omega)))
  rw [h] at HO
  clear h
  unfold txPay
  have DF := hide (fun w1 => specDecB F hF0 hF1 w1)
  have sF := dec_size F hF0 hF1
  have DT := hide (fun w1 => specDecB T hT0 hT1 w1)
  have sT := dec_size T hT0 hT1
  have DI := hide (fun w1 => specDecB I hI0 hI1 w1)
  have sI := dec_size I hI0 hI1
  have DL := hide (fun w1 => specDecB L hL0 hL1 w1)
  have sL := dec_size L hL0 hL1
  have DN := hide (fun w1 => specDecB N hN0 hN1 w1)
  have sN := dec_size N hN0 hN1
  generalize dec F = dF at *
  generalize dec T = dT at *
  generalize dec I = dI at *
  generalize dec L = dL at *
  generalize dec N = dN at *
  have hw1 : (⟨#[32]⟩ : ByteArray).size = 1 := rfl
  have hwg : (⟨#[32, 62, 32]⟩ : ByteArray).size = 3 := rfl
  have hw4 : (⟨#[119, 97, 110, 116]⟩ : ByteArray).size = 4 := rfl
  have hw3 : (⟨#[112, 97, 121]⟩ : ByteArray).size = 3 := rfl
  have a0 := fun w1 => run_string_add_sum (P := Tryz.prog) w1 ((⟨#[32]⟩ : ByteArray)) (dF) (by first | omega | (simp only [ByteArray.size_append]; omega))
  have a1 := fun w1 => run_string_add_sum (P := Tryz.prog) w1 ((⟨#[32]⟩ : ByteArray) ++ dF) ((⟨#[32, 62, 32]⟩ : ByteArray)) (by first | omega | (simp only [ByteArray.size_append]; omega))
  have a2 := fun w1 => run_string_add_sum (P := Tryz.prog) w1 ((⟨#[32]⟩ : ByteArray) ++ dF ++ (⟨#[32, 62, 32]⟩ : ByteArray)) (dT) (by first | omega | (simp only [ByteArray.size_append]; omega))
  have b0 := fun w1 => run_string_add_sum (P := Tryz.prog) w1 ((⟨#[112, 97, 121]⟩ : ByteArray)) (((⟨#[32]⟩ : ByteArray) ++ dF ++ (⟨#[32, 62, 32]⟩ : ByteArray) ++ dT)) (by first | omega | (simp only [ByteArray.size_append]; omega))
  have b1 := fun w1 => run_string_add_sum (P := Tryz.prog) w1 ((⟨#[112, 97, 121]⟩ : ByteArray) ++ ((⟨#[32]⟩ : ByteArray) ++ dF ++ (⟨#[32, 62, 32]⟩ : ByteArray) ++ dT)) ((⟨#[32]⟩ : ByteArray)) (by first | omega | (simp only [ByteArray.size_append]; omega))
  have b2 := fun w1 => run_string_add_sum (P := Tryz.prog) w1 ((⟨#[112, 97, 121]⟩ : ByteArray) ++ ((⟨#[32]⟩ : ByteArray) ++ dF ++ (⟨#[32, 62, 32]⟩ : ByteArray) ++ dT) ++ (⟨#[32]⟩ : ByteArray)) (dI) (by first | omega | (simp only [ByteArray.size_append]; omega))
  have b3 := fun w1 => run_string_add_sum (P := Tryz.prog) w1 ((⟨#[112, 97, 121]⟩ : ByteArray) ++ ((⟨#[32]⟩ : ByteArray) ++ dF ++ (⟨#[32, 62, 32]⟩ : ByteArray) ++ dT) ++ (⟨#[32]⟩ : ByteArray) ++ dI) ((⟨#[32]⟩ : ByteArray)) (by first | omega | (simp only [ByteArray.size_append]; omega))
  have b4 := fun w1 => run_string_add_sum (P := Tryz.prog) w1 ((⟨#[112, 97, 121]⟩ : ByteArray) ++ ((⟨#[32]⟩ : ByteArray) ++ dF ++ (⟨#[32, 62, 32]⟩ : ByteArray) ++ dT) ++ (⟨#[32]⟩ : ByteArray) ++ dI ++ (⟨#[32]⟩ : ByteArray)) (dL) (by first | omega | (simp only [ByteArray.size_append]; omega))
  have b5 := fun w1 => run_string_add_sum (P := Tryz.prog) w1 ((⟨#[112, 97, 121]⟩ : ByteArray) ++ ((⟨#[32]⟩ : ByteArray) ++ dF ++ (⟨#[32, 62, 32]⟩ : ByteArray) ++ dT) ++ (⟨#[32]⟩ : ByteArray) ++ dI ++ (⟨#[32]⟩ : ByteArray) ++ dL) ((⟨#[32]⟩ : ByteArray)) (by first | omega | (simp only [ByteArray.size_append]; omega))
  have b6 := fun w1 => run_string_add_sum (P := Tryz.prog) w1 ((⟨#[112, 97, 121]⟩ : ByteArray) ++ ((⟨#[32]⟩ : ByteArray) ++ dF ++ (⟨#[32, 62, 32]⟩ : ByteArray) ++ dT) ++ (⟨#[32]⟩ : ByteArray) ++ dI ++ (⟨#[32]⟩ : ByteArray) ++ dL ++ (⟨#[32]⟩ : ByteArray)) (k) (by first | omega | (simp only [ByteArray.size_append]; omega))
  have b7 := fun w1 => run_string_add_sum (P := Tryz.prog) w1 ((⟨#[112, 97, 121]⟩ : ByteArray) ++ ((⟨#[32]⟩ : ByteArray) ++ dF ++ (⟨#[32, 62, 32]⟩ : ByteArray) ++ dT) ++ (⟨#[32]⟩ : ByteArray) ++ dI ++ (⟨#[32]⟩ : ByteArray) ++ dL ++ (⟨#[32]⟩ : ByteArray) ++ k) ((⟨#[32]⟩ : ByteArray)) (by first | omega | (simp only [ByteArray.size_append]; omega))
  have b8 := fun w1 => run_string_add_sum (P := Tryz.prog) w1 ((⟨#[112, 97, 121]⟩ : ByteArray) ++ ((⟨#[32]⟩ : ByteArray) ++ dF ++ (⟨#[32, 62, 32]⟩ : ByteArray) ++ dT) ++ (⟨#[32]⟩ : ByteArray) ++ dI ++ (⟨#[32]⟩ : ByteArray) ++ dL ++ (⟨#[32]⟩ : ByteArray) ++ k ++ (⟨#[32]⟩ : ByteArray)) (dN) (by first | omega | (simp only [ByteArray.size_append]; omega))
  have Ha0 := hide a0
  have Ha1 := hide a1
  have Ha2 := hide a2
  have Hb0 := hide b0
  have Hb1 := hide b1
  have Hb2 := hide b2
  have Hb3 := hide b3
  have Hb4 := hide b4
  have Hb5 := hide b5
  have Hb6 := hide b6
  have Hb7 := hide b7
  have Hb8 := hide b8
  clear hw1 hwg hw4 hw3 sF hF0 hF1 sT hT0 hT1 sI hI0 hI1 sL hL0 hL1 sN hN0 hN1 a0 a1 a2 b0 b1 b2 b3 b4 b5 b6 b7 b8 hk
  go_enter Tryz.func56, Tryz.ntmps56
  go_wp2_with fail
  refine (unhide HO _).mono ?_
  rintro e w1 ⟨rfl, hb1⟩
  have hA := blk_step (heap_alloc_new w _) hb1
  have hB := (below_one w _).trans (hb1.mono (by simp))
  obtain ⟨c0, c1, c2, c3, c4, c5, c6⟩ := cells7 hA
  have hz := blk_lt hA
  clear hb1
  go_upto_region 3 with fail
  refine wp_at (fun V hV => ?_)
  have hblk : V.heap[w.heap.size]? = some (.cells #[.int .i64 1, .int .i64 F, .int .i64 T, .int .i64 I, .int .i64 L, .string k, .int .i64 N] 23 (0, 0)) := by rw [hV]; exact hA
  have HBV := hide (show Below w.heap.size w V by rw [hV]; exact hB)
  have hgV := blk_lt hblk
  obtain ⟨p0, p1, p2, p3, p4, p5, p6⟩ := cells7 hblk
  have HBLK := hide hblk
  clear hV hblk hA hB c0 c1 c2 c3 c4 c5 c6 hz
  have y1 := cell_regrown p1
  have y2 := cell_regrown p2
  have n1 : ∀ d os, Calls Tryz.prog 55 #[.int .i64 F] (Sort.grow (redrawn V d) os) fun e w'' => e = .returned (.string dF) ∧ ∃ p : Regrown, w'' = Sort.grow (redrawn V p.d) p.os := fun d os => Calls.regrown_of (unhide DF _)
  have n2 : ∀ d os, Calls Tryz.prog 55 #[.int .i64 T] (Sort.grow (redrawn V d) os) fun e w'' => e = .returned (.string dT) ∧ ∃ p : Regrown, w'' = Sort.grow (redrawn V p.d) p.os := fun d os => Calls.regrown_of (unhide DT _)
  have a0 := unhide Ha0
  have a1 := unhide Ha1
  have a2 := unhide Ha2
  clear p0 p1 p2 p3 p4 p5 p6
  refine wp_region_quiet_below (by kernel_rfl) (by kernel_rfl) ?_
  repeat (first | go_big_quiet_step (first | (go_at_call_of 55 F; exact n1 _ _) | (go_at_call_of 55 T; exact n2 _ _)) | quiet_step (first | (go_at_call_of 55 F; exact n1 _ _) | (go_at_call_of 55 T; exact n2 _ _)))
  refine wpQuiet_nil ?_
  intro _ hw'
  obtain ⟨⟨dq, osq⟩, hw''⟩ := hw'
  subst hw''
  have hb2 := below_regrown V dq osq
  have HB2 := hide ((unhide HBV).trans (hb2.mono (unhide HBV).size))
  have hblk2 := blk_step (unhide HBLK) hb2
  have hz2 := blk_lt hblk2
  clear hb2 HBV HBLK y1 y2 n1 n2 a0 a1 a2 hgV
  generalize Sort.grow (redrawn V dq) osq = U at *
  obtain ⟨p0, p1, p2, p3, p4, p5, p6⟩ := cells7 hblk2
  have HBLK2 := hide hblk2
  clear hblk2
  go_upto_region 8 with fail
  refine wp_at (fun V2 hV => ?_)
  obtain rfl := hV
  clear p0 p1 p2 p3 p4 p5 p6
  obtain ⟨p0, p1, p2, p3, p4, p5, p6⟩ := cells7 (unhide HBLK2)
  have y3 := cell_regrown p3
  have y4 := cell_regrown p4
  have y6 := cell_regrown p6
  have y5 := cell_regrown p5
  have mI : ∀ d os, Calls Tryz.prog 55 #[.int .i64 I] (Sort.grow (redrawn V2 d) os) fun e w'' => e = .returned (.string dI) ∧ ∃ p : Regrown, w'' = Sort.grow (redrawn V2 p.d) p.os := fun d os => Calls.regrown_of (unhide DI _)
  have mL : ∀ d os, Calls Tryz.prog 55 #[.int .i64 L] (Sort.grow (redrawn V2 d) os) fun e w'' => e = .returned (.string dL) ∧ ∃ p : Regrown, w'' = Sort.grow (redrawn V2 p.d) p.os := fun d os => Calls.regrown_of (unhide DL _)
  have mN : ∀ d os, Calls Tryz.prog 55 #[.int .i64 N] (Sort.grow (redrawn V2 d) os) fun e w'' => e = .returned (.string dN) ∧ ∃ p : Regrown, w'' = Sort.grow (redrawn V2 p.d) p.os := fun d os => Calls.regrown_of (unhide DN _)
  have b0 := unhide Hb0
  have b1 := unhide Hb1
  have b2 := unhide Hb2
  have b3 := unhide Hb3
  have b4 := unhide Hb4
  have b5 := unhide Hb5
  have b6 := unhide Hb6
  have b7 := unhide Hb7
  have b8 := unhide Hb8
  clear p0 p1 p2 p3 p4 p5 p6 HBLK2
  refine wp_region_quiet_below (by kernel_rfl) (by kernel_rfl) ?_
  repeat (first | go_big_quiet_step (first | (go_at_call_of 55 I; exact mI _ _) | (go_at_call_of 55 L; exact mL _ _) | (go_at_call_of 55 N; exact mN _ _)) | quiet_step (first | (go_at_call_of 55 I; exact mI _ _) | (go_at_call_of 55 L; exact mL _ _) | (go_at_call_of 55 N; exact mN _ _)))
  refine wpQuiet_nil ?_
  intro _ hw'
  obtain ⟨⟨dr, osr⟩, hw''⟩ := hw'
  subst hw''
  have hB5 := (unhide HB2).trans ((below_regrown V2 dr osr).mono (unhide HB2).size)
  clear y3 y4 y6 y5 mI mL mN b0 b1 b2 b3 b4 b5 b6 b7 b8
  go_wp2_with fail
  go_ret
  exact ⟨rfl, hB5⟩

set_option maxRecDepth 100000 in
set_option maxHeartbeats 4000000 in
theorem specMsgText_ack (F T I L : Int) (k : ByteArray) (N : Int) (w : World) (h : mgOk ⟨2, F, T, I, L, k, N⟩ = true) (hF0 : 0 ≤ F) (hF1 : F ≤ 1000000000) (hT0 : 0 ≤ T) (hT1 : T ≤ 1000000000) (hI0 : 0 ≤ I) (hI1 : I ≤ 1000000000) (hk : k.size ≤ maxLen) : Calls Tryz.prog 56 #[mgv ⟨2, F, T, I, L, k, N⟩] w fun e w' => e = .returned (.string (txAck (dec F) (dec T) (dec I))) ∧ Below w.heap.size w w' := by
  have HO := hide (fun w1 => specMsgOk ⟨2, F, T, I, L, k, N⟩ w1 hk)
  rw [h] at HO
  clear h hk
  unfold txAck
  have DF := hide (fun w1 => specDecB F hF0 hF1 w1)
  have sF := dec_size F hF0 hF1
  have DT := hide (fun w1 => specDecB T hT0 hT1 w1)
  have sT := dec_size T hT0 hT1
  have DI := hide (fun w1 => specDecB I hI0 hI1 w1)
  have sI := dec_size I hI0 hI1
  generalize dec F = dF at *
  generalize dec T = dT at *
  generalize dec I = dI at *
  have hw1 : (⟨#[32]⟩ : ByteArray).size = 1 := rfl
  have hwg : (⟨#[32, 62, 32]⟩ : ByteArray).size = 3 := rfl
  have hw4 : (⟨#[119, 97, 110, 116]⟩ : ByteArray).size = 4 := rfl
  have hw3 : (⟨#[97, 99, 107]⟩ : ByteArray).size = 3 := rfl
  have a0 := fun w1 => run_string_add_sum (P := Tryz.prog) w1 ((⟨#[32]⟩ : ByteArray)) (dF) (by first | omega | (simp only [ByteArray.size_append]; omega))
  have a1 := fun w1 => run_string_add_sum (P := Tryz.prog) w1 ((⟨#[32]⟩ : ByteArray) ++ dF) ((⟨#[32, 62, 32]⟩ : ByteArray)) (by first | omega | (simp only [ByteArray.size_append]; omega))
  have a2 := fun w1 => run_string_add_sum (P := Tryz.prog) w1 ((⟨#[32]⟩ : ByteArray) ++ dF ++ (⟨#[32, 62, 32]⟩ : ByteArray)) (dT) (by first | omega | (simp only [ByteArray.size_append]; omega))
  have b0 := fun w1 => run_string_add_sum (P := Tryz.prog) w1 ((⟨#[97, 99, 107]⟩ : ByteArray)) (((⟨#[32]⟩ : ByteArray) ++ dF ++ (⟨#[32, 62, 32]⟩ : ByteArray) ++ dT)) (by first | omega | (simp only [ByteArray.size_append]; omega))
  have b1 := fun w1 => run_string_add_sum (P := Tryz.prog) w1 ((⟨#[97, 99, 107]⟩ : ByteArray) ++ ((⟨#[32]⟩ : ByteArray) ++ dF ++ (⟨#[32, 62, 32]⟩ : ByteArray) ++ dT)) ((⟨#[32]⟩ : ByteArray)) (by first | omega | (simp only [ByteArray.size_append]; omega))
  have b2 := fun w1 => run_string_add_sum (P := Tryz.prog) w1 ((⟨#[97, 99, 107]⟩ : ByteArray) ++ ((⟨#[32]⟩ : ByteArray) ++ dF ++ (⟨#[32, 62, 32]⟩ : ByteArray) ++ dT) ++ (⟨#[32]⟩ : ByteArray)) (dI) (by first | omega | (simp only [ByteArray.size_append]; omega))
  have Ha0 := hide a0
  have Ha1 := hide a1
  have Ha2 := hide a2
  have Hb0 := hide b0
  have Hb1 := hide b1
  have Hb2 := hide b2
  clear hw1 hwg hw4 hw3 sF hF0 hF1 sT hT0 hT1 sI hI0 hI1 a0 a1 a2 b0 b1 b2 
  go_enter Tryz.func56, Tryz.ntmps56
  go_wp2_with fail
  refine (unhide HO _).mono ?_
  rintro e w1 ⟨rfl, hb1⟩
  have hA := blk_step (heap_alloc_new w _) hb1
  have hB := (below_one w _).trans (hb1.mono (by simp))
  obtain ⟨c0, c1, c2, c3, c4, c5, c6⟩ := cells7 hA
  have hz := blk_lt hA
  clear hb1
  go_upto_region 3 with fail
  refine wp_at (fun V hV => ?_)
  have hblk : V.heap[w.heap.size]? = some (.cells #[.int .i64 2, .int .i64 F, .int .i64 T, .int .i64 I, .int .i64 L, .string k, .int .i64 N] 23 (0, 0)) := by rw [hV]; exact hA
  have HBV := hide (show Below w.heap.size w V by rw [hV]; exact hB)
  have hgV := blk_lt hblk
  obtain ⟨p0, p1, p2, p3, p4, p5, p6⟩ := cells7 hblk
  have HBLK := hide hblk
  clear hV hblk hA hB c0 c1 c2 c3 c4 c5 c6 hz
  have y1 := cell_regrown p1
  have y2 := cell_regrown p2
  have n1 : ∀ d os, Calls Tryz.prog 55 #[.int .i64 F] (Sort.grow (redrawn V d) os) fun e w'' => e = .returned (.string dF) ∧ ∃ p : Regrown, w'' = Sort.grow (redrawn V p.d) p.os := fun d os => Calls.regrown_of (unhide DF _)
  have n2 : ∀ d os, Calls Tryz.prog 55 #[.int .i64 T] (Sort.grow (redrawn V d) os) fun e w'' => e = .returned (.string dT) ∧ ∃ p : Regrown, w'' = Sort.grow (redrawn V p.d) p.os := fun d os => Calls.regrown_of (unhide DT _)
  have a0 := unhide Ha0
  have a1 := unhide Ha1
  have a2 := unhide Ha2
  clear p0 p1 p2 p3 p4 p5 p6
  refine wp_region_quiet_below (by kernel_rfl) (by kernel_rfl) ?_
  repeat (first | go_big_quiet_step (first | (go_at_call_of 55 F; exact n1 _ _) | (go_at_call_of 55 T; exact n2 _ _)) | quiet_step (first | (go_at_call_of 55 F; exact n1 _ _) | (go_at_call_of 55 T; exact n2 _ _)))
  refine wpQuiet_nil ?_
  intro _ hw'
  obtain ⟨⟨dq, osq⟩, hw''⟩ := hw'
  subst hw''
  have hb2 := below_regrown V dq osq
  have HB2 := hide ((unhide HBV).trans (hb2.mono (unhide HBV).size))
  have hblk2 := blk_step (unhide HBLK) hb2
  have hz2 := blk_lt hblk2
  clear hb2 HBV HBLK y1 y2 n1 n2 a0 a1 a2 hgV
  generalize Sort.grow (redrawn V dq) osq = U at *
  obtain ⟨p0, p1, p2, p3, p4, p5, p6⟩ := cells7 hblk2
  have b0 := unhide Hb0
  have b1 := unhide Hb1
  have b2 := unhide Hb2
  clear hblk2
  go_wp2_with fail
  refine (unhide DI _).mono ?_
  rintro e w5 ⟨rfl, hb5⟩
  have hB5 := (unhide HB2).trans (hb5.mono (unhide HB2).size)
  clear hb5 p0 p1 p2 p3 p4 p5 p6
  go_wp2_with fail
  go_ret
  exact ⟨rfl, hB5⟩

theorem specMsgText (m : Mg) (w : World) (hs : m.k.size ≤ maxLen) : Calls Tryz.prog 56 #[mgv m] w fun e w' => e = .returned (.string (msgTx m)) ∧ Below w.heap.size w w' := by
  cases h : mgOk m
  · rw [msgTx_no h]; exact specMsgText_no m w hs h
  obtain ⟨hF, hT, hc⟩ := mg_parts h
  obtain ⟨K, F, T, I, L, k, N⟩ := m
  have hx := h
  unfold msgTx
  rw [if_pos h]
  dsimp only at *
  rcases hc with ⟨rfl, hN, hk⟩ | ⟨rfl, hN, hI, hL, hk⟩ | ⟨rfl, hI⟩
  · exact specMsgText_want F T I L k N w hx (by omega) (by omega) (by omega) (by omega) (by omega) (by omega) hk
  · exact specMsgText_pay F T I L k N w hx (by omega) (by omega) (by omega) (by omega) (by omega) (by omega) (by omega) (by omega) (by omega) (by omega) hk
  · exact specMsgText_ack F T I L k N w hx (by omega) (by omega) (by omega) (by omega) (by omega) (by omega) hs
end Go.Proofs.YtikdkijggejnfaaGreatDoor
