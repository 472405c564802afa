/-
  The program's PutMsg.
-/
import Derived.Test.YtiinpdkgnflmeaaMgMsg
import Derived.Test.YtiinpdkgnflmeaaPutAny
import Derived.Test.YtiinpdkgnflmeaaMgPutD
namespace Go.Proofs.Ytiinpdkgnflmeaa
open Go.RowKit
open Mth

set_option maxRecDepth 100000 in
set_option maxHeartbeats 2000000 in
theorem implPutMsg_no (m : Mg) (w : World) (h : mgOk m = false) : Calls Try.prog 23 #[mgv m] w fun e w' => e = .returned (.string ByteArray.empty) ∧ Below w.heap.size w w' := by
  have HO := hide (fun w1 => implMsgOk m w1)
  rw [h] at HO
  clear h
  obtain ⟨K, F, T, I, L, k, N⟩ := m
  go_enter Try.func23, Try.ntmps23
  go_wp2_with fail
  refine (unhide HO _).mono ?_
  rintro e w1 ⟨rfl, hb1⟩
  have hB := (below_one w _).trans (hb1.mono (by simp))
  clear hb1
  go_wp2_with fail
  go_ret
  exact ⟨rfl, hB⟩

set_option maxRecDepth 100000 in
set_option maxHeartbeats 4000000 in
theorem implPutMsg_yes (m : Mg) (w : World) (h : mgOk m = true) : Calls Try.prog 23 #[mgv m] w fun e w' => e = .returned (.string (mgBytes m)) ∧ Below w.heap.size w w' := by
  have hK := kind_in h
  have HO := hide (fun w1 => implMsgOk m w1)
  rw [h] at HO
  clear h
  obtain ⟨K, F, T, I, L, k, N⟩ := m
  obtain ⟨hK0, hK2⟩ := hK
  dsimp only at hK0 hK2
  have hw8 : IntKind.u8.wrap K = K := by
    have h3 : K = 0 ∨ K = 1 ∨ K = 2 := by omega
    rcases h3 with rfl | rfl | rfl <;> rfl
  have HK := hide (And.intro hK0 hK2)
  show Calls Try.prog 23 #[mgv ⟨K, F, T, I, L, k, N⟩] w fun e w' => e = .returned (.string (kb K ++ putS F ++ putS T ++ putS I ++ putS L ++ putT k ++ putS N)) ∧ Below w.heap.size w w'
  have N1 := hide (fun w1 => implPutAny F w1)
  have N2 := hide (fun w1 => implPutAny T w1)
  have N3 := hide (fun w1 => implPutAny I w1)
  have N4 := hide (fun w1 => implPutAny L w1)
  have N5 := hide (fun w1 => implPutTAny k w1)
  have N6 := hide (fun w1 => implPutAny N w1)
  have s1 := putS_size F
  have s2 := putS_size T
  have s3 := putS_size I
  have s4 := putS_size L
  have s5 := putT_size k
  have s6 := putS_size N
  have s0 := kb_size K
  have HCV := hide (fun w1 g => conv_kind w1 g K ⟨hK0, hK2⟩)
  generalize putS F = bF at *
  generalize putS T = bT at *
  generalize putS I = bI at *
  generalize putS L = bL at *
  generalize putT k = bk at *
  generalize putS N = bN at *
  generalize kb K = bK at *
  have A1 := hide (fun w1 => run_string_add_sum (P := Try.prog) w1 bK bF (by omega))
  have A2 := hide (fun w1 => run_string_add_sum (P := Try.prog) w1 (bK ++ bF) bT (by rw [ByteArray.size_append]; omega))
  have A3 := hide (fun w1 => run_string_add_sum (P := Try.prog) w1 (bK ++ bF ++ bT) bI (by simp only [ByteArray.size_append]; omega))
  have A4 := hide (fun w1 => run_string_add_sum (P := Try.prog) w1 (bK ++ bF ++ bT ++ bI) bL (by simp only [ByteArray.size_append]; omega))
  have A5 := hide (fun w1 => run_string_add_sum (P := Try.prog) w1 (bK ++ bF ++ bT ++ bI ++ bL) bk (by simp only [ByteArray.size_append]; omega))
  have A6 := hide (fun w1 => run_string_add_sum (P := Try.prog) w1 (bK ++ bF ++ bT ++ bI ++ bL ++ bk) bN (by simp only [ByteArray.size_append]; omega))
  clear s0 s1 s2 s3 s4 s5 s6
  go_enter Try.func23, Try.ntmps23
  go_wp2_with fail
  refine (unhide HO _).mono ?_
  rintro e w1 ⟨rfl, hb1⟩
  have hA := blk_step (heap_alloc_new w _) hb1
  have hB := (below_one w _).trans (hb1.mono (by simp))
  obtain ⟨c0, c1, c2, c3, c4, c5, c6⟩ := cells7 hA
  have hz := blk_lt hA
  clear hb1
  have hcv := fun hc => unhide HCV (w1.alloc (.cells #[.int .u8 K] 5)) w1.heap.size hc
  have hcv := hcv (by simp)
  go_upto_region 4 with fail
  refine wp_at (fun V hV => ?_)
  have hblk : V.heap[w.heap.size]? = some (.cells #[.int .i64 K, .int .i64 F, .int .i64 T, .int .i64 I, .int .i64 L, .string k, .int .i64 N] 28 (0, 0)) := by rw [hV, Below.heap_alloc _ _ _ hz]; exact hA
  have HBV := hide (show Below w.heap.size w V by rw [hV]; exact hB.alloc hB.size _)
  have hgV := blk_lt hblk
  obtain ⟨p0, p1, p2, p3, p4, p5, p6⟩ := cells7 hblk
  clear hV hblk hA hB c0 c1 c2 c3 c4 c5 c6 hz hcv HCV
  have y1 := cell_regrown p1
  have y2 := cell_regrown p2
  have y3 := cell_regrown p3
  have y4 := cell_regrown p4
  have y5 := cell_regrown p5
  have y6 := cell_regrown p6
  have n1 : ∀ d os, Calls Try.prog 21 #[.int .i64 F] (Sort.grow (redrawn V d) os) fun e w'' => e = .returned (.string bF) ∧ ∃ p : Regrown, w'' = Sort.grow (redrawn V p.d) p.os := fun d os => Calls.regrown_of (unhide N1 _)
  have n2 : ∀ d os, Calls Try.prog 21 #[.int .i64 T] (Sort.grow (redrawn V d) os) fun e w'' => e = .returned (.string bT) ∧ ∃ p : Regrown, w'' = Sort.grow (redrawn V p.d) p.os := fun d os => Calls.regrown_of (unhide N2 _)
  have n3 : ∀ d os, Calls Try.prog 21 #[.int .i64 I] (Sort.grow (redrawn V d) os) fun e w'' => e = .returned (.string bI) ∧ ∃ p : Regrown, w'' = Sort.grow (redrawn V p.d) p.os := fun d os => Calls.regrown_of (unhide N3 _)
  have n4 : ∀ d os, Calls Try.prog 21 #[.int .i64 L] (Sort.grow (redrawn V d) os) fun e w'' => e = .returned (.string bL) ∧ ∃ p : Regrown, w'' = Sort.grow (redrawn V p.d) p.os := fun d os => Calls.regrown_of (unhide N4 _)
  have n5 : ∀ d os, Calls Try.prog 22 #[.string k] (Sort.grow (redrawn V d) os) fun e w'' => e = .returned (.string bk) ∧ ∃ p : Regrown, w'' = Sort.grow (redrawn V p.d) p.os := fun d os => Calls.regrown_of (unhide N5 _)
  have n6 : ∀ d os, Calls Try.prog 21 #[.int .i64 N] (Sort.grow (redrawn V d) os) fun e w'' => e = .returned (.string bN) ∧ ∃ p : Regrown, w'' = Sort.grow (redrawn V p.d) p.os := fun d os => Calls.regrown_of (unhide N6 _)
  have a1 := unhide A1
  have a2 := unhide A2
  have a3 := unhide A3
  have a4 := unhide A4
  have a5 := unhide A5
  have a6 := unhide A6
  clear A1 A2 A3 A4 A5 A6 N1 N2 N3 N4 N5 N6 p0 p1 p2 p3 p4 p5 p6
  refine wp_region_quiet_below (by kernel_rfl) (by kernel_rfl) ?_
  repeat (first | go_big_quiet_step (first | (go_at_call_of 21 F; exact n1 _ _) | (go_at_call_of 21 T; exact n2 _ _) | (go_at_call_of 21 I; exact n3 _ _) | (go_at_call_of 21 L; exact n4 _ _) | (go_at_call_of 22 k; exact n5 _ _) | (go_at_call_of 21 N; exact n6 _ _)) | quiet_step (first | (go_at_call_of 21 F; exact n1 _ _) | (go_at_call_of 21 T; exact n2 _ _) | (go_at_call_of 21 I; exact n3 _ _) | (go_at_call_of 21 L; exact n4 _ _) | (go_at_call_of 22 k; exact n5 _ _) | (go_at_call_of 21 N; exact n6 _ _)))
  refine wpQuiet_nil ?_
  intro _ hw'
  obtain ⟨⟨dq, osq⟩, hw''⟩ := hw'
  subst hw''
  have HBL5 := hide ((unhide HBV).trans ((below_regrown _ dq osq).mono (unhide HBV).size))
  clear y1 y2 y3 y4 y5 y6 n1 n2 n3 n4 n5 n6 a1 a2 a3 a4 a5 a6
  go_wp2_with fail
  go_ret
  exact ⟨rfl, unhide HBL5⟩

theorem implPutMsg (m : Mg) (w : World) : Calls Try.prog 23 #[mgv m] w fun e w' => e = .returned (.string (putMsg m)) ∧ Below w.heap.size w w' := by
  cases h : mgOk m
  · rw [putMsg_no h]; exact implPutMsg_no m w h
  · rw [putMsg_yes h]; exact implPutMsg_yes m w h
end Go.Proofs.Ytiinpdkgnflmeaa
