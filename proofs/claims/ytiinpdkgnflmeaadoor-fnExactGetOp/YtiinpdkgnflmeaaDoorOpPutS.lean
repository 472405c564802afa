/-
  The model's OpOk and PutOp.
-/
import Derived.Test.YtiinpdkgnflmeaaDoorOpPutD
import Derived.Test.YtiinpdkgnflmeaaDoorNdOpS
import Derived.Test.YtiinpdkgnflmeaaDoorMgPutS
namespace Go.Proofs.YtiinpdkgnflmeaaDoor
open Go.RowKit
open Mth

set_option maxRecDepth 100000 in
theorem specOpOkW (o : Op5) (w : World) (hs : o.k.size ≤ maxLen) (hm : o.m.k.size ≤ maxLen) : Calls Tryd.prog 32 #[opw o] w fun e w' => e = .returned (.bool (opOk o)) ∧ Below w.heap.size w w' := by
  have HO := hide (fun w1 => specOpOk o w1 hs hm)
  generalize opOk o = r at *
  obtain ⟨K, no, k, n, ⟨mK, mF, mT, mI, mL, mk, mN⟩⟩ := o
  go_enter Tryd.func32, Tryd.ntmps32
  go_wp2_with fail
  refine (unhide HO _).mono ?_
  rintro e w1 ⟨rfl, hb1⟩
  have hB := (below_one w _).trans (hb1.mono (by simp))
  clear hb1 HO
  go_wp2_with fail
  go_ret
  exact ⟨rfl, hB⟩
set_option maxRecDepth 100000 in
set_option maxHeartbeats 2000000 in
theorem specPutOp_no (o : Op5) (w : World) (hs : o.k.size ≤ maxLen) (hm : o.m.k.size ≤ maxLen) (h : opOk o = false) : Calls Tryd.prog 21 #[opw o] w fun e w' => e = .returned (.string ByteArray.empty) ∧ Below w.heap.size w w' := by
  have HO := hide (fun w1 => specOpOkW o w1 hs hm)
  rw [h] at HO
  clear h hs hm
  obtain ⟨K, no, k, n, ⟨mK, mF, mT, mI, mL, mk, mN⟩⟩ := o
  go_enter Tryd.func21, Tryd.ntmps21
  go_wp2_with fail
  refine (unhide HO _).mono ?_
  rintro e w1 ⟨rfl, hb1⟩
  have hB := (below_one w _).trans (hb1.mono (by simp))
  clear hb1
  go_wp2_with fail
  go_ret
  exact ⟨rfl, hB⟩

set_option maxRecDepth 100000 in
set_option maxHeartbeats 4000000 in
theorem specPutOp_yes (o : Op5) (w : World) (hs : o.k.size ≤ maxLen) (hm : o.m.k.size ≤ maxLen) (h : opOk o = true) : Calls Tryd.prog 21 #[opw o] w fun e w' => e = .returned (.string (opBytes o)) ∧ Below w.heap.size w w' := by
  have hK := opKind_in h
  have HO := hide (fun w1 => specOpOkW o w1 hs hm)
  have NM := hide (fun w1 => specPutMsg o.m w1 hm)
  rw [h] at HO
  clear h hs hm
  obtain ⟨K, no, k, n, m⟩ := o
  obtain ⟨hK0, hK6⟩ := hK
  dsimp only at hK0 hK6 NM
  have hw8 := wrap_kind6 K hK0 hK6
  show Calls Tryd.prog 21 #[opw ⟨K, no, k, n, m⟩] w fun e w' => e = .returned (.string (kb K ++ putS no ++ putT k ++ putS n ++ putT (putMsg m))) ∧ Below w.heap.size w w'
  have N1 := hide (fun w1 => specPutAny no w1)
  have N2 := hide (fun w1 => specPutTAny k w1)
  have N3 := hide (fun w1 => specPutAny n w1)
  have N4 := hide (fun w1 => specPutTAny (putMsg m) w1)
  have s1 := putS_size no
  have s2 := putT_size k
  have s3 := putS_size n
  have s4 := putT_size (putMsg m)
  have s0 := kb_size K
  have HCV := hide (fun w1 g => conv_kind6 w1 g K ⟨hK0, hK6⟩)
  generalize putS no = b1 at *
  generalize putT k = b2 at *
  generalize putS n = b3 at *
  generalize putT (putMsg m) = b4 at *
  generalize putMsg m = bM at *
  generalize kb K = bK at *
  obtain ⟨mK, mF, mT, mI, mL, mk, mN⟩ := m
  have a1 := fun w1 => run_string_add_sum (P := Tryd.prog) w1 bK b1 (by omega)
  have a2 := fun w1 => run_string_add_sum (P := Tryd.prog) w1 (bK ++ b1) b2 (by simp only [ByteArray.size_append]; omega)
  have a3 := fun w1 => run_string_add_sum (P := Tryd.prog) w1 (bK ++ b1 ++ b2) b3 (by simp only [ByteArray.size_append]; omega)
  have a4 := fun w1 => run_string_add_sum (P := Tryd.prog) w1 (bK ++ b1 ++ b2 ++ b3) b4 (by simp only [ByteArray.size_append]; omega)
  have HA := hide (And.intro a1 (And.intro a2 (And.intro a3 a4)))
  clear s0 s1 s2 s3 s4 a1 a2 a3 a4 hK0 hK6
  go_enter Tryd.func21, Tryd.ntmps21
  go_wp2_with fail
  refine (unhide HO _).mono ?_
  rintro e w1 ⟨rfl, hb1⟩
  have hA := blk_step (heap_alloc_new w _) hb1
  have hB := (below_one w _).trans (hb1.mono (by simp))
  obtain ⟨c0, c1, c2, c3, c4, c5, c6, c7, c8, c9, c10⟩ := elevenP hA
  have hz := blk_lt hA
  clear hb1
  go_upto_region 3 with fail
  refine wp_at (fun V hV => ?_)
  have hblk : V.heap[w.heap.size]? = some (.cells #[.int .i64 K, .int .i64 no, .string k, .int .i64 n, .int .i64 mK, .int .i64 mF, .int .i64 mT, .int .i64 mI, .int .i64 mL, .string mk, .int .i64 mN] 25 (0, 0)) := by rw [hV]; exact hA
  have HBV := hide (show Below w.heap.size w V by rw [hV]; exact hB)
  have hgV := blk_lt hblk
  obtain ⟨p0, p1, p2, p3, p4, p5, p6, p7, p8, p9, p10⟩ := elevenP hblk
  clear hV hblk hA hB c0 c1 c2 c3 c4 c5 c6 c7 c8 c9 c10 hz
  have y0 := cell_regrown p0
  have y1 := cell_regrown p1
  have y2 := cell_regrown p2
  have y3 := cell_regrown p3
  have y4 := cell_regrown p4
  have y5 := cell_regrown p5
  have y6 := cell_regrown p6
  have y7 := cell_regrown p7
  have y8 := cell_regrown p8
  have y9 := cell_regrown p9
  have y10 := cell_regrown p10
  clear p0 p1 p2 p3 p4 p5 p6 p7 p8 p9 p10
  refine wp_region_mix (by kernel_rfl) ?_
  show wpMix _ _ _ _ 23 (Array.replicate 23 false) _ _
  refine wpMix_take 0 rfl (by kernel_rfl) (by kernel_rfl) (by kernel_rfl) (fun _ _ _ _ h => h) (fun K hK => ?_)
  go_simp
  first
    | (refine hK _ ?_; clear hK K)
    | (apply Exists.intro
       refine ⟨fun _ => ?_, hK _ ?_⟩
       (fail)
       clear hK K)
  refine wpMix_take 1 rfl (by kernel_rfl) (by kernel_rfl) (by kernel_rfl) (fun _ _ _ _ h => h) (fun K hK => ?_)
  go_simp
  first
    | (refine hK _ ?_; clear hK K)
    | (apply Exists.intro
       refine ⟨fun _ => ?_, hK _ ?_⟩
       (fail)
       clear hK K)
  refine wpMix_take 2 rfl (by kernel_rfl) (by kernel_rfl) (by kernel_rfl) (fun _ _ _ _ h => h) (fun K hK => ?_)
  go_simp
  first
    | (refine hK _ ?_; clear hK K)
    | (apply Exists.intro
       refine ⟨fun _ => ?_, hK _ ?_⟩
       (fail)
       clear hK K)
  refine wpMix_take 5 rfl (by kernel_rfl) (by kernel_rfl) (by kernel_rfl) (fun _ _ _ _ h => h) (fun K hK => ?_)
  go_simp
  first
    | (refine hK _ ?_; clear hK K)
    | (apply Exists.intro
       refine ⟨fun _ => ?_, hK _ ?_⟩
       (fail)
       clear hK K)
  refine wpMix_take 6 rfl (by kernel_rfl) (by kernel_rfl) (by kernel_rfl) (fun _ _ _ _ h => h) (fun K hK => ?_)
  go_simp
  first
    | (refine hK _ ?_; clear hK K)
    | (apply Exists.intro
       refine ⟨fun _ => ?_, hK _ ?_⟩
       (fail)
       clear hK K)
  refine wpMix_take 7 rfl (by kernel_rfl) (by kernel_rfl) (by kernel_rfl) (fun _ _ _ _ h => h) (fun K hK => ?_)
  go_simp
  first
    | (refine hK _ ?_; clear hK K)
    | (apply Exists.intro
       refine ⟨fun _ => ?_, hK _ ?_⟩
       (exact unhide N1 _)
       clear hK K)
  refine wpMix_take 9 rfl (by kernel_rfl) (by kernel_rfl) (by kernel_rfl) (fun _ _ _ _ h => h) (fun K hK => ?_)
  go_simp
  first
    | (refine hK _ ?_; clear hK K)
    | (apply Exists.intro
       refine ⟨fun _ => ?_, hK _ ?_⟩
       (fail)
       clear hK K)
  refine wpMix_take 10 rfl (by kernel_rfl) (by kernel_rfl) (by kernel_rfl) (fun _ _ _ _ h => h) (fun K hK => ?_)
  go_simp
  first
    | (refine hK _ ?_; clear hK K)
    | (apply Exists.intro
       refine ⟨fun _ => ?_, hK _ ?_⟩
       (fail)
       clear hK K)
  refine wpMix_take 11 rfl (by kernel_rfl) (by kernel_rfl) (by kernel_rfl) (fun _ _ _ _ h => h) (fun K hK => ?_)
  go_simp
  first
    | (refine hK _ ?_; clear hK K)
    | (apply Exists.intro
       refine ⟨fun _ => ?_, hK _ ?_⟩
       (exact unhide N2 _)
       clear hK K)
  refine wpMix_take 13 rfl (by kernel_rfl) (by kernel_rfl) (by kernel_rfl) (fun _ _ _ _ h => h) (fun K hK => ?_)
  go_simp
  first
    | (refine hK _ ?_; clear hK K)
    | (apply Exists.intro
       refine ⟨fun _ => ?_, hK _ ?_⟩
       (fail)
       clear hK K)
  refine wpMix_take 14 rfl (by kernel_rfl) (by kernel_rfl) (by kernel_rfl) (fun _ _ _ _ h => h) (fun K hK => ?_)
  go_simp
  first
    | (refine hK _ ?_; clear hK K)
    | (apply Exists.intro
       refine ⟨fun _ => ?_, hK _ ?_⟩
       (fail)
       clear hK K)
  refine wpMix_take 15 rfl (by kernel_rfl) (by kernel_rfl) (by kernel_rfl) (fun _ _ _ _ h => h) (fun K hK => ?_)
  go_simp
  first
    | (refine hK _ ?_; clear hK K)
    | (apply Exists.intro
       refine ⟨fun _ => ?_, hK _ ?_⟩
       (exact unhide N3 _)
       clear hK K)
  refine wpMix_take 17 rfl (by kernel_rfl) (by kernel_rfl) (by kernel_rfl) (fun _ _ _ _ h => h) (fun K hK => ?_)
  go_simp
  first
    | (refine hK _ ?_; clear hK K)
    | (apply Exists.intro
       refine ⟨fun _ => ?_, hK _ ?_⟩
       (fail)
       clear hK K)
  refine wpMix_take 18 rfl (by kernel_rfl) (by kernel_rfl) (by kernel_rfl) (fun _ _ _ _ h => h) (fun K hK => ?_)
  go_simp
  first
    | (refine hK _ ?_; clear hK K)
    | (apply Exists.intro
       refine ⟨fun _ => ?_, hK _ ?_⟩
       (fail)
       clear hK K)
  refine wpMix_take 19 rfl (by kernel_rfl) (by kernel_rfl) (by kernel_rfl) (fun _ _ _ _ h => h) (fun K hK => ?_)
  go_simp
  first
    | (refine hK _ ?_; clear hK K)
    | (apply Exists.intro
       refine ⟨fun _ => ?_, hK _ ?_⟩
       (exact unhide NM _)
       clear hK K)
  refine wpMix_take 20 rfl (by kernel_rfl) (by kernel_rfl) (by kernel_rfl) (fun _ _ _ _ h => h) (fun K hK => ?_)
  go_simp
  first
    | (refine hK _ ?_; clear hK K)
    | (apply Exists.intro
       refine ⟨fun _ => ?_, hK _ ?_⟩
       (exact unhide N4 _)
       clear hK K)
  clear y0 y1 y2 y3 y4 y5 y6 y7 y8 y9 y10 N1 N2 N3 N4 NM
  refine wpMix_one 3 rfl (by kernel_rfl) (by rfl) (fun x hx => ?_)
  go_simp
  refine ⟨below_one x _, ?_⟩
  have HBX := hide (Ge.trans (Ge.trans (unhide HBV) hx) (below_one x (.cells #[.int .u8 K] 5)))
  have hcx : (x.alloc (.cells #[.int .u8 K] 5)).cell? ⟨x.heap.size, 0, none⟩ = some (.int .u8 K) := by simp
  have hcv := fun d os => unhide HCV (Sort.grow (redrawn (x.alloc (.cells #[.int .u8 K] 5)) d) os) x.heap.size (cell_regrown hcx d os)
  obtain ⟨a1, a2, a3, a4⟩ := unhide HA
  clear hx HBV HCV HA hcx
  generalize hy : x.alloc (.cells #[.int .u8 K] 5) = y at *
  refine wpMix_take 4 rfl (by kernel_rfl) (by kernel_rfl) (by kernel_rfl) (fun _ _ _ _ h => h) (fun K hK => ?_)
  go_simp
  first
    | (refine hK _ ?_; clear hK K)
    | (apply Exists.intro
       refine ⟨fun _ => ?_, hK _ ?_⟩
       (fail)
       clear hK K)
  refine wpMix_take 8 rfl (by kernel_rfl) (by kernel_rfl) (by kernel_rfl) (fun _ _ _ _ h => h) (fun K hK => ?_)
  go_simp
  first
    | (refine hK _ ?_; clear hK K)
    | (apply Exists.intro
       refine ⟨fun _ => ?_, hK _ ?_⟩
       (fail)
       clear hK K)
  refine wpMix_take 12 rfl (by kernel_rfl) (by kernel_rfl) (by kernel_rfl) (fun _ _ _ _ h => h) (fun K hK => ?_)
  go_simp
  first
    | (refine hK _ ?_; clear hK K)
    | (apply Exists.intro
       refine ⟨fun _ => ?_, hK _ ?_⟩
       (fail)
       clear hK K)
  refine wpMix_take 16 rfl (by kernel_rfl) (by kernel_rfl) (by kernel_rfl) (fun _ _ _ _ h => h) (fun K hK => ?_)
  go_simp
  first
    | (refine hK _ ?_; clear hK K)
    | (apply Exists.intro
       refine ⟨fun _ => ?_, hK _ ?_⟩
       (fail)
       clear hK K)
  refine wpMix_take 21 rfl (by kernel_rfl) (by kernel_rfl) (by kernel_rfl) (fun _ _ _ _ h => h) (fun K hK => ?_)
  go_simp
  first
    | (refine hK _ ?_; clear hK K)
    | (apply Exists.intro
       refine ⟨fun _ => ?_, hK _ ?_⟩
       (fail)
       clear hK K)
  refine wpMix_take 22 rfl (by kernel_rfl) (by kernel_rfl) (by kernel_rfl) (fun _ _ _ _ h => h) (fun K hK => ?_)
  go_simp
  first
    | (refine hK _ ?_; clear hK K)
    | (apply Exists.intro
       refine ⟨fun _ => ?_, hK _ ?_⟩
       (fail)
       clear hK K)
  refine wpMix_done (by kernel_rfl) (fun z hz => ?_)
  have HBZ := hide (Ge.trans (unhide HBX) hz)
  clear hz HBX hcv a1 a2 a3 a4
  go_simp
  go_wp2_with fail
  go_ret
  exact ⟨rfl, unhide HBZ⟩

theorem specPutOp (o : Op5) (w : World) (hs : o.k.size ≤ maxLen) (hm : o.m.k.size ≤ maxLen) : Calls Tryd.prog 21 #[opw o] w fun e w' => e = .returned (.string (putOp o)) ∧ Below w.heap.size w w' := by
  cases h : opOk o
  · rw [putOp_no h]; exact specPutOp_no o w hs hm h
  · rw [putOp_yes h]; exact specPutOp_yes o w hs hm h
end Go.Proofs.YtiinpdkgnflmeaaDoor
