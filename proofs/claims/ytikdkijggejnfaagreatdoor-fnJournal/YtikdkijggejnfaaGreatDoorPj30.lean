/- Parts. -/
import Derived.Test.YtikdkijggejnfaaGreatDoorPj13
import Derived.Test.YtikdkijggejnfaaGreatDoorPj12
import Derived.Test.YtikdkijggejnfaaGreatDoorPj29
import Derived.Test.YtikdkijggejnfaaGreatDoorPj5
namespace Go.Proofs.YtikdkijggejnfaaGreatDoor
open Go.RowKit
open Mth

set_option maxRecDepth 100000 in
set_option maxHeartbeats 2000000 in
theorem specOpText_no (o : Op5) (w : World) (hs : o.k.size ≤ maxLen) (hm : o.m.k.size ≤ maxLen) (h : opOk o = false) : Calls Tryz.prog 20 #[opw o] w fun e w' => e = .returned (.string ByteArray.empty) ∧ Below w.heap.size w w' := by
  have HO := hide (fun w1 => specOpOkW o w1 hs hm)
  rw [h] at HO
  clear h hs hm
  obtain ⟨K, no, k, n, ⟨mK, mF, mT, mI, mL, mk, mN⟩⟩ := o
  go_enter Tryz.func20, Tryz.ntmps20
  go_wp2_with fail
  refine (unhide HO _).mono ?_
  rintro e w1 ⟨rfl, hb1⟩
  have hB := (below_one w _).trans (hb1.mono (by simp))
  clear hb1
  go_wp2_with fail
  go_ret
  exact ⟨rfl, hB⟩

set_option maxRecDepth 100000 in
set_option maxHeartbeats 4000000 in
theorem specOpText_mint (no : Int) (k : ByteArray) (n : Int) (mK mF mT mI mL : Int) (mk : ByteArray) (mN : Int) (w : World) (hs : k.size ≤ maxLen) (hm : mk.size ≤ maxLen) (h : opOk ⟨0, no, k, n, ⟨mK, mF, mT, mI, mL, mk, mN⟩⟩ = true) (hn0 : 0 ≤ n) (hn1 : n ≤ 1000000000) (hk : k.size ≤ 10) : Calls Tryz.prog 20 #[opw ⟨0, no, k, n, ⟨mK, mF, mT, mI, mL, mk, mN⟩⟩] w fun e w' => e = .returned (.string (tx3 (⟨#[109, 105, 110, 116]⟩ : ByteArray) k (dec n))) ∧ Below w.heap.size w w' := by
  have HO := hide (fun w1 => specOpOkW ⟨0, no, k, n, ⟨mK, mF, mT, mI, mL, mk, mN⟩⟩ w1 hs hm)
  rw [h] at HO
  have DN := hide (fun w1 => specDecB n hn0 hn1 w1)
  have sn := dec_size n hn0 hn1
  unfold tx3
  generalize dec n = dn at *
  have hw1 : (⟨#[32]⟩ : ByteArray).size = 1 := rfl
  have hw4 : (⟨#[109, 105, 110, 116]⟩ : ByteArray).size = 4 := rfl
  have a0 := fun w1 => run_string_add_sum (P := Tryz.prog) w1 ((⟨#[109, 105, 110, 116]⟩ : ByteArray)) ((⟨#[32]⟩ : ByteArray)) (by omega)
  have a1 := fun w1 => run_string_add_sum (P := Tryz.prog) w1 ((⟨#[109, 105, 110, 116]⟩ : ByteArray) ++ (⟨#[32]⟩ : ByteArray)) (k) (by simp only [ByteArray.size_append]; omega)
  have a2 := fun w1 => run_string_add_sum (P := Tryz.prog) w1 ((⟨#[109, 105, 110, 116]⟩ : ByteArray) ++ (⟨#[32]⟩ : ByteArray) ++ k) ((⟨#[32]⟩ : ByteArray)) (by simp only [ByteArray.size_append]; omega)
  have a3 := fun w1 => run_string_add_sum (P := Tryz.prog) w1 ((⟨#[109, 105, 110, 116]⟩ : ByteArray) ++ (⟨#[32]⟩ : ByteArray) ++ k ++ (⟨#[32]⟩ : ByteArray)) (dn) (by simp only [ByteArray.size_append]; omega)
  have HA := hide (And.intro a0 (And.intro a1 (And.intro a2 (a3))))
  clear h hs hm hw1 hw4 sn hn0 hn1 hk a0 a1 a2 a3
  go_enter Tryz.func20, Tryz.ntmps20
  go_wp2_with fail
  refine (unhide HO _).mono ?_
  rintro e w1 ⟨rfl, hb1⟩
  have hA := blk_step (heap_alloc_new w _) hb1
  have hB := (below_one w _).trans (hb1.mono (by simp))
  obtain ⟨c0, c1, c2, c3, c4, c5, c6, c7, c8, c9, c10⟩ := elevenT hA
  have hz := blk_lt hA
  have hz2 : w.heap.size ≠ w1.heap.size := by omega
  clear hb1
  go_upto_region 13 with fail
  refine wp_at (fun V hV => ?_)
  have hblk : V.heap[w.heap.size]? = some (.cells #[.int .i64 0, .int .i64 no, .string k, .int .i64 n, .int .i64 mK, .int .i64 mF, .int .i64 mT, .int .i64 mI, .int .i64 mL, .string mk, .int .i64 mN] 25 (0, 0)) := by rw [hV]; exact (Below.heap_alloc w1 _ w.heap.size hz).trans hA
  have HBV := hide (show Below w.heap.size w V by rw [hV]; exact hB.alloc hB.size _)
  have hgV := blk_lt hblk
  obtain ⟨p0, p1, p2, p3, p4, p5, p6, p7, p8, p9, p10⟩ := elevenT hblk
  clear hV hblk hA hB c0 c1 c2 c3 c4 c5 c6 c7 c8 c9 c10 hz hz2
  have y1 := cell_regrown p1
  have y2 := cell_regrown p2
  have y3 := cell_regrown p3
  clear p0 p1 p2 p3 p4 p5 p6 p7 p8 p9 p10
  obtain ⟨a0, a1, a2, a3⟩ := unhide HA
  refine wp_region_mix (by kernel_rfl) ?_
  show wpMix _ _ _ _ 11 (Array.replicate 11 false) _ _
  refine wpMix_take 0 rfl (by kernel_rfl) (by kernel_rfl) (by kernel_rfl) (fun _ _ _ _ h => h) (fun K hK => ?_)
  go_simp
  first
    | (refine hK _ ?_; clear hK K)
    | (apply Exists.intro
       refine ⟨fun _ => ?_, hK _ ?_⟩
       (fail)
       clear hK K)
  refine wpMix_take 1 rfl (by kernel_rfl) (by kernel_rfl) (by kernel_rfl) (fun _ _ _ _ h => h) (fun K hK => ?_)
  go_simp
  first
    | (refine hK _ ?_; clear hK K)
    | (apply Exists.intro
       refine ⟨fun _ => ?_, hK _ ?_⟩
       (fail)
       clear hK K)
  refine wpMix_take 2 rfl (by kernel_rfl) (by kernel_rfl) (by kernel_rfl) (fun _ _ _ _ h => h) (fun K hK => ?_)
  go_simp
  first
    | (refine hK _ ?_; clear hK K)
    | (apply Exists.intro
       refine ⟨fun _ => ?_, hK _ ?_⟩
       (fail)
       clear hK K)
  refine wpMix_take 3 rfl (by kernel_rfl) (by kernel_rfl) (by kernel_rfl) (fun _ _ _ _ h => h) (fun K hK => ?_)
  go_simp
  first
    | (refine hK _ ?_; clear hK K)
    | (apply Exists.intro
       refine ⟨fun _ => ?_, hK _ ?_⟩
       (fail)
       clear hK K)
  refine wpMix_take 4 rfl (by kernel_rfl) (by kernel_rfl) (by kernel_rfl) (fun _ _ _ _ h => h) (fun K hK => ?_)
  go_simp
  first
    | (refine hK _ ?_; clear hK K)
    | (apply Exists.intro
       refine ⟨fun _ => ?_, hK _ ?_⟩
       (fail)
       clear hK K)
  refine wpMix_take 5 rfl (by kernel_rfl) (by kernel_rfl) (by kernel_rfl) (fun _ _ _ _ h => h) (fun K hK => ?_)
  go_simp
  first
    | (refine hK _ ?_; clear hK K)
    | (apply Exists.intro
       refine ⟨fun _ => ?_, hK _ ?_⟩
       (fail)
       clear hK K)
  refine wpMix_take 6 rfl (by kernel_rfl) (by kernel_rfl) (by kernel_rfl) (fun _ _ _ _ h => h) (fun K hK => ?_)
  go_simp
  first
    | (refine hK _ ?_; clear hK K)
    | (apply Exists.intro
       refine ⟨fun _ => ?_, hK _ ?_⟩
       (fail)
       clear hK K)
  refine wpMix_take 7 rfl (by kernel_rfl) (by kernel_rfl) (by kernel_rfl) (fun _ _ _ _ h => h) (fun K hK => ?_)
  go_simp
  first
    | (refine hK _ ?_; clear hK K)
    | (apply Exists.intro
       refine ⟨fun _ => ?_, hK _ ?_⟩
       (fail)
       clear hK K)
  refine wpMix_take 8 rfl (by kernel_rfl) (by kernel_rfl) (by kernel_rfl) (fun _ _ _ _ h => h) (fun K hK => ?_)
  go_simp
  first
    | (refine hK _ ?_; clear hK K)
    | (apply Exists.intro
       refine ⟨fun _ => ?_, hK _ ?_⟩
       (exact unhide DN _)
       clear hK K)
  refine wpMix_take 9 rfl (by kernel_rfl) (by kernel_rfl) (by kernel_rfl) (fun _ _ _ _ h => h) (fun K hK => ?_)
  go_simp
  first
    | (refine hK _ ?_; clear hK K)
    | (apply Exists.intro
       refine ⟨fun _ => ?_, hK _ ?_⟩
       (fail)
       clear hK K)
  refine wpMix_take 10 rfl (by kernel_rfl) (by kernel_rfl) (by kernel_rfl) (fun _ _ _ _ h => h) (fun K hK => ?_)
  go_simp
  first
    | (refine hK _ ?_; clear hK K)
    | (apply Exists.intro
       refine ⟨fun _ => ?_, hK _ ?_⟩
       (fail)
       clear hK K)
  refine wpMix_done (by kernel_rfl) (fun z hz => ?_)
  have HBZ := hide (Ge.trans (unhide HBV) hz)
  clear hz HBV y1 y2 y3 a0 a1 a2 a3 HA
  go_simp
  go_wp2_with fail
  go_ret
  exact ⟨rfl, unhide HBZ⟩
set_option maxRecDepth 100000 in
set_option maxHeartbeats 4000000 in
theorem specOpText_admit (no : Int) (k : ByteArray) (n : Int) (mK mF mT mI mL : Int) (mk : ByteArray) (mN : Int) (w : World) (hs : k.size ≤ maxLen) (hm : mk.size ≤ maxLen) (h : opOk ⟨1, no, k, n, ⟨mK, mF, mT, mI, mL, mk, mN⟩⟩ = true) (hn0 : 0 ≤ n) (hn1 : n ≤ 1000000000) (hk : k.size ≤ 10) (ho0 : 0 ≤ no) (ho1 : no ≤ 1000000000) : Calls Tryz.prog 20 #[opw ⟨1, no, k, n, ⟨mK, mF, mT, mI, mL, mk, mN⟩⟩] w fun e w' => e = .returned (.string (tx4 (⟨#[97, 100, 109, 105, 116]⟩ : ByteArray) (dec no) k (dec n))) ∧ Below w.heap.size w w' := by
  have HO := hide (fun w1 => specOpOkW ⟨1, no, k, n, ⟨mK, mF, mT, mI, mL, mk, mN⟩⟩ w1 hs hm)
  rw [h] at HO
  have DN := hide (fun w1 => specDecB n hn0 hn1 w1)
  have sn := dec_size n hn0 hn1
  have DO := hide (fun w1 => specDecB no ho0 ho1 w1)
  have so := dec_size no ho0 ho1
  unfold tx4
  generalize dec n = dn at *
  generalize dec no = do' at *
  have hw1 : (⟨#[32]⟩ : ByteArray).size = 1 := rfl
  have hw4 : (⟨#[97, 100, 109, 105, 116]⟩ : ByteArray).size = 5 := rfl
  have a0 := fun w1 => run_string_add_sum (P := Tryz.prog) w1 ((⟨#[97, 100, 109, 105, 116]⟩ : ByteArray)) ((⟨#[32]⟩ : ByteArray)) (by omega)
  have a1 := fun w1 => run_string_add_sum (P := Tryz.prog) w1 ((⟨#[97, 100, 109, 105, 116]⟩ : ByteArray) ++ (⟨#[32]⟩ : ByteArray)) (do') (by simp only [ByteArray.size_append]; omega)
  have a2 := fun w1 => run_string_add_sum (P := Tryz.prog) w1 ((⟨#[97, 100, 109, 105, 116]⟩ : ByteArray) ++ (⟨#[32]⟩ : ByteArray) ++ do') ((⟨#[32]⟩ : ByteArray)) (by simp only [ByteArray.size_append]; omega)
  have a3 := fun w1 => run_string_add_sum (P := Tryz.prog) w1 ((⟨#[97, 100, 109, 105, 116]⟩ : ByteArray) ++ (⟨#[32]⟩ : ByteArray) ++ do' ++ (⟨#[32]⟩ : ByteArray)) (k) (by simp only [ByteArray.size_append]; omega)
  have a4 := fun w1 => run_string_add_sum (P := Tryz.prog) w1 ((⟨#[97, 100, 109, 105, 116]⟩ : ByteArray) ++ (⟨#[32]⟩ : ByteArray) ++ do' ++ (⟨#[32]⟩ : ByteArray) ++ k) ((⟨#[32]⟩ : ByteArray)) (by simp only [ByteArray.size_append]; omega)
  have a5 := fun w1 => run_string_add_sum (P := Tryz.prog) w1 ((⟨#[97, 100, 109, 105, 116]⟩ : ByteArray) ++ (⟨#[32]⟩ : ByteArray) ++ do' ++ (⟨#[32]⟩ : ByteArray) ++ k ++ (⟨#[32]⟩ : ByteArray)) (dn) (by simp only [ByteArray.size_append]; omega)
  have HA := hide (And.intro a0 (And.intro a1 (And.intro a2 (And.intro a3 (And.intro a4 (a5))))))
  clear h hs hm hw1 hw4 sn hn0 hn1 hk so ho0 ho1 a0 a1 a2 a3 a4 a5
  go_enter Tryz.func20, Tryz.ntmps20
  go_wp2_with fail
  refine (unhide HO _).mono ?_
  rintro e w1 ⟨rfl, hb1⟩
  have hA := blk_step (heap_alloc_new w _) hb1
  have hB := (below_one w _).trans (hb1.mono (by simp))
  obtain ⟨c0, c1, c2, c3, c4, c5, c6, c7, c8, c9, c10⟩ := elevenT hA
  have hz := blk_lt hA
  have hz2 : w.heap.size ≠ w1.heap.size := by omega
  clear hb1
  go_upto_region 6 with fail
  refine wp_at (fun V hV => ?_)
  have hblk : V.heap[w.heap.size]? = some (.cells #[.int .i64 1, .int .i64 no, .string k, .int .i64 n, .int .i64 mK, .int .i64 mF, .int .i64 mT, .int .i64 mI, .int .i64 mL, .string mk, .int .i64 mN] 25 (0, 0)) := by rw [hV]; exact (Below.heap_alloc w1 _ w.heap.size hz).trans hA
  have HBV := hide (show Below w.heap.size w V by rw [hV]; exact hB.alloc hB.size _)
  have hgV := blk_lt hblk
  obtain ⟨p0, p1, p2, p3, p4, p5, p6, p7, p8, p9, p10⟩ := elevenT hblk
  clear hV hblk hA hB c0 c1 c2 c3 c4 c5 c6 c7 c8 c9 c10 hz hz2
  have y1 := cell_regrown p1
  have y2 := cell_regrown p2
  have y3 := cell_regrown p3
  clear p0 p1 p2 p3 p4 p5 p6 p7 p8 p9 p10
  obtain ⟨a0, a1, a2, a3, a4, a5⟩ := unhide HA
  refine wp_region_mix (by kernel_rfl) ?_
  show wpMix _ _ _ _ 16 (Array.replicate 16 false) _ _
  refine wpMix_take 0 rfl (by kernel_rfl) (by kernel_rfl) (by kernel_rfl) (fun _ _ _ _ h => h) (fun K hK => ?_)
  go_simp
  first
    | (refine hK _ ?_; clear hK K)
    | (apply Exists.intro
       refine ⟨fun _ => ?_, hK _ ?_⟩
       (fail)
       clear hK K)
  refine wpMix_take 1 rfl (by kernel_rfl) (by kernel_rfl) (by kernel_rfl) (fun _ _ _ _ h => h) (fun K hK => ?_)
  go_simp
  first
    | (refine hK _ ?_; clear hK K)
    | (apply Exists.intro
       refine ⟨fun _ => ?_, hK _ ?_⟩
       (fail)
       clear hK K)
  refine wpMix_take 2 rfl (by kernel_rfl) (by kernel_rfl) (by kernel_rfl) (fun _ _ _ _ h => h) (fun K hK => ?_)
  go_simp
  first
    | (refine hK _ ?_; clear hK K)
    | (apply Exists.intro
       refine ⟨fun _ => ?_, hK _ ?_⟩
       (fail)
       clear hK K)
  refine wpMix_take 3 rfl (by kernel_rfl) (by kernel_rfl) (by kernel_rfl) (fun _ _ _ _ h => h) (fun K hK => ?_)
  go_simp
  first
    | (refine hK _ ?_; clear hK K)
    | (apply Exists.intro
       refine ⟨fun _ => ?_, hK _ ?_⟩
       (fail)
       clear hK K)
  refine wpMix_take 4 rfl (by kernel_rfl) (by kernel_rfl) (by kernel_rfl) (fun _ _ _ _ h => h) (fun K hK => ?_)
  go_simp
  first
    | (refine hK _ ?_; clear hK K)
    | (apply Exists.intro
       refine ⟨fun _ => ?_, hK _ ?_⟩
       (exact unhide DO _)
       clear hK K)
  refine wpMix_take 5 rfl (by kernel_rfl) (by kernel_rfl) (by kernel_rfl) (fun _ _ _ _ h => h) (fun K hK => ?_)
  go_simp
  first
    | (refine hK _ ?_; clear hK K)
    | (apply Exists.intro
       refine ⟨fun _ => ?_, hK _ ?_⟩
       (fail)
       clear hK K)
  refine wpMix_take 6 rfl (by kernel_rfl) (by kernel_rfl) (by kernel_rfl) (fun _ _ _ _ h => h) (fun K hK => ?_)
  go_simp
  first
    | (refine hK _ ?_; clear hK K)
    | (apply Exists.intro
       refine ⟨fun _ => ?_, hK _ ?_⟩
       (fail)
       clear hK K)
  refine wpMix_take 7 rfl (by kernel_rfl) (by kernel_rfl) (by kernel_rfl) (fun _ _ _ _ h => h) (fun K hK => ?_)
  go_simp
  first
    | (refine hK _ ?_; clear hK K)
    | (apply Exists.intro
       refine ⟨fun _ => ?_, hK _ ?_⟩
       (fail)
       clear hK K)
  refine wpMix_take 8 rfl (by kernel_rfl) (by kernel_rfl) (by kernel_rfl) (fun _ _ _ _ h => h) (fun K hK => ?_)
  go_simp
  first
    | (refine hK _ ?_; clear hK K)
    | (apply Exists.intro
       refine ⟨fun _ => ?_, hK _ ?_⟩
       (fail)
       clear hK K)
  refine wpMix_take 9 rfl (by kernel_rfl) (by kernel_rfl) (by kernel_rfl) (fun _ _ _ _ h => h) (fun K hK => ?_)
  go_simp
  first
    | (refine hK _ ?_; clear hK K)
    | (apply Exists.intro
       refine ⟨fun _ => ?_, hK _ ?_⟩
       (fail)
       clear hK K)
  refine wpMix_take 10 rfl (by kernel_rfl) (by kernel_rfl) (by kernel_rfl) (fun _ _ _ _ h => h) (fun K hK => ?_)
  go_simp
  first
    | (refine hK _ ?_; clear hK K)
    | (apply Exists.intro
       refine ⟨fun _ => ?_, hK _ ?_⟩
       (fail)
       clear hK K)
  refine wpMix_take 11 rfl (by kernel_rfl) (by kernel_rfl) (by kernel_rfl) (fun _ _ _ _ h => h) (fun K hK => ?_)
  go_simp
  first
    | (refine hK _ ?_; clear hK K)
    | (apply Exists.intro
       refine ⟨fun _ => ?_, hK _ ?_⟩
       (fail)
       clear hK K)
  refine wpMix_take 12 rfl (by kernel_rfl) (by kernel_rfl) (by kernel_rfl) (fun _ _ _ _ h => h) (fun K hK => ?_)
  go_simp
  first
    | (refine hK _ ?_; clear hK K)
    | (apply Exists.intro
       refine ⟨fun _ => ?_, hK _ ?_⟩
       (fail)
       clear hK K)
  refine wpMix_take 13 rfl (by kernel_rfl) (by kernel_rfl) (by kernel_rfl) (fun _ _ _ _ h => h) (fun K hK => ?_)
  go_simp
  first
    | (refine hK _ ?_; clear hK K)
    | (apply Exists.intro
       refine ⟨fun _ => ?_, hK _ ?_⟩
       (exact unhide DN _)
       clear hK K)
  refine wpMix_take 14 rfl (by kernel_rfl) (by kernel_rfl) (by kernel_rfl) (fun _ _ _ _ h => h) (fun K hK => ?_)
  go_simp
  first
    | (refine hK _ ?_; clear hK K)
    | (apply Exists.intro
       refine ⟨fun _ => ?_, hK _ ?_⟩
       (fail)
       clear hK K)
  refine wpMix_take 15 rfl (by kernel_rfl) (by kernel_rfl) (by kernel_rfl) (fun _ _ _ _ h => h) (fun K hK => ?_)
  go_simp
  first
    | (refine hK _ ?_; clear hK K)
    | (apply Exists.intro
       refine ⟨fun _ => ?_, hK _ ?_⟩
       (fail)
       clear hK K)
  refine wpMix_done (by kernel_rfl) (fun z hz => ?_)
  have HBZ := hide (Ge.trans (unhide HBV) hz)
  clear hz HBV y1 y2 y3 a0 a1 a2 a3 a4 a5 HA
  go_simp
  go_wp2_with fail
  go_ret
  exact ⟨rfl, unhide HBZ⟩
set_option maxRecDepth 100000 in
set_option maxHeartbeats 4000000 in
theorem specOpText_release (no : Int) (k : ByteArray) (n : Int) (mK mF mT mI mL : Int) (mk : ByteArray) (mN : Int) (w : World) (hs : k.size ≤ maxLen) (hm : mk.size ≤ maxLen) (h : opOk ⟨2, no, k, n, ⟨mK, mF, mT, mI, mL, mk, mN⟩⟩ = true) (ho0 : 0 ≤ no) (ho1 : no ≤ 1000000000) : Calls Tryz.prog 20 #[opw ⟨2, no, k, n, ⟨mK, mF, mT, mI, mL, mk, mN⟩⟩] w fun e w' => e = .returned (.string (tx2 (⟨#[114, 101, 108, 101, 97, 115, 101]⟩ : ByteArray) (dec no))) ∧ Below w.heap.size w w' := by
  have HO := hide (fun w1 => specOpOkW ⟨2, no, k, n, ⟨mK, mF, mT, mI, mL, mk, mN⟩⟩ w1 hs hm)
  rw [h] at HO
  have DO := hide (fun w1 => specDecB no ho0 ho1 w1)
  have so := dec_size no ho0 ho1
  unfold tx2
  generalize dec no = do' at *
  have hw1 : (⟨#[32]⟩ : ByteArray).size = 1 := rfl
  have hw4 : (⟨#[114, 101, 108, 101, 97, 115, 101]⟩ : ByteArray).size = 7 := rfl
  have a0 := fun w1 => run_string_add_sum (P := Tryz.prog) w1 ((⟨#[114, 101, 108, 101, 97, 115, 101]⟩ : ByteArray)) ((⟨#[32]⟩ : ByteArray)) (by omega)
  have a1 := fun w1 => run_string_add_sum (P := Tryz.prog) w1 ((⟨#[114, 101, 108, 101, 97, 115, 101]⟩ : ByteArray) ++ (⟨#[32]⟩ : ByteArray)) (do') (by simp only [ByteArray.size_append]; omega)
  have HA := hide (And.intro a0 (a1))
  clear h hs hm hw1 hw4 so ho0 ho1 a0 a1
  go_enter Tryz.func20, Tryz.ntmps20
  go_wp2_with fail
  refine (unhide HO _).mono ?_
  rintro e w1 ⟨rfl, hb1⟩
  have hA := blk_step (heap_alloc_new w _) hb1
  have hB := (below_one w _).trans (hb1.mono (by simp))
  obtain ⟨c0, c1, c2, c3, c4, c5, c6, c7, c8, c9, c10⟩ := elevenT hA
  have hz := blk_lt hA
  have hz2 : w.heap.size ≠ w1.heap.size := by omega
  clear hb1
  obtain ⟨a0, a1⟩ := unhide HA
  go_wp2_with fail
  refine (unhide DO _).mono ?_
  rintro e w3 ⟨rfl, hb3⟩
  have hB3 := (hB.alloc hB.size (.cells #[.string (⟨#[109, 105, 110, 116]⟩ : ByteArray), .string (⟨#[97, 100, 109, 105, 116]⟩ : ByteArray), .string (⟨#[114, 101, 108, 101, 97, 115, 101]⟩ : ByteArray), .string (⟨#[119, 97, 110, 116]⟩ : ByteArray), .string (⟨#[98, 97, 99, 107]⟩ : ByteArray), .string (⟨#[116, 105, 99, 107]⟩ : ByteArray), .string (⟨#[104, 101, 97, 114]⟩ : ByteArray)] 9)).trans (hb3.mono (by have := hB.size; simp; omega))
  clear hb3 hB hA
  go_wp2_with fail
  go_ret
  exact ⟨rfl, hB3⟩
set_option maxRecDepth 100000 in
set_option maxHeartbeats 4000000 in
theorem specOpText_want (no : Int) (k : ByteArray) (n : Int) (mK mF mT mI mL : Int) (mk : ByteArray) (mN : Int) (w : World) (hs : k.size ≤ maxLen) (hm : mk.size ≤ maxLen) (h : opOk ⟨3, no, k, n, ⟨mK, mF, mT, mI, mL, mk, mN⟩⟩ = true) (hn0 : 0 ≤ n) (hn1 : n ≤ 1000000000) (hk : k.size ≤ 10) : Calls Tryz.prog 20 #[opw ⟨3, no, k, n, ⟨mK, mF, mT, mI, mL, mk, mN⟩⟩] w fun e w' => e = .returned (.string (tx3 (⟨#[119, 97, 110, 116]⟩ : ByteArray) k (dec n))) ∧ Below w.heap.size w w' := by
  have HO := hide (fun w1 => specOpOkW ⟨3, no, k, n, ⟨mK, mF, mT, mI, mL, mk, mN⟩⟩ w1 hs hm)
  rw [h] at HO
  have DN := hide (fun w1 => specDecB n hn0 hn1 w1)
  have sn := dec_size n hn0 hn1
  unfold tx3
  generalize dec n = dn at *
  have hw1 : (⟨#[32]⟩ : ByteArray).size = 1 := rfl
  have hw4 : (⟨#[119, 97, 110, 116]⟩ : ByteArray).size = 4 := rfl
  have a0 := fun w1 => run_string_add_sum (P := Tryz.prog) w1 ((⟨#[119, 97, 110, 116]⟩ : ByteArray)) ((⟨#[32]⟩ : ByteArray)) (by omega)
  have a1 := fun w1 => run_string_add_sum (P := Tryz.prog) w1 ((⟨#[119, 97, 110, 116]⟩ : ByteArray) ++ (⟨#[32]⟩ : ByteArray)) (k) (by simp only [ByteArray.size_append]; omega)
  have a2 := fun w1 => run_string_add_sum (P := Tryz.prog) w1 ((⟨#[119, 97, 110, 116]⟩ : ByteArray) ++ (⟨#[32]⟩ : ByteArray) ++ k) ((⟨#[32]⟩ : ByteArray)) (by simp only [ByteArray.size_append]; omega)
  have a3 := fun w1 => run_string_add_sum (P := Tryz.prog) w1 ((⟨#[119, 97, 110, 116]⟩ : ByteArray) ++ (⟨#[32]⟩ : ByteArray) ++ k ++ (⟨#[32]⟩ : ByteArray)) (dn) (by simp only [ByteArray.size_append]; omega)
  have HA := hide (And.intro a0 (And.intro a1 (And.intro a2 (a3))))
  clear h hs hm hw1 hw4 sn hn0 hn1 hk a0 a1 a2 a3
  go_enter Tryz.func20, Tryz.ntmps20
  go_wp2_with fail
  refine (unhide HO _).mono ?_
  rintro e w1 ⟨rfl, hb1⟩
  have hA := blk_step (heap_alloc_new w _) hb1
  have hB := (below_one w _).trans (hb1.mono (by simp))
  obtain ⟨c0, c1, c2, c3, c4, c5, c6, c7, c8, c9, c10⟩ := elevenT hA
  have hz := blk_lt hA
  have hz2 : w.heap.size ≠ w1.heap.size := by omega
  clear hb1
  go_upto_region 13 with fail
  refine wp_at (fun V hV => ?_)
  have hblk : V.heap[w.heap.size]? = some (.cells #[.int .i64 3, .int .i64 no, .string k, .int .i64 n, .int .i64 mK, .int .i64 mF, .int .i64 mT, .int .i64 mI, .int .i64 mL, .string mk, .int .i64 mN] 25 (0, 0)) := by rw [hV]; exact (Below.heap_alloc w1 _ w.heap.size hz).trans hA
  have HBV := hide (show Below w.heap.size w V by rw [hV]; exact hB.alloc hB.size _)
  have hgV := blk_lt hblk
  obtain ⟨p0, p1, p2, p3, p4, p5, p6, p7, p8, p9, p10⟩ := elevenT hblk
  clear hV hblk hA hB c0 c1 c2 c3 c4 c5 c6 c7 c8 c9 c10 hz hz2
  have y1 := cell_regrown p1
  have y2 := cell_regrown p2
  have y3 := cell_regrown p3
  clear p0 p1 p2 p3 p4 p5 p6 p7 p8 p9 p10
  obtain ⟨a0, a1, a2, a3⟩ := unhide HA
  refine wp_region_mix (by kernel_rfl) ?_
  show wpMix _ _ _ _ 11 (Array.replicate 11 false) _ _
  refine wpMix_take 0 rfl (by kernel_rfl) (by kernel_rfl) (by kernel_rfl) (fun _ _ _ _ h => h) (fun K hK => ?_)
  go_simp
  first
    | (refine hK _ ?_; clear hK K)
    | (apply Exists.intro
       refine ⟨fun _ => ?_, hK _ ?_⟩
       (fail)
       clear hK K)
  refine wpMix_take 1 rfl (by kernel_rfl) (by kernel_rfl) (by kernel_rfl) (fun _ _ _ _ h => h) (fun K hK => ?_)
  go_simp
  first
    | (refine hK _ ?_; clear hK K)
    | (apply Exists.intro
       refine ⟨fun _ => ?_, hK _ ?_⟩
       (fail)
       clear hK K)
  refine wpMix_take 2 rfl (by kernel_rfl) (by kernel_rfl) (by kernel_rfl) (fun _ _ _ _ h => h) (fun K hK => ?_)
  go_simp
  first
    | (refine hK _ ?_; clear hK K)
    | (apply Exists.intro
       refine ⟨fun _ => ?_, hK _ ?_⟩
       (fail)
       clear hK K)
  refine wpMix_take 3 rfl (by kernel_rfl) (by kernel_rfl) (by kernel_rfl) (fun _ _ _ _ h => h) (fun K hK => ?_)
  go_simp
  first
    | (refine hK _ ?_; clear hK K)
    | (apply Exists.intro
       refine ⟨fun _ => ?_, hK _ ?_⟩
       (fail)
       clear hK K)
  refine wpMix_take 4 rfl (by kernel_rfl) (by kernel_rfl) (by kernel_rfl) (fun _ _ _ _ h => h) (fun K hK => ?_)
  go_simp
  first
    | (refine hK _ ?_; clear hK K)
    | (apply Exists.intro
       refine ⟨fun _ => ?_, hK _ ?_⟩
       (fail)
       clear hK K)
  refine wpMix_take 5 rfl (by kernel_rfl) (by kernel_rfl) (by kernel_rfl) (fun _ _ _ _ h => h) (fun K hK => ?_)
  go_simp
  first
    | (refine hK _ ?_; clear hK K)
    | (apply Exists.intro
       refine ⟨fun _ => ?_, hK _ ?_⟩
       (fail)
       clear hK K)
  refine wpMix_take 6 rfl (by kernel_rfl) (by kernel_rfl) (by kernel_rfl) (fun _ _ _ _ h => h) (fun K hK => ?_)
  go_simp
  first
    | (refine hK _ ?_; clear hK K)
    | (apply Exists.intro
       refine ⟨fun _ => ?_, hK _ ?_⟩
       (fail)
       clear hK K)
  refine wpMix_take 7 rfl (by kernel_rfl) (by kernel_rfl) (by kernel_rfl) (fun _ _ _ _ h => h) (fun K hK => ?_)
  go_simp
  first
    | (refine hK _ ?_; clear hK K)
    | (apply Exists.intro
       refine ⟨fun _ => ?_, hK _ ?_⟩
       (fail)
       clear hK K)
  refine wpMix_take 8 rfl (by kernel_rfl) (by kernel_rfl) (by kernel_rfl) (fun _ _ _ _ h => h) (fun K hK => ?_)
  go_simp
  first
    | (refine hK _ ?_; clear hK K)
    | (apply Exists.intro
       refine ⟨fun _ => ?_, hK _ ?_⟩
       (exact unhide DN _)
       clear hK K)
  refine wpMix_take 9 rfl (by kernel_rfl) (by kernel_rfl) (by kernel_rfl) (fun _ _ _ _ h => h) (fun K hK => ?_)
  go_simp
  first
    | (refine hK _ ?_; clear hK K)
    | (apply Exists.intro
       refine ⟨fun _ => ?_, hK _ ?_⟩
       (fail)
       clear hK K)
  refine wpMix_take 10 rfl (by kernel_rfl) (by kernel_rfl) (by kernel_rfl) (fun _ _ _ _ h => h) (fun K hK => ?_)
  go_simp
  first
    | (refine hK _ ?_; clear hK K)
    | (apply Exists.intro
       refine ⟨fun _ => ?_, hK _ ?_⟩
       (fail)
       clear hK K)
  refine wpMix_done (by kernel_rfl) (fun z hz => ?_)
  have HBZ := hide (Ge.trans (unhide HBV) hz)
  clear hz HBV y1 y2 y3 a0 a1 a2 a3 HA
  go_simp
  go_wp2_with fail
  go_ret
  exact ⟨rfl, unhide HBZ⟩
set_option maxRecDepth 100000 in
set_option maxHeartbeats 4000000 in
theorem specOpText_back (no : Int) (k : ByteArray) (n : Int) (mK mF mT mI mL : Int) (mk : ByteArray) (mN : Int) (w : World) (hs : k.size ≤ maxLen) (hm : mk.size ≤ maxLen) (h : opOk ⟨4, no, k, n, ⟨mK, mF, mT, mI, mL, mk, mN⟩⟩ = true) (hn0 : 0 ≤ n) (hn1 : n ≤ 1000000000) (hk : k.size ≤ 10) : Calls Tryz.prog 20 #[opw ⟨4, no, k, n, ⟨mK, mF, mT, mI, mL, mk, mN⟩⟩] w fun e w' => e = .returned (.string (tx3 (⟨#[98, 97, 99, 107]⟩ : ByteArray) k (dec n))) ∧ Below w.heap.size w w' := by
  have HO := hide (fun w1 => specOpOkW ⟨4, no, k, n, ⟨mK, mF, mT, mI, mL, mk, mN⟩⟩ w1 hs hm)
  rw [h] at HO
  have DN := hide (fun w1 => specDecB n hn0 hn1 w1)
  have sn := dec_size n hn0 hn1
  unfold tx3
  generalize dec n = dn at *
  have hw1 : (⟨#[32]⟩ : ByteArray).size = 1 := rfl
  have hw4 : (⟨#[98, 97, 99, 107]⟩ : ByteArray).size = 4 := rfl
  have a0 := fun w1 => run_string_add_sum (P := Tryz.prog) w1 ((⟨#[98, 97, 99, 107]⟩ : ByteArray)) ((⟨#[32]⟩ : ByteArray)) (by omega)
  have a1 := fun w1 => run_string_add_sum (P := Tryz.prog) w1 ((⟨#[98, 97, 99, 107]⟩ : ByteArray) ++ (⟨#[32]⟩ : ByteArray)) (k) (by simp only [ByteArray.size_append]; omega)
  have a2 := fun w1 => run_string_add_sum (P := Tryz.prog) w1 ((⟨#[98, 97, 99, 107]⟩ : ByteArray) ++ (⟨#[32]⟩ : ByteArray) ++ k) ((⟨#[32]⟩ : ByteArray)) (by simp only [ByteArray.size_append]; omega)
  have a3 := fun w1 => run_string_add_sum (P := Tryz.prog) w1 ((⟨#[98, 97, 99, 107]⟩ : ByteArray) ++ (⟨#[32]⟩ : ByteArray) ++ k ++ (⟨#[32]⟩ : ByteArray)) (dn) (by simp only [ByteArray.size_append]; omega)
  have HA := hide (And.intro a0 (And.intro a1 (And.intro a2 (a3))))
  clear h hs hm hw1 hw4 sn hn0 hn1 hk a0 a1 a2 a3
  go_enter Tryz.func20, Tryz.ntmps20
  go_wp2_with fail
  refine (unhide HO _).mono ?_
  rintro e w1 ⟨rfl, hb1⟩
  have hA := blk_step (heap_alloc_new w _) hb1
  have hB := (below_one w _).trans (hb1.mono (by simp))
  obtain ⟨c0, c1, c2, c3, c4, c5, c6, c7, c8, c9, c10⟩ := elevenT hA
  have hz := blk_lt hA
  have hz2 : w.heap.size ≠ w1.heap.size := by omega
  clear hb1
  go_upto_region 13 with fail
  refine wp_at (fun V hV => ?_)
  have hblk : V.heap[w.heap.size]? = some (.cells #[.int .i64 4, .int .i64 no, .string k, .int .i64 n, .int .i64 mK, .int .i64 mF, .int .i64 mT, .int .i64 mI, .int .i64 mL, .string mk, .int .i64 mN] 25 (0, 0)) := by rw [hV]; exact (Below.heap_alloc w1 _ w.heap.size hz).trans hA
  have HBV := hide (show Below w.heap.size w V by rw [hV]; exact hB.alloc hB.size _)
  have hgV := blk_lt hblk
  obtain ⟨p0, p1, p2, p3, p4, p5, p6, p7, p8, p9, p10⟩ := elevenT hblk
  clear hV hblk hA hB c0 c1 c2 c3 c4 c5 c6 c7 c8 c9 c10 hz hz2
  have y1 := cell_regrown p1
  have y2 := cell_regrown p2
  have y3 := cell_regrown p3
  clear p0 p1 p2 p3 p4 p5 p6 p7 p8 p9 p10
  obtain ⟨a0, a1, a2, a3⟩ := unhide HA
  refine wp_region_mix (by kernel_rfl) ?_
  show wpMix _ _ _ _ 11 (Array.replicate 11 false) _ _
  refine wpMix_take 0 rfl (by kernel_rfl) (by kernel_rfl) (by kernel_rfl) (fun _ _ _ _ h => h) (fun K hK => ?_)
  go_simp
  first
    | (refine hK _ ?_; clear hK K)
    | (apply Exists.intro
       refine ⟨fun _ => ?_, hK _ ?_⟩
       (fail)
       clear hK K)
  refine wpMix_take 1 rfl (by kernel_rfl) (by kernel_rfl) (by kernel_rfl) (fun _ _ _ _ h => h) (fun K hK => ?_)
  go_simp
  first
    | (refine hK _ ?_; clear hK K)
    | (apply Exists.intro
       refine ⟨fun _ => ?_, hK _ ?_⟩
       (fail)
       clear hK K)
  refine wpMix_take 2 rfl (by kernel_rfl) (by kernel_rfl) (by kernel_rfl) (fun _ _ _ _ h => h) (fun K hK => ?_)
  go_simp
  first
    | (refine hK _ ?_; clear hK K)
    | (apply Exists.intro
       refine ⟨fun _ => ?_, hK _ ?_⟩
       (fail)
       clear hK K)
  refine wpMix_take 3 rfl (by kernel_rfl) (by kernel_rfl) (by kernel_rfl) (fun _ _ _ _ h => h) (fun K hK => ?_)
  go_simp
  first
    | (refine hK _ ?_; clear hK K)
    | (apply Exists.intro
       refine ⟨fun _ => ?_, hK _ ?_⟩
       (fail)
       clear hK K)
  refine wpMix_take 4 rfl (by kernel_rfl) (by kernel_rfl) (by kernel_rfl) (fun _ _ _ _ h => h) (fun K hK => ?_)
  go_simp
  first
    | (refine hK _ ?_; clear hK K)
    | (apply Exists.intro
       refine ⟨fun _ => ?_, hK _ ?_⟩
       (fail)
       clear hK K)
  refine wpMix_take 5 rfl (by kernel_rfl) (by kernel_rfl) (by kernel_rfl) (fun _ _ _ _ h => h) (fun K hK => ?_)
  go_simp
  first
    | (refine hK _ ?_; clear hK K)
    | (apply Exists.intro
       refine ⟨fun _ => ?_, hK _ ?_⟩
       (fail)
       clear hK K)
  refine wpMix_take 6 rfl (by kernel_rfl) (by kernel_rfl) (by kernel_rfl) (fun _ _ _ _ h => h) (fun K hK => ?_)
  go_simp
  first
    | (refine hK _ ?_; clear hK K)
    | (apply Exists.intro
       refine ⟨fun _ => ?_, hK _ ?_⟩
       (fail)
       clear hK K)
  refine wpMix_take 7 rfl (by kernel_rfl) (by kernel_rfl) (by kernel_rfl) (fun _ _ _ _ h => h) (fun K hK => ?_)
  go_simp
  first
    | (refine hK _ ?_; clear hK K)
    | (apply Exists.intro
       refine ⟨fun _ => ?_, hK _ ?_⟩
       (fail)
       clear hK K)
  refine wpMix_take 8 rfl (by kernel_rfl) (by kernel_rfl) (by kernel_rfl) (fun _ _ _ _ h => h) (fun K hK => ?_)
  go_simp
  first
    | (refine hK _ ?_; clear hK K)
    | (apply Exists.intro
       refine ⟨fun _ => ?_, hK _ ?_⟩
       (exact unhide DN _)
       clear hK K)
  refine wpMix_take 9 rfl (by kernel_rfl) (by kernel_rfl) (by kernel_rfl) (fun _ _ _ _ h => h) (fun K hK => ?_)
  go_simp
  first
    | (refine hK _ ?_; clear hK K)
    | (apply Exists.intro
       refine ⟨fun _ => ?_, hK _ ?_⟩
       (fail)
       clear hK K)
  refine wpMix_take 10 rfl (by kernel_rfl) (by kernel_rfl) (by kernel_rfl) (fun _ _ _ _ h => h) (fun K hK => ?_)
  go_simp
  first
    | (refine hK _ ?_; clear hK K)
    | (apply Exists.intro
       refine ⟨fun _ => ?_, hK _ ?_⟩
       (fail)
       clear hK K)
  refine wpMix_done (by kernel_rfl) (fun z hz => ?_)
  have HBZ := hide (Ge.trans (unhide HBV) hz)
  clear hz HBV y1 y2 y3 a0 a1 a2 a3 HA
  go_simp
  go_wp2_with fail
  go_ret
  exact ⟨rfl, unhide HBZ⟩
set_option maxRecDepth 100000 in
set_option maxHeartbeats 4000000 in
theorem specOpText_tick (no : Int) (k : ByteArray) (n : Int) (mK mF mT mI mL : Int) (mk : ByteArray) (mN : Int) (w : World) (hs : k.size ≤ maxLen) (hm : mk.size ≤ maxLen) (h : opOk ⟨5, no, k, n, ⟨mK, mF, mT, mI, mL, mk, mN⟩⟩ = true) : Calls Tryz.prog 20 #[opw ⟨5, no, k, n, ⟨mK, mF, mT, mI, mL, mk, mN⟩⟩] w fun e w' => e = .returned (.string ((⟨#[116, 105, 99, 107]⟩ : ByteArray))) ∧ Below w.heap.size w w' := by
  have HO := hide (fun w1 => specOpOkW ⟨5, no, k, n, ⟨mK, mF, mT, mI, mL, mk, mN⟩⟩ w1 hs hm)
  rw [h] at HO
  have hw1 : (⟨#[32]⟩ : ByteArray).size = 1 := rfl
  have hw4 : (⟨#[116, 105, 99, 107]⟩ : ByteArray).size = 4 := rfl
  clear h hs hm hw1 hw4 
  go_enter Tryz.func20, Tryz.ntmps20
  go_wp2_with fail
  refine (unhide HO _).mono ?_
  rintro e w1 ⟨rfl, hb1⟩
  have hA := blk_step (heap_alloc_new w _) hb1
  have hB := (below_one w _).trans (hb1.mono (by simp))
  obtain ⟨c0, c1, c2, c3, c4, c5, c6, c7, c8, c9, c10⟩ := elevenT hA
  have hz := blk_lt hA
  have hz2 : w.heap.size ≠ w1.heap.size := by omega
  clear hb1
  go_wp2_with fail
  go_ret
  exact ⟨rfl, hB.alloc hB.size _⟩
set_option maxRecDepth 100000 in
set_option maxHeartbeats 4000000 in
theorem specOpText_hear (no : Int) (k : ByteArray) (n : Int) (mK mF mT mI mL : Int) (mk : ByteArray) (mN : Int) (w : World) (hs : k.size ≤ maxLen) (hm : mk.size ≤ maxLen) (h : opOk ⟨6, no, k, n, ⟨mK, mF, mT, mI, mL, mk, mN⟩⟩ = true) : Calls Tryz.prog 20 #[opw ⟨6, no, k, n, ⟨mK, mF, mT, mI, mL, mk, mN⟩⟩] w fun e w' => e = .returned (.string (tx2 (⟨#[104, 101, 97, 114]⟩ : ByteArray) (msgTx ⟨mK, mF, mT, mI, mL, mk, mN⟩))) ∧ Below w.heap.size w w' := by
  have HO := hide (fun w1 => specOpOkW ⟨6, no, k, n, ⟨mK, mF, mT, mI, mL, mk, mN⟩⟩ w1 hs hm)
  rw [h] at HO
  have DM := hide (fun w1 => specMsgText ⟨mK, mF, mT, mI, mL, mk, mN⟩ w1 hm)
  have sm := msgTx_le ⟨mK, mF, mT, mI, mL, mk, mN⟩
  unfold tx2
  generalize msgTx ⟨mK, mF, mT, mI, mL, mk, mN⟩ = mx at *
  have hw1 : (⟨#[32]⟩ : ByteArray).size = 1 := rfl
  have hw4 : (⟨#[104, 101, 97, 114]⟩ : ByteArray).size = 4 := rfl
  have a0 := fun w1 => run_string_add_sum (P := Tryz.prog) w1 ((⟨#[104, 101, 97, 114]⟩ : ByteArray)) ((⟨#[32]⟩ : ByteArray)) (by omega)
  have a1 := fun w1 => run_string_add_sum (P := Tryz.prog) w1 ((⟨#[104, 101, 97, 114]⟩ : ByteArray) ++ (⟨#[32]⟩ : ByteArray)) (mx) (by simp only [ByteArray.size_append]; omega)
  have HA := hide (And.intro a0 (a1))
  clear h hs hm hw1 hw4 sm a0 a1
  go_enter Tryz.func20, Tryz.ntmps20
  go_wp2_with fail
  refine (unhide HO _).mono ?_
  rintro e w1 ⟨rfl, hb1⟩
  have hA := blk_step (heap_alloc_new w _) hb1
  have hB := (below_one w _).trans (hb1.mono (by simp))
  obtain ⟨c0, c1, c2, c3, c4, c5, c6, c7, c8, c9, c10⟩ := elevenT hA
  have hz := blk_lt hA
  have hz2 : w.heap.size ≠ w1.heap.size := by omega
  clear hb1
  obtain ⟨a0, a1⟩ := unhide HA
  go_wp2_with fail
  refine (unhide DM _).mono ?_
  rintro e w3 ⟨rfl, hb3⟩
  have hB3 := (hB.alloc hB.size (.cells #[.string (⟨#[109, 105, 110, 116]⟩ : ByteArray), .string (⟨#[97, 100, 109, 105, 116]⟩ : ByteArray), .string (⟨#[114, 101, 108, 101, 97, 115, 101]⟩ : ByteArray), .string (⟨#[119, 97, 110, 116]⟩ : ByteArray), .string (⟨#[98, 97, 99, 107]⟩ : ByteArray), .string (⟨#[116, 105, 99, 107]⟩ : ByteArray), .string (⟨#[104, 101, 97, 114]⟩ : ByteArray)] 9)).trans (hb3.mono (by have := hB.size; simp; omega))
  clear hb3 hB hA
  go_wp2_with fail
  go_ret
  exact ⟨rfl, hB3⟩
theorem specOpText (o : Op5) (w : World) (hs : o.k.size ≤ maxLen) (hm : o.m.k.size ≤ maxLen) : Calls Tryz.prog 20 #[opw o] w fun e w' => e = .returned (.string (opTx o)) ∧ Below w.heap.size w w' := by
  cases h : opOk o
  · rw [opTx_no h]; exact specOpText_no o w hs hm h
  have hp := op_parts h
  rw [opTx_yes h]
  obtain ⟨K, no, k, n, ⟨mK, mF, mT, mI, mL, mk, mN⟩⟩ := o
  dsimp only at hp ⊢
  rcases hp with ⟨rfl | rfl | rfl, hn, hk⟩ | ⟨rfl, hn, ho, hk⟩ | ⟨rfl, ho⟩ | rfl | ⟨rfl, hm'⟩
  · exact specOpText_mint no k n mK mF mT mI mL mk mN w hs hm h hn.1 hn.2 hk
  · exact specOpText_want no k n mK mF mT mI mL mk mN w hs hm h hn.1 hn.2 hk
  · exact specOpText_back no k n mK mF mT mI mL mk mN w hs hm h hn.1 hn.2 hk
  · exact specOpText_admit no k n mK mF mT mI mL mk mN w hs hm h hn.1 hn.2 hk ho.1 ho.2
  · exact specOpText_release no k n mK mF mT mI mL mk mN w hs hm h ho.1 ho.2
  · exact specOpText_tick no k n mK mF mT mI mL mk mN w hs hm h
  · exact specOpText_hear no k n mK mF mT mI mL mk mN w hs hm h
end Go.Proofs.YtikdkijggejnfaaGreatDoor
