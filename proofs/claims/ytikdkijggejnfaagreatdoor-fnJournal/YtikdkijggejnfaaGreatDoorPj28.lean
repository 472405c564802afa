/- Parts. -/
import Derived.Test.YtikdkijggejnfaaGreatDoorPj13
import Derived.Test.YtikdkijggejnfaaGreatDoorPj18
import Derived.Test.YtikdkijggejnfaaGreatDoorPj27
import Derived.Test.YtikdkijggejnfaaGreatDoorPj15
namespace Go.Proofs.YtikdkijggejnfaaGreatDoor
open Go.RowKit
open Mth

set_option maxRecDepth 100000 in
set_option maxHeartbeats 2000000 in
theorem implOpText_no (o : Op5) (w : World) (h : opOk o = false) : Calls Tryz.prog 19 #[opw o] w fun e w' => e = .returned (.string ByteArray.empty) ∧ Below w.heap.size w w' := by
  have HO := hide (fun w1 => implOpOkW o w1)
  rw [h] at HO
  clear h
  obtain ⟨K, no, k, n, ⟨mK, mF, mT, mI, mL, mk, mN⟩⟩ := o
  go_enter Tryz.func19, Tryz.ntmps19
  go_wp2_with fail
  refine (unhide HO _).mono ?_
  rintro e w1 ⟨rfl, hb1⟩
  have hB := (below_one w _).trans (hb1.mono (by simp))
  clear hb1
  go_wp2_with fail
  go_ret
  exact ⟨rfl, hB⟩

set_option maxRecDepth 100000 in
set_option maxHeartbeats 4000000 in
theorem words_mint (no : Int) (k : ByteArray) (n : Int) (mK mF mT mI mL : Int) (mk : ByteArray) (mN : Int) (w : World) (hn0 : 0 ≤ n) (hn1 : n ≤ 1000000000) (hT : Tens w) : Calls Tryz.prog 54 #[opw ⟨0, no, k, n, ⟨mK, mF, mT, mI, mL, mk, mN⟩⟩] w fun e w' => ∃ g, e = .returned (.slice (some ⟨g, 0, none⟩) 3 3) ∧ w'.heap[g]? = some (.cells #[.string ((⟨#[109, 105, 110, 116]⟩ : ByteArray)), .string (k), .string (dec n)] 9 (0, 0)) ∧ Below w.heap.size w w' := by
  have DN := hide (fun w1 => implDecB n hn0 hn1 w1)
  generalize dec n = dn at *
  have HT := hide hT
  clear hT hn0 hn1
  go_enter Tryz.func54, Tryz.ntmps54
  go_upto_region 3 with fail
  refine wp_at (fun V hV => ?_)
  have hblk : V.heap[w.heap.size]? = some (.cells #[.int .i64 0, .int .i64 no, .string k, .int .i64 n, .int .i64 mK, .int .i64 mF, .int .i64 mT, .int .i64 mI, .int .i64 mL, .string mk, .int .i64 mN] 25 (0, 0)) := by rw [hV]; exact heap_alloc_new w _
  have HBV := hide (show Below w.heap.size w V by rw [hV]; exact below_one w _)
  have HTG := hide (fun p : Regrown => ((unhide HT).below (unhide HBV)).below (below_regrown V p.d p.os))
  have hgV := blk_lt hblk
  obtain ⟨p0, p1, p2, p3, p4, p5, p6, p7, p8, p9, p10⟩ := elevenT hblk
  clear hV hblk HT
  have y1 := cell_regrown p1
  have y2 := cell_regrown p2
  have y3 := cell_regrown p3
  clear p0 p1 p2 p3 p4 p5 p6 p7 p8 p9 p10
  refine wp_region_mix (by kernel_rfl) ?_
  show wpMix _ _ _ _ 7 (Array.replicate 7 false) _ _
  refine wpMix_take 0 rfl (by kernel_rfl) (by kernel_rfl) (by kernel_rfl) (fun _ _ _ _ h => h) (fun K hK => ?_)
  go_simp
  first
    | (refine hK _ ?_; clear hK K)
    | (apply Exists.intro
       refine ⟨fun _ => ?_, hK _ ?_⟩
       (fail)
       clear hK K)
  refine wpMix_take 1 rfl (by kernel_rfl) (by kernel_rfl) (by kernel_rfl) (fun _ _ _ _ h => h) (fun K hK => ?_)
  go_simp
  first
    | (refine hK _ ?_; clear hK K)
    | (apply Exists.intro
       refine ⟨fun _ => ?_, hK _ ?_⟩
       (fail)
       clear hK K)
  refine wpMix_take 2 rfl (by kernel_rfl) (by kernel_rfl) (by kernel_rfl) (fun _ _ _ _ h => h) (fun K hK => ?_)
  go_simp
  first
    | (refine hK _ ?_; clear hK K)
    | (apply Exists.intro
       refine ⟨fun _ => ?_, hK _ ?_⟩
       (fail)
       clear hK K)
  refine wpMix_take 3 rfl (by kernel_rfl) (by kernel_rfl) (by kernel_rfl) (fun _ _ _ _ h => h) (fun K hK => ?_)
  go_simp
  first
    | (refine hK _ ?_; clear hK K)
    | (apply Exists.intro
       refine ⟨fun _ => ?_, hK _ ?_⟩
       (fail)
       clear hK K)
  refine wpMix_take 4 rfl (by kernel_rfl) (by kernel_rfl) (by kernel_rfl) (fun _ _ _ _ h => h) (fun K hK => ?_)
  go_simp
  first
    | (refine hK _ ?_; clear hK K)
    | (apply Exists.intro
       refine ⟨fun _ => ?_, hK _ ?_⟩
       (exact unhide DN _ (unhide HTG _))
       clear hK K)
  clear y1 y2 y3 HTG DN
  refine wpMix_one 5 rfl (by kernel_rfl) (by rfl) (fun x hx => ?_)
  go_simp
  refine ⟨below_one x _, ?_⟩
  have hx2 := heap_alloc_new x (.cells #[.string (⟨#[109, 105, 110, 116]⟩ : ByteArray), .string k, .string dn] 9)
  have HBX := hide (Ge.trans (Ge.trans (unhide HBV) hx) (below_one x (.cells #[.string (⟨#[109, 105, 110, 116]⟩ : ByteArray), .string k, .string dn] 9)))
  generalize x.alloc (.cells #[.string (⟨#[109, 105, 110, 116]⟩ : ByteArray), .string k, .string dn] 9) = y at *
  have HX := hide hx2
  clear hx hx2 HBV
  refine wpMix_take 6 rfl (by kernel_rfl) (by kernel_rfl) (by kernel_rfl) (fun _ _ _ _ h => h) (fun K hK => ?_)
  go_simp
  first
    | (refine hK _ ?_; clear hK K)
    | (apply Exists.intro
       refine ⟨fun _ => ?_, hK _ ?_⟩
       (fail)
       clear hK K)
  refine wpMix_done (by kernel_rfl) (fun z hz => ?_)
  have HBZ := hide (Ge.trans (unhide HBX) hz)
  have HZB := hide (blk_step (unhide HX) hz)
  clear hz HBX HX
  go_simp
  go_wp2_with fail
  go_ret
  exact ⟨x.heap.size, rfl, unhide HZB, unhide HBZ⟩
set_option maxRecDepth 100000 in
set_option maxHeartbeats 4000000 in
theorem words_admit (no : Int) (k : ByteArray) (n : Int) (mK mF mT mI mL : Int) (mk : ByteArray) (mN : Int) (w : World) (hn0 : 0 ≤ n) (hn1 : n ≤ 1000000000) (ho0 : 0 ≤ no) (ho1 : no ≤ 1000000000) (hT : Tens w) : Calls Tryz.prog 54 #[opw ⟨1, no, k, n, ⟨mK, mF, mT, mI, mL, mk, mN⟩⟩] w fun e w' => ∃ g, e = .returned (.slice (some ⟨g, 0, none⟩) 4 4) ∧ w'.heap[g]? = some (.cells #[.string ((⟨#[97, 100, 109, 105, 116]⟩ : ByteArray)), .string (dec no), .string (k), .string (dec n)] 9 (0, 0)) ∧ Below w.heap.size w w' := by
  have DN := hide (fun w1 => implDecB n hn0 hn1 w1)
  generalize dec n = dn at *
  have DO := hide (fun w1 => implDecB no ho0 ho1 w1)
  generalize dec no = do' at *
  have HT := hide hT
  clear hT hn0 hn1 ho0 ho1
  go_enter Tryz.func54, Tryz.ntmps54
  go_upto_region 5 with fail
  refine wp_at (fun V hV => ?_)
  have hblk : V.heap[w.heap.size]? = some (.cells #[.int .i64 1, .int .i64 no, .string k, .int .i64 n, .int .i64 mK, .int .i64 mF, .int .i64 mT, .int .i64 mI, .int .i64 mL, .string mk, .int .i64 mN] 25 (0, 0)) := by rw [hV]; exact heap_alloc_new w _
  have HBV := hide (show Below w.heap.size w V by rw [hV]; exact below_one w _)
  have HTG := hide (fun p : Regrown => ((unhide HT).below (unhide HBV)).below (below_regrown V p.d p.os))
  have hgV := blk_lt hblk
  obtain ⟨p0, p1, p2, p3, p4, p5, p6, p7, p8, p9, p10⟩ := elevenT hblk
  clear hV hblk HT
  have y1 := cell_regrown p1
  have y2 := cell_regrown p2
  have y3 := cell_regrown p3
  clear p0 p1 p2 p3 p4 p5 p6 p7 p8 p9 p10
  refine wp_region_mix (by kernel_rfl) ?_
  show wpMix _ _ _ _ 10 (Array.replicate 10 false) _ _
  refine wpMix_take 0 rfl (by kernel_rfl) (by kernel_rfl) (by kernel_rfl) (fun _ _ _ _ h => h) (fun K hK => ?_)
  go_simp
  first
    | (refine hK _ ?_; clear hK K)
    | (apply Exists.intro
       refine ⟨fun _ => ?_, hK _ ?_⟩
       (fail)
       clear hK K)
  refine wpMix_take 1 rfl (by kernel_rfl) (by kernel_rfl) (by kernel_rfl) (fun _ _ _ _ h => h) (fun K hK => ?_)
  go_simp
  first
    | (refine hK _ ?_; clear hK K)
    | (apply Exists.intro
       refine ⟨fun _ => ?_, hK _ ?_⟩
       (fail)
       clear hK K)
  refine wpMix_take 2 rfl (by kernel_rfl) (by kernel_rfl) (by kernel_rfl) (fun _ _ _ _ h => h) (fun K hK => ?_)
  go_simp
  first
    | (refine hK _ ?_; clear hK K)
    | (apply Exists.intro
       refine ⟨fun _ => ?_, hK _ ?_⟩
       (exact unhide DO _ (unhide HTG _))
       clear hK K)
  refine wpMix_take 3 rfl (by kernel_rfl) (by kernel_rfl) (by kernel_rfl) (fun _ _ _ _ h => h) (fun K hK => ?_)
  go_simp
  first
    | (refine hK _ ?_; clear hK K)
    | (apply Exists.intro
       refine ⟨fun _ => ?_, hK _ ?_⟩
       (fail)
       clear hK K)
  refine wpMix_take 4 rfl (by kernel_rfl) (by kernel_rfl) (by kernel_rfl) (fun _ _ _ _ h => h) (fun K hK => ?_)
  go_simp
  first
    | (refine hK _ ?_; clear hK K)
    | (apply Exists.intro
       refine ⟨fun _ => ?_, hK _ ?_⟩
       (fail)
       clear hK K)
  refine wpMix_take 5 rfl (by kernel_rfl) (by kernel_rfl) (by kernel_rfl) (fun _ _ _ _ h => h) (fun K hK => ?_)
  go_simp
  first
    | (refine hK _ ?_; clear hK K)
    | (apply Exists.intro
       refine ⟨fun _ => ?_, hK _ ?_⟩
       (fail)
       clear hK K)
  refine wpMix_take 6 rfl (by kernel_rfl) (by kernel_rfl) (by kernel_rfl) (fun _ _ _ _ h => h) (fun K hK => ?_)
  go_simp
  first
    | (refine hK _ ?_; clear hK K)
    | (apply Exists.intro
       refine ⟨fun _ => ?_, hK _ ?_⟩
       (fail)
       clear hK K)
  refine wpMix_take 7 rfl (by kernel_rfl) (by kernel_rfl) (by kernel_rfl) (fun _ _ _ _ h => h) (fun K hK => ?_)
  go_simp
  first
    | (refine hK _ ?_; clear hK K)
    | (apply Exists.intro
       refine ⟨fun _ => ?_, hK _ ?_⟩
       (exact unhide DN _ (unhide HTG _))
       clear hK K)
  clear y1 y2 y3 HTG DN DO
  refine wpMix_one 8 rfl (by kernel_rfl) (by rfl) (fun x hx => ?_)
  go_simp
  refine ⟨below_one x _, ?_⟩
  have hx2 := heap_alloc_new x (.cells #[.string (⟨#[97, 100, 109, 105, 116]⟩ : ByteArray), .string do', .string k, .string dn] 9)
  have HBX := hide (Ge.trans (Ge.trans (unhide HBV) hx) (below_one x (.cells #[.string (⟨#[97, 100, 109, 105, 116]⟩ : ByteArray), .string do', .string k, .string dn] 9)))
  generalize x.alloc (.cells #[.string (⟨#[97, 100, 109, 105, 116]⟩ : ByteArray), .string do', .string k, .string dn] 9) = y at *
  have HX := hide hx2
  clear hx hx2 HBV
  refine wpMix_take 9 rfl (by kernel_rfl) (by kernel_rfl) (by kernel_rfl) (fun _ _ _ _ h => h) (fun K hK => ?_)
  go_simp
  first
    | (refine hK _ ?_; clear hK K)
    | (apply Exists.intro
       refine ⟨fun _ => ?_, hK _ ?_⟩
       (fail)
       clear hK K)
  refine wpMix_done (by kernel_rfl) (fun z hz => ?_)
  have HBZ := hide (Ge.trans (unhide HBX) hz)
  have HZB := hide (blk_step (unhide HX) hz)
  clear hz HBX HX
  go_simp
  go_wp2_with fail
  go_ret
  exact ⟨x.heap.size, rfl, unhide HZB, unhide HBZ⟩
set_option maxRecDepth 100000 in
set_option maxHeartbeats 4000000 in
theorem words_release (no : Int) (k : ByteArray) (n : Int) (mK mF mT mI mL : Int) (mk : ByteArray) (mN : Int) (w : World) (ho0 : 0 ≤ no) (ho1 : no ≤ 1000000000) (hT : Tens w) : Calls Tryz.prog 54 #[opw ⟨2, no, k, n, ⟨mK, mF, mT, mI, mL, mk, mN⟩⟩] w fun e w' => ∃ g, e = .returned (.slice (some ⟨g, 0, none⟩) 2 2) ∧ w'.heap[g]? = some (.cells #[.string ((⟨#[114, 101, 108, 101, 97, 115, 101]⟩ : ByteArray)), .string (dec no)] 9 (0, 0)) ∧ Below w.heap.size w w' := by
  have DO := hide (fun w1 => implDecB no ho0 ho1 w1)
  generalize dec no = do' at *
  have HT := hide hT
  clear hT ho0 ho1
  go_enter Tryz.func54, Tryz.ntmps54
  go_wp2_with fail
  refine (unhide DO _ ((unhide HT).below (below_one w _))).mono ?_
  rintro e w3 ⟨rfl, hb3⟩
  have hB3 := (below_one w _).trans (hb3.mono (by simp))
  clear hb3
  go_wp2_with fail
  go_ret
  exact ⟨w3.heap.size, rfl, heap_alloc_new w3 _, hB3.alloc hB3.size _⟩
set_option maxRecDepth 100000 in
set_option maxHeartbeats 4000000 in
theorem words_want (no : Int) (k : ByteArray) (n : Int) (mK mF mT mI mL : Int) (mk : ByteArray) (mN : Int) (w : World) (hn0 : 0 ≤ n) (hn1 : n ≤ 1000000000) (hT : Tens w) : Calls Tryz.prog 54 #[opw ⟨3, no, k, n, ⟨mK, mF, mT, mI, mL, mk, mN⟩⟩] w fun e w' => ∃ g, e = .returned (.slice (some ⟨g, 0, none⟩) 3 3) ∧ w'.heap[g]? = some (.cells #[.string ((⟨#[119, 97, 110, 116]⟩ : ByteArray)), .string (k), .string (dec n)] 9 (0, 0)) ∧ Below w.heap.size w w' := by
  have DN := hide (fun w1 => implDecB n hn0 hn1 w1)
  generalize dec n = dn at *
  have HT := hide hT
  clear hT hn0 hn1
  go_enter Tryz.func54, Tryz.ntmps54
  go_upto_region 9 with fail
  refine wp_at (fun V hV => ?_)
  have hblk : V.heap[w.heap.size]? = some (.cells #[.int .i64 3, .int .i64 no, .string k, .int .i64 n, .int .i64 mK, .int .i64 mF, .int .i64 mT, .int .i64 mI, .int .i64 mL, .string mk, .int .i64 mN] 25 (0, 0)) := by rw [hV]; exact heap_alloc_new w _
  have HBV := hide (show Below w.heap.size w V by rw [hV]; exact below_one w _)
  have HTG := hide (fun p : Regrown => ((unhide HT).below (unhide HBV)).below (below_regrown V p.d p.os))
  have hgV := blk_lt hblk
  obtain ⟨p0, p1, p2, p3, p4, p5, p6, p7, p8, p9, p10⟩ := elevenT hblk
  clear hV hblk HT
  have y1 := cell_regrown p1
  have y2 := cell_regrown p2
  have y3 := cell_regrown p3
  clear p0 p1 p2 p3 p4 p5 p6 p7 p8 p9 p10
  refine wp_region_mix (by kernel_rfl) ?_
  show wpMix _ _ _ _ 7 (Array.replicate 7 false) _ _
  refine wpMix_take 0 rfl (by kernel_rfl) (by kernel_rfl) (by kernel_rfl) (fun _ _ _ _ h => h) (fun K hK => ?_)
  go_simp
  first
    | (refine hK _ ?_; clear hK K)
    | (apply Exists.intro
       refine ⟨fun _ => ?_, hK _ ?_⟩
       (fail)
       clear hK K)
  refine wpMix_take 1 rfl (by kernel_rfl) (by kernel_rfl) (by kernel_rfl) (fun _ _ _ _ h => h) (fun K hK => ?_)
  go_simp
  first
    | (refine hK _ ?_; clear hK K)
    | (apply Exists.intro
       refine ⟨fun _ => ?_, hK _ ?_⟩
       (fail)
       clear hK K)
  refine wpMix_take 2 rfl (by kernel_rfl) (by kernel_rfl) (by kernel_rfl) (fun _ _ _ _ h => h) (fun K hK => ?_)
  go_simp
  first
    | (refine hK _ ?_; clear hK K)
    | (apply Exists.intro
       refine ⟨fun _ => ?_, hK _ ?_⟩
       (fail)
       clear hK K)
  refine wpMix_take 3 rfl (by kernel_rfl) (by kernel_rfl) (by kernel_rfl) (fun _ _ _ _ h => h) (fun K hK => ?_)
  go_simp
  first
    | (refine hK _ ?_; clear hK K)
    | (apply Exists.intro
       refine ⟨fun _ => ?_, hK _ ?_⟩
       (fail)
       clear hK K)
  refine wpMix_take 4 rfl (by kernel_rfl) (by kernel_rfl) (by kernel_rfl) (fun _ _ _ _ h => h) (fun K hK => ?_)
  go_simp
  first
    | (refine hK _ ?_; clear hK K)
    | (apply Exists.intro
       refine ⟨fun _ => ?_, hK _ ?_⟩
       (exact unhide DN _ (unhide HTG _))
       clear hK K)
  clear y1 y2 y3 HTG DN
  refine wpMix_one 5 rfl (by kernel_rfl) (by rfl) (fun x hx => ?_)
  go_simp
  refine ⟨below_one x _, ?_⟩
  have hx2 := heap_alloc_new x (.cells #[.string (⟨#[119, 97, 110, 116]⟩ : ByteArray), .string k, .string dn] 9)
  have HBX := hide (Ge.trans (Ge.trans (unhide HBV) hx) (below_one x (.cells #[.string (⟨#[119, 97, 110, 116]⟩ : ByteArray), .string k, .string dn] 9)))
  generalize x.alloc (.cells #[.string (⟨#[119, 97, 110, 116]⟩ : ByteArray), .string k, .string dn] 9) = y at *
  have HX := hide hx2
  clear hx hx2 HBV
  refine wpMix_take 6 rfl (by kernel_rfl) (by kernel_rfl) (by kernel_rfl) (fun _ _ _ _ h => h) (fun K hK => ?_)
  go_simp
  first
    | (refine hK _ ?_; clear hK K)
    | (apply Exists.intro
       refine ⟨fun _ => ?_, hK _ ?_⟩
       (fail)
       clear hK K)
  refine wpMix_done (by kernel_rfl) (fun z hz => ?_)
  have HBZ := hide (Ge.trans (unhide HBX) hz)
  have HZB := hide (blk_step (unhide HX) hz)
  clear hz HBX HX
  go_simp
  go_wp2_with fail
  go_ret
  exact ⟨x.heap.size, rfl, unhide HZB, unhide HBZ⟩
set_option maxRecDepth 100000 in
set_option maxHeartbeats 4000000 in
theorem words_back (no : Int) (k : ByteArray) (n : Int) (mK mF mT mI mL : Int) (mk : ByteArray) (mN : Int) (w : World) (hn0 : 0 ≤ n) (hn1 : n ≤ 1000000000) (hT : Tens w) : Calls Tryz.prog 54 #[opw ⟨4, no, k, n, ⟨mK, mF, mT, mI, mL, mk, mN⟩⟩] w fun e w' => ∃ g, e = .returned (.slice (some ⟨g, 0, none⟩) 3 3) ∧ w'.heap[g]? = some (.cells #[.string ((⟨#[98, 97, 99, 107]⟩ : ByteArray)), .string (k), .string (dec n)] 9 (0, 0)) ∧ Below w.heap.size w w' := by
  have DN := hide (fun w1 => implDecB n hn0 hn1 w1)
  generalize dec n = dn at *
  have HT := hide hT
  clear hT hn0 hn1
  go_enter Tryz.func54, Tryz.ntmps54
  go_upto_region 11 with fail
  refine wp_at (fun V hV => ?_)
  have hblk : V.heap[w.heap.size]? = some (.cells #[.int .i64 4, .int .i64 no, .string k, .int .i64 n, .int .i64 mK, .int .i64 mF, .int .i64 mT, .int .i64 mI, .int .i64 mL, .string mk, .int .i64 mN] 25 (0, 0)) := by rw [hV]; exact heap_alloc_new w _
  have HBV := hide (show Below w.heap.size w V by rw [hV]; exact below_one w _)
  have HTG := hide (fun p : Regrown => ((unhide HT).below (unhide HBV)).below (below_regrown V p.d p.os))
  have hgV := blk_lt hblk
  obtain ⟨p0, p1, p2, p3, p4, p5, p6, p7, p8, p9, p10⟩ := elevenT hblk
  clear hV hblk HT
  have y1 := cell_regrown p1
  have y2 := cell_regrown p2
  have y3 := cell_regrown p3
  clear p0 p1 p2 p3 p4 p5 p6 p7 p8 p9 p10
  refine wp_region_mix (by kernel_rfl) ?_
  show wpMix _ _ _ _ 7 (Array.replicate 7 false) _ _
  refine wpMix_take 0 rfl (by kernel_rfl) (by kernel_rfl) (by kernel_rfl) (fun _ _ _ _ h => h) (fun K hK => ?_)
  go_simp
  first
    | (refine hK _ ?_; clear hK K)
    | (apply Exists.intro
       refine ⟨fun _ => ?_, hK _ ?_⟩
       (fail)
       clear hK K)
  refine wpMix_take 1 rfl (by kernel_rfl) (by kernel_rfl) (by kernel_rfl) (fun _ _ _ _ h => h) (fun K hK => ?_)
  go_simp
  first
    | (refine hK _ ?_; clear hK K)
    | (apply Exists.intro
       refine ⟨fun _ => ?_, hK _ ?_⟩
       (fail)
       clear hK K)
  refine wpMix_take 2 rfl (by kernel_rfl) (by kernel_rfl) (by kernel_rfl) (fun _ _ _ _ h => h) (fun K hK => ?_)
  go_simp
  first
    | (refine hK _ ?_; clear hK K)
    | (apply Exists.intro
       refine ⟨fun _ => ?_, hK _ ?_⟩
       (fail)
       clear hK K)
  refine wpMix_take 3 rfl (by kernel_rfl) (by kernel_rfl) (by kernel_rfl) (fun _ _ _ _ h => h) (fun K hK => ?_)
  go_simp
  first
    | (refine hK _ ?_; clear hK K)
    | (apply Exists.intro
       refine ⟨fun _ => ?_, hK _ ?_⟩
       (fail)
       clear hK K)
  refine wpMix_take 4 rfl (by kernel_rfl) (by kernel_rfl) (by kernel_rfl) (fun _ _ _ _ h => h) (fun K hK => ?_)
  go_simp
  first
    | (refine hK _ ?_; clear hK K)
    | (apply Exists.intro
       refine ⟨fun _ => ?_, hK _ ?_⟩
       (exact unhide DN _ (unhide HTG _))
       clear hK K)
  clear y1 y2 y3 HTG DN
  refine wpMix_one 5 rfl (by kernel_rfl) (by rfl) (fun x hx => ?_)
  go_simp
  refine ⟨below_one x _, ?_⟩
  have hx2 := heap_alloc_new x (.cells #[.string (⟨#[98, 97, 99, 107]⟩ : ByteArray), .string k, .string dn] 9)
  have HBX := hide (Ge.trans (Ge.trans (unhide HBV) hx) (below_one x (.cells #[.string (⟨#[98, 97, 99, 107]⟩ : ByteArray), .string k, .string dn] 9)))
  generalize x.alloc (.cells #[.string (⟨#[98, 97, 99, 107]⟩ : ByteArray), .string k, .string dn] 9) = y at *
  have HX := hide hx2
  clear hx hx2 HBV
  refine wpMix_take 6 rfl (by kernel_rfl) (by kernel_rfl) (by kernel_rfl) (fun _ _ _ _ h => h) (fun K hK => ?_)
  go_simp
  first
    | (refine hK _ ?_; clear hK K)
    | (apply Exists.intro
       refine ⟨fun _ => ?_, hK _ ?_⟩
       (fail)
       clear hK K)
  refine wpMix_done (by kernel_rfl) (fun z hz => ?_)
  have HBZ := hide (Ge.trans (unhide HBX) hz)
  have HZB := hide (blk_step (unhide HX) hz)
  clear hz HBX HX
  go_simp
  go_wp2_with fail
  go_ret
  exact ⟨x.heap.size, rfl, unhide HZB, unhide HBZ⟩
set_option maxRecDepth 100000 in
set_option maxHeartbeats 4000000 in
theorem words_tick (no : Int) (k : ByteArray) (n : Int) (mK mF mT mI mL : Int) (mk : ByteArray) (mN : Int) (w : World) (hT : Tens w) : Calls Tryz.prog 54 #[opw ⟨5, no, k, n, ⟨mK, mF, mT, mI, mL, mk, mN⟩⟩] w fun e w' => ∃ g, e = .returned (.slice (some ⟨g, 0, none⟩) 1 1) ∧ w'.heap[g]? = some (.cells #[.string ((⟨#[116, 105, 99, 107]⟩ : ByteArray))] 9 (0, 0)) ∧ Below w.heap.size w w' := by
  have HT := hide hT
  clear hT 
  go_enter Tryz.func54, Tryz.ntmps54
  go_wp2_with fail
  go_ret
  obtain ⟨_, h2, h3⟩ := allocsE2 w (.cells #[.int .i64 5, .int .i64 no, .string k, .int .i64 n, .int .i64 mK, .int .i64 mF, .int .i64 mT, .int .i64 mI, .int .i64 mL, .string mk, .int .i64 mN] 25) (.cells #[.string (⟨#[116, 105, 99, 107]⟩ : ByteArray)] 9)
  exact ⟨w.heap.size + 1, rfl, h2, h3⟩
set_option maxRecDepth 100000 in
set_option maxHeartbeats 4000000 in
theorem words_hear (no : Int) (k : ByteArray) (n : Int) (mK mF mT mI mL : Int) (mk : ByteArray) (mN : Int) (w : World) (hT : Tens w) : Calls Tryz.prog 54 #[opw ⟨6, no, k, n, ⟨mK, mF, mT, mI, mL, mk, mN⟩⟩] w fun e w' => ∃ g, e = .returned (.slice (some ⟨g, 0, none⟩) 2 2) ∧ w'.heap[g]? = some (.cells #[.string ((⟨#[104, 101, 97, 114]⟩ : ByteArray)), .string (msgTx ⟨mK, mF, mT, mI, mL, mk, mN⟩)] 9 (0, 0)) ∧ Below w.heap.size w w' := by
  have DM := hide (fun w1 => implMsgText ⟨mK, mF, mT, mI, mL, mk, mN⟩ w1)
  generalize msgTx ⟨mK, mF, mT, mI, mL, mk, mN⟩ = mx at *
  have HT := hide hT
  clear hT 
  go_enter Tryz.func54, Tryz.ntmps54
  go_wp2_with fail
  refine (unhide DM _ ((unhide HT).below (below_one w _))).mono ?_
  rintro e w3 ⟨rfl, hb3⟩
  have hB3 := (below_one w _).trans (hb3.mono (by simp))
  clear hb3
  go_wp2_with fail
  go_ret
  exact ⟨w3.heap.size, rfl, heap_alloc_new w3 _, hB3.alloc hB3.size _⟩
set_option maxRecDepth 100000 in
set_option maxHeartbeats 2000000 in
theorem implOpText_mint (no : Int) (k : ByteArray) (n : Int) (mK mF mT mI mL : Int) (mk : ByteArray) (mN : Int) (w : World) (h : opOk ⟨0, no, k, n, ⟨mK, mF, mT, mI, mL, mk, mN⟩⟩ = true) (hn0 : 0 ≤ n) (hn1 : n ≤ 1000000000) (hk : k.size ≤ 10) (hT : Tens w) : Calls Tryz.prog 19 #[opw ⟨0, no, k, n, ⟨mK, mF, mT, mI, mL, mk, mN⟩⟩] w fun e w' => e = .returned (.string (tx3 (⟨#[109, 105, 110, 116]⟩ : ByteArray) k (dec n))) ∧ Below w.heap.size w w' := by
  have HO := hide (fun w1 => implOpOkW ⟨0, no, k, n, ⟨mK, mF, mT, mI, mL, mk, mN⟩⟩ w1)
  rw [h] at HO
  have HW := hide (fun w1 h => words_mint no k n mK mF mT mI mL mk mN w1 hn0 hn1 h)
  have hjn := join3 ((⟨#[109, 105, 110, 116]⟩ : ByteArray)) (k) (dec n)
  have hlen : (Lib.join (([(⟨#[109, 105, 110, 116]⟩ : ByteArray), k, dec n] : List ByteArray).map (·.data.toList)) (⟨#[32]⟩ : ByteArray).data.toList).length ≤ 140737488355328 := by
    have sn := dec_size n hn0 hn1
    have qn := size_toList (dec n)
    have qk := size_toList k
    simp [Lib.join, List.intercalate, List.intersperse]
    omega
  have HJ := hide (fun g w1 hc hg => Tryz.strings_Join g 0 3 [(⟨#[109, 105, 110, 116]⟩ : ByteArray), k, dec n] ⟨#[32]⟩ w1 hc hg (by simp) (by simp) hlen)
  rw [show (⟨(Lib.join (([(⟨#[109, 105, 110, 116]⟩ : ByteArray), k, dec n] : List ByteArray).map (·.data.toList)) (⟨#[32]⟩ : ByteArray).data.toList).toArray⟩ : ByteArray) = tx3 (⟨#[109, 105, 110, 116]⟩ : ByteArray) k (dec n) from hjn] at HJ
  have HT := hide hT
  clear h hjn hlen hT hn0 hn1 hk
  generalize tx3 (⟨#[109, 105, 110, 116]⟩ : ByteArray) k (dec n) = r at *
  generalize dec n = dn at *
  go_enter Tryz.func19, Tryz.ntmps19
  go_wp2_with fail
  refine (unhide HO _).mono ?_
  rintro e w1 ⟨rfl, hb1⟩
  have hA := blk_step (heap_alloc_new w _) hb1
  have hB := (below_one w _).trans (hb1.mono (by simp))
  obtain ⟨c0, c1, c2, c3, c4, c5, c6, c7, c8, c9, c10⟩ := elevenT hA
  have hz := blk_lt hA
  clear hb1
  go_wp2_with fail
  refine (unhide HW _ ((unhide HT).below hB)).mono ?_
  rintro e w2 ⟨g, rfl, hg, hb2⟩
  have hB2 := hB.trans (hb2.mono hB.size)
  have hgl := blk_lt hg
  have hc2 := hide (show ∀ (j : Nat) x, ([(⟨#[109, 105, 110, 116]⟩ : ByteArray), k, dn] : List ByteArray)[j]? = some x → w2.cell? ⟨g, 0 + j, none⟩ = some (.string x) by
    intro j x hx
    rw [Nat.zero_add, cell_of_row w2 g j _ 9 (0, 0) hg]
    rw [show (#[.string (⟨#[109, 105, 110, 116]⟩ : ByteArray), .string k, .string dn] : Array Value) = (([(⟨#[109, 105, 110, 116]⟩ : ByteArray), k, dn] : List ByteArray).map Value.string).toArray from rfl]
    simp only [List.getElem?_toArray, List.getElem?_map, hx]
    rfl)
  clear hb2 hB hg hA c0 c1 c2 c3 c4 c5 c6 c7 c8 c9 c10
  go_wp2_with fail
  refine (unhide HJ g _ (unhide hc2) hgl).mono ?_
  rintro e w3 ⟨rfl, hb3⟩
  have hB3 := hB2.trans (hb3.mono hB2.size)
  clear hb3 hB2 hc2
  go_wp2_with fail
  go_ret
  exact ⟨rfl, hB3⟩
set_option maxRecDepth 100000 in
set_option maxHeartbeats 2000000 in
theorem implOpText_admit (no : Int) (k : ByteArray) (n : Int) (mK mF mT mI mL : Int) (mk : ByteArray) (mN : Int) (w : World) (h : opOk ⟨1, no, k, n, ⟨mK, mF, mT, mI, mL, mk, mN⟩⟩ = true) (hn0 : 0 ≤ n) (hn1 : n ≤ 1000000000) (hk : k.size ≤ 10) (ho0 : 0 ≤ no) (ho1 : no ≤ 1000000000) (hT : Tens w) : Calls Tryz.prog 19 #[opw ⟨1, no, k, n, ⟨mK, mF, mT, mI, mL, mk, mN⟩⟩] w fun e w' => e = .returned (.string (tx4 (⟨#[97, 100, 109, 105, 116]⟩ : ByteArray) (dec no) k (dec n))) ∧ Below w.heap.size w w' := by
  have HO := hide (fun w1 => implOpOkW ⟨1, no, k, n, ⟨mK, mF, mT, mI, mL, mk, mN⟩⟩ w1)
  rw [h] at HO
  have HW := hide (fun w1 h => words_admit no k n mK mF mT mI mL mk mN w1 hn0 hn1 ho0 ho1 h)
  have hjn := join4 ((⟨#[97, 100, 109, 105, 116]⟩ : ByteArray)) (dec no) (k) (dec n)
  have hlen : (Lib.join (([(⟨#[97, 100, 109, 105, 116]⟩ : ByteArray), dec no, k, dec n] : List ByteArray).map (·.data.toList)) (⟨#[32]⟩ : ByteArray).data.toList).length ≤ 140737488355328 := by
    have sn := dec_size n hn0 hn1
    have qn := size_toList (dec n)
    have qk := size_toList k
    have so := dec_size no ho0 ho1
    have qo := size_toList (dec no)
    simp [Lib.join, List.intercalate, List.intersperse]
    omega
  have HJ := hide (fun g w1 hc hg => Tryz.strings_Join g 0 4 [(⟨#[97, 100, 109, 105, 116]⟩ : ByteArray), dec no, k, dec n] ⟨#[32]⟩ w1 hc hg (by simp) (by simp) hlen)
  rw [show (⟨(Lib.join (([(⟨#[97, 100, 109, 105, 116]⟩ : ByteArray), dec no, k, dec n] : List ByteArray).map (·.data.toList)) (⟨#[32]⟩ : ByteArray).data.toList).toArray⟩ : ByteArray) = tx4 (⟨#[97, 100, 109, 105, 116]⟩ : ByteArray) (dec no) k (dec n) from hjn] at HJ
  have HT := hide hT
  clear h hjn hlen hT hn0 hn1 hk ho0 ho1
  generalize tx4 (⟨#[97, 100, 109, 105, 116]⟩ : ByteArray) (dec no) k (dec n) = r at *
  generalize dec n = dn at *
  generalize dec no = do' at *
  go_enter Tryz.func19, Tryz.ntmps19
  go_wp2_with fail
  refine (unhide HO _).mono ?_
  rintro e w1 ⟨rfl, hb1⟩
  have hA := blk_step (heap_alloc_new w _) hb1
  have hB := (below_one w _).trans (hb1.mono (by simp))
  obtain ⟨c0, c1, c2, c3, c4, c5, c6, c7, c8, c9, c10⟩ := elevenT hA
  have hz := blk_lt hA
  clear hb1
  go_wp2_with fail
  refine (unhide HW _ ((unhide HT).below hB)).mono ?_
  rintro e w2 ⟨g, rfl, hg, hb2⟩
  have hB2 := hB.trans (hb2.mono hB.size)
  have hgl := blk_lt hg
  have hc2 := hide (show ∀ (j : Nat) x, ([(⟨#[97, 100, 109, 105, 116]⟩ : ByteArray), do', k, dn] : List ByteArray)[j]? = some x → w2.cell? ⟨g, 0 + j, none⟩ = some (.string x) by
    intro j x hx
    rw [Nat.zero_add, cell_of_row w2 g j _ 9 (0, 0) hg]
    rw [show (#[.string (⟨#[97, 100, 109, 105, 116]⟩ : ByteArray), .string do', .string k, .string dn] : Array Value) = (([(⟨#[97, 100, 109, 105, 116]⟩ : ByteArray), do', k, dn] : List ByteArray).map Value.string).toArray from rfl]
    simp only [List.getElem?_toArray, List.getElem?_map, hx]
    rfl)
  clear hb2 hB hg hA c0 c1 c2 c3 c4 c5 c6 c7 c8 c9 c10
  go_wp2_with fail
  refine (unhide HJ g _ (unhide hc2) hgl).mono ?_
  rintro e w3 ⟨rfl, hb3⟩
  have hB3 := hB2.trans (hb3.mono hB2.size)
  clear hb3 hB2 hc2
  go_wp2_with fail
  go_ret
  exact ⟨rfl, hB3⟩
set_option maxRecDepth 100000 in
set_option maxHeartbeats 2000000 in
theorem implOpText_release (no : Int) (k : ByteArray) (n : Int) (mK mF mT mI mL : Int) (mk : ByteArray) (mN : Int) (w : World) (h : opOk ⟨2, no, k, n, ⟨mK, mF, mT, mI, mL, mk, mN⟩⟩ = true) (ho0 : 0 ≤ no) (ho1 : no ≤ 1000000000) (hT : Tens w) : Calls Tryz.prog 19 #[opw ⟨2, no, k, n, ⟨mK, mF, mT, mI, mL, mk, mN⟩⟩] w fun e w' => e = .returned (.string (tx2 (⟨#[114, 101, 108, 101, 97, 115, 101]⟩ : ByteArray) (dec no))) ∧ Below w.heap.size w w' := by
  have HO := hide (fun w1 => implOpOkW ⟨2, no, k, n, ⟨mK, mF, mT, mI, mL, mk, mN⟩⟩ w1)
  rw [h] at HO
  have HW := hide (fun w1 h => words_release no k n mK mF mT mI mL mk mN w1 ho0 ho1 h)
  have hjn := join2 ((⟨#[114, 101, 108, 101, 97, 115, 101]⟩ : ByteArray)) (dec no)
  have hlen : (Lib.join (([(⟨#[114, 101, 108, 101, 97, 115, 101]⟩ : ByteArray), dec no] : List ByteArray).map (·.data.toList)) (⟨#[32]⟩ : ByteArray).data.toList).length ≤ 140737488355328 := by
    have so := dec_size no ho0 ho1
    have qo := size_toList (dec no)
    simp [Lib.join, List.intercalate, List.intersperse]
    omega
  have HJ := hide (fun g w1 hc hg => Tryz.strings_Join g 0 2 [(⟨#[114, 101, 108, 101, 97, 115, 101]⟩ : ByteArray), dec no] ⟨#[32]⟩ w1 hc hg (by simp) (by simp) hlen)
  rw [show (⟨(Lib.join (([(⟨#[114, 101, 108, 101, 97, 115, 101]⟩ : ByteArray), dec no] : List ByteArray).map (·.data.toList)) (⟨#[32]⟩ : ByteArray).data.toList).toArray⟩ : ByteArray) = tx2 (⟨#[114, 101, 108, 101, 97, 115, 101]⟩ : ByteArray) (dec no) from hjn] at HJ
  have HT := hide hT
  clear h hjn hlen hT ho0 ho1
  generalize tx2 (⟨#[114, 101, 108, 101, 97, 115, 101]⟩ : ByteArray) (dec no) = r at *
  generalize dec no = do' at *
  go_enter Tryz.func19, Tryz.ntmps19
  go_wp2_with fail
  refine (unhide HO _).mono ?_
  rintro e w1 ⟨rfl, hb1⟩
  have hA := blk_step (heap_alloc_new w _) hb1
  have hB := (below_one w _).trans (hb1.mono (by simp))
  obtain ⟨c0, c1, c2, c3, c4, c5, c6, c7, c8, c9, c10⟩ := elevenT hA
  have hz := blk_lt hA
  clear hb1
  go_wp2_with fail
  refine (unhide HW _ ((unhide HT).below hB)).mono ?_
  rintro e w2 ⟨g, rfl, hg, hb2⟩
  have hB2 := hB.trans (hb2.mono hB.size)
  have hgl := blk_lt hg
  have hc2 := hide (show ∀ (j : Nat) x, ([(⟨#[114, 101, 108, 101, 97, 115, 101]⟩ : ByteArray), do'] : List ByteArray)[j]? = some x → w2.cell? ⟨g, 0 + j, none⟩ = some (.string x) by
    intro j x hx
    rw [Nat.zero_add, cell_of_row w2 g j _ 9 (0, 0) hg]
    rw [show (#[.string (⟨#[114, 101, 108, 101, 97, 115, 101]⟩ : ByteArray), .string do'] : Array Value) = (([(⟨#[114, 101, 108, 101, 97, 115, 101]⟩ : ByteArray), do'] : List ByteArray).map Value.string).toArray from rfl]
    simp only [List.getElem?_toArray, List.getElem?_map, hx]
    rfl)
  clear hb2 hB hg hA c0 c1 c2 c3 c4 c5 c6 c7 c8 c9 c10
  go_wp2_with fail
  refine (unhide HJ g _ (unhide hc2) hgl).mono ?_
  rintro e w3 ⟨rfl, hb3⟩
  have hB3 := hB2.trans (hb3.mono hB2.size)
  clear hb3 hB2 hc2
  go_wp2_with fail
  go_ret
  exact ⟨rfl, hB3⟩
set_option maxRecDepth 100000 in
set_option maxHeartbeats 2000000 in
theorem implOpText_want (no : Int) (k : ByteArray) (n : Int) (mK mF mT mI mL : Int) (mk : ByteArray) (mN : Int) (w : World) (h : opOk ⟨3, no, k, n, ⟨mK, mF, mT, mI, mL, mk, mN⟩⟩ = true) (hn0 : 0 ≤ n) (hn1 : n ≤ 1000000000) (hk : k.size ≤ 10) (hT : Tens w) : Calls Tryz.prog 19 #[opw ⟨3, no, k, n, ⟨mK, mF, mT, mI, mL, mk, mN⟩⟩] w fun e w' => e = .returned (.string (tx3 (⟨#[119, 97, 110, 116]⟩ : ByteArray) k (dec n))) ∧ Below w.heap.size w w' := by
  have HO := hide (fun w1 => implOpOkW ⟨3, no, k, n, ⟨mK, mF, mT, mI, mL, mk, mN⟩⟩ w1)
  rw [h] at HO
  have HW := hide (fun w1 h => words_want no k n mK mF mT mI mL mk mN w1 hn0 hn1 h)
  have hjn := join3 ((⟨#[119, 97, 110, 116]⟩ : ByteArray)) (k) (dec n)
  have hlen : (Lib.join (([(⟨#[119, 97, 110, 116]⟩ : ByteArray), k, dec n] : List ByteArray).map (·.data.toList)) (⟨#[32]⟩ : ByteArray).data.toList).length ≤ 140737488355328 := by
    have sn := dec_size n hn0 hn1
    have qn := size_toList (dec n)
    have qk := size_toList k
    simp [Lib.join, List.intercalate, List.intersperse]
    omega
  have HJ := hide (fun g w1 hc hg => Tryz.strings_Join g 0 3 [(⟨#[119, 97, 110, 116]⟩ : ByteArray), k, dec n] ⟨#[32]⟩ w1 hc hg (by simp) (by simp) hlen)
  rw [show (⟨(Lib.join (([(⟨#[119, 97, 110, 116]⟩ : ByteArray), k, dec n] : List ByteArray).map (·.data.toList)) (⟨#[32]⟩ : ByteArray).data.toList).toArray⟩ : ByteArray) = tx3 (⟨#[119, 97, 110, 116]⟩ : ByteArray) k (dec n) from hjn] at HJ
  have HT := hide hT
  clear h hjn hlen hT hn0 hn1 hk
  generalize tx3 (⟨#[119, 97, 110, 116]⟩ : ByteArray) k (dec n) = r at *
  generalize dec n = dn at *
  go_enter Tryz.func19, Tryz.ntmps19
  go_wp2_with fail
  refine (unhide HO _).mono ?_
  rintro e w1 ⟨rfl, hb1⟩
  have hA := blk_step (heap_alloc_new w _) hb1
  have hB := (below_one w _).trans (hb1.mono (by simp))
  obtain ⟨c0, c1, c2, c3, c4, c5, c6, c7, c8, c9, c10⟩ := elevenT hA
  have hz := blk_lt hA
  clear hb1
  go_wp2_with fail
  refine (unhide HW _ ((unhide HT).below hB)).mono ?_
  rintro e w2 ⟨g, rfl, hg, hb2⟩
  have hB2 := hB.trans (hb2.mono hB.size)
  have hgl := blk_lt hg
  have hc2 := hide (show ∀ (j : Nat) x, ([(⟨#[119, 97, 110, 116]⟩ : ByteArray), k, dn] : List ByteArray)[j]? = some x → w2.cell? ⟨g, 0 + j, none⟩ = some (.string x) by
    intro j x hx
    rw [Nat.zero_add, cell_of_row w2 g j _ 9 (0, 0) hg]
    rw [show (#[.string (⟨#[119, 97, 110, 116]⟩ : ByteArray), .string k, .string dn] : Array Value) = (([(⟨#[119, 97, 110, 116]⟩ : ByteArray), k, dn] : List ByteArray).map Value.string).toArray from rfl]
    simp only [List.getElem?_toArray, List.getElem?_map, hx]
    rfl)
  clear hb2 hB hg hA c0 c1 c2 c3 c4 c5 c6 c7 c8 c9 c10
  go_wp2_with fail
  refine (unhide HJ g _ (unhide hc2) hgl).mono ?_
  rintro e w3 ⟨rfl, hb3⟩
  have hB3 := hB2.trans (hb3.mono hB2.size)
  clear hb3 hB2 hc2
  go_wp2_with fail
  go_ret
  exact ⟨rfl, hB3⟩
set_option maxRecDepth 100000 in
set_option maxHeartbeats 2000000 in
theorem implOpText_back (no : Int) (k : ByteArray) (n : Int) (mK mF mT mI mL : Int) (mk : ByteArray) (mN : Int) (w : World) (h : opOk ⟨4, no, k, n, ⟨mK, mF, mT, mI, mL, mk, mN⟩⟩ = true) (hn0 : 0 ≤ n) (hn1 : n ≤ 1000000000) (hk : k.size ≤ 10) (hT : Tens w) : Calls Tryz.prog 19 #[opw ⟨4, no, k, n, ⟨mK, mF, mT, mI, mL, mk, mN⟩⟩] w fun e w' => e = .returned (.string (tx3 (⟨#[98, 97, 99, 107]⟩ : ByteArray) k (dec n))) ∧ Below w.heap.size w w' := by
  have HO := hide (fun w1 => implOpOkW ⟨4, no, k, n, ⟨mK, mF, mT, mI, mL, mk, mN⟩⟩ w1)
  rw [h] at HO
  have HW := hide (fun w1 h => words_back no k n mK mF mT mI mL mk mN w1 hn0 hn1 h)
  have hjn := join3 ((⟨#[98, 97, 99, 107]⟩ : ByteArray)) (k) (dec n)
  have hlen : (Lib.join (([(⟨#[98, 97, 99, 107]⟩ : ByteArray), k, dec n] : List ByteArray).map (·.data.toList)) (⟨#[32]⟩ : ByteArray).data.toList).length ≤ 140737488355328 := by
    have sn := dec_size n hn0 hn1
    have qn := size_toList (dec n)
    have qk := size_toList k
    simp [Lib.join, List.intercalate, List.intersperse]
    omega
  have HJ := hide (fun g w1 hc hg => Tryz.strings_Join g 0 3 [(⟨#[98, 97, 99, 107]⟩ : ByteArray), k, dec n] ⟨#[32]⟩ w1 hc hg (by simp) (by simp) hlen)
  rw [show (⟨(Lib.join (([(⟨#[98, 97, 99, 107]⟩ : ByteArray), k, dec n] : List ByteArray).map (·.data.toList)) (⟨#[32]⟩ : ByteArray).data.toList).toArray⟩ : ByteArray) = tx3 (⟨#[98, 97, 99, 107]⟩ : ByteArray) k (dec n) from hjn] at HJ
  have HT := hide hT
  clear h hjn hlen hT hn0 hn1 hk
  generalize tx3 (⟨#[98, 97, 99, 107]⟩ : ByteArray) k (dec n) = r at *
  generalize dec n = dn at *
  go_enter Tryz.func19, Tryz.ntmps19
  go_wp2_with fail
  refine (unhide HO _).mono ?_
  rintro e w1 ⟨rfl, hb1⟩
  have hA := blk_step (heap_alloc_new w _) hb1
  have hB := (below_one w _).trans (hb1.mono (by simp))
  obtain ⟨c0, c1, c2, c3, c4, c5, c6, c7, c8, c9, c10⟩ := elevenT hA
  have hz := blk_lt hA
  clear hb1
  go_wp2_with fail
  refine (unhide HW _ ((unhide HT).below hB)).mono ?_
  rintro e w2 ⟨g, rfl, hg, hb2⟩
  have hB2 := hB.trans (hb2.mono hB.size)
  have hgl := blk_lt hg
  have hc2 := hide (show ∀ (j : Nat) x, ([(⟨#[98, 97, 99, 107]⟩ : ByteArray), k, dn] : List ByteArray)[j]? = some x → w2.cell? ⟨g, 0 + j, none⟩ = some (.string x) by
    intro j x hx
    rw [Nat.zero_add, cell_of_row w2 g j _ 9 (0, 0) hg]
    rw [show (#[.string (⟨#[98, 97, 99, 107]⟩ : ByteArray), .string k, .string dn] : Array Value) = (([(⟨#[98, 97, 99, 107]⟩ : ByteArray), k, dn] : List ByteArray).map Value.string).toArray from rfl]
    simp only [List.getElem?_toArray, List.getElem?_map, hx]
    rfl)
  clear hb2 hB hg hA c0 c1 c2 c3 c4 c5 c6 c7 c8 c9 c10
  go_wp2_with fail
  refine (unhide HJ g _ (unhide hc2) hgl).mono ?_
  rintro e w3 ⟨rfl, hb3⟩
  have hB3 := hB2.trans (hb3.mono hB2.size)
  clear hb3 hB2 hc2
  go_wp2_with fail
  go_ret
  exact ⟨rfl, hB3⟩
set_option maxRecDepth 100000 in
set_option maxHeartbeats 2000000 in
theorem implOpText_tick (no : Int) (k : ByteArray) (n : Int) (mK mF mT mI mL : Int) (mk : ByteArray) (mN : Int) (w : World) (h : opOk ⟨5, no, k, n, ⟨mK, mF, mT, mI, mL, mk, mN⟩⟩ = true) (hT : Tens w) : Calls Tryz.prog 19 #[opw ⟨5, no, k, n, ⟨mK, mF, mT, mI, mL, mk, mN⟩⟩] w fun e w' => e = .returned (.string ((⟨#[116, 105, 99, 107]⟩ : ByteArray))) ∧ Below w.heap.size w w' := by
  have HO := hide (fun w1 => implOpOkW ⟨5, no, k, n, ⟨mK, mF, mT, mI, mL, mk, mN⟩⟩ w1)
  rw [h] at HO
  have HW := hide (fun w1 h => words_tick no k n mK mF mT mI mL mk mN w1 h)
  have hjn := join1 ((⟨#[116, 105, 99, 107]⟩ : ByteArray))
  have hlen : (Lib.join (([(⟨#[116, 105, 99, 107]⟩ : ByteArray)] : List ByteArray).map (·.data.toList)) (⟨#[32]⟩ : ByteArray).data.toList).length ≤ 140737488355328 := by
    simp [Lib.join, List.intercalate]
  have HJ := hide (fun g w1 hc hg => Tryz.strings_Join g 0 1 [(⟨#[116, 105, 99, 107]⟩ : ByteArray)] ⟨#[32]⟩ w1 hc hg (by simp) (by simp) hlen)
  rw [show (⟨(Lib.join (([(⟨#[116, 105, 99, 107]⟩ : ByteArray)] : List ByteArray).map (·.data.toList)) (⟨#[32]⟩ : ByteArray).data.toList).toArray⟩ : ByteArray) = (⟨#[116, 105, 99, 107]⟩ : ByteArray) from hjn] at HJ
  have HT := hide hT
  clear h hjn hlen hT 
  go_enter Tryz.func19, Tryz.ntmps19
  go_wp2_with fail
  refine (unhide HO _).mono ?_
  rintro e w1 ⟨rfl, hb1⟩
  have hA := blk_step (heap_alloc_new w _) hb1
  have hB := (below_one w _).trans (hb1.mono (by simp))
  obtain ⟨c0, c1, c2, c3, c4, c5, c6, c7, c8, c9, c10⟩ := elevenT hA
  have hz := blk_lt hA
  clear hb1
  go_wp2_with fail
  refine (unhide HW _ ((unhide HT).below hB)).mono ?_
  rintro e w2 ⟨g, rfl, hg, hb2⟩
  have hB2 := hB.trans (hb2.mono hB.size)
  have hgl := blk_lt hg
  have hc2 := hide (show ∀ (j : Nat) x, ([(⟨#[116, 105, 99, 107]⟩ : ByteArray)] : List ByteArray)[j]? = some x → w2.cell? ⟨g, 0 + j, none⟩ = some (.string x) by
    intro j x hx
    rw [Nat.zero_add, cell_of_row w2 g j _ 9 (0, 0) hg]
    rw [show (#[.string (⟨#[116, 105, 99, 107]⟩ : ByteArray)] : Array Value) = (([(⟨#[116, 105, 99, 107]⟩ : ByteArray)] : List ByteArray).map Value.string).toArray from rfl]
    simp only [List.getElem?_toArray, List.getElem?_map, hx]
    rfl)
  clear hb2 hB hg hA c0 c1 c2 c3 c4 c5 c6 c7 c8 c9 c10
  go_wp2_with fail
  refine (unhide HJ g _ (unhide hc2) hgl).mono ?_
  rintro e w3 ⟨rfl, hb3⟩
  have hB3 := hB2.trans (hb3.mono hB2.size)
  clear hb3 hB2 hc2
  go_wp2_with fail
  go_ret
  exact ⟨rfl, hB3⟩
set_option maxRecDepth 100000 in
set_option maxHeartbeats 2000000 in
theorem implOpText_hear (no : Int) (k : ByteArray) (n : Int) (mK mF mT mI mL : Int) (mk : ByteArray) (mN : Int) (w : World) (h : opOk ⟨6, no, k, n, ⟨mK, mF, mT, mI, mL, mk, mN⟩⟩ = true) (hT : Tens w) : Calls Tryz.prog 19 #[opw ⟨6, no, k, n, ⟨mK, mF, mT, mI, mL, mk, mN⟩⟩] w fun e w' => e = .returned (.string (tx2 (⟨#[104, 101, 97, 114]⟩ : ByteArray) (msgTx ⟨mK, mF, mT, mI, mL, mk, mN⟩))) ∧ Below w.heap.size w w' := by
  have HO := hide (fun w1 => implOpOkW ⟨6, no, k, n, ⟨mK, mF, mT, mI, mL, mk, mN⟩⟩ w1)
  rw [h] at HO
  have HW := hide (fun w1 h => words_hear no k n mK mF mT mI mL mk mN w1 h)
  have hjn := join2 ((⟨#[104, 101, 97, 114]⟩ : ByteArray)) (msgTx ⟨mK, mF, mT, mI, mL, mk, mN⟩)
  have hlen : (Lib.join (([(⟨#[104, 101, 97, 114]⟩ : ByteArray), msgTx ⟨mK, mF, mT, mI, mL, mk, mN⟩] : List ByteArray).map (·.data.toList)) (⟨#[32]⟩ : ByteArray).data.toList).length ≤ 140737488355328 := by
    have sm := msgTx_le ⟨mK, mF, mT, mI, mL, mk, mN⟩
    have qm := size_toList (msgTx ⟨mK, mF, mT, mI, mL, mk, mN⟩)
    simp [Lib.join, List.intercalate, List.intersperse]
    omega
  have HJ := hide (fun g w1 hc hg => Tryz.strings_Join g 0 2 [(⟨#[104, 101, 97, 114]⟩ : ByteArray), msgTx ⟨mK, mF, mT, mI, mL, mk, mN⟩] ⟨#[32]⟩ w1 hc hg (by simp) (by simp) hlen)
  rw [show (⟨(Lib.join (([(⟨#[104, 101, 97, 114]⟩ : ByteArray), msgTx ⟨mK, mF, mT, mI, mL, mk, mN⟩] : List ByteArray).map (·.data.toList)) (⟨#[32]⟩ : ByteArray).data.toList).toArray⟩ : ByteArray) = tx2 (⟨#[104, 101, 97, 114]⟩ : ByteArray) (msgTx ⟨mK, mF, mT, mI, mL, mk, mN⟩) from hjn] at HJ
  have HT := hide hT
  clear h hjn hlen hT 
  generalize tx2 (⟨#[104, 101, 97, 114]⟩ : ByteArray) (msgTx ⟨mK, mF, mT, mI, mL, mk, mN⟩) = r at *
  generalize msgTx ⟨mK, mF, mT, mI, mL, mk, mN⟩ = mx at *
  go_enter Tryz.func19, Tryz.ntmps19
  go_wp2_with fail
  refine (unhide HO _).mono ?_
  rintro e w1 ⟨rfl, hb1⟩
  have hA := blk_step (heap_alloc_new w _) hb1
  have hB := (below_one w _).trans (hb1.mono (by simp))
  obtain ⟨c0, c1, c2, c3, c4, c5, c6, c7, c8, c9, c10⟩ := elevenT hA
  have hz := blk_lt hA
  clear hb1
  go_wp2_with fail
  refine (unhide HW _ ((unhide HT).below hB)).mono ?_
  rintro e w2 ⟨g, rfl, hg, hb2⟩
  have hB2 := hB.trans (hb2.mono hB.size)
  have hgl := blk_lt hg
  have hc2 := hide (show ∀ (j : Nat) x, ([(⟨#[104, 101, 97, 114]⟩ : ByteArray), mx] : List ByteArray)[j]? = some x → w2.cell? ⟨g, 0 + j, none⟩ = some (.string x) by
    intro j x hx
    rw [Nat.zero_add, cell_of_row w2 g j _ 9 (0, 0) hg]
    rw [show (#[.string (⟨#[104, 101, 97, 114]⟩ : ByteArray), .string mx] : Array Value) = (([(⟨#[104, 101, 97, 114]⟩ : ByteArray), mx] : List ByteArray).map Value.string).toArray from rfl]
    simp only [List.getElem?_toArray, List.getElem?_map, hx]
    rfl)
  clear hb2 hB hg hA c0 c1 c2 c3 c4 c5 c6 c7 c8 c9 c10
  go_wp2_with fail
  refine (unhide HJ g _ (unhide hc2) hgl).mono ?_
  rintro e w3 ⟨rfl, hb3⟩
  have hB3 := hB2.trans (hb3.mono hB2.size)
  clear hb3 hB2 hc2
  go_wp2_with fail
  go_ret
  exact ⟨rfl, hB3⟩
theorem implOpText (o : Op5) (w : World) (hT : Tens w) : Calls Tryz.prog 19 #[opw o] w fun e w' => e = .returned (.string (opTx o)) ∧ Below w.heap.size w w' := by
  cases h : opOk o
  · rw [opTx_no h]; exact implOpText_no o w h
  have hp := op_parts h
  rw [opTx_yes h]
  obtain ⟨K, no, k, n, ⟨mK, mF, mT, mI, mL, mk, mN⟩⟩ := o
  dsimp only at hp ⊢
  rcases hp with ⟨rfl | rfl | rfl, hn, hk⟩ | ⟨rfl, hn, ho, hk⟩ | ⟨rfl, ho⟩ | rfl | ⟨rfl, hm'⟩
  · exact implOpText_mint no k n mK mF mT mI mL mk mN w h hn.1 hn.2 hk hT
  · exact implOpText_want no k n mK mF mT mI mL mk mN w h hn.1 hn.2 hk hT
  · exact implOpText_back no k n mK mF mT mI mL mk mN w h hn.1 hn.2 hk hT
  · exact implOpText_admit no k n mK mF mT mI mL mk mN w h hn.1 hn.2 hk ho.1 ho.2 hT
  · exact implOpText_release no k n mK mF mT mI mL mk mN w h ho.1 ho.2 hT
  · exact implOpText_tick no k n mK mF mT mI mL mk mN w h hT
  · exact implOpText_hear no k n mK mF mT mI mL mk mN w h hT
end Go.Proofs.YtikdkijggejnfaaGreatDoor
