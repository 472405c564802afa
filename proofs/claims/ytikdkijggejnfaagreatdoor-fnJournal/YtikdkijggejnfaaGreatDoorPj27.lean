/- Parts. -/
import Derived.Test.YtikdkijggejnfaaGreatDoorPj12
import Derived.Test.YtikdkijggejnfaaGreatDoorPj7
import Derived.Test.YtikdkijggejnfaaGreatDoorPj26
import Derived.Test.YtikdkijggejnfaaGreatDoorPj5
import Derived.Lib.AppendIntMem
namespace Go.Proofs.YtikdkijggejnfaaGreatDoor
open Go.RowKit
open Mth

theorem Tens.below {w w' : World} (h : Tens w) (hb : Below w.heap.size w w') : Tens w' := Lib.tabBelow_of_tabIs h w' hb
theorem implDecB (n : Int) (h0 : 0 ≤ n) (h1 : n ≤ 1000000000) (w : World) (hT : Tens w) : Calls Tryz.prog 61 #[.int .i64 n] w fun e w' => e = .returned (.string (dec n)) ∧ Below w.heap.size w w' :=
  implDec n w (by omega) (by omega) hT

set_option maxRecDepth 100000 in
set_option maxHeartbeats 4000000 in
theorem wordsOf_want (F : Int) (T : Int) (k : ByteArray) (N : Int) (hF0 : 0 ≤ F) (hF1 : F ≤ 1000000000) (hT0 : 0 ≤ T) (hT1 : T ≤ 1000000000) (hN0 : 0 ≤ N) (hN1 : N ≤ 1000000000) (w : World) (hT : Tens w) : Calls Tryz.prog 101 #[.iface 131 (.agg #[.int .i64 F, .int .i64 T, .string k, .int .i64 N])] w fun e w' => ∃ g, e = .returned (.slice (some ⟨g, 0, none⟩) 6 6) ∧ w'.heap[g]? = some (.cells #[.string (⟨#[119, 97, 110, 116]⟩ : ByteArray), .string (dec F), .string (⟨#[62]⟩ : ByteArray), .string (dec T), .string k, .string (dec N)] 9 (0, 0)) ∧ Below w.heap.size w w' := by
  have DF := hide (fun w1 => implDecB F hF0 hF1 w1)
  have DT := hide (fun w1 => implDecB T hT0 hT1 w1)
  have DN := hide (fun w1 => implDecB N hN0 hN1 w1)
  generalize dec F = dF at *
  generalize dec T = dT at *
  generalize dec N = dN at *
  clear hF0 hF1 hT0 hT1 hN0 hN1
  have f0 := as_want_want (.agg #[.int .i64 F, .int .i64 T, .string k, .int .i64 N])
  have HT := hide hT
  clear hT
  go_enter Tryz.func101, Tryz.ntmps101
  go_upto_region 4 with fail
  refine wp_at (fun V hV => ?_)
  have hblk : V.heap[w.heap.size]? = some (.cells #[.int .i64 F, .int .i64 T, .string k, .int .i64 N] 131 (0, 0)) := by rw [hV]; exact heap_alloc_new w _
  have HBV := hide (show Below w.heap.size w V by rw [hV]; exact below_one w _)
  have HTG := hide (fun p : Regrown => ((unhide HT).below (unhide HBV)).below (below_regrown V p.d p.os))
  have hgV := blk_lt hblk
  obtain ⟨p0, p1, p2, p3⟩ := cells4 hblk
  clear hV hblk HT
  have y0 := cell_regrown p0
  have y1 := cell_regrown p1
  have y2 := cell_regrown p2
  have y3 := cell_regrown p3
  clear p0 p1 p2 p3 f0
  refine wp_region_mix (by kernel_rfl) ?_
  show wpMix _ _ _ _ 15 (Array.replicate 15 false) _ _
  refine wpMix_take 0 rfl (by kernel_rfl) (by kernel_rfl) (by kernel_rfl) (fun _ _ _ _ h => h) (fun K hK => ?_)
  go_simp
  first
    | (refine hK _ ?_; clear hK K)
    | (apply Exists.intro
       refine ⟨fun _ => ?_, hK _ ?_⟩
       (fail)
       clear hK K)
  refine wpMix_take 1 rfl (by kernel_rfl) (by kernel_rfl) (by kernel_rfl) (fun _ _ _ _ h => h) (fun K hK => ?_)
  go_simp
  first
    | (refine hK _ ?_; clear hK K)
    | (apply Exists.intro
       refine ⟨fun _ => ?_, hK _ ?_⟩
       (fail)
       clear hK K)
  refine wpMix_take 2 rfl (by kernel_rfl) (by kernel_rfl) (by kernel_rfl) (fun _ _ _ _ h => h) (fun K hK => ?_)
  go_simp
  first
    | (refine hK _ ?_; clear hK K)
    | (apply Exists.intro
       refine ⟨fun _ => ?_, hK _ ?_⟩
       (fail)
       clear hK K)
  refine wpMix_take 3 rfl (by kernel_rfl) (by kernel_rfl) (by kernel_rfl) (fun _ _ _ _ h => h) (fun K hK => ?_)
  go_simp
  first
    | (refine hK _ ?_; clear hK K)
    | (apply Exists.intro
       refine ⟨fun _ => ?_, hK _ ?_⟩
       (exact unhide DF _ (unhide HTG _))
       clear hK K)
  refine wpMix_take 4 rfl (by kernel_rfl) (by kernel_rfl) (by kernel_rfl) (fun _ _ _ _ h => h) (fun K hK => ?_)
  go_simp
  first
    | (refine hK _ ?_; clear hK K)
    | (apply Exists.intro
       refine ⟨fun _ => ?_, hK _ ?_⟩
       (fail)
       clear hK K)
  refine wpMix_take 5 rfl (by kernel_rfl) (by kernel_rfl) (by kernel_rfl) (fun _ _ _ _ h => h) (fun K hK => ?_)
  go_simp
  first
    | (refine hK _ ?_; clear hK K)
    | (apply Exists.intro
       refine ⟨fun _ => ?_, hK _ ?_⟩
       (fail)
       clear hK K)
  refine wpMix_take 6 rfl (by kernel_rfl) (by kernel_rfl) (by kernel_rfl) (fun _ _ _ _ h => h) (fun K hK => ?_)
  go_simp
  first
    | (refine hK _ ?_; clear hK K)
    | (apply Exists.intro
       refine ⟨fun _ => ?_, hK _ ?_⟩
       (fail)
       clear hK K)
  refine wpMix_take 7 rfl (by kernel_rfl) (by kernel_rfl) (by kernel_rfl) (fun _ _ _ _ h => h) (fun K hK => ?_)
  go_simp
  first
    | (refine hK _ ?_; clear hK K)
    | (apply Exists.intro
       refine ⟨fun _ => ?_, hK _ ?_⟩
       (exact unhide DT _ (unhide HTG _))
       clear hK K)
  refine wpMix_take 8 rfl (by kernel_rfl) (by kernel_rfl) (by kernel_rfl) (fun _ _ _ _ h => h) (fun K hK => ?_)
  go_simp
  first
    | (refine hK _ ?_; clear hK K)
    | (apply Exists.intro
       refine ⟨fun _ => ?_, hK _ ?_⟩
       (fail)
       clear hK K)
  refine wpMix_take 9 rfl (by kernel_rfl) (by kernel_rfl) (by kernel_rfl) (fun _ _ _ _ h => h) (fun K hK => ?_)
  go_simp
  first
    | (refine hK _ ?_; clear hK K)
    | (apply Exists.intro
       refine ⟨fun _ => ?_, hK _ ?_⟩
       (fail)
       clear hK K)
  refine wpMix_take 10 rfl (by kernel_rfl) (by kernel_rfl) (by kernel_rfl) (fun _ _ _ _ h => h) (fun K hK => ?_)
  go_simp
  first
    | (refine hK _ ?_; clear hK K)
    | (apply Exists.intro
       refine ⟨fun _ => ?_, hK _ ?_⟩
       (fail)
       clear hK K)
  refine wpMix_take 11 rfl (by kernel_rfl) (by kernel_rfl) (by kernel_rfl) (fun _ _ _ _ h => h) (fun K hK => ?_)
  go_simp
  first
    | (refine hK _ ?_; clear hK K)
    | (apply Exists.intro
       refine ⟨fun _ => ?_, hK _ ?_⟩
       (fail)
       clear hK K)
  refine wpMix_take 12 rfl (by kernel_rfl) (by kernel_rfl) (by kernel_rfl) (fun _ _ _ _ h => h) (fun K hK => ?_)
  go_simp
  first
    | (refine hK _ ?_; clear hK K)
    | (apply Exists.intro
       refine ⟨fun _ => ?_, hK _ ?_⟩
       (exact unhide DN _ (unhide HTG _))
       clear hK K)
  clear y0 y1 y2 y3 HTG DF DT DN
  refine wpMix_one 13 rfl (by kernel_rfl) (by rfl) (fun x hx => ?_)
  go_simp
  refine ⟨below_one x _, ?_⟩
  have hx2 := heap_alloc_new x (.cells #[.string (⟨#[119, 97, 110, 116]⟩ : ByteArray), .string dF, .string (⟨#[62]⟩ : ByteArray), .string dT, .string k, .string dN] 9)
  have HBX := hide (Ge.trans (Ge.trans (unhide HBV) hx) (below_one x (.cells #[.string (⟨#[119, 97, 110, 116]⟩ : ByteArray), .string dF, .string (⟨#[62]⟩ : ByteArray), .string dT, .string k, .string dN] 9)))
  generalize x.alloc (.cells #[.string (⟨#[119, 97, 110, 116]⟩ : ByteArray), .string dF, .string (⟨#[62]⟩ : ByteArray), .string dT, .string k, .string dN] 9) = y at *
  have HX := hide hx2
  clear hx hx2 HBV
  refine wpMix_take 14 rfl (by kernel_rfl) (by kernel_rfl) (by kernel_rfl) (fun _ _ _ _ h => h) (fun K hK => ?_)
  go_simp
  first
    | (refine hK _ ?_; clear hK K)
    | (apply Exists.intro
       refine ⟨fun _ => ?_, hK _ ?_⟩
       (fail)
       clear hK K)
  refine wpMix_done (by kernel_rfl) (fun z hz => ?_)
  have HBZ := hide (Ge.trans (unhide HBX) hz)
  have HZB := hide (blk_step (unhide HX) hz)
  clear hz HBX HX
  go_simp
  go_wp2_with fail
  go_ret
  exact ⟨x.heap.size, rfl, unhide HZB, unhide HBZ⟩

set_option maxRecDepth 100000 in
set_option maxHeartbeats 4000000 in
theorem wordsOf_pay (F : Int) (T : Int) (I : Int) (L : Int) (k : ByteArray) (N : Int) (hF0 : 0 ≤ F) (hF1 : F ≤ 1000000000) (hT0 : 0 ≤ T) (hT1 : T ≤ 1000000000) (hI0 : 0 ≤ I) (hI1 : I ≤ 1000000000) (hL0 : 0 ≤ L) (hL1 : L ≤ 1000000000) (hN0 : 0 ≤ N) (hN1 : N ≤ 1000000000) (w : World) (hT : Tens w) : Calls Tryz.prog 101 #[.iface 133 (.agg #[.int .i64 F, .int .i64 T, .int .i64 I, .int .i64 L, .string k, .int .i64 N])] w fun e w' => ∃ g, e = .returned (.slice (some ⟨g, 0, none⟩) 8 8) ∧ w'.heap[g]? = some (.cells #[.string (⟨#[112, 97, 121]⟩ : ByteArray), .string (dec F), .string (⟨#[62]⟩ : ByteArray), .string (dec T), .string (dec I), .string (dec L), .string k, .string (dec N)] 9 (0, 0)) ∧ Below w.heap.size w w' := by
  have DF := hide (fun w1 => implDecB F hF0 hF1 w1)
  have DT := hide (fun w1 => implDecB T hT0 hT1 w1)
  have DI := hide (fun w1 => implDecB I hI0 hI1 w1)
  have DL := hide (fun w1 => implDecB L hL0 hL1 w1)
  have DN := hide (fun w1 => implDecB N hN0 hN1 w1)
  generalize dec F = dF at *
  generalize dec T = dT at *
  generalize dec I = dI at *
  generalize dec L = dL at *
  generalize dec N = dN at *
  clear hF0 hF1 hT0 hT1 hI0 hI1 hL0 hL1 hN0 hN1
  have f0 := as_pay_want (.agg #[.int .i64 F, .int .i64 T, .int .i64 I, .int .i64 L, .string k, .int .i64 N])
  have f1 := as_pay_pay (.agg #[.int .i64 F, .int .i64 T, .int .i64 I, .int .i64 L, .string k, .int .i64 N])
  have HT := hide hT
  clear hT
  go_enter Tryz.func101, Tryz.ntmps101
  go_upto_region 7 with fail
  refine wp_at (fun V hV => ?_)
  have hblk : V.heap[w.heap.size]? = some (.cells #[.int .i64 F, .int .i64 T, .int .i64 I, .int .i64 L, .string k, .int .i64 N] 133 (0, 0)) := by rw [hV]; exact heap_alloc_new w _
  have HBV := hide (show Below w.heap.size w V by rw [hV]; exact below_one w _)
  have HTG := hide (fun p : Regrown => ((unhide HT).below (unhide HBV)).below (below_regrown V p.d p.os))
  have hgV := blk_lt hblk
  obtain ⟨p0, p1, p2, p3, p4, p5⟩ := cells6 hblk
  clear hV hblk HT
  have y0 := cell_regrown p0
  have y1 := cell_regrown p1
  have y2 := cell_regrown p2
  have y3 := cell_regrown p3
  have y4 := cell_regrown p4
  have y5 := cell_regrown p5
  clear p0 p1 p2 p3 p4 p5 f0 f1
  refine wp_region_mix (by kernel_rfl) ?_
  show wpMix _ _ _ _ 21 (Array.replicate 21 false) _ _
  refine wpMix_take 0 rfl (by kernel_rfl) (by kernel_rfl) (by kernel_rfl) (fun _ _ _ _ h => h) (fun K hK => ?_)
  go_simp
  first
    | (refine hK _ ?_; clear hK K)
    | (apply Exists.intro
       refine ⟨fun _ => ?_, hK _ ?_⟩
       (fail)
       clear hK K)
  refine wpMix_take 1 rfl (by kernel_rfl) (by kernel_rfl) (by kernel_rfl) (fun _ _ _ _ h => h) (fun K hK => ?_)
  go_simp
  first
    | (refine hK _ ?_; clear hK K)
    | (apply Exists.intro
       refine ⟨fun _ => ?_, hK _ ?_⟩
       (fail)
       clear hK K)
  refine wpMix_take 2 rfl (by kernel_rfl) (by kernel_rfl) (by kernel_rfl) (fun _ _ _ _ h => h) (fun K hK => ?_)
  go_simp
  first
    | (refine hK _ ?_; clear hK K)
    | (apply Exists.intro
       refine ⟨fun _ => ?_, hK _ ?_⟩
       (fail)
       clear hK K)
  refine wpMix_take 3 rfl (by kernel_rfl) (by kernel_rfl) (by kernel_rfl) (fun _ _ _ _ h => h) (fun K hK => ?_)
  go_simp
  first
    | (refine hK _ ?_; clear hK K)
    | (apply Exists.intro
       refine ⟨fun _ => ?_, hK _ ?_⟩
       (exact unhide DF _ (unhide HTG _))
       clear hK K)
  refine wpMix_take 4 rfl (by kernel_rfl) (by kernel_rfl) (by kernel_rfl) (fun _ _ _ _ h => h) (fun K hK => ?_)
  go_simp
  first
    | (refine hK _ ?_; clear hK K)
    | (apply Exists.intro
       refine ⟨fun _ => ?_, hK _ ?_⟩
       (fail)
       clear hK K)
  refine wpMix_take 5 rfl (by kernel_rfl) (by kernel_rfl) (by kernel_rfl) (fun _ _ _ _ h => h) (fun K hK => ?_)
  go_simp
  first
    | (refine hK _ ?_; clear hK K)
    | (apply Exists.intro
       refine ⟨fun _ => ?_, hK _ ?_⟩
       (fail)
       clear hK K)
  refine wpMix_take 6 rfl (by kernel_rfl) (by kernel_rfl) (by kernel_rfl) (fun _ _ _ _ h => h) (fun K hK => ?_)
  go_simp
  first
    | (refine hK _ ?_; clear hK K)
    | (apply Exists.intro
       refine ⟨fun _ => ?_, hK _ ?_⟩
       (fail)
       clear hK K)
  refine wpMix_take 7 rfl (by kernel_rfl) (by kernel_rfl) (by kernel_rfl) (fun _ _ _ _ h => h) (fun K hK => ?_)
  go_simp
  first
    | (refine hK _ ?_; clear hK K)
    | (apply Exists.intro
       refine ⟨fun _ => ?_, hK _ ?_⟩
       (exact unhide DT _ (unhide HTG _))
       clear hK K)
  refine wpMix_take 8 rfl (by kernel_rfl) (by kernel_rfl) (by kernel_rfl) (fun _ _ _ _ h => h) (fun K hK => ?_)
  go_simp
  first
    | (refine hK _ ?_; clear hK K)
    | (apply Exists.intro
       refine ⟨fun _ => ?_, hK _ ?_⟩
       (fail)
       clear hK K)
  refine wpMix_take 9 rfl (by kernel_rfl) (by kernel_rfl) (by kernel_rfl) (fun _ _ _ _ h => h) (fun K hK => ?_)
  go_simp
  first
    | (refine hK _ ?_; clear hK K)
    | (apply Exists.intro
       refine ⟨fun _ => ?_, hK _ ?_⟩
       (fail)
       clear hK K)
  refine wpMix_take 10 rfl (by kernel_rfl) (by kernel_rfl) (by kernel_rfl) (fun _ _ _ _ h => h) (fun K hK => ?_)
  go_simp
  first
    | (refine hK _ ?_; clear hK K)
    | (apply Exists.intro
       refine ⟨fun _ => ?_, hK _ ?_⟩
       (exact unhide DI _ (unhide HTG _))
       clear hK K)
  refine wpMix_take 11 rfl (by kernel_rfl) (by kernel_rfl) (by kernel_rfl) (fun _ _ _ _ h => h) (fun K hK => ?_)
  go_simp
  first
    | (refine hK _ ?_; clear hK K)
    | (apply Exists.intro
       refine ⟨fun _ => ?_, hK _ ?_⟩
       (fail)
       clear hK K)
  refine wpMix_take 12 rfl (by kernel_rfl) (by kernel_rfl) (by kernel_rfl) (fun _ _ _ _ h => h) (fun K hK => ?_)
  go_simp
  first
    | (refine hK _ ?_; clear hK K)
    | (apply Exists.intro
       refine ⟨fun _ => ?_, hK _ ?_⟩
       (fail)
       clear hK K)
  refine wpMix_take 13 rfl (by kernel_rfl) (by kernel_rfl) (by kernel_rfl) (fun _ _ _ _ h => h) (fun K hK => ?_)
  go_simp
  first
    | (refine hK _ ?_; clear hK K)
    | (apply Exists.intro
       refine ⟨fun _ => ?_, hK _ ?_⟩
       (exact unhide DL _ (unhide HTG _))
       clear hK K)
  refine wpMix_take 14 rfl (by kernel_rfl) (by kernel_rfl) (by kernel_rfl) (fun _ _ _ _ h => h) (fun K hK => ?_)
  go_simp
  first
    | (refine hK _ ?_; clear hK K)
    | (apply Exists.intro
       refine ⟨fun _ => ?_, hK _ ?_⟩
       (fail)
       clear hK K)
  refine wpMix_take 15 rfl (by kernel_rfl) (by kernel_rfl) (by kernel_rfl) (fun _ _ _ _ h => h) (fun K hK => ?_)
  go_simp
  first
    | (refine hK _ ?_; clear hK K)
    | (apply Exists.intro
       refine ⟨fun _ => ?_, hK _ ?_⟩
       (fail)
       clear hK K)
  refine wpMix_take 16 rfl (by kernel_rfl) (by kernel_rfl) (by kernel_rfl) (fun _ _ _ _ h => h) (fun K hK => ?_)
  go_simp
  first
    | (refine hK _ ?_; clear hK K)
    | (apply Exists.intro
       refine ⟨fun _ => ?_, hK _ ?_⟩
       (fail)
       clear hK K)
  refine wpMix_take 17 rfl (by kernel_rfl) (by kernel_rfl) (by kernel_rfl) (fun _ _ _ _ h => h) (fun K hK => ?_)
  go_simp
  first
    | (refine hK _ ?_; clear hK K)
    | (apply Exists.intro
       refine ⟨fun _ => ?_, hK _ ?_⟩
       (fail)
       clear hK K)
  refine wpMix_take 18 rfl (by kernel_rfl) (by kernel_rfl) (by kernel_rfl) (fun _ _ _ _ h => h) (fun K hK => ?_)
  go_simp
  first
    | (refine hK _ ?_; clear hK K)
    | (apply Exists.intro
       refine ⟨fun _ => ?_, hK _ ?_⟩
       (exact unhide DN _ (unhide HTG _))
       clear hK K)
  clear y0 y1 y2 y3 y4 y5 HTG DF DT DI DL DN
  refine wpMix_one 19 rfl (by kernel_rfl) (by rfl) (fun x hx => ?_)
  go_simp
  refine ⟨below_one x _, ?_⟩
  have hx2 := heap_alloc_new x (.cells #[.string (⟨#[112, 97, 121]⟩ : ByteArray), .string dF, .string (⟨#[62]⟩ : ByteArray), .string dT, .string dI, .string dL, .string k, .string dN] 9)
  have HBX := hide (Ge.trans (Ge.trans (unhide HBV) hx) (below_one x (.cells #[.string (⟨#[112, 97, 121]⟩ : ByteArray), .string dF, .string (⟨#[62]⟩ : ByteArray), .string dT, .string dI, .string dL, .string k, .string dN] 9)))
  generalize x.alloc (.cells #[.string (⟨#[112, 97, 121]⟩ : ByteArray), .string dF, .string (⟨#[62]⟩ : ByteArray), .string dT, .string dI, .string dL, .string k, .string dN] 9) = y at *
  have HX := hide hx2
  clear hx hx2 HBV
  refine wpMix_take 20 rfl (by kernel_rfl) (by kernel_rfl) (by kernel_rfl) (fun _ _ _ _ h => h) (fun K hK => ?_)
  go_simp
  first
    | (refine hK _ ?_; clear hK K)
    | (apply Exists.intro
       refine ⟨fun _ => ?_, hK _ ?_⟩
       (fail)
       clear hK K)
  refine wpMix_done (by kernel_rfl) (fun z hz => ?_)
  have HBZ := hide (Ge.trans (unhide HBX) hz)
  have HZB := hide (blk_step (unhide HX) hz)
  clear hz HBX HX
  go_simp
  go_wp2_with fail
  go_ret
  exact ⟨x.heap.size, rfl, unhide HZB, unhide HBZ⟩

set_option maxRecDepth 100000 in
set_option maxHeartbeats 4000000 in
theorem wordsOf_ack (F : Int) (T : Int) (I : Int) (hF0 : 0 ≤ F) (hF1 : F ≤ 1000000000) (hT0 : 0 ≤ T) (hT1 : T ≤ 1000000000) (hI0 : 0 ≤ I) (hI1 : I ≤ 1000000000) (w : World) (hT : Tens w) : Calls Tryz.prog 101 #[.iface 135 (.agg #[.int .i64 F, .int .i64 T, .int .i64 I])] w fun e w' => ∃ g, e = .returned (.slice (some ⟨g, 0, none⟩) 5 5) ∧ w'.heap[g]? = some (.cells #[.string (⟨#[97, 99, 107]⟩ : ByteArray), .string (dec F), .string (⟨#[62]⟩ : ByteArray), .string (dec T), .string (dec I)] 9 (0, 0)) ∧ Below w.heap.size w w' := by
  have DF := hide (fun w1 => implDecB F hF0 hF1 w1)
  have DT := hide (fun w1 => implDecB T hT0 hT1 w1)
  have DI := hide (fun w1 => implDecB I hI0 hI1 w1)
  generalize dec F = dF at *
  generalize dec T = dT at *
  generalize dec I = dI at *
  clear hF0 hF1 hT0 hT1 hI0 hI1
  have f0 := as_ack_want (.agg #[.int .i64 F, .int .i64 T, .int .i64 I])
  have f1 := as_ack_pay (.agg #[.int .i64 F, .int .i64 T, .int .i64 I])
  have f2 := as_ack_ack (.agg #[.int .i64 F, .int .i64 T, .int .i64 I])
  have HT := hide hT
  clear hT
  go_enter Tryz.func101, Tryz.ntmps101
  go_upto_region 10 with fail
  refine wp_at (fun V hV => ?_)
  have hblk : V.heap[w.heap.size]? = some (.cells #[.int .i64 F, .int .i64 T, .int .i64 I] 135 (0, 0)) := by rw [hV]; exact heap_alloc_new w _
  have HBV := hide (show Below w.heap.size w V by rw [hV]; exact below_one w _)
  have HTG := hide (fun p : Regrown => ((unhide HT).below (unhide HBV)).below (below_regrown V p.d p.os))
  have hgV := blk_lt hblk
  obtain ⟨p0, p1, p2⟩ := cells3 hblk
  clear hV hblk HT
  have y0 := cell_regrown p0
  have y1 := cell_regrown p1
  have y2 := cell_regrown p2
  clear p0 p1 p2 f0 f1 f2
  refine wp_region_mix (by kernel_rfl) ?_
  show wpMix _ _ _ _ 13 (Array.replicate 13 false) _ _
  refine wpMix_take 0 rfl (by kernel_rfl) (by kernel_rfl) (by kernel_rfl) (fun _ _ _ _ h => h) (fun K hK => ?_)
  go_simp
  first
    | (refine hK _ ?_; clear hK K)
    | (apply Exists.intro
       refine ⟨fun _ => ?_, hK _ ?_⟩
       (fail)
       clear hK K)
  refine wpMix_take 1 rfl (by kernel_rfl) (by kernel_rfl) (by kernel_rfl) (fun _ _ _ _ h => h) (fun K hK => ?_)
  go_simp
  first
    | (refine hK _ ?_; clear hK K)
    | (apply Exists.intro
       refine ⟨fun _ => ?_, hK _ ?_⟩
       (fail)
       clear hK K)
  refine wpMix_take 2 rfl (by kernel_rfl) (by kernel_rfl) (by kernel_rfl) (fun _ _ _ _ h => h) (fun K hK => ?_)
  go_simp
  first
    | (refine hK _ ?_; clear hK K)
    | (apply Exists.intro
       refine ⟨fun _ => ?_, hK _ ?_⟩
       (fail)
       clear hK K)
  refine wpMix_take 3 rfl (by kernel_rfl) (by kernel_rfl) (by kernel_rfl) (fun _ _ _ _ h => h) (fun K hK => ?_)
  go_simp
  first
    | (refine hK _ ?_; clear hK K)
    | (apply Exists.intro
       refine ⟨fun _ => ?_, hK _ ?_⟩
       (exact unhide DF _ (unhide HTG _))
       clear hK K)
  refine wpMix_take 4 rfl (by kernel_rfl) (by kernel_rfl) (by kernel_rfl) (fun _ _ _ _ h => h) (fun K hK => ?_)
  go_simp
  first
    | (refine hK _ ?_; clear hK K)
    | (apply Exists.intro
       refine ⟨fun _ => ?_, hK _ ?_⟩
       (fail)
       clear hK K)
  refine wpMix_take 5 rfl (by kernel_rfl) (by kernel_rfl) (by kernel_rfl) (fun _ _ _ _ h => h) (fun K hK => ?_)
  go_simp
  first
    | (refine hK _ ?_; clear hK K)
    | (apply Exists.intro
       refine ⟨fun _ => ?_, hK _ ?_⟩
       (fail)
       clear hK K)
  refine wpMix_take 6 rfl (by kernel_rfl) (by kernel_rfl) (by kernel_rfl) (fun _ _ _ _ h => h) (fun K hK => ?_)
  go_simp
  first
    | (refine hK _ ?_; clear hK K)
    | (apply Exists.intro
       refine ⟨fun _ => ?_, hK _ ?_⟩
       (fail)
       clear hK K)
  refine wpMix_take 7 rfl (by kernel_rfl) (by kernel_rfl) (by kernel_rfl) (fun _ _ _ _ h => h) (fun K hK => ?_)
  go_simp
  first
    | (refine hK _ ?_; clear hK K)
    | (apply Exists.intro
       refine ⟨fun _ => ?_, hK _ ?_⟩
       (exact unhide DT _ (unhide HTG _))
       clear hK K)
  refine wpMix_take 8 rfl (by kernel_rfl) (by kernel_rfl) (by kernel_rfl) (fun _ _ _ _ h => h) (fun K hK => ?_)
  go_simp
  first
    | (refine hK _ ?_; clear hK K)
    | (apply Exists.intro
       refine ⟨fun _ => ?_, hK _ ?_⟩
       (fail)
       clear hK K)
  refine wpMix_take 9 rfl (by kernel_rfl) (by kernel_rfl) (by kernel_rfl) (fun _ _ _ _ h => h) (fun K hK => ?_)
  go_simp
  first
    | (refine hK _ ?_; clear hK K)
    | (apply Exists.intro
       refine ⟨fun _ => ?_, hK _ ?_⟩
       (fail)
       clear hK K)
  refine wpMix_take 10 rfl (by kernel_rfl) (by kernel_rfl) (by kernel_rfl) (fun _ _ _ _ h => h) (fun K hK => ?_)
  go_simp
  first
    | (refine hK _ ?_; clear hK K)
    | (apply Exists.intro
       refine ⟨fun _ => ?_, hK _ ?_⟩
       (exact unhide DI _ (unhide HTG _))
       clear hK K)
  clear y0 y1 y2 HTG DF DT DI
  refine wpMix_one 11 rfl (by kernel_rfl) (by rfl) (fun x hx => ?_)
  go_simp
  refine ⟨below_one x _, ?_⟩
  have hx2 := heap_alloc_new x (.cells #[.string (⟨#[97, 99, 107]⟩ : ByteArray), .string dF, .string (⟨#[62]⟩ : ByteArray), .string dT, .string dI] 9)
  have HBX := hide (Ge.trans (Ge.trans (unhide HBV) hx) (below_one x (.cells #[.string (⟨#[97, 99, 107]⟩ : ByteArray), .string dF, .string (⟨#[62]⟩ : ByteArray), .string dT, .string dI] 9)))
  generalize x.alloc (.cells #[.string (⟨#[97, 99, 107]⟩ : ByteArray), .string dF, .string (⟨#[62]⟩ : ByteArray), .string dT, .string dI] 9) = y at *
  have HX := hide hx2
  clear hx hx2 HBV
  refine wpMix_take 12 rfl (by kernel_rfl) (by kernel_rfl) (by kernel_rfl) (fun _ _ _ _ h => h) (fun K hK => ?_)
  go_simp
  first
    | (refine hK _ ?_; clear hK K)
    | (apply Exists.intro
       refine ⟨fun _ => ?_, hK _ ?_⟩
       (fail)
       clear hK K)
  refine wpMix_done (by kernel_rfl) (fun z hz => ?_)
  have HBZ := hide (Ge.trans (unhide HBX) hz)
  have HZB := hide (blk_step (unhide HX) hz)
  clear hz HBX HX
  go_simp
  go_wp2_with fail
  go_ret
  exact ⟨x.heap.size, rfl, unhide HZB, unhide HBZ⟩

set_option maxRecDepth 100000 in
set_option maxHeartbeats 2000000 in
theorem implMsgText_no (m : Mg) (w : World) (h : mgOk m = false) : Calls Tryz.prog 81 #[mgv m] w fun e w' => e = .returned (.string ByteArray.empty) ∧ Below w.heap.size w w' := by
  have HO := hide (fun w1 => messageOf m w1)
  rw [h] at HO
  clear h
  generalize ifv m = v at *
  obtain ⟨K, F, T, I, L, k, N⟩ := m
  go_enter Tryz.func81, Tryz.ntmps81
  go_wp2_with fail
  refine (unhide HO _).mono ?_
  rintro e w1 ⟨rfl, hb1⟩
  have hB := (below_one w _).trans (hb1.mono (by simp))
  clear hb1
  go_wp2_with fail
  go_ret
  exact ⟨rfl, hB⟩

set_option maxRecDepth 100000 in
set_option maxHeartbeats 2000000 in
theorem implMsgText_want (F T I L : Int) (k : ByteArray) (N : Int) (w : World) (h : mgOk ⟨0, F, T, I, L, k, N⟩ = true) (hF0 : 0 ≤ F) (hF1 : F ≤ 1000000000) (hT0 : 0 ≤ T) (hT1 : T ≤ 1000000000) (hN0 : 0 ≤ N) (hN1 : N ≤ 1000000000) (hk : k.size ≤ 10) (hT : Tens w) : Calls Tryz.prog 81 #[mgv ⟨0, F, T, I, L, k, N⟩] w fun e w' => e = .returned (.string (txWant (dec F) (dec T) k (dec N))) ∧ Below w.heap.size w w' := by
  have HO := hide (fun w1 => messageOf ⟨0, F, T, I, L, k, N⟩ w1)
  rw [h, show ifv ⟨0, F, T, I, L, k, N⟩ = .iface 131 (.agg #[.int .i64 F, .int .i64 T, .string k, .int .i64 N]) by simp [ifv]] at HO
  have HW := hide (fun w1 h => wordsOf_want F T k N hF0 hF1 hT0 hT1 hN0 hN1 w1 h)
  have hjn := joinWant (dec F) (dec T) k (dec N)
  have hlen : (Lib.join (([(⟨#[119, 97, 110, 116]⟩ : ByteArray), dec F, (⟨#[62]⟩ : ByteArray), dec T, k, dec N] : List ByteArray).map (·.data.toList)) (⟨#[32]⟩ : ByteArray).data.toList).length ≤ 140737488355328 := by
    have sF := dec_size F hF0 hF1
    have qF := size_toList (dec F)
    have sT := dec_size T hT0 hT1
    have qT := size_toList (dec T)
    have sN := dec_size N hN0 hN1
    have qN := size_toList (dec N)
    have qk := size_toList k
    simp [Lib.join, List.intercalate, List.intersperse]
    omega
  have HJ := hide (fun g w1 hc hg => Tryz.strings_Join g 0 6 [(⟨#[119, 97, 110, 116]⟩ : ByteArray), dec F, (⟨#[62]⟩ : ByteArray), dec T, k, dec N] ⟨#[32]⟩ w1 hc hg (by simp) (by simp) hlen)
  rw [show (⟨(Lib.join (([(⟨#[119, 97, 110, 116]⟩ : ByteArray), dec F, (⟨#[62]⟩ : ByteArray), dec T, k, dec N] : List ByteArray).map (·.data.toList)) (⟨#[32]⟩ : ByteArray).data.toList).toArray⟩ : ByteArray) = txWant (dec F) (dec T) k (dec N) from hjn] at HJ
  have HT := hide hT
  clear h hjn hlen hT hF0 hF1 hT0 hT1 hN0 hN1 hk
  generalize txWant (dec F) (dec T) k (dec N) = r at *
  generalize dec F = dF at *
  generalize dec T = dT at *
  generalize dec N = dN at *
  go_enter Tryz.func81, Tryz.ntmps81
  go_wp2_with fail
  refine (unhide HO _).mono ?_
  rintro e w1 ⟨rfl, hb1⟩
  have hB := (below_one w _).trans (hb1.mono (by simp))
  clear hb1
  go_wp2_with fail
  refine (unhide HW _ ((unhide HT).below hB)).mono ?_
  rintro e w2 ⟨g, rfl, hg, hb2⟩
  have hB2 := hB.trans (hb2.mono hB.size)
  have hgl := blk_lt hg
  have hc2 := hide (show ∀ (j : Nat) x, ([(⟨#[119, 97, 110, 116]⟩ : ByteArray), dF, (⟨#[62]⟩ : ByteArray), dT, k, dN] : List ByteArray)[j]? = some x → w2.cell? ⟨g, 0 + j, none⟩ = some (.string x) by
    intro j x hx
    rw [Nat.zero_add, cell_of_row w2 g j _ 9 (0, 0) hg]
    rw [show (#[.string (⟨#[119, 97, 110, 116]⟩ : ByteArray), .string dF, .string (⟨#[62]⟩ : ByteArray), .string dT, .string k, .string dN] : Array Value) = (([(⟨#[119, 97, 110, 116]⟩ : ByteArray), dF, (⟨#[62]⟩ : ByteArray), dT, k, dN] : List ByteArray).map Value.string).toArray from rfl]
    simp only [List.getElem?_toArray, List.getElem?_map, hx]
    rfl)
  clear hb2 hB hg
  go_wp2_with fail
  refine (unhide HJ g _ (unhide hc2) hgl).mono ?_
  rintro e w3 ⟨rfl, hb3⟩
  have hB3 := hB2.trans (hb3.mono hB2.size)
  clear hb3 hB2 hc2
  go_wp2_with fail
  go_ret
  exact ⟨rfl, hB3⟩

set_option maxRecDepth 100000 in
set_option maxHeartbeats 2000000 in
theorem implMsgText_pay (F T I L : Int) (k : ByteArray) (N : Int) (w : World) (h : mgOk ⟨1, F, T, I, L, k, N⟩ = true) (hF0 : 0 ≤ F) (hF1 : F ≤ 1000000000) (hT0 : 0 ≤ T) (hT1 : T ≤ 1000000000) (hI0 : 0 ≤ I) (hI1 : I ≤ 1000000000) (hL0 : 0 ≤ L) (hL1 : L ≤ 1000000000) (hN0 : 0 ≤ N) (hN1 : N ≤ 1000000000) (hk : k.size ≤ 10) (hT : Tens w) : Calls Tryz.prog 81 #[mgv ⟨1, F, T, I, L, k, N⟩] w fun e w' => e = .returned (.string (txPay (dec F) (dec T) (dec I) (dec L) k (dec N))) ∧ Below w.heap.size w w' := by
  have HO := hide (fun w1 => messageOf ⟨1, F, T, I, L, k, N⟩ w1)
  rw [h, show ifv ⟨1, F, T, I, L, k, N⟩ = .iface 133 (.agg #[.int .i64 F, .int .i64 T, .int .i64 I, .int .i64 L, .string k, .int .i64 N]) by simp [ifv]] at HO
  have HW := hide (fun w1 h => wordsOf_pay F T I L k N hF0 hF1 hT0 hT1 hI0 hI1 hL0 hL1 hN0 hN1 w1 h)
  have hjn := joinPay (dec F) (dec T) (dec I) (dec L) k (dec N)
  have hlen : (Lib.join (([(⟨#[112, 97, 121]⟩ : ByteArray), dec F, (⟨#[62]⟩ : ByteArray), dec T, dec I, dec L, k, dec N] : List ByteArray).map (·.data.toList)) (⟨#[32]⟩ : ByteArray).data.toList).length ≤ 140737488355328 := by
    have sF := dec_size F hF0 hF1
    have qF := size_toList (dec F)
    have sT := dec_size T hT0 hT1
    have qT := size_toList (dec T)
    have sI := dec_size I hI0 hI1
    have qI := size_toList (dec I)
    have sL := dec_size L hL0 hL1
    have qL := size_toList (dec L)
    have sN := dec_size N hN0 hN1
    have qN := size_toList (dec N)
    have qk := size_toList k
    simp [Lib.join, List.intercalate, List.intersperse]
    omega
  have HJ := hide (fun g w1 hc hg => Tryz.strings_Join g 0 8 [(⟨#[112, 97, 121]⟩ : ByteArray), dec F, (⟨#[62]⟩ : ByteArray), dec T, dec I, dec L, k, dec N] ⟨#[32]⟩ w1 hc hg (by simp) (by simp) hlen)
  rw [show (⟨(Lib.join (([(⟨#[112, 97, 121]⟩ : ByteArray), dec F, (⟨#[62]⟩ : ByteArray), dec T, dec I, dec L, k, dec N] : List ByteArray).map (·.data.toList)) (⟨#[32]⟩ : ByteArray).data.toList).toArray⟩ : ByteArray) = txPay (dec F) (dec T) (dec I) (dec L) k (dec N) from hjn] at HJ
  have HT := hide hT
  clear h hjn hlen hT hF0 hF1 hT0 hT1 hI0 hI1 hL0 hL1 hN0 hN1 hk
  generalize txPay (dec F) (dec T) (dec I) (dec L) k (dec N) = r at *
  generalize dec F = dF at *
  generalize dec T = dT at *
  generalize dec I = dI at *
  generalize dec L = dL at *
  generalize dec N = dN at *
  go_enter Tryz.func81, Tryz.ntmps81
  go_wp2_with fail
  refine (unhide HO _).mono ?_
  rintro e w1 ⟨rfl, hb1⟩
  have hB := (below_one w _).trans (hb1.mono (by simp))
  clear hb1
  go_wp2_with fail
  refine (unhide HW _ ((unhide HT).below hB)).mono ?_
  rintro e w2 ⟨g, rfl, hg, hb2⟩
  have hB2 := hB.trans (hb2.mono hB.size)
  have hgl := blk_lt hg
  have hc2 := hide (show ∀ (j : Nat) x, ([(⟨#[112, 97, 121]⟩ : ByteArray), dF, (⟨#[62]⟩ : ByteArray), dT, dI, dL, k, dN] : List ByteArray)[j]? = some x → w2.cell? ⟨g, 0 + j, none⟩ = some (.string x) by
    intro j x hx
    rw [Nat.zero_add, cell_of_row w2 g j _ 9 (0, 0) hg]
    rw [show (#[.string (⟨#[112, 97, 121]⟩ : ByteArray), .string dF, .string (⟨#[62]⟩ : ByteArray), .string dT, .string dI, .string dL, .string k, .string dN] : Array Value) = (([(⟨#[112, 97, 121]⟩ : ByteArray), dF, (⟨#[62]⟩ : ByteArray), dT, dI, dL, k, dN] : List ByteArray).map Value.string).toArray from rfl]
    simp only [List.getElem?_toArray, List.getElem?_map, hx]
    rfl)
  clear hb2 hB hg
  go_wp2_with fail
  refine (unhide HJ g _ (unhide hc2) hgl).mono ?_
  rintro e w3 ⟨rfl, hb3⟩
  have hB3 := hB2.trans (hb3.mono hB2.size)
  clear hb3 hB2 hc2
  go_wp2_with fail
  go_ret
  exact ⟨rfl, hB3⟩

set_option maxRecDepth 100000 in
set_option maxHeartbeats 2000000 in
theorem implMsgText_ack (F T I L : Int) (k : ByteArray) (N : Int) (w : World) (h : mgOk ⟨2, F, T, I, L, k, N⟩ = true) (hF0 : 0 ≤ F) (hF1 : F ≤ 1000000000) (hT0 : 0 ≤ T) (hT1 : T ≤ 1000000000) (hI0 : 0 ≤ I) (hI1 : I ≤ 1000000000) (hT : Tens w) : Calls Tryz.prog 81 #[mgv ⟨2, F, T, I, L, k, N⟩] w fun e w' => e = .returned (.string (txAck (dec F) (dec T) (dec I))) ∧ Below w.heap.size w w' := by
  have HO := hide (fun w1 => messageOf ⟨2, F, T, I, L, k, N⟩ w1)
  rw [h, show ifv ⟨2, F, T, I, L, k, N⟩ = .iface 135 (.agg #[.int .i64 F, .int .i64 T, .int .i64 I]) by simp [ifv]] at HO
  have HW := hide (fun w1 h => wordsOf_ack F T I hF0 hF1 hT0 hT1 hI0 hI1 w1 h)
  have hjn := joinAck (dec F) (dec T) (dec I)
  have hlen : (Lib.join (([(⟨#[97, 99, 107]⟩ : ByteArray), dec F, (⟨#[62]⟩ : ByteArray), dec T, dec I] : List ByteArray).map (·.data.toList)) (⟨#[32]⟩ : ByteArray).data.toList).length ≤ 140737488355328 := by
    have sF := dec_size F hF0 hF1
    have qF := size_toList (dec F)
    have sT := dec_size T hT0 hT1
    have qT := size_toList (dec T)
    have sI := dec_size I hI0 hI1
    have qI := size_toList (dec I)
    simp [Lib.join, List.intercalate, List.intersperse]
    omega
  have HJ := hide (fun g w1 hc hg => Tryz.strings_Join g 0 5 [(⟨#[97, 99, 107]⟩ : ByteArray), dec F, (⟨#[62]⟩ : ByteArray), dec T, dec I] ⟨#[32]⟩ w1 hc hg (by simp) (by simp) hlen)
  rw [show (⟨(Lib.join (([(⟨#[97, 99, 107]⟩ : ByteArray), dec F, (⟨#[62]⟩ : ByteArray), dec T, dec I] : List ByteArray).map (·.data.toList)) (⟨#[32]⟩ : ByteArray).data.toList).toArray⟩ : ByteArray) = txAck (dec F) (dec T) (dec I) from hjn] at HJ
  have HT := hide hT
  clear h hjn hlen hT hF0 hF1 hT0 hT1 hI0 hI1
  generalize txAck (dec F) (dec T) (dec I) = r at *
  generalize dec F = dF at *
  generalize dec T = dT at *
  generalize dec I = dI at *
  go_enter Tryz.func81, Tryz.ntmps81
  go_wp2_with fail
  refine (unhide HO _).mono ?_
  rintro e w1 ⟨rfl, hb1⟩
  have hB := (below_one w _).trans (hb1.mono (by simp))
  clear hb1
  go_wp2_with fail
  refine (unhide HW _ ((unhide HT).below hB)).mono ?_
  rintro e w2 ⟨g, rfl, hg, hb2⟩
  have hB2 := hB.trans (hb2.mono hB.size)
  have hgl := blk_lt hg
  have hc2 := hide (show ∀ (j : Nat) x, ([(⟨#[97, 99, 107]⟩ : ByteArray), dF, (⟨#[62]⟩ : ByteArray), dT, dI] : List ByteArray)[j]? = some x → w2.cell? ⟨g, 0 + j, none⟩ = some (.string x) by
    intro j x hx
    rw [Nat.zero_add, cell_of_row w2 g j _ 9 (0, 0) hg]
    rw [show (#[.string (⟨#[97, 99, 107]⟩ : ByteArray), .string dF, .string (⟨#[62]⟩ : ByteArray), .string dT, .string dI] : Array Value) = (([(⟨#[97, 99, 107]⟩ : ByteArray), dF, (⟨#[62]⟩ : ByteArray), dT, dI] : List ByteArray).map Value.string).toArray from rfl]
    simp only [List.getElem?_toArray, List.getElem?_map, hx]
    rfl)
  clear hb2 hB hg
  go_wp2_with fail
  refine (unhide HJ g _ (unhide hc2) hgl).mono ?_
  rintro e w3 ⟨rfl, hb3⟩
  have hB3 := hB2.trans (hb3.mono hB2.size)
  clear hb3 hB2 hc2
  go_wp2_with fail
  go_ret
  exact ⟨rfl, hB3⟩

theorem implMsgText (m : Mg) (w : World) (hT : Tens w) : Calls Tryz.prog 81 #[mgv m] w fun e w' => e = .returned (.string (msgTx m)) ∧ Below w.heap.size w w' := by
  cases h : mgOk m
  · rw [msgTx_no h]; exact implMsgText_no m w h
  obtain ⟨hF, hT', hc⟩ := mg_parts h
  obtain ⟨K, F, T, I, L, k, N⟩ := m
  have hx := h
  unfold msgTx
  rw [if_pos h]
  dsimp only at *
  rcases hc with ⟨rfl, hN, hk⟩ | ⟨rfl, hN, hI, hL, hk⟩ | ⟨rfl, hI⟩
  · exact implMsgText_want F T I L k N w hx (by omega) (by omega) (by omega) (by omega) (by omega) (by omega) hk hT
  · exact implMsgText_pay F T I L k N w hx (by omega) (by omega) (by omega) (by omega) (by omega) (by omega) (by omega) (by omega) (by omega) (by omega) hk hT
  · exact implMsgText_ack F T I L k N w hx (by omega) (by omega) (by omega) (by omega) (by omega) (by omega) hT
end Go.Proofs.YtikdkijggejnfaaGreatDoor
