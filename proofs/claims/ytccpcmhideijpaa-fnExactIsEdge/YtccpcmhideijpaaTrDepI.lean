/-
  What the program's Depth comes to.
-/
import Derived.Test.YtccpcmhideijpaaTrAbove
namespace Go.Proofs.Ytccpcmhideijpaa
open Go.RowKit Go.Shelf
open Mth
attribute [local go_sem] Oper.semAt_some

set_option maxRecDepth 100000 in
set_option maxHeartbeats 2000000 in
theorem implHas (a : Option Addr) (cap : Nat) (l : List Int) (n : Int) (w : World) (hl : l.length ≤ 1048600) (ha : IntsAt w a l) :
    Calls Try.prog 33 #[trv a l cap, .int .i64 n] w fun e w' => e = .returned (.bool (treeB l && decide (0 ≤ n) && decide (n < (l.length : Int)))) ∧ Below w.heap.size w w' := by
  have hb1 : Below w.heap.size w (w.alloc (.cells #[.slice a l.length cap] 27)) := below_one' w _
  have HC := hide (implOk a cap l _ hl (GR.At.below ha hb1))
  have HB := hide hb1
  have HT0 := hide (heap_alloc_new w (.cells #[.slice a l.length cap] 27))
  clear hb1 ha
  generalize treeB l = tb at *
  cases tb <;> by_cases h0 : 0 ≤ n <;> by_cases h1 : n < (l.length : Int)
  all_goals
    have e0 := hide (show decide (0 ≤ n) = _ from by first | exact decide_eq_true h0 | exact decide_eq_false h0)
    have e1 := hide (show decide (n < (l.length : Int)) = _ from by first | exact decide_eq_true h1 | exact decide_eq_false h1)
    go_enter Try.func33, Try.ntmps33
    go_wp2_with fail
    refine (unhide HC).mono ?_
    rintro e w1 ⟨rfl, hb2⟩
    have hB2 := hide ((unhide HB).trans (hb2.mono (unhide HB).size))
    obtain ⟨t1, _⟩ := one_at (tr_step (unhide HT0) hb2)
    clear hb2
    go_wp2_with fail
    all_goals
      go_ret
      exact ⟨ret_bool (by have f0 := unhide e0; have f1 := unhide e1; first | rfl | (simp only [f0, f1]; done) | (simp only [f0, f1]; rfl)), unhide hB2⟩

set_option maxRecDepth 100000 in
set_option maxHeartbeats 2000000 in
theorem implDepth_no (a : Option Addr) (cap : Nat) (l : List Int) (n : Int) (w : World) (hl : l.length ≤ 1048600) (ha : IntsAt w a l) (hn : (treeB l && decide (0 ≤ n) && decide (n < (l.length : Int))) = false) :
    Calls Try.prog 20 #[trv a l cap, .int .i64 n] w fun e w' => e = .returned (.int .i64 (-1)) ∧ Below w.heap.size w w' := by
  have hb1 : Below w.heap.size w (w.alloc (.cells #[.slice a l.length cap] 27)) := below_one' w _
  have HC := hide (implHas a cap l n _ hl (GR.At.below ha hb1))
  have HB := hide hb1
  rw [hn] at HC
  clear hb1 ha hn
  go_enter Try.func20, Try.ntmps20
  go_wp2_with (go_at_call 33; refine (unhide HC).mono ?_; rintro e w1 ⟨rfl, hb2⟩)
  go_ret
  exact ⟨rfl, (unhide HB).trans (hb2.mono (unhide HB).size)⟩

set_option maxRecDepth 100000 in
set_option maxHeartbeats 2000000 in
theorem implDepth_yes (a : Option Addr) (cap : Nat) (l : List Int) (n : Nat) (w : World) (hl : l.length ≤ 1048600) (ha : IntsAt w a l) (hT : TreeP l) (hn : n < l.length) (hy : (treeB l && decide (0 ≤ (n : Int)) && decide ((n : Int) < (l.length : Int))) = true) :
    Calls Try.prog 20 #[trv a l cap, .int .i64 n] w fun e w' => e = .returned (.int .i64 ((upN l n).length : Int)) ∧ Below w.heap.size w w' := by
  have hb1 : Below w.heap.size w (w.alloc (.cells #[.slice a l.length cap] 27)) := below_one' w _
  have HC := hide (implHas a cap l n _ hl (GR.At.below ha hb1))
  have HB := hide hb1
  have HT0 := hide (heap_alloc_new w (.cells #[.slice a l.length cap] 27))
  have HA := hide ha
  rw [hy] at HC
  clear hb1 ha hy
  refine (callsIn_wide (n := 9)).1 ?_
  refine callsIn_of_wp_marks Try.func20 rfl trivial ?_ rfl
  simp only [Try.ntmps20, List.size_toArray, List.length_cons, List.length_nil, Nat.reduceAdd, Nat.reduceSub, Array.replicate_succ, Array.replicate_zero, List.push_toArray, List.append_toArray, List.nil_append, List.cons_append]
  gi_wp2_with fail
  refine ⟨trivial, (callsIn_wide.2 (unhide HC)).mono ?_⟩
  rintro e w1 ⟨rfl, hb2⟩
  have HB1 := hide ((unhide HB).trans (hb2.mono (unhide HB).size))
  have HT1 := hide (tr_step (unhide HT0) hb2)
  clear hb2 HC HB HT0
  have HA1 := hide (GR.At.below (unhide HA) (unhide HB1))
  obtain ⟨t1, _⟩ := one_at (tr_step (unhide HT1) (below_one' w1 (.cells #[.int .i64 0] 3)))
  gi_wp2_with fail
  refine ⟨trivial, (callsIn_wide.2 (implAbove _ _ _)).mono ?_⟩
  rintro e w2 ⟨rfl, rfl⟩
  clear t1
  gi_wp2_with fail
  have hfar := far_of (unhide HA1) (show 0 < l.length by omega) (D := w1.heap.size) (M := w1.heap.size + 1 + 1 + 1) (Nat.le_refl _) (by omega)
  have bD := box_old (below_one' _ (.cells #[.int .i64 (n : Int)] 3)) (box_old (below_one' _ (.cells #[.slice a l.length cap] 27)) (box_new (W := w1) (v := .int .i64 0) (t := 3)))
  have bT := box_old (below_one' _ (.cells #[.int .i64 (n : Int)] 3)) (box_new (W := w1.alloc (.cells #[.int .i64 0] 3)) (v := .slice a l.length cap) (t := 27))
  have bN := box_new (W := (w1.alloc (.cells #[.int .i64 0] 3)).alloc (.cells #[.slice a l.length cap] 27)) (v := .int .i64 (n : Int)) (t := 3)
  have hbw : Below w1.heap.size w1 (((w1.alloc (.cells #[.int .i64 0] 3)).alloc (.cells #[.slice a l.length cap] 27)).alloc (.cells #[.int .i64 (n : Int)] 3)) := ((below_one' w1 _).alloc (by simp) _).alloc (by simp; omega) _
  have hsz : (((w1.alloc (.cells #[.int .i64 0] 3)).alloc (.cells #[.slice a l.length cap] 27)).alloc (.cells #[.int .i64 (n : Int)] 3)).heap.size = w1.heap.size + 1 + 1 + 1 := by simp
  generalize ((w1.alloc (.cells #[.int .i64 0] 3)).alloc (.cells #[.slice a l.length cap] 27)).alloc (.cells #[.int .i64 (n : Int)] 3) = W at *
  simp only [World.size_alloc] at bT bN
  have hBW : Below w.heap.size w W := (unhide HB1).trans (hbw.mono (unhide HB1).size)
  have hLW := GR.At.below (unhide HA1) hbw
  have hz1 : w.heap.size ≤ w1.heap.size := (unhide HB1).size
  refine wpIn_rangeFunc_ownF rfl (by omega) (gf := 47) (lb := #[.pointer (some ⟨w1.heap.size + 1, 0, none⟩), .pointer (some ⟨w1.heap.size + 1 + 1, 0, none⟩)]) rfl trivial (enters_of Try.func47 (by kernel_rfl) rfl)
    (above_stops 8 (by omega) (w1.heap.size + 1) (w1.heap.size + 1 + 1) w1.heap.size (w1.heap.size + 1 + 1 + 1) a cap l n hT hn hfar ⟨by omega, by omega⟩ W hsz.symm (by omega) bT.1 bN.1 hLW) (fun h k => h.trans k) (KX.put (by omega)) (Below.refl _ _) (fun _ => rfl)
    (fun pre W' => (W'.cell? ⟨w1.heap.size, 0, none⟩ = some (.int .i64 (pre.length : Int)) ∧ W'.frozen? ⟨w1.heap.size, 0, none⟩ = false) ∧ Below w.heap.size w W')
    (fun _ _ _ => False)
    (OwnFrom.and (Own.from (fun s A B row hs hg hr => ⟨cell_kept hs.1 hg hr, (frozen_kept hs.1 hg hr).trans hs.2⟩) _) (ownFrom_below (Nat.le_refl _) (by omega)))
    (fun _ _ _ _ _ hs _ _ => hs)
    ⟨bD, hBW⟩
    (fun x => { tmps := #[trv a l cap, .int .i64 n, .pointer (some ⟨w.heap.size, 0, none⟩), undef, .int .i64 0, .pointer (some ⟨w1.heap.size, 0, none⟩), .agg #[.slice a l.length cap], .int .i64 n, .bool true, .bool false, .agg #[.slice a l.length cap], .int .i64 n, .func (.func 47) #[] #[.pointer (some ⟨w1.heap.size + 1, 0, none⟩), .pointer (some ⟨w1.heap.size + 1 + 1, 0, none⟩)], .int .i64 (x : Int), undef, undef, undef], defers := [] }) ?assign ?body ?done ?stop
  case assign =>
    intro q x W' K hK
    gi_wp2
    simp
    exact hK
  case body =>
    rintro q pre x W' ⟨⟨hc, hf⟩, hB⟩ hlt
    have hlen := upN_len hT n hn
    have hl30 := hT.le
    gi_wp2
    exact ⟨KeepsOthers.setCell _ _ _, KX.set _ _, ⟨by rw [List.length_append, List.length_singleton]; exact World.cell?_setCell_same' _ _ _ (by rw [hc]; rfl), by rw [World.frozen?_setCell]; exact hf⟩, hB.setCell (p := ⟨w1.heap.size, 0, none⟩) hz1 _⟩
  case done =>
    rintro D ys W' hD rfl ⟨⟨hc, _⟩, hB⟩ hK
    gi_wp2
    refine ⟨by simp, .inl ⟨_, _, rfl, run_takeDeferred hK, ?_⟩⟩
    exact ⟨_, results_tmp rfl _ _ _, rfl, hB.trans (belowK_b (w := w) (Nat.le_refl _) W' D _ _ (by omega) hK rfl rfl)⟩
  case stop =>
    rintro D c pre W' _ _ h _
    exact h.elim
theorem implDepth (a : Option Addr) (cap : Nat) (l : List Int) (n : Int) (w : World) (hl : l.length ≤ 1048600) (ha : IntsAt w a l) :
    Calls Try.prog 20 #[trv a l cap, .int .i64 n] w fun e w' => e = .returned (.int .i64 (depthN l n)) ∧ Below w.heap.size w w' := by
  cases hy : (treeB l && decide (0 ≤ n) && decide (n < (l.length : Int)))
  · rw [show depthN l n = -1 by unfold depthN; rw [hy]; rfl]
    exact implDepth_no a cap l n w hl ha hy
  · have hh := hy
    simp only [Bool.and_eq_true, decide_eq_true_eq] at hh
    obtain ⟨k, rfl⟩ : ∃ k : Nat, n = (k : Int) := ⟨n.toNat, by omega⟩
    rw [depthN_yes l k hh.1.1 (by omega)]
    exact implDepth_yes a cap l k w hl ha (TreeP.of hh.1.1) (by omega) hy
end Go.Proofs.Ytccpcmhideijpaa
