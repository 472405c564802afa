/-
  What the program's IsEdge comes to.
-/
import Derived.Test.YtccpcmhideijpaaTrDepI
import Derived.Test.YtccpcmhideijpaaTrEdgeM
namespace Go.Proofs.Ytccpcmhideijpaa
open Go.RowKit Go.Shelf
open Mth
attribute [local go_sem] Oper.semAt_some

set_option maxRecDepth 100000 in
set_option maxHeartbeats 2000000 in
theorem implBelow (a : Option Addr) (cap : Nat) (l : List Int) (m n : Nat) (w : World) (ha : IntsAt w a l) (hT : TreeP l) (hm : m < l.length) :
    Calls Try.prog 35 #[trv a l cap, .int .i64 m, .int .i64 n] w fun e w' => e = .returned (.bool (decide (n ∈ upN l m))) ∧ Below w.heap.size w w' := by
  have HA := hide ha
  clear ha
  refine (callsIn_wide (n := 9)).1 ?_
  refine callsIn_of_wp_marks Try.func35 rfl trivial ?_ rfl
  simp only [Try.ntmps35, List.size_toArray, List.length_cons, List.length_nil, Nat.reduceAdd, Nat.reduceSub, Array.replicate_succ, Array.replicate_zero, List.push_toArray, List.append_toArray, List.nil_append, List.cons_append]
  gi_wp2_with fail
  refine ⟨trivial, (callsIn_wide.2 (implAbove _ _ _)).mono ?_⟩
  rintro e w2 ⟨rfl, rfl⟩
  gi_wp2_with fail
  have hl0 : 0 < l.length := by omega
  have hfar := far_of (unhide HA) hl0 (D := w.heap.size + 1 + 1) (M := w.heap.size + 1 + 1 + 1 + 1 + 1) (by omega) (by omega)
  have bN0 := box_new (W := w.alloc (.cells #[.slice a l.length cap] 27)) (v := .int .i64 (n : Int)) (t := 3)
  have bR0 := box_new (W := (w.alloc (.cells #[.slice a l.length cap] 27)).alloc (.cells #[.int .i64 (n : Int)] 3)) (v := .bool false) (t := 4)
  have bT0 := box_new (W := ((w.alloc (.cells #[.slice a l.length cap] 27)).alloc (.cells #[.int .i64 (n : Int)] 3)).alloc (.cells #[.bool false] 4)) (v := .slice a l.length cap) (t := 27)
  have bM := box_new (W := (((w.alloc (.cells #[.slice a l.length cap] 27)).alloc (.cells #[.int .i64 (n : Int)] 3)).alloc (.cells #[.bool false] 4)).alloc (.cells #[.slice a l.length cap] 27)) (v := .int .i64 (m : Int)) (t := 3)
  have bT := box_old (below_one' _ (.cells #[.int .i64 (m : Int)] 3)) bT0
  have bR := box_old (below_one' _ (.cells #[.int .i64 (m : Int)] 3)) (box_old (below_one' _ (.cells #[.slice a l.length cap] 27)) bR0)
  have bN := box_old (below_one' _ (.cells #[.int .i64 (m : Int)] 3)) (box_old (below_one' _ (.cells #[.slice a l.length cap] 27)) (box_old (below_one' _ (.cells #[.bool false] 4)) bN0))
  have hBW : Below w.heap.size w (((((w.alloc (.cells #[.slice a l.length cap] 27)).alloc (.cells #[.int .i64 (n : Int)] 3)).alloc (.cells #[.bool false] 4)).alloc (.cells #[.slice a l.length cap] 27)).alloc (.cells #[.int .i64 (m : Int)] 3)) := ((((below_one' w _).alloc (by simp) _).alloc (by simp; omega) _).alloc (by simp; omega) _).alloc (by simp; omega) _
  have hsz : (((((w.alloc (.cells #[.slice a l.length cap] 27)).alloc (.cells #[.int .i64 (n : Int)] 3)).alloc (.cells #[.bool false] 4)).alloc (.cells #[.slice a l.length cap] 27)).alloc (.cells #[.int .i64 (m : Int)] 3)).heap.size = w.heap.size + 1 + 1 + 1 + 1 + 1 := by simp
  clear bN0 bR0 bT0
  simp only [World.size_alloc] at bM bT bR bN
  generalize ((((w.alloc (.cells #[.slice a l.length cap] 27)).alloc (.cells #[.int .i64 (n : Int)] 3)).alloc (.cells #[.bool false] 4)).alloc (.cells #[.slice a l.length cap] 27)).alloc (.cells #[.int .i64 (m : Int)] 3) = W at *
  have hLW := GR.At.below (unhide HA) hBW
  refine wpIn_rangeFunc_ownF rfl (by omega) (gf := 47) (lb := #[.pointer (some ⟨w.heap.size + 1 + 1 + 1, 0, none⟩), .pointer (some ⟨w.heap.size + 1 + 1 + 1 + 1, 0, none⟩)]) rfl trivial (enters_of Try.func47 (by kernel_rfl) rfl)
    (above_stops 8 (by omega) (w.heap.size + 1 + 1 + 1) (w.heap.size + 1 + 1 + 1 + 1) (w.heap.size + 1 + 1) (w.heap.size + 1 + 1 + 1 + 1 + 1) a cap l m hT hm hfar ⟨by omega, by omega⟩ W hsz.symm (by omega) bT.1 bM.1 hLW) (fun h k => h.trans k) (KX.put (by omega)) (Below.refl _ _) (fun _ => rfl)
    (fun pre W' => ((∀ y ∈ pre, n < y) ∧ W'.cell? ⟨w.heap.size + 1, 0, none⟩ = some (.int .i64 (n : Int)) ∧ W'.cell? ⟨w.heap.size + 1 + 1, 0, none⟩ = some (.bool false) ∧ W'.frozen? ⟨w.heap.size + 1 + 1, 0, none⟩ = false) ∧ Below w.heap.size w W')
    (fun c pre W' => (c = .ret ∧ (∃ p x, pre = p ++ [x] ∧ (∀ y ∈ p, n < y) ∧ x ≤ n ∧ W'.cell? ⟨w.heap.size + 1 + 1, 0, none⟩ = some (.bool (decide (x = n))))) ∧ Below w.heap.size w W')
    (OwnFrom.and (Own.from (fun s A B row hs hg hr => ⟨hs.1, cell_kept hs.2.1 hg hr, cell_kept hs.2.2.1 hg hr, (frozen_kept hs.2.2.1 hg hr).trans hs.2.2.2⟩) _) (ownFrom_below (Nat.le_refl _) (by omega)))
    (fun c => OwnFrom.and (Own.from (fun s A B row hs hg hr => by obtain ⟨h1, p, x, h2, h3, h4, h5⟩ := hs; exact ⟨h1, p, x, h2, h3, h4, cell_kept h5 hg hr⟩) _) (ownFrom_below (Nat.le_refl _) (by omega)))
    ⟨⟨fun y hy => (by cases hy), bN.1, bR.1, bR.2⟩, hBW⟩
    (fun x => { tmps := #[trv a l cap, .int .i64 m, .int .i64 n, .pointer (some ⟨w.heap.size, 0, none⟩), undef, .pointer (some ⟨w.heap.size + 1, 0, none⟩), .pointer (some ⟨w.heap.size + 1 + 1, 0, none⟩), .int .i64 (x : Int), .agg #[.slice a l.length cap], .int .i64 m, .func (.func 47) #[] #[.pointer (some ⟨w.heap.size + 1 + 1 + 1, 0, none⟩), .pointer (some ⟨w.heap.size + 1 + 1 + 1 + 1, 0, none⟩)], .int .i64 (x : Int), undef, undef, undef, undef, undef, undef], defers := [] }) ?assign ?body ?done ?stop
  case assign =>
    intro q x W' K hK
    gi_wp2
    exact hK
  case body =>
    rintro q pre x W' ⟨⟨hp, hcn, hcr, hfr⟩, hB⟩ _
    by_cases hx : x ≤ n
    · have hxi : decide ((x : Int) ≤ (n : Int)) = true := decide_eq_true (by omega)
      have hxe : ((x : Int) == (n : Int)) = decide (x = n) := by
        by_cases h : x = n
        · subst h; simp
        · rw [decide_eq_false h]; simpa using (show ¬ (x : Int) = (n : Int) by omega)
      gi_wp2
      refine ⟨KeepsOthers.setCell _ _ _, ⟨rfl, pre, x, rfl, hp, hx, ?_⟩, hB.setCell (p := ⟨w.heap.size + 1 + 1, 0, none⟩) (by simp; omega) _⟩
      first | exact World.cell?_setCell_same' _ _ _ (by rw [hcr]; rfl) | (rw [← hxe]; exact World.cell?_setCell_same' _ _ _ (by rw [hcr]; rfl))
    · have hxi : decide ((x : Int) ≤ (n : Int)) = false := decide_eq_false (by omega)
      gi_wp2
      exact ⟨KeepsOthers.refl _, KX.refl _ _ _, ⟨fun y hy => (List.mem_append.1 hy).elim (hp y) (fun e => by simp at e; subst e; omega), hcn, hcr, hfr⟩, hB⟩
  case done =>
    rintro D ys W' hD rfl ⟨⟨hp, _, hcr, hfr⟩, hB⟩ hK
    have hno : decide (n ∈ upN l m) = false := decide_eq_false (fun h => Nat.lt_irrefl _ (hp n h))
    gi_wp2
    have hK' := (KeepsOthers.setCell W' ⟨w.heap.size + 1 + 1, 0, none⟩ (.bool false)).same D _ hK rfl
    refine ⟨by simp, .inl ⟨_, _, rfl, run_takeDeferred hK', ?_⟩⟩
    have hc5 := cell_kept (World.cell?_setCell_same' W' ⟨w.heap.size + 1 + 1, 0, none⟩ (.bool false) (by rw [hcr]; rfl)) (grownBy_putObj' _ D (.deferred none)) (fun r e => by cases e; exact ⟨_, hK', rfl⟩)
    refine ⟨.bool false, ?_, by rw [hno], (hB.setCell (p := ⟨w.heap.size + 1 + 1, 0, none⟩) (by simp; omega) _).trans (belowK_b (w := w) (Nat.le_refl _) _ D _ _ (by omega) hK' rfl rfl)⟩
    simp [results, Try.f35, go_sem, hc5]
  case stop =>
    rintro D c pre W' hD hpre ⟨⟨rfl, p, x, rfl, hp, hx, hcr⟩, hB⟩ hK
    have he := up_stop hT m n hm p x hpre hp hx
    gi_wp2
    refine ⟨by simp, .inl ⟨_, _, rfl, run_takeDeferred hK, ?_⟩⟩
    have hc5 := cell_kept hcr (grownBy_putObj' _ D (.deferred none)) (fun r e => by cases e; exact ⟨_, hK, rfl⟩)
    refine ⟨.bool (decide (x = n)), ?_, by rw [he], hB.trans (belowK_b (w := w) (Nat.le_refl _) W' D _ _ (by omega) hK rfl rfl)⟩
    simp [results, Try.f35, go_sem, hc5]

set_option maxRecDepth 100000 in
set_option maxHeartbeats 2000000 in
theorem implIsEdge (a : Option Addr) (cap : Nat) (l : List Int) (n : Int) (w : World) (hl : l.length ≤ 1048600) (ha : IntsAt w a l) :
    Calls Try.prog 22 #[trv a l cap, .int .i64 n] w fun e w' => e = .returned (.bool (edgeN l n)) ∧ Below w.heap.size w w' := by
  have hb1 : Below w.heap.size w (w.alloc (.cells #[.slice a l.length cap] 27)) := below_one' w _
  have HC := hide (implHas a cap l n _ hl (GR.At.below ha hb1))
  have HT0 := hide (heap_alloc_new w (.cells #[.slice a l.length cap] 27))
  have HB := hide hb1
  clear hb1
  cases hy : (treeB l && decide (0 ≤ n) && decide (n < (l.length : Int)))
  · have HE := hide (edgeN_no l n hy)
    rw [hy] at HC
    clear ha hy
    go_enter Try.func22, Try.ntmps22
    go_wp2_with (go_at_call 33; refine (unhide HC).mono ?_; rintro e w1 ⟨rfl, hb2⟩)
    go_ret
    exact ⟨ret_bool (unhide HE).symm, (unhide HB).trans (hb2.mono (unhide HB).size)⟩
  have HE := hide (edgeN_yes l n hy)
  have hh := hy
  simp only [Bool.and_eq_true, decide_eq_true_eq] at hh
  obtain ⟨k, rfl⟩ : ∃ k : Nat, n = (k : Int) := ⟨n.toNat, by omega⟩
  have HTP := hide (TreeP.of hh.1.1)
  have hk : k < l.length := by omega
  have hl30 := (unhide HTP).le
  have HBW := hide (fun m (hm : m < l.length) W (hb : Below w.heap.size w W) => implBelow a cap l m k W (GR.At.below ha hb) (unhide HTP) hm)
  have HEO := hide (edge_of (unhide HTP) k)
  rw [hy] at HC
  clear hh hy ha
  go_enter Try.func22, Try.ntmps22
  go_wp2_with (go_at_call 33; refine (unhide HC).mono ?_; rintro e w1 ⟨rfl, hb2⟩)
  have HB2 := hide ((unhide HB).trans (hb2.mono (unhide HB).size))
  have HT2 := hide (tr_step (unhide HT0) hb2)
  clear hb2
  go_loopw [5] (fun i wr => ∃ j : Nat, k < j ∧ j ≤ l.length ∧ i = .int .i64 j ∧ (∀ i, k < i → i < j → k ∉ upN l i) ∧ wr.heap[w.heap.size]? = some (.cells #[.slice a l.length cap] 27 (0, 0)) ∧ Below w.heap.size w wr) (fun i _ => l.length - (intOf i).toNat)
  case atStart => exact ⟨k + 1, by omega, by omega, by go_num, fun i h1 h2 => by omega, unhide HT2, unhide HB2⟩
  case round =>
    obtain ⟨j, hj1, hj2, rfl, hno, ht, hbel⟩ := hrel
    have HNO := hide hno
    have HT := hide ht
    have HBL := hide hbel
    have t1 := (one_at ht).1
    clear hno ht hbel
    by_cases hlt : j < l.length
    · have HBJ := hide (unhide HBW j hlt _ (unhide HBL))
      by_cases hin : k ∈ upN l j
      · have HF := hide (show edgeN l (k : Int) = false by
          rw [unhide HE]
          cases h : (kidsN l (k : Int)).isEmpty
          · rfl
          · exact absurd hin ((unhide HEO).1 h j hj1 hlt))
        rw [decide_eq_true hin] at HBJ
        clear hin
        go_wp2_with (go_at_call 35; refine (unhide HBJ).mono ?_; rintro e w3 ⟨rfl, hb3⟩)
        go_ret
        exact ⟨ret_bool (unhide HF).symm, (unhide HBL).trans (hb3.mono (unhide HBL).size)⟩
      · rw [decide_eq_false hin] at HBJ
        have HIN := hide hin
        clear hin
        go_wp2_with (go_at_call 35; refine (unhide HBJ).mono ?_; rintro e w3 ⟨rfl, hb3⟩)
        go_roundw
        case rel =>
          exact ⟨j + 1, by omega, by omega, by go_num, fun i h1 h2 => (by
            by_cases h : i = j
            · subst h; exact unhide HIN
            · exact unhide HNO i h1 (by omega)), tr_step (unhide HT) hb3, (unhide HBL).trans (hb3.mono (unhide HBL).size)⟩
        case measure => simp [intOf]; omega
    · have hje : j = l.length := by omega
      subst hje
      have HF := hide (show edgeN l (k : Int) = true by
        rw [unhide HE]
        exact (unhide HEO).2 (fun j h1 h2 => unhide HNO j h1 h2))
      go_wp2_with fail
      go_ret
      exact ⟨ret_bool (unhide HF).symm, unhide HBL⟩
end Go.Proofs.Ytccpcmhideijpaa
