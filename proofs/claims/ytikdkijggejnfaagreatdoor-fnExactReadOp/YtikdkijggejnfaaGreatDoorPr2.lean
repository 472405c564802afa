/- Parts. -/
import Derived.Test.YtikdkijggejnfaaGreatDoorPr1
import Derived.Lib.ItoaNum
import Derived.Lib.ItoaLen
import Derived.Laws.DeepStrings4
namespace Go.Proofs.YtikdkijggejnfaaGreatDoor
open Go.RowKit
open Mth
theorem blk_lt {w : World} {g : Nat} {o : Obj} (h : w.heap[g]? = some o) : g < w.heap.size := by
  rcases Nat.lt_or_ge g w.heap.size with h' | h'
  · exact h'
  · rw [Array.getElem?_eq_none h'] at h; cases h
/-- A block stays behind a call that makes memory alone. -/
theorem blk_step {w w' : World} {g : Nat} {o : Obj} (h : w.heap[g]? = some o) (hb : Below w.heap.size w w') : w'.heap[g]? = some o := by
  rw [hb.block g (blk_lt h)]
  exact h
theorem cells3 {w : World} {g : Nat} {a0 a1 a2 : Value} {t : TypeId} (h : w.heap[g]? = some (.cells #[a0, a1, a2] t (0, 0))) :
    w.cell? ⟨g, 0, none⟩ = some a0 ∧ w.cell? ⟨g, 1, none⟩ = some a1 ∧ w.cell? ⟨g, 2, none⟩ = some a2 := by
  have hc : ∀ i, w.cell? ⟨g, i, none⟩ = #[a0, a1, a2][i]? := fun i => cell_of_row w g i _ t (0, 0) h
  exact ⟨hc 0, hc 1, hc 2⟩
theorem cells4 {w : World} {g : Nat} {a0 a1 a2 a3 : Value} {t : TypeId} (h : w.heap[g]? = some (.cells #[a0, a1, a2, a3] t (0, 0))) :
    w.cell? ⟨g, 0, none⟩ = some a0 ∧ w.cell? ⟨g, 1, none⟩ = some a1 ∧ w.cell? ⟨g, 2, none⟩ = some a2 ∧ w.cell? ⟨g, 3, none⟩ = some a3 := by
  have hc : ∀ i, w.cell? ⟨g, i, none⟩ = #[a0, a1, a2, a3][i]? := fun i => cell_of_row w g i _ t (0, 0) h
  exact ⟨hc 0, hc 1, hc 2, hc 3⟩
theorem cells6 {w : World} {g : Nat} {a0 a1 a2 a3 a4 a5 : Value} {t : TypeId} (h : w.heap[g]? = some (.cells #[a0, a1, a2, a3, a4, a5] t (0, 0))) :
    w.cell? ⟨g, 0, none⟩ = some a0 ∧ w.cell? ⟨g, 1, none⟩ = some a1 ∧ w.cell? ⟨g, 2, none⟩ = some a2 ∧ w.cell? ⟨g, 3, none⟩ = some a3 ∧ w.cell? ⟨g, 4, none⟩ = some a4 ∧ w.cell? ⟨g, 5, none⟩ = some a5 := by
  have hc : ∀ i, w.cell? ⟨g, i, none⟩ = #[a0, a1, a2, a3, a4, a5][i]? := fun i => cell_of_row w g i _ t (0, 0) h
  exact ⟨hc 0, hc 1, hc 2, hc 3, hc 4, hc 5⟩
theorem cells7 {w : World} {g : Nat} {a0 a1 a2 a3 a4 a5 a6 : Value} {t : TypeId} (h : w.heap[g]? = some (.cells #[a0, a1, a2, a3, a4, a5, a6] t (0, 0))) :
    w.cell? ⟨g, 0, none⟩ = some a0 ∧ w.cell? ⟨g, 1, none⟩ = some a1 ∧ w.cell? ⟨g, 2, none⟩ = some a2 ∧ w.cell? ⟨g, 3, none⟩ = some a3 ∧ w.cell? ⟨g, 4, none⟩ = some a4 ∧ w.cell? ⟨g, 5, none⟩ = some a5 ∧ w.cell? ⟨g, 6, none⟩ = some a6 := by
  have hc : ∀ i, w.cell? ⟨g, i, none⟩ = #[a0, a1, a2, a3, a4, a5, a6][i]? := fun i => cell_of_row w g i _ t (0, 0) h
  exact ⟨hc 0, hc 1, hc 2, hc 3, hc 4, hc 5, hc 6⟩

set_option maxRecDepth 100000 in
set_option maxHeartbeats 2000000 in
theorem routeOk (F T : Int) (r : Bool) (w : World) (h : rtB F T = r) : Calls Tryz.prog 167 #[.agg #[.int .i64 F, .int .i64 T]] w fun e w' => e = .returned (.bool r) ∧ Below w.heap.size w w' := by
  subst h
  cases h1 : ndB F
  case' false =>
    have HP := hide (show rtB F T = false by simp [rtB, h1])
    have H1 := hide (fun w1 => isNode F false w1 h1)
    clear h1
    go_enter Tryz.func167, Tryz.ntmps167
    go_wp2_with (first | (go_at_call_of 168 F; refine (unhide H1 _).mono ?_; rintro e w1 ⟨rfl, rfl⟩))
    go_ret
    exact ⟨ret_bool (unhide HP).symm, below_one w _⟩
  have H1 := hide (fun w1 => isNode F true w1 h1)
  cases h2 : ndB T
  case' false =>
    have HP := hide (show rtB F T = false by simp [rtB, h2])
    have H2 := hide (fun w1 => isNode T false w1 h2)
    clear h1 h2
    go_enter Tryz.func167, Tryz.ntmps167
    go_wp2_with (first | (go_at_call_of 168 F; refine (unhide H1 _).mono ?_; rintro e w1 ⟨rfl, rfl⟩) | (go_at_call_of 168 T; refine (unhide H2 _).mono ?_; rintro e w1 ⟨rfl, rfl⟩))
    go_ret
    exact ⟨ret_bool (unhide HP).symm, below_one w _⟩
  have H2 := hide (fun w1 => isNode T true w1 h2)
  by_cases hft : F = T
  case' pos =>
    have HP := hide (show rtB F T = false by simp [rtB, hft])
    clear h1 h2
    subst hft
    go_enter Tryz.func167, Tryz.ntmps167
    go_wp2_with (first | (go_at_call_of 168 F; refine (unhide H1 _).mono ?_; rintro e w1 ⟨rfl, rfl⟩))
    go_ret
    exact ⟨ret_bool (unhide HP).symm, below_one w _⟩
  have HP := hide (show rtB F T = true by simp [rtB, h1, h2, hft])
  have he : (F != T) = true := by simp [hft]
  clear h1 h2
  go_enter Tryz.func167, Tryz.ntmps167
  go_wp2_with (first | (go_at_call_of 168 F; refine (unhide H1 _).mono ?_; rintro e w1 ⟨rfl, rfl⟩) | (go_at_call_of 168 T; refine (unhide H2 _).mono ?_; rintro e w1 ⟨rfl, rfl⟩))
  go_ret
  exact ⟨ret_bool (by first | exact (unhide HP).symm | exact he.trans (unhide HP).symm), below_one w _⟩

set_option maxRecDepth 100000 in
set_option maxHeartbeats 2000000 in
theorem wantOk (F T : Int) (k : ByteArray) (N : Int) (r : Bool) (w : World) (h : (rtB F T && keyOk k.data.toList && smB N) = r) : Calls Tryz.prog 169 #[.agg #[.int .i64 F, .int .i64 T, .string k, .int .i64 N]] w fun e w' => e = .returned (.bool r) ∧ Below w.heap.size w w' := by
  have HQ := hide h
  clear h
  cases hr : rtB F T
  case' false =>
    have HP := hide (show (rtB F T && keyOk k.data.toList && smB N) = false by simp [hr])
    have HR := hide (fun w1 => routeOk F T false w1 hr)
    clear hr
    go_enter Tryz.func169, Tryz.ntmps169
    go_wp2_with (first | (go_at_call 167; refine (unhide HR _).mono ?_; rintro e w2 ⟨rfl, hb2⟩; have hA := blk_step (heap_alloc_new w _) hb2; have hB := (below_one w _).trans (hb2.mono (by simp)); obtain ⟨c0, c1, c2, c3⟩ := cells4 hA; have hz := blk_lt hA; clear hA hb2))
    go_ret
    exact ⟨ret_bool ((unhide HP).symm.trans (unhide HQ)), hB⟩
  have HR := hide (fun w1 => routeOk F T true w1 hr)
  cases hc0 : keyOk k.data.toList
  case' false =>
    have HP := hide (show (rtB F T && keyOk k.data.toList && smB N) = false by simp [hr, hc0])
    have HC0 := hide (fun w1 => implKeyR k false w1 hc0)
    clear hr hc0
    go_enter Tryz.func169, Tryz.ntmps169
    go_wp2_with (first | (go_at_call 167; refine (unhide HR _).mono ?_; rintro e w2 ⟨rfl, hb2⟩; have hA := blk_step (heap_alloc_new w _) hb2; have hB := (below_one w _).trans (hb2.mono (by simp)); obtain ⟨c0, c1, c2, c3⟩ := cells4 hA; have hz := blk_lt hA; clear hA hb2) | (go_at_call_of 75 k; refine (unhide HC0 _).mono ?_; rintro e w1 ⟨rfl, rfl⟩))
    go_ret
    exact ⟨ret_bool ((unhide HP).symm.trans (unhide HQ)), hB⟩
  have HC0 := hide (fun w1 => implKeyR k true w1 hc0)
  cases hc1 : smB N
  case' false =>
    have HP := hide (show (rtB F T && keyOk k.data.toList && smB N) = false by simp [hr, hc0, hc1])
    have HC1 := hide (fun w1 => isSomeAmount N false w1 hc1)
    clear hr hc0 hc1
    go_enter Tryz.func169, Tryz.ntmps169
    go_wp2_with (first | (go_at_call 167; refine (unhide HR _).mono ?_; rintro e w2 ⟨rfl, hb2⟩; have hA := blk_step (heap_alloc_new w _) hb2; have hB := (below_one w _).trans (hb2.mono (by simp)); obtain ⟨c0, c1, c2, c3⟩ := cells4 hA; have hz := blk_lt hA; clear hA hb2) | (go_at_call_of 75 k; refine (unhide HC0 _).mono ?_; rintro e w1 ⟨rfl, rfl⟩) | (go_at_call_of 74 N; refine (unhide HC1 _).mono ?_; rintro e w1 ⟨rfl, rfl⟩))
    go_ret
    exact ⟨ret_bool ((unhide HP).symm.trans (unhide HQ)), hB⟩
  have HC1 := hide (fun w1 => isSomeAmount N true w1 hc1)
  have HP := hide (show (rtB F T && keyOk k.data.toList && smB N) = true by simp [hr, hc0, hc1])
  clear hr hc0 hc1
  go_enter Tryz.func169, Tryz.ntmps169
  go_wp2_with (first | (go_at_call 167; refine (unhide HR _).mono ?_; rintro e w2 ⟨rfl, hb2⟩; have hA := blk_step (heap_alloc_new w _) hb2; have hB := (below_one w _).trans (hb2.mono (by simp)); obtain ⟨c0, c1, c2, c3⟩ := cells4 hA; have hz := blk_lt hA; clear hA hb2) | (go_at_call_of 75 k; refine (unhide HC0 _).mono ?_; rintro e w1 ⟨rfl, rfl⟩) | (go_at_call_of 74 N; refine (unhide HC1 _).mono ?_; rintro e w1 ⟨rfl, rfl⟩))
  go_ret
  exact ⟨ret_bool ((unhide HP).symm.trans (unhide HQ)), hB⟩

set_option maxRecDepth 100000 in
set_option maxHeartbeats 2000000 in
theorem payOk (F T I L : Int) (k : ByteArray) (N : Int) (r : Bool) (w : World) (h : (rtB F T && smB I && decide (1 ≤ L) && decide (L ≤ I) && keyOk k.data.toList && smB N) = r) : Calls Tryz.prog 170 #[.agg #[.int .i64 F, .int .i64 T, .int .i64 I, .int .i64 L, .string k, .int .i64 N]] w fun e w' => e = .returned (.bool r) ∧ Below w.heap.size w w' := by
  have HQ := hide h
  clear h
  cases hr : rtB F T
  case' false =>
    have HP := hide (show (rtB F T && smB I && decide (1 ≤ L) && decide (L ≤ I) && keyOk k.data.toList && smB N) = false by simp [hr])
    have HR := hide (fun w1 => routeOk F T false w1 hr)
    clear hr
    go_enter Tryz.func170, Tryz.ntmps170
    go_wp2_with (first | (go_at_call 167; refine (unhide HR _).mono ?_; rintro e w2 ⟨rfl, hb2⟩; have hA := blk_step (heap_alloc_new w _) hb2; have hB := (below_one w _).trans (hb2.mono (by simp)); obtain ⟨c0, c1, c2, c3, c4, c5⟩ := cells6 hA; have hz := blk_lt hA; clear hA hb2))
    go_ret
    exact ⟨ret_bool ((unhide HP).symm.trans (unhide HQ)), hB⟩
  have HR := hide (fun w1 => routeOk F T true w1 hr)
  cases hc0 : smB I
  case' false =>
    have HP := hide (show (rtB F T && smB I && decide (1 ≤ L) && decide (L ≤ I) && keyOk k.data.toList && smB N) = false by simp [hr, hc0])
    have HC0 := hide (fun w1 => isSomeAmount I false w1 hc0)
    clear hr hc0
    go_enter Tryz.func170, Tryz.ntmps170
    go_wp2_with (first | (go_at_call 167; refine (unhide HR _).mono ?_; rintro e w2 ⟨rfl, hb2⟩; have hA := blk_step (heap_alloc_new w _) hb2; have hB := (below_one w _).trans (hb2.mono (by simp)); obtain ⟨c0, c1, c2, c3, c4, c5⟩ := cells6 hA; have hz := blk_lt hA; clear hA hb2) | (go_at_call_of 74 I; refine (unhide HC0 _).mono ?_; rintro e w1 ⟨rfl, rfl⟩))
    go_ret
    exact ⟨ret_bool ((unhide HP).symm.trans (unhide HQ)), hB⟩
  have HC0 := hide (fun w1 => isSomeAmount I true w1 hc0)
  by_cases hd1 : 1 ≤ L
  case' neg =>
    have HP := hide (show (rtB F T && smB I && decide (1 ≤ L) && decide (L ≤ I) && keyOk k.data.toList && smB N) = false by simp [hr, hc0, hd1])
    clear hr hc0
    go_enter Tryz.func170, Tryz.ntmps170
    go_wp2_with (first | (go_at_call 167; refine (unhide HR _).mono ?_; rintro e w2 ⟨rfl, hb2⟩; have hA := blk_step (heap_alloc_new w _) hb2; have hB := (below_one w _).trans (hb2.mono (by simp)); obtain ⟨c0, c1, c2, c3, c4, c5⟩ := cells6 hA; have hz := blk_lt hA; clear hA hb2) | (go_at_call_of 74 I; refine (unhide HC0 _).mono ?_; rintro e w1 ⟨rfl, rfl⟩))
    go_ret
    exact ⟨ret_bool ((unhide HP).symm.trans (unhide HQ)), hB⟩
  by_cases hd2 : L ≤ I
  case' neg =>
    have HP := hide (show (rtB F T && smB I && decide (1 ≤ L) && decide (L ≤ I) && keyOk k.data.toList && smB N) = false by simp [hr, hc0, hd1, hd2])
    clear hr hc0
    go_enter Tryz.func170, Tryz.ntmps170
    go_wp2_with (first | (go_at_call 167; refine (unhide HR _).mono ?_; rintro e w2 ⟨rfl, hb2⟩; have hA := blk_step (heap_alloc_new w _) hb2; have hB := (below_one w _).trans (hb2.mono (by simp)); obtain ⟨c0, c1, c2, c3, c4, c5⟩ := cells6 hA; have hz := blk_lt hA; clear hA hb2) | (go_at_call_of 74 I; refine (unhide HC0 _).mono ?_; rintro e w1 ⟨rfl, rfl⟩))
    go_ret
    exact ⟨ret_bool ((unhide HP).symm.trans (unhide HQ)), hB⟩
  cases hc1 : keyOk k.data.toList
  case' false =>
    have HP := hide (show (rtB F T && smB I && decide (1 ≤ L) && decide (L ≤ I) && keyOk k.data.toList && smB N) = false by simp [hr, hc0, hd1, hd2, hc1])
    have HC1 := hide (fun w1 => implKeyR k false w1 hc1)
    clear hr hc0 hc1
    go_enter Tryz.func170, Tryz.ntmps170
    go_wp2_with (first | (go_at_call 167; refine (unhide HR _).mono ?_; rintro e w2 ⟨rfl, hb2⟩; have hA := blk_step (heap_alloc_new w _) hb2; have hB := (below_one w _).trans (hb2.mono (by simp)); obtain ⟨c0, c1, c2, c3, c4, c5⟩ := cells6 hA; have hz := blk_lt hA; clear hA hb2) | (go_at_call_of 74 I; refine (unhide HC0 _).mono ?_; rintro e w1 ⟨rfl, rfl⟩) | (go_at_call_of 75 k; refine (unhide HC1 _).mono ?_; rintro e w1 ⟨rfl, rfl⟩))
    go_ret
    exact ⟨ret_bool ((unhide HP).symm.trans (unhide HQ)), hB⟩
  have HC1 := hide (fun w1 => implKeyR k true w1 hc1)
  cases hc2 : smB N
  case' false =>
    have HP := hide (show (rtB F T && smB I && decide (1 ≤ L) && decide (L ≤ I) && keyOk k.data.toList && smB N) = false by simp [hr, hc0, hd1, hd2, hc1, hc2])
    have HC2 := hide (fun w1 => isSomeAmount N false w1 hc2)
    clear hr hc0 hc1 hc2
    go_enter Tryz.func170, Tryz.ntmps170
    go_wp2_with (first | (go_at_call 167; refine (unhide HR _).mono ?_; rintro e w2 ⟨rfl, hb2⟩; have hA := blk_step (heap_alloc_new w _) hb2; have hB := (below_one w _).trans (hb2.mono (by simp)); obtain ⟨c0, c1, c2, c3, c4, c5⟩ := cells6 hA; have hz := blk_lt hA; clear hA hb2) | (go_at_call_of 74 I; refine (unhide HC0 _).mono ?_; rintro e w1 ⟨rfl, rfl⟩) | (go_at_call_of 75 k; refine (unhide HC1 _).mono ?_; rintro e w1 ⟨rfl, rfl⟩) | (go_at_call_of 74 N; refine (unhide HC2 _).mono ?_; rintro e w1 ⟨rfl, rfl⟩))
    go_ret
    exact ⟨ret_bool ((unhide HP).symm.trans (unhide HQ)), hB⟩
  have HC2 := hide (fun w1 => isSomeAmount N true w1 hc2)
  have HP := hide (show (rtB F T && smB I && decide (1 ≤ L) && decide (L ≤ I) && keyOk k.data.toList && smB N) = true by simp [hr, hc0, hd1, hd2, hc1, hc2])
  clear hr hc0 hc1 hc2
  go_enter Tryz.func170, Tryz.ntmps170
  go_wp2_with (first | (go_at_call 167; refine (unhide HR _).mono ?_; rintro e w2 ⟨rfl, hb2⟩; have hA := blk_step (heap_alloc_new w _) hb2; have hB := (below_one w _).trans (hb2.mono (by simp)); obtain ⟨c0, c1, c2, c3, c4, c5⟩ := cells6 hA; have hz := blk_lt hA; clear hA hb2) | (go_at_call_of 74 I; refine (unhide HC0 _).mono ?_; rintro e w1 ⟨rfl, rfl⟩) | (go_at_call_of 75 k; refine (unhide HC1 _).mono ?_; rintro e w1 ⟨rfl, rfl⟩) | (go_at_call_of 74 N; refine (unhide HC2 _).mono ?_; rintro e w1 ⟨rfl, rfl⟩))
  go_ret
  exact ⟨ret_bool ((unhide HP).symm.trans (unhide HQ)), hB⟩

set_option maxRecDepth 100000 in
set_option maxHeartbeats 2000000 in
theorem ackOk (F T I : Int) (r : Bool) (w : World) (h : (rtB F T && smB I) = r) : Calls Tryz.prog 171 #[.agg #[.int .i64 F, .int .i64 T, .int .i64 I]] w fun e w' => e = .returned (.bool r) ∧ Below w.heap.size w w' := by
  have HQ := hide h
  clear h
  cases hr : rtB F T
  case' false =>
    have HP := hide (show (rtB F T && smB I) = false by simp [hr])
    have HR := hide (fun w1 => routeOk F T false w1 hr)
    clear hr
    go_enter Tryz.func171, Tryz.ntmps171
    go_wp2_with (first | (go_at_call 167; refine (unhide HR _).mono ?_; rintro e w2 ⟨rfl, hb2⟩; have hA := blk_step (heap_alloc_new w _) hb2; have hB := (below_one w _).trans (hb2.mono (by simp)); obtain ⟨c0, c1, c2⟩ := cells3 hA; have hz := blk_lt hA; clear hA hb2))
    go_ret
    exact ⟨ret_bool ((unhide HP).symm.trans (unhide HQ)), hB⟩
  have HR := hide (fun w1 => routeOk F T true w1 hr)
  cases hc0 : smB I
  case' false =>
    have HP := hide (show (rtB F T && smB I) = false by simp [hr, hc0])
    have HC0 := hide (fun w1 => isSomeAmount I false w1 hc0)
    clear hr hc0
    go_enter Tryz.func171, Tryz.ntmps171
    go_wp2_with (first | (go_at_call 167; refine (unhide HR _).mono ?_; rintro e w2 ⟨rfl, hb2⟩; have hA := blk_step (heap_alloc_new w _) hb2; have hB := (below_one w _).trans (hb2.mono (by simp)); obtain ⟨c0, c1, c2⟩ := cells3 hA; have hz := blk_lt hA; clear hA hb2) | (go_at_call_of 74 I; refine (unhide HC0 _).mono ?_; rintro e w1 ⟨rfl, rfl⟩))
    go_ret
    exact ⟨ret_bool ((unhide HP).symm.trans (unhide HQ)), hB⟩
  have HC0 := hide (fun w1 => isSomeAmount I true w1 hc0)
  have HP := hide (show (rtB F T && smB I) = true by simp [hr, hc0])
  clear hr hc0
  go_enter Tryz.func171, Tryz.ntmps171
  go_wp2_with (first | (go_at_call 167; refine (unhide HR _).mono ?_; rintro e w2 ⟨rfl, hb2⟩; have hA := blk_step (heap_alloc_new w _) hb2; have hB := (below_one w _).trans (hb2.mono (by simp)); obtain ⟨c0, c1, c2⟩ := cells3 hA; have hz := blk_lt hA; clear hA hb2) | (go_at_call_of 74 I; refine (unhide HC0 _).mono ?_; rintro e w1 ⟨rfl, rfl⟩))
  go_ret
  exact ⟨ret_bool ((unhide HP).symm.trans (unhide HQ)), hB⟩

end Go.Proofs.YtikdkijggejnfaaGreatDoor
namespace Go.Proofs.YtikdkijggejnfaaGreatDoor.Mth
open Go.Lib (decDigits itoa)

/-- By the last element. -/
theorem snoc_ind {p : List UInt8 → Prop} (h0 : p []) (h1 : ∀ r c, p r → p (r ++ [c])) (l : List UInt8) : p l := by
  have h : ∀ (n : Nat) (l : List UInt8), l.length = n → p l := by
    intro n
    induction n with
    | zero => intro l hl; rw [List.length_eq_zero_iff.1 hl]; exact h0
    | succ n ih =>
      intro l hl
      rcases List.eq_nil_or_concat l with rfl | ⟨r, c, rfl⟩
      · exact h0
      · rw [List.concat_eq_append] at hl ⊢
        exact h1 r c (ih r (by simpa using hl))
  exact h l.length l rfl

def isDig (c : UInt8) : Prop := 48 ≤ c.toNat ∧ c.toNat ≤ 57
/-- What digits are worth. -/
def val10 (l : List UInt8) : Nat := l.foldl (fun n c => n * 10 + (c.toNat - 48)) 0
theorem val10_snoc (l : List UInt8) (c : UInt8) : val10 (l ++ [c]) = val10 l * 10 + (c.toNat - 48) := by simp [val10]
/-- The texts that are read: digits, at least one and at most nine, with no nought ahead. -/
def decOk (l : List UInt8) : Prop := l ≠ [] ∧ (∀ c ∈ l, isDig c) ∧ (l.headD 0 ≠ 48 ∨ l.length = 1) ∧ l.length ≤ 9
theorem val10_lt (l : List UInt8) : (∀ c ∈ l, isDig c) → val10 l < 10 ^ l.length := by
  induction l using snoc_ind with
  | h0 => simp [val10]
  | h1 r c ih0 =>
    intro h
    have ih := ih0 (fun x hx => h x (by simp [hx]))
    have hc := h c (by simp)
    unfold isDig at hc
    rw [val10_snoc, List.length_append, List.length_singleton, Nat.pow_succ]
    omega
theorem digits_small (v : Nat) (h : v < 10) : decDigits v = [UInt8.ofNat (48 + v)] := by rw [decDigits, dif_pos h]
theorem digits_big (v : Nat) (h : ¬ v < 10) : decDigits v = decDigits (v / 10) ++ [UInt8.ofNat (48 + v % 10)] := by rw [decDigits, dif_neg h]
theorem headD_append (r : List UInt8) (c : UInt8) (h : r ≠ []) : (r ++ [c]).headD 0 = r.headD 0 := by
  cases r with
  | nil => exact absurd rfl h
  | cons x t => rfl
theorem val10_pos (l : List UInt8) : l ≠ [] → (∀ c ∈ l, isDig c) → l.headD 0 ≠ 48 → 10 ^ (l.length - 1) ≤ val10 l := by
  induction l using snoc_ind with
  | h0 => intro hne; exact absurd rfl hne
  | h1 r c ih0 =>
    intro _ h h0
    have hc := h c (by simp)
    unfold isDig at hc
    rw [val10_snoc, List.length_append, List.length_singleton]
    by_cases hr : r = []
    · subst hr
      have : c.toNat ≠ 48 := fun e => h0 (by show c = 48; exact UInt8.toNat_inj.1 e)
      simp [val10]; omega
    · have ih := ih0 hr (fun x hx => h x (by simp [hx])) (by rw [← headD_append r c hr]; exact h0)
      have hl : 0 < r.length := List.length_pos_iff.2 hr
      obtain ⟨m, hm⟩ : ∃ m, r.length = m + 1 := ⟨r.length - 1, by omega⟩
      rw [hm] at ih ⊢
      simp only [Nat.add_sub_cancel] at ih ⊢
      rw [Nat.pow_succ]; omega
/-- A text of digits with no nought ahead is put for what it is worth. -/
theorem digits_val (l : List UInt8) : l ≠ [] → (∀ c ∈ l, isDig c) → (l.headD 0 ≠ 48 ∨ l.length = 1) → decDigits (val10 l) = l := by
  induction l using snoc_ind with
  | h0 => intro hne; exact absurd rfl hne
  | h1 r c ih0 =>
    intro _ h h0
    have hc := h c (by simp)
    unfold isDig at hc
    have e0 : UInt8.ofNat (48 + (c.toNat - 48)) = c := by
      have : 48 + (c.toNat - 48) = c.toNat := by omega
      rw [this]; simp
    rw [val10_snoc]
    by_cases hr : r = []
    · subst hr
      have : val10 [] = 0 := rfl
      rw [this, Nat.zero_mul, Nat.zero_add, digits_small _ (by omega), e0]; rfl
    · have hl : 0 < r.length := List.length_pos_iff.2 hr
      have h1 : r.headD 0 ≠ 48 := by
        rcases h0 with h0 | h0
        · rw [headD_append r c hr] at h0; exact h0
        · rw [List.length_append, List.length_singleton] at h0; omega
      have hd : ∀ x ∈ r, isDig x := fun x hx => h x (by simp [hx])
      have hp := val10_pos r hr hd h1
      have hp' : 1 ≤ val10 r := Nat.le_trans (Nat.one_le_pow _ _ (by omega)) hp
      rw [digits_big _ (by omega)]
      have e1 : (val10 r * 10 + (c.toNat - 48)) / 10 = val10 r := by omega
      have e2 : (val10 r * 10 + (c.toNat - 48)) % 10 = c.toNat - 48 := by omega
      rw [e1, e2, e0, ih0 hr hd (.inl h1)]
theorem digits_head (v : Nat) : 0 < v → (decDigits v).headD 0 ≠ 48 ∧ decDigits v ≠ [] := by
  induction v using Nat.strongRecOn with
  | ind v ih =>
  intro h
  by_cases hs : v < 10
  · rw [digits_small v hs]
    refine ⟨?_, by simp⟩
    show UInt8.ofNat (48 + v) ≠ 48
    intro e
    have := congrArg UInt8.toNat e
    rw [toNat_byte _ (by omega)] at this
    simp at this; omega
  · obtain ⟨h1, h2⟩ := ih (v / 10) (by omega) (by omega)
    rw [digits_big v hs]
    refine ⟨?_, by simp⟩
    rw [headD_append _ _ h2]; exact h1
theorem digits_nought (l : List UInt8) (h0 : l.headD 0 = 48) (h1 : l.length ≠ 1) : ∀ v, decDigits v ≠ l := by
  intro v e
  rcases Nat.eq_zero_or_pos v with rfl | hv
  · rw [digits_small 0 (by omega)] at e
    exact h1 (by rw [← e]; rfl)
  · exact (digits_head v hv).1 (by rw [e]; exact h0)
/-- The same, to be reckoned. -/
def decOkB (l : List UInt8) : Bool := !l.isEmpty && l.all (fun c => decide (48 ≤ c.toNat ∧ c.toNat ≤ 57)) && (l.headD 0 != 48 || l.length == 1) && decide (l.length ≤ 9)
theorem decOkB_iff (l : List UInt8) : decOkB l = true ↔ decOk l := by
  unfold decOkB decOk isDig
  simp [and_assoc]
end Go.Proofs.YtikdkijggejnfaaGreatDoor.Mth
namespace Go.Proofs.YtikdkijggejnfaaGreatDoor
open Go.RowKit
open Go.Lib (decDigits itoa)

/-- The digits that are still to come; none for nought. -/
def leftDigits (a : Nat) : List UInt8 := if a = 0 then [] else decDigits a
theorem left_step (a : Nat) (l t : List UInt8) (h0 : a ≠ 0) (h : leftDigits a ++ l = t) : leftDigits (a / 10) ++ (UInt8.ofNat (48 + a % 10) :: l) = t := by
  unfold leftDigits at *
  rw [if_neg h0] at h
  by_cases hs : a < 10
  · have e1 : a / 10 = 0 := by omega
    have e2 : a % 10 = a := by omega
    rw [Mth.digits_small a hs] at h
    rw [e1, e2, if_pos rfl]; simpa using h
  · rw [Mth.digits_big a hs] at h
    rw [if_neg (by omega), ← h]; simp
/-- A digit cut out of the ten. -/
theorem ten_at : ∀ d : Fin 10, (ByteArray.mk #[48, 49, 50, 51, 52, 53, 54, 55, 56, 57]).extract d.1 (d.1 + 1) = ⟨#[UInt8.ofNat (48 + d.1)]⟩ := by decide +kernel
theorem ten_add (d : Nat) (hd : d < 10) (l : List UInt8) : (ByteArray.mk #[48, 49, 50, 51, 52, 53, 54, 55, 56, 57]).extract d (d + 1) ++ ⟨l.toArray⟩ = ⟨(UInt8.ofNat (48 + d) :: l).toArray⟩ := by
  rw [ten_at ⟨d, hd⟩]
  apply ByteArray.ext
  simp

set_option maxHeartbeats 1000000 in
set_option maxRecDepth 100000 in
theorem specDec_pos (n : Nat) (w : World) (h0 : 0 < n) (hn : (n : Int) ≤ 9223372036854775807) :
    Calls Tryz.prog 55 #[.int .i64 n] w fun e w' => e = .returned (.string ⟨(decDigits n).toArray⟩) ∧ w = w' := by
  have hlen : (decDigits n).length ≤ 21 := by have := Lib.itoa_length_le n (by omega) hn; rw [Lib.itoa, if_neg (by omega)] at this; simpa using this
  have hne : ((n : Int) == 0) = false := beq_eq_false_iff_ne.2 (by omega)
  go_enter Tryz.func55, Tryz.ntmps55
  go_wp2
  go_loop [3, 4] (fun o m => ∃ (a : Nat) (l : List UInt8), a ≤ n ∧ m = .int .i64 a ∧ o = .string ⟨l.toArray⟩ ∧ leftDigits a ++ l = decDigits n) (fun _ m => (intOf m).toNat)
  case atStart => exact ⟨n, [], Nat.le_refl _, rfl, rfl, by unfold leftDigits; rw [if_neg (by omega)]; simp⟩
  case round =>
    obtain ⟨a, l, ha, rfl, rfl, hl⟩ := hrel
    have HL := hide hl
    have hll : l.length ≤ 21 := by have := congrArg List.length hl; rw [List.length_append] at this; omega
    clear hl
    by_cases hz : a = 0
    · subst hz
      have HE := hide (show l = decDigits n by have := unhide HL; simpa [leftDigits] using this)
      clear HL
      go_wp2
      go_ret
      exact ⟨ret_string (by rw [unhide HE]), rfl⟩
    · have HS := hide (left_step a l _ hz (unhide HL))
      have hA := hide (ten_add (a % 10) (by omega) l)
      have hne2 : ((a : Int) == 0) = false := beq_eq_false_iff_ne.2 (by omega)
      clear HL
      go_wp2
      go_round
      case rel => exact ⟨a / 10, _, by omega, by go_num, by rw [unhide hA], unhide HS⟩
      case measure => simp [intOf]; omega

theorem neg_tmod (a : Nat) : (-(a : Int)).tmod 10 = -((a : Int) % 10) := by rw [Int.neg_tmod, Int.tmod_eq_emod_of_nonneg (by omega)]
theorem neg_tdiv (a : Nat) : (-(a : Int)).tdiv 10 = -((a : Int) / 10) := by rw [Int.neg_tdiv, Int.tdiv_eq_ediv_of_nonneg (by omega)]
theorem minus_add (l : List UInt8) : (ByteArray.mk #[45]) ++ ⟨l.toArray⟩ = ⟨(45 :: l).toArray⟩ := by
  apply ByteArray.ext; simp

set_option maxHeartbeats 1000000 in
set_option maxRecDepth 100000 in
theorem specDec_neg (n : Nat) (w : World) (h0 : 0 < n) (hn : (n : Int) ≤ 9223372036854775808) :
    Calls Tryz.prog 55 #[.int .i64 (-(n : Int))] w fun e w' => e = .returned (.string ⟨(45 :: decDigits n).toArray⟩) ∧ w = w' := by
  have hlen : (decDigits n).length ≤ 21 := by have := Lib.itoa_length_le (-(n : Int)) (by omega) (by omega); rw [Lib.itoa, if_pos (by omega)] at this; simp at this; omega
  have hne : (-(n : Int) == 0) = false := beq_eq_false_iff_ne.2 (by omega)
  go_enter Tryz.func55, Tryz.ntmps55
  go_wp2
  go_loop [3, 4] (fun o m => ∃ (a : Nat) (l : List UInt8), a ≤ n ∧ m = .int .i64 (-(a : Int)) ∧ o = .string ⟨l.toArray⟩ ∧ leftDigits a ++ l = decDigits n) (fun _ m => (intOf m).natAbs)
  case atStart => exact ⟨n, [], Nat.le_refl _, rfl, rfl, by unfold leftDigits; rw [if_neg (by omega)]; simp⟩
  case round =>
    obtain ⟨a, l, ha, rfl, rfl, hl⟩ := hrel
    have HL := hide hl
    have hll : l.length ≤ 21 := by have := congrArg List.length hl; rw [List.length_append] at this; omega
    clear hl
    by_cases hz : a = 0
    · subst hz
      have HE := hide (show l = decDigits n by have := unhide HL; simpa [leftDigits] using this)
      have hA := hide (minus_add l)
      clear HL
      go_wp2
      go_ret
      exact ⟨ret_string (by rw [← unhide HE]; exact unhide hA), rfl⟩
    · have HS := hide (left_step a l _ hz (unhide HL))
      have hA := hide (ten_add (a % 10) (by omega) l)
      have hne2 : (-(a : Int) == 0) = false := beq_eq_false_iff_ne.2 (by omega)
      have hm := neg_tmod a
      have hq := neg_tdiv a
      clear HL
      have E1 := hide (show (-((a : Int) % 10)).toNat = a % 10 ∨ a % 10 ≠ 0 by omega)
      have E2 := hide (show (-((a : Int) % 10) + 1).toNat = a % 10 + 1 ∨ a % 10 ≠ 0 by omega)
      by_cases hd : a % 10 = 0
      · have E1' := hide ((unhide E1).resolve_right (fun h => h hd))
        have E2' := hide ((unhide E2).resolve_right (fun h => h hd))
        go_wp2
        go_round
        case rel => exact ⟨a / 10, _, by omega, by go_num, by rw [unhide E1', unhide E2', unhide hA], unhide HS⟩
        case measure => simp [intOf]; omega
      · go_wp2
        go_round
        case rel => exact ⟨a / 10, _, by omega, by go_num, by rw [unhide hA], unhide HS⟩
        case measure => simp [intOf]; omega

theorem specDec_zero (w : World) : Calls Tryz.prog 55 #[.int .i64 0] w fun e w' => e = .returned (.string ⟨#[48]⟩) ∧ w = w' := by
  go_enter Tryz.func55, Tryz.ntmps55
  go_wp2
  go_ret
  exact ⟨rfl, rfl⟩

/-- The decimal text of every number. -/
theorem specDec (n : Int) (w : World) (h0 : -9223372036854775808 ≤ n) (h1 : n ≤ 9223372036854775807) : Calls Tryz.prog 55 #[.int .i64 n] w fun e w' => e = .returned (.string ⟨(itoa n).toArray⟩) ∧ w = w' := by
  rcases Int.lt_trichotomy n 0 with h | h | h
  · obtain ⟨k, hk⟩ : ∃ k : Nat, n = -(k : Int) := ⟨n.natAbs, by omega⟩
    subst hk
    have e : itoa (-(k : Int)) = 45 :: decDigits k := by unfold itoa; rw [if_pos h]; simp
    rw [e]
    exact specDec_neg k w (by omega) (by omega)
  · subst h
    have e : itoa 0 = [48] := by unfold itoa; rw [if_neg (by omega)]; exact Mth.digits_small 0 (by omega)
    rw [e]
    exact specDec_zero w
  · obtain ⟨k, rfl⟩ := Int.eq_ofNat_of_zero_le (show 0 ≤ n by omega)
    have e : itoa (k : Int) = decDigits k := by unfold itoa; rw [if_neg (by omega)]; rfl
    have h' : 0 < k := by omega
    show Calls _ _ #[.int .i64 (k : Int)] w fun e w' => e = .returned (.string ⟨(itoa (k : Int)).toArray⟩) ∧ w = w'
    rw [e]
    exact specDec_pos k w h' h1
end Go.Proofs.YtikdkijggejnfaaGreatDoor
