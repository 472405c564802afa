/-
  The program's messages of a kind: whether they are right, case by case.
-/
import Derived.Test.YtiinpdkgnflmeaaDoorMgMath
namespace Go.Proofs.YtiinpdkgnflmeaaDoor
open Go.RowKit
open Mth
theorem blk_lt {w : World} {g : Nat} {o : Obj} (h : w.heap[g]? = some o) : g < w.heap.size := by
  rcases Nat.lt_or_ge g w.heap.size with h' | h'
  · exact h'
  · rw [Array.getElem?_eq_none h'] at h; cases h
/-- A block stays behind a call that makes memory alone. -/
theorem blk_step {w w' : World} {g : Nat} {o : Obj} (h : w.heap[g]? = some o) (hb : Below w.heap.size w w') : w'.heap[g]? = some o := by
  rw [hb.block g (blk_lt h)]
  exact h
theorem cells3 {w : World} {g : Nat} {a0 a1 a2 : Value} {t : TypeId} (h : w.heap[g]? = some (.cells #[a0, a1, a2] t (0, 0))) :
    w.cell? ⟨g, 0, none⟩ = some a0 ∧ w.cell? ⟨g, 1, none⟩ = some a1 ∧ w.cell? ⟨g, 2, none⟩ = some a2 := by
  have hc : ∀ i, w.cell? ⟨g, i, none⟩ = #[a0, a1, a2][i]? := fun i => cell_of_row w g i _ t (0, 0) h
  exact ⟨hc 0, hc 1, hc 2⟩
theorem cells4 {w : World} {g : Nat} {a0 a1 a2 a3 : Value} {t : TypeId} (h : w.heap[g]? = some (.cells #[a0, a1, a2, a3] t (0, 0))) :
    w.cell? ⟨g, 0, none⟩ = some a0 ∧ w.cell? ⟨g, 1, none⟩ = some a1 ∧ w.cell? ⟨g, 2, none⟩ = some a2 ∧ w.cell? ⟨g, 3, none⟩ = some a3 := by
  have hc : ∀ i, w.cell? ⟨g, i, none⟩ = #[a0, a1, a2, a3][i]? := fun i => cell_of_row w g i _ t (0, 0) h
  exact ⟨hc 0, hc 1, hc 2, hc 3⟩
theorem cells6 {w : World} {g : Nat} {a0 a1 a2 a3 a4 a5 : Value} {t : TypeId} (h : w.heap[g]? = some (.cells #[a0, a1, a2, a3, a4, a5] t (0, 0))) :
    w.cell? ⟨g, 0, none⟩ = some a0 ∧ w.cell? ⟨g, 1, none⟩ = some a1 ∧ w.cell? ⟨g, 2, none⟩ = some a2 ∧ w.cell? ⟨g, 3, none⟩ = some a3 ∧ w.cell? ⟨g, 4, none⟩ = some a4 ∧ w.cell? ⟨g, 5, none⟩ = some a5 := by
  have hc : ∀ i, w.cell? ⟨g, i, none⟩ = #[a0, a1, a2, a3, a4, a5][i]? := fun i => cell_of_row w g i _ t (0, 0) h
  exact ⟨hc 0, hc 1, hc 2, hc 3, hc 4, hc 5⟩
theorem cells7 {w : World} {g : Nat} {a0 a1 a2 a3 a4 a5 a6 : Value} {t : TypeId} (h : w.heap[g]? = some (.cells #[a0, a1, a2, a3, a4, a5, a6] t (0, 0))) :
    w.cell? ⟨g, 0, none⟩ = some a0 ∧ w.cell? ⟨g, 1, none⟩ = some a1 ∧ w.cell? ⟨g, 2, none⟩ = some a2 ∧ w.cell? ⟨g, 3, none⟩ = some a3 ∧ w.cell? ⟨g, 4, none⟩ = some a4 ∧ w.cell? ⟨g, 5, none⟩ = some a5 ∧ w.cell? ⟨g, 6, none⟩ = some a6 := by
  have hc : ∀ i, w.cell? ⟨g, i, none⟩ = #[a0, a1, a2, a3, a4, a5, a6][i]? := fun i => cell_of_row w g i _ t (0, 0) h
  exact ⟨hc 0, hc 1, hc 2, hc 3, hc 4, hc 5, hc 6⟩

set_option maxRecDepth 100000 in
set_option maxHeartbeats 2000000 in
theorem routeOk (F T : Int) (r : Bool) (w : World) (h : rtB F T = r) : Calls Tryd.prog 128 #[.agg #[.int .i64 F, .int .i64 T]] w fun e w' => e = .returned (.bool r) ∧ Below w.heap.size w w' := by
  subst h
  cases h1 : ndB F
  case' false =>
    have HP := hide (show rtB F T = false by simp [rtB, h1])
    have H1 := hide (fun w1 => isNode F false w1 h1)
    clear h1
    go_enter Tryd.func128, Tryd.ntmps128
    go_wp2_with (first | (go_at_call_of 129 F; refine (unhide H1 _).mono ?_; rintro e w1 ⟨rfl, rfl⟩))
    go_ret
    exact ⟨ret_bool (unhide HP).symm, below_one w _⟩
  have H1 := hide (fun w1 => isNode F true w1 h1)
  cases h2 : ndB T
  case' false =>
    have HP := hide (show rtB F T = false by simp [rtB, h2])
    have H2 := hide (fun w1 => isNode T false w1 h2)
    clear h1 h2
    go_enter Tryd.func128, Tryd.ntmps128
    go_wp2_with (first | (go_at_call_of 129 F; refine (unhide H1 _).mono ?_; rintro e w1 ⟨rfl, rfl⟩) | (go_at_call_of 129 T; refine (unhide H2 _).mono ?_; rintro e w1 ⟨rfl, rfl⟩))
    go_ret
    exact ⟨ret_bool (unhide HP).symm, below_one w _⟩
  have H2 := hide (fun w1 => isNode T true w1 h2)
  by_cases hft : F = T
  case' pos =>
    have HP := hide (show rtB F T = false by simp [rtB, hft])
    clear h1 h2
    subst hft
    go_enter Tryd.func128, Tryd.ntmps128
    go_wp2_with (first | (go_at_call_of 129 F; refine (unhide H1 _).mono ?_; rintro e w1 ⟨rfl, rfl⟩))
    go_ret
    exact ⟨ret_bool (unhide HP).symm, below_one w _⟩
  have HP := hide (show rtB F T = true by simp [rtB, h1, h2, hft])
  have he : (F != T) = true := by simp [hft]
  clear h1 h2
  go_enter Tryd.func128, Tryd.ntmps128
  go_wp2_with (first | (go_at_call_of 129 F; refine (unhide H1 _).mono ?_; rintro e w1 ⟨rfl, rfl⟩) | (go_at_call_of 129 T; refine (unhide H2 _).mono ?_; rintro e w1 ⟨rfl, rfl⟩))
  go_ret
  exact ⟨ret_bool (by first | exact (unhide HP).symm | exact he.trans (unhide HP).symm), below_one w _⟩

set_option maxRecDepth 100000 in
set_option maxHeartbeats 2000000 in
theorem wantOk (F T : Int) (k : ByteArray) (N : Int) (r : Bool) (w : World) (h : (rtB F T && keyOk k.data.toList && smB N) = r) : Calls Tryd.prog 130 #[.agg #[.int .i64 F, .int .i64 T, .string k, .int .i64 N]] w fun e w' => e = .returned (.bool r) ∧ Below w.heap.size w w' := by
  have HQ := hide h
  clear h
  cases hr : rtB F T
  case' false =>
    have HP := hide (show (rtB F T && keyOk k.data.toList && smB N) = false by simp [hr])
    have HR := hide (fun w1 => routeOk F T false w1 hr)
    clear hr
    go_enter Tryd.func130, Tryd.ntmps130
    go_wp2_with (first | (go_at_call 128; refine (unhide HR _).mono ?_; rintro e w2 ⟨rfl, hb2⟩; have hA := blk_step (heap_alloc_new w _) hb2; have hB := (below_one w _).trans (hb2.mono (by simp)); obtain ⟨c0, c1, c2, c3⟩ := cells4 hA; have hz := blk_lt hA; clear hA hb2))
    go_ret
    exact ⟨ret_bool ((unhide HP).symm.trans (unhide HQ)), hB⟩
  have HR := hide (fun w1 => routeOk F T true w1 hr)
  cases hc0 : keyOk k.data.toList
  case' false =>
    have HP := hide (show (rtB F T && keyOk k.data.toList && smB N) = false by simp [hr, hc0])
    have HC0 := hide (fun w1 => implKeyR k false w1 hc0)
    clear hr hc0
    go_enter Tryd.func130, Tryd.ntmps130
    go_wp2_with (first | (go_at_call 128; refine (unhide HR _).mono ?_; rintro e w2 ⟨rfl, hb2⟩; have hA := blk_step (heap_alloc_new w _) hb2; have hB := (below_one w _).trans (hb2.mono (by simp)); obtain ⟨c0, c1, c2, c3⟩ := cells4 hA; have hz := blk_lt hA; clear hA hb2) | (go_at_call_of 66 k; refine (unhide HC0 _).mono ?_; rintro e w1 ⟨rfl, rfl⟩))
    go_ret
    exact ⟨ret_bool ((unhide HP).symm.trans (unhide HQ)), hB⟩
  have HC0 := hide (fun w1 => implKeyR k true w1 hc0)
  cases hc1 : smB N
  case' false =>
    have HP := hide (show (rtB F T && keyOk k.data.toList && smB N) = false by simp [hr, hc0, hc1])
    have HC1 := hide (fun w1 => isSomeAmount N false w1 hc1)
    clear hr hc0 hc1
    go_enter Tryd.func130, Tryd.ntmps130
    go_wp2_with (first | (go_at_call 128; refine (unhide HR _).mono ?_; rintro e w2 ⟨rfl, hb2⟩; have hA := blk_step (heap_alloc_new w _) hb2; have hB := (below_one w _).trans (hb2.mono (by simp)); obtain ⟨c0, c1, c2, c3⟩ := cells4 hA; have hz := blk_lt hA; clear hA hb2) | (go_at_call_of 66 k; refine (unhide HC0 _).mono ?_; rintro e w1 ⟨rfl, rfl⟩) | (go_at_call_of 65 N; refine (unhide HC1 _).mono ?_; rintro e w1 ⟨rfl, rfl⟩))
    go_ret
    exact ⟨ret_bool ((unhide HP).symm.trans (unhide HQ)), hB⟩
  have HC1 := hide (fun w1 => isSomeAmount N true w1 hc1)
  have HP := hide (show (rtB F T && keyOk k.data.toList && smB N) = true by simp [hr, hc0, hc1])
  clear hr hc0 hc1
  go_enter Tryd.func130, Tryd.ntmps130
  go_wp2_with (first | (go_at_call 128; refine (unhide HR _).mono ?_; rintro e w2 ⟨rfl, hb2⟩; have hA := blk_step (heap_alloc_new w _) hb2; have hB := (below_one w _).trans (hb2.mono (by simp)); obtain ⟨c0, c1, c2, c3⟩ := cells4 hA; have hz := blk_lt hA; clear hA hb2) | (go_at_call_of 66 k; refine (unhide HC0 _).mono ?_; rintro e w1 ⟨rfl, rfl⟩) | (go_at_call_of 65 N; refine (unhide HC1 _).mono ?_; rintro e w1 ⟨rfl, rfl⟩))
  go_ret
  exact ⟨ret_bool ((unhide HP).symm.trans (unhide HQ)), hB⟩

set_option maxRecDepth 100000 in
set_option maxHeartbeats 2000000 in
theorem payOk (F T I L : Int) (k : ByteArray) (N : Int) (r : Bool) (w : World) (h : (rtB F T && smB I && decide (1 ≤ L) && decide (L ≤ I) && keyOk k.data.toList && smB N) = r) : Calls Tryd.prog 131 #[.agg #[.int .i64 F, .int .i64 T, .int .i64 I, .int .i64 L, .string k, .int .i64 N]] w fun e w' => e = .returned (.bool r) ∧ Below w.heap.size w w' := by
  have HQ := hide h
  clear h
  cases hr : rtB F T
  case' false =>
    have HP := hide (show (rtB F T && smB I && decide (1 ≤ L) && decide (L ≤ I) && keyOk k.data.toList && smB N) = false by simp [hr])
    have HR := hide (fun w1 => routeOk F T false w1 hr)
    clear hr
    go_enter Tryd.func131, Tryd.ntmps131
    go_wp2_with (first | (go_at_call 128; refine (unhide HR _).mono ?_; rintro e w2 ⟨rfl, hb2⟩; have hA := blk_step (heap_alloc_new w _) hb2; have hB := (below_one w _).trans (hb2.mono (by simp)); obtain ⟨c0, c1, c2, c3, c4, c5⟩ := cells6 hA; have hz := blk_lt hA; clear hA hb2))
    go_ret
    exact ⟨ret_bool ((unhide HP).symm.trans (unhide HQ)), hB⟩
  have HR := hide (fun w1 => routeOk F T true w1 hr)
  cases hc0 : smB I
  case' false =>
    have HP := hide (show (rtB F T && smB I && decide (1 ≤ L) && decide (L ≤ I) && keyOk k.data.toList && smB N) = false by simp [hr, hc0])
    have HC0 := hide (fun w1 => isSomeAmount I false w1 hc0)
    clear hr hc0
    go_enter Tryd.func131, Tryd.ntmps131
    go_wp2_with (first | (go_at_call 128; refine (unhide HR _).mono ?_; rintro e w2 ⟨rfl, hb2⟩; have hA := blk_step (heap_alloc_new w _) hb2; have hB := (below_one w _).trans (hb2.mono (by simp)); obtain ⟨c0, c1, c2, c3, c4, c5⟩ := cells6 hA; have hz := blk_lt hA; clear hA hb2) | (go_at_call_of 65 I; refine (unhide HC0 _).mono ?_; rintro e w1 ⟨rfl, rfl⟩))
    go_ret
    exact ⟨ret_bool ((unhide HP).symm.trans (unhide HQ)), hB⟩
  have HC0 := hide (fun w1 => isSomeAmount I true w1 hc0)
  by_cases hd1 : 1 ≤ L
  case' neg =>
    have HP := hide (show (rtB F T && smB I && decide (1 ≤ L) && decide (L ≤ I) && keyOk k.data.toList && smB N) = false by simp [hr, hc0, hd1])
    clear hr hc0
    go_enter Tryd.func131, Tryd.ntmps131
    go_wp2_with (first | (go_at_call 128; refine (unhide HR _).mono ?_; rintro e w2 ⟨rfl, hb2⟩; have hA := blk_step (heap_alloc_new w _) hb2; have hB := (below_one w _).trans (hb2.mono (by simp)); obtain ⟨c0, c1, c2, c3, c4, c5⟩ := cells6 hA; have hz := blk_lt hA; clear hA hb2) | (go_at_call_of 65 I; refine (unhide HC0 _).mono ?_; rintro e w1 ⟨rfl, rfl⟩))
    go_ret
    exact ⟨ret_bool ((unhide HP).symm.trans (unhide HQ)), hB⟩
  by_cases hd2 : L ≤ I
  case' neg =>
    have HP := hide (show (rtB F T && smB I && decide (1 ≤ L) && decide (L ≤ I) && keyOk k.data.toList && smB N) = false by simp [hr, hc0, hd1, hd2])
    clear hr hc0
    go_enter Tryd.func131, Tryd.ntmps131
    go_wp2_with (first | (go_at_call 128; refine (unhide HR _).mono ?_; rintro e w2 ⟨rfl, hb2⟩; have hA := blk_step (heap_alloc_new w _) hb2; have hB := (below_one w _).trans (hb2.mono (by simp)); obtain ⟨c0, c1, c2, c3, c4, c5⟩ := cells6 hA; have hz := blk_lt hA; clear hA hb2) | (go_at_call_of 65 I; refine (unhide HC0 _).mono ?_; rintro e w1 ⟨rfl, rfl⟩))
    go_ret
    exact ⟨ret_bool ((unhide HP).symm.trans (unhide HQ)), hB⟩
  cases hc1 : keyOk k.data.toList
  case' false =>
    have HP := hide (show (rtB F T && smB I && decide (1 ≤ L) && decide (L ≤ I) && keyOk k.data.toList && smB N) = false by simp [hr, hc0, hd1, hd2, hc1])
    have HC1 := hide (fun w1 => implKeyR k false w1 hc1)
    clear hr hc0 hc1
    go_enter Tryd.func131, Tryd.ntmps131
    go_wp2_with (first | (go_at_call 128; refine (unhide HR _).mono ?_; rintro e w2 ⟨rfl, hb2⟩; have hA := blk_step (heap_alloc_new w _) hb2; have hB := (below_one w _).trans (hb2.mono (by simp)); obtain ⟨c0, c1, c2, c3, c4, c5⟩ := cells6 hA; have hz := blk_lt hA; clear hA hb2) | (go_at_call_of 65 I; refine (unhide HC0 _).mono ?_; rintro e w1 ⟨rfl, rfl⟩) | (go_at_call_of 66 k; refine (unhide HC1 _).mono ?_; rintro e w1 ⟨rfl, rfl⟩))
    go_ret
    exact ⟨ret_bool ((unhide HP).symm.trans (unhide HQ)), hB⟩
  have HC1 := hide (fun w1 => implKeyR k true w1 hc1)
  cases hc2 : smB N
  case' false =>
    have HP := hide (show (rtB F T && smB I && decide (1 ≤ L) && decide (L ≤ I) && keyOk k.data.toList && smB N) = false by simp [hr, hc0, hd1, hd2, hc1, hc2])
    have HC2 := hide (fun w1 => isSomeAmount N false w1 hc2)
    clear hr hc0 hc1 hc2
    go_enter Tryd.func131, Tryd.ntmps131
    go_wp2_with (first | (go_at_call 128; refine (unhide HR _).mono ?_; rintro e w2 ⟨rfl, hb2⟩; have hA := blk_step (heap_alloc_new w _) hb2; have hB := (below_one w _).trans (hb2.mono (by simp)); obtain ⟨c0, c1, c2, c3, c4, c5⟩ := cells6 hA; have hz := blk_lt hA; clear hA hb2) | (go_at_call_of 65 I; refine (unhide HC0 _).mono ?_; rintro e w1 ⟨rfl, rfl⟩) | (go_at_call_of 66 k; refine (unhide HC1 _).mono ?_; rintro e w1 ⟨rfl, rfl⟩) | (go_at_call_of 65 N; refine (unhide HC2 _).mono ?_; rintro e w1 ⟨rfl, rfl⟩))
    go_ret
    exact ⟨ret_bool ((unhide HP).symm.trans (unhide HQ)), hB⟩
  have HC2 := hide (fun w1 => isSomeAmount N true w1 hc2)
  have HP := hide (show (rtB F T && smB I && decide (1 ≤ L) && decide (L ≤ I) && keyOk k.data.toList && smB N) = true by simp [hr, hc0, hd1, hd2, hc1, hc2])
  clear hr hc0 hc1 hc2
  go_enter Tryd.func131, Tryd.ntmps131
  go_wp2_with (first | (go_at_call 128; refine (unhide HR _).mono ?_; rintro e w2 ⟨rfl, hb2⟩; have hA := blk_step (heap_alloc_new w _) hb2; have hB := (below_one w _).trans (hb2.mono (by simp)); obtain ⟨c0, c1, c2, c3, c4, c5⟩ := cells6 hA; have hz := blk_lt hA; clear hA hb2) | (go_at_call_of 65 I; refine (unhide HC0 _).mono ?_; rintro e w1 ⟨rfl, rfl⟩) | (go_at_call_of 66 k; refine (unhide HC1 _).mono ?_; rintro e w1 ⟨rfl, rfl⟩) | (go_at_call_of 65 N; refine (unhide HC2 _).mono ?_; rintro e w1 ⟨rfl, rfl⟩))
  go_ret
  exact ⟨ret_bool ((unhide HP).symm.trans (unhide HQ)), hB⟩

set_option maxRecDepth 100000 in
set_option maxHeartbeats 2000000 in
theorem ackOk (F T I : Int) (r : Bool) (w : World) (h : (rtB F T && smB I) = r) : Calls Tryd.prog 132 #[.agg #[.int .i64 F, .int .i64 T, .int .i64 I]] w fun e w' => e = .returned (.bool r) ∧ Below w.heap.size w w' := by
  have HQ := hide h
  clear h
  cases hr : rtB F T
  case' false =>
    have HP := hide (show (rtB F T && smB I) = false by simp [hr])
    have HR := hide (fun w1 => routeOk F T false w1 hr)
    clear hr
    go_enter Tryd.func132, Tryd.ntmps132
    go_wp2_with (first | (go_at_call 128; refine (unhide HR _).mono ?_; rintro e w2 ⟨rfl, hb2⟩; have hA := blk_step (heap_alloc_new w _) hb2; have hB := (below_one w _).trans (hb2.mono (by simp)); obtain ⟨c0, c1, c2⟩ := cells3 hA; have hz := blk_lt hA; clear hA hb2))
    go_ret
    exact ⟨ret_bool ((unhide HP).symm.trans (unhide HQ)), hB⟩
  have HR := hide (fun w1 => routeOk F T true w1 hr)
  cases hc0 : smB I
  case' false =>
    have HP := hide (show (rtB F T && smB I) = false by simp [hr, hc0])
    have HC0 := hide (fun w1 => isSomeAmount I false w1 hc0)
    clear hr hc0
    go_enter Tryd.func132, Tryd.ntmps132
    go_wp2_with (first | (go_at_call 128; refine (unhide HR _).mono ?_; rintro e w2 ⟨rfl, hb2⟩; have hA := blk_step (heap_alloc_new w _) hb2; have hB := (below_one w _).trans (hb2.mono (by simp)); obtain ⟨c0, c1, c2⟩ := cells3 hA; have hz := blk_lt hA; clear hA hb2) | (go_at_call_of 65 I; refine (unhide HC0 _).mono ?_; rintro e w1 ⟨rfl, rfl⟩))
    go_ret
    exact ⟨ret_bool ((unhide HP).symm.trans (unhide HQ)), hB⟩
  have HC0 := hide (fun w1 => isSomeAmount I true w1 hc0)
  have HP := hide (show (rtB F T && smB I) = true by simp [hr, hc0])
  clear hr hc0
  go_enter Tryd.func132, Tryd.ntmps132
  go_wp2_with (first | (go_at_call 128; refine (unhide HR _).mono ?_; rintro e w2 ⟨rfl, hb2⟩; have hA := blk_step (heap_alloc_new w _) hb2; have hB := (below_one w _).trans (hb2.mono (by simp)); obtain ⟨c0, c1, c2⟩ := cells3 hA; have hz := blk_lt hA; clear hA hb2) | (go_at_call_of 65 I; refine (unhide HC0 _).mono ?_; rintro e w1 ⟨rfl, rfl⟩))
  go_ret
  exact ⟨ret_bool ((unhide HP).symm.trans (unhide HQ)), hB⟩

end Go.Proofs.YtiinpdkgnflmeaaDoor
