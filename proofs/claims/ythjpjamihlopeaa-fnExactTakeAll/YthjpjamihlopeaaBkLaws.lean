/-
  The laws' own helpers on buckets, and the laws FnExactBucketOk and FnExactFill: they return true at every bucket.
-/
import Derived.Test.YthjpjamihlopeaaBkFill
import Derived.Test.YthjpjamihlopeaaBkFillS
namespace Go.Proofs.Ythjpjamihlopeaa
open Go.RowKit
open Mth

theorem implBucketOk (b : Bk) (w : World) : Calls Try.prog 14 #[bkv b] w fun e w' => e = .returned (.bool (decide b.Ok)) ∧ Below w.heap.size w w' := by
  have K0 := hide (kind_zero (b := b))
  have K1 := hide (show b.Ok → kindOf b ≠ 0 by
    intro h
    unfold kindOf
    rw [if_pos h]
    split
    · split <;> omega
    · omega)
  have HK := hide (fun w1 => kind b w1)
  have hk : (kindOf b != 0) = decide b.Ok := by
    by_cases h : b.Ok
    · rw [decide_eq_true h]; have := unhide K1 h; simpa using this
    · rw [decide_eq_false h, unhide K0 h]; rfl
  have Hk := hide hk
  clear hk K0 K1
  generalize kindOf b = k at *
  generalize decide b.Ok = d at *
  obtain ⟨S, R, P, H, T, L⟩ := b
  go_enter Try.func14, Try.ntmps14
  go_wp2_with fail
  refine (unhide HK _).mono ?_
  rintro e w1 ⟨rfl, hb1⟩
  go_wp2
  go_ret
  exact ⟨ret_bool (unhide Hk), (below_one w _).trans (hb1.mono (by simp))⟩

set_option maxRecDepth 100000 in
theorem toBucket (b : Bk) (w : World) : Calls Try.prog 26 #[bkv b] w fun e w' => e = .returned (bkv b) ∧ Below w.heap.size w w' := by
  obtain ⟨S, R, P, H, T, L⟩ := b
  go_enter Try.func26, Try.ntmps26
  go_wp2_with fail
  refine bodyPost_ret (v := .agg #[.int .i64 S, .int .i64 R, .int .i64 P, .int .i64 H, .int .i64 T, .int .i64 L]) (by simp [results, Try.results26, go_sem]) rfl ⟨rfl, ?_⟩
  exact (((Below.refl _ _).alloc (Nat.le_refl _) _).alloc (by simp) _).alloc (by simp; omega) _

set_option maxRecDepth 100000 in
theorem eqBucket (b : Bk) (w : World) : Calls Try.prog 27 #[bkv b, bkv b] w fun e w' => e = .returned (.bool true) ∧ Below w.heap.size w w' := by
  obtain ⟨S, R, P, H, T, L⟩ := b
  go_enter Try.func27, Try.ntmps27
  go_wp2_with fail
  go_ret
  exact ⟨rfl, ((Below.refl _ _).alloc (Nat.le_refl _) _).alloc (by simp) _⟩

theorem blk_lt {w : World} {g : Nat} {o : Obj} (h : w.heap[g]? = some o) : g < w.heap.size := by
  rcases Nat.lt_or_ge g w.heap.size with h' | h'
  · exact h'
  · rw [Array.getElem?_eq_none h'] at h; cases h
/-- A block stays behind a call that makes memory alone. -/
theorem blk_step {w w' : World} {g : Nat} {o : Obj} (h : w.heap[g]? = some o) (hb : Below w.heap.size w w') : w'.heap[g]? = some o := by
  rw [hb.block g (blk_lt h)]
  exact h

set_option maxRecDepth 100000 in
set_option maxHeartbeats 1000000 in
theorem fnExactBucketOk_walk (b : Bk) (w : World) : Calls Try.prog 5 #[bkv b] w fun e w' => e = .returned (.bool true) ∧ Below w.heap.size w w' := by
  have HT := hide (fun w1 => toBucket b w1)
  have HI := hide (fun w1 => implBucketOk b w1)
  have HS := hide (fun w1 => specBucketOk b w1)
  generalize decide b.Ok = d at *
  obtain ⟨S, R, P, H, T, L⟩ := b
  go_enter Try.func5, Try.ntmps5
  go_wp2_with fail
  refine (unhide HT _).mono ?_
  rintro e w1 ⟨rfl, hb1⟩
  have hA1 := hide (blk_step (heap_alloc_new w _) hb1)
  have hB1 := (below_one w _).trans (hb1.mono (by simp))
  clear hb1
  go_wp2_with fail
  refine (unhide HS _).mono ?_
  rintro e w2 ⟨rfl, hb2⟩
  have hA2 := hide (blk_step (unhide hA1) hb2)
  have hB2 := hB1.trans (hb2.mono hB1.size)
  obtain ⟨⟨c0, c1, c2, c3, c4, c5⟩, _⟩ := six_at (unhide hA2)
  have hz2 := blk_lt (unhide hA2)
  clear hb2 hB1 hA1
  go_wp2_with fail
  refine (unhide HT _).mono ?_
  rintro e w3 ⟨rfl, hb3⟩
  have hB3 := hB2.trans (hb3.mono hB2.size)
  clear hb3 hB2 hA2 c0 c1 c2 c3 c4 c5
  go_wp2_with fail
  refine (unhide HI _).mono ?_
  rintro e w4 ⟨rfl, hb4⟩
  have hB4 := hB3.trans (hb4.mono hB3.size)
  clear hb4 hB3
  go_wp2
  go_ret
  exact ⟨rfl, hB4⟩

set_option maxRecDepth 100000 in
set_option maxHeartbeats 1000000 in
theorem fnExactFill_walk (b : Bk) (n : Int) (w : World) : Calls Try.prog 6 #[bkv b, .int .i64 n] w fun e w' => e = .returned (.bool true) ∧ Below w.heap.size w w' := by
  have HT := hide (fun w1 => toBucket b w1)
  have HI := hide (fun w1 => implFill b n w1)
  have HS := hide (fun w1 => specFill b n w1)
  generalize b.fillAny n = d at *
  have HE := hide (fun w1 => eqBucket d w1)
  obtain ⟨S, R, P, H, T, L⟩ := b
  obtain ⟨S', R', P', H', T', L'⟩ := d
  go_enter Try.func6, Try.ntmps6
  go_wp2_with fail
  refine (unhide HT _).mono ?_
  rintro e w1 ⟨rfl, hb1⟩
  have hA1 := hide (blk_step (heap_alloc_new w _) hb1)
  have hB1 := (below_one w _).trans (hb1.mono (by simp))
  clear hb1
  go_wp2_with fail
  refine (unhide HS _).mono ?_
  rintro e w2 ⟨rfl, hb2⟩
  have hA2 := hide (blk_step (unhide hA1) hb2)
  have hB2 := hB1.trans (hb2.mono hB1.size)
  obtain ⟨⟨c0, c1, c2, c3, c4, c5⟩, _⟩ := six_at (unhide hA2)
  have hz2 := blk_lt (unhide hA2)
  clear hb2 hB1 hA1
  go_wp2_with fail
  refine (unhide HT _).mono ?_
  rintro e w3 ⟨rfl, hb3⟩
  have hW3 := hide (blk_step (heap_alloc_new w2 _) hb3)
  have hB3 := (hB2.alloc hB2.size _).trans (hb3.mono (by have := hB2.size; simp; omega))
  clear hb3 hB2 hA2 c0 c1 c2 c3 c4 c5
  go_wp2_with fail
  refine (unhide HI _).mono ?_
  rintro e w4 ⟨rfl, hb4⟩
  have hW4 := hide (blk_step (unhide hW3) hb4)
  have hB4 := hB3.trans (hb4.mono hB3.size)
  obtain ⟨⟨c0, c1, c2, c3, c4, c5⟩, _⟩ := six_at (unhide hW4)
  have hz4 := blk_lt (unhide hW4)
  clear hb4 hB3 hW3
  go_wp2_with fail
  refine (unhide HE _).mono ?_
  rintro e w5 ⟨rfl, hb5⟩
  go_wp2
  go_ret
  exact ⟨rfl, (hB4.alloc hB4.size _).trans (hb5.mono (by have := hB4.size; simp; omega))⟩
end Go.Proofs.Ythjpjamihlopeaa
