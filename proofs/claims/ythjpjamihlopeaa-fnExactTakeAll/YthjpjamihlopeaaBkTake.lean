/-
  What the program's Take comes to, in plain numbers.
-/
import Derived.Test.YthjpjamihlopeaaBkLaws
import Derived.Deep.DeepCutAuto
namespace Go.Proofs.Ythjpjamihlopeaa
open Go.RowKit
open Mth

/-- The world under another name, with what is known of it. -/
theorem wp_at {P : Program} {c : Code} {Q : Exit → Act → World → Prop} {a : Act} {W : World} (h : ∀ W', W' = W → Code.wp P c Q a W') : Code.wp P c Q a W := h W rfl
theorem six_other {w : World} {g g' : Nat} {b0 b1 b2 b3 b4 b5 : Value} {o : Option Obj} (h : w.heap[g']? = o) (hne : g' ≠ g) :
    ((((((w.setCell ⟨g, 0, none⟩ b0).setCell ⟨g, 1, none⟩ b1).setCell ⟨g, 2, none⟩ b2).setCell ⟨g, 3, none⟩ b3).setCell ⟨g, 4, none⟩ b4).setCell ⟨g, 5, none⟩ b5).heap[g']? = o := by
  rw [Below.heap_setCell _ _ _ _ hne, Below.heap_setCell _ _ _ _ hne, Below.heap_setCell _ _ _ _ hne, Below.heap_setCell _ _ _ _ hne, Below.heap_setCell _ _ _ _ hne, Below.heap_setCell _ _ _ _ hne, h]
theorem one_other {w : World} {g g' i : Nat} {v : Value} {o : Option Obj} (h : w.heap[g']? = o) (hne : g' ≠ g) : (w.setCell ⟨g, i, none⟩ v).heap[g']? = o := by
  rw [Below.heap_setCell _ _ _ _ hne, h]

/-- A bucket that is filled is right, and told at that tick. -/
theorem Mth.fill_ok {b : Bk} {n : Int} (h : b.Can n) : (b.fill n).Ok ∧ (b.fill n).L = n := by
  have h2 := parts_bound h
  have h3 := div_bound (b.parts n) b.P h2.1 h.1.2.2.2.2.1
  obtain ⟨ho, h4, h5⟩ := h
  unfold Bk.Ok at ho
  unfold Bk.fill
  split
  · refine ⟨?_, rfl⟩
    unfold Bk.Ok
    dsimp only
    omega
  · refine ⟨?_, rfl⟩
    unfold Bk.Ok
    dsimp only
    omega

set_option maxRecDepth 100000 in
set_option maxHeartbeats 2000000 in
theorem implTake_no (b : Bk) (n m : Int) (w : World) (hc : ¬ (b.Can n ∧ Am m)) : Calls Try.prog 21 #[bkv b, .int .i64 n, .int .i64 m] w fun e w' => e = .returned (.tuple #[bkv b, .bool false]) ∧ Below w.heap.size w w' := by
  have HC := hide hc
  clear hc
  obtain ⟨S, R, P, H, T, L⟩ := b
  by_cases h1 : Bk.Can ⟨S, R, P, H, T, L⟩ n
  · have g1 : decide (Bk.Can ⟨S, R, P, H, T, L⟩ n) = true := decide_eq_true h1
    have g2 : decide (Am m) = false := decide_eq_false (fun h => unhide HC ⟨h1, h⟩)
    clear h1
    go_enter Try.func21, Try.ntmps21
    go_wp2_with fail
    refine (canBeAt ⟨S, R, P, H, T, L⟩ n _).mono ?_
    rintro e w1 ⟨rfl, hb1⟩
    obtain ⟨hA, hB, hz, hbw⟩ := two_blocks hb1
    obtain ⟨⟨c0, c1, c2, c3, c4, c5⟩, _⟩ := six_at hA
    obtain ⟨⟨d0, d1, d2, d3, d4, d5⟩, f0, f1, f2, f3, f4, f5⟩ := six_at hB
    have hB2 := hide hB
    clear hb1 hA hB
    go_wp2_with (go_at_call 46; refine (isAmount _ _).mono ?_; rintro e w2 ⟨rfl, rfl⟩)
    refine bodyPost_at (fun W' hW' => ?_)
    obtain ⟨⟨r0, r1, r2, r3, r4, r5⟩, _⟩ := six_at (show W'.heap[w.heap.size + 1]? = some (.cells #[.int .i64 S, .int .i64 R, .int .i64 P, .int .i64 H, .int .i64 T, .int .i64 L] 25 (0, 0)) by rw [hW']; exact six_set (unhide hB2))
    have hbb : Below w.heap.size w W' := by rw [hW']; exact six_below hbw (by omega)
    refine bodyPost_ret (v := .tuple #[.agg #[.int .i64 S, .int .i64 R, .int .i64 P, .int .i64 H, .int .i64 T, .int .i64 L], .bool false]) (by simp [results, Try.results21, go_sem, r0, r1, r2, r3, r4, r5]) rfl ⟨rfl, hbb⟩
  · have g1 : decide (Bk.Can ⟨S, R, P, H, T, L⟩ n) = false := decide_eq_false h1
    clear h1
    go_enter Try.func21, Try.ntmps21
    go_wp2_with fail
    refine (canBeAt ⟨S, R, P, H, T, L⟩ n _).mono ?_
    rintro e w1 ⟨rfl, hb1⟩
    obtain ⟨hA, hB, hz, hbw⟩ := two_blocks hb1
    obtain ⟨⟨c0, c1, c2, c3, c4, c5⟩, _⟩ := six_at hA
    obtain ⟨⟨d0, d1, d2, d3, d4, d5⟩, f0, f1, f2, f3, f4, f5⟩ := six_at hB
    have hB2 := hide hB
    clear hb1 hA hB
    go_wp2_with (go_at_call 46; refine (isAmount _ _).mono ?_; rintro e w2 ⟨rfl, rfl⟩)
    refine bodyPost_at (fun W' hW' => ?_)
    obtain ⟨⟨r0, r1, r2, r3, r4, r5⟩, _⟩ := six_at (show W'.heap[w.heap.size + 1]? = some (.cells #[.int .i64 S, .int .i64 R, .int .i64 P, .int .i64 H, .int .i64 T, .int .i64 L] 25 (0, 0)) by rw [hW']; exact six_set (unhide hB2))
    have hbb : Below w.heap.size w W' := by rw [hW']; exact six_below hbw (by omega)
    refine bodyPost_ret (v := .tuple #[.agg #[.int .i64 S, .int .i64 R, .int .i64 P, .int .i64 H, .int .i64 T, .int .i64 L], .bool false]) (by simp [results, Try.results21, go_sem, r0, r1, r2, r3, r4, r5]) rfl ⟨rfl, hbb⟩

set_option maxRecDepth 100000 in
set_option maxHeartbeats 2000000 in
theorem implTake_yes (b : Bk) (n m : Int) (w : World) (hc : b.Can n) (hm : Am m) : Calls Try.prog 21 #[bkv b, .int .i64 n, .int .i64 m] w fun e w' => e = .returned (.tuple #[bkv ((b.fill n).taken m).1, .bool ((b.fill n).taken m).2]) ∧ Below w.heap.size w w' := by
  have g1 : decide (b.Can n) = true := decide_eq_true hc
  have g2 : decide (Am m) = true := decide_eq_true hm
  have HF := hide (fun w1 => filled b n w1 hc)
  have ho := (Mth.fill_ok hc).1
  unfold Am at hm
  clear hc
  generalize b.fill n = b' at *
  obtain ⟨S, R, P, H, T, L⟩ := b
  obtain ⟨S', R', P', H', T', L'⟩ := b'
  unfold Bk.Ok at ho
  dsimp only at ho
  by_cases hlt : H' < m
  · rw [show Bk.taken ⟨S', R', P', H', T', L'⟩ m = (⟨S', R', P', H', T', L'⟩, false) from if_pos hlt]
    go_enter Try.func21, Try.ntmps21
    go_wp2_with fail
    refine (canBeAt ⟨S, R, P, H, T, L⟩ n _).mono ?_
    rintro e w1 ⟨rfl, hb1⟩
    obtain ⟨hA, hB, hz, hbw⟩ := two_blocks hb1
    obtain ⟨⟨c0, c1, c2, c3, c4, c5⟩, _⟩ := six_at hA
    clear hb1
    go_wp2_with fail
    refine (isAmount _ _).mono ?_
    rintro e w2 ⟨rfl, rfl⟩
    go_wp2_with fail
    refine (unhide HF _).mono ?_
    rintro e w2 ⟨rfl, hb2⟩
    clear c0 c1 c2 c3 c4 c5
    have hA2 := hide (blk_step hA hb2)
    have hB2 := hide (blk_step hB hb2)
    obtain ⟨⟨c0, c1, c2, c3, c4, c5⟩, k0, k1, k2, k3, k4, k5⟩ := six_at (unhide hA2)
    obtain ⟨⟨d0, d1, d2, d3, d4, d5⟩, f0, f1, f2, f3, f4, f5⟩ := six_at (unhide hB2)
    have hbw2 := hbw.trans (hb2.mono hbw.size)
    clear hb2 hA hB hbw
    go_upto_region 4 with fail
    refine wp_at (fun W3 hW3 => ?_)
    have hA3 : W3.heap[w.heap.size]? = some (.cells #[.int .i64 S', .int .i64 R', .int .i64 P', .int .i64 H', .int .i64 T', .int .i64 L'] 25 (0, 0)) := by rw [hW3]; exact six_set (unhide hA2)
    have hB3 := hide (show W3.heap[w.heap.size + 1]? = some (.cells #[.int .i64 0, .int .i64 0, .int .i64 0, .int .i64 0, .int .i64 0, .int .i64 0] 25 (0, 0)) by rw [hW3]; exact six_other (unhide hB2) (by omega))
    have hbw3 : Below w.heap.size w W3 := by rw [hW3]; exact six_below hbw2 (Nat.le_refl _)
    clear c0 c1 c2 c3 c4 c5 k0 k1 k2 k3 k4 k5 d0 d1 d2 d3 d4 d5 f0 f1 f2 f3 f4 f5 hA2 hB2 hbw2 hW3
    obtain ⟨⟨c0, c1, c2, c3, c4, c5⟩, k0, k1, k2, k3, k4, k5⟩ := six_at hA3
    obtain ⟨⟨d0, d1, d2, d3, d4, d5⟩, f0, f1, f2, f3, f4, f5⟩ := six_at (unhide hB3)
    clear hA3
    go_wp2_with fail
    refine bodyPost_at (fun W' hW' => ?_)
    obtain ⟨⟨r0, r1, r2, r3, r4, r5⟩, _⟩ := six_at (show W'.heap[w.heap.size + 1]? = some (.cells #[.int .i64 S', .int .i64 R', .int .i64 P', .int .i64 H', .int .i64 T', .int .i64 L'] 25 (0, 0)) by rw [hW']; exact six_set (unhide hB3))
    have hbb : Below w.heap.size w W' := by rw [hW']; exact six_below hbw3 (by omega)
    refine bodyPost_ret (v := .tuple #[.agg #[.int .i64 S', .int .i64 R', .int .i64 P', .int .i64 H', .int .i64 T', .int .i64 L'], .bool false]) (by simp [results, Try.results21, go_sem, r0, r1, r2, r3, r4, r5]) rfl ⟨rfl, hbb⟩
  · rw [show Bk.taken ⟨S', R', P', H', T', L'⟩ m = (⟨S', R', P', H' - m, T', L'⟩, true) from if_neg hlt]
    go_enter Try.func21, Try.ntmps21
    go_wp2_with fail
    refine (canBeAt ⟨S, R, P, H, T, L⟩ n _).mono ?_
    rintro e w1 ⟨rfl, hb1⟩
    obtain ⟨hA, hB, hz, hbw⟩ := two_blocks hb1
    obtain ⟨⟨c0, c1, c2, c3, c4, c5⟩, _⟩ := six_at hA
    clear hb1
    go_wp2_with fail
    refine (isAmount _ _).mono ?_
    rintro e w2 ⟨rfl, rfl⟩
    go_wp2_with fail
    refine (unhide HF _).mono ?_
    rintro e w2 ⟨rfl, hb2⟩
    clear c0 c1 c2 c3 c4 c5
    have hA2 := hide (blk_step hA hb2)
    have hB2 := hide (blk_step hB hb2)
    obtain ⟨⟨c0, c1, c2, c3, c4, c5⟩, k0, k1, k2, k3, k4, k5⟩ := six_at (unhide hA2)
    obtain ⟨⟨d0, d1, d2, d3, d4, d5⟩, f0, f1, f2, f3, f4, f5⟩ := six_at (unhide hB2)
    have hbw2 := hbw.trans (hb2.mono hbw.size)
    clear hb2 hA hB hbw
    go_upto_region 4 with fail
    refine wp_at (fun W3 hW3 => ?_)
    have hA3 : W3.heap[w.heap.size]? = some (.cells #[.int .i64 S', .int .i64 R', .int .i64 P', .int .i64 H', .int .i64 T', .int .i64 L'] 25 (0, 0)) := by rw [hW3]; exact six_set (unhide hA2)
    have hB3 := hide (show W3.heap[w.heap.size + 1]? = some (.cells #[.int .i64 0, .int .i64 0, .int .i64 0, .int .i64 0, .int .i64 0, .int .i64 0] 25 (0, 0)) by rw [hW3]; exact six_other (unhide hB2) (by omega))
    have hbw3 : Below w.heap.size w W3 := by rw [hW3]; exact six_below hbw2 (Nat.le_refl _)
    clear c0 c1 c2 c3 c4 c5 k0 k1 k2 k3 k4 k5 d0 d1 d2 d3 d4 d5 f0 f1 f2 f3 f4 f5 hA2 hB2 hbw2 hW3
    obtain ⟨⟨c0, c1, c2, c3, c4, c5⟩, k0, k1, k2, k3, k4, k5⟩ := six_at hA3
    obtain ⟨⟨d0, d1, d2, d3, d4, d5⟩, f0, f1, f2, f3, f4, f5⟩ := six_at (unhide hB3)
    clear hA3
    go_wp2_with fail
    refine bodyPost_at (fun W' hW' => ?_)
    obtain ⟨⟨r0, r1, r2, r3, r4, r5⟩, _⟩ := six_at (show W'.heap[w.heap.size + 1]? = some (.cells #[.int .i64 S', .int .i64 R', .int .i64 P', .int .i64 (H' - m), .int .i64 T', .int .i64 L'] 25 (0, 0)) by rw [hW']; exact six_set (one_other (unhide hB3) (by omega)))
    have hbb : Below w.heap.size w W' := by rw [hW']; exact six_below (hbw3.setCell (p := ⟨w.heap.size, 3, none⟩) (Nat.le_refl _) _) (by omega)
    refine bodyPost_ret (v := .tuple #[.agg #[.int .i64 S', .int .i64 R', .int .i64 P', .int .i64 (H' - m), .int .i64 T', .int .i64 L'], .bool true]) (by simp [results, Try.results21, go_sem, r0, r1, r2, r3, r4, r5]) rfl ⟨rfl, hbb⟩

theorem implTake (b : Bk) (n m : Int) (w : World) : Calls Try.prog 21 #[bkv b, .int .i64 n, .int .i64 m] w fun e w' => e = .returned (.tuple #[bkv (b.take n m).1, .bool (b.take n m).2]) ∧ Below w.heap.size w w' := by
  by_cases h : b.Can n ∧ Am m
  · rw [show b.take n m = (b.fill n).taken m from if_pos h]
    exact implTake_yes b n m w h.1 h.2
  · rw [show b.take n m = (b, false) from if_neg h]
    exact implTake_no b n m w h
end Go.Proofs.Ythjpjamihlopeaa
