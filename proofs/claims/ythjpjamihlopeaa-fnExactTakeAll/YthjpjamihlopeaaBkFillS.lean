/-
  What the model's Fill comes to, in plain numbers.
-/
import Derived.Test.YthjpjamihlopeaaBkS
namespace Go.Proofs.Ythjpjamihlopeaa
open Go.RowKit
open Mth

theorem drew_heap (w : World) : w.drew.heap = w.heap := rfl
/-- Three cells of one block written over: another block stays. -/
theorem three_other {w : World} {g g' i j k : Nat} {a b c : Value} {o : Option Obj} (h : w.heap[g']? = o) (hne : g' ≠ g) : (((w.setCell ⟨g, i, none⟩ a).setCell ⟨g, j, none⟩ b).setCell ⟨g, k, none⟩ c).heap[g']? = o := by
  rw [Below.heap_setCell _ _ _ _ hne, Below.heap_setCell _ _ _ _ hne, Below.heap_setCell _ _ _ _ hne, h]
theorem three_below {a w : World} {B g i j k : Nat} {x y z : Value} (h : Below B a w) (hg : B ≤ g) : Below B a (((w.setCell ⟨g, i, none⟩ x).setCell ⟨g, j, none⟩ y).setCell ⟨g, k, none⟩ z) :=
  ((h.setCell (p := ⟨g, i, none⟩) hg x).setCell (p := ⟨g, j, none⟩) hg y).setCell (p := ⟨g, k, none⟩) hg z

set_option maxRecDepth 100000 in
set_option maxHeartbeats 2000000 in
theorem specFill (b : Bk) (n : Int) (w : World) : Calls Try.prog 13 #[bkv b, .int .i64 n] w fun e w' => e = .returned (bkv (b.fillAny n)) ∧ Below w.heap.size w w' := by
  by_cases hc : b.Can n
  · have h1 := rate_bound hc
    have h2 := parts_bound hc
    have h3 := div_bound (b.parts n) b.P h2.1 hc.1.2.2.2.2.1
    have g1 : decide (b.Can n) = true := decide_eq_true hc
    have HF := hide (show b.fillAny n = b.fill n from if_pos hc)
    obtain ⟨S, R, P, H, T, L⟩ := b
    have hF : Hid (Bk.fillAny ⟨S, R, P, H, T, L⟩ n = if S ≤ H + (R * (n - L) + T) / P then ⟨S, R, P, S, 0, n⟩ else ⟨S, R, P, H + (R * (n - L) + T) / P, (R * (n - L) + T) % P, n⟩) := (unhide HF).trans rfl
    clear HF
    unfold Bk.Can Bk.Ok at hc
    unfold Bk.parts at *
    rw [Int.mul_comm] at h1 h2 h3 hF
    dsimp only at *
    have h2' := hide h2
    have h3' := hide h3
    have hc' := hide hc
    clear h2 h3 hc
    go_enter Try.func13, Try.ntmps13
    go_wp2_with fail
    refine (l02Can ⟨S, R, P, H, T, L⟩ n _).mono ?_
    rintro e w1 ⟨rfl, hb1⟩
    obtain ⟨hA, hB, hz, hbw⟩ := two_blocks hb1
    obtain ⟨⟨c0, c1, c2, c3, c4, c5⟩, k0, k1, k2, k3, k4, k5⟩ := six_at hA
    obtain ⟨⟨d0, d1, d2, d3, d4, d5⟩, f0, f1, f2, f3, f4, f5⟩ := six_at hB
    have hB2 := hide hB
    clear hb1 hA hB
    have hc := unhide hc'
    clear hc'
    go_wp2_with fail
    have h2 := unhide h2'
    have h3 := unhide h3'
    clear h2' h3'
    generalize (n - L) * R + T = Y at *
    have hP0 : P ≠ 0 := by omega
    have hdv : Y.tdiv P = Y / P := Int.tdiv_eq_ediv_of_nonneg h2.1
    have hdm : Y.tmod P = Y % P := Int.tmod_eq_emod_of_nonneg h2.1
    by_cases hS : S ≤ H + Y / P
    · have HF := hide ((unhide hF).trans (if_pos hS))
      have hS' : S - H ≤ Y / P := by omega
      clear hF
      go_region
      all_goals
        go_wp2_with fail
        refine bodyPost_at (fun W' hW' => ?_)
        obtain ⟨⟨r0, r1, r2, r3, r4, r5⟩, _⟩ := six_at (show W'.heap[w.heap.size + 1]? = some (.cells #[.int .i64 S, .int .i64 R, .int .i64 P, .int .i64 S, .int .i64 0, .int .i64 n] 25 (0, 0)) by rw [hW', drew_heap]; exact six_set (three_other (unhide hB2) (by omega)))
        have hbb : Below w.heap.size w W' := by rw [hW']; exact (six_below (three_below hbw (Nat.le_refl _)) (by omega)).drew
        refine bodyPost_ret (v := .agg #[.int .i64 S, .int .i64 R, .int .i64 P, .int .i64 S, .int .i64 0, .int .i64 n]) (by simp [results, Try.results13, go_sem, r0, r1, r2, r3, r4, r5]) rfl ⟨by rw [unhide HF], hbb⟩
    · have HF := hide ((unhide hF).trans (if_neg hS))
      have hS' : ¬ S - H ≤ Y / P := by omega
      clear hF
      go_region
      all_goals
        go_wp2_with fail
        go_region
        all_goals
          go_wp2_with fail
          refine bodyPost_at (fun W' hW' => ?_)
          obtain ⟨⟨r0, r1, r2, r3, r4, r5⟩, _⟩ := six_at (show W'.heap[w.heap.size + 1]? = some (.cells #[.int .i64 S, .int .i64 R, .int .i64 P, .int .i64 (H + Y / P), .int .i64 (Y % P), .int .i64 n] 25 (0, 0)) by rw [hW', drew_heap, drew_heap]; exact six_set (three_other (unhide hB2) (by omega)))
          have hbb : Below w.heap.size w W' := by rw [hW']; exact (six_below (three_below hbw (Nat.le_refl _)) (by omega)).drew.drew
          refine bodyPost_ret (v := .agg #[.int .i64 S, .int .i64 R, .int .i64 P, .int .i64 (H + Y / P), .int .i64 (Y % P), .int .i64 n]) (by simp [results, Try.results13, go_sem, r0, r1, r2, r3, r4, r5]) rfl ⟨by rw [unhide HF], hbb⟩
  · have HF := hide (show b.fillAny n = b from if_neg hc)
    have g1 : decide (b.Can n) = false := decide_eq_false hc
    clear hc
    obtain ⟨S, R, P, H, T, L⟩ := b
    go_enter Try.func13, Try.ntmps13
    go_wp2_with fail
    refine (l02Can ⟨S, R, P, H, T, L⟩ n _).mono ?_
    rintro e w1 ⟨rfl, hb1⟩
    obtain ⟨hA, hB, hz, hbw⟩ := two_blocks hb1
    obtain ⟨⟨c0, c1, c2, c3, c4, c5⟩, _⟩ := six_at hA
    obtain ⟨⟨d0, d1, d2, d3, d4, d5⟩, f0, f1, f2, f3, f4, f5⟩ := six_at hB
    have hB2 := hide hB
    clear hb1 hA hB
    go_wp2_with fail
    refine bodyPost_at (fun W' hW' => ?_)
    obtain ⟨⟨r0, r1, r2, r3, r4, r5⟩, _⟩ := six_at (show W'.heap[w.heap.size + 1]? = some (.cells #[.int .i64 S, .int .i64 R, .int .i64 P, .int .i64 H, .int .i64 T, .int .i64 L] 25 (0, 0)) by rw [hW']; exact six_set (unhide hB2))
    have hbb : Below w.heap.size w W' := by rw [hW']; exact six_below hbw (by omega)
    refine bodyPost_ret (v := .agg #[.int .i64 S, .int .i64 R, .int .i64 P, .int .i64 H, .int .i64 T, .int .i64 L]) (by simp [results, Try.results13, go_sem, r0, r1, r2, r3, r4, r5]) rfl ⟨by rw [unhide HF], hbb⟩
end Go.Proofs.Ythjpjamihlopeaa
