/-
  What the program's functions on buckets come to, in plain numbers.
-/
import Derived.Test.YthjpjamihlopeaaBkMath
import Derived.OneCell
namespace Go.Proofs.Ythjpjamihlopeaa
open Go.RowKit
open Mth

theorem below_one (w : World) (o : Obj) : Below w.heap.size w (w.alloc o) := (Below.refl _ _).alloc (Nat.le_refl _) _

/-- A struct of six numbers, laid as a block, behind calls that make memory alone. -/
theorem bk6 {w w1 : World} {S R P H T L : Int} {t : TypeId} (hb : Below (w.alloc (.cells #[.int .i64 S, .int .i64 R, .int .i64 P, .int .i64 H, .int .i64 T, .int .i64 L] t)).heap.size (w.alloc (.cells #[.int .i64 S, .int .i64 R, .int .i64 P, .int .i64 H, .int .i64 T, .int .i64 L] t)) w1) :
    w1.cell? ⟨w.heap.size, 0, none⟩ = some (.int .i64 S) ∧ w1.cell? ⟨w.heap.size, 1, none⟩ = some (.int .i64 R) ∧ w1.cell? ⟨w.heap.size, 2, none⟩ = some (.int .i64 P) ∧ w1.cell? ⟨w.heap.size, 3, none⟩ = some (.int .i64 H) ∧ w1.cell? ⟨w.heap.size, 4, none⟩ = some (.int .i64 T) ∧ w1.cell? ⟨w.heap.size, 5, none⟩ = some (.int .i64 L) ∧
      (∀ i, w1.frozen? ⟨w.heap.size, i, none⟩ = false) ∧ w.heap.size < w1.heap.size ∧ Below w.heap.size w w1 := by
  have hlt : w.heap.size < (w.alloc (.cells #[.int .i64 S, .int .i64 R, .int .i64 P, .int .i64 H, .int .i64 T, .int .i64 L] t)).heap.size := by simp
  have hc : ∀ i, w1.cell? ⟨w.heap.size, i, none⟩ = (w.alloc (.cells #[.int .i64 S, .int .i64 R, .int .i64 P, .int .i64 H, .int .i64 T, .int .i64 L] t)).cell? ⟨w.heap.size, i, none⟩ := fun i => hb.cell (p := ⟨w.heap.size, i, none⟩) hlt
  have hf : ∀ i, w1.frozen? ⟨w.heap.size, i, none⟩ = (w.alloc (.cells #[.int .i64 S, .int .i64 R, .int .i64 P, .int .i64 H, .int .i64 T, .int .i64 L] t)).frozen? ⟨w.heap.size, i, none⟩ := fun i => hb.frozen (p := ⟨w.heap.size, i, none⟩) hlt
  refine ⟨?_, ?_, ?_, ?_, ?_, ?_, ?_, Nat.lt_of_lt_of_le hlt hb.size, ((Below.refl _ _).alloc (Nat.le_refl _) _).trans (hb.mono (by simp))⟩
  · rw [hc]; simp
  · rw [hc]; simp
  · rw [hc]; simp
  · rw [hc]; simp
  · rw [hc]; simp
  · rw [hc]; simp
  · intro i; rw [hf]; simp

/-- What a block of six cells reads as. -/
theorem six_at {w : World} {g : Nat} {a0 a1 a2 a3 a4 a5 : Value} {t : TypeId} (h : w.heap[g]? = some (.cells #[a0, a1, a2, a3, a4, a5] t (0, 0))) :
    (w.cell? ⟨g, 0, none⟩ = some a0 ∧ w.cell? ⟨g, 1, none⟩ = some a1 ∧ w.cell? ⟨g, 2, none⟩ = some a2 ∧ w.cell? ⟨g, 3, none⟩ = some a3 ∧ w.cell? ⟨g, 4, none⟩ = some a4 ∧ w.cell? ⟨g, 5, none⟩ = some a5) ∧
      (w.frozen? ⟨g, 0, none⟩ = false ∧ w.frozen? ⟨g, 1, none⟩ = false ∧ w.frozen? ⟨g, 2, none⟩ = false ∧ w.frozen? ⟨g, 3, none⟩ = false ∧ w.frozen? ⟨g, 4, none⟩ = false ∧ w.frozen? ⟨g, 5, none⟩ = false) := by
  have hc : ∀ i, w.cell? ⟨g, i, none⟩ = #[a0, a1, a2, a3, a4, a5][i]? := fun i => cell_of_row w g i _ t (0, 0) h
  have hf : ∀ i, w.frozen? ⟨g, i, none⟩ = false := fun i => by unfold World.frozen?; rw [h]; simp
  exact ⟨⟨hc 0, hc 1, hc 2, hc 3, hc 4, hc 5⟩, hf 0, hf 1, hf 2, hf 3, hf 4, hf 5⟩
/-- Two blocks laid one behind the other, behind calls that make memory alone. -/
theorem two_blocks {w w1 : World} {A B : Obj} (hb : Below ((w.alloc A).alloc B).heap.size ((w.alloc A).alloc B) w1) :
    w1.heap[w.heap.size]? = some A ∧ w1.heap[w.heap.size + 1]? = some B ∧ w.heap.size + 1 < w1.heap.size ∧ Below w.heap.size w w1 := by
  have hs : ((w.alloc A).alloc B).heap.size = w.heap.size + 1 + 1 := by simp
  have hz := hb.size
  refine ⟨?_, ?_, by omega, (((Below.refl _ _).alloc (Nat.le_refl _) _).alloc (by simp) _).trans (hb.mono (by omega))⟩
  · rw [hb.block _ (by omega), Below.heap_alloc _ _ _ (by simp)]
    exact heap_alloc_new w A
  · rw [hb.block _ (by omega)]
    have h := heap_alloc_new (w.alloc A) B
    rwa [show (w.alloc A).heap.size = w.heap.size + 1 by simp] at h

theorem blk_set {w : World} {c : Nat} {cs : Array Value} {t : TypeId} (h : w.heap[c]? = some (.cells cs t (0, 0))) (i : Nat) (v : Value) : (w.setCell ⟨c, i, none⟩ v).heap[c]? = some (.cells (cs.setIfInBounds i v) t (0, 0)) := by
  unfold World.setCell
  simp only [Array.getElem?_modify]
  rw [if_pos trivial, h]
  rfl
/-- A block of six cells, all written over. -/
theorem six_set {w : World} {g : Nat} {a0 a1 a2 a3 a4 a5 b0 b1 b2 b3 b4 b5 : Value} {t : TypeId} (h : w.heap[g]? = some (.cells #[a0, a1, a2, a3, a4, a5] t (0, 0))) :
    ((((((w.setCell ⟨g, 0, none⟩ b0).setCell ⟨g, 1, none⟩ b1).setCell ⟨g, 2, none⟩ b2).setCell ⟨g, 3, none⟩ b3).setCell ⟨g, 4, none⟩ b4).setCell ⟨g, 5, none⟩ b5).heap[g]? = some (.cells #[b0, b1, b2, b3, b4, b5] t (0, 0)) :=
  blk_set (blk_set (blk_set (blk_set (blk_set (blk_set h 0 b0) 1 b1) 2 b2) 3 b3) 4 b4) 5 b5
theorem six_below {a w : World} {B g : Nat} {b0 b1 b2 b3 b4 b5 : Value} (h : Below B a w) (hg : B ≤ g) :
    Below B a ((((((w.setCell ⟨g, 0, none⟩ b0).setCell ⟨g, 1, none⟩ b1).setCell ⟨g, 2, none⟩ b2).setCell ⟨g, 3, none⟩ b3).setCell ⟨g, 4, none⟩ b4).setCell ⟨g, 5, none⟩ b5) :=
  (((((h.setCell (p := ⟨g, 0, none⟩) hg b0).setCell (p := ⟨g, 1, none⟩) hg b1).setCell (p := ⟨g, 2, none⟩) hg b2).setCell (p := ⟨g, 3, none⟩) hg b3).setCell (p := ⟨g, 4, none⟩) hg b4).setCell (p := ⟨g, 5, none⟩) hg b5
theorem bodyPost_at {P : Program} {fn : Func} {Q : Ending → World → Prop} {x : Exit} {act : Act} {W : World} (h : ∀ W', W' = W → bodyPost P fn Q x act W') : bodyPost P fn Q x act W := h W rfl

theorem ret_true {p : Prop} [Decidable p] (h : p) : Ending.returned (.bool true) = .returned (.bool (decide p)) := by rw [decide_eq_true h]
theorem ret_false {p : Prop} [Decidable p] (h : ¬ p) : Ending.returned (.bool false) = .returned (.bool (decide p)) := by rw [decide_eq_false h]
theorem ret_dec {p q : Prop} [Decidable p] [Decidable q] (h : p ↔ q) : Ending.returned (.bool (decide p)) = .returned (.bool (decide q)) := by rw [decide_eq_decide.2 h]

theorem isAmount (n : Int) (w : World) : Calls Try.prog 46 #[.int .i64 n] w fun e w' => e = .returned (.bool (decide (Am n))) ∧ w = w' := by
  by_cases h0 : 0 ≤ n
  · go_enter Try.func46, Try.ntmps46
    go_wp2
    go_ret
    exact ⟨ret_dec (by unfold Am; omega), rfl⟩
  · go_enter Try.func46, Try.ntmps46
    go_wp2
    go_ret
    exact ⟨ret_false (by unfold Am; omega), rfl⟩

set_option maxRecDepth 100000 in
set_option maxHeartbeats 1000000 in
theorem fixedOk (b : Bk) (w : World) : Calls Try.prog 51 #[bkv b] w fun e w' => e = .returned (.bool (decide b.Fix)) ∧ Below w.heap.size w w' := by
  obtain ⟨S, R, P, H, T, L⟩ := b
  have hd : ∀ n, (decide (Am n) = true ∧ Am n) ∨ (decide (Am n) = false ∧ ¬ Am n) := fun n => by by_cases h : Am n <;> simp [h]
  have HB := hide (fun o => below_one w o)
  rcases hd S with ⟨hS, hS'⟩ | ⟨hS, hS'⟩
  · rcases hd R with ⟨hR, hR'⟩ | ⟨hR, hR'⟩
    · by_cases hP : 1 ≤ P
      · by_cases hP2 : P ≤ 1000000
        all_goals
          go_enter Try.func51, Try.ntmps51
          go_wp2_with (go_at_call 46; refine (isAmount _ _).mono ?_; rintro e w1 ⟨rfl, rfl⟩)
          go_ret
          exact ⟨by unfold Am at *; first | exact ret_true (by unfold Bk.Fix; dsimp only; omega) | exact ret_false (by unfold Bk.Fix; dsimp only; omega) | exact ret_dec (by unfold Bk.Fix; dsimp only; omega), unhide HB _⟩
      · go_enter Try.func51, Try.ntmps51
        go_wp2_with (go_at_call 46; refine (isAmount _ _).mono ?_; rintro e w1 ⟨rfl, rfl⟩)
        go_ret
        exact ⟨by unfold Am at *; first | exact ret_true (by unfold Bk.Fix; dsimp only; omega) | exact ret_false (by unfold Bk.Fix; dsimp only; omega) | exact ret_dec (by unfold Bk.Fix; dsimp only; omega), unhide HB _⟩
    · go_enter Try.func51, Try.ntmps51
      go_wp2_with (go_at_call 46; refine (isAmount _ _).mono ?_; rintro e w1 ⟨rfl, rfl⟩)
      go_ret
      exact ⟨by unfold Am at *; first | exact ret_true (by unfold Bk.Fix; dsimp only; omega) | exact ret_false (by unfold Bk.Fix; dsimp only; omega) | exact ret_dec (by unfold Bk.Fix; dsimp only; omega), unhide HB _⟩
  · go_enter Try.func51, Try.ntmps51
    go_wp2_with (go_at_call 46; refine (isAmount _ _).mono ?_; rintro e w1 ⟨rfl, rfl⟩)
    go_ret
    exact ⟨by unfold Am at *; first | exact ret_true (by unfold Bk.Fix; dsimp only; omega) | exact ret_false (by unfold Bk.Fix; dsimp only; omega) | exact ret_dec (by unfold Bk.Fix; dsimp only; omega), unhide HB _⟩
end Go.Proofs.Ythjpjamihlopeaa
