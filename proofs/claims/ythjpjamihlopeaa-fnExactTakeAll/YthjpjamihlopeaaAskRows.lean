/-
  The laws' own helpers on rows of asks.
-/
import Derived.Test.YthjpjamihlopeaaBkDrawA
import Derived.Test.YthjpjamihlopeaaBkAllU
namespace Go.Proofs.Ythjpjamihlopeaa
open Go.RowKit
open Mth

/-- A block that holds just these asks. -/
def askBlock (w : World) (g : Nat) (l : List (Int × Int)) : Prop := w.heap[g]? = some (.cells (flat l).toArray 43 (0, 0))
theorem askBlock.cells {w : World} {g : Nat} {l : List (Int × Int)} (h : askBlock w g l) (i : Nat) (hi : i < l.length) : w.cell? ⟨g, i * 2, none⟩ = some (.int .i64 l[i].1) ∧ w.cell? ⟨g, i * 2 + 1, none⟩ = some (.int .i64 l[i].2) := by
  constructor
  · rw [cell_of_row w g _ _ 43 (0, 0) h]; simpa using (flat_at l i hi).1
  · rw [cell_of_row w g _ _ 43 (0, 0) h]; simpa using (flat_at l i hi).2
theorem askBlock.free {w : World} {g : Nat} {l : List (Int × Int)} (h : askBlock w g l) (i : Nat) : w.frozen? ⟨g, i, none⟩ = false := by
  unfold World.frozen?; rw [h]; simp
theorem askBlock.asks {w : World} {g : Nat} {l : List (Int × Int)} (h : askBlock w g l) : AsksAt w (some ⟨g, 0, none⟩) l := fun i hi =>
  ⟨g, 0, rfl, blk_lt h, by rw [Nat.zero_add]; exact (h.cells i hi).1, by rw [Nat.zero_add]; exact (h.cells i hi).2⟩
theorem flat_set : ∀ (l : List (Int × Int)) (k : Nat) (a b : Int), k < l.length → ((flat l).set (k * 2) (.int .i64 a)).set (k * 2 + 1) (.int .i64 b) = flat (l.set k (a, b)) := by
  intro l
  induction l with
  | nil => intro k a b h; simp at h
  | cons p r ih =>
    intro k a b h
    have e : flat (p :: r) = .int .i64 p.1 :: .int .i64 p.2 :: flat r := rfl
    cases k with
    | zero => rw [e]; rfl
    | succ j =>
      rw [e, show (j + 1) * 2 = j * 2 + 2 by omega, show j * 2 + 2 + 1 = j * 2 + 1 + 2 by omega]
      show .int .i64 p.1 :: .int .i64 p.2 :: ((flat r).set (j * 2) _).set (j * 2 + 1) _ = _
      rw [ih j a b (by simpa using h)]
      rfl
theorem askBlock.set {w : World} {g : Nat} {l : List (Int × Int)} (h : askBlock w g l) (k : Nat) (a b : Int) (hk : k < l.length) : askBlock ((w.setCell ⟨g, k * 2, none⟩ (.int .i64 a)).setCell ⟨g, k * 2 + 1, none⟩ (.int .i64 b)) g (l.set k (a, b)) := by
  have h2 := blk_set (blk_set h (k * 2) (.int .i64 a)) (k * 2 + 1) (.int .i64 b)
  unfold askBlock
  rw [h2, List.setIfInBounds_toArray, List.setIfInBounds_toArray, flat_set l k a b hk]
theorem flat_zero (n : Nat) : flat (List.replicate n (0, 0)) = List.replicate (n * 2) (.int .i64 0) := by
  induction n with
  | zero => rfl
  | succ n ih =>
    rw [List.replicate_succ, show (n + 1) * 2 = n * 2 + 1 + 1 by omega, List.replicate_succ, List.replicate_succ, ← ih]
    rfl
/-- 'make([]impl.Ask, n)'. -/
theorem make_asks (n : Nat) (hn : n ≤ 2000000) : ∀ W : World, (Instr.makeSlice 31 (.int .i64 (n : Int)) (.int .i64 (n : Int))).run Try.prog W = .ok (.slice (some ⟨W.heap.size, 0, none⟩) n n) (W.alloc (.cells (flat (List.replicate n (0, 0))).toArray 43)) := by
  obtain ⟨i0, hi, hz0, hz1, hz2⟩ := info_parts infoAsk
  intro W
  have h := run_make (P := Try.prog) W 31 43 i0 (.agg #[.int .i64 0, .int .i64 0]) Try.underlying31 hi hz0 .i64 .i64 (n : Int) (n : Int) (by omega) (by omega) (by rw [hz2]; omega) (by omega)
  have e : madeCells (Value.agg #[.int .i64 0, .int .i64 0]).cells (n * 2) = (flat (List.replicate n (0, 0))).toArray := by
    rw [flat_zero]
    apply Array.ext
    · simp [madeCells]
    · intro i h1 h2
      have hm : i % 2 = 0 ∨ i % 2 = 1 := by omega
      rcases hm with hm | hm <;> simp [madeCells, Value.cells, hm]
  rw [hz1] at h
  simpa [e] using h

set_option maxRecDepth 100000 in
theorem toAsk (a b : Int) (w : World) : Calls Try.prog 48 #[.agg #[.int .i64 a, .int .i64 b]] w fun e w' => e = .returned (.agg #[.int .i64 a, .int .i64 b]) ∧ Below w.heap.size w w' := by
  go_enter Try.func48, Try.ntmps48
  go_wp2_with fail
  refine bodyPost_ret (v := .agg #[.int .i64 a, .int .i64 b]) (by simp [results, Try.results48, go_sem]) rfl ⟨rfl, ?_⟩
  exact (((Below.refl _ _).alloc (Nat.le_refl _) _).alloc (by simp) _).alloc (by simp; omega) _
set_option maxRecDepth 100000 in
theorem eqAsk (a b : Int) (w : World) : Calls Try.prog 49 #[.agg #[.int .i64 a, .int .i64 b], .agg #[.int .i64 a, .int .i64 b]] w fun e w' => e = .returned (.bool true) ∧ Below w.heap.size w w' := by
  go_enter Try.func49, Try.ntmps49
  go_wp2_with fail
  go_ret
  exact ⟨rfl, ((Below.refl _ _).alloc (Nat.le_refl _) _).alloc (by simp) _⟩
theorem szAskS (a : Option Addr) (len cap : Nat) (w : World) (hl : len ≤ 1048576) : Calls Try.prog 28 #[.slice a len cap, .int .i64 1048576] w fun e w' => (∃ z : Int, e = .returned (.int .i64 z) ∧ 0 ≤ z) ∧ w = w' := by
  have h1 : ¬ (1048576 - (len : Int) < 0) := by omega
  go_enter Try.func28, Try.ntmps28
  go_wp2
  go_ret
  exact ⟨⟨_, rfl, by omega⟩, rfl⟩
theorem szAskS_many (a : Option Addr) (len cap : Nat) (w : World) (hl : 1048576 < len) (hm : len ≤ maxLen) : Calls Try.prog 28 #[.slice a len cap, .int .i64 1048576] w fun e w' => e = .returned (.int .i64 (-1)) ∧ w = w' := by
  have h1 : 1048576 - (len : Int) < 0 := by omega
  unfold maxLen at hm
  go_enter Try.func28, Try.ntmps28
  go_wp2
  go_ret
  exact ⟨rfl, rfl⟩
end Go.Proofs.Ythjpjamihlopeaa
