/-
  Small laws of ours on blocks of memory: what one block holds, what a call leaves as it was.
-/
import Derived.Test.YtmflajfddjnmhaaBase
import Derived.OneCell
import Derived.Deep.Draws
namespace Go.Proofs.Ytmflajfddjnmhaa
open Go.RowKit

/-- A block that holds just these texts. -/
def strBlock (w : World) (g : Nat) (xs : List ByteArray) : Prop := w.heap[g]? = some (.cells (xs.map Value.string).toArray 9 (0, 0))
theorem strBlock.cell {w : World} {g : Nat} {xs : List ByteArray} (h : strBlock w g xs) (i : Nat) (hi : i < xs.length) : w.cell? ⟨g, i, none⟩ = some (.string xs[i]) := by
  rw [cell_of_row w g i _ 9 (0, 0) h]; simp [hi]
theorem strBlock.free {w : World} {g : Nat} {xs : List ByteArray} (h : strBlock w g xs) (i : Nat) : w.frozen? ⟨g, i, none⟩ = false := by
  unfold World.frozen?; rw [h]; simp
theorem strBlock.lt {w : World} {g : Nat} {xs : List ByteArray} (h : strBlock w g xs) : g < w.heap.size := by
  rcases Nat.lt_or_ge g w.heap.size with h' | h'
  · exact h'
  · rw [strBlock, Array.getElem?_eq_none h'] at h; cases h
theorem strBlock.below {w w' : World} {g B : Nat} {xs : List ByteArray} (h : strBlock w g xs) (hb : Below B w w') (hg : g < B) : strBlock w' g xs := by
  unfold strBlock; rw [hb.block g hg]; exact h
theorem strBlock.set {w : World} {g : Nat} {xs : List ByteArray} (h : strBlock w g xs) (i : Nat) (t : ByteArray) : strBlock (w.setCell ⟨g, i, none⟩ (.string t)) g (xs.set i t) := by
  unfold strBlock World.setCell
  simp only [Array.getElem?_modify]
  rw [if_pos trivial, h]
  simp

/-- All but one block reads as before; new blocks may lie behind. -/
structure Keeps (g : Nat) (w w' : World) : Prop where
  os : w'.os = w.os
  tape : w'.tape = w.tape
  output : w'.output = w.output
  size : w.heap.size ≤ w'.heap.size
  block : ∀ k, k < w.heap.size → k ≠ g → w'.heap[k]? = w.heap[k]?
theorem Keeps.refl (g : Nat) (w : World) : Keeps g w w := ⟨rfl, rfl, rfl, Nat.le_refl _, fun _ _ _ => rfl⟩
theorem Keeps.trans {g : Nat} {a b c : World} (h : Keeps g a b) (k : Keeps g b c) : Keeps g a c :=
  ⟨k.os.trans h.os, k.tape.trans h.tape, k.output.trans h.output, Nat.le_trans h.size k.size, fun i hi hg => (k.block i (Nat.lt_of_lt_of_le hi h.size) hg).trans (h.block i hi hg)⟩
theorem Keeps.of_below {g : Nat} {w w' : World} (h : Below w.heap.size w w') : Keeps g w w' := ⟨h.os, h.tape, h.output, h.size, fun k hk _ => h.block k hk⟩
theorem Keeps.set {g i : Nat} {w : World} (v : Value) : Keeps g w (w.setCell ⟨g, i, none⟩ v) :=
  ⟨rfl, rfl, rfl, by simp [World.setCell], fun k _ hg => Below.heap_setCell _ _ _ _ hg⟩
theorem Keeps.below {g B : Nat} {w w' : World} (h : Keeps g w w') (hB : B ≤ g) (hs : B ≤ w.heap.size) : Below B w w' := ⟨h.os, h.tape, h.output, h.size, fun k hk => h.block k (by omega) (by omega)⟩
theorem strBlock.keeps {w w' : World} {g g' : Nat} {xs : List ByteArray} (h : strBlock w g' xs) (hk : Keeps g w w') (hne : g' ≠ g) : strBlock w' g' xs := by
  unfold strBlock; rw [hk.block g' h.lt hne]; exact h

theorem below_of_drewN {B q : Nat} {w w' : World} (h : Below B (w.drewN q) w') : Below B w w' := ⟨h.os, h.tape, h.output, h.size, h.block⟩
end Go.Proofs.Ytmflajfddjnmhaa
