/-
  What the model's PurseOf and Holding come to.
-/
import Derived.Test.YtccpcmhideijpaaDoorPuS
namespace Go.Proofs.YtccpcmhideijpaaDoor
open Go.RowKit
open Mth

theorem four_at {w : World} {g : Nat} {a0 a1 a2 a3 : Value} {t : TypeId} (h : w.heap[g]? = some (.cells #[a0, a1, a2, a3] t (0, 0))) :
    (w.cell? ⟨g, 0, none⟩ = some a0 ∧ w.cell? ⟨g, 1, none⟩ = some a1 ∧ w.cell? ⟨g, 2, none⟩ = some a2 ∧ w.cell? ⟨g, 3, none⟩ = some a3) ∧ (w.frozen? ⟨g, 0, none⟩ = false ∧ w.frozen? ⟨g, 1, none⟩ = false ∧ w.frozen? ⟨g, 2, none⟩ = false ∧ w.frozen? ⟨g, 3, none⟩ = false) := by
  have hc : ∀ i, w.cell? ⟨g, i, none⟩ = #[a0, a1, a2, a3][i]? := fun i => cell_of_row w g i _ t (0, 0) h
  have hf : ∀ i, w.frozen? ⟨g, i, none⟩ = false := fun i => by unfold World.frozen?; rw [h]; simp
  exact ⟨⟨hc 0, hc 1, hc 2, hc 3⟩, hf 0, hf 1, hf 2, hf 3⟩

end Go.Proofs.YtccpcmhideijpaaDoor
