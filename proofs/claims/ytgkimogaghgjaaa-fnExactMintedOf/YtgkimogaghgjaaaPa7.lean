/- Parts. -/
import Derived.Test.YtgkimogaghgjaaaPa4
import Derived.Test.YtgkimogaghgjaaaPa6
namespace Go.Proofs.Ytgkimogaghgjaaa
open Go.RowKit
open Mth

theorem setW_cell_otherN {g k : Nat} : ∀ (vs : List Value) (w : World) (o : Nat), k < o ∨ o + vs.length ≤ k → (GR.setW w g o vs).cell? ⟨g, k, none⟩ = w.cell? ⟨g, k, none⟩ := by
  intro vs
  induction vs with
  | nil => intro w o _; rfl
  | cons v vs ih =>
    intro w o h
    rw [List.length_cons] at h
    exact (ih (w.setCell ⟨g, o, none⟩ v) (o + 1) (by omega)).trans (World.cell?_setCell_other _ _ _ _ (by simp <;> omega))
theorem setW_cell_sameN {g : Nat} : ∀ (vs : List Value) (w : World) (o : Nat), (∀ j, j < vs.length → ∃ v, w.cell? ⟨g, o + j, none⟩ = some v) → ∀ j, j < vs.length → (GR.setW w g o vs).cell? ⟨g, o + j, none⟩ = vs[j]? := by
  intro vs
  induction vs with
  | nil => intro w o _ j hj; simp at hj
  | cons v vs ih =>
    intro w o h j hj
    cases j with
    | zero =>
      obtain ⟨v0, hv0⟩ := h 0 (by simp)
      rw [Nat.add_zero] at hv0 ⊢
      refine (setW_cell_otherN vs (w.setCell ⟨g, o, none⟩ v) (o + 1) (by omega)).trans ?_
      rw [World.cell?_setCell_same _ _ _ hv0]
      rfl
    | succ j =>
      have h2 := ih (w.setCell ⟨g, o, none⟩ v) (o + 1) (fun j' hj' => by
        obtain ⟨v1, hv1⟩ := h (j' + 1) (by simpa using hj')
        refine ⟨v1, (World.cell?_setCell_other _ _ _ _ (by simp <;> omega)).trans ?_⟩
        rw [← hv1, show o + 1 + j' = o + (j' + 1) by omega]) j (by simpa using hj)
      rw [show o + 1 + j = o + (j + 1) by omega] at h2
      exact h2
theorem setW_frozenN {g k : Nat} : ∀ (vs : List Value) (w : World) (o : Nat), (GR.setW w g o vs).frozen? ⟨g, k, none⟩ = w.frozen? ⟨g, k, none⟩ := by
  intro vs
  induction vs with
  | nil => intro w o; rfl
  | cons v vs ih => intro w o; exact (ih (w.setCell ⟨g, o, none⟩ v) (o + 1)).trans (by rw [World.frozen?_setCell])
theorem setW_sizeN {g : Nat} : ∀ (vs : List Value) (w : World) (o : Nat), (GR.setW w g o vs).heap.size = w.heap.size := by
  intro vs
  induction vs with
  | nil => intro w o; rfl
  | cons v vs ih => intro w o; exact (ih (w.setCell ⟨g, o, none⟩ v) (o + 1)).trans (by simp [World.setCell])
theorem setW_keeps {g : Nat} : ∀ (vs : List Value) (w : World) (o : Nat), KeepsL [g] w (GR.setW w g o vs) := by
  intro vs
  induction vs with
  | nil => intro w o; exact KeepsL.refl _ _
  | cons v vs ih => intro w o; exact (KeepsL.set v).trans (ih (w.setCell ⟨g, o, none⟩ v) (o + 1))
theorem GR.W.set {α : Type} {enc : α → List Value} {sz : Nat} {w : World} {a : Option Addr} {g : Nat} {l : List α} (hs : ∀ x, (enc x).length = sz) (h : GR.W enc sz w a g l) (k : Nat) (x : α) (hk : k < l.length) : GR.W enc sz (GR.setW w g (k * sz) (enc x)) a g (l.set k x) := fun i hi => by
  have hi' : i < l.length := by simpa using hi
  obtain ⟨e, hg, hc⟩ := h i hi'
  refine ⟨e, by rw [setW_sizeN]; exact hg, fun j hj => ⟨?_, by rw [setW_frozenN]; exact (hc j hj).2⟩⟩
  by_cases hik : i = k
  · subst hik
    rw [setW_cell_sameN (enc x) w (i * sz) (fun j' hj' => by
      have hj4 : j' < sz := by rw [hs] at hj'; exact hj'
      have h1 := (hc j' hj4).1
      rw [List.getElem?_eq_getElem (by rw [hs]; exact hj4)] at h1
      exact ⟨_, h1⟩) j (by rw [hs]; exact hj)]
    simp
  · have hcase : i * sz + j < k * sz ∨ k * sz + sz ≤ i * sz + j := by
      rcases Nat.lt_or_gt_of_ne hik with h' | h'
      · left
        have := Nat.mul_le_mul_right sz (show i + 1 ≤ k by omega)
        rw [Nat.add_mul, Nat.one_mul] at this
        omega
      · right
        have := Nat.mul_le_mul_right sz (show k + 1 ≤ i by omega)
        rw [Nat.add_mul, Nat.one_mul] at this
        omega
    rw [setW_cell_otherN (enc x) w (k * sz) (by rw [hs]; exact hcase), (hc j hj).1, List.getElem_set_ne (by omega)]
/-- A row, cell by cell. -/
def GR.C (w : World) (a : Option Addr) (g : Nat) (cs : List Value) : Prop := ∀ j (hj : j < cs.length), a = some ⟨g, 0, none⟩ ∧ g < w.heap.size ∧ w.cell? ⟨g, j, none⟩ = some cs[j] ∧ w.frozen? ⟨g, j, none⟩ = false
theorem GR.C.set {w : World} {a : Option Addr} {g : Nat} {cs : List Value} (h : GR.C w a g cs) (k : Nat) (v : Value) : GR.C (w.setCell ⟨g, k, none⟩ v) a g (cs.set k v) := fun j hj => by
  have hj' : j < cs.length := by simpa using hj
  obtain ⟨e, hg, hc, hf⟩ := h j hj'
  refine ⟨e, by simpa [World.setCell] using hg, ?_, by rw [World.frozen?_setCell]; exact hf⟩
  by_cases hjk : j = k
  · subst hjk
    rw [World.cell?_setCell_same _ _ _ hc]
    simp
  · rw [World.cell?_setCell_other _ _ _ _ (by simp <;> omega), hc, List.getElem_set_ne (by omega)]
theorem GR.C.below {w w' : World} {a : Option Addr} {g : Nat} {cs : List Value} (h : GR.C w a g cs) (hb : Below w.heap.size w w') : GR.C w' a g cs := fun j hj => by
  obtain ⟨e, hg, hc, hf⟩ := h j hj
  exact ⟨e, Nat.lt_of_lt_of_le hg hb.size, (hb.cell (p := ⟨g, j, none⟩) hg).trans hc, (hb.frozen (p := ⟨g, j, none⟩) hg).trans hf⟩
end Go.Proofs.Ytgkimogaghgjaaa
