/- Parts. -/
import Derived.Test.YtbanjohfcnadfaaGreatDoorPw5
import Derived.Test.YtbanjohfcnadfaaGreatDoorPw10
namespace Go.Proofs.YtbanjohfcnadfaaGreatDoor
open Go.RowKit
open Mth

theorem setW_cell_otherN {g k : Nat} : ∀ (vs : List Value) (w : World) (o : Nat), k < o ∨ o + vs.length ≤ k → (GR.setW w g o vs).cell? ⟨g, k, none⟩ = w.cell? ⟨g, k, none⟩ := by
  intro vs
  induction vs with
  | nil => intro w o _; rfl
  | cons v vs ih =>
    intro w o h
    rw [List.length_cons] at h
    exact (ih (w.setCell ⟨g, o, none⟩ v) (o + 1) (by omega)).trans (World.cell?_setCell_other _ _ _ _ (by simp <;> omega))
theorem setW_cell_sameN {g : Nat} : ∀ (vs : List Value) (w : World) (o : Nat), (∀ j, j < vs.length → ∃ v, w.cell? ⟨g, o + j, none⟩ = some v) → ∀ j, j < vs.length → (GR.setW w g o vs).cell? ⟨g, o + j, none⟩ = vs[j]? := by
  intro vs
  induction vs with
  | nil => intro w o _ j hj; simp at hj
  | cons v vs ih =>
    intro w o h j hj
    cases j with
    | zero =>
      obtain ⟨v0, hv0⟩ := h 0 (by simp)
      rw [Nat.add_zero] at hv0 ⊢
      refine (setW_cell_otherN vs (w.setCell ⟨g, o, none⟩ v) (o + 1) (by omega)).trans ?_
      rw [World.cell?_setCell_same _ _ _ hv0]
      rfl
    | succ j =>
      have h2 := ih (w.setCell ⟨g, o, none⟩ v) (o + 1) (fun j' hj' => by
        obtain ⟨v1, hv1⟩ := h (j' + 1) (by simpa using hj')
        refine ⟨v1, (World.cell?_setCell_other _ _ _ _ (by simp <;> omega)).trans ?_⟩
        rw [← hv1, show o + 1 + j' = o + (j' + 1) by omega]) j (by simpa using hj)
      rw [show o + 1 + j = o + (j + 1) by omega] at h2
      exact h2
theorem setW_frozenN {g k : Nat} : ∀ (vs : List Value) (w : World) (o : Nat), (GR.setW w g o vs).frozen? ⟨g, k, none⟩ = w.frozen? ⟨g, k, none⟩ := by
  intro vs
  induction vs with
  | nil => intro w o; rfl
  | cons v vs ih => intro w o; exact (ih (w.setCell ⟨g, o, none⟩ v) (o + 1)).trans (by rw [World.frozen?_setCell])
theorem setW_sizeN {g : Nat} : ∀ (vs : List Value) (w : World) (o : Nat), (GR.setW w g o vs).heap.size = w.heap.size := by
  intro vs
  induction vs with
  | nil => intro w o; rfl
  | cons v vs ih => intro w o; exact (ih (w.setCell ⟨g, o, none⟩ v) (o + 1)).trans (by simp [World.setCell])
theorem setW_keeps {g : Nat} : ∀ (vs : List Value) (w : World) (o : Nat), KeepsL [g] w (GR.setW w g o vs) := by
  intro vs
  induction vs with
  | nil => intro w o; exact KeepsL.refl _ _
  | cons v vs ih => intro w o; exact (KeepsL.set v).trans (ih (w.setCell ⟨g, o, none⟩ v) (o + 1))
theorem GR.W.set {α : Type} {enc : α → List Value} {sz : Nat} {w : World} {a : Option Addr} {g : Nat} {l : List α} (hs : ∀ x, (enc x).length = sz) (h : GR.W enc sz w a g l) (k : Nat) (x : α) (hk : k < l.length) : GR.W enc sz (GR.setW w g (k * sz) (enc x)) a g (l.set k x) := fun i hi => by
  have hi' : i < l.length := by simpa using hi
  obtain ⟨e, hg, hc⟩ := h i hi'
  refine ⟨e, by rw [setW_sizeN]; exact hg, fun j hj => ⟨?_, by rw [setW_frozenN]; exact (hc j hj).2⟩⟩
  by_cases hik : i = k
  · subst hik
    rw [setW_cell_sameN (enc x) w (i * sz) (fun j' hj' => by
      have hj4 : j' < sz := by rw [hs] at hj'; exact hj'
      have h1 := (hc j' hj4).1
      rw [List.getElem?_eq_getElem (by rw [hs]; exact hj4)] at h1
      exact ⟨_, h1⟩) j (by rw [hs]; exact hj)]
    simp
  · have hcase : i * sz + j < k * sz ∨ k * sz + sz ≤ i * sz + j := by
      rcases Nat.lt_or_gt_of_ne hik with h' | h'
      · left
        have := Nat.mul_le_mul_right sz (show i + 1 ≤ k by omega)
        rw [Nat.add_mul, Nat.one_mul] at this
        omega
      · right
        have := Nat.mul_le_mul_right sz (show k + 1 ≤ i by omega)
        rw [Nat.add_mul, Nat.one_mul] at this
        omega
    rw [setW_cell_otherN (enc x) w (k * sz) (by rw [hs]; exact hcase), (hc j hj).1, List.getElem_set_ne (by omega)]
/-- The first k marked, by a number's own mark. -/
def mks {α : Type} (mk : Nat → α) (c s : Nat) (l : List α) (k : Nat) : List α := (List.range k).map (fun i => mk (s + c * i)) ++ l.drop k
theorem mks_length {α : Type} (mk : Nat → α) (c s : Nat) (l : List α) (k : Nat) (hk : k ≤ l.length) : (mks mk c s l k).length = l.length := by simp [mks]; omega
theorem mks_zero {α : Type} (mk : Nat → α) (c s : Nat) (l : List α) : mks mk c s l 0 = l := by simp [mks]
theorem mks_set {α : Type} (mk : Nat → α) (c s : Nat) (l : List α) (k : Nat) (hk : k < l.length) : (mks mk c s l k).set k (mk (s + c * k)) = mks mk c s l (k + 1) := by
  have e : l.drop k = l[k] :: l.drop (k + 1) := List.drop_eq_getElem_cons hk
  unfold mks
  rw [e, List.set_append_right _ _ (by simp)]
  simp only [List.length_map, List.length_range, Nat.sub_self, List.set_cons_zero, List.range_succ, List.map_append, List.map_cons, List.map_nil, List.append_assoc, List.cons_append, List.nil_append]
theorem mks_at {α : Type} (mk : Nat → α) (c s : Nat) (l : List α) (n k : Nat) (hk : k < n) (hn : n ≤ l.length) : (mks mk c s l n)[k]'(by rw [mks_length mk c s l n hn]; omega) = mk (s + c * k) := by
  unfold mks
  rw [List.getElem_append_left (by simpa using hk)]
  simp
theorem fp_keeps {α : Type} {g : Nat} {l : List α} {w w' : World} (h : KeepsL [g] w w') (hl : 0 < l.length) : KeepsL (fp g l) w w' := h.mono (fun x hx => by
  have : x = g := by simpa using hx
  rw [this]
  exact fp_mem hl)
theorem fp_len {α β : Type} {g : Nat} {l : List α} {l' : List β} (h : l.length = l'.length) : fp g l = fp g l' := by
  unfold fp
  cases l with
  | nil => cases l' with | nil => rfl | cons y l' => simp at h
  | cons x l => cases l' with | nil => simp at h | cons y l' => rfl

/-- A row, cell by cell. -/
def GR.C (w : World) (a : Option Addr) (g : Nat) (cs : List Value) : Prop := ∀ j (hj : j < cs.length), a = some ⟨g, 0, none⟩ ∧ g < w.heap.size ∧ w.cell? ⟨g, j, none⟩ = some cs[j] ∧ w.frozen? ⟨g, j, none⟩ = false
theorem GR.C.set {w : World} {a : Option Addr} {g : Nat} {cs : List Value} (h : GR.C w a g cs) (k : Nat) (v : Value) : GR.C (w.setCell ⟨g, k, none⟩ v) a g (cs.set k v) := fun j hj => by
  have hj' : j < cs.length := by simpa using hj
  obtain ⟨e, hg, hc, hf⟩ := h j hj'
  refine ⟨e, by simpa [World.setCell] using hg, ?_, by rw [World.frozen?_setCell]; exact hf⟩
  by_cases hjk : j = k
  · subst hjk
    rw [World.cell?_setCell_same _ _ _ hc]
    simp
  · rw [World.cell?_setCell_other _ _ _ _ (by simp <;> omega), hc, List.getElem_set_ne (by omega)]
theorem GR.C.below {w w' : World} {a : Option Addr} {g : Nat} {cs : List Value} (h : GR.C w a g cs) (hb : Below w.heap.size w w') : GR.C w' a g cs := fun j hj => by
  obtain ⟨e, hg, hc, hf⟩ := h j hj
  exact ⟨e, Nat.lt_of_lt_of_le hg hb.size, (hb.cell (p := ⟨g, j, none⟩) hg).trans hc, (hb.frozen (p := ⟨g, j, none⟩) hg).trans hf⟩
theorem GR.W.toC {α : Type} {enc : α → List Value} {sz : Nat} {w : World} {a : Option Addr} {g : Nat} {l : List α} (hs : ∀ x, (enc x).length = sz) (hz : 0 < sz) (h : GR.W enc sz w a g l) : GR.C w a g (GR.flat enc l) := fun j hj => by
  have hj2 : j < l.length * sz := by rwa [GR.flat_length enc sz hs] at hj
  have hq : j / sz < l.length := Nat.div_lt_of_lt_mul (by rw [Nat.mul_comm]; exact hj2)
  have hr : j % sz < sz := Nat.mod_lt _ hz
  have ej : j / sz * sz + j % sz = j := Nat.div_add_mod' j sz
  obtain ⟨e, hg, hc⟩ := h (j / sz) hq
  obtain ⟨h1, h2⟩ := hc (j % sz) hr
  have hf := GR.flat_at enc sz hs l (j / sz) hq (j % sz) hr
  rw [ej] at h1 h2 hf
  exact ⟨e, hg, by rw [h1, ← hf, List.getElem?_eq_getElem hj], h2⟩
theorem GR.C.toW {α : Type} {enc : α → List Value} {sz : Nat} {w : World} {a : Option Addr} {g : Nat} {l : List α} (hs : ∀ x, (enc x).length = sz) (hz : 0 < sz) (h : GR.C w a g (GR.flat enc l)) : GR.W enc sz w a g l := fun i hi => by
  have hlt : ∀ j, j < sz → i * sz + j < (GR.flat enc l).length := fun j hj => by
    rw [GR.flat_length enc sz hs]
    have := Nat.mul_le_mul_right sz (show i + 1 ≤ l.length by omega)
    rw [Nat.add_mul, Nat.one_mul] at this
    omega
  refine ⟨(h (i * sz + 0) (hlt 0 hz)).1, (h (i * sz + 0) (hlt 0 hz)).2.1, fun j hj => ?_⟩
  obtain ⟨_, _, hc, hf⟩ := h (i * sz + j) (hlt j hj)
  refine ⟨?_, hf⟩
  rw [hc, ← GR.flat_at enc sz hs l i hi j hj, List.getElem?_eq_getElem]
theorem markTextI (k : Nat) (z : Int) (w : World) (hz : z = k) (h0 : 0 < k) (hk : (k : Int) ≤ 9223372036854775807) :
    Calls Tryz.prog 55 #[.int .i64 z] w fun e w' => e = .returned (.string (mark k)) ∧ Below w.heap.size w w' := by
  subst hz
  exact markText k w h0 hk
end Go.Proofs.YtbanjohfcnadfaaGreatDoor
