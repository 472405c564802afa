/-
  Rows of structs in memory, for any kind of struct whose cells are a list of values of one length.
-/
import Derived.Test.YtccpcmhideijpaaDoorBase
import Derived.OneCell
import Derived.Laws.MakeOwn
namespace Go.Proofs.YtccpcmhideijpaaDoor
namespace GR
open Go.RowKit

section
variable {α : Type} (enc : α → List Value) (sz : Nat)

/-- The cells of a row. -/
def flat (l : List α) : List Value := l.flatMap enc
theorem flat_nil : flat enc [] = [] := rfl
theorem flat_cons (x : α) (r : List α) : flat enc (x :: r) = enc x ++ flat enc r := rfl
theorem flat_append (l r : List α) : flat enc (l ++ r) = flat enc l ++ flat enc r := by simp [flat]
theorem flat_one (x : α) : flat enc [x] = enc x := by simp [flat]
theorem flat_length (h : ∀ x, (enc x).length = sz) (l : List α) : (flat enc l).length = l.length * sz := by
  induction l with
  | nil => simp [flat]
  | cons x r ih => rw [flat_cons, List.length_append, ih, h, List.length_cons, Nat.add_mul, Nat.one_mul, Nat.add_comm]
theorem flat_at (h : ∀ x, (enc x).length = sz) : ∀ (l : List α) (i : Nat) (hi : i < l.length) (j : Nat), j < sz → (flat enc l)[i * sz + j]? = (enc l[i])[j]? := by
  intro l
  induction l with
  | nil => intro i hi; simp at hi
  | cons x r ih =>
    intro i hi j hj
    rw [flat_cons]
    cases i with
    | zero =>
      rw [Nat.zero_mul, Nat.zero_add, List.getElem?_append_left (by rw [h]; exact hj)]
      rfl
    | succ i =>
      have e : (i + 1) * sz + j = sz + (i * sz + j) := by rw [Nat.add_mul, Nat.one_mul]; omega
      rw [List.getElem?_append_right (by rw [h]; omega), h, e, Nat.add_sub_cancel_left, ih i (by simpa using hi) j hj]
      rfl
/-- A run of cells written over. -/
def setRun (xs : List Value) (o : Nat) : List Value → List Value
  | [] => xs
  | v :: vs => setRun (xs.set o v) (o + 1) vs
theorem setRun_append_right (a : List Value) : ∀ (vs : List Value) (o : Nat) (b : List Value), setRun (a ++ b) (a.length + o) vs = a ++ setRun b o vs := by
  intro vs
  induction vs with
  | nil => intro o b; rfl
  | cons v vs ih =>
    intro o b
    show setRun ((a ++ b).set (a.length + o) v) (a.length + o + 1) vs = a ++ setRun (b.set o v) (o + 1) vs
    rw [List.set_append_right _ _ (by omega), Nat.add_sub_cancel_left, Nat.add_assoc, ih]
theorem setRun_head : ∀ (vs a b : List Value), vs.length = a.length → setRun (a ++ b) 0 vs = vs ++ b := by
  intro vs
  induction vs with
  | nil => intro a b h; have : a = [] := List.eq_nil_of_length_eq_zero (by simpa using h.symm); subst this; rfl
  | cons v vs ih =>
    intro a b h
    cases a with
    | nil => simp at h
    | cons y a =>
      show setRun (((y :: a) ++ b).set 0 v) (0 + 1) vs = v :: vs ++ b
      have e : ((y :: a) ++ b).set 0 v = [v] ++ (a ++ b) := rfl
      rw [e, Nat.zero_add]
      have h2 := setRun_append_right [v] vs 0 (a ++ b)
      simp only [List.length_singleton, Nat.add_zero] at h2
      rw [h2, ih a b (by simpa using h)]
      rfl
theorem flat_set (h : ∀ x, (enc x).length = sz) : ∀ (l : List α) (i : Nat) (x : α), i < l.length → setRun (flat enc l) (i * sz) (enc x) = flat enc (l.set i x) := by
  intro l
  induction l with
  | nil => intro i x hi; simp at hi
  | cons y r ih =>
    intro i x hi
    cases i with
    | zero =>
      rw [Nat.zero_mul, flat_cons, setRun_head _ _ _ (by rw [h, h])]
      rfl
    | succ i =>
      have e : (i + 1) * sz = (enc y).length + i * sz := by rw [h, Nat.add_mul, Nat.one_mul, Nat.add_comm]
      rw [flat_cons, e, setRun_append_right _, ih i x (by simpa using hi)]
      rfl

/-- A slice of structs, as it lies. -/
def At (w : World) (a : Option Addr) (l : List α) : Prop := ∀ i (hi : i < l.length), ∃ g off, a = some ⟨g, off, none⟩ ∧ g < w.heap.size ∧ ∀ j, j < sz → w.cell? ⟨g, off + (i * sz + j), none⟩ = (enc l[i])[j]?
theorem At.below {enc : α → List Value} {sz : Nat} {w w' : World} {a : Option Addr} {l : List α} (h : At enc sz w a l) (hb : Below w.heap.size w w') : At enc sz w' a l := fun i hi => by
  obtain ⟨g, off, e, hg, hc⟩ := h i hi
  exact ⟨g, off, e, Nat.lt_of_lt_of_le hg hb.size, fun j hj => (hb.cell (p := ⟨g, off + (i * sz + j), none⟩) hg).trans (hc j hj)⟩
theorem at_nil {w : World} {a : Option Addr} : At enc sz w a [] := fun i hi => by simp at hi
/-- A block that holds just these structs. -/
def Blk (t : TypeId) (w : World) (g : Nat) (l : List α) : Prop := w.heap[g]? = some (.cells (flat enc l).toArray t (0, 0))
theorem Blk.cell {enc : α → List Value} {sz : Nat} {t : TypeId} {w : World} {g : Nat} {l : List α} (h : Blk enc t w g l) (hs : ∀ x, (enc x).length = sz) (i : Nat) (hi : i < l.length) (j : Nat) (hj : j < sz) : w.cell? ⟨g, i * sz + j, none⟩ = (enc l[i])[j]? := by
  rw [cell_of_row w g _ _ t (0, 0) h]
  simpa using flat_at enc sz hs l i hi j hj
theorem Blk.free {enc : α → List Value} {t : TypeId} {w : World} {g : Nat} {l : List α} (h : Blk enc t w g l) (i : Nat) : w.frozen? ⟨g, i, none⟩ = false := by
  unfold World.frozen?; rw [h]; simp
theorem Blk.lt {enc : α → List Value} {t : TypeId} {w : World} {g : Nat} {l : List α} (h : Blk enc t w g l) : g < w.heap.size := by
  rcases Nat.lt_or_ge g w.heap.size with h' | h'
  · exact h'
  · rw [Blk, Array.getElem?_eq_none h'] at h; cases h
theorem Blk.at {enc : α → List Value} {sz : Nat} {t : TypeId} {w : World} {g : Nat} {l : List α} (h : Blk enc t w g l) (hs : ∀ x, (enc x).length = sz) : At enc sz w (some ⟨g, 0, none⟩) l := fun i hi =>
  ⟨g, 0, rfl, h.lt, fun j hj => by rw [Nat.zero_add]; exact h.cell hs i hi j hj⟩
/-- The world with a run of cells written over. -/
def setW (w : World) (g o : Nat) : List Value → World
  | [] => w
  | v :: vs => setW (w.setCell ⟨g, o, none⟩ v) g (o + 1) vs
theorem setW_blk : ∀ (vs : List Value) {w : World} {g o : Nat} {xs : List Value} {t : TypeId}, w.heap[g]? = some (.cells xs.toArray t (0, 0)) → (setW w g o vs).heap[g]? = some (.cells (setRun xs o vs).toArray t (0, 0)) := by
  intro vs
  induction vs with
  | nil => intro w g o xs t h; exact h
  | cons v vs ih =>
    intro w g o xs t h
    refine ih (xs := xs.set o v) ?_
    unfold World.setCell
    simp only [Array.getElem?_modify]
    rw [if_pos trivial, h]
    simp
theorem Blk.set {enc : α → List Value} {sz : Nat} {t : TypeId} {w : World} {g : Nat} {l : List α} (h : Blk enc t w g l) (hs : ∀ x, (enc x).length = sz) (i : Nat) (hi : i < l.length) (x : α) : Blk enc t (setW w g (i * sz) (enc x)) g (l.set i x) := by
  have h2 := setW_blk (enc x) (o := i * sz) h
  rw [flat_set enc sz hs l i x hi] at h2
  exact h2
theorem setW_below {B : Nat} {a : World} {g : Nat} (hg : B ≤ g) : ∀ (vs : List Value) {w : World} {o : Nat}, Below B a w → Below B a (setW w g o vs) := by
  intro vs
  induction vs with
  | nil => intro w o h; exact h
  | cons v vs ih => intro w o h; exact ih (h.setCell (p := ⟨g, o, none⟩) hg v)
theorem setW_other {g g' : Nat} (hne : g' ≠ g) : ∀ (vs : List Value) {w : World} {o : Nat}, (setW w g o vs).heap[g']? = w.heap[g']? := by
  intro vs
  induction vs with
  | nil => intro w o; rfl
  | cons v vs ih => intro w o; exact (ih (w := w.setCell ⟨g, o, none⟩ v)).trans (Below.heap_setCell _ _ _ _ hne)
/-- What 'make' lays. -/
theorem made_flat (h : ∀ x, (enc x).length = sz) (hz : 0 < sz) (x : α) (z : Array Value) (he : z.toList = enc x) (n : Nat) : madeCells z (n * sz) = (flat enc (List.replicate n x)).toArray := by
  have hzs : z.size = sz := by rw [← Array.length_toList, he, h]
  apply Array.ext_getElem?
  intro k
  by_cases hk : k < n * sz
  · have hq : k / sz < n := Nat.div_lt_of_lt_mul (by rw [Nat.mul_comm]; exact hk)
    have hr : k % sz < sz := Nat.mod_lt _ hz
    have hf := flat_at enc sz h (List.replicate n x) (k / sz) (by simpa using hq) (k % sz) hr
    have ek : k / sz * sz + k % sz = k := Nat.div_add_mod' k sz
    rw [ek] at hf
    have h1 : (madeCells z (n * sz))[k]? = some (z[k % z.size]!) := by simp [madeCells, hk]
    rw [h1, hzs]
    have h2 : (flat enc (List.replicate n x)).toArray[k]? = (enc x)[k % sz]? := by
      rw [List.getElem?_toArray, hf]
      simp
    rw [h2, ← he]
    have h3 : k % sz < z.size := by omega
    rw [getElem!_pos z (k % sz) h3, Array.getElem?_toList, Array.getElem?_eq_getElem h3]
  · have h1 : (madeCells z (n * sz)).size ≤ k := by simp [madeCells]; omega
    have h2 : (flat enc (List.replicate n x)).toArray.size ≤ k := by
      rw [List.size_toArray, flat_length enc sz h]
      simp
      omega
    rw [Array.getElem?_eq_none h1, Array.getElem?_eq_none h2]
/-- A row of the call's own. -/
theorem own_at {enc : α → List Value} {sz : Nat} {w : World} {base : Nat} {e : TypeId} {v : Value} {l : List α} (hs : ∀ x, (enc x).length = sz) (h : w.ownsRow base e sz v l.length (flat enc l)) : ∃ a cap, v = .slice a l.length cap ∧ At enc sz w a l := by
  rcases h.2 with ⟨rfl, hn⟩ | ⟨g, cap, cur, rfl, hg, hblk, _⟩
  · exact ⟨none, 0, by rw [hn], fun i hi => by omega⟩
  · refine ⟨_, cap, rfl, fun i hi => ⟨g, 0, rfl, ?_, fun j hj => ?_⟩⟩
    · rcases Nat.lt_or_ge g w.heap.size with h' | h'
      · exact h'
      · rw [Array.getElem?_eq_none h'] at hblk; cases hblk
    · have hf := flat_at enc sz hs l i hi j hj
      have hj' : j < (enc l[i]).length := by rw [hs]; exact hj
      rw [List.getElem?_eq_getElem hj'] at hf ⊢
      have := h.cells rfl (i * sz + j) _ hf
      have ea : (⟨g, 0, none⟩ : Addr).add (i * sz + j) = ⟨g, 0 + (i * sz + j), none⟩ := by unfold Addr.add; split <;> simp_all
      rw [ea] at this
      exact this
end
end GR
end Go.Proofs.YtccpcmhideijpaaDoor
