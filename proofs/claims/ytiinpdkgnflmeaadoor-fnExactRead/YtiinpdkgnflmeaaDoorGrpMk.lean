/-
  Texts of ours in one, so that the claim keeps to its count: GRows, Rows2, RowW, DecMath, DecS, Mark, Keeps, MarkB.
-/
import Derived.Test.YtiinpdkgnflmeaaDoorBase
import Derived.OneCell
import Derived.Laws.MakeOwn
import Derived.Test.YtiinpdkgnflmeaaDoorBytes
import Derived.Laws.AppendOwnNone
import Derived.Maps.AppendAt
import Derived.Laws.OwnMore
import Derived.Lib.ItoaNum
import Derived.Lib.ItoaLen
import Derived.Test.YtiinpdkgnflmeaaDoorNumMath
import Derived.Laws.DeepStrings4
import Derived.Deep.Draws
namespace Go.Proofs.YtiinpdkgnflmeaaDoor
namespace GR
open Go.RowKit

section
variable {α : Type} (enc : α → List Value) (sz : Nat)

/-- The cells of a row. -/
def flat (l : List α) : List Value := l.flatMap enc
theorem flat_nil : flat enc [] = [] := rfl
theorem flat_cons (x : α) (r : List α) : flat enc (x :: r) = enc x ++ flat enc r := rfl
theorem flat_append (l r : List α) : flat enc (l ++ r) = flat enc l ++ flat enc r := by simp [flat]
theorem flat_one (x : α) : flat enc [x] = enc x := by simp [flat]
theorem flat_length (h : ∀ x, (enc x).length = sz) (l : List α) : (flat enc l).length = l.length * sz := by
  induction l with
  | nil => simp [flat]
  | cons x r ih => rw [flat_cons, List.length_append, ih, h, List.length_cons, Nat.add_mul, Nat.one_mul, Nat.add_comm]
theorem flat_at (h : ∀ x, (enc x).length = sz) : ∀ (l : List α) (i : Nat) (hi : i < l.length) (j : Nat), j < sz → (flat enc l)[i * sz + j]? = (enc l[i])[j]? := by
  intro l
  induction l with
  | nil => intro i hi; simp at hi
  | cons x r ih =>
    intro i hi j hj
    rw [flat_cons]
    cases i with
    | zero =>
      rw [Nat.zero_mul, Nat.zero_add, List.getElem?_append_left (by rw [h]; exact hj)]
      rfl
    | succ i =>
      have e : (i + 1) * sz + j = sz + (i * sz + j) := by rw [Nat.add_mul, Nat.one_mul]; omega
      rw [List.getElem?_append_right (by rw [h]; omega), h, e, Nat.add_sub_cancel_left, ih i (by simpa using hi) j hj]
      rfl
/-- A run of cells written over. -/
def setRun (xs : List Value) (o : Nat) : List Value → List Value
  | [] => xs
  | v :: vs => setRun (xs.set o v) (o + 1) vs
theorem setRun_append_right (a : List Value) : ∀ (vs : List Value) (o : Nat) (b : List Value), setRun (a ++ b) (a.length + o) vs = a ++ setRun b o vs := by
  intro vs
  induction vs with
  | nil => intro o b; rfl
  | cons v vs ih =>
    intro o b
    show setRun ((a ++ b).set (a.length + o) v) (a.length + o + 1) vs = a ++ setRun (b.set o v) (o + 1) vs
    rw [List.set_append_right _ _ (by omega), Nat.add_sub_cancel_left, Nat.add_assoc, ih]
theorem setRun_head : ∀ (vs a b : List Value), vs.length = a.length → setRun (a ++ b) 0 vs = vs ++ b := by
  intro vs
  induction vs with
  | nil => intro a b h; have : a = [] := List.eq_nil_of_length_eq_zero (by simpa using h.symm); subst this; rfl
  | cons v vs ih =>
    intro a b h
    cases a with
    | nil => simp at h
    | cons y a =>
      show setRun (((y :: a) ++ b).set 0 v) (0 + 1) vs = v :: vs ++ b
      have e : ((y :: a) ++ b).set 0 v = [v] ++ (a ++ b) := rfl
      rw [e, Nat.zero_add]
      have h2 := setRun_append_right [v] vs 0 (a ++ b)
      simp only [List.length_singleton, Nat.add_zero] at h2
      rw [h2, ih a b (by simpa using h)]
      rfl
theorem flat_set (h : ∀ x, (enc x).length = sz) : ∀ (l : List α) (i : Nat) (x : α), i < l.length → setRun (flat enc l) (i * sz) (enc x) = flat enc (l.set i x) := by
  intro l
  induction l with
  | nil => intro i x hi; simp at hi
  | cons y r ih =>
    intro i x hi
    cases i with
    | zero =>
      rw [Nat.zero_mul, flat_cons, setRun_head _ _ _ (by rw [h, h])]
      rfl
    | succ i =>
      have e : (i + 1) * sz = (enc y).length + i * sz := by rw [h, Nat.add_mul, Nat.one_mul, Nat.add_comm]
      rw [flat_cons, e, setRun_append_right _, ih i x (by simpa using hi)]
      rfl

/-- A slice of structs, as it lies. -/
def At (w : World) (a : Option Addr) (l : List α) : Prop := ∀ i (hi : i < l.length), ∃ g off, a = some ⟨g, off, none⟩ ∧ g < w.heap.size ∧ ∀ j, j < sz → w.cell? ⟨g, off + (i * sz + j), none⟩ = (enc l[i])[j]?
theorem At.below {enc : α → List Value} {sz : Nat} {w w' : World} {a : Option Addr} {l : List α} (h : At enc sz w a l) (hb : Below w.heap.size w w') : At enc sz w' a l := fun i hi => by
  obtain ⟨g, off, e, hg, hc⟩ := h i hi
  exact ⟨g, off, e, Nat.lt_of_lt_of_le hg hb.size, fun j hj => (hb.cell (p := ⟨g, off + (i * sz + j), none⟩) hg).trans (hc j hj)⟩
theorem at_nil {w : World} {a : Option Addr} : At enc sz w a [] := fun i hi => by simp at hi
/-- A block that holds just these structs. -/
def Blk (t : TypeId) (w : World) (g : Nat) (l : List α) : Prop := w.heap[g]? = some (.cells (flat enc l).toArray t (0, 0))
theorem Blk.cell {enc : α → List Value} {sz : Nat} {t : TypeId} {w : World} {g : Nat} {l : List α} (h : Blk enc t w g l) (hs : ∀ x, (enc x).length = sz) (i : Nat) (hi : i < l.length) (j : Nat) (hj : j < sz) : w.cell? ⟨g, i * sz + j, none⟩ = (enc l[i])[j]? := by
  rw [cell_of_row w g _ _ t (0, 0) h]
  simpa using flat_at enc sz hs l i hi j hj
theorem Blk.free {enc : α → List Value} {t : TypeId} {w : World} {g : Nat} {l : List α} (h : Blk enc t w g l) (i : Nat) : w.frozen? ⟨g, i, none⟩ = false := by
  unfold World.frozen?; rw [h]; simp
theorem Blk.lt {enc : α → List Value} {t : TypeId} {w : World} {g : Nat} {l : List α} (h : Blk enc t w g l) : g < w.heap.size := by
  rcases Nat.lt_or_ge g w.heap.size with h' | h'
  · exact h'
  · rw [Blk, Array.getElem?_eq_none h'] at h; cases h
theorem Blk.at {enc : α → List Value} {sz : Nat} {t : TypeId} {w : World} {g : Nat} {l : List α} (h : Blk enc t w g l) (hs : ∀ x, (enc x).length = sz) : At enc sz w (some ⟨g, 0, none⟩) l := fun i hi =>
  ⟨g, 0, rfl, h.lt, fun j hj => by rw [Nat.zero_add]; exact h.cell hs i hi j hj⟩
/-- The world with a run of cells written over. -/
def setW (w : World) (g o : Nat) : List Value → World
  | [] => w
  | v :: vs => setW (w.setCell ⟨g, o, none⟩ v) g (o + 1) vs
theorem setW_blk : ∀ (vs : List Value) {w : World} {g o : Nat} {xs : List Value} {t : TypeId}, w.heap[g]? = some (.cells xs.toArray t (0, 0)) → (setW w g o vs).heap[g]? = some (.cells (setRun xs o vs).toArray t (0, 0)) := by
  intro vs
  induction vs with
  | nil => intro w g o xs t h; exact h
  | cons v vs ih =>
    intro w g o xs t h
    refine ih (xs := xs.set o v) ?_
    unfold World.setCell
    simp only [Array.getElem?_modify]
    rw [if_pos trivial, h]
    simp
theorem Blk.set {enc : α → List Value} {sz : Nat} {t : TypeId} {w : World} {g : Nat} {l : List α} (h : Blk enc t w g l) (hs : ∀ x, (enc x).length = sz) (i : Nat) (hi : i < l.length) (x : α) : Blk enc t (setW w g (i * sz) (enc x)) g (l.set i x) := by
  have h2 := setW_blk (enc x) (o := i * sz) h
  rw [flat_set enc sz hs l i x hi] at h2
  exact h2
theorem setW_below {B : Nat} {a : World} {g : Nat} (hg : B ≤ g) : ∀ (vs : List Value) {w : World} {o : Nat}, Below B a w → Below B a (setW w g o vs) := by
  intro vs
  induction vs with
  | nil => intro w o h; exact h
  | cons v vs ih => intro w o h; exact ih (h.setCell (p := ⟨g, o, none⟩) hg v)
theorem setW_other {g g' : Nat} (hne : g' ≠ g) : ∀ (vs : List Value) {w : World} {o : Nat}, (setW w g o vs).heap[g']? = w.heap[g']? := by
  intro vs
  induction vs with
  | nil => intro w o; rfl
  | cons v vs ih => intro w o; exact (ih (w := w.setCell ⟨g, o, none⟩ v)).trans (Below.heap_setCell _ _ _ _ hne)
/-- What 'make' lays. -/
theorem made_flat (h : ∀ x, (enc x).length = sz) (hz : 0 < sz) (x : α) (z : Array Value) (he : z.toList = enc x) (n : Nat) : madeCells z (n * sz) = (flat enc (List.replicate n x)).toArray := by
  have hzs : z.size = sz := by rw [← Array.length_toList, he, h]
  apply Array.ext_getElem?
  intro k
  by_cases hk : k < n * sz
  · have hq : k / sz < n := Nat.div_lt_of_lt_mul (by rw [Nat.mul_comm]; exact hk)
    have hr : k % sz < sz := Nat.mod_lt _ hz
    have hf := flat_at enc sz h (List.replicate n x) (k / sz) (by simpa using hq) (k % sz) hr
    have ek : k / sz * sz + k % sz = k := Nat.div_add_mod' k sz
    rw [ek] at hf
    have h1 : (madeCells z (n * sz))[k]? = some (z[k % z.size]!) := by simp [madeCells, hk]
    rw [h1, hzs]
    have h2 : (flat enc (List.replicate n x)).toArray[k]? = (enc x)[k % sz]? := by
      rw [List.getElem?_toArray, hf]
      simp
    rw [h2, ← he]
    have h3 : k % sz < z.size := by omega
    rw [getElem!_pos z (k % sz) h3, Array.getElem?_toList, Array.getElem?_eq_getElem h3]
  · have h1 : (madeCells z (n * sz)).size ≤ k := by simp [madeCells]; omega
    have h2 : (flat enc (List.replicate n x)).toArray.size ≤ k := by
      rw [List.size_toArray, flat_length enc sz h]
      simp
      omega
    rw [Array.getElem?_eq_none h1, Array.getElem?_eq_none h2]
/-- A row of the call's own. -/
theorem own_at {enc : α → List Value} {sz : Nat} {w : World} {base : Nat} {e : TypeId} {v : Value} {l : List α} (hs : ∀ x, (enc x).length = sz) (h : w.ownsRow base e sz v l.length (flat enc l)) : ∃ a cap, v = .slice a l.length cap ∧ At enc sz w a l := by
  rcases h.2 with ⟨rfl, hn⟩ | ⟨g, cap, cur, rfl, hg, hblk, _⟩
  · exact ⟨none, 0, by rw [hn], fun i hi => by omega⟩
  · refine ⟨_, cap, rfl, fun i hi => ⟨g, 0, rfl, ?_, fun j hj => ?_⟩⟩
    · rcases Nat.lt_or_ge g w.heap.size with h' | h'
      · exact h'
      · rw [Array.getElem?_eq_none h'] at hblk; cases hblk
    · have hf := flat_at enc sz hs l i hi j hj
      have hj' : j < (enc l[i]).length := by rw [hs]; exact hj
      rw [List.getElem?_eq_getElem hj'] at hf ⊢
      have := h.cells rfl (i * sz + j) _ hf
      have ea : (⟨g, 0, none⟩ : Addr).add (i * sz + j) = ⟨g, 0 + (i * sz + j), none⟩ := by unfold Addr.add; split <;> simp_all
      rw [ea] at this
      exact this
end
end GR
end Go.Proofs.YtiinpdkgnflmeaaDoor
namespace Go.Proofs.YtiinpdkgnflmeaaDoor
namespace GR
open Go.RowKit
variable {α : Type} {enc : α → List Value} {sz : Nat}

theorem At.news {w : World} {x : Addr} {l : List α} (hs : ∀ y, (enc y).length = sz) (hz : 0 < sz) (h : At enc sz w (some x) l) : ∀ j u, (flat enc l)[j]? = some u → w.cell? (x.add j) = some u := by
  intro j u hu
  have hj : j < l.length * sz := by
    have := (List.getElem?_eq_some_iff.1 hu).1
    rwa [flat_length enc sz hs] at this
  have hq : j / sz < l.length := Nat.div_lt_of_lt_mul (by rw [Nat.mul_comm]; exact hj)
  have hr : j % sz < sz := Nat.mod_lt _ hz
  obtain ⟨g, off, e, hg, hc⟩ := h (j / sz) hq
  have hf := flat_at enc sz hs l (j / sz) hq (j % sz) hr
  have ej : j / sz * sz + j % sz = j := Nat.div_add_mod' j sz
  rw [ej] at hf
  have h2 := hc (j % sz) hr
  rw [ej, ← hf, hu] at h2
  injection e with e
  subst e
  have ea : (⟨g, off, none⟩ : Addr).add j = ⟨g, off + j, none⟩ := by unfold Addr.add; split <;> simp_all
  rw [ea]
  exact h2
theorem flat_oneCell (h1 : ∀ y, ∀ u ∈ enc y, u.oneCell' = true) (l : List α) : ∀ u ∈ flat enc l, u.oneCell' = true := by
  intro u hu
  unfold flat at hu
  rw [List.mem_flatMap] at hu
  obtain ⟨p, _, hp⟩ := hu
  exact h1 p u hp
theorem own_below {w w' : World} {B : Nat} {e : TypeId} {sz : Nat} {v : Value} {n : Nat} {xs : List Value} (h : w.ownsRow B e sz v n xs) (hb : Below w.heap.size w w') : w'.ownsRow B e sz v n xs :=
  h.kept (row := none) ⟨hb.os, hb.tape, hb.output, hb.size, fun k hk _ => hb.block k hk⟩ (by cases v.ownBlock with | none => exact .inl rfl | some k => exact .inr (by simp))
theorem own_lower {w : World} {b b' : Nat} {e : TypeId} {sz : Nat} {v : Value} {n : Nat} {xs : List Value} (h : w.ownsRow b e sz v n xs) (hb : b' ≤ b) : w.ownsRow b' e sz v n xs := by
  refine ⟨h.1, ?_⟩
  rcases h.2 with h2 | ⟨g, cap, cur, hv, hg, hr⟩
  · exact .inl h2
  · exact .inr ⟨g, cap, cur, hv, Nat.le_trans hb hg, hr⟩
theorem below_append {w wr w1 : World} {B : Nat} {e : TypeId} {sz : Nat} {v : Value} {n : Nat} {xs : List Value} {o : Obj} (hb : Below B w wr) (hB : B ≤ wr.heap.size) (hown : wr.ownsRow B e sz v n xs) (hg : (wr.alloc o).grownBy w1 v.ownBlock) : Below B w w1 :=
  (hb.alloc hB o).grown hg (by simp; omega) (fun k hk => (hown.lt k hk).1)
theorem none_nil {w : World} {l : List α} (h : At enc sz w none l) : l = [] := by
  cases l with
  | nil => rfl
  | cons y l =>
    obtain ⟨g, off, e, _⟩ := h 0 (by simp)
    cases e
end GR
end Go.Proofs.YtiinpdkgnflmeaaDoor
namespace Go.Proofs.YtiinpdkgnflmeaaDoor
open Go.RowKit
open Mth

theorem obj_lt {w : World} {g : Nat} {o : Obj} (h : w.heap[g]? = some o) : g < w.heap.size := by
  rcases Nat.lt_or_ge g w.heap.size with h' | h'
  · exact h'
  · rw [Array.getElem?_eq_none h'] at h; cases h
/-- All blocks but some read as before; new ones may lie behind. -/
structure KeepsL (F : List Nat) (w w' : World) : Prop where
  os : w'.os = w.os
  tape : w'.tape = w.tape
  output : w'.output = w.output
  size : w.heap.size ≤ w'.heap.size
  block : ∀ k, k < w.heap.size → k ∉ F → w'.heap[k]? = w.heap[k]?
theorem KeepsL.refl (F : List Nat) (w : World) : KeepsL F w w := ⟨rfl, rfl, rfl, Nat.le_refl _, fun _ _ _ => rfl⟩
theorem KeepsL.trans {F : List Nat} {a b c : World} (h : KeepsL F a b) (k : KeepsL F b c) : KeepsL F a c :=
  ⟨k.os.trans h.os, k.tape.trans h.tape, k.output.trans h.output, Nat.le_trans h.size k.size, fun i hi hg => (k.block i (Nat.lt_of_lt_of_le hi h.size) hg).trans (h.block i hi hg)⟩
theorem KeepsL.mono {F F' : List Nat} {a b : World} (h : KeepsL F a b) (hs : ∀ x ∈ F, x ∈ F') : KeepsL F' a b :=
  ⟨h.os, h.tape, h.output, h.size, fun i hi hg => h.block i hi (fun hx => hg (hs i hx))⟩
theorem KeepsL.of_below {F : List Nat} {w w' : World} (h : Below w.heap.size w w') : KeepsL F w w' := ⟨h.os, h.tape, h.output, h.size, fun k hk _ => h.block k hk⟩
theorem KeepsL.set {g i : Nat} {w : World} (v : Value) : KeepsL [g] w (w.setCell ⟨g, i, none⟩ v) :=
  ⟨rfl, rfl, rfl, by simp [World.setCell], fun k _ hg => Below.heap_setCell _ _ _ _ (by simpa using hg)⟩
theorem KeepsL.below {F : List Nat} {B : Nat} {w w' : World} (h : KeepsL F w w') (hB : ∀ x ∈ F, B ≤ x) (hs : B ≤ w.heap.size) : Below B w w' :=
  ⟨h.os, h.tape, h.output, h.size, fun k hk => h.block k (by omega) (fun hx => by have := hB k hx; omega)⟩
theorem KeepsL.obj {F : List Nat} {w w' : World} {g : Nat} {o : Obj} (hk : KeepsL F w w') (h : w.heap[g]? = some o) (hg : g ∉ F) : w'.heap[g]? = some o := by
  rw [hk.block g (obj_lt h) hg]; exact h

/-- The block of a row that has something. -/
def fp {α : Type} (g : Nat) (l : List α) : List Nat := if l.isEmpty then [] else [g]
theorem fp_mem {α : Type} {g : Nat} {l : List α} (h : 0 < l.length) : g ∈ fp g l := by
  unfold fp
  cases l with
  | nil => simp at h
  | cons x l => simp
theorem of_fp {α : Type} {g x : Nat} {l : List α} (h : x ∈ fp g l) : x = g ∧ 0 < l.length := by
  unfold fp at h
  cases l with
  | nil => simp at h
  | cons y l => simpa using h
theorem fp_sub {α : Type} {g : Nat} {l : List α} : ∀ x ∈ fp g l, x ∈ [g] := fun x hx => by simp [(of_fp hx).1]
theorem fp_nodup {α : Type} (g : Nat) (l : List α) : (fp g l).Nodup := by unfold fp; split <;> simp
namespace GR
variable {α : Type}
/-- A row in a block of its own, which may be written. -/
def W (enc : α → List Value) (sz : Nat) (w : World) (a : Option Addr) (g : Nat) (l : List α) : Prop := ∀ i (hi : i < l.length), a = some ⟨g, 0, none⟩ ∧ g < w.heap.size ∧ ∀ j, j < sz → w.cell? ⟨g, i * sz + j, none⟩ = (enc l[i])[j]? ∧ w.frozen? ⟨g, i * sz + j, none⟩ = false
variable {enc : α → List Value} {sz : Nat}
theorem W.at {w : World} {a : Option Addr} {g : Nat} {l : List α} (h : W enc sz w a g l) : At enc sz w a l := fun i hi =>
  ⟨g, 0, (h i hi).1, (h i hi).2.1, fun j hj => by rw [Nat.zero_add]; exact ((h i hi).2.2 j hj).1⟩
theorem W.of_blk {w : World} {t : TypeId} {g : Nat} {l : List α} (hs : ∀ x, (enc x).length = sz) (h : Blk enc t w g l) : W enc sz w (some ⟨g, 0, none⟩) g l := fun i hi =>
  ⟨rfl, Blk.lt h, fun j hj => ⟨Blk.cell h hs i hi j hj, Blk.free h _⟩⟩
theorem W.nil {w : World} {a : Option Addr} {g : Nat} : W enc sz w a g [] := fun i hi => by simp at hi
theorem W.keeps {F : List Nat} {w w' : World} {a : Option Addr} {g : Nat} {l : List α} (h : W enc sz w a g l) (hk : KeepsL F w w') (hd : ∀ x ∈ fp g l, x ∉ F) : W enc sz w' a g l := fun i hi => by
  obtain ⟨e, hg, hc⟩ := h i hi
  have hne : g ∉ F := hd g (fp_mem (by omega))
  exact ⟨e, Nat.lt_of_lt_of_le hg hk.size, fun j hj => ⟨(World.cell?_of_block (w := w) (hk.block g hg hne)).trans (hc j hj).1, (World.frozen?_of_block (w := w) (hk.block g hg hne)).trans (hc j hj).2⟩⟩
theorem W.below {w w' : World} {a : Option Addr} {g : Nat} {l : List α} (h : W enc sz w a g l) (hb : Below w.heap.size w w') : W enc sz w' a g l := h.keeps (F := []) (KeepsL.of_below hb) (fun _ _ => by simp)
/-- Of a row of the call's own. -/
theorem W.of_own {w : World} {B : Nat} {t : TypeId} {v : Value} {l : List α} (hs : ∀ x, (enc x).length = sz) (h : w.ownsRow B t sz v l.length (flat enc l)) : ∃ a c g, v = .slice a l.length c ∧ W enc sz w a g l ∧ (∀ x ∈ fp g l, B ≤ x ∧ x < w.heap.size) ∧ (∀ x ∈ fp g l, v.ownBlock = some x) := by
  obtain ⟨a, c, rfl, hat⟩ := own_at hs h
  rcases h.2 with ⟨hv, hn⟩ | ⟨g, cap, cur, hv, hg, hblk, _⟩
  · have hl : l = [] := List.eq_nil_of_length_eq_zero hn
    subst hl
    exact ⟨_, _, 0, rfl, W.nil, fun x hx => by simp [fp] at hx, fun x hx => by simp [fp] at hx⟩
  · cases hv
    refine ⟨_, _, g, rfl, fun i hi => ?_, fun x hx => ?_, fun x hx => ?_⟩
    · obtain ⟨g', off', e, hg', hc⟩ := hat i hi
      cases e
      refine ⟨rfl, hg', fun j hj => ⟨?_, ?_⟩⟩
      · have := hc j hj
        rwa [Nat.zero_add] at this
      · unfold World.frozen?; rw [hblk]; simp
    · rw [(of_fp hx).1]; exact ⟨hg, obj_lt hblk⟩
    · rw [(of_fp hx).1]; rfl
end GR
end Go.Proofs.YtiinpdkgnflmeaaDoor
namespace Go.Proofs.YtiinpdkgnflmeaaDoor.Mth
open Go.Lib (decDigits itoa)

/-- By the last element. -/
theorem snoc_ind {p : List UInt8 → Prop} (h0 : p []) (h1 : ∀ r c, p r → p (r ++ [c])) (l : List UInt8) : p l := by
  have h : ∀ (n : Nat) (l : List UInt8), l.length = n → p l := by
    intro n
    induction n with
    | zero => intro l hl; rw [List.length_eq_zero_iff.1 hl]; exact h0
    | succ n ih =>
      intro l hl
      rcases List.eq_nil_or_concat l with rfl | ⟨r, c, rfl⟩
      · exact h0
      · rw [List.concat_eq_append] at hl ⊢
        exact h1 r c (ih r (by simpa using hl))
  exact h l.length l rfl

def isDig (c : UInt8) : Prop := 48 ≤ c.toNat ∧ c.toNat ≤ 57
/-- What digits are worth. -/
def val10 (l : List UInt8) : Nat := l.foldl (fun n c => n * 10 + (c.toNat - 48)) 0
theorem val10_snoc (l : List UInt8) (c : UInt8) : val10 (l ++ [c]) = val10 l * 10 + (c.toNat - 48) := by simp [val10]
/-- The texts that are read: digits, at least one and at most nine, with no nought ahead. -/
def decOk (l : List UInt8) : Prop := l ≠ [] ∧ (∀ c ∈ l, isDig c) ∧ (l.headD 0 ≠ 48 ∨ l.length = 1) ∧ l.length ≤ 9
theorem val10_lt (l : List UInt8) : (∀ c ∈ l, isDig c) → val10 l < 10 ^ l.length := by
  induction l using snoc_ind with
  | h0 => simp [val10]
  | h1 r c ih0 =>
    intro h
    have ih := ih0 (fun x hx => h x (by simp [hx]))
    have hc := h c (by simp)
    unfold isDig at hc
    rw [val10_snoc, List.length_append, List.length_singleton, Nat.pow_succ]
    omega
theorem digits_small (v : Nat) (h : v < 10) : decDigits v = [UInt8.ofNat (48 + v)] := by rw [decDigits, dif_pos h]
theorem digits_big (v : Nat) (h : ¬ v < 10) : decDigits v = decDigits (v / 10) ++ [UInt8.ofNat (48 + v % 10)] := by rw [decDigits, dif_neg h]
theorem headD_append (r : List UInt8) (c : UInt8) (h : r ≠ []) : (r ++ [c]).headD 0 = r.headD 0 := by
  cases r with
  | nil => exact absurd rfl h
  | cons x t => rfl
theorem val10_pos (l : List UInt8) : l ≠ [] → (∀ c ∈ l, isDig c) → l.headD 0 ≠ 48 → 10 ^ (l.length - 1) ≤ val10 l := by
  induction l using snoc_ind with
  | h0 => intro hne; exact absurd rfl hne
  | h1 r c ih0 =>
    intro _ h h0
    have hc := h c (by simp)
    unfold isDig at hc
    rw [val10_snoc, List.length_append, List.length_singleton]
    by_cases hr : r = []
    · subst hr
      have : c.toNat ≠ 48 := fun e => h0 (by show c = 48; exact UInt8.toNat_inj.1 e)
      simp [val10]; omega
    · have ih := ih0 hr (fun x hx => h x (by simp [hx])) (by rw [← headD_append r c hr]; exact h0)
      have hl : 0 < r.length := List.length_pos_iff.2 hr
      obtain ⟨m, hm⟩ : ∃ m, r.length = m + 1 := ⟨r.length - 1, by omega⟩
      rw [hm] at ih ⊢
      simp only [Nat.add_sub_cancel] at ih ⊢
      rw [Nat.pow_succ]; omega
/-- A text of digits with no nought ahead is put for what it is worth. -/
theorem digits_val (l : List UInt8) : l ≠ [] → (∀ c ∈ l, isDig c) → (l.headD 0 ≠ 48 ∨ l.length = 1) → decDigits (val10 l) = l := by
  induction l using snoc_ind with
  | h0 => intro hne; exact absurd rfl hne
  | h1 r c ih0 =>
    intro _ h h0
    have hc := h c (by simp)
    unfold isDig at hc
    have e0 : UInt8.ofNat (48 + (c.toNat - 48)) = c := by
      have : 48 + (c.toNat - 48) = c.toNat := by omega
      rw [this]; simp
    rw [val10_snoc]
    by_cases hr : r = []
    · subst hr
      have : val10 [] = 0 := rfl
      rw [this, Nat.zero_mul, Nat.zero_add, digits_small _ (by omega), e0]; rfl
    · have hl : 0 < r.length := List.length_pos_iff.2 hr
      have h1 : r.headD 0 ≠ 48 := by
        rcases h0 with h0 | h0
        · rw [headD_append r c hr] at h0; exact h0
        · rw [List.length_append, List.length_singleton] at h0; omega
      have hd : ∀ x ∈ r, isDig x := fun x hx => h x (by simp [hx])
      have hp := val10_pos r hr hd h1
      have hp' : 1 ≤ val10 r := Nat.le_trans (Nat.one_le_pow _ _ (by omega)) hp
      rw [digits_big _ (by omega)]
      have e1 : (val10 r * 10 + (c.toNat - 48)) / 10 = val10 r := by omega
      have e2 : (val10 r * 10 + (c.toNat - 48)) % 10 = c.toNat - 48 := by omega
      rw [e1, e2, e0, ih0 hr hd (.inl h1)]
theorem digits_head (v : Nat) : 0 < v → (decDigits v).headD 0 ≠ 48 ∧ decDigits v ≠ [] := by
  induction v using Nat.strongRecOn with
  | ind v ih =>
  intro h
  by_cases hs : v < 10
  · rw [digits_small v hs]
    refine ⟨?_, by simp⟩
    show UInt8.ofNat (48 + v) ≠ 48
    intro e
    have := congrArg UInt8.toNat e
    rw [toNat_byte _ (by omega)] at this
    simp at this; omega
  · obtain ⟨h1, h2⟩ := ih (v / 10) (by omega) (by omega)
    rw [digits_big v hs]
    refine ⟨?_, by simp⟩
    rw [headD_append _ _ h2]; exact h1
theorem digits_nought (l : List UInt8) (h0 : l.headD 0 = 48) (h1 : l.length ≠ 1) : ∀ v, decDigits v ≠ l := by
  intro v e
  rcases Nat.eq_zero_or_pos v with rfl | hv
  · rw [digits_small 0 (by omega)] at e
    exact h1 (by rw [← e]; rfl)
  · exact (digits_head v hv).1 (by rw [e]; exact h0)
/-- The same, to be reckoned. -/
def decOkB (l : List UInt8) : Bool := !l.isEmpty && l.all (fun c => decide (48 ≤ c.toNat ∧ c.toNat ≤ 57)) && (l.headD 0 != 48 || l.length == 1) && decide (l.length ≤ 9)
theorem decOkB_iff (l : List UInt8) : decOkB l = true ↔ decOk l := by
  unfold decOkB decOk isDig
  simp [and_assoc]
end Go.Proofs.YtiinpdkgnflmeaaDoor.Mth
namespace Go.Proofs.YtiinpdkgnflmeaaDoor
open Go.RowKit
open Go.Lib (decDigits itoa)

/-- The digits that are still to come; none for nought. -/
def leftDigits (a : Nat) : List UInt8 := if a = 0 then [] else decDigits a
theorem left_step (a : Nat) (l t : List UInt8) (h0 : a ≠ 0) (h : leftDigits a ++ l = t) : leftDigits (a / 10) ++ (UInt8.ofNat (48 + a % 10) :: l) = t := by
  unfold leftDigits at *
  rw [if_neg h0] at h
  by_cases hs : a < 10
  · have e1 : a / 10 = 0 := by omega
    have e2 : a % 10 = a := by omega
    rw [Mth.digits_small a hs] at h
    rw [e1, e2, if_pos rfl]; simpa using h
  · rw [Mth.digits_big a hs] at h
    rw [if_neg (by omega), ← h]; simp
/-- A digit cut out of the ten. -/
theorem ten_at : ∀ d : Fin 10, (ByteArray.mk #[48, 49, 50, 51, 52, 53, 54, 55, 56, 57]).extract d.1 (d.1 + 1) = ⟨#[UInt8.ofNat (48 + d.1)]⟩ := by decide +kernel
theorem ten_add (d : Nat) (hd : d < 10) (l : List UInt8) : (ByteArray.mk #[48, 49, 50, 51, 52, 53, 54, 55, 56, 57]).extract d (d + 1) ++ ⟨l.toArray⟩ = ⟨(UInt8.ofNat (48 + d) :: l).toArray⟩ := by
  rw [ten_at ⟨d, hd⟩]
  apply ByteArray.ext
  simp

set_option maxHeartbeats 1000000 in
set_option maxRecDepth 100000 in
theorem specDec_pos (n : Nat) (w : World) (h0 : 0 < n) (hn : (n : Int) ≤ 9223372036854775807) :
    Calls Tryd.prog 33 #[.int .i64 n] w fun e w' => e = .returned (.string ⟨(decDigits n).toArray⟩) ∧ w = w' := by
  have hlen : (decDigits n).length ≤ 21 := by have := Lib.itoa_length_le n (by omega) hn; rw [Lib.itoa, if_neg (by omega)] at this; simpa using this
  have hne : ((n : Int) == 0) = false := beq_eq_false_iff_ne.2 (by omega)
  go_enter Tryd.func33, Tryd.ntmps33
  go_wp2
  go_loop [3, 4] (fun o m => ∃ (a : Nat) (l : List UInt8), a ≤ n ∧ m = .int .i64 a ∧ o = .string ⟨l.toArray⟩ ∧ leftDigits a ++ l = decDigits n) (fun _ m => (intOf m).toNat)
  case atStart => exact ⟨n, [], Nat.le_refl _, rfl, rfl, by unfold leftDigits; rw [if_neg (by omega)]; simp⟩
  case round =>
    obtain ⟨a, l, ha, rfl, rfl, hl⟩ := hrel
    have HL := hide hl
    have hll : l.length ≤ 21 := by have := congrArg List.length hl; rw [List.length_append] at this; omega
    clear hl
    by_cases hz : a = 0
    · subst hz
      have HE := hide (show l = decDigits n by have := unhide HL; simpa [leftDigits] using this)
      clear HL
      go_wp2
      go_ret
      exact ⟨ret_string (by rw [unhide HE]), rfl⟩
    · have HS := hide (left_step a l _ hz (unhide HL))
      have hA := hide (ten_add (a % 10) (by omega) l)
      have hne2 : ((a : Int) == 0) = false := beq_eq_false_iff_ne.2 (by omega)
      clear HL
      go_wp2
      go_round
      case rel => exact ⟨a / 10, _, by omega, by go_num, by rw [unhide hA], unhide HS⟩
      case measure => simp [intOf]; omega

theorem neg_tmod (a : Nat) : (-(a : Int)).tmod 10 = -((a : Int) % 10) := by rw [Int.neg_tmod, Int.tmod_eq_emod_of_nonneg (by omega)]
theorem neg_tdiv (a : Nat) : (-(a : Int)).tdiv 10 = -((a : Int) / 10) := by rw [Int.neg_tdiv, Int.tdiv_eq_ediv_of_nonneg (by omega)]
theorem minus_add (l : List UInt8) : (ByteArray.mk #[45]) ++ ⟨l.toArray⟩ = ⟨(45 :: l).toArray⟩ := by
  apply ByteArray.ext; simp

set_option maxHeartbeats 1000000 in
set_option maxRecDepth 100000 in
theorem specDec_neg (n : Nat) (w : World) (h0 : 0 < n) (hn : (n : Int) ≤ 9223372036854775808) :
    Calls Tryd.prog 33 #[.int .i64 (-(n : Int))] w fun e w' => e = .returned (.string ⟨(45 :: decDigits n).toArray⟩) ∧ w = w' := by
  have hlen : (decDigits n).length ≤ 21 := by have := Lib.itoa_length_le (-(n : Int)) (by omega) (by omega); rw [Lib.itoa, if_pos (by omega)] at this; simp at this; omega
  have hne : (-(n : Int) == 0) = false := beq_eq_false_iff_ne.2 (by omega)
  go_enter Tryd.func33, Tryd.ntmps33
  go_wp2
  go_loop [3, 4] (fun o m => ∃ (a : Nat) (l : List UInt8), a ≤ n ∧ m = .int .i64 (-(a : Int)) ∧ o = .string ⟨l.toArray⟩ ∧ leftDigits a ++ l = decDigits n) (fun _ m => (intOf m).natAbs)
  case atStart => exact ⟨n, [], Nat.le_refl _, rfl, rfl, by unfold leftDigits; rw [if_neg (by omega)]; simp⟩
  case round =>
    obtain ⟨a, l, ha, rfl, rfl, hl⟩ := hrel
    have HL := hide hl
    have hll : l.length ≤ 21 := by have := congrArg List.length hl; rw [List.length_append] at this; omega
    clear hl
    by_cases hz : a = 0
    · subst hz
      have HE := hide (show l = decDigits n by have := unhide HL; simpa [leftDigits] using this)
      have hA := hide (minus_add l)
      clear HL
      go_wp2
      go_ret
      exact ⟨ret_string (by rw [← unhide HE]; exact unhide hA), rfl⟩
    · have HS := hide (left_step a l _ hz (unhide HL))
      have hA := hide (ten_add (a % 10) (by omega) l)
      have hne2 : (-(a : Int) == 0) = false := beq_eq_false_iff_ne.2 (by omega)
      have hm := neg_tmod a
      have hq := neg_tdiv a
      clear HL
      have E1 := hide (show (-((a : Int) % 10)).toNat = a % 10 ∨ a % 10 ≠ 0 by omega)
      have E2 := hide (show (-((a : Int) % 10) + 1).toNat = a % 10 + 1 ∨ a % 10 ≠ 0 by omega)
      by_cases hd : a % 10 = 0
      · have E1' := hide ((unhide E1).resolve_right (fun h => h hd))
        have E2' := hide ((unhide E2).resolve_right (fun h => h hd))
        go_wp2
        go_round
        case rel => exact ⟨a / 10, _, by omega, by go_num, by rw [unhide E1', unhide E2', unhide hA], unhide HS⟩
        case measure => simp [intOf]; omega
      · go_wp2
        go_round
        case rel => exact ⟨a / 10, _, by omega, by go_num, by rw [unhide hA], unhide HS⟩
        case measure => simp [intOf]; omega

theorem specDec_zero (w : World) : Calls Tryd.prog 33 #[.int .i64 0] w fun e w' => e = .returned (.string ⟨#[48]⟩) ∧ w = w' := by
  go_enter Tryd.func33, Tryd.ntmps33
  go_wp2
  go_ret
  exact ⟨rfl, rfl⟩

/-- The decimal text of every number. -/
theorem specDec (n : Int) (w : World) (h0 : -9223372036854775808 ≤ n) (h1 : n ≤ 9223372036854775807) : Calls Tryd.prog 33 #[.int .i64 n] w fun e w' => e = .returned (.string ⟨(itoa n).toArray⟩) ∧ w = w' := by
  rcases Int.lt_trichotomy n 0 with h | h | h
  · obtain ⟨k, hk⟩ : ∃ k : Nat, n = -(k : Int) := ⟨n.natAbs, by omega⟩
    subst hk
    have e : itoa (-(k : Int)) = 45 :: decDigits k := by unfold itoa; rw [if_pos h]; simp
    rw [e]
    exact specDec_neg k w (by omega) (by omega)
  · subst h
    have e : itoa 0 = [48] := by unfold itoa; rw [if_neg (by omega)]; exact Mth.digits_small 0 (by omega)
    rw [e]
    exact specDec_zero w
  · obtain ⟨k, rfl⟩ := Int.eq_ofNat_of_zero_le (show 0 ≤ n by omega)
    have e : itoa (k : Int) = decDigits k := by unfold itoa; rw [if_neg (by omega)]; rfl
    have h' : 0 < k := by omega
    show Calls _ _ #[.int .i64 (k : Int)] w fun e w' => e = .returned (.string ⟨(itoa (k : Int)).toArray⟩) ∧ w = w'
    rw [e]
    exact specDec_pos k w h' h1
end Go.Proofs.YtiinpdkgnflmeaaDoor
namespace Go.Proofs.YtiinpdkgnflmeaaDoor
open Go.RowKit
open Go.Lib (decDigits)

/-- The mark of a number above 0. -/
def mark (k : Nat) : ByteArray := ⟨(109 :: decDigits k).toArray⟩
theorem one_add (b : UInt8) (l : List UInt8) : (ByteArray.mk #[b]) ++ ⟨l.toArray⟩ = ⟨(b :: l).toArray⟩ := by
  apply ByteArray.ext; simp
theorem conv_one (w : World) (z : Int) (b : UInt8) (hz : z = b.toNat) (cap : Nat) : (convert 68 9 (.slice (some ⟨w.heap.size, 0, none⟩) 1 cap)).run Tryd.prog (w.alloc (.cells #[.int .u8 z] 5)) = .ok (.string ⟨#[b]⟩) (w.alloc (.cells #[.int .u8 z] 5)) := by
  subst hz
  have := run_convert_bytes_back (P := Tryd.prog) (w.alloc (.cells #[.int .u8 (b.toNat : Int)] 5)) 68 9 5 ⟨w.heap.size, 0, none⟩ cap [b] Tryd.underlying68 Tryd.underlying5 Tryd.underlying9 (fun j hj => by
    have : j = 0 := by simpa using hj
    subst this; simp [Addr.add])
  simpa using this

set_option maxHeartbeats 1000000 in
set_option maxRecDepth 100000 in
theorem markText (k : Nat) (w : World) (h0 : 0 < k) (hk : (k : Int) ≤ 9223372036854775807) :
    Calls Tryd.prog 30 #[.int .i64 k] w fun e w' => e = .returned (.string (mark k)) ∧ Below w.heap.size w w' := by
  have hlen : (decDigits k).length ≤ 21 := by have := Lib.itoa_length_le k (by omega) hk; rw [Lib.itoa, if_neg (by omega)] at this; simpa using this
  have hpos : decide ((k : Int) ≤ 0) = false := by simp; omega
  go_enter Tryd.func30, Tryd.ntmps30
  go_wp2
  go_loopw [0, 3] (fun m o wr => ∃ (a : Nat) (l : List UInt8), a ≤ k ∧ m = .int .i64 a ∧ o = .string ⟨l.toArray⟩ ∧ leftDigits a ++ l = decDigits k ∧ Below w.heap.size w wr) (fun m _ _ => (intOf m).toNat)
  case atStart => exact ⟨k, [], Nat.le_refl _, rfl, rfl, by unfold leftDigits; rw [if_neg (by omega)]; simp, Below.refl _ _⟩
  case round =>
    obtain ⟨a, l, ha, rfl, rfl, hl, hbel⟩ := hrel
    have HL := hide hl
    have hll : l.length ≤ 21 := by have := congrArg List.length hl; rw [List.length_append] at this; omega
    clear hl
    by_cases hz : a = 0
    · subst hz
      have HE := hide (show l = decDigits k by have := unhide HL; simpa [leftDigits] using this)
      have hA := hide (one_add 109 l)
      clear HL
      go_wp2
      go_ret
      exact ⟨ret_string (by unfold mark; rw [← unhide HE]; exact unhide hA), hbel⟩
    · have HS := hide (left_step a l _ hz (unhide HL))
      obtain ⟨b, hb⟩ : ∃ b, b = UInt8.ofNat (48 + a % 10) := ⟨_, rfl⟩
      rw [← hb] at HS
      have hA := hide (one_add b l)
      have hconv := conv_one wr (48 + (a : Int) % 10) b (by rw [hb, Mth.toNat_byte _ (by omega)]; omega) 1
      clear HL hb
      go_wp2
      go_roundw
      case rel => exact ⟨a / 10, _, by omega, by go_num, by rw [unhide hA], unhide HS, by first | exact hbel.alloc (by have := hbel.size; omega) _ | exact (hbel.alloc (by have := hbel.size; omega) _).drew⟩
      case measure => simp [intOf]; omega
end Go.Proofs.YtiinpdkgnflmeaaDoor
namespace Go.Proofs.YtiinpdkgnflmeaaDoor
open Go.RowKit

/-- A block that holds just these texts. -/
def strBlock (w : World) (g : Nat) (xs : List ByteArray) : Prop := w.heap[g]? = some (.cells (xs.map Value.string).toArray 9 (0, 0))
theorem strBlock.cell {w : World} {g : Nat} {xs : List ByteArray} (h : strBlock w g xs) (i : Nat) (hi : i < xs.length) : w.cell? ⟨g, i, none⟩ = some (.string xs[i]) := by
  rw [cell_of_row w g i _ 9 (0, 0) h]; simp [hi]
theorem strBlock.free {w : World} {g : Nat} {xs : List ByteArray} (h : strBlock w g xs) (i : Nat) : w.frozen? ⟨g, i, none⟩ = false := by
  unfold World.frozen?; rw [h]; simp
theorem strBlock.lt {w : World} {g : Nat} {xs : List ByteArray} (h : strBlock w g xs) : g < w.heap.size := by
  rcases Nat.lt_or_ge g w.heap.size with h' | h'
  · exact h'
  · rw [strBlock, Array.getElem?_eq_none h'] at h; cases h
theorem strBlock.below {w w' : World} {g B : Nat} {xs : List ByteArray} (h : strBlock w g xs) (hb : Below B w w') (hg : g < B) : strBlock w' g xs := by
  unfold strBlock; rw [hb.block g hg]; exact h
theorem strBlock.set {w : World} {g : Nat} {xs : List ByteArray} (h : strBlock w g xs) (i : Nat) (t : ByteArray) : strBlock (w.setCell ⟨g, i, none⟩ (.string t)) g (xs.set i t) := by
  unfold strBlock World.setCell
  simp only [Array.getElem?_modify]
  rw [if_pos trivial, h]
  simp

/-- All but one block reads as before; new blocks may lie behind. -/
structure Keeps (g : Nat) (w w' : World) : Prop where
  os : w'.os = w.os
  tape : w'.tape = w.tape
  output : w'.output = w.output
  size : w.heap.size ≤ w'.heap.size
  block : ∀ k, k < w.heap.size → k ≠ g → w'.heap[k]? = w.heap[k]?
theorem Keeps.refl (g : Nat) (w : World) : Keeps g w w := ⟨rfl, rfl, rfl, Nat.le_refl _, fun _ _ _ => rfl⟩
theorem Keeps.trans {g : Nat} {a b c : World} (h : Keeps g a b) (k : Keeps g b c) : Keeps g a c :=
  ⟨k.os.trans h.os, k.tape.trans h.tape, k.output.trans h.output, Nat.le_trans h.size k.size, fun i hi hg => (k.block i (Nat.lt_of_lt_of_le hi h.size) hg).trans (h.block i hi hg)⟩
theorem Keeps.of_below {g : Nat} {w w' : World} (h : Below w.heap.size w w') : Keeps g w w' := ⟨h.os, h.tape, h.output, h.size, fun k hk _ => h.block k hk⟩
theorem Keeps.set {g i : Nat} {w : World} (v : Value) : Keeps g w (w.setCell ⟨g, i, none⟩ v) :=
  ⟨rfl, rfl, rfl, by simp [World.setCell], fun k _ hg => Below.heap_setCell _ _ _ _ hg⟩
theorem Keeps.below {g B : Nat} {w w' : World} (h : Keeps g w w') (hB : B ≤ g) (hs : B ≤ w.heap.size) : Below B w w' := ⟨h.os, h.tape, h.output, h.size, fun k hk => h.block k (by omega) (by omega)⟩
theorem strBlock.keeps {w w' : World} {g g' : Nat} {xs : List ByteArray} (h : strBlock w g' xs) (hk : Keeps g w w') (hne : g' ≠ g) : strBlock w' g' xs := by
  unfold strBlock; rw [hk.block g' h.lt hne]; exact h

theorem below_of_drewN {B q : Nat} {w w' : World} (h : Below B (w.drewN q) w') : Below B w w' := ⟨h.os, h.tape, h.output, h.size, h.block⟩
end Go.Proofs.YtiinpdkgnflmeaaDoor
namespace Go.Proofs.YtiinpdkgnflmeaaDoor
open Go.RowKit
open Mth

theorem setW_cell_otherN {g k : Nat} : ∀ (vs : List Value) (w : World) (o : Nat), k < o ∨ o + vs.length ≤ k → (GR.setW w g o vs).cell? ⟨g, k, none⟩ = w.cell? ⟨g, k, none⟩ := by
  intro vs
  induction vs with
  | nil => intro w o _; rfl
  | cons v vs ih =>
    intro w o h
    rw [List.length_cons] at h
    exact (ih (w.setCell ⟨g, o, none⟩ v) (o + 1) (by omega)).trans (World.cell?_setCell_other _ _ _ _ (by simp <;> omega))
theorem setW_cell_sameN {g : Nat} : ∀ (vs : List Value) (w : World) (o : Nat), (∀ j, j < vs.length → ∃ v, w.cell? ⟨g, o + j, none⟩ = some v) → ∀ j, j < vs.length → (GR.setW w g o vs).cell? ⟨g, o + j, none⟩ = vs[j]? := by
  intro vs
  induction vs with
  | nil => intro w o _ j hj; simp at hj
  | cons v vs ih =>
    intro w o h j hj
    cases j with
    | zero =>
      obtain ⟨v0, hv0⟩ := h 0 (by simp)
      rw [Nat.add_zero] at hv0 ⊢
      refine (setW_cell_otherN vs (w.setCell ⟨g, o, none⟩ v) (o + 1) (by omega)).trans ?_
      rw [World.cell?_setCell_same _ _ _ hv0]
      rfl
    | succ j =>
      have h2 := ih (w.setCell ⟨g, o, none⟩ v) (o + 1) (fun j' hj' => by
        obtain ⟨v1, hv1⟩ := h (j' + 1) (by simpa using hj')
        refine ⟨v1, (World.cell?_setCell_other _ _ _ _ (by simp <;> omega)).trans ?_⟩
        rw [← hv1, show o + 1 + j' = o + (j' + 1) by omega]) j (by simpa using hj)
      rw [show o + 1 + j = o + (j + 1) by omega] at h2
      exact h2
theorem setW_frozenN {g k : Nat} : ∀ (vs : List Value) (w : World) (o : Nat), (GR.setW w g o vs).frozen? ⟨g, k, none⟩ = w.frozen? ⟨g, k, none⟩ := by
  intro vs
  induction vs with
  | nil => intro w o; rfl
  | cons v vs ih => intro w o; exact (ih (w.setCell ⟨g, o, none⟩ v) (o + 1)).trans (by rw [World.frozen?_setCell])
theorem setW_sizeN {g : Nat} : ∀ (vs : List Value) (w : World) (o : Nat), (GR.setW w g o vs).heap.size = w.heap.size := by
  intro vs
  induction vs with
  | nil => intro w o; rfl
  | cons v vs ih => intro w o; exact (ih (w.setCell ⟨g, o, none⟩ v) (o + 1)).trans (by simp [World.setCell])
theorem setW_keeps {g : Nat} : ∀ (vs : List Value) (w : World) (o : Nat), KeepsL [g] w (GR.setW w g o vs) := by
  intro vs
  induction vs with
  | nil => intro w o; exact KeepsL.refl _ _
  | cons v vs ih => intro w o; exact (KeepsL.set v).trans (ih (w.setCell ⟨g, o, none⟩ v) (o + 1))
theorem GR.W.set {α : Type} {enc : α → List Value} {sz : Nat} {w : World} {a : Option Addr} {g : Nat} {l : List α} (hs : ∀ x, (enc x).length = sz) (h : GR.W enc sz w a g l) (k : Nat) (x : α) (hk : k < l.length) : GR.W enc sz (GR.setW w g (k * sz) (enc x)) a g (l.set k x) := fun i hi => by
  have hi' : i < l.length := by simpa using hi
  obtain ⟨e, hg, hc⟩ := h i hi'
  refine ⟨e, by rw [setW_sizeN]; exact hg, fun j hj => ⟨?_, by rw [setW_frozenN]; exact (hc j hj).2⟩⟩
  by_cases hik : i = k
  · subst hik
    rw [setW_cell_sameN (enc x) w (i * sz) (fun j' hj' => by
      have hj4 : j' < sz := by rw [hs] at hj'; exact hj'
      have h1 := (hc j' hj4).1
      rw [List.getElem?_eq_getElem (by rw [hs]; exact hj4)] at h1
      exact ⟨_, h1⟩) j (by rw [hs]; exact hj)]
    simp
  · have hcase : i * sz + j < k * sz ∨ k * sz + sz ≤ i * sz + j := by
      rcases Nat.lt_or_gt_of_ne hik with h' | h'
      · left
        have := Nat.mul_le_mul_right sz (show i + 1 ≤ k by omega)
        rw [Nat.add_mul, Nat.one_mul] at this
        omega
      · right
        have := Nat.mul_le_mul_right sz (show k + 1 ≤ i by omega)
        rw [Nat.add_mul, Nat.one_mul] at this
        omega
    rw [setW_cell_otherN (enc x) w (k * sz) (by rw [hs]; exact hcase), (hc j hj).1, List.getElem_set_ne (by omega)]
/-- The first k marked, by a number's own mark. -/
def mks {α : Type} (mk : Nat → α) (c s : Nat) (l : List α) (k : Nat) : List α := (List.range k).map (fun i => mk (s + c * i)) ++ l.drop k
theorem mks_length {α : Type} (mk : Nat → α) (c s : Nat) (l : List α) (k : Nat) (hk : k ≤ l.length) : (mks mk c s l k).length = l.length := by simp [mks]; omega
theorem mks_zero {α : Type} (mk : Nat → α) (c s : Nat) (l : List α) : mks mk c s l 0 = l := by simp [mks]
theorem mks_set {α : Type} (mk : Nat → α) (c s : Nat) (l : List α) (k : Nat) (hk : k < l.length) : (mks mk c s l k).set k (mk (s + c * k)) = mks mk c s l (k + 1) := by
  have e : l.drop k = l[k] :: l.drop (k + 1) := List.drop_eq_getElem_cons hk
  unfold mks
  rw [e, List.set_append_right _ _ (by simp)]
  simp only [List.length_map, List.length_range, Nat.sub_self, List.set_cons_zero, List.range_succ, List.map_append, List.map_cons, List.map_nil, List.append_assoc, List.cons_append, List.nil_append]
theorem mks_at {α : Type} (mk : Nat → α) (c s : Nat) (l : List α) (n k : Nat) (hk : k < n) (hn : n ≤ l.length) : (mks mk c s l n)[k]'(by rw [mks_length mk c s l n hn]; omega) = mk (s + c * k) := by
  unfold mks
  rw [List.getElem_append_left (by simpa using hk)]
  simp
theorem fp_keeps {α : Type} {g : Nat} {l : List α} {w w' : World} (h : KeepsL [g] w w') (hl : 0 < l.length) : KeepsL (fp g l) w w' := h.mono (fun x hx => by
  have : x = g := by simpa using hx
  rw [this]
  exact fp_mem hl)
theorem fp_len {α β : Type} {g : Nat} {l : List α} {l' : List β} (h : l.length = l'.length) : fp g l = fp g l' := by
  unfold fp
  cases l with
  | nil => cases l' with | nil => rfl | cons y l' => simp at h
  | cons x l => cases l' with | nil => simp at h | cons y l' => rfl

/-- A row, cell by cell. -/
def GR.C (w : World) (a : Option Addr) (g : Nat) (cs : List Value) : Prop := ∀ j (hj : j < cs.length), a = some ⟨g, 0, none⟩ ∧ g < w.heap.size ∧ w.cell? ⟨g, j, none⟩ = some cs[j] ∧ w.frozen? ⟨g, j, none⟩ = false
theorem GR.C.set {w : World} {a : Option Addr} {g : Nat} {cs : List Value} (h : GR.C w a g cs) (k : Nat) (v : Value) : GR.C (w.setCell ⟨g, k, none⟩ v) a g (cs.set k v) := fun j hj => by
  have hj' : j < cs.length := by simpa using hj
  obtain ⟨e, hg, hc, hf⟩ := h j hj'
  refine ⟨e, by simpa [World.setCell] using hg, ?_, by rw [World.frozen?_setCell]; exact hf⟩
  by_cases hjk : j = k
  · subst hjk
    rw [World.cell?_setCell_same _ _ _ hc]
    simp
  · rw [World.cell?_setCell_other _ _ _ _ (by simp <;> omega), hc, List.getElem_set_ne (by omega)]
theorem GR.C.below {w w' : World} {a : Option Addr} {g : Nat} {cs : List Value} (h : GR.C w a g cs) (hb : Below w.heap.size w w') : GR.C w' a g cs := fun j hj => by
  obtain ⟨e, hg, hc, hf⟩ := h j hj
  exact ⟨e, Nat.lt_of_lt_of_le hg hb.size, (hb.cell (p := ⟨g, j, none⟩) hg).trans hc, (hb.frozen (p := ⟨g, j, none⟩) hg).trans hf⟩
theorem GR.W.toC {α : Type} {enc : α → List Value} {sz : Nat} {w : World} {a : Option Addr} {g : Nat} {l : List α} (hs : ∀ x, (enc x).length = sz) (hz : 0 < sz) (h : GR.W enc sz w a g l) : GR.C w a g (GR.flat enc l) := fun j hj => by
  have hj2 : j < l.length * sz := by rwa [GR.flat_length enc sz hs] at hj
  have hq : j / sz < l.length := Nat.div_lt_of_lt_mul (by rw [Nat.mul_comm]; exact hj2)
  have hr : j % sz < sz := Nat.mod_lt _ hz
  have ej : j / sz * sz + j % sz = j := Nat.div_add_mod' j sz
  obtain ⟨e, hg, hc⟩ := h (j / sz) hq
  obtain ⟨h1, h2⟩ := hc (j % sz) hr
  have hf := GR.flat_at enc sz hs l (j / sz) hq (j % sz) hr
  rw [ej] at h1 h2 hf
  exact ⟨e, hg, by rw [h1, ← hf, List.getElem?_eq_getElem hj], h2⟩
theorem GR.C.toW {α : Type} {enc : α → List Value} {sz : Nat} {w : World} {a : Option Addr} {g : Nat} {l : List α} (hs : ∀ x, (enc x).length = sz) (hz : 0 < sz) (h : GR.C w a g (GR.flat enc l)) : GR.W enc sz w a g l := fun i hi => by
  have hlt : ∀ j, j < sz → i * sz + j < (GR.flat enc l).length := fun j hj => by
    rw [GR.flat_length enc sz hs]
    have := Nat.mul_le_mul_right sz (show i + 1 ≤ l.length by omega)
    rw [Nat.add_mul, Nat.one_mul] at this
    omega
  refine ⟨(h (i * sz + 0) (hlt 0 hz)).1, (h (i * sz + 0) (hlt 0 hz)).2.1, fun j hj => ?_⟩
  obtain ⟨_, _, hc, hf⟩ := h (i * sz + j) (hlt j hj)
  refine ⟨?_, hf⟩
  rw [hc, ← GR.flat_at enc sz hs l i hi j hj, List.getElem?_eq_getElem]
theorem markTextI (k : Nat) (z : Int) (w : World) (hz : z = k) (h0 : 0 < k) (hk : (k : Int) ≤ 9223372036854775807) :
    Calls Tryd.prog 30 #[.int .i64 z] w fun e w' => e = .returned (.string (mark k)) ∧ Below w.heap.size w w' := by
  subst hz
  exact markText k w h0 hk
end Go.Proofs.YtiinpdkgnflmeaaDoor
