/-
  Rows of structs that may be written, and the blocks in which they lie.
-/
import Derived.Test.YtccpcmhideijpaaDoorRows2
namespace Go.Proofs.YtccpcmhideijpaaDoor
open Go.RowKit
open Mth

theorem obj_lt {w : World} {g : Nat} {o : Obj} (h : w.heap[g]? = some o) : g < w.heap.size := by
  rcases Nat.lt_or_ge g w.heap.size with h' | h'
  · exact h'
  · rw [Array.getElem?_eq_none h'] at h; cases h
/-- All blocks but some read as before; new ones may lie behind. -/
structure KeepsL (F : List Nat) (w w' : World) : Prop where
  os : w'.os = w.os
  tape : w'.tape = w.tape
  output : w'.output = w.output
  size : w.heap.size ≤ w'.heap.size
  block : ∀ k, k < w.heap.size → k ∉ F → w'.heap[k]? = w.heap[k]?
theorem KeepsL.refl (F : List Nat) (w : World) : KeepsL F w w := ⟨rfl, rfl, rfl, Nat.le_refl _, fun _ _ _ => rfl⟩
theorem KeepsL.trans {F : List Nat} {a b c : World} (h : KeepsL F a b) (k : KeepsL F b c) : KeepsL F a c :=
  ⟨k.os.trans h.os, k.tape.trans h.tape, k.output.trans h.output, Nat.le_trans h.size k.size, fun i hi hg => (k.block i (Nat.lt_of_lt_of_le hi h.size) hg).trans (h.block i hi hg)⟩
theorem KeepsL.mono {F F' : List Nat} {a b : World} (h : KeepsL F a b) (hs : ∀ x ∈ F, x ∈ F') : KeepsL F' a b :=
  ⟨h.os, h.tape, h.output, h.size, fun i hi hg => h.block i hi (fun hx => hg (hs i hx))⟩
theorem KeepsL.of_below {F : List Nat} {w w' : World} (h : Below w.heap.size w w') : KeepsL F w w' := ⟨h.os, h.tape, h.output, h.size, fun k hk _ => h.block k hk⟩
theorem KeepsL.set {g i : Nat} {w : World} (v : Value) : KeepsL [g] w (w.setCell ⟨g, i, none⟩ v) :=
  ⟨rfl, rfl, rfl, by simp [World.setCell], fun k _ hg => Below.heap_setCell _ _ _ _ (by simpa using hg)⟩
theorem KeepsL.below {F : List Nat} {B : Nat} {w w' : World} (h : KeepsL F w w') (hB : ∀ x ∈ F, B ≤ x) (hs : B ≤ w.heap.size) : Below B w w' :=
  ⟨h.os, h.tape, h.output, h.size, fun k hk => h.block k (by omega) (fun hx => by have := hB k hx; omega)⟩
theorem KeepsL.obj {F : List Nat} {w w' : World} {g : Nat} {o : Obj} (hk : KeepsL F w w') (h : w.heap[g]? = some o) (hg : g ∉ F) : w'.heap[g]? = some o := by
  rw [hk.block g (obj_lt h) hg]; exact h

/-- The block of a row that has something. -/
def fp {α : Type} (g : Nat) (l : List α) : List Nat := if l.isEmpty then [] else [g]
theorem fp_mem {α : Type} {g : Nat} {l : List α} (h : 0 < l.length) : g ∈ fp g l := by
  unfold fp
  cases l with
  | nil => simp at h
  | cons x l => simp
theorem of_fp {α : Type} {g x : Nat} {l : List α} (h : x ∈ fp g l) : x = g ∧ 0 < l.length := by
  unfold fp at h
  cases l with
  | nil => simp at h
  | cons y l => simpa using h
theorem fp_sub {α : Type} {g : Nat} {l : List α} : ∀ x ∈ fp g l, x ∈ [g] := fun x hx => by simp [(of_fp hx).1]
theorem fp_nodup {α : Type} (g : Nat) (l : List α) : (fp g l).Nodup := by unfold fp; split <;> simp
namespace GR
variable {α : Type}
/-- A row in a block of its own, which may be written. -/
def W (enc : α → List Value) (sz : Nat) (w : World) (a : Option Addr) (g : Nat) (l : List α) : Prop := ∀ i (hi : i < l.length), a = some ⟨g, 0, none⟩ ∧ g < w.heap.size ∧ ∀ j, j < sz → w.cell? ⟨g, i * sz + j, none⟩ = (enc l[i])[j]? ∧ w.frozen? ⟨g, i * sz + j, none⟩ = false
variable {enc : α → List Value} {sz : Nat}
theorem W.at {w : World} {a : Option Addr} {g : Nat} {l : List α} (h : W enc sz w a g l) : At enc sz w a l := fun i hi =>
  ⟨g, 0, (h i hi).1, (h i hi).2.1, fun j hj => by rw [Nat.zero_add]; exact ((h i hi).2.2 j hj).1⟩
theorem W.of_blk {w : World} {t : TypeId} {g : Nat} {l : List α} (hs : ∀ x, (enc x).length = sz) (h : Blk enc t w g l) : W enc sz w (some ⟨g, 0, none⟩) g l := fun i hi =>
  ⟨rfl, Blk.lt h, fun j hj => ⟨Blk.cell h hs i hi j hj, Blk.free h _⟩⟩
theorem W.nil {w : World} {a : Option Addr} {g : Nat} : W enc sz w a g [] := fun i hi => by simp at hi
theorem W.keeps {F : List Nat} {w w' : World} {a : Option Addr} {g : Nat} {l : List α} (h : W enc sz w a g l) (hk : KeepsL F w w') (hd : ∀ x ∈ fp g l, x ∉ F) : W enc sz w' a g l := fun i hi => by
  obtain ⟨e, hg, hc⟩ := h i hi
  have hne : g ∉ F := hd g (fp_mem (by omega))
  exact ⟨e, Nat.lt_of_lt_of_le hg hk.size, fun j hj => ⟨(World.cell?_of_block (w := w) (hk.block g hg hne)).trans (hc j hj).1, (World.frozen?_of_block (w := w) (hk.block g hg hne)).trans (hc j hj).2⟩⟩
theorem W.below {w w' : World} {a : Option Addr} {g : Nat} {l : List α} (h : W enc sz w a g l) (hb : Below w.heap.size w w') : W enc sz w' a g l := h.keeps (F := []) (KeepsL.of_below hb) (fun _ _ => by simp)
/-- Of a row of the call's own. -/
theorem W.of_own {w : World} {B : Nat} {t : TypeId} {v : Value} {l : List α} (hs : ∀ x, (enc x).length = sz) (h : w.ownsRow B t sz v l.length (flat enc l)) : ∃ a c g, v = .slice a l.length c ∧ W enc sz w a g l ∧ (∀ x ∈ fp g l, B ≤ x ∧ x < w.heap.size) ∧ (∀ x ∈ fp g l, v.ownBlock = some x) := by
  obtain ⟨a, c, rfl, hat⟩ := own_at hs h
  rcases h.2 with ⟨hv, hn⟩ | ⟨g, cap, cur, hv, hg, hblk, _⟩
  · have hl : l = [] := List.eq_nil_of_length_eq_zero hn
    subst hl
    exact ⟨_, _, 0, rfl, W.nil, fun x hx => by simp [fp] at hx, fun x hx => by simp [fp] at hx⟩
  · cases hv
    refine ⟨_, _, g, rfl, fun i hi => ?_, fun x hx => ?_, fun x hx => ?_⟩
    · obtain ⟨g', off', e, hg', hc⟩ := hat i hi
      cases e
      refine ⟨rfl, hg', fun j hj => ⟨?_, ?_⟩⟩
      · have := hc j hj
        rwa [Nat.zero_add] at this
      · unfold World.frozen?; rw [hblk]; simp
    · rw [(of_fp hx).1]; exact ⟨hg, obj_lt hblk⟩
    · rw [(of_fp hx).1]; rfl
end GR
end Go.Proofs.YtccpcmhideijpaaDoor
