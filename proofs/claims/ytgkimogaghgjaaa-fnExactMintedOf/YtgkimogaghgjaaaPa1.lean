/- Parts. -/
import Derived.Test.YtgkimogaghgjaaaRows
import Derived.WalkKit
import Derived.WalkSpells
import Derived.ShutString
import Derived.Deep.RegionHeld
import Derived.ProofKit
import Derived.OneCell
import Derived.Laws.MakeOwn
import Derived.Deep.DeepCutAuto
import Derived.Deep.QuietTactic
import Derived.Deep.RegionWith
import Derived.BigQuiet
import Derived.Laws.Cover1
namespace Go.Proofs.Ytgkimogaghgjaaa.Mth

/-- A number's bytes, by fuel. -/
def putF : Nat → Nat → List UInt8
  | 0, n => [UInt8.ofNat n]
  | f + 1, n => if n ≤ 127 then [UInt8.ofNat n] else UInt8.ofNat (128 + n % 128) :: putF f (n / 128)
/-- A number's bytes (up to 4000000000: five of them at the most). -/
def put (n : Nat) : List UInt8 := putF 5 n

end Go.Proofs.Ytgkimogaghgjaaa.Mth
namespace Go.Proofs.Ytgkimogaghgjaaa
open Go.RowKit

theorem hide {p : Prop} (h : p) : Hid p := h
theorem unhide {p : Prop} (h : Hid p) : p := h
theorem size_toList (s : ByteArray) : s.data.toList.length = s.size := by simp
theorem eq_empty (s : ByteArray) (h : s.size = 0) : s = ByteArray.empty := by
  apply ByteArray.ext; apply Array.eq_empty_of_size_eq_zero; exact h
end Go.Proofs.Ytgkimogaghgjaaa
namespace Go.Proofs.Ytgkimogaghgjaaa
open Go.RowKit

end Go.Proofs.Ytgkimogaghgjaaa
namespace Go.Proofs.Ytgkimogaghgjaaa
open Go.RowKit


end Go.Proofs.Ytgkimogaghgjaaa
namespace Go.Proofs.Ytgkimogaghgjaaa
open Go.RowKit

end Go.Proofs.Ytgkimogaghgjaaa
namespace Go.Proofs.Ytgkimogaghgjaaa
namespace Mth

/-- A message: kind, from, to, id, low, key, n. -/
structure Mg where
  K : Int
  F : Int
  T : Int
  I : Int
  L : Int
  k : ByteArray
  N : Int
abbrev mgv (m : Mg) : Value := .agg #[.int .i64 m.K, .int .i64 m.F, .int .i64 m.T, .int .i64 m.I, .int .i64 m.L, .string m.k, .int .i64 m.N]
end Mth
open Go.RowKit
open Mth

theorem wp_at {P : Program} {Q : Exit → Act → World → Prop} {c : Code} {a : Act} {W : World} (h : ∀ W', W' = W → Code.wp P c Q a W') : Code.wp P c Q a W := h W rfl
theorem below_one (w : World) (o : Obj) : Below w.heap.size w (w.alloc o) := (Below.refl _ _).alloc (Nat.le_refl _) _
end Go.Proofs.Ytgkimogaghgjaaa
namespace Go.Proofs.Ytgkimogaghgjaaa
open Go.RowKit
open Mth

namespace Mth
/-- An operation: kind, number, key, amount, message. -/
structure Op5 where
  K : Int
  no : Int
  k : ByteArray
  n : Int
  m : Mg
end Mth
abbrev opw (o : Op5) : Value := .agg #[.int .i64 o.K, .int .i64 o.no, .string o.k, .int .i64 o.n, .int .i64 o.m.K, .int .i64 o.m.F, .int .i64 o.m.T, .int .i64 o.m.I, .int .i64 o.m.L, .string o.m.k, .int .i64 o.m.N]
end Go.Proofs.Ytgkimogaghgjaaa
namespace Go.Proofs.Ytgkimogaghgjaaa
open Go.RowKit
open Mth
theorem blk_lt {w : World} {g : Nat} {o : Obj} (h : w.heap[g]? = some o) : g < w.heap.size := by
  rcases Nat.lt_or_ge g w.heap.size with h' | h'
  · exact h'
  · rw [Array.getElem?_eq_none h'] at h; cases h
/-- A block stays behind a call that makes memory alone. -/
theorem blk_step {w w' : World} {g : Nat} {o : Obj} (h : w.heap[g]? = some o) (hb : Below w.heap.size w w') : w'.heap[g]? = some o := by
  rw [hb.block g (blk_lt h)]
  exact h
end Go.Proofs.Ytgkimogaghgjaaa
namespace Go.Proofs.Ytgkimogaghgjaaa
open Go.RowKit
open Go.WideShapes
open Mth

set_option maxRecDepth 100000 in
set_option maxHeartbeats 1000000 in
theorem toMsg (m : Mg) (w : World) : Calls Try.prog 83 #[mgv m] w fun e w' => e = .returned (mgv m) ∧ Below w.heap.size w w' := by
  obtain ⟨K, F, T, I, L, k, N⟩ := m
  go_enter Try.func83, Try.ntmps83
  go_wp2_with fail
  refine bodyPost_ret (v := .agg #[.int .i64 K, .int .i64 F, .int .i64 T, .int .i64 I, .int .i64 L, .string k, .int .i64 N]) (by simp [results, Try.results83, go_sem]) rfl ⟨rfl, ?_⟩
  exact (((Below.refl _ _).alloc (Nat.le_refl _) _).alloc (by simp) _).alloc (by simp; omega) _

end Go.Proofs.Ytgkimogaghgjaaa
namespace Go.Proofs.Ytgkimogaghgjaaa
namespace GR
open Go.RowKit

section
variable {α : Type} (enc : α → List Value) (sz : Nat)

/-- The cells of a row. -/
def flat (l : List α) : List Value := l.flatMap enc
theorem flat_cons (x : α) (r : List α) : flat enc (x :: r) = enc x ++ flat enc r := rfl
theorem flat_length (h : ∀ x, (enc x).length = sz) (l : List α) : (flat enc l).length = l.length * sz := by
  induction l with
  | nil => simp [flat]
  | cons x r ih => rw [flat_cons, List.length_append, ih, h, List.length_cons, Nat.add_mul, Nat.one_mul, Nat.add_comm]
theorem flat_at (h : ∀ x, (enc x).length = sz) : ∀ (l : List α) (i : Nat) (hi : i < l.length) (j : Nat), j < sz → (flat enc l)[i * sz + j]? = (enc l[i])[j]? := by
  intro l
  induction l with
  | nil => intro i hi; simp at hi
  | cons x r ih =>
    intro i hi j hj
    rw [flat_cons]
    cases i with
    | zero =>
      rw [Nat.zero_mul, Nat.zero_add, List.getElem?_append_left (by rw [h]; exact hj)]
      rfl
    | succ i =>
      have e : (i + 1) * sz + j = sz + (i * sz + j) := by rw [Nat.add_mul, Nat.one_mul]; omega
      rw [List.getElem?_append_right (by rw [h]; omega), h, e, Nat.add_sub_cancel_left, ih i (by simpa using hi) j hj]
      rfl
/-- A run of cells written over. -/
def setRun (xs : List Value) (o : Nat) : List Value → List Value
  | [] => xs
  | v :: vs => setRun (xs.set o v) (o + 1) vs
theorem setRun_append_right (a : List Value) : ∀ (vs : List Value) (o : Nat) (b : List Value), setRun (a ++ b) (a.length + o) vs = a ++ setRun b o vs := by
  intro vs
  induction vs with
  | nil => intro o b; rfl
  | cons v vs ih =>
    intro o b
    show setRun ((a ++ b).set (a.length + o) v) (a.length + o + 1) vs = a ++ setRun (b.set o v) (o + 1) vs
    rw [List.set_append_right _ _ (by omega), Nat.add_sub_cancel_left, Nat.add_assoc, ih]
theorem setRun_head : ∀ (vs a b : List Value), vs.length = a.length → setRun (a ++ b) 0 vs = vs ++ b := by
  intro vs
  induction vs with
  | nil => intro a b h; have : a = [] := List.eq_nil_of_length_eq_zero (by simpa using h.symm); subst this; rfl
  | cons v vs ih =>
    intro a b h
    cases a with
    | nil => simp at h
    | cons y a =>
      show setRun (((y :: a) ++ b).set 0 v) (0 + 1) vs = v :: vs ++ b
      have e : ((y :: a) ++ b).set 0 v = [v] ++ (a ++ b) := rfl
      rw [e, Nat.zero_add]
      have h2 := setRun_append_right [v] vs 0 (a ++ b)
      simp only [List.length_singleton, Nat.add_zero] at h2
      rw [h2, ih a b (by simpa using h)]
      rfl
theorem flat_set (h : ∀ x, (enc x).length = sz) : ∀ (l : List α) (i : Nat) (x : α), i < l.length → setRun (flat enc l) (i * sz) (enc x) = flat enc (l.set i x) := by
  intro l
  induction l with
  | nil => intro i x hi; simp at hi
  | cons y r ih =>
    intro i x hi
    cases i with
    | zero =>
      rw [Nat.zero_mul, flat_cons, setRun_head _ _ _ (by rw [h, h])]
      rfl
    | succ i =>
      have e : (i + 1) * sz = (enc y).length + i * sz := by rw [h, Nat.add_mul, Nat.one_mul, Nat.add_comm]
      rw [flat_cons, e, setRun_append_right _, ih i x (by simpa using hi)]
      rfl

/-- A slice of structs, as it lies. -/
def At (w : World) (a : Option Addr) (l : List α) : Prop := ∀ i (hi : i < l.length), ∃ g off, a = some ⟨g, off, none⟩ ∧ g < w.heap.size ∧ ∀ j, j < sz → w.cell? ⟨g, off + (i * sz + j), none⟩ = (enc l[i])[j]?
theorem At.below {enc : α → List Value} {sz : Nat} {w w' : World} {a : Option Addr} {l : List α} (h : At enc sz w a l) (hb : Below w.heap.size w w') : At enc sz w' a l := fun i hi => by
  obtain ⟨g, off, e, hg, hc⟩ := h i hi
  exact ⟨g, off, e, Nat.lt_of_lt_of_le hg hb.size, fun j hj => (hb.cell (p := ⟨g, off + (i * sz + j), none⟩) hg).trans (hc j hj)⟩
/-- A block that holds just these structs. -/
def Blk (t : TypeId) (w : World) (g : Nat) (l : List α) : Prop := w.heap[g]? = some (.cells (flat enc l).toArray t (0, 0))
theorem Blk.cell {enc : α → List Value} {sz : Nat} {t : TypeId} {w : World} {g : Nat} {l : List α} (h : Blk enc t w g l) (hs : ∀ x, (enc x).length = sz) (i : Nat) (hi : i < l.length) (j : Nat) (hj : j < sz) : w.cell? ⟨g, i * sz + j, none⟩ = (enc l[i])[j]? := by
  rw [cell_of_row w g _ _ t (0, 0) h]
  simpa using flat_at enc sz hs l i hi j hj
theorem Blk.free {enc : α → List Value} {t : TypeId} {w : World} {g : Nat} {l : List α} (h : Blk enc t w g l) (i : Nat) : w.frozen? ⟨g, i, none⟩ = false := by
  unfold World.frozen?; rw [h]; simp
theorem Blk.lt {enc : α → List Value} {t : TypeId} {w : World} {g : Nat} {l : List α} (h : Blk enc t w g l) : g < w.heap.size := by
  rcases Nat.lt_or_ge g w.heap.size with h' | h'
  · exact h'
  · rw [Blk, Array.getElem?_eq_none h'] at h; cases h
theorem Blk.at {enc : α → List Value} {sz : Nat} {t : TypeId} {w : World} {g : Nat} {l : List α} (h : Blk enc t w g l) (hs : ∀ x, (enc x).length = sz) : At enc sz w (some ⟨g, 0, none⟩) l := fun i hi =>
  ⟨g, 0, rfl, h.lt, fun j hj => by rw [Nat.zero_add]; exact h.cell hs i hi j hj⟩
/-- The world with a run of cells written over. -/
def setW (w : World) (g o : Nat) : List Value → World
  | [] => w
  | v :: vs => setW (w.setCell ⟨g, o, none⟩ v) g (o + 1) vs
theorem setW_blk : ∀ (vs : List Value) {w : World} {g o : Nat} {xs : List Value} {t : TypeId}, w.heap[g]? = some (.cells xs.toArray t (0, 0)) → (setW w g o vs).heap[g]? = some (.cells (setRun xs o vs).toArray t (0, 0)) := by
  intro vs
  induction vs with
  | nil => intro w g o xs t h; exact h
  | cons v vs ih =>
    intro w g o xs t h
    refine ih (xs := xs.set o v) ?_
    unfold World.setCell
    simp only [Array.getElem?_modify]
    rw [if_pos trivial, h]
    simp
theorem Blk.set {enc : α → List Value} {sz : Nat} {t : TypeId} {w : World} {g : Nat} {l : List α} (h : Blk enc t w g l) (hs : ∀ x, (enc x).length = sz) (i : Nat) (hi : i < l.length) (x : α) : Blk enc t (setW w g (i * sz) (enc x)) g (l.set i x) := by
  have h2 := setW_blk (enc x) (o := i * sz) h
  rw [flat_set enc sz hs l i x hi] at h2
  exact h2
theorem setW_below {B : Nat} {a : World} {g : Nat} (hg : B ≤ g) : ∀ (vs : List Value) {w : World} {o : Nat}, Below B a w → Below B a (setW w g o vs) := by
  intro vs
  induction vs with
  | nil => intro w o h; exact h
  | cons v vs ih => intro w o h; exact ih (h.setCell (p := ⟨g, o, none⟩) hg v)
theorem setW_other {g g' : Nat} (hne : g' ≠ g) : ∀ (vs : List Value) {w : World} {o : Nat}, (setW w g o vs).heap[g']? = w.heap[g']? := by
  intro vs
  induction vs with
  | nil => intro w o; rfl
  | cons v vs ih => intro w o; exact (ih (w := w.setCell ⟨g, o, none⟩ v)).trans (Below.heap_setCell _ _ _ _ hne)
/-- What 'make' lays. -/
theorem made_flat (h : ∀ x, (enc x).length = sz) (hz : 0 < sz) (x : α) (z : Array Value) (he : z.toList = enc x) (n : Nat) : madeCells z (n * sz) = (flat enc (List.replicate n x)).toArray := by
  have hzs : z.size = sz := by rw [← Array.length_toList, he, h]
  apply Array.ext_getElem?
  intro k
  by_cases hk : k < n * sz
  · have hq : k / sz < n := Nat.div_lt_of_lt_mul (by rw [Nat.mul_comm]; exact hk)
    have hr : k % sz < sz := Nat.mod_lt _ hz
    have hf := flat_at enc sz h (List.replicate n x) (k / sz) (by simpa using hq) (k % sz) hr
    have ek : k / sz * sz + k % sz = k := Nat.div_add_mod' k sz
    rw [ek] at hf
    have h1 : (madeCells z (n * sz))[k]? = some (z[k % z.size]!) := by simp [madeCells, hk]
    rw [h1, hzs]
    have h2 : (flat enc (List.replicate n x)).toArray[k]? = (enc x)[k % sz]? := by
      rw [List.getElem?_toArray, hf]
      simp
    rw [h2, ← he]
    have h3 : k % sz < z.size := by omega
    rw [getElem!_pos z (k % sz) h3, Array.getElem?_toList, Array.getElem?_eq_getElem h3]
  · have h1 : (madeCells z (n * sz)).size ≤ k := by simp [madeCells]; omega
    have h2 : (flat enc (List.replicate n x)).toArray.size ≤ k := by
      rw [List.size_toArray, flat_length enc sz h]
      simp
      omega
    rw [Array.getElem?_eq_none h1, Array.getElem?_eq_none h2]
end
end GR
end Go.Proofs.Ytgkimogaghgjaaa
namespace Go.Proofs.Ytgkimogaghgjaaa
open Go.RowKit

theorem eleven_at {w : World} {g : Nat} {a0 a1 a2 a3 a4 a5 a6 a7 a8 a9 a10 : Value} {t : TypeId} (h : w.heap[g]? = some (.cells #[a0, a1, a2, a3, a4, a5, a6, a7, a8, a9, a10] t (0, 0))) :
    (w.cell? ⟨g, 0, none⟩ = some a0 ∧ w.cell? ⟨g, 1, none⟩ = some a1 ∧ w.cell? ⟨g, 2, none⟩ = some a2 ∧ w.cell? ⟨g, 3, none⟩ = some a3 ∧ w.cell? ⟨g, 4, none⟩ = some a4 ∧ w.cell? ⟨g, 5, none⟩ = some a5 ∧ w.cell? ⟨g, 6, none⟩ = some a6 ∧ w.cell? ⟨g, 7, none⟩ = some a7 ∧ w.cell? ⟨g, 8, none⟩ = some a8 ∧ w.cell? ⟨g, 9, none⟩ = some a9 ∧ w.cell? ⟨g, 10, none⟩ = some a10) ∧ (w.frozen? ⟨g, 0, none⟩ = false ∧ w.frozen? ⟨g, 1, none⟩ = false ∧ w.frozen? ⟨g, 2, none⟩ = false ∧ w.frozen? ⟨g, 3, none⟩ = false ∧ w.frozen? ⟨g, 4, none⟩ = false ∧ w.frozen? ⟨g, 5, none⟩ = false ∧ w.frozen? ⟨g, 6, none⟩ = false ∧ w.frozen? ⟨g, 7, none⟩ = false ∧ w.frozen? ⟨g, 8, none⟩ = false ∧ w.frozen? ⟨g, 9, none⟩ = false ∧ w.frozen? ⟨g, 10, none⟩ = false) := by
  have hf : ∀ i, w.frozen? ⟨g, i, none⟩ = false := fun i => by unfold World.frozen?; rw [h]; simp
  have hc : ∀ i, w.cell? ⟨g, i, none⟩ = #[a0, a1, a2, a3, a4, a5, a6, a7, a8, a9, a10][i]? := fun i => cell_of_row w g i _ t (0, 0) h
  exact ⟨⟨hc 0, hc 1, hc 2, hc 3, hc 4, hc 5, hc 6, hc 7, hc 8, hc 9, hc 10⟩, hf 0, hf 1, hf 2, hf 3, hf 4, hf 5, hf 6, hf 7, hf 8, hf 9, hf 10⟩
theorem eleven_set {w : World} {g : Nat} {a0 a1 a2 a3 a4 a5 a6 a7 a8 a9 a10 b0 b1 b2 b3 b4 b5 b6 b7 b8 b9 b10 : Value} {t : TypeId} (h : w.heap[g]? = some (.cells #[a0, a1, a2, a3, a4, a5, a6, a7, a8, a9, a10] t (0, 0))) : (((((((((((w.setCell ⟨g, 0, none⟩ b0).setCell ⟨g, 1, none⟩ b1).setCell ⟨g, 2, none⟩ b2).setCell ⟨g, 3, none⟩ b3).setCell ⟨g, 4, none⟩ b4).setCell ⟨g, 5, none⟩ b5).setCell ⟨g, 6, none⟩ b6).setCell ⟨g, 7, none⟩ b7).setCell ⟨g, 8, none⟩ b8).setCell ⟨g, 9, none⟩ b9).setCell ⟨g, 10, none⟩ b10).heap[g]? = some (.cells #[b0, b1, b2, b3, b4, b5, b6, b7, b8, b9, b10] t (0, 0)) :=
  GR.setW_blk [b0, b1, b2, b3, b4, b5, b6, b7, b8, b9, b10] (o := 0) (xs := [a0, a1, a2, a3, a4, a5, a6, a7, a8, a9, a10]) h
theorem eleven_set_below {a w : World} {B g : Nat} {b0 b1 b2 b3 b4 b5 b6 b7 b8 b9 b10 : Value} (h : Below B a w) (hg : B ≤ g) : Below B a (((((((((((w.setCell ⟨g, 0, none⟩ b0).setCell ⟨g, 1, none⟩ b1).setCell ⟨g, 2, none⟩ b2).setCell ⟨g, 3, none⟩ b3).setCell ⟨g, 4, none⟩ b4).setCell ⟨g, 5, none⟩ b5).setCell ⟨g, 6, none⟩ b6).setCell ⟨g, 7, none⟩ b7).setCell ⟨g, 8, none⟩ b8).setCell ⟨g, 9, none⟩ b9).setCell ⟨g, 10, none⟩ b10) :=
  GR.setW_below hg [b0, b1, b2, b3, b4, b5, b6, b7, b8, b9, b10] (o := 0) h
theorem eleven_tail {w : World} {g : Nat} {a0 a1 a2 a3 a4 a5 a6 a7 a8 a9 a10 b4 b5 b6 b7 b8 b9 b10 : Value} {t : TypeId} (h : w.heap[g]? = some (.cells #[a0, a1, a2, a3, a4, a5, a6, a7, a8, a9, a10] t (0, 0))) : (((((((w.setCell ⟨g, 4, none⟩ b4).setCell ⟨g, 5, none⟩ b5).setCell ⟨g, 6, none⟩ b6).setCell ⟨g, 7, none⟩ b7).setCell ⟨g, 8, none⟩ b8).setCell ⟨g, 9, none⟩ b9).setCell ⟨g, 10, none⟩ b10).heap[g]? = some (.cells #[a0, a1, a2, a3, b4, b5, b6, b7, b8, b9, b10] t (0, 0)) :=
  GR.setW_blk [b4, b5, b6, b7, b8, b9, b10] (o := 4) (xs := [a0, a1, a2, a3, a4, a5, a6, a7, a8, a9, a10]) h
theorem eleven_tail_below {a w : World} {B g : Nat} {b4 b5 b6 b7 b8 b9 b10 : Value} (h : Below B a w) (hg : B ≤ g) : Below B a (((((((w.setCell ⟨g, 4, none⟩ b4).setCell ⟨g, 5, none⟩ b5).setCell ⟨g, 6, none⟩ b6).setCell ⟨g, 7, none⟩ b7).setCell ⟨g, 8, none⟩ b8).setCell ⟨g, 9, none⟩ b9).setCell ⟨g, 10, none⟩ b10) :=
  GR.setW_below hg [b4, b5, b6, b7, b8, b9, b10] (o := 4) h
theorem eleven_tail_other {w : World} {g g' : Nat} {b4 b5 b6 b7 b8 b9 b10 : Value} (hne : g' ≠ g) : (((((((w.setCell ⟨g, 4, none⟩ b4).setCell ⟨g, 5, none⟩ b5).setCell ⟨g, 6, none⟩ b6).setCell ⟨g, 7, none⟩ b7).setCell ⟨g, 8, none⟩ b8).setCell ⟨g, 9, none⟩ b9).setCell ⟨g, 10, none⟩ b10).heap[g']? = w.heap[g']? :=
  GR.setW_other hne [b4, b5, b6, b7, b8, b9, b10] (o := 4)
theorem bodyPost_atE {P : Program} {fn : Func} {Q : Ending → World → Prop} {x : Exit} {act : Act} {W : World} (h : ∀ W', W' = W → bodyPost P fn Q x act W') : bodyPost P fn Q x act W := h W rfl
end Go.Proofs.Ytgkimogaghgjaaa
namespace Go.Proofs.Ytgkimogaghgjaaa
open Go.RowKit
open Go.WideShapes
open Mth

set_option maxRecDepth 100000 in
theorem szMsgL (m : Mg) (z : Int) (w : World) (h0 : 0 ≤ z) (h1 : z ≤ 1048576) (h2 : m.k.size ≤ maxLen) : Calls Try.prog 77 #[mgv m, .int .i64 z] w fun e w' => e = .returned (.int .i64 (if z - m.k.size < 0 then -1 else z - m.k.size)) ∧ Below w.heap.size w w' := by
  obtain ⟨K, F, T, I, L, k, N⟩ := m
  dsimp only at h2
  unfold maxLen at h2
  by_cases hn : (z - k.size : Int) < 0
  all_goals
    go_enter Try.func77, Try.ntmps77
    go_wp2_with fail
    go_ret
    exact ⟨rfl, below_one w _⟩
set_option maxRecDepth 100000 in
set_option maxHeartbeats 1000000 in
theorem szOp (o : Op5) (z : Int) (w : World) (h0 : 0 ≤ z) (h1 : z ≤ 1048576) (h2 : o.k.size ≤ maxLen) (h3 : o.m.k.size ≤ maxLen) : Calls Try.prog 78 #[opw o, .int .i64 z] w fun e w' => ∃ r : Int, e = .returned (.int .i64 r) ∧ (r = -1 ∨ 0 ≤ r ∧ r ≤ z ∧ o.k.size ≤ 1048576 ∧ o.m.k.size ≤ 1048576) ∧ Below w.heap.size w w' := by
  obtain ⟨K, no, k, n, m⟩ := o
  dsimp only at h2 h3
  by_cases hn : (z - k.size : Int) < 0
  · obtain ⟨mK, mF, mT, mI, mL, mk, mN⟩ := m
    unfold maxLen at h2 h3
    go_enter Try.func78, Try.ntmps78
    go_wp2_with fail
    go_ret
    exact ⟨_, rfl, .inl rfl, below_one w _⟩
  · have HM := hide (fun w1 => szMsgL m (z - k.size) w1 (by omega) (by omega) h3)
    have hks : k.size ≤ 1048576 := by omega
    have hmz : m.k.size ≤ 9223372036854775807 := by unfold maxLen at h3; omega
    obtain ⟨mK, mF, mT, mI, mL, mk, mN⟩ := m
    dsimp only at hmz HM
    clear h2 h3
    go_enter Try.func78, Try.ntmps78
    go_wp2_with fail
    refine (unhide HM _).mono ?_
    by_cases hn2 : (z - k.size - mk.size : Int) < 0
    · rw [if_pos hn2]
      rintro e w1 ⟨rfl, hb1⟩
      have HB := hide ((below_one w _).trans (hb1.mono (by simp)))
      clear hb1 HM
      go_wp2_with fail
      go_ret
      exact ⟨_, rfl, .inl rfl, unhide HB⟩
    · rw [if_neg hn2]
      rintro e w1 ⟨rfl, hb1⟩
      have HB := hide ((below_one w _).trans (hb1.mono (by simp)))
      clear hb1 HM
      go_wp2_with fail
      go_ret
      exact ⟨_, rfl, .inr ⟨by omega, by omega, hks, by omega⟩, unhide HB⟩
theorem allocsL3 (w : World) (a b c : Obj) : (((w.alloc a).alloc b).alloc c).heap[w.heap.size]? = some a ∧ (((w.alloc a).alloc b).alloc c).heap[w.heap.size + 1]? = some b ∧ (((w.alloc a).alloc b).alloc c).heap[w.heap.size + 1 + 1]? = some c ∧ Below w.heap.size w (((w.alloc a).alloc b).alloc c) := by
  have e1 : (w.alloc a).heap.size = w.heap.size + 1 := by simp
  have e2 : ((w.alloc a).alloc b).heap.size = w.heap.size + 1 + 1 := by simp
  have h2 := Below.heap_alloc ((w.alloc a).alloc b) c (w.heap.size + 1) (by omega)
  have h3 := heap_alloc_new ((w.alloc a).alloc b) c
  have h4 := heap_alloc_new (w.alloc a) b
  have h5 := Below.heap_alloc ((w.alloc a).alloc b) c w.heap.size (by omega)
  have h6 := Below.heap_alloc (w.alloc a) b w.heap.size (by omega)
  rw [e2] at h3
  rw [e1] at h4
  exact ⟨h5.trans (h6.trans (heap_alloc_new w a)), h2.trans h4, h3, ((below_one w a).alloc (by omega) b).alloc (by omega) c⟩
set_option maxRecDepth 100000 in
set_option maxHeartbeats 2000000 in
theorem toOp (o : Op5) (w : World) : Calls Try.prog 84 #[opw o] w fun e w' => e = .returned (opw o) ∧ Below w.heap.size w w' := by
  obtain ⟨K, no, k, n, m⟩ := o
  have HT := hide (fun w1 => toMsg m w1)
  obtain ⟨mK, mF, mT, mI, mL, mk, mN⟩ := m
  go_enter Try.func84, Try.ntmps84
  go_wp2_with fail
  refine (unhide HT _).mono ?_
  rintro e w1 ⟨rfl, hb1⟩
  obtain ⟨hP, hR, hO, hB⟩ := allocsL3 w (.cells #[.int .i64 K, .int .i64 no, .string k, .int .i64 n, .int .i64 mK, .int .i64 mF, .int .i64 mT, .int .i64 mI, .int .i64 mL, .string mk, .int .i64 mN] 99) (.cells #[.int .i64 0, .int .i64 0, .string ⟨#[]⟩, .int .i64 0, .int .i64 0, .int .i64 0, .int .i64 0, .int .i64 0, .int .i64 0, .string ⟨#[]⟩, .int .i64 0] 108) (.cells #[.int .i64 K, .int .i64 no, .string k, .int .i64 n, .int .i64 0, .int .i64 0, .int .i64 0, .int .i64 0, .int .i64 0, .string ⟨#[]⟩, .int .i64 0] 108)
  have HR := hide (blk_step hR hb1)
  have HO := hide (blk_step hO hb1)
  have HB := hide (hB.trans (hb1.mono hB.size))
  clear hP hR hO hB hb1 HT
  have hz1 := blk_lt (unhide HR)
  have hz2 := blk_lt (unhide HO)
  obtain ⟨⟨o0, o1, o2, o3, o4, o5, o6, o7, o8, o9, o10⟩, f0, f1, f2, f3, f4, f5, f6, f7, f8, f9, f10⟩ := eleven_at (unhide HO)
  go_upto_region 7 with fail
  refine wp_at (fun W hW => ?_)
  have HOW : Hid (W.heap[w.heap.size + 1 + 1]? = some (.cells #[.int .i64 K, .int .i64 no, .string k, .int .i64 n, .int .i64 mK, .int .i64 mF, .int .i64 mT, .int .i64 mI, .int .i64 mL, .string mk, .int .i64 mN] 108 (0, 0))) := by rw [hW]; exact eleven_tail (unhide HO)
  have HRW : Hid (W.heap[w.heap.size + 1]? = some (.cells #[.int .i64 0, .int .i64 0, .string ⟨#[]⟩, .int .i64 0, .int .i64 0, .int .i64 0, .int .i64 0, .int .i64 0, .int .i64 0, .string ⟨#[]⟩, .int .i64 0] 108 (0, 0))) := by rw [hW]; exact (eleven_tail_other (by omega)).trans (unhide HR)
  have HBW : Hid (Below w.heap.size w W) := by rw [hW]; exact eleven_tail_below (unhide HB) (by omega)
  clear hW HO HR HB hz1 hz2 o0 o1 o2 o3 o4 o5 o6 o7 o8 o9 o10 f0 f1 f2 f3 f4 f5 f6 f7 f8 f9 f10
  have hz1 := blk_lt (unhide HRW)
  have hz2 := blk_lt (unhide HOW)
  obtain ⟨⟨o0, o1, o2, o3, o4, o5, o6, o7, o8, o9, o10⟩, _⟩ := eleven_at (unhide HOW)
  obtain ⟨⟨r0, r1, r2, r3, r4, r5, r6, r7, r8, r9, r10⟩, f0, f1, f2, f3, f4, f5, f6, f7, f8, f9, f10⟩ := eleven_at (unhide HRW)
  go_wp2_with fail
  refine bodyPost_atE (fun W' hW' => ?_)
  have hRR : W'.heap[w.heap.size + 1]? = some (.cells #[.int .i64 K, .int .i64 no, .string k, .int .i64 n, .int .i64 mK, .int .i64 mF, .int .i64 mT, .int .i64 mI, .int .i64 mL, .string mk, .int .i64 mN] 108 (0, 0)) := by rw [hW']; exact eleven_set (unhide HRW)
  have hBB : Below w.heap.size w W' := by rw [hW']; exact eleven_set_below (unhide HBW) (by omega)
  obtain ⟨⟨x0, x1, x2, x3, x4, x5, x6, x7, x8, x9, x10⟩, _⟩ := eleven_at hRR
  exact bodyPost_ret (v := .agg #[.int .i64 K, .int .i64 no, .string k, .int .i64 n, .int .i64 mK, .int .i64 mF, .int .i64 mT, .int .i64 mI, .int .i64 mL, .string mk, .int .i64 mN]) (by simp [results, Try.results84, go_sem, x0, x1, x2, x3, x4, x5, x6, x7, x8, x9, x10]) rfl ⟨rfl, hBB⟩
end Go.Proofs.Ytgkimogaghgjaaa
namespace Go.Proofs.Ytgkimogaghgjaaa
namespace Mth

/-- A purse: its key, what was minted, what is free, what is spent. -/
structure Pu where
  k : ByteArray
  m : Int
  f : Int
  s : Int
instance : Inhabited Pu := ⟨⟨ByteArray.empty, 0, 0, 0⟩⟩
abbrev encP (p : Pu) : List Value := [.string p.k, .int .i64 p.m, .int .i64 p.f, .int .i64 p.s]
abbrev puv (p : Pu) : Value := .agg #[.string p.k, .int .i64 p.m, .int .i64 p.f, .int .i64 p.s]
theorem encP_length (p : Pu) : (encP p).length = 4 := rfl
/-- The purse of a key. -/
def purseOf (l : List Pu) (k : ByteArray) : Pu := (l.find? fun p => p.k.toList == k.toList).getD ⟨k, 0, 0, 0⟩
theorem find_step (f : Pu → Bool) (l : List Pu) (i : Nat) (hi : i < l.length) (h : (l.take i).find? f = none) : (f l[i] = true → l.find? f = some l[i]) ∧ (f l[i] = false → (l.take (i + 1)).find? f = none) := by
  constructor
  · intro hf
    have e : l = l.take i ++ l[i] :: l.drop (i + 1) := by rw [← List.drop_eq_getElem_cons hi, List.take_append_drop]
    have h2 : (l.take i ++ l[i] :: l.drop (i + 1)).find? f = some l[i] := by
      rw [List.find?_append, h, List.find?_cons, hf]
      rfl
    rw [← e] at h2
    exact h2
  · intro hf
    rw [List.take_succ_eq_append_getElem hi, List.find?_append, h, List.find?_cons, hf]
    rfl
end Mth
end Go.Proofs.Ytgkimogaghgjaaa
namespace Go.Proofs.Ytgkimogaghgjaaa
namespace Mth

/-- A transfer: its number, to whom, key, how much. -/
structure Snt where
  i : Int
  t : Int
  k : ByteArray
  n : Int
/-- What was seen of a neighbour. -/
structure Sn where
  f : Int
  l : Int
  ids : List Int
/-- A request. -/
structure Rq where
  no : Int
  k : ByteArray
  n : Int
  s : Int
/-- A node. -/
structure Nd where
  id : Int
  par : Int
  kids : List Int
  next : Int
  pu : List Pu
  out : List Snt
  seen : List Sn
  old : Int
  reqs : List Rq
instance : Inhabited Snt := ⟨⟨0, 0, ByteArray.empty, 0⟩⟩
instance : Inhabited Sn := ⟨⟨0, 0, []⟩⟩
instance : Inhabited Rq := ⟨⟨0, ByteArray.empty, 0, 0⟩⟩
abbrev encNum (x : Int) : List Value := [.int .i64 x]
abbrev encSnt (s : Snt) : List Value := [.int .i64 s.i, .int .i64 s.t, .string s.k, .int .i64 s.n]
abbrev encRq (r : Rq) : List Value := [.int .i64 r.no, .string r.k, .int .i64 r.n, .int .i64 r.s]
theorem encNum_length (x : Int) : (encNum x).length = 1 := rfl
theorem encSnt_length (x : Snt) : (encSnt x).length = 4 := rfl
theorem encRq_length (x : Rq) : (encRq x).length = 4 := rfl

section
variable {α : Type} (p : α → Bool) (r : α → α → Bool)
end

end Mth
end Go.Proofs.Ytgkimogaghgjaaa
namespace Go.Proofs.Ytgkimogaghgjaaa
open Go.RowKit

/-- A number lies between two others. -/
def Inn (x a b : Int) : Prop := a ≤ x ∧ x ≤ b
instance (x a b : Int) : Decidable (Inn x a b) := by unfold Inn; infer_instance

end Go.Proofs.Ytgkimogaghgjaaa
namespace Go.Proofs.Ytgkimogaghgjaaa
open Go.RowKit
open Mth

/-- Purses as they lie. -/
abbrev PursesAt (w : World) (a : Option Addr) (l : List Pu) : Prop := GR.At encP 4 w a l
theorem PursesAt.four {w : World} {a : Option Addr} {l : List Pu} (h : PursesAt w a l) (i : Nat) (hi : i < l.length) : ∃ g off, a = some ⟨g, off, none⟩ ∧ g < w.heap.size ∧ w.cell? ⟨g, off + i * 4, none⟩ = some (.string l[i].k) ∧ w.cell? ⟨g, off + i * 4 + 1, none⟩ = some (.int .i64 l[i].m) ∧ w.cell? ⟨g, off + i * 4 + 2, none⟩ = some (.int .i64 l[i].f) ∧ w.cell? ⟨g, off + i * 4 + 3, none⟩ = some (.int .i64 l[i].s) := by
  obtain ⟨g, off, e, hg, hc⟩ := h i hi
  refine ⟨g, off, e, hg, ?_, ?_, ?_, ?_⟩
  · simpa using hc 0 (by omega)
  · simpa [Nat.add_assoc] using hc 1 (by omega)
  · simpa [Nat.add_assoc] using hc 2 (by omega)
  · simpa [Nat.add_assoc] using hc 3 (by omega)

end Go.Proofs.Ytgkimogaghgjaaa
namespace Go.Proofs.Ytgkimogaghgjaaa
open Go.RowKit
open Mth

set_option maxRecDepth 100000 in
set_option maxHeartbeats 2000000 in
theorem specPurseOf (a : Option Addr) (cap : Nat) (l : List Pu) (key : ByteArray) (w : World) (hl : l.length ≤ 1048600) (ha : PursesAt w a l) :
    Calls Try.prog 21 #[.slice a l.length cap, .string key] w fun e w' => e = .returned (puv (purseOf l key)) ∧ Below w.heap.size w w' := by
  have HA := hide ha
  clear ha
  go_enter Try.func21, Try.ntmps21
  go_wp2_with fail
  go_loopw [5] (fun i wr => ∃ k : Nat, k ≤ l.length ∧ i = .int .i64 k ∧ (l.take k).find? (fun p => p.k.toList == key.toList) = none ∧ wr = w.alloc (.cells #[.string ⟨#[]⟩, .int .i64 0, .int .i64 0, .int .i64 0] 52)) (fun i _ => l.length - (intOf i).toNat)
  case atStart => exact ⟨0, Nat.zero_le _, rfl, rfl, rfl⟩
  case round =>
    obtain ⟨k, hk, rfl, hnone, rfl⟩ := hrel
    have HN := hide hnone
    clear hnone
    by_cases hlt : k < l.length
    · obtain ⟨g, off, rfl, hgw, c0, c1, c2, c3⟩ := PursesAt.four (unhide HA) k hlt
      have hfs := find_step (fun p => p.k.toList == key.toList) l k hlt (unhide HN)
      cases hf : l[k].k.toList == key.toList
      · have HX := hide (hfs.2 hf)
        clear hfs HN
        generalize l[k] = pu at *
        obtain ⟨pk, pm, pf, ps⟩ := pu
        dsimp only at c0 c1 c2 c3 hf
        go_wp2_with fail
        go_roundw
        case rel => exact ⟨k + 1, by omega, by go_num, unhide HX, by first | rfl | trivial⟩
        case measure => simp [intOf]; omega
      · have HX := hide (show purseOf l key = l[k] by unfold purseOf; rw [hfs.1 hf]; rfl)
        clear hfs HN
        generalize l[k] = pu at *
        obtain ⟨pk, pm, pf, ps⟩ := pu
        dsimp only at c0 c1 c2 c3 hf
        go_wp2_with fail
        refine bodyPost_ret (v := .agg #[.string pk, .int .i64 pm, .int .i64 pf, .int .i64 ps]) (by simp [results, Try.results21, go_sem]) rfl ⟨by rw [unhide HX], ?_⟩
        exact (Below.refl _ _).alloc (Nat.le_refl _) _
    · have hke : k = l.length := by omega
      subst hke
      have hnlt : decide ((l.length : Int) < (l.length : Int)) = false := by simp
      have HX := hide (show purseOf l key = ⟨key, 0, 0, 0⟩ by
        have h := unhide HN
        rw [List.take_length] at h
        unfold purseOf
        rw [h]
        rfl)
      go_wp2_with fail
      refine bodyPost_ret (v := .agg #[.string key, .int .i64 0, .int .i64 0, .int .i64 0]) (by simp [results, Try.results21, go_sem]) rfl ⟨by rw [unhide HX], ?_⟩
      exact (Below.refl _ _).alloc (Nat.le_refl _) _

theorem four_at {w : World} {g : Nat} {a0 a1 a2 a3 : Value} {t : TypeId} (h : w.heap[g]? = some (.cells #[a0, a1, a2, a3] t (0, 0))) :
    (w.cell? ⟨g, 0, none⟩ = some a0 ∧ w.cell? ⟨g, 1, none⟩ = some a1 ∧ w.cell? ⟨g, 2, none⟩ = some a2 ∧ w.cell? ⟨g, 3, none⟩ = some a3) ∧ (w.frozen? ⟨g, 0, none⟩ = false ∧ w.frozen? ⟨g, 1, none⟩ = false ∧ w.frozen? ⟨g, 2, none⟩ = false ∧ w.frozen? ⟨g, 3, none⟩ = false) := by
  have hc : ∀ i, w.cell? ⟨g, i, none⟩ = #[a0, a1, a2, a3][i]? := fun i => cell_of_row w g i _ t (0, 0) h
  have hf : ∀ i, w.frozen? ⟨g, i, none⟩ = false := fun i => by unfold World.frozen?; rw [h]; simp
  exact ⟨⟨hc 0, hc 1, hc 2, hc 3⟩, hf 0, hf 1, hf 2, hf 3⟩

end Go.Proofs.Ytgkimogaghgjaaa
namespace Go.Proofs.Ytgkimogaghgjaaa
open Go.RowKit
open Mth

theorem below_one' (w : World) (o : Obj) : Below w.heap.size w (w.alloc o) := (Below.refl _ _).alloc (Nat.le_refl _) _
theorem infoPu : (Try.prog.info? 52).map (fun i => (i.zero, i.size, i.bytes)) = some (some (.agg #[.string ByteArray.empty, .int .i64 0, .int .i64 0, .int .i64 0]), 4, 40) := by kernel_rfl
end Go.Proofs.Ytgkimogaghgjaaa
