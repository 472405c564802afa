/- Parts. -/
import Derived.Test.YtcfcngbfnflbgaaGreatDoorPk11
import Derived.Test.YtcfcngbfnflbgaaGreatDoorPk12
import Derived.Test.YtcfcngbfnflbgaaGreatDoorPk5
import Derived.Test.YtcfcngbfnflbgaaGreatDoorPk1
import Derived.Test.YtcfcngbfnflbgaaGreatDoorPk6
import Derived.Deep.RegionHeldLaw
import Derived.Deep.AppendLies
import Derived.Lib.Strings
import Derived.Lib.BufferWrite
import Derived.Lib.UnsafeStr
import Derived.Laws.MakeOwn
import Derived.Laws.CopyOwn
import Derived.Deep.RegionLaw
import Derived.Lib.ItoaNum
import Derived.Lib.ItoaLen
import Derived.Laws.DeepStrings4
import Derived.OneCell
import Derived.Deep.Draws
namespace Go.Proofs.YtcfcngbfnflbgaaGreatDoor
open Go.RowKit
open Mth

theorem GR.At.heap {α : Type} {enc : α → List Value} {sz : Nat} {w w1 : World} {a : Option Addr} {l : List α} (h : GR.At enc sz w a l) (e : w1.heap = w.heap) : GR.At enc sz w1 a l := fun i hi => by
  obtain ⟨g, off, e0, hg, hc⟩ := h i hi
  exact ⟨g, off, e0, by rw [e]; exact hg, fun j hj => (World.cell?_of_block (w := w) (by rw [e])).trans (hc j hj)⟩
/-- What a function that answers messages gives. -/
def GivesM (w : World) (L : List Mg) (e : Ending) (w' : World) : Prop := ∃ a c, e = .returned (.slice a L.length c) ∧ ∃ g, GR.W encM 7 w' a g L ∧ (∀ x ∈ fp g L, w.heap.size ≤ x ∧ x < w'.heap.size) ∧ Below w.heap.size w w'
end Go.Proofs.YtcfcngbfnflbgaaGreatDoor
namespace Go.Proofs.YtcfcngbfnflbgaaGreatDoor
open Go.RowKit
open Mth

theorem GivesM.of_own {w w' : World} {B : Nat} {v : Value} {L : List Mg} {n : Nat} (hn : n = L.length) (h : w'.ownsRow B 117 7 v n (GR.flat encM L)) (hB : w.heap.size ≤ B) (hb : Below w.heap.size w w') : GivesM w L (.returned v) w' := by
  subst hn
  obtain ⟨a, c, g, rfl, hW, hr, _⟩ := GR.W.of_own encM_length h
  exact ⟨a, c, rfl, g, hW, fun x hx => ⟨Nat.le_trans hB (hr x hx).1, (hr x hx).2⟩, hb⟩
end Go.Proofs.YtcfcngbfnflbgaaGreatDoor
namespace Go.Proofs.YtcfcngbfnflbgaaGreatDoor
open Go.RowKit

theorem infoByte : (Tryz.prog.info? 5).map (fun i => (i.zero, i.size, i.bytes)) = some (some (.int .u8 0), 1, 1) := by kernel_rfl
theorem sizeByte : (Tryz.prog.info? 5).map (·.size) = some 1 := by kernel_rfl
theorem cellsByte : Tryz.prog.cellsOf 5 = 1 := by kernel_rfl

theorem cloneIn_empty (w : World) : Calls Tryz.prog 88 #[.string ByteArray.empty] w fun e w' => e = .returned (.string ByteArray.empty) ∧ w = w' := by
  go_enter Tryz.func88, Tryz.ntmps88
  go_wp2
  go_ret
  exact ⟨rfl, rfl⟩

/-- 'make([]byte, n)': a new row of n noughts, under a name. -/
theorem make_bytes (n : Nat) (hn : n ≤ 281474976710656) : ∃ M : Array Value, M.size = n ∧ ∀ W : World, (Instr.makeSlice 135 (.int .i64 (n : Int)) (.int .i64 (n : Int))).run Tryz.prog W = .ok (.slice (some ⟨W.heap.size, 0, none⟩) n n) (W.alloc (.cells M 5)) := by
  obtain ⟨i0, hi, hz0, hz1, hz2⟩ := info_parts infoByte
  refine ⟨madeCells (Value.int .u8 0).cells (((n : Nat) : Int).toNat * i0.size), by rw [size_madeCells, hz1]; simp, fun W => ?_⟩
  simpa using run_make (P := Tryz.prog) W 135 5 i0 (.int .u8 0) Tryz.underlying135 hi hz0 .i64 .i64 (n : Int) (n : Int) (by omega) (by omega) (by rw [hz2]; omega) (by omega)

/-- 'copy(b, s)' over a whole new row: the row then holds the text's bytes. -/
theorem copy_all (w : World) (s : ByteArray) (M : Array Value) (hM : M.size = s.size) : ∃ Y : Array Value, Y.toList = s.data.toList.map bv ∧
    (Builtin.copy_ #[135, 9] 3 #[.slice (some ⟨w.heap.size, 0, none⟩) s.size s.size, .string s]).run Tryz.prog (w.alloc (.cells M 5)) = .ok (goInt s.size) ((w.alloc (.cells M 5)).setRow w.heap.size Y) := by
  have h := Lib.run_copy_row_string (P := Tryz.prog) (w.alloc (.cells M 5)) 135 9 3 5 w.heap.size 0 s.size s.size s M 5 Tryz.underlying135 sizeByte (heap_alloc_new w _) (Nat.le_refl _) (by omega)
  refine ⟨_, ?_, h⟩
  rw [List.toList_toArray, List.take_zero, List.nil_append, List.drop_of_length_le (by rw [Array.length_toList]; omega), List.append_nil]
  rfl

set_option maxHeartbeats 1000000 in
set_option maxRecDepth 100000 in
theorem cloneIn (s : ByteArray) (w : World) (h0 : 0 < s.size) (hlim : s.size ≤ 281474976710656) :
    Calls Tryz.prog 88 #[.string s] w fun e w' => e = .returned (.string s) ∧ Below w.heap.size w w' := by
  obtain ⟨M, hMs, hmk⟩ := make_bytes s.size hlim
  obtain ⟨Y, hY, hcp⟩ := copy_all w s M hMs
  have hYs : Y.size = s.size := by rw [← Array.length_toList, hY]; simp
  have hg : ((w.alloc (.cells M 5)).setRow w.heap.size Y).heap[w.heap.size]? = some (.cells Y 5 (0, 0)) := setRow_heap _ _ M _ 5 (0, 0) (heap_alloc_new w _)
  have hus := Lib.run_unsafeString_row (P := Tryz.prog) ((w.alloc (.cells M 5)).setRow w.heap.size Y) 137 3 9 5 Tryz.underlying137 cellsByte w.heap.size Y.size (by unfold World.shape?; rw [hg]) s.data.toList
    (fun e => by have := size_toList s; rw [e] at this; simp at this; omega) (by rw [size_toList]; omega) (by rw [size_toList]; omega)
    (fun j x hx => Lib.cells_of_row hg Y.size j _ (by rw [List.take_of_length_le (by rw [Array.length_toList]; exact Nat.le_refl _), hY]; simp [bv, hx]))
  rw [size_toList, Lib.mk_data] at hus
  have hne : ((s.size : Int) == 0) = false := beq_eq_false_iff_ne.2 (by omega)
  have hlt : (0 : Int) < (s.size : Int) := by omega
  clear hY hMs hg
  go_enter Tryz.func88, Tryz.ntmps88
  go_wp2
  go_ret
  exact ⟨rfl, Lib.below_freeze (below_setRow ((Below.refl _ w).alloc (Nat.le_refl _) _) (Nat.le_refl _) Y) (p := ⟨w.heap.size, 0, none⟩) (Nat.le_refl _) _⟩

theorem clone (s : ByteArray) (w : World) (hlim : s.size ≤ 281474976710656) :
    Calls Tryz.prog 63 #[.string s] w fun e w' => e = .returned (.string s) ∧ Below w.heap.size w w' := by
  by_cases h0 : 0 < s.size
  · go_enter Tryz.func63, Tryz.ntmps63
    go_wp2_with (go_at_call 88; refine (cloneIn s _ h0 hlim).mono ?_; rintro e w' ⟨rfl, hbel⟩)
    go_ret
    exact ⟨rfl, hbel⟩
  · obtain rfl := eq_empty s (by omega)
    go_enter Tryz.func63, Tryz.ntmps63
    go_wp2_with (go_at_call 88; refine (cloneIn_empty _).mono ?_; rintro e w' ⟨rfl, rfl⟩)
    go_ret
    exact ⟨rfl, Below.refl _ _⟩
end Go.Proofs.YtcfcngbfnflbgaaGreatDoor
namespace Go.Proofs.YtcfcngbfnflbgaaGreatDoor
open Go.RowKit
open Mth

/-- A worker's cells. -/
abbrev wkc (n : Nd) (A : Ads) (v : Value) : Array Value := #[.int .i64 n.id, .int .i64 n.par, .slice A.k n.kids.length A.ck, .int .i64 n.next, .slice A.p n.pu.length A.cp, .slice A.o n.out.length A.co, .slice A.s n.seen.length A.cs, .int .i64 n.old, .slice A.r n.reqs.length A.cr, v]
theorem tenC {w : World} {g : Nat} {v0 v1 v2 v3 v4 v5 v6 v7 v8 v9 : Value} {t : TypeId} (h : w.heap[g]? = some (.cells #[v0, v1, v2, v3, v4, v5, v6, v7, v8, v9] t (0, 0))) :
    w.cell? ⟨g, 0, none⟩ = some v0 ∧ w.cell? ⟨g, 1, none⟩ = some v1 ∧ w.cell? ⟨g, 2, none⟩ = some v2 ∧ w.cell? ⟨g, 3, none⟩ = some v3 ∧ w.cell? ⟨g, 4, none⟩ = some v4 ∧ w.cell? ⟨g, 5, none⟩ = some v5 ∧ w.cell? ⟨g, 6, none⟩ = some v6 ∧ w.cell? ⟨g, 7, none⟩ = some v7 ∧ w.cell? ⟨g, 8, none⟩ = some v8 ∧ w.cell? ⟨g, 9, none⟩ = some v9 := by
  have hc : ∀ i, w.cell? ⟨g, i, none⟩ = #[v0, v1, v2, v3, v4, v5, v6, v7, v8, v9][i]? := fun i => cell_of_row w g i _ t (0, 0) h
  exact ⟨hc 0, hc 1, hc 2, hc 3, hc 4, hc 5, hc 6, hc 7, hc 8, hc 9⟩
structure WS (w2 wr : World) (wb : Nat) (n : Nd) (A : Ads) (v : Value) (L : List Mg) : Prop where
  keep : KeepsL [wb] w2 wr
  blk : wr.heap[wb]? = some (.cells (wkc n A v) 160 (0, 0))
  own : wr.ownsRow w2.heap.size 117 7 v L.length (GR.flat encM L)
  lt : wb < w2.heap.size
theorem WS.step {w2 wr w' : World} {wb : Nat} {n : Nd} {A : Ads} {v : Value} {L : List Mg} (h : WS w2 wr wb n A v L) (hb : Below wr.heap.size wr w') : WS w2 w' wb n A v L :=
  ⟨h.keep.trans (KeepsL.of_below hb), obj_step h.blk hb, GR.own_below h.own hb, h.lt⟩
theorem WS.set {w2 wr : World} {wb g i : Nat} {n : Nd} {A : Ads} {v u : Value} {L : List Mg} (h : WS w2 wr wb n A v L) (hg : w2.heap.size ≤ g) (hv : v.ownBlock ≠ some g) : WS w2 (wr.setCell ⟨g, i, none⟩ u) wb n A v L := by
  have hlt := h.lt
  refine ⟨?_, ?_, ?_, hlt⟩
  · refine ⟨h.keep.os, h.keep.tape, h.keep.output, by have := h.keep.size; simpa [World.setCell] using this, fun k hk hkn => ?_⟩
    have hkg : k ≠ g := by omega
    rw [Below.heap_setCell _ _ _ _ hkg]
    exact h.keep.block k hk hkn
  · have hkg : wb ≠ g := by omega
    rw [Below.heap_setCell _ _ _ _ hkg]; exact h.blk
  · refine h.own.kept (row := some g) ⟨rfl, rfl, rfl, by simp [World.setCell], fun k _ hk => Below.heap_setCell _ _ _ _ (fun e => hk (by rw [e]))⟩ ?_
    cases hv' : v.ownBlock with
    | none => exact .inl rfl
    | some k => exact .inr (fun e => hv (by rw [hv', e]))
end Go.Proofs.YtcfcngbfnflbgaaGreatDoor
namespace Go.Proofs.YtcfcngbfnflbgaaGreatDoor.Mth
open Go.Lib (decDigits itoa)

theorem digits_small (v : Nat) (h : v < 10) : decDigits v = [UInt8.ofNat (48 + v)] := by rw [decDigits, dif_pos h]
theorem digits_big (v : Nat) (h : ¬ v < 10) : decDigits v = decDigits (v / 10) ++ [UInt8.ofNat (48 + v % 10)] := by rw [decDigits, dif_neg h]
end Go.Proofs.YtcfcngbfnflbgaaGreatDoor.Mth
namespace Go.Proofs.YtcfcngbfnflbgaaGreatDoor
open Go.RowKit
open Go.Lib (decDigits itoa)

/-- The digits that are still to come; none for nought. -/
def leftDigits (a : Nat) : List UInt8 := if a = 0 then [] else decDigits a
theorem left_step (a : Nat) (l t : List UInt8) (h0 : a ≠ 0) (h : leftDigits a ++ l = t) : leftDigits (a / 10) ++ (UInt8.ofNat (48 + a % 10) :: l) = t := by
  unfold leftDigits at *
  rw [if_neg h0] at h
  by_cases hs : a < 10
  · have e1 : a / 10 = 0 := by omega
    have e2 : a % 10 = a := by omega
    rw [Mth.digits_small a hs] at h
    rw [e1, e2, if_pos rfl]; simpa using h
  · rw [Mth.digits_big a hs] at h
    rw [if_neg (by omega), ← h]; simp
end Go.Proofs.YtcfcngbfnflbgaaGreatDoor
namespace Go.Proofs.YtcfcngbfnflbgaaGreatDoor
open Go.RowKit
open Go.Lib (decDigits)

/-- The mark of a number above 0. -/
def mark (k : Nat) : ByteArray := ⟨(109 :: decDigits k).toArray⟩
theorem one_add (b : UInt8) (l : List UInt8) : (ByteArray.mk #[b]) ++ ⟨l.toArray⟩ = ⟨(b :: l).toArray⟩ := by
  apply ByteArray.ext; simp
theorem conv_one (w : World) (z : Int) (b : UInt8) (hz : z = b.toNat) (cap : Nat) : (convert 135 9 (.slice (some ⟨w.heap.size, 0, none⟩) 1 cap)).run Tryz.prog (w.alloc (.cells #[.int .u8 z] 5)) = .ok (.string ⟨#[b]⟩) (w.alloc (.cells #[.int .u8 z] 5)) := by
  subst hz
  have := run_convert_bytes_back (P := Tryz.prog) (w.alloc (.cells #[.int .u8 (b.toNat : Int)] 5)) 135 9 5 ⟨w.heap.size, 0, none⟩ cap [b] Tryz.underlying135 Tryz.underlying5 Tryz.underlying9 (fun j hj => by
    have : j = 0 := by simpa using hj
    subst this; simp [Addr.add])
  simpa using this

set_option maxHeartbeats 1000000 in
set_option maxRecDepth 100000 in
theorem markText (k : Nat) (w : World) (h0 : 0 < k) (hk : (k : Int) ≤ 9223372036854775807) :
    Calls Tryz.prog 75 #[.int .i64 k] w fun e w' => e = .returned (.string (mark k)) ∧ Below w.heap.size w w' := by
  have hlen : (decDigits k).length ≤ 21 := by have := Lib.itoa_length_le k (by omega) hk; rw [Lib.itoa, if_neg (by omega)] at this; simpa using this
  have hpos : decide ((k : Int) ≤ 0) = false := by simp; omega
  go_enter Tryz.func75, Tryz.ntmps75
  go_wp2
  go_loopw [0, 3] (fun m o wr => ∃ (a : Nat) (l : List UInt8), a ≤ k ∧ m = .int .i64 a ∧ o = .string ⟨l.toArray⟩ ∧ leftDigits a ++ l = decDigits k ∧ Below w.heap.size w wr) (fun m _ _ => (intOf m).toNat)
  case atStart => exact ⟨k, [], Nat.le_refl _, rfl, rfl, by unfold leftDigits; rw [if_neg (by omega)]; simp, Below.refl _ _⟩
  case round =>
    obtain ⟨a, l, ha, rfl, rfl, hl, hbel⟩ := hrel
    have HL := hide hl
    have hll : l.length ≤ 21 := by have := congrArg List.length hl; rw [List.length_append] at this; omega
    clear hl
    by_cases hz : a = 0
    · subst hz
      have HE := hide (show l = decDigits k by have := unhide HL; simpa [leftDigits] using this)
      have hA := hide (one_add 109 l)
      clear HL
      go_wp2
      go_ret
      exact ⟨ret_string (by unfold mark; rw [← unhide HE]; exact unhide hA), hbel⟩
    · have HS := hide (left_step a l _ hz (unhide HL))
      obtain ⟨b, hb⟩ : ∃ b, b = UInt8.ofNat (48 + a % 10) := ⟨_, rfl⟩
      rw [← hb] at HS
      have hA := hide (one_add b l)
      have hconv := conv_one wr (48 + (a : Int) % 10) b (by rw [hb, Mth.toNat_byte _ (by omega)]; omega) 1
      clear HL hb
      go_wp2
      go_roundw
      case rel => exact ⟨a / 10, _, by omega, by go_num, by rw [unhide hA], unhide HS, by first | exact hbel.alloc (by have := hbel.size; omega) _ | exact (hbel.alloc (by have := hbel.size; omega) _).drew⟩
      case measure => simp [intOf]; omega
end Go.Proofs.YtcfcngbfnflbgaaGreatDoor
namespace Go.Proofs.YtcfcngbfnflbgaaGreatDoor
open Go.RowKit

/-- A block that holds just these texts. -/
def strBlock (w : World) (g : Nat) (xs : List ByteArray) : Prop := w.heap[g]? = some (.cells (xs.map Value.string).toArray 9 (0, 0))
theorem strBlock.cell {w : World} {g : Nat} {xs : List ByteArray} (h : strBlock w g xs) (i : Nat) (hi : i < xs.length) : w.cell? ⟨g, i, none⟩ = some (.string xs[i]) := by
  rw [cell_of_row w g i _ 9 (0, 0) h]; simp [hi]
theorem strBlock.free {w : World} {g : Nat} {xs : List ByteArray} (h : strBlock w g xs) (i : Nat) : w.frozen? ⟨g, i, none⟩ = false := by
  unfold World.frozen?; rw [h]; simp
theorem strBlock.lt {w : World} {g : Nat} {xs : List ByteArray} (h : strBlock w g xs) : g < w.heap.size := by
  rcases Nat.lt_or_ge g w.heap.size with h' | h'
  · exact h'
  · rw [strBlock, Array.getElem?_eq_none h'] at h; cases h
theorem strBlock.below {w w' : World} {g B : Nat} {xs : List ByteArray} (h : strBlock w g xs) (hb : Below B w w') (hg : g < B) : strBlock w' g xs := by
  unfold strBlock; rw [hb.block g hg]; exact h
theorem strBlock.set {w : World} {g : Nat} {xs : List ByteArray} (h : strBlock w g xs) (i : Nat) (t : ByteArray) : strBlock (w.setCell ⟨g, i, none⟩ (.string t)) g (xs.set i t) := by
  unfold strBlock World.setCell
  simp only [Array.getElem?_modify]
  rw [if_pos trivial, h]
  simp

/-- All but one block reads as before; new blocks may lie behind. -/
structure Keeps (g : Nat) (w w' : World) : Prop where
  os : w'.os = w.os
  tape : w'.tape = w.tape
  output : w'.output = w.output
  size : w.heap.size ≤ w'.heap.size
  block : ∀ k, k < w.heap.size → k ≠ g → w'.heap[k]? = w.heap[k]?
theorem Keeps.refl (g : Nat) (w : World) : Keeps g w w := ⟨rfl, rfl, rfl, Nat.le_refl _, fun _ _ _ => rfl⟩
theorem Keeps.trans {g : Nat} {a b c : World} (h : Keeps g a b) (k : Keeps g b c) : Keeps g a c :=
  ⟨k.os.trans h.os, k.tape.trans h.tape, k.output.trans h.output, Nat.le_trans h.size k.size, fun i hi hg => (k.block i (Nat.lt_of_lt_of_le hi h.size) hg).trans (h.block i hi hg)⟩
theorem Keeps.of_below {g : Nat} {w w' : World} (h : Below w.heap.size w w') : Keeps g w w' := ⟨h.os, h.tape, h.output, h.size, fun k hk _ => h.block k hk⟩
theorem Keeps.set {g i : Nat} {w : World} (v : Value) : Keeps g w (w.setCell ⟨g, i, none⟩ v) :=
  ⟨rfl, rfl, rfl, by simp [World.setCell], fun k _ hg => Below.heap_setCell _ _ _ _ hg⟩
theorem Keeps.below {g B : Nat} {w w' : World} (h : Keeps g w w') (hB : B ≤ g) (hs : B ≤ w.heap.size) : Below B w w' := ⟨h.os, h.tape, h.output, h.size, fun k hk => h.block k (by omega) (by omega)⟩
theorem strBlock.keeps {w w' : World} {g g' : Nat} {xs : List ByteArray} (h : strBlock w g' xs) (hk : Keeps g w w') (hne : g' ≠ g) : strBlock w' g' xs := by
  unfold strBlock; rw [hk.block g' h.lt hne]; exact h

end Go.Proofs.YtcfcngbfnflbgaaGreatDoor
namespace Go.Proofs.YtcfcngbfnflbgaaGreatDoor
open Go.RowKit
open Mth

theorem setW_cell_otherN {g k : Nat} : ∀ (vs : List Value) (w : World) (o : Nat), k < o ∨ o + vs.length ≤ k → (GR.setW w g o vs).cell? ⟨g, k, none⟩ = w.cell? ⟨g, k, none⟩ := by
  intro vs
  induction vs with
  | nil => intro w o _; rfl
  | cons v vs ih =>
    intro w o h
    rw [List.length_cons] at h
    exact (ih (w.setCell ⟨g, o, none⟩ v) (o + 1) (by omega)).trans (World.cell?_setCell_other _ _ _ _ (by simp <;> omega))
theorem setW_cell_sameN {g : Nat} : ∀ (vs : List Value) (w : World) (o : Nat), (∀ j, j < vs.length → ∃ v, w.cell? ⟨g, o + j, none⟩ = some v) → ∀ j, j < vs.length → (GR.setW w g o vs).cell? ⟨g, o + j, none⟩ = vs[j]? := by
  intro vs
  induction vs with
  | nil => intro w o _ j hj; simp at hj
  | cons v vs ih =>
    intro w o h j hj
    cases j with
    | zero =>
      obtain ⟨v0, hv0⟩ := h 0 (by simp)
      rw [Nat.add_zero] at hv0 ⊢
      refine (setW_cell_otherN vs (w.setCell ⟨g, o, none⟩ v) (o + 1) (by omega)).trans ?_
      rw [World.cell?_setCell_same _ _ _ hv0]
      rfl
    | succ j =>
      have h2 := ih (w.setCell ⟨g, o, none⟩ v) (o + 1) (fun j' hj' => by
        obtain ⟨v1, hv1⟩ := h (j' + 1) (by simpa using hj')
        refine ⟨v1, (World.cell?_setCell_other _ _ _ _ (by simp <;> omega)).trans ?_⟩
        rw [← hv1, show o + 1 + j' = o + (j' + 1) by omega]) j (by simpa using hj)
      rw [show o + 1 + j = o + (j + 1) by omega] at h2
      exact h2
theorem setW_frozenN {g k : Nat} : ∀ (vs : List Value) (w : World) (o : Nat), (GR.setW w g o vs).frozen? ⟨g, k, none⟩ = w.frozen? ⟨g, k, none⟩ := by
  intro vs
  induction vs with
  | nil => intro w o; rfl
  | cons v vs ih => intro w o; exact (ih (w.setCell ⟨g, o, none⟩ v) (o + 1)).trans (by rw [World.frozen?_setCell])
theorem setW_sizeN {g : Nat} : ∀ (vs : List Value) (w : World) (o : Nat), (GR.setW w g o vs).heap.size = w.heap.size := by
  intro vs
  induction vs with
  | nil => intro w o; rfl
  | cons v vs ih => intro w o; exact (ih (w.setCell ⟨g, o, none⟩ v) (o + 1)).trans (by simp [World.setCell])
theorem GR.W.set {α : Type} {enc : α → List Value} {sz : Nat} {w : World} {a : Option Addr} {g : Nat} {l : List α} (hs : ∀ x, (enc x).length = sz) (h : GR.W enc sz w a g l) (k : Nat) (x : α) (hk : k < l.length) : GR.W enc sz (GR.setW w g (k * sz) (enc x)) a g (l.set k x) := fun i hi => by
  have hi' : i < l.length := by simpa using hi
  obtain ⟨e, hg, hc⟩ := h i hi'
  refine ⟨e, by rw [setW_sizeN]; exact hg, fun j hj => ⟨?_, by rw [setW_frozenN]; exact (hc j hj).2⟩⟩
  by_cases hik : i = k
  · subst hik
    rw [setW_cell_sameN (enc x) w (i * sz) (fun j' hj' => by
      have hj4 : j' < sz := by rw [hs] at hj'; exact hj'
      have h1 := (hc j' hj4).1
      rw [List.getElem?_eq_getElem (by rw [hs]; exact hj4)] at h1
      exact ⟨_, h1⟩) j (by rw [hs]; exact hj)]
    simp
  · have hcase : i * sz + j < k * sz ∨ k * sz + sz ≤ i * sz + j := by
      rcases Nat.lt_or_gt_of_ne hik with h' | h'
      · left
        have := Nat.mul_le_mul_right sz (show i + 1 ≤ k by omega)
        rw [Nat.add_mul, Nat.one_mul] at this
        omega
      · right
        have := Nat.mul_le_mul_right sz (show k + 1 ≤ i by omega)
        rw [Nat.add_mul, Nat.one_mul] at this
        omega
    rw [setW_cell_otherN (enc x) w (k * sz) (by rw [hs]; exact hcase), (hc j hj).1, List.getElem_set_ne (by omega)]
/-- The first k marked, by a number's own mark. -/
def mks {α : Type} (mk : Nat → α) (c s : Nat) (l : List α) (k : Nat) : List α := (List.range k).map (fun i => mk (s + c * i)) ++ l.drop k
theorem mks_length {α : Type} (mk : Nat → α) (c s : Nat) (l : List α) (k : Nat) (hk : k ≤ l.length) : (mks mk c s l k).length = l.length := by simp [mks]; omega
theorem mks_zero {α : Type} (mk : Nat → α) (c s : Nat) (l : List α) : mks mk c s l 0 = l := by simp [mks]
theorem mks_set {α : Type} (mk : Nat → α) (c s : Nat) (l : List α) (k : Nat) (hk : k < l.length) : (mks mk c s l k).set k (mk (s + c * k)) = mks mk c s l (k + 1) := by
  have e : l.drop k = l[k] :: l.drop (k + 1) := List.drop_eq_getElem_cons hk
  unfold mks
  rw [e, List.set_append_right _ _ (by simp)]
  simp only [List.length_map, List.length_range, Nat.sub_self, List.set_cons_zero, List.range_succ, List.map_append, List.map_cons, List.map_nil, List.append_assoc, List.cons_append, List.nil_append]
theorem mks_at {α : Type} (mk : Nat → α) (c s : Nat) (l : List α) (n k : Nat) (hk : k < n) (hn : n ≤ l.length) : (mks mk c s l n)[k]'(by rw [mks_length mk c s l n hn]; omega) = mk (s + c * k) := by
  unfold mks
  rw [List.getElem_append_left (by simpa using hk)]
  simp
theorem fp_keeps {α : Type} {g : Nat} {l : List α} {w w' : World} (h : KeepsL [g] w w') (hl : 0 < l.length) : KeepsL (fp g l) w w' := h.mono (fun x hx => by
  have : x = g := by simpa using hx
  rw [this]
  exact fp_mem hl)
theorem fp_len {α β : Type} {g : Nat} {l : List α} {l' : List β} (h : l.length = l'.length) : fp g l = fp g l' := by
  unfold fp
  cases l with
  | nil => cases l' with | nil => rfl | cons y l' => simp at h
  | cons x l => cases l' with | nil => simp at h | cons y l' => rfl

/-- A row, cell by cell. -/
def GR.C (w : World) (a : Option Addr) (g : Nat) (cs : List Value) : Prop := ∀ j (hj : j < cs.length), a = some ⟨g, 0, none⟩ ∧ g < w.heap.size ∧ w.cell? ⟨g, j, none⟩ = some cs[j] ∧ w.frozen? ⟨g, j, none⟩ = false
theorem GR.C.set {w : World} {a : Option Addr} {g : Nat} {cs : List Value} (h : GR.C w a g cs) (k : Nat) (v : Value) : GR.C (w.setCell ⟨g, k, none⟩ v) a g (cs.set k v) := fun j hj => by
  have hj' : j < cs.length := by simpa using hj
  obtain ⟨e, hg, hc, hf⟩ := h j hj'
  refine ⟨e, by simpa [World.setCell] using hg, ?_, by rw [World.frozen?_setCell]; exact hf⟩
  by_cases hjk : j = k
  · subst hjk
    rw [World.cell?_setCell_same _ _ _ hc]
    simp
  · rw [World.cell?_setCell_other _ _ _ _ (by simp <;> omega), hc, List.getElem_set_ne (by omega)]
theorem GR.C.below {w w' : World} {a : Option Addr} {g : Nat} {cs : List Value} (h : GR.C w a g cs) (hb : Below w.heap.size w w') : GR.C w' a g cs := fun j hj => by
  obtain ⟨e, hg, hc, hf⟩ := h j hj
  exact ⟨e, Nat.lt_of_lt_of_le hg hb.size, (hb.cell (p := ⟨g, j, none⟩) hg).trans hc, (hb.frozen (p := ⟨g, j, none⟩) hg).trans hf⟩
theorem GR.W.toC {α : Type} {enc : α → List Value} {sz : Nat} {w : World} {a : Option Addr} {g : Nat} {l : List α} (hs : ∀ x, (enc x).length = sz) (hz : 0 < sz) (h : GR.W enc sz w a g l) : GR.C w a g (GR.flat enc l) := fun j hj => by
  have hj2 : j < l.length * sz := by rwa [GR.flat_length enc sz hs] at hj
  have hq : j / sz < l.length := Nat.div_lt_of_lt_mul (by rw [Nat.mul_comm]; exact hj2)
  have hr : j % sz < sz := Nat.mod_lt _ hz
  have ej : j / sz * sz + j % sz = j := Nat.div_add_mod' j sz
  obtain ⟨e, hg, hc⟩ := h (j / sz) hq
  obtain ⟨h1, h2⟩ := hc (j % sz) hr
  have hf := GR.flat_at enc sz hs l (j / sz) hq (j % sz) hr
  rw [ej] at h1 h2 hf
  exact ⟨e, hg, by rw [h1, ← hf, List.getElem?_eq_getElem hj], h2⟩
theorem GR.C.toW {α : Type} {enc : α → List Value} {sz : Nat} {w : World} {a : Option Addr} {g : Nat} {l : List α} (hs : ∀ x, (enc x).length = sz) (hz : 0 < sz) (h : GR.C w a g (GR.flat enc l)) : GR.W enc sz w a g l := fun i hi => by
  have hlt : ∀ j, j < sz → i * sz + j < (GR.flat enc l).length := fun j hj => by
    rw [GR.flat_length enc sz hs]
    have := Nat.mul_le_mul_right sz (show i + 1 ≤ l.length by omega)
    rw [Nat.add_mul, Nat.one_mul] at this
    omega
  refine ⟨(h (i * sz + 0) (hlt 0 hz)).1, (h (i * sz + 0) (hlt 0 hz)).2.1, fun j hj => ?_⟩
  obtain ⟨_, _, hc, hf⟩ := h (i * sz + j) (hlt j hj)
  refine ⟨?_, hf⟩
  rw [hc, ← GR.flat_at enc sz hs l i hi j hj, List.getElem?_eq_getElem]
theorem markTextI (k : Nat) (z : Int) (w : World) (hz : z = k) (h0 : 0 < k) (hk : (k : Int) ≤ 9223372036854775807) :
    Calls Tryz.prog 75 #[.int .i64 z] w fun e w' => e = .returned (.string (mark k)) ∧ Below w.heap.size w w' := by
  subst hz
  exact markText k w h0 hk
end Go.Proofs.YtcfcngbfnflbgaaGreatDoor
