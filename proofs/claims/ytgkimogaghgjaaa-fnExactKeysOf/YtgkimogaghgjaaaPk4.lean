/- Parts. -/
import Derived.Test.YtgkimogaghgjaaaPk1
import Derived.Test.YtgkimogaghgjaaaPk3
import Derived.Test.YtgkimogaghgjaaaPk2
import Derived.OneCell
import Derived.Deep.Draws
import Derived.Deep.RegionHeld
namespace Go.Proofs.Ytgkimogaghgjaaa
open Go.RowKit

/-- A block that holds just these texts. -/
def strBlock (w : World) (g : Nat) (xs : List ByteArray) : Prop := w.heap[g]? = some (.cells (xs.map Value.string).toArray 9 (0, 0))
theorem strBlock.cell {w : World} {g : Nat} {xs : List ByteArray} (h : strBlock w g xs) (i : Nat) (hi : i < xs.length) : w.cell? ⟨g, i, none⟩ = some (.string xs[i]) := by
  rw [cell_of_row w g i _ 9 (0, 0) h]; simp [hi]
theorem strBlock.free {w : World} {g : Nat} {xs : List ByteArray} (h : strBlock w g xs) (i : Nat) : w.frozen? ⟨g, i, none⟩ = false := by
  unfold World.frozen?; rw [h]; simp
theorem strBlock.lt {w : World} {g : Nat} {xs : List ByteArray} (h : strBlock w g xs) : g < w.heap.size := by
  rcases Nat.lt_or_ge g w.heap.size with h' | h'
  · exact h'
  · rw [strBlock, Array.getElem?_eq_none h'] at h; cases h
theorem strBlock.below {w w' : World} {g B : Nat} {xs : List ByteArray} (h : strBlock w g xs) (hb : Below B w w') (hg : g < B) : strBlock w' g xs := by
  unfold strBlock; rw [hb.block g hg]; exact h
theorem strBlock.set {w : World} {g : Nat} {xs : List ByteArray} (h : strBlock w g xs) (i : Nat) (t : ByteArray) : strBlock (w.setCell ⟨g, i, none⟩ (.string t)) g (xs.set i t) := by
  unfold strBlock World.setCell
  simp only [Array.getElem?_modify]
  rw [if_pos trivial, h]
  simp

/-- All but one block reads as before; new blocks may lie behind. -/
structure Keeps (g : Nat) (w w' : World) : Prop where
  os : w'.os = w.os
  tape : w'.tape = w.tape
  output : w'.output = w.output
  size : w.heap.size ≤ w'.heap.size
  block : ∀ k, k < w.heap.size → k ≠ g → w'.heap[k]? = w.heap[k]?
theorem Keeps.refl (g : Nat) (w : World) : Keeps g w w := ⟨rfl, rfl, rfl, Nat.le_refl _, fun _ _ _ => rfl⟩
theorem Keeps.trans {g : Nat} {a b c : World} (h : Keeps g a b) (k : Keeps g b c) : Keeps g a c :=
  ⟨k.os.trans h.os, k.tape.trans h.tape, k.output.trans h.output, Nat.le_trans h.size k.size, fun i hi hg => (k.block i (Nat.lt_of_lt_of_le hi h.size) hg).trans (h.block i hi hg)⟩
theorem Keeps.of_below {g : Nat} {w w' : World} (h : Below w.heap.size w w') : Keeps g w w' := ⟨h.os, h.tape, h.output, h.size, fun k hk _ => h.block k hk⟩
theorem Keeps.set {g i : Nat} {w : World} (v : Value) : Keeps g w (w.setCell ⟨g, i, none⟩ v) :=
  ⟨rfl, rfl, rfl, by simp [World.setCell], fun k _ hg => Below.heap_setCell _ _ _ _ hg⟩
theorem Keeps.below {g B : Nat} {w w' : World} (h : Keeps g w w') (hB : B ≤ g) (hs : B ≤ w.heap.size) : Below B w w' := ⟨h.os, h.tape, h.output, h.size, fun k hk => h.block k (by omega) (by omega)⟩
theorem strBlock.keeps {w w' : World} {g g' : Nat} {xs : List ByteArray} (h : strBlock w g' xs) (hk : Keeps g w w') (hne : g' ≠ g) : strBlock w' g' xs := by
  unfold strBlock; rw [hk.block g' h.lt hne]; exact h

open Mth

theorem setW_cell_otherN {g k : Nat} : ∀ (vs : List Value) (w : World) (o : Nat), k < o ∨ o + vs.length ≤ k → (GR.setW w g o vs).cell? ⟨g, k, none⟩ = w.cell? ⟨g, k, none⟩ := by
  intro vs
  induction vs with
  | nil => intro w o _; rfl
  | cons v vs ih =>
    intro w o h
    rw [List.length_cons] at h
    exact (ih (w.setCell ⟨g, o, none⟩ v) (o + 1) (by omega)).trans (World.cell?_setCell_other _ _ _ _ (by simp <;> omega))
theorem setW_cell_sameN {g : Nat} : ∀ (vs : List Value) (w : World) (o : Nat), (∀ j, j < vs.length → ∃ v, w.cell? ⟨g, o + j, none⟩ = some v) → ∀ j, j < vs.length → (GR.setW w g o vs).cell? ⟨g, o + j, none⟩ = vs[j]? := by
  intro vs
  induction vs with
  | nil => intro w o _ j hj; simp at hj
  | cons v vs ih =>
    intro w o h j hj
    cases j with
    | zero =>
      obtain ⟨v0, hv0⟩ := h 0 (by simp)
      rw [Nat.add_zero] at hv0 ⊢
      refine (setW_cell_otherN vs (w.setCell ⟨g, o, none⟩ v) (o + 1) (by omega)).trans ?_
      rw [World.cell?_setCell_same _ _ _ hv0]
      rfl
    | succ j =>
      have h2 := ih (w.setCell ⟨g, o, none⟩ v) (o + 1) (fun j' hj' => by
        obtain ⟨v1, hv1⟩ := h (j' + 1) (by simpa using hj')
        refine ⟨v1, (World.cell?_setCell_other _ _ _ _ (by simp <;> omega)).trans ?_⟩
        rw [← hv1, show o + 1 + j' = o + (j' + 1) by omega]) j (by simpa using hj)
      rw [show o + 1 + j = o + (j + 1) by omega] at h2
      exact h2
theorem setW_frozenN {g k : Nat} : ∀ (vs : List Value) (w : World) (o : Nat), (GR.setW w g o vs).frozen? ⟨g, k, none⟩ = w.frozen? ⟨g, k, none⟩ := by
  intro vs
  induction vs with
  | nil => intro w o; rfl
  | cons v vs ih => intro w o; exact (ih (w.setCell ⟨g, o, none⟩ v) (o + 1)).trans (by rw [World.frozen?_setCell])
theorem setW_sizeN {g : Nat} : ∀ (vs : List Value) (w : World) (o : Nat), (GR.setW w g o vs).heap.size = w.heap.size := by
  intro vs
  induction vs with
  | nil => intro w o; rfl
  | cons v vs ih => intro w o; exact (ih (w.setCell ⟨g, o, none⟩ v) (o + 1)).trans (by simp [World.setCell])
theorem setW_keeps {g : Nat} : ∀ (vs : List Value) (w : World) (o : Nat), KeepsL [g] w (GR.setW w g o vs) := by
  intro vs
  induction vs with
  | nil => intro w o; exact KeepsL.refl _ _
  | cons v vs ih => intro w o; exact (KeepsL.set v).trans (ih (w.setCell ⟨g, o, none⟩ v) (o + 1))
theorem GR.W.set {α : Type} {enc : α → List Value} {sz : Nat} {w : World} {a : Option Addr} {g : Nat} {l : List α} (hs : ∀ x, (enc x).length = sz) (h : GR.W enc sz w a g l) (k : Nat) (x : α) (hk : k < l.length) : GR.W enc sz (GR.setW w g (k * sz) (enc x)) a g (l.set k x) := fun i hi => by
  have hi' : i < l.length := by simpa using hi
  obtain ⟨e, hg, hc⟩ := h i hi'
  refine ⟨e, by rw [setW_sizeN]; exact hg, fun j hj => ⟨?_, by rw [setW_frozenN]; exact (hc j hj).2⟩⟩
  by_cases hik : i = k
  · subst hik
    rw [setW_cell_sameN (enc x) w (i * sz) (fun j' hj' => by
      have hj4 : j' < sz := by rw [hs] at hj'; exact hj'
      have h1 := (hc j' hj4).1
      rw [List.getElem?_eq_getElem (by rw [hs]; exact hj4)] at h1
      exact ⟨_, h1⟩) j (by rw [hs]; exact hj)]
    simp
  · have hcase : i * sz + j < k * sz ∨ k * sz + sz ≤ i * sz + j := by
      rcases Nat.lt_or_gt_of_ne hik with h' | h'
      · left
        have := Nat.mul_le_mul_right sz (show i + 1 ≤ k by omega)
        rw [Nat.add_mul, Nat.one_mul] at this
        omega
      · right
        have := Nat.mul_le_mul_right sz (show k + 1 ≤ i by omega)
        rw [Nat.add_mul, Nat.one_mul] at this
        omega
    rw [setW_cell_otherN (enc x) w (k * sz) (by rw [hs]; exact hcase), (hc j hj).1, List.getElem_set_ne (by omega)]
theorem fp_keeps {α : Type} {g : Nat} {l : List α} {w w' : World} (h : KeepsL [g] w w') (hl : 0 < l.length) : KeepsL (fp g l) w w' := h.mono (fun x hx => by
  have : x = g := by simpa using hx
  rw [this]
  exact fp_mem hl)
/-- A row, cell by cell. -/
def GR.C (w : World) (a : Option Addr) (g : Nat) (cs : List Value) : Prop := ∀ j (hj : j < cs.length), a = some ⟨g, 0, none⟩ ∧ g < w.heap.size ∧ w.cell? ⟨g, j, none⟩ = some cs[j] ∧ w.frozen? ⟨g, j, none⟩ = false
theorem GR.C.set {w : World} {a : Option Addr} {g : Nat} {cs : List Value} (h : GR.C w a g cs) (k : Nat) (v : Value) : GR.C (w.setCell ⟨g, k, none⟩ v) a g (cs.set k v) := fun j hj => by
  have hj' : j < cs.length := by simpa using hj
  obtain ⟨e, hg, hc, hf⟩ := h j hj'
  refine ⟨e, by simpa [World.setCell] using hg, ?_, by rw [World.frozen?_setCell]; exact hf⟩
  by_cases hjk : j = k
  · subst hjk
    rw [World.cell?_setCell_same _ _ _ hc]
    simp
  · rw [World.cell?_setCell_other _ _ _ _ (by simp <;> omega), hc, List.getElem_set_ne (by omega)]
theorem GR.C.below {w w' : World} {a : Option Addr} {g : Nat} {cs : List Value} (h : GR.C w a g cs) (hb : Below w.heap.size w w') : GR.C w' a g cs := fun j hj => by
  obtain ⟨e, hg, hc, hf⟩ := h j hj
  exact ⟨e, Nat.lt_of_lt_of_le hg hb.size, (hb.cell (p := ⟨g, j, none⟩) hg).trans hc, (hb.frozen (p := ⟨g, j, none⟩) hg).trans hf⟩
theorem GR.W.toC {α : Type} {enc : α → List Value} {sz : Nat} {w : World} {a : Option Addr} {g : Nat} {l : List α} (hs : ∀ x, (enc x).length = sz) (hz : 0 < sz) (h : GR.W enc sz w a g l) : GR.C w a g (GR.flat enc l) := fun j hj => by
  have hj2 : j < l.length * sz := by rwa [GR.flat_length enc sz hs] at hj
  have hq : j / sz < l.length := Nat.div_lt_of_lt_mul (by rw [Nat.mul_comm]; exact hj2)
  have hr : j % sz < sz := Nat.mod_lt _ hz
  have ej : j / sz * sz + j % sz = j := Nat.div_add_mod' j sz
  obtain ⟨e, hg, hc⟩ := h (j / sz) hq
  obtain ⟨h1, h2⟩ := hc (j % sz) hr
  have hf := GR.flat_at enc sz hs l (j / sz) hq (j % sz) hr
  rw [ej] at h1 h2 hf
  exact ⟨e, hg, by rw [h1, ← hf, List.getElem?_eq_getElem hj], h2⟩
theorem GR.C.toW {α : Type} {enc : α → List Value} {sz : Nat} {w : World} {a : Option Addr} {g : Nat} {l : List α} (hs : ∀ x, (enc x).length = sz) (hz : 0 < sz) (h : GR.C w a g (GR.flat enc l)) : GR.W enc sz w a g l := fun i hi => by
  have hlt : ∀ j, j < sz → i * sz + j < (GR.flat enc l).length := fun j hj => by
    rw [GR.flat_length enc sz hs]
    have := Nat.mul_le_mul_right sz (show i + 1 ≤ l.length by omega)
    rw [Nat.add_mul, Nat.one_mul] at this
    omega
  refine ⟨(h (i * sz + 0) (hlt 0 hz)).1, (h (i * sz + 0) (hlt 0 hz)).2.1, fun j hj => ?_⟩
  obtain ⟨_, _, hc, hf⟩ := h (i * sz + j) (hlt j hj)
  refine ⟨?_, hf⟩
  rw [hc, ← GR.flat_at enc sz hs l i hi j hj, List.getElem?_eq_getElem]
theorem markTextI (k : Nat) (z : Int) (w : World) (hz : z = k) (h0 : 0 < k) (hk : (k : Int) ≤ 9223372036854775807) :
    Calls Try.prog 39 #[.int .i64 z] w fun e w' => e = .returned (.string (mark k)) ∧ Below w.heap.size w w' := by
  subst hz
  exact markText k w h0 hk

abbrev SentAt (w : World) (a : Option Addr) (l : List Snt) : Prop := GR.At encSnt 4 w a l
abbrev SentV (p : Snt) : Value := .agg #[.int .i64 p.i, .int .i64 p.t, .string p.k, .int .i64 p.n]
theorem SentAt.four {w : World} {a : Option Addr} {l : List Snt} (h : SentAt w a l) (i : Nat) (hi : i < l.length) : ∃ g off, a = some ⟨g, off, none⟩ ∧ g < w.heap.size ∧ w.cell? ⟨g, off + i * 4, none⟩ = some (.int .i64 l[i].i) ∧ w.cell? ⟨g, off + i * 4 + 1, none⟩ = some (.int .i64 l[i].t) ∧ w.cell? ⟨g, off + i * 4 + 2, none⟩ = some (.string l[i].k) ∧ w.cell? ⟨g, off + i * 4 + 3, none⟩ = some (.int .i64 l[i].n) := by
  obtain ⟨g, off, e, hg, hc⟩ := h i hi
  refine ⟨g, off, e, hg, ?_, ?_, ?_, ?_⟩
  · simpa using hc 0 (by omega)
  · simpa [Nat.add_assoc] using hc 1 (by omega)
  · simpa [Nat.add_assoc] using hc 2 (by omega)
  · simpa [Nat.add_assoc] using hc 3 (by omega)
abbrev SentBlk (w : World) (g : Nat) (l : List Snt) : Prop := GR.Blk encSnt 146 w g l
theorem SentBlk.four {w : World} {g : Nat} {l : List Snt} (h : SentBlk w g l) (i : Nat) (hi : i < l.length) : w.cell? ⟨g, i * 4, none⟩ = some (.int .i64 l[i].i) ∧ w.cell? ⟨g, i * 4 + 1, none⟩ = some (.int .i64 l[i].t) ∧ w.cell? ⟨g, i * 4 + 2, none⟩ = some (.string l[i].k) ∧ w.cell? ⟨g, i * 4 + 3, none⟩ = some (.int .i64 l[i].n) :=
  ⟨by simpa using GR.Blk.cell h encSnt_length i hi 0 (by omega), by simpa using GR.Blk.cell h encSnt_length i hi 1 (by omega), by simpa using GR.Blk.cell h encSnt_length i hi 2 (by omega), by simpa using GR.Blk.cell h encSnt_length i hi 3 (by omega)⟩
theorem SentBlk.step {w w' : World} {g : Nat} {l : List Snt} (h : SentBlk w g l) (hb : Below w.heap.size w w') : SentBlk w' g l := by
  have hl := GR.Blk.lt h
  unfold SentBlk GR.Blk at *
  rw [hb.block g hl]
  exact h
theorem infoSent : (Try.prog.info? 146).map (fun i => (i.zero, i.size, i.bytes)) = some (some (.agg #[.int .i64 0, .int .i64 0, .string ByteArray.empty, .int .i64 0]), 4, 40) := by kernel_rfl
theorem makeSent (n : Nat) (hn : n ≤ 2000000) : ∀ W : World, (Instr.makeSlice 55 (.int .i64 (n : Int)) (.int .i64 (n : Int))).run Try.prog W = .ok (.slice (some ⟨W.heap.size, 0, none⟩) n n) (W.alloc (.cells (GR.flat encSnt (List.replicate n ⟨0, 0, ByteArray.empty, 0⟩)).toArray 146)) := by
  obtain ⟨i0, hi, hz0, hz1, hz2⟩ := info_parts infoSent
  intro W
  have h := run_make (P := Try.prog) W 55 146 i0 (.agg #[.int .i64 0, .int .i64 0, .string ByteArray.empty, .int .i64 0]) Try.underlying55 hi hz0 .i64 .i64 (n : Int) (n : Int) (by omega) (by omega) (by rw [hz2]; omega) (by omega)
  rw [hz1] at h
  have e := GR.made_flat encSnt 4 encSnt_length (by omega) ⟨0, 0, ByteArray.empty, 0⟩ (Value.cells (.agg #[.int .i64 0, .int .i64 0, .string ByteArray.empty, .int .i64 0])) rfl n
  simp only [Int.toNat_natCast] at h
  rw [e] at h
  exact h

set_option maxRecDepth 100000 in
theorem toSent (p : Snt) (w : World) : Calls Try.prog 96 #[SentV p] w fun e w' => e = .returned (SentV p) ∧ Below w.heap.size w w' := by
  obtain ⟨pi, pt, pk, pn⟩ := p
  go_enter Try.func96, Try.ntmps96
  go_wp2_with fail
  refine bodyPost_ret (v := .agg #[.int .i64 pi, .int .i64 pt, .string pk, .int .i64 pn]) (by simp [results, Try.results96, go_sem]) rfl ⟨rfl, ?_⟩
  exact (((Below.refl _ _).alloc (Nat.le_refl _) _).alloc (by simp) _).alloc (by simp; omega) _
set_option maxRecDepth 100000 in
theorem eqSent (p : Snt) (w : World) : Calls Try.prog 100 #[SentV p, SentV p] w fun e w' => e = .returned (.bool true) ∧ Below w.heap.size w w' := by
  obtain ⟨pi, pt, pk, pn⟩ := p
  go_enter Try.func100, Try.ntmps100
  go_wp2_with fail
  go_ret
  exact ⟨rfl, ((Below.refl _ _).alloc (Nat.le_refl _) _).alloc (by simp) _⟩
theorem take_setSent (l : List Snt) (z : Snt) (k : Nat) (hk : k < l.length) : (l.take k ++ List.replicate (l.length - k) z).set k l[k] = l.take (k + 1) ++ List.replicate (l.length - (k + 1)) z := by
  have hlen : (l.take k).length = k := by simp; omega
  rw [List.set_append_right _ _ (by omega), hlen, Nat.sub_self]
  have e : l.length - k = (l.length - (k + 1)) + 1 := by omega
  rw [e, List.replicate_succ, List.take_succ_eq_append_getElem hk, List.append_assoc]
  rfl

set_option maxRecDepth 100000 in
set_option maxHeartbeats 2000000 in
theorem toSentS (a : Option Addr) (cap : Nat) (l : List Snt) (w : World) (hl : l.length ≤ 1048576) (ha : SentAt w a l) :
    Calls Try.prog 80 #[.slice a l.length cap] w fun e w' => e = .returned (.slice (some ⟨w.heap.size, 0, none⟩) l.length l.length) ∧ SentBlk w' w.heap.size l ∧ Below w.heap.size w w' := by
  have hmk := makeSent l.length (by omega)
  have HA := hide ha
  clear ha
  go_enter Try.func80, Try.ntmps80
  go_wp2_with fail
  go_loopw [4] (fun i wr => ∃ k : Nat, k ≤ l.length ∧ i = .int .i64 k ∧ SentBlk wr w.heap.size (l.take k ++ List.replicate (l.length - k) ⟨0, 0, ByteArray.empty, 0⟩) ∧ Below w.heap.size w wr) (fun i _ => l.length - (intOf i).toNat)
  case atStart => exact ⟨0, Nat.zero_le _, rfl, by unfold SentBlk GR.Blk; rw [List.take_zero, List.nil_append, Nat.sub_zero]; exact heap_alloc_new w _, below_one' w _⟩
  case round =>
    obtain ⟨k, hk, rfl, hB, hbel⟩ := hrel
    have HB := hide hB
    have HBL := hide hbel
    clear hB hbel hmk
    by_cases hlt : k < l.length
    · obtain ⟨g, off, rfl, hgw, q0, q1, q2, q3⟩ := SentAt.four (GR.At.below (unhide HA) (unhide HBL)) k hlt
      have TS := hide (take_setSent l ⟨0, 0, ByteArray.empty, 0⟩ k hlt)
      generalize l[k] = pu at *
      obtain ⟨pi, pt, pk, pn⟩ := pu
      dsimp only at q0 q1 q2 q3
      have hln : (l.take k ++ List.replicate (l.length - k) (⟨0, 0, ByteArray.empty, 0⟩ : Snt)).length = l.length := by simp; omega
      go_wp2_with fail
      refine (toSent ⟨pi, pt, pk, pn⟩ _).mono ?_
      rintro e w5 ⟨rfl, hb5⟩
      have HB5 := hide (SentBlk.step (unhide HB) hb5)
      have HBL5 := hide ((unhide HBL).trans (hb5.mono (unhide HBL).size))
      clear hb5 q0 q1 q2 q3
      obtain ⟨s0, s1, s2, s3⟩ := SentBlk.four (unhide HB5) k (by omega)
      have f0 := GR.Blk.free (unhide HB5) (k * 4)
      have f1 := GR.Blk.free (unhide HB5) (k * 4 + 1)
      have f2 := GR.Blk.free (unhide HB5) (k * 4 + 2)
      have f3 := GR.Blk.free (unhide HB5) (k * 4 + 3)
      go_wp2_with fail
      go_roundw
      case rel =>
        have h := GR.Blk.set (unhide HB5) encSnt_length k (by omega) ⟨pi, pt, pk, pn⟩
        rw [unhide TS] at h
        exact ⟨k + 1, by omega, by go_num, h, GR.setW_below (o := k * 4) (Nat.le_refl w.heap.size) (encSnt ⟨pi, pt, pk, pn⟩) (unhide HBL5)⟩
      case measure => simp [intOf]; omega
    · have hke : k = l.length := by omega
      subst hke
      have hnlt : decide ((l.length : Int) < (l.length : Int)) = false := by simp
      go_wp2_with fail
      go_ret
      have h := unhide HB
      rw [List.take_length, Nat.sub_self, List.replicate_zero, List.append_nil] at h
      exact ⟨rfl, h, unhide HBL⟩

set_option maxRecDepth 100000 in
theorem szSent (p : Snt) (left : Int) (w : World) (h0 : 0 ≤ left) (h1 : left ≤ 1048576) (hk : p.k.size ≤ maxLen) : Calls Try.prog 92 #[SentV p, .int .i64 left] w fun e w' => e = .returned (.int .i64 (if (p.k.size : Int) ≤ left then left - p.k.size else -1)) ∧ Below w.heap.size w w' := by
  obtain ⟨pi, pt, pk, pn⟩ := p
  dsimp only at hk ⊢
  unfold maxLen at hk
  by_cases hc : (pk.size : Int) ≤ left
  · rw [if_pos hc]
    have hn : ¬ (left - (pk.size : Int) < 0) := by omega
    go_enter Try.func92, Try.ntmps92
    go_wp2_with fail
    go_ret
    exact ⟨rfl, (Below.refl _ _).alloc (Nat.le_refl _) _⟩
  · rw [if_neg hc]
    have hn : left - (pk.size : Int) < 0 := by omega
    go_enter Try.func92, Try.ntmps92
    go_wp2_with fail
    go_ret
    exact ⟨rfl, (Below.refl _ _).alloc (Nat.le_refl _) _⟩

set_option maxRecDepth 100000 in
set_option maxHeartbeats 2000000 in
theorem eqSentS (a b : Option Addr) (ca cb : Nat) (l : List Snt) (w : World) (hl : l.length ≤ 1048600) (ha : SentAt w a l) (hb : SentAt w b l) :
    Calls Try.prog 86 #[.slice a l.length ca, .slice b l.length cb] w fun e w' => e = .returned (.bool true) ∧ Below w.heap.size w w' := by
  have HA := hide ha
  have HB := hide hb
  clear ha hb
  go_enter Try.func86, Try.ntmps86
  go_wp2_with fail
  go_loopw [5] (fun i wr => ∃ k : Nat, k ≤ l.length ∧ i = .int .i64 k ∧ Below w.heap.size w wr) (fun i _ => l.length - (intOf i).toNat)
  case atStart => exact ⟨0, Nat.zero_le _, rfl, Below.refl _ _⟩
  case round =>
    obtain ⟨k, hk, rfl, hbel⟩ := hrel
    have HBL := hide hbel
    clear hbel
    by_cases hlt : k < l.length
    · obtain ⟨g1, o1, rfl, hg1, s0, s1, s2, s3⟩ := SentAt.four (GR.At.below (unhide HA) (unhide HBL)) k hlt
      obtain ⟨g2, o2, rfl, hg2, t0, t1, t2, t3⟩ := SentAt.four (GR.At.below (unhide HB) (unhide HBL)) k hlt
      generalize l[k] = pu at *
      have HEQ := hide (fun w1 => eqSent pu w1)
      obtain ⟨pi, pt, pk, pn⟩ := pu
      dsimp only at s0 s1 s2 s3 t0 t1 t2 t3
      go_wp2_with fail
      go_region_held (fun w' => (w'.cell? ⟨g1, o1 + k * 4, none⟩ = some (.int .i64 pi) ∧ w'.cell? ⟨g1, o1 + k * 4 + 1, none⟩ = some (.int .i64 pt) ∧ w'.cell? ⟨g1, o1 + k * 4 + 2, none⟩ = some (.string pk) ∧ w'.cell? ⟨g1, o1 + k * 4 + 3, none⟩ = some (.int .i64 pn)) ∧ w'.cell? ⟨g2, o2 + k * 4, none⟩ = some (.int .i64 pi) ∧ w'.cell? ⟨g2, o2 + k * 4 + 1, none⟩ = some (.int .i64 pt) ∧ w'.cell? ⟨g2, o2 + k * 4 + 2, none⟩ = some (.string pk) ∧ w'.cell? ⟨g2, o2 + k * 4 + 3, none⟩ = some (.int .i64 pn)) (go_keep)
        (first
          | (go_at_call 100; refine (unhide HEQ _).mono ?_; rintro e w5 ⟨rfl, hb5⟩; have hb6 : Below wr.heap.size wr w5 := ⟨hb5.os, hb5.tape, hb5.output, hb5.size, hb5.block⟩; clear hb5; have HBL5 := hide ((unhide HBL).trans (hb6.mono (unhide HBL).size)); have y0 := (hb6.cell (p := ⟨g1, o1 + k * 4, none⟩) hg1).trans s0; have y1 := (hb6.cell (p := ⟨g1, o1 + k * 4 + 1, none⟩) hg1).trans s1; have y2 := (hb6.cell (p := ⟨g1, o1 + k * 4 + 2, none⟩) hg1).trans s2; have y3 := (hb6.cell (p := ⟨g1, o1 + k * 4 + 3, none⟩) hg1).trans s3; have z0 := (hb6.cell (p := ⟨g2, o2 + k * 4, none⟩) hg2).trans t0; have z1 := (hb6.cell (p := ⟨g2, o2 + k * 4 + 1, none⟩) hg2).trans t1; have z2 := (hb6.cell (p := ⟨g2, o2 + k * 4 + 2, none⟩) hg2).trans t2; have z3 := (hb6.cell (p := ⟨g2, o2 + k * 4 + 3, none⟩) hg2).trans t3; clear hb6))
      all_goals
        go_wp2_with fail
        go_roundw
        case rel => exact ⟨k + 1, by omega, by go_num, unhide HBL5⟩
        case measure => simp [intOf]; omega
    · have hke : k = l.length := by omega
      subst hke
      have hnlt : decide ((l.length : Int) < (l.length : Int)) = false := by simp
      go_wp2_with fail
      go_ret
      exact ⟨rfl, unhide HBL⟩

set_option maxRecDepth 100000 in
set_option maxHeartbeats 2000000 in
theorem szSentS (a : Option Addr) (ca : Nat) (l : List Snt) (z0 : Int) (w : World) (h0 : 0 ≤ z0) (h1 : z0 ≤ 1048576) (hl : l.length ≤ maxLen) (hks : ∀ p ∈ l, p.k.size ≤ maxLen) (ha : SentAt w a l) :
    Calls Try.prog 74 #[.slice a l.length ca, .int .i64 z0] w fun e w' => ∃ r : Int, e = .returned (.int .i64 r) ∧ Below w.heap.size w w' ∧ (r = -1 ∨ 0 ≤ r ∧ r ≤ 1048576 ∧ l.length ≤ 1048576 ∧ ∀ p ∈ l, p.k.size ≤ 1048576) := by
  have HA := hide ha
  clear ha
  unfold maxLen at hl
  by_cases hbig : (l.length : Int) ≤ z0
  · have hn : ¬ (z0 - (l.length : Int) < 0) := by omega
    go_enter Try.func74, Try.ntmps74
    go_wp2_with fail
    go_loopw [1, 5] (fun lf i wr => ∃ (k : Nat) (z : Int), k ≤ l.length ∧ i = .int .i64 k ∧ lf = .int .i64 z ∧ 0 ≤ z ∧ z ≤ 1048576 ∧ (∀ p ∈ l.take k, p.k.size ≤ 1048576) ∧ Below w.heap.size w wr) (fun _ i _ => l.length - (intOf i).toNat)
    case atStart => exact ⟨0, z0 - l.length, Nat.zero_le _, rfl, by go_num, by omega, by omega, fun p hp => by simp at hp, Below.refl _ _⟩
    case round =>
      obtain ⟨k, z, hk, rfl, rfl, hz0, hz1, hall, hbel⟩ := hrel
      have HALL := hide hall
      have HBL := hide hbel
      clear hall hbel
      by_cases hlt : k < l.length
      · obtain ⟨g, off, rfl, hgw, q0, q1, q2, q3⟩ := SentAt.four (GR.At.below (unhide HA) (unhide HBL)) k hlt
        have hkk := hks l[k] (List.getElem_mem hlt)
        have HT := hide (List.take_succ_eq_append_getElem hlt)
        generalize l[k] = pu at *
        have HSZ := hide (fun w1 => szSent pu z w1 hz0 hz1 hkk)
        obtain ⟨pi, pt, pk, pn⟩ := pu
        dsimp only at q0 q1 q2 q3 hkk
        have hkm : pk.size ≤ maxLen := hkk
        unfold maxLen at hkk
        go_wp2_with fail
        refine (unhide HSZ _).mono ?_
        rintro e w5 ⟨rfl, hb5⟩
        have HBL5 := hide ((unhide HBL).trans (hb5.mono (unhide HBL).size))
        clear hb5 q0 q1 q2 q3
        dsimp only
        by_cases hc : (pk.size : Int) ≤ z
        · rw [if_pos hc]
          have hn2 : decide (z - (pk.size : Int) < 0) = false := decide_eq_false (by omega)
          go_wp2_with fail
          go_roundw
          case rel =>
            refine ⟨k + 1, z - pk.size, by omega, by go_num, rfl, by omega, by omega, ?_, unhide HBL5⟩
            intro p hp
            rw [unhide HT] at hp
            rcases List.mem_append.1 hp with h | h
            · exact unhide HALL p h
            · rw [List.mem_singleton] at h
              subst h
              show pk.size ≤ 1048576
              omega
          case measure => simp [intOf]; omega
        · rw [if_neg hc]
          go_wp2_with fail
          go_ret
          exact ⟨-1, rfl, unhide HBL5, .inl rfl⟩
      · have hke : k = l.length := by omega
        subst hke
        have hnlt : decide ((l.length : Int) < (l.length : Int)) = false := by simp
        go_wp2_with fail
        go_ret
        have h := unhide HALL
        rw [List.take_length] at h
        exact ⟨z, rfl, unhide HBL, .inr ⟨hz0, hz1, by omega, h⟩⟩
  · have hn : z0 - (l.length : Int) < 0 := by omega
    go_enter Try.func74, Try.ntmps74
    go_wp2_with fail
    go_ret
    exact ⟨-1, rfl, Below.refl _ _, .inl rfl⟩
end Go.Proofs.Ytgkimogaghgjaaa
