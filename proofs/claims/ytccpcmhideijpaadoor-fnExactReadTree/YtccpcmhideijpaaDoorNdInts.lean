/-
  The laws' own helpers on lists of numbers: copied, held against each other, their bulk.
-/
import Derived.Test.YtccpcmhideijpaaDoorNdMath
import Derived.Test.YtccpcmhideijpaaDoorPuSz
import Derived.Deep.RegionHeld
namespace Go.Proofs.YtccpcmhideijpaaDoor
open Go.RowKit
open Mth

abbrev IntsAt (w : World) (a : Option Addr) (l : List Int) : Prop := GR.At encNum 1 w a l
theorem IntsAt.one {w : World} {a : Option Addr} {l : List Int} (h : IntsAt w a l) (i : Nat) (hi : i < l.length) : ∃ g off, a = some ⟨g, off, none⟩ ∧ g < w.heap.size ∧ w.cell? ⟨g, off + i, none⟩ = some (.int .i64 l[i]) := by
  obtain ⟨g, off, e, hg, hc⟩ := h i hi
  refine ⟨g, off, e, hg, ?_⟩
  simpa using hc 0 (by omega)
abbrev intBlk (w : World) (g : Nat) (l : List Int) : Prop := GR.Blk encNum 3 w g l
theorem intBlk.one {w : World} {g : Nat} {l : List Int} (h : intBlk w g l) (i : Nat) (hi : i < l.length) : w.cell? ⟨g, i, none⟩ = some (.int .i64 l[i]) := by
  simpa using GR.Blk.cell h encNum_length i hi 0 (by omega)
theorem intBlk.step {w w' : World} {g : Nat} {l : List Int} (h : intBlk w g l) (hb : Below w.heap.size w w') : intBlk w' g l := by
  have hl := GR.Blk.lt h
  unfold intBlk GR.Blk at *
  rw [hb.block g hl]
  exact h
theorem infoInt : (Tryd.prog.info? 3).map (fun i => (i.zero, i.size, i.bytes)) = some (some (.int .i64 0), 1, 8) := by kernel_rfl
theorem makeInts (n : Nat) (hn : n ≤ 2000000) : ∀ W : World, (Instr.makeSlice 22 (.int .i64 (n : Int)) (.int .i64 (n : Int))).run Tryd.prog W = .ok (.slice (some ⟨W.heap.size, 0, none⟩) n n) (W.alloc (.cells (GR.flat encNum (List.replicate n 0)).toArray 3)) := by
  obtain ⟨i0, hi, hz0, hz1, hz2⟩ := info_parts infoInt
  intro W
  have h := run_make (P := Tryd.prog) W 22 3 i0 (.int .i64 0) Tryd.underlying22 hi hz0 .i64 .i64 (n : Int) (n : Int) (by omega) (by omega) (by rw [hz2]; omega) (by omega)
  rw [hz1] at h
  have e := GR.made_flat encNum 1 encNum_length (by omega) 0 (Value.cells (.int .i64 0)) rfl n
  simp only [Int.toNat_natCast] at h
  rw [e] at h
  exact h
theorem take_setI (l : List Int) (z : Int) (k : Nat) (hk : k < l.length) : (l.take k ++ List.replicate (l.length - k) z).set k l[k] = l.take (k + 1) ++ List.replicate (l.length - (k + 1)) z := by
  have hlen : (l.take k).length = k := by simp; omega
  rw [List.set_append_right _ _ (by omega), hlen, Nat.sub_self]
  have e : l.length - k = (l.length - (k + 1)) + 1 := by omega
  rw [e, List.replicate_succ, List.take_succ_eq_append_getElem hk, List.append_assoc]
  rfl

set_option maxRecDepth 100000 in
set_option maxHeartbeats 2000000 in
theorem toIntS (a : Option Addr) (cap : Nat) (l : List Int) (w : World) (hl : l.length ≤ 1048576) (ha : IntsAt w a l) :
    Calls Tryd.prog 25 #[.slice a l.length cap] w fun e w' => e = .returned (.slice (some ⟨w.heap.size, 0, none⟩) l.length l.length) ∧ intBlk w' w.heap.size l ∧ Below w.heap.size w w' := by
  have hmk := makeInts l.length (by omega)
  have HA := hide ha
  clear ha
  go_enter Tryd.func25, Tryd.ntmps25
  go_wp2_with fail
  go_loopw [4] (fun i wr => ∃ k : Nat, k ≤ l.length ∧ i = .int .i64 k ∧ intBlk wr w.heap.size (l.take k ++ List.replicate (l.length - k) 0) ∧ Below w.heap.size w wr) (fun i _ => l.length - (intOf i).toNat)
  case atStart => exact ⟨0, Nat.zero_le _, rfl, by unfold intBlk GR.Blk; rw [List.take_zero, List.nil_append, Nat.sub_zero]; exact heap_alloc_new w _, below_one' w _⟩
  case round =>
    obtain ⟨k, hk, rfl, hB, hbel⟩ := hrel
    have HB := hide hB
    have HBL := hide hbel
    clear hB hbel hmk
    by_cases hlt : k < l.length
    · obtain ⟨g, off, rfl, hgw, q0⟩ := IntsAt.one (GR.At.below (unhide HA) (unhide HBL)) k hlt
      have TS := hide (take_setI l 0 k hlt)
      generalize l[k] = pu at *
      have hln : (l.take k ++ List.replicate (l.length - k) (0 : Int)).length = l.length := by simp; omega
      have s0 := intBlk.one (unhide HB) k (by omega)
      have f0 := GR.Blk.free (unhide HB) k
      go_wp2_with fail
      first | go_region | skip
      go_roundw
      case rel =>
        have h := GR.Blk.set (unhide HB) encNum_length k (by omega) pu
        rw [unhide TS] at h
        have h2 := GR.setW_below (o := k * 1) (Nat.le_refl w.heap.size) (encNum pu) (unhide HBL)
        rw [Nat.mul_one] at h h2
        exact ⟨k + 1, by omega, by go_num, h, h2⟩
      case measure => simp [intOf]; omega
    · have hke : k = l.length := by omega
      subst hke
      have hnlt : decide ((l.length : Int) < (l.length : Int)) = false := by simp
      go_wp2_with fail
      go_ret
      have h := unhide HB
      rw [List.take_length, Nat.sub_self, List.replicate_zero, List.append_nil] at h
      exact ⟨rfl, h, unhide HBL⟩

set_option maxRecDepth 100000 in
set_option maxHeartbeats 2000000 in
theorem eqIntS (a b : Option Addr) (ca cb : Nat) (l : List Int) (w : World) (hl : l.length ≤ 1048600) (ha : IntsAt w a l) (hb : IntsAt w b l) :
    Calls Tryd.prog 20 #[.slice a l.length ca, .slice b l.length cb] w fun e w' => e = .returned (.bool true) ∧ Below w.heap.size w w' := by
  have HA := hide ha
  have HB := hide hb
  clear ha hb
  go_enter Tryd.func20, Tryd.ntmps20
  go_wp2_with fail
  go_loopw [5] (fun i wr => ∃ k : Nat, k ≤ l.length ∧ i = .int .i64 k ∧ Below w.heap.size w wr) (fun i _ => l.length - (intOf i).toNat)
  case atStart => exact ⟨0, Nat.zero_le _, rfl, Below.refl _ _⟩
  case round =>
    obtain ⟨k, hk, rfl, hbel⟩ := hrel
    have HBL := hide hbel
    clear hbel
    by_cases hlt : k < l.length
    · obtain ⟨g1, o1, rfl, hg1, s0⟩ := IntsAt.one (GR.At.below (unhide HA) (unhide HBL)) k hlt
      obtain ⟨g2, o2, rfl, hg2, t0⟩ := IntsAt.one (GR.At.below (unhide HB) (unhide HBL)) k hlt
      generalize l[k] = pu at *
      go_wp2_with fail
      go_quiet (fail)
      go_wp2_with fail
      go_roundw
      case rel => exact ⟨k + 1, by omega, by go_num, (unhide HBL).trans ⟨rfl, rfl, rfl, Nat.le_refl _, fun _ _ => rfl⟩⟩
      case measure => simp [intOf]; omega
    · have hke : k = l.length := by omega
      subst hke
      have hnlt : decide ((l.length : Int) < (l.length : Int)) = false := by simp
      go_wp2_with fail
      go_ret
      exact ⟨rfl, unhide HBL⟩
theorem szIntS (a : Option Addr) (ca : Nat) (l : List Int) (z0 : Int) (w : World) (h0 : 0 ≤ z0) (h1 : z0 ≤ 1048576) (hl : l.length ≤ maxLen) :
    Calls Tryd.prog 23 #[.slice a l.length ca, .int .i64 z0] w fun e w' => e = .returned (.int .i64 (if (l.length : Int) ≤ z0 then z0 - l.length else -1)) ∧ w = w' := by
  unfold maxLen at hl
  by_cases hc : (l.length : Int) ≤ z0
  · rw [if_pos hc]
    have hn : ¬ (z0 - (l.length : Int) < 0) := by omega
    go_enter Tryd.func23, Tryd.ntmps23
    go_wp2_with fail
    go_ret
    exact ⟨rfl, rfl⟩
  · rw [if_neg hc]
    have hn : z0 - (l.length : Int) < 0 := by omega
    go_enter Tryd.func23, Tryd.ntmps23
    go_wp2_with fail
    go_ret
    exact ⟨rfl, rfl⟩
end Go.Proofs.YtccpcmhideijpaaDoor
