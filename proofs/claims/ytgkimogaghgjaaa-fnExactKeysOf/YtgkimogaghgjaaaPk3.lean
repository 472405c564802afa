/- Parts. -/
import Derived.Test.YtgkimogaghgjaaaPk2
import Derived.Test.YtgkimogaghgjaaaPk1
import Derived.Deep.RegionHeld
import Derived.Lib.ItoaNum
import Derived.Lib.ItoaLen
import Derived.Laws.DeepStrings4
namespace Go.Proofs.Ytgkimogaghgjaaa
open Go.RowKit
open Mth

set_option maxRecDepth 100000 in
set_option maxHeartbeats 2000000 in
theorem szPurseSG (a : Option Addr) (ca : Nat) (l : List Pu) (z0 : Int) (w : World) (h0 : 0 ≤ z0) (h1 : z0 ≤ 1048576) (hl : l.length ≤ maxLen) (hks : ∀ p ∈ l, p.k.size ≤ maxLen) (ha : PursesAt w a l) :
    Calls Try.prog 73 #[.slice a l.length ca, .int .i64 z0] w fun e w' => ∃ r : Int, e = .returned (.int .i64 r) ∧ Below w.heap.size w w' ∧ (r = -1 ∨ 0 ≤ r ∧ r ≤ 1048576 ∧ l.length ≤ 1048576 ∧ ∀ p ∈ l, p.k.size ≤ 1048576) := by
  have HA := hide ha
  clear ha
  unfold maxLen at hl
  by_cases hbig : (l.length : Int) ≤ z0
  · have hn : ¬ (z0 - (l.length : Int) < 0) := by omega
    go_enter Try.func73, Try.ntmps73
    go_wp2_with fail
    go_loopw [1, 5] (fun lf i wr => ∃ (k : Nat) (z : Int), k ≤ l.length ∧ i = .int .i64 k ∧ lf = .int .i64 z ∧ 0 ≤ z ∧ z ≤ 1048576 ∧ (∀ p ∈ l.take k, p.k.size ≤ 1048576) ∧ Below w.heap.size w wr) (fun _ i _ => l.length - (intOf i).toNat)
    case atStart => exact ⟨0, z0 - l.length, Nat.zero_le _, rfl, by go_num, by omega, by omega, fun p hp => by simp at hp, Below.refl _ _⟩
    case round =>
      obtain ⟨k, z, hk, rfl, rfl, hz0, hz1, hall, hbel⟩ := hrel
      have HALL := hide hall
      have HBL := hide hbel
      clear hall hbel
      by_cases hlt : k < l.length
      · obtain ⟨g, off, rfl, hgw, q0, q1, q2, q3⟩ := PursesAt.four (GR.At.below (unhide HA) (unhide HBL)) k hlt
        have hkk := hks l[k] (List.getElem_mem hlt)
        have HT := hide (List.take_succ_eq_append_getElem hlt)
        generalize l[k] = pu at *
        have HSZ := hide (fun w1 => szPurse pu z w1 hz0 hz1 hkk)
        obtain ⟨pk, pm, pf, ps⟩ := pu
        dsimp only at q0 q1 q2 q3 hkk
        have hkm : pk.size ≤ maxLen := hkk
        unfold maxLen at hkk
        go_wp2_with fail
        refine (unhide HSZ _).mono ?_
        rintro e w5 ⟨rfl, hb5⟩
        have HBL5 := hide ((unhide HBL).trans (hb5.mono (unhide HBL).size))
        clear hb5 q0 q1 q2 q3
        dsimp only
        by_cases hc : (pk.size : Int) ≤ z
        · rw [if_pos hc]
          have hn2 : decide (z - (pk.size : Int) < 0) = false := decide_eq_false (by omega)
          go_wp2_with fail
          go_roundw
          case rel =>
            refine ⟨k + 1, z - pk.size, by omega, by go_num, rfl, by omega, by omega, ?_, unhide HBL5⟩
            intro p hp
            rw [unhide HT] at hp
            rcases List.mem_append.1 hp with h | h
            · exact unhide HALL p h
            · rw [List.mem_singleton] at h
              subst h
              show pk.size ≤ 1048576
              omega
          case measure => simp [intOf]; omega
        · rw [if_neg hc]
          go_wp2_with fail
          go_ret
          exact ⟨-1, rfl, unhide HBL5, .inl rfl⟩
      · have hke : k = l.length := by omega
        subst hke
        have hnlt : decide ((l.length : Int) < (l.length : Int)) = false := by simp
        go_wp2_with fail
        go_ret
        have h := unhide HALL
        rw [List.take_length] at h
        exact ⟨z, rfl, unhide HBL, .inr ⟨hz0, hz1, by omega, h⟩⟩
  · have hn : z0 - (l.length : Int) < 0 := by omega
    go_enter Try.func73, Try.ntmps73
    go_wp2_with fail
    go_ret
    exact ⟨-1, rfl, Below.refl _ _, .inl rfl⟩
end Go.Proofs.Ytgkimogaghgjaaa
namespace Go.Proofs.Ytgkimogaghgjaaa
open Go.RowKit
open Mth

abbrev IntsAt (w : World) (a : Option Addr) (l : List Int) : Prop := GR.At encNum 1 w a l
theorem IntsAt.one {w : World} {a : Option Addr} {l : List Int} (h : IntsAt w a l) (i : Nat) (hi : i < l.length) : ∃ g off, a = some ⟨g, off, none⟩ ∧ g < w.heap.size ∧ w.cell? ⟨g, off + i, none⟩ = some (.int .i64 l[i]) := by
  obtain ⟨g, off, e, hg, hc⟩ := h i hi
  refine ⟨g, off, e, hg, ?_⟩
  simpa using hc 0 (by omega)
abbrev intBlk (w : World) (g : Nat) (l : List Int) : Prop := GR.Blk encNum 3 w g l
theorem intBlk.one {w : World} {g : Nat} {l : List Int} (h : intBlk w g l) (i : Nat) (hi : i < l.length) : w.cell? ⟨g, i, none⟩ = some (.int .i64 l[i]) := by
  simpa using GR.Blk.cell h encNum_length i hi 0 (by omega)
theorem intBlk.step {w w' : World} {g : Nat} {l : List Int} (h : intBlk w g l) (hb : Below w.heap.size w w') : intBlk w' g l := by
  have hl := GR.Blk.lt h
  unfold intBlk GR.Blk at *
  rw [hb.block g hl]
  exact h
theorem infoInt : (Try.prog.info? 3).map (fun i => (i.zero, i.size, i.bytes)) = some (some (.int .i64 0), 1, 8) := by kernel_rfl
theorem makeInts (n : Nat) (hn : n ≤ 2000000) : ∀ W : World, (Instr.makeSlice 22 (.int .i64 (n : Int)) (.int .i64 (n : Int))).run Try.prog W = .ok (.slice (some ⟨W.heap.size, 0, none⟩) n n) (W.alloc (.cells (GR.flat encNum (List.replicate n 0)).toArray 3)) := by
  obtain ⟨i0, hi, hz0, hz1, hz2⟩ := info_parts infoInt
  intro W
  have h := run_make (P := Try.prog) W 22 3 i0 (.int .i64 0) Try.underlying22 hi hz0 .i64 .i64 (n : Int) (n : Int) (by omega) (by omega) (by rw [hz2]; omega) (by omega)
  rw [hz1] at h
  have e := GR.made_flat encNum 1 encNum_length (by omega) 0 (Value.cells (.int .i64 0)) rfl n
  simp only [Int.toNat_natCast] at h
  rw [e] at h
  exact h
theorem take_setI (l : List Int) (z : Int) (k : Nat) (hk : k < l.length) : (l.take k ++ List.replicate (l.length - k) z).set k l[k] = l.take (k + 1) ++ List.replicate (l.length - (k + 1)) z := by
  have hlen : (l.take k).length = k := by simp; omega
  rw [List.set_append_right _ _ (by omega), hlen, Nat.sub_self]
  have e : l.length - k = (l.length - (k + 1)) + 1 := by omega
  rw [e, List.replicate_succ, List.take_succ_eq_append_getElem hk, List.append_assoc]
  rfl

set_option maxRecDepth 100000 in
set_option maxHeartbeats 2000000 in
theorem toIntS (a : Option Addr) (cap : Nat) (l : List Int) (w : World) (hl : l.length ≤ 1048576) (ha : IntsAt w a l) :
    Calls Try.prog 43 #[.slice a l.length cap] w fun e w' => e = .returned (.slice (some ⟨w.heap.size, 0, none⟩) l.length l.length) ∧ intBlk w' w.heap.size l ∧ Below w.heap.size w w' := by
  have hmk := makeInts l.length (by omega)
  have HA := hide ha
  clear ha
  go_enter Try.func43, Try.ntmps43
  go_wp2_with fail
  go_loopw [4] (fun i wr => ∃ k : Nat, k ≤ l.length ∧ i = .int .i64 k ∧ intBlk wr w.heap.size (l.take k ++ List.replicate (l.length - k) 0) ∧ Below w.heap.size w wr) (fun i _ => l.length - (intOf i).toNat)
  case atStart => exact ⟨0, Nat.zero_le _, rfl, by unfold intBlk GR.Blk; rw [List.take_zero, List.nil_append, Nat.sub_zero]; exact heap_alloc_new w _, below_one' w _⟩
  case round =>
    obtain ⟨k, hk, rfl, hB, hbel⟩ := hrel
    have HB := hide hB
    have HBL := hide hbel
    clear hB hbel hmk
    by_cases hlt : k < l.length
    · obtain ⟨g, off, rfl, hgw, q0⟩ := IntsAt.one (GR.At.below (unhide HA) (unhide HBL)) k hlt
      have TS := hide (take_setI l 0 k hlt)
      generalize l[k] = pu at *
      have hln : (l.take k ++ List.replicate (l.length - k) (0 : Int)).length = l.length := by simp; omega
      have s0 := intBlk.one (unhide HB) k (by omega)
      have f0 := GR.Blk.free (unhide HB) k
      go_wp2_with fail
      first | go_region | skip
      go_roundw
      case rel =>
        have h := GR.Blk.set (unhide HB) encNum_length k (by omega) pu
        rw [unhide TS] at h
        have h2 := GR.setW_below (o := k * 1) (Nat.le_refl w.heap.size) (encNum pu) (unhide HBL)
        rw [Nat.mul_one] at h h2
        exact ⟨k + 1, by omega, by go_num, h, h2⟩
      case measure => simp [intOf]; omega
    · have hke : k = l.length := by omega
      subst hke
      have hnlt : decide ((l.length : Int) < (l.length : Int)) = false := by simp
      go_wp2_with fail
      go_ret
      have h := unhide HB
      rw [List.take_length, Nat.sub_self, List.replicate_zero, List.append_nil] at h
      exact ⟨rfl, h, unhide HBL⟩

set_option maxRecDepth 100000 in
set_option maxHeartbeats 2000000 in
theorem eqIntS (a b : Option Addr) (ca cb : Nat) (l : List Int) (w : World) (hl : l.length ≤ 1048600) (ha : IntsAt w a l) (hb : IntsAt w b l) :
    Calls Try.prog 48 #[.slice a l.length ca, .slice b l.length cb] w fun e w' => e = .returned (.bool true) ∧ Below w.heap.size w w' := by
  have HA := hide ha
  have HB := hide hb
  clear ha hb
  go_enter Try.func48, Try.ntmps48
  go_wp2_with fail
  go_loopw [5] (fun i wr => ∃ k : Nat, k ≤ l.length ∧ i = .int .i64 k ∧ Below w.heap.size w wr) (fun i _ => l.length - (intOf i).toNat)
  case atStart => exact ⟨0, Nat.zero_le _, rfl, Below.refl _ _⟩
  case round =>
    obtain ⟨k, hk, rfl, hbel⟩ := hrel
    have HBL := hide hbel
    clear hbel
    by_cases hlt : k < l.length
    · obtain ⟨g1, o1, rfl, hg1, s0⟩ := IntsAt.one (GR.At.below (unhide HA) (unhide HBL)) k hlt
      obtain ⟨g2, o2, rfl, hg2, t0⟩ := IntsAt.one (GR.At.below (unhide HB) (unhide HBL)) k hlt
      generalize l[k] = pu at *
      go_wp2_with fail
      go_quiet (fail)
      go_wp2_with fail
      go_roundw
      case rel => exact ⟨k + 1, by omega, by go_num, (unhide HBL).trans ⟨rfl, rfl, rfl, Nat.le_refl _, fun _ _ => rfl⟩⟩
      case measure => simp [intOf]; omega
    · have hke : k = l.length := by omega
      subst hke
      have hnlt : decide ((l.length : Int) < (l.length : Int)) = false := by simp
      go_wp2_with fail
      go_ret
      exact ⟨rfl, unhide HBL⟩
theorem szIntS (a : Option Addr) (ca : Nat) (l : List Int) (z0 : Int) (w : World) (h0 : 0 ≤ z0) (h1 : z0 ≤ 1048576) (hl : l.length ≤ maxLen) :
    Calls Try.prog 40 #[.slice a l.length ca, .int .i64 z0] w fun e w' => e = .returned (.int .i64 (if (l.length : Int) ≤ z0 then z0 - l.length else -1)) ∧ w = w' := by
  unfold maxLen at hl
  by_cases hc : (l.length : Int) ≤ z0
  · rw [if_pos hc]
    have hn : ¬ (z0 - (l.length : Int) < 0) := by omega
    go_enter Try.func40, Try.ntmps40
    go_wp2_with fail
    go_ret
    exact ⟨rfl, rfl⟩
  · rw [if_neg hc]
    have hn : z0 - (l.length : Int) < 0 := by omega
    go_enter Try.func40, Try.ntmps40
    go_wp2_with fail
    go_ret
    exact ⟨rfl, rfl⟩
end Go.Proofs.Ytgkimogaghgjaaa
namespace Go.Proofs.Ytgkimogaghgjaaa
open Go.RowKit
open Mth

abbrev encStr (x : ByteArray) : List Value := [.string x]
theorem encStr_length (x : ByteArray) : (encStr x).length = 1 := rfl

abbrev StrsAt (w : World) (a : Option Addr) (l : List ByteArray) : Prop := GR.At encStr 1 w a l
theorem StrsAt.one {w : World} {a : Option Addr} {l : List ByteArray} (h : StrsAt w a l) (i : Nat) (hi : i < l.length) : ∃ g off, a = some ⟨g, off, none⟩ ∧ g < w.heap.size ∧ w.cell? ⟨g, off + i, none⟩ = some (.string l[i]) := by
  obtain ⟨g, off, e, hg, hc⟩ := h i hi
  refine ⟨g, off, e, hg, ?_⟩
  simpa using hc 0 (by omega)
abbrev strBlkS (w : World) (g : Nat) (l : List ByteArray) : Prop := GR.Blk encStr 9 w g l
theorem strBlkS.one {w : World} {g : Nat} {l : List ByteArray} (h : strBlkS w g l) (i : Nat) (hi : i < l.length) : w.cell? ⟨g, i, none⟩ = some (.string l[i]) := by
  simpa using GR.Blk.cell h encStr_length i hi 0 (by omega)
theorem strBlkS.step {w w' : World} {g : Nat} {l : List ByteArray} (h : strBlkS w g l) (hb : Below w.heap.size w w') : strBlkS w' g l := by
  have hl := GR.Blk.lt h
  unfold strBlkS GR.Blk at *
  rw [hb.block g hl]
  exact h
theorem infoStrS : (Try.prog.info? 9).map (fun i => (i.zero, i.size, i.bytes)) = some (some (.string ByteArray.empty), 1, 16) := by kernel_rfl
theorem makeStrS (n : Nat) (hn : n ≤ 2000000) : ∀ W : World, (Instr.makeSlice 26 (.int .i64 (n : Int)) (.int .i64 (n : Int))).run Try.prog W = .ok (.slice (some ⟨W.heap.size, 0, none⟩) n n) (W.alloc (.cells (GR.flat encStr (List.replicate n ByteArray.empty)).toArray 9)) := by
  obtain ⟨i0, hi, hz0, hz1, hz2⟩ := info_parts infoStrS
  intro W
  have h := run_make (P := Try.prog) W 26 9 i0 (.string ByteArray.empty) Try.underlying26 hi hz0 .i64 .i64 (n : Int) (n : Int) (by omega) (by omega) (by rw [hz2]; omega) (by omega)
  rw [hz1] at h
  have e := GR.made_flat encStr 1 encStr_length (by omega) ByteArray.empty (Value.cells (.string ByteArray.empty)) rfl n
  simp only [Int.toNat_natCast] at h
  rw [e] at h
  exact h
theorem take_setSt (l : List ByteArray) (z : ByteArray) (k : Nat) (hk : k < l.length) : (l.take k ++ List.replicate (l.length - k) z).set k l[k] = l.take (k + 1) ++ List.replicate (l.length - (k + 1)) z := by
  have hlen : (l.take k).length = k := by simp; omega
  rw [List.set_append_right _ _ (by omega), hlen, Nat.sub_self]
  have e : l.length - k = (l.length - (k + 1)) + 1 := by omega
  rw [e, List.replicate_succ, List.take_succ_eq_append_getElem hk, List.append_assoc]
  rfl

set_option maxRecDepth 100000 in
set_option maxHeartbeats 2000000 in
theorem toStringS (a : Option Addr) (cap : Nat) (l : List ByteArray) (w : World) (hl : l.length ≤ 1048576) (ha : StrsAt w a l) :
    Calls Try.prog 24 #[.slice a l.length cap] w fun e w' => e = .returned (.slice (some ⟨w.heap.size, 0, none⟩) l.length l.length) ∧ strBlkS w' w.heap.size l ∧ Below w.heap.size w w' := by
  have hmk := makeStrS l.length (by omega)
  have HA := hide ha
  clear ha
  go_enter Try.func24, Try.ntmps24
  go_wp2_with fail
  go_loopw [4] (fun i wr => ∃ k : Nat, k ≤ l.length ∧ i = .int .i64 k ∧ strBlkS wr w.heap.size (l.take k ++ List.replicate (l.length - k) ByteArray.empty) ∧ Below w.heap.size w wr) (fun i _ => l.length - (intOf i).toNat)
  case atStart => exact ⟨0, Nat.zero_le _, rfl, by unfold strBlkS GR.Blk; rw [List.take_zero, List.nil_append, Nat.sub_zero]; exact heap_alloc_new w _, below_one' w _⟩
  case round =>
    obtain ⟨k, hk, rfl, hB, hbel⟩ := hrel
    have HB := hide hB
    have HBL := hide hbel
    clear hB hbel hmk
    by_cases hlt : k < l.length
    · obtain ⟨g, off, rfl, hgw, q0⟩ := StrsAt.one (GR.At.below (unhide HA) (unhide HBL)) k hlt
      have TS := hide (take_setSt l ByteArray.empty k hlt)
      generalize l[k] = pu at *
      have hln : (l.take k ++ List.replicate (l.length - k) ByteArray.empty).length = l.length := by simp; omega
      have s0 := strBlkS.one (unhide HB) k (by omega)
      have f0 := GR.Blk.free (unhide HB) k
      go_wp2_with fail
      first | go_region | skip
      go_roundw
      case rel =>
        have h := GR.Blk.set (unhide HB) encStr_length k (by omega) pu
        rw [unhide TS] at h
        have h2 := GR.setW_below (o := k * 1) (Nat.le_refl w.heap.size) (encStr pu) (unhide HBL)
        rw [Nat.mul_one] at h h2
        exact ⟨k + 1, by omega, by go_num, h, h2⟩
      case measure => simp [intOf]; omega
    · have hke : k = l.length := by omega
      subst hke
      have hnlt : decide ((l.length : Int) < (l.length : Int)) = false := by simp
      go_wp2_with fail
      go_ret
      have h := unhide HB
      rw [List.take_length, Nat.sub_self, List.replicate_zero, List.append_nil] at h
      exact ⟨rfl, h, unhide HBL⟩

set_option maxRecDepth 100000 in
set_option maxHeartbeats 2000000 in
theorem eqStringSW (a b : Option Addr) (ca cb : Nat) (l : List ByteArray) (w : World) (hl : l.length ≤ 4398046511104) (ha : StrsAt w a l) (hb : StrsAt w b l) :
    Calls Try.prog 12 #[.slice a l.length ca, .slice b l.length cb] w fun e w' => e = .returned (.bool true) ∧ Below w.heap.size w w' := by
  have HA := hide ha
  have HB := hide hb
  clear ha hb
  go_enter Try.func12, Try.ntmps12
  go_wp2_with fail
  go_loopw [5] (fun i wr => ∃ k : Nat, k ≤ l.length ∧ i = .int .i64 k ∧ Below w.heap.size w wr) (fun i _ => l.length - (intOf i).toNat)
  case atStart => exact ⟨0, Nat.zero_le _, rfl, Below.refl _ _⟩
  case round =>
    obtain ⟨k, hk, rfl, hbel⟩ := hrel
    have HBL := hide hbel
    clear hbel
    by_cases hlt : k < l.length
    · obtain ⟨g1, o1, rfl, hg1, s0⟩ := StrsAt.one (GR.At.below (unhide HA) (unhide HBL)) k hlt
      obtain ⟨g2, o2, rfl, hg2, t0⟩ := StrsAt.one (GR.At.below (unhide HB) (unhide HBL)) k hlt
      generalize l[k] = pu at *
      go_wp2_with fail
      go_quiet (fail)
      go_wp2_with fail
      go_roundw
      case rel => exact ⟨k + 1, by omega, by go_num, (unhide HBL).trans ⟨rfl, rfl, rfl, Nat.le_refl _, fun _ _ => rfl⟩⟩
      case measure => simp [intOf]; omega
    · have hke : k = l.length := by omega
      subst hke
      have hnlt : decide ((l.length : Int) < (l.length : Int)) = false := by simp
      go_wp2_with fail
      go_ret
      exact ⟨rfl, unhide HBL⟩
set_option maxRecDepth 100000 in
set_option maxHeartbeats 2000000 in
theorem szStringS (a : Option Addr) (ca : Nat) (l : List ByteArray) (z0 : Int) (w : World) (h0 : 0 ≤ z0) (h1 : z0 ≤ 1048576) (hl : l.length ≤ maxLen) (hks : ∀ p ∈ l, p.size ≤ maxLen) (ha : StrsAt w a l) :
    Calls Try.prog 18 #[.slice a l.length ca, .int .i64 z0] w fun e w' => ∃ r : Int, e = .returned (.int .i64 r) ∧ (r = -1 ∨ 0 ≤ r ∧ r ≤ z0 ∧ l.length ≤ 1048576 ∧ ∀ p ∈ l, p.size ≤ 1048576) ∧ Below w.heap.size w w' := by
  have HA := hide ha
  clear ha
  unfold maxLen at hl
  by_cases hbig : (l.length : Int) ≤ z0
  · have hn : ¬ (z0 - (l.length : Int) < 0) := by omega
    go_enter Try.func18, Try.ntmps18
    go_wp2_with fail
    go_loopw [1, 5] (fun lf i wr => ∃ (k : Nat) (z : Int), k ≤ l.length ∧ i = .int .i64 k ∧ lf = .int .i64 z ∧ 0 ≤ z ∧ z ≤ z0 ∧ (∀ p ∈ l.take k, p.size ≤ 1048576) ∧ Below w.heap.size w wr) (fun _ i _ => l.length - (intOf i).toNat)
    case atStart => exact ⟨0, z0 - l.length, Nat.zero_le _, rfl, by go_num, by omega, by omega, fun p hp => by simp at hp, Below.refl _ _⟩
    case round =>
      obtain ⟨k, z, hk, rfl, rfl, hz0, hz1, hall, hbel⟩ := hrel
      have HALL := hide hall
      have HBL := hide hbel
      clear hall hbel
      by_cases hlt : k < l.length
      · obtain ⟨g, off, rfl, hgw, q0⟩ := StrsAt.one (GR.At.below (unhide HA) (unhide HBL)) k hlt
        have hkk := hks l[k] (List.getElem_mem hlt)
        have HT := hide (List.take_succ_eq_append_getElem hlt)
        generalize l[k] = pu at *
        unfold maxLen at hkk
        by_cases hc : (pu.size : Int) ≤ z
        · have hn2 : ¬ (z - (pu.size : Int) < 0) := by omega
          go_wp2_with fail
          go_roundw
          case rel =>
            refine ⟨k + 1, z - pu.size, by omega, by go_num, by go_num, by omega, by omega, ?_, unhide HBL⟩
            intro p hp
            rw [unhide HT] at hp
            rcases List.mem_append.1 hp with h | h
            · exact unhide HALL p h
            · rw [List.mem_singleton] at h
              subst h
              omega
          case measure => simp [intOf]; omega
        · have hn2 : z - (pu.size : Int) < 0 := by omega
          go_wp2_with fail
          go_ret
          exact ⟨-1, rfl, .inl rfl, unhide HBL⟩
      · have hke : k = l.length := by omega
        subst hke
        have hnlt : decide ((l.length : Int) < (l.length : Int)) = false := by simp
        go_wp2_with fail
        go_ret
        have h := unhide HALL
        rw [List.take_length] at h
        exact ⟨z, rfl, .inr ⟨hz0, hz1, by omega, h⟩, unhide HBL⟩
  · have hn : z0 - (l.length : Int) < 0 := by omega
    go_enter Try.func18, Try.ntmps18
    go_wp2_with fail
    go_ret
    exact ⟨-1, rfl, .inl rfl, Below.refl _ _⟩
theorem szGivenSW (a : Option Addr) (ca n : Nat) (z0 : Int) (w : World) (h0 : 0 ≤ z0) (h1 : z0 ≤ 1048576) (hl : n ≤ maxLen) :
    Calls Try.prog 20 #[.slice a n ca, .int .i64 z0] w fun e w' => e = .returned (.int .i64 (if (n : Int) ≤ z0 then z0 - n else -1)) ∧ w = w' := by
  unfold maxLen at hl
  by_cases hc : (n : Int) ≤ z0
  · rw [if_pos hc]
    have hn : ¬ (z0 - (n : Int) < 0) := by omega
    go_enter Try.func20, Try.ntmps20
    go_wp2_with fail
    go_ret
    exact ⟨rfl, rfl⟩
  · rw [if_neg hc]
    have hn : z0 - (n : Int) < 0 := by omega
    go_enter Try.func20, Try.ntmps20
    go_wp2_with fail
    go_ret
    exact ⟨rfl, rfl⟩
end Go.Proofs.Ytgkimogaghgjaaa
namespace Go.Proofs.Ytgkimogaghgjaaa
open Go.RowKit
open Mth

theorem obj_lt {w : World} {g : Nat} {o : Obj} (h : w.heap[g]? = some o) : g < w.heap.size := by
  rcases Nat.lt_or_ge g w.heap.size with h' | h'
  · exact h'
  · rw [Array.getElem?_eq_none h'] at h; cases h
/-- All blocks but some read as before; new ones may lie behind. -/
structure KeepsL (F : List Nat) (w w' : World) : Prop where
  os : w'.os = w.os
  tape : w'.tape = w.tape
  output : w'.output = w.output
  size : w.heap.size ≤ w'.heap.size
  block : ∀ k, k < w.heap.size → k ∉ F → w'.heap[k]? = w.heap[k]?
theorem KeepsL.refl (F : List Nat) (w : World) : KeepsL F w w := ⟨rfl, rfl, rfl, Nat.le_refl _, fun _ _ _ => rfl⟩
theorem KeepsL.trans {F : List Nat} {a b c : World} (h : KeepsL F a b) (k : KeepsL F b c) : KeepsL F a c :=
  ⟨k.os.trans h.os, k.tape.trans h.tape, k.output.trans h.output, Nat.le_trans h.size k.size, fun i hi hg => (k.block i (Nat.lt_of_lt_of_le hi h.size) hg).trans (h.block i hi hg)⟩
theorem KeepsL.mono {F F' : List Nat} {a b : World} (h : KeepsL F a b) (hs : ∀ x ∈ F, x ∈ F') : KeepsL F' a b :=
  ⟨h.os, h.tape, h.output, h.size, fun i hi hg => h.block i hi (fun hx => hg (hs i hx))⟩
theorem KeepsL.of_below {F : List Nat} {w w' : World} (h : Below w.heap.size w w') : KeepsL F w w' := ⟨h.os, h.tape, h.output, h.size, fun k hk _ => h.block k hk⟩
theorem KeepsL.set {g i : Nat} {w : World} (v : Value) : KeepsL [g] w (w.setCell ⟨g, i, none⟩ v) :=
  ⟨rfl, rfl, rfl, by simp [World.setCell], fun k _ hg => Below.heap_setCell _ _ _ _ (by simpa using hg)⟩
theorem KeepsL.below {F : List Nat} {B : Nat} {w w' : World} (h : KeepsL F w w') (hB : ∀ x ∈ F, B ≤ x) (hs : B ≤ w.heap.size) : Below B w w' :=
  ⟨h.os, h.tape, h.output, h.size, fun k hk => h.block k (by omega) (fun hx => by have := hB k hx; omega)⟩
theorem KeepsL.obj {F : List Nat} {w w' : World} {g : Nat} {o : Obj} (hk : KeepsL F w w') (h : w.heap[g]? = some o) (hg : g ∉ F) : w'.heap[g]? = some o := by
  rw [hk.block g (obj_lt h) hg]; exact h

/-- The block of a row that has something. -/
def fp {α : Type} (g : Nat) (l : List α) : List Nat := if l.isEmpty then [] else [g]
theorem fp_mem {α : Type} {g : Nat} {l : List α} (h : 0 < l.length) : g ∈ fp g l := by
  unfold fp
  cases l with
  | nil => simp at h
  | cons x l => simp
theorem of_fp {α : Type} {g x : Nat} {l : List α} (h : x ∈ fp g l) : x = g ∧ 0 < l.length := by
  unfold fp at h
  cases l with
  | nil => simp at h
  | cons y l => simpa using h
theorem fp_nodup {α : Type} (g : Nat) (l : List α) : (fp g l).Nodup := by unfold fp; split <;> simp
namespace GR
variable {α : Type}
/-- A row in a block of its own, which may be written. -/
def W (enc : α → List Value) (sz : Nat) (w : World) (a : Option Addr) (g : Nat) (l : List α) : Prop := ∀ i (hi : i < l.length), a = some ⟨g, 0, none⟩ ∧ g < w.heap.size ∧ ∀ j, j < sz → w.cell? ⟨g, i * sz + j, none⟩ = (enc l[i])[j]? ∧ w.frozen? ⟨g, i * sz + j, none⟩ = false
variable {enc : α → List Value} {sz : Nat}
theorem W.at {w : World} {a : Option Addr} {g : Nat} {l : List α} (h : W enc sz w a g l) : At enc sz w a l := fun i hi =>
  ⟨g, 0, (h i hi).1, (h i hi).2.1, fun j hj => by rw [Nat.zero_add]; exact ((h i hi).2.2 j hj).1⟩
theorem W.of_blk {w : World} {t : TypeId} {g : Nat} {l : List α} (hs : ∀ x, (enc x).length = sz) (h : Blk enc t w g l) : W enc sz w (some ⟨g, 0, none⟩) g l := fun i hi =>
  ⟨rfl, Blk.lt h, fun j hj => ⟨Blk.cell h hs i hi j hj, Blk.free h _⟩⟩
theorem W.nil {w : World} {a : Option Addr} {g : Nat} : W enc sz w a g [] := fun i hi => by simp at hi
theorem W.keeps {F : List Nat} {w w' : World} {a : Option Addr} {g : Nat} {l : List α} (h : W enc sz w a g l) (hk : KeepsL F w w') (hd : ∀ x ∈ fp g l, x ∉ F) : W enc sz w' a g l := fun i hi => by
  obtain ⟨e, hg, hc⟩ := h i hi
  have hne : g ∉ F := hd g (fp_mem (by omega))
  exact ⟨e, Nat.lt_of_lt_of_le hg hk.size, fun j hj => ⟨(World.cell?_of_block (w := w) (hk.block g hg hne)).trans (hc j hj).1, (World.frozen?_of_block (w := w) (hk.block g hg hne)).trans (hc j hj).2⟩⟩
theorem W.below {w w' : World} {a : Option Addr} {g : Nat} {l : List α} (h : W enc sz w a g l) (hb : Below w.heap.size w w') : W enc sz w' a g l := h.keeps (F := []) (KeepsL.of_below hb) (fun _ _ => by simp)
/-- Of a row of the call's own. -/
theorem W.of_own {w : World} {B : Nat} {t : TypeId} {v : Value} {l : List α} (hs : ∀ x, (enc x).length = sz) (h : w.ownsRow B t sz v l.length (flat enc l)) : ∃ a c g, v = .slice a l.length c ∧ W enc sz w a g l ∧ (∀ x ∈ fp g l, B ≤ x ∧ x < w.heap.size) ∧ (∀ x ∈ fp g l, v.ownBlock = some x) := by
  obtain ⟨a, c, rfl, hat⟩ := own_at hs h
  rcases h.2 with ⟨hv, hn⟩ | ⟨g, cap, cur, hv, hg, hblk, _⟩
  · have hl : l = [] := List.eq_nil_of_length_eq_zero hn
    subst hl
    exact ⟨_, _, 0, rfl, W.nil, fun x hx => by simp [fp] at hx, fun x hx => by simp [fp] at hx⟩
  · cases hv
    refine ⟨_, _, g, rfl, fun i hi => ?_, fun x hx => ?_, fun x hx => ?_⟩
    · obtain ⟨g', off', e, hg', hc⟩ := hat i hi
      cases e
      refine ⟨rfl, hg', fun j hj => ⟨?_, ?_⟩⟩
      · have := hc j hj
        rwa [Nat.zero_add] at this
      · unfold World.frozen?; rw [hblk]; simp
    · rw [(of_fp hx).1]; exact ⟨hg, obj_lt hblk⟩
    · rw [(of_fp hx).1]; rfl
end GR
end Go.Proofs.Ytgkimogaghgjaaa
namespace Go.Proofs.Ytgkimogaghgjaaa.Mth
open Go.Lib (decDigits itoa)

theorem digits_small (v : Nat) (h : v < 10) : decDigits v = [UInt8.ofNat (48 + v)] := by rw [decDigits, dif_pos h]
theorem digits_big (v : Nat) (h : ¬ v < 10) : decDigits v = decDigits (v / 10) ++ [UInt8.ofNat (48 + v % 10)] := by rw [decDigits, dif_neg h]
end Go.Proofs.Ytgkimogaghgjaaa.Mth
namespace Go.Proofs.Ytgkimogaghgjaaa
open Go.RowKit
open Go.Lib (decDigits itoa)

/-- The digits that are still to come; none for nought. -/
def leftDigits (a : Nat) : List UInt8 := if a = 0 then [] else decDigits a
theorem left_step (a : Nat) (l t : List UInt8) (h0 : a ≠ 0) (h : leftDigits a ++ l = t) : leftDigits (a / 10) ++ (UInt8.ofNat (48 + a % 10) :: l) = t := by
  unfold leftDigits at *
  rw [if_neg h0] at h
  by_cases hs : a < 10
  · have e1 : a / 10 = 0 := by omega
    have e2 : a % 10 = a := by omega
    rw [Mth.digits_small a hs] at h
    rw [e1, e2, if_pos rfl]; simpa using h
  · rw [Mth.digits_big a hs] at h
    rw [if_neg (by omega), ← h]; simp
end Go.Proofs.Ytgkimogaghgjaaa
namespace Go.Proofs.Ytgkimogaghgjaaa
open Go.RowKit
open Go.Lib (decDigits)

/-- The mark of a number above 0. -/
def mark (k : Nat) : ByteArray := ⟨(109 :: decDigits k).toArray⟩
theorem one_add (b : UInt8) (l : List UInt8) : (ByteArray.mk #[b]) ++ ⟨l.toArray⟩ = ⟨(b :: l).toArray⟩ := by
  apply ByteArray.ext; simp
theorem conv_one (w : World) (z : Int) (b : UInt8) (hz : z = b.toNat) (cap : Nat) : (convert 131 9 (.slice (some ⟨w.heap.size, 0, none⟩) 1 cap)).run Try.prog (w.alloc (.cells #[.int .u8 z] 5)) = .ok (.string ⟨#[b]⟩) (w.alloc (.cells #[.int .u8 z] 5)) := by
  subst hz
  have := run_convert_bytes_back (P := Try.prog) (w.alloc (.cells #[.int .u8 (b.toNat : Int)] 5)) 131 9 5 ⟨w.heap.size, 0, none⟩ cap [b] Try.underlying131 Try.underlying5 Try.underlying9 (fun j hj => by
    have : j = 0 := by simpa using hj
    subst this; simp [Addr.add])
  simpa using this

set_option maxHeartbeats 1000000 in
set_option maxRecDepth 100000 in
theorem markText (k : Nat) (w : World) (h0 : 0 < k) (hk : (k : Int) ≤ 9223372036854775807) :
    Calls Try.prog 39 #[.int .i64 k] w fun e w' => e = .returned (.string (mark k)) ∧ Below w.heap.size w w' := by
  have hlen : (decDigits k).length ≤ 21 := by have := Lib.itoa_length_le k (by omega) hk; rw [Lib.itoa, if_neg (by omega)] at this; simpa using this
  have hpos : decide ((k : Int) ≤ 0) = false := by simp; omega
  go_enter Try.func39, Try.ntmps39
  go_wp2
  go_loopw [0, 3] (fun m o wr => ∃ (a : Nat) (l : List UInt8), a ≤ k ∧ m = .int .i64 a ∧ o = .string ⟨l.toArray⟩ ∧ leftDigits a ++ l = decDigits k ∧ Below w.heap.size w wr) (fun m _ _ => (intOf m).toNat)
  case atStart => exact ⟨k, [], Nat.le_refl _, rfl, rfl, by unfold leftDigits; rw [if_neg (by omega)]; simp, Below.refl _ _⟩
  case round =>
    obtain ⟨a, l, ha, rfl, rfl, hl, hbel⟩ := hrel
    have HL := hide hl
    have hll : l.length ≤ 21 := by have := congrArg List.length hl; rw [List.length_append] at this; omega
    clear hl
    by_cases hz : a = 0
    · subst hz
      have HE := hide (show l = decDigits k by have := unhide HL; simpa [leftDigits] using this)
      have hA := hide (one_add 109 l)
      clear HL
      go_wp2
      go_ret
      exact ⟨ret_string (by unfold mark; rw [← unhide HE]; exact unhide hA), hbel⟩
    · have HS := hide (left_step a l _ hz (unhide HL))
      obtain ⟨b, hb⟩ : ∃ b, b = UInt8.ofNat (48 + a % 10) := ⟨_, rfl⟩
      rw [← hb] at HS
      have hA := hide (one_add b l)
      have hconv := conv_one wr (48 + (a : Int) % 10) b (by rw [hb, Mth.toNat_byte _ (by omega)]; omega) 1
      clear HL hb
      go_wp2
      go_roundw
      case rel => exact ⟨a / 10, _, by omega, by go_num, by rw [unhide hA], unhide HS, by first | exact hbel.alloc (by have := hbel.size; omega) _ | exact (hbel.alloc (by have := hbel.size; omega) _).drew⟩
      case measure => simp [intOf]; omega
end Go.Proofs.Ytgkimogaghgjaaa
