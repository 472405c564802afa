/- Parts. -/
import Derived.Test.YtcfcngbfnflbgaaGreatDoorPk3
import Derived.Test.YtcfcngbfnflbgaaGreatDoorPk2
import Derived.Deep.RegionHeld
import Derived.Deep.QuietTactic
import Derived.BigQuiet
namespace Go.Proofs.YtcfcngbfnflbgaaGreatDoor
open Go.RowKit
open Mth

abbrev puBlk (w : World) (g : Nat) (l : List Pu) : Prop := GR.Blk encP 98 w g l
theorem puBlk.four {w : World} {g : Nat} {l : List Pu} (h : puBlk w g l) (i : Nat) (hi : i < l.length) : w.cell? ⟨g, i * 4, none⟩ = some (.string l[i].k) ∧ w.cell? ⟨g, i * 4 + 1, none⟩ = some (.int .i64 l[i].m) ∧ w.cell? ⟨g, i * 4 + 2, none⟩ = some (.int .i64 l[i].f) ∧ w.cell? ⟨g, i * 4 + 3, none⟩ = some (.int .i64 l[i].s) :=
  ⟨by simpa using GR.Blk.cell h encP_length i hi 0 (by omega), by simpa using GR.Blk.cell h encP_length i hi 1 (by omega), by simpa using GR.Blk.cell h encP_length i hi 2 (by omega), by simpa using GR.Blk.cell h encP_length i hi 3 (by omega)⟩
theorem blkstep {w w' : World} {g : Nat} {l : List Pu} (h : puBlk w g l) (hb : Below w.heap.size w w') : puBlk w' g l := by
  have hl := GR.Blk.lt h
  unfold puBlk GR.Blk at *
  rw [hb.block g hl]
  exact h
/-- 'make([]impl.Purse, n)'. -/
theorem make_purses (n : Nat) (hn : n ≤ 2000000) : ∀ W : World, (Instr.makeSlice 30 (.int .i64 (n : Int)) (.int .i64 (n : Int))).run Tryz.prog W = .ok (.slice (some ⟨W.heap.size, 0, none⟩) n n) (W.alloc (.cells (GR.flat encP (List.replicate n ⟨ByteArray.empty, 0, 0, 0⟩)).toArray 98)) := by
  obtain ⟨i0, hi, hz0, hz1, hz2⟩ := info_parts infoPu
  intro W
  have h := run_make (P := Tryz.prog) W 30 98 i0 (.agg #[.string ByteArray.empty, .int .i64 0, .int .i64 0, .int .i64 0]) Tryz.underlying30 hi hz0 .i64 .i64 (n : Int) (n : Int) (by omega) (by omega) (by rw [hz2]; omega) (by omega)
  rw [hz1] at h
  have e := GR.made_flat encP 4 encP_length (by omega) ⟨ByteArray.empty, 0, 0, 0⟩ (Value.agg #[.string ByteArray.empty, .int .i64 0, .int .i64 0, .int .i64 0]).cells rfl n
  simp only [Int.toNat_natCast] at h
  rw [e] at h
  exact h

set_option maxRecDepth 100000 in
theorem toPurse (p : Pu) (w : World) : Calls Tryz.prog 58 #[puv p] w fun e w' => e = .returned (puv p) ∧ Below w.heap.size w w' := by
  obtain ⟨k, m, f, s⟩ := p
  go_enter Tryz.func58, Tryz.ntmps58
  go_wp2_with fail
  refine bodyPost_ret (v := .agg #[.string k, .int .i64 m, .int .i64 f, .int .i64 s]) (by simp [results, Tryz.results58, go_sem]) rfl ⟨rfl, ?_⟩
  exact (((Below.refl _ _).alloc (Nat.le_refl _) _).alloc (by simp) _).alloc (by simp; omega) _
set_option maxRecDepth 100000 in
theorem eqPurse (p : Pu) (w : World) : Calls Tryz.prog 71 #[puv p, puv p] w fun e w' => e = .returned (.bool true) ∧ Below w.heap.size w w' := by
  obtain ⟨k, m, f, s⟩ := p
  go_enter Tryz.func71, Tryz.ntmps71
  go_wp2_with fail
  go_ret
  exact ⟨rfl, ((Below.refl _ _).alloc (Nat.le_refl _) _).alloc (by simp) _⟩

theorem take_set_pu (l : List Pu) (z : Pu) (k : Nat) (hk : k < l.length) : (l.take k ++ List.replicate (l.length - k) z).set k l[k] = l.take (k + 1) ++ List.replicate (l.length - (k + 1)) z := by
  have hlen : (l.take k).length = k := by simp; omega
  rw [List.set_append_right _ _ (by omega), hlen, Nat.sub_self]
  have e : l.length - k = (l.length - (k + 1)) + 1 := by omega
  rw [e, List.replicate_succ, List.take_succ_eq_append_getElem hk, List.append_assoc]
  rfl

set_option maxRecDepth 100000 in
set_option maxHeartbeats 2000000 in
theorem toPurseS (a : Option Addr) (cap : Nat) (l : List Pu) (w : World) (hl : l.length ≤ 1048576) (ha : PursesAt w a l) :
    Calls Tryz.prog 21 #[.slice a l.length cap] w fun e w' => e = .returned (.slice (some ⟨w.heap.size, 0, none⟩) l.length l.length) ∧ puBlk w' w.heap.size l ∧ Below w.heap.size w w' := by
  have hmk := make_purses l.length (by omega)
  have HA := hide ha
  clear ha
  go_enter Tryz.func21, Tryz.ntmps21
  go_wp2_with fail
  go_loopw [4] (fun i wr => ∃ k : Nat, k ≤ l.length ∧ i = .int .i64 k ∧ puBlk wr w.heap.size (l.take k ++ List.replicate (l.length - k) ⟨ByteArray.empty, 0, 0, 0⟩) ∧ Below w.heap.size w wr) (fun i _ => l.length - (intOf i).toNat)
  case atStart => exact ⟨0, Nat.zero_le _, rfl, by unfold puBlk GR.Blk; rw [List.take_zero, List.nil_append, Nat.sub_zero]; exact heap_alloc_new w _, below_one' w _⟩
  case round =>
    obtain ⟨k, hk, rfl, hB, hbel⟩ := hrel
    have HB := hide hB
    have HBL := hide hbel
    clear hB hbel hmk
    by_cases hlt : k < l.length
    · obtain ⟨g, off, rfl, hgw, q0, q1, q2, q3⟩ := PursesAt.four (GR.At.below (unhide HA) (unhide HBL)) k hlt
      have TS := hide (take_set_pu l ⟨ByteArray.empty, 0, 0, 0⟩ k hlt)
      generalize l[k] = pu at *
      obtain ⟨pk, pm, pf, ps⟩ := pu
      dsimp only at q0 q1 q2 q3
      have hln : (l.take k ++ List.replicate (l.length - k) (⟨ByteArray.empty, 0, 0, 0⟩ : Pu)).length = l.length := by simp; omega
      go_wp2_with fail
      refine (toPurse ⟨pk, pm, pf, ps⟩ _).mono ?_
      rintro e w5 ⟨rfl, hb5⟩
      have HB5 := hide (blkstep (unhide HB) hb5)
      have HBL5 := hide ((unhide HBL).trans (hb5.mono (unhide HBL).size))
      clear hb5 q0 q1 q2 q3
      obtain ⟨s0, s1, s2, s3⟩ := puBlk.four (unhide HB5) k (by omega)
      have f0 := GR.Blk.free (unhide HB5) (k * 4)
      have f1 := GR.Blk.free (unhide HB5) (k * 4 + 1)
      have f2 := GR.Blk.free (unhide HB5) (k * 4 + 2)
      have f3 := GR.Blk.free (unhide HB5) (k * 4 + 3)
      go_wp2_with fail
      go_roundw
      case rel =>
        have h := GR.Blk.set (unhide HB5) encP_length k (by omega) ⟨pk, pm, pf, ps⟩
        rw [unhide TS] at h
        exact ⟨k + 1, by omega, by go_num, h, GR.setW_below (o := k * 4) (Nat.le_refl w.heap.size) (encP ⟨pk, pm, pf, ps⟩) (unhide HBL5)⟩
      case measure => simp [intOf]; omega
    · have hke : k = l.length := by omega
      subst hke
      have hnlt : decide ((l.length : Int) < (l.length : Int)) = false := by simp
      go_wp2_with fail
      go_ret
      have h := unhide HB
      rw [List.take_length, Nat.sub_self, List.replicate_zero, List.append_nil] at h
      exact ⟨rfl, h, unhide HBL⟩

set_option maxRecDepth 100000 in
theorem szPurse (p : Pu) (left : Int) (w : World) (h0 : 0 ≤ left) (h1 : left ≤ 1048576) (hk : p.k.size ≤ maxLen) : Calls Tryz.prog 45 #[puv p, .int .i64 left] w fun e w' => e = .returned (.int .i64 (if (p.k.size : Int) ≤ left then left - p.k.size else -1)) ∧ Below w.heap.size w w' := by
  obtain ⟨k, m, f, s⟩ := p
  dsimp only at hk ⊢
  unfold maxLen at hk
  by_cases hc : (k.size : Int) ≤ left
  · rw [if_pos hc]
    have hn : ¬ (left - (k.size : Int) < 0) := by omega
    go_enter Tryz.func45, Tryz.ntmps45
    go_wp2_with fail
    go_ret
    exact ⟨rfl, (Below.refl _ _).alloc (Nat.le_refl _) _⟩
  · rw [if_neg hc]
    have hn : left - (k.size : Int) < 0 := by omega
    go_enter Tryz.func45, Tryz.ntmps45
    go_wp2_with fail
    go_ret
    exact ⟨rfl, (Below.refl _ _).alloc (Nat.le_refl _) _⟩

set_option maxRecDepth 100000 in
set_option maxHeartbeats 2000000 in
theorem eqPurseS (a b : Option Addr) (ca cb : Nat) (l : List Pu) (w : World) (hl : l.length ≤ 1048600) (ha : PursesAt w a l) (hb : PursesAt w b l) :
    Calls Tryz.prog 31 #[.slice a l.length ca, .slice b l.length cb] w fun e w' => e = .returned (.bool true) ∧ Below w.heap.size w w' := by
  have HA := hide ha
  have HB := hide hb
  clear ha hb
  go_enter Tryz.func31, Tryz.ntmps31
  go_wp2_with fail
  go_loopw [5] (fun i wr => ∃ k : Nat, k ≤ l.length ∧ i = .int .i64 k ∧ Below w.heap.size w wr) (fun i _ => l.length - (intOf i).toNat)
  case atStart => exact ⟨0, Nat.zero_le _, rfl, Below.refl _ _⟩
  case round =>
    obtain ⟨k, hk, rfl, hbel⟩ := hrel
    have HBL := hide hbel
    clear hbel
    by_cases hlt : k < l.length
    · obtain ⟨g1, o1, rfl, hg1, s0, s1, s2, s3⟩ := PursesAt.four (GR.At.below (unhide HA) (unhide HBL)) k hlt
      obtain ⟨g2, o2, rfl, hg2, t0, t1, t2, t3⟩ := PursesAt.four (GR.At.below (unhide HB) (unhide HBL)) k hlt
      generalize l[k] = pu at *
      have HEQ := hide (fun w1 => eqPurse pu w1)
      obtain ⟨pk, pm, pf, ps⟩ := pu
      dsimp only at s0 s1 s2 s3 t0 t1 t2 t3
      go_wp2_with fail
      go_region_held (fun w' => (w'.cell? ⟨g1, o1 + k * 4, none⟩ = some (.string pk) ∧ w'.cell? ⟨g1, o1 + k * 4 + 1, none⟩ = some (.int .i64 pm) ∧ w'.cell? ⟨g1, o1 + k * 4 + 2, none⟩ = some (.int .i64 pf) ∧ w'.cell? ⟨g1, o1 + k * 4 + 3, none⟩ = some (.int .i64 ps)) ∧ w'.cell? ⟨g2, o2 + k * 4, none⟩ = some (.string pk) ∧ w'.cell? ⟨g2, o2 + k * 4 + 1, none⟩ = some (.int .i64 pm) ∧ w'.cell? ⟨g2, o2 + k * 4 + 2, none⟩ = some (.int .i64 pf) ∧ w'.cell? ⟨g2, o2 + k * 4 + 3, none⟩ = some (.int .i64 ps)) (go_keep)
        (first
          | (go_at_call 71; refine (unhide HEQ _).mono ?_; rintro e w5 ⟨rfl, hb5⟩; have hb6 : Below wr.heap.size wr w5 := ⟨hb5.os, hb5.tape, hb5.output, hb5.size, hb5.block⟩; clear hb5; have HBL5 := hide ((unhide HBL).trans (hb6.mono (unhide HBL).size)); have y0 := (hb6.cell (p := ⟨g1, o1 + k * 4, none⟩) hg1).trans s0; have y1 := (hb6.cell (p := ⟨g1, o1 + k * 4 + 1, none⟩) hg1).trans s1; have y2 := (hb6.cell (p := ⟨g1, o1 + k * 4 + 2, none⟩) hg1).trans s2; have y3 := (hb6.cell (p := ⟨g1, o1 + k * 4 + 3, none⟩) hg1).trans s3; have z0 := (hb6.cell (p := ⟨g2, o2 + k * 4, none⟩) hg2).trans t0; have z1 := (hb6.cell (p := ⟨g2, o2 + k * 4 + 1, none⟩) hg2).trans t1; have z2 := (hb6.cell (p := ⟨g2, o2 + k * 4 + 2, none⟩) hg2).trans t2; have z3 := (hb6.cell (p := ⟨g2, o2 + k * 4 + 3, none⟩) hg2).trans t3; clear hb6))
      all_goals
        go_wp2_with fail
        go_roundw
        case rel => exact ⟨k + 1, by omega, by go_num, unhide HBL5⟩
        case measure => simp [intOf]; omega
    · have hke : k = l.length := by omega
      subst hke
      have hnlt : decide ((l.length : Int) < (l.length : Int)) = false := by simp
      go_wp2_with fail
      go_ret
      exact ⟨rfl, unhide HBL⟩


set_option maxRecDepth 100000 in
set_option maxHeartbeats 2000000 in
theorem szPurseSG (a : Option Addr) (ca : Nat) (l : List Pu) (z0 : Int) (w : World) (h0 : 0 ≤ z0) (h1 : z0 ≤ 1048576) (hl : l.length ≤ maxLen) (hks : ∀ p ∈ l, p.k.size ≤ maxLen) (ha : PursesAt w a l) :
    Calls Tryz.prog 14 #[.slice a l.length ca, .int .i64 z0] w fun e w' => ∃ r : Int, e = .returned (.int .i64 r) ∧ Below w.heap.size w w' ∧ (r = -1 ∨ 0 ≤ r ∧ r ≤ 1048576 ∧ l.length ≤ 1048576 ∧ ∀ p ∈ l, p.k.size ≤ 1048576) := by
  have HA := hide ha
  clear ha
  unfold maxLen at hl
  by_cases hbig : (l.length : Int) ≤ z0
  · have hn : ¬ (z0 - (l.length : Int) < 0) := by omega
    go_enter Tryz.func14, Tryz.ntmps14
    go_wp2_with fail
    go_loopw [1, 5] (fun lf i wr => ∃ (k : Nat) (z : Int), k ≤ l.length ∧ i = .int .i64 k ∧ lf = .int .i64 z ∧ 0 ≤ z ∧ z ≤ 1048576 ∧ (∀ p ∈ l.take k, p.k.size ≤ 1048576) ∧ Below w.heap.size w wr) (fun _ i _ => l.length - (intOf i).toNat)
    case atStart => exact ⟨0, z0 - l.length, Nat.zero_le _, rfl, by go_num, by omega, by omega, fun p hp => by simp at hp, Below.refl _ _⟩
    case round =>
      obtain ⟨k, z, hk, rfl, rfl, hz0, hz1, hall, hbel⟩ := hrel
      have HALL := hide hall
      have HBL := hide hbel
      clear hall hbel
      by_cases hlt : k < l.length
      · obtain ⟨g, off, rfl, hgw, q0, q1, q2, q3⟩ := PursesAt.four (GR.At.below (unhide HA) (unhide HBL)) k hlt
        have hkk := hks l[k] (List.getElem_mem hlt)
        have HT := hide (List.take_succ_eq_append_getElem hlt)
        generalize l[k] = pu at *
        have HSZ := hide (fun w1 => szPurse pu z w1 hz0 hz1 hkk)
        obtain ⟨pk, pm, pf, ps⟩ := pu
        dsimp only at q0 q1 q2 q3 hkk
        have hkm : pk.size ≤ maxLen := hkk
        unfold maxLen at hkk
        go_wp2_with fail
        refine (unhide HSZ _).mono ?_
        rintro e w5 ⟨rfl, hb5⟩
        have HBL5 := hide ((unhide HBL).trans (hb5.mono (unhide HBL).size))
        clear hb5 q0 q1 q2 q3
        dsimp only
        by_cases hc : (pk.size : Int) ≤ z
        · rw [if_pos hc]
          have hn2 : decide (z - (pk.size : Int) < 0) = false := decide_eq_false (by omega)
          go_wp2_with fail
          go_roundw
          case rel =>
            refine ⟨k + 1, z - pk.size, by omega, by go_num, rfl, by omega, by omega, ?_, unhide HBL5⟩
            intro p hp
            rw [unhide HT] at hp
            rcases List.mem_append.1 hp with h | h
            · exact unhide HALL p h
            · rw [List.mem_singleton] at h
              subst h
              show pk.size ≤ 1048576
              omega
          case measure => simp [intOf]; omega
        · rw [if_neg hc]
          go_wp2_with fail
          go_ret
          exact ⟨-1, rfl, unhide HBL5, .inl rfl⟩
      · have hke : k = l.length := by omega
        subst hke
        have hnlt : decide ((l.length : Int) < (l.length : Int)) = false := by simp
        go_wp2_with fail
        go_ret
        have h := unhide HALL
        rw [List.take_length] at h
        exact ⟨z, rfl, unhide HBL, .inr ⟨hz0, hz1, by omega, h⟩⟩
  · have hn : z0 - (l.length : Int) < 0 := by omega
    go_enter Tryz.func14, Tryz.ntmps14
    go_wp2_with fail
    go_ret
    exact ⟨-1, rfl, Below.refl _ _, .inl rfl⟩

abbrev IntsAt (w : World) (a : Option Addr) (l : List Int) : Prop := GR.At encNum 1 w a l
theorem IntsAt.one {w : World} {a : Option Addr} {l : List Int} (h : IntsAt w a l) (i : Nat) (hi : i < l.length) : ∃ g off, a = some ⟨g, off, none⟩ ∧ g < w.heap.size ∧ w.cell? ⟨g, off + i, none⟩ = some (.int .i64 l[i]) := by
  obtain ⟨g, off, e, hg, hc⟩ := h i hi
  refine ⟨g, off, e, hg, ?_⟩
  simpa using hc 0 (by omega)
abbrev intBlk (w : World) (g : Nat) (l : List Int) : Prop := GR.Blk encNum 3 w g l
theorem intBlk.one {w : World} {g : Nat} {l : List Int} (h : intBlk w g l) (i : Nat) (hi : i < l.length) : w.cell? ⟨g, i, none⟩ = some (.int .i64 l[i]) := by
  simpa using GR.Blk.cell h encNum_length i hi 0 (by omega)
theorem intBlk.step {w w' : World} {g : Nat} {l : List Int} (h : intBlk w g l) (hb : Below w.heap.size w w') : intBlk w' g l := by
  have hl := GR.Blk.lt h
  unfold intBlk GR.Blk at *
  rw [hb.block g hl]
  exact h
theorem infoInt : (Tryz.prog.info? 3).map (fun i => (i.zero, i.size, i.bytes)) = some (some (.int .i64 0), 1, 8) := by kernel_rfl
theorem makeInts (n : Nat) (hn : n ≤ 2000000) : ∀ W : World, (Instr.makeSlice 22 (.int .i64 (n : Int)) (.int .i64 (n : Int))).run Tryz.prog W = .ok (.slice (some ⟨W.heap.size, 0, none⟩) n n) (W.alloc (.cells (GR.flat encNum (List.replicate n 0)).toArray 3)) := by
  obtain ⟨i0, hi, hz0, hz1, hz2⟩ := info_parts infoInt
  intro W
  have h := run_make (P := Tryz.prog) W 22 3 i0 (.int .i64 0) Tryz.underlying22 hi hz0 .i64 .i64 (n : Int) (n : Int) (by omega) (by omega) (by rw [hz2]; omega) (by omega)
  rw [hz1] at h
  have e := GR.made_flat encNum 1 encNum_length (by omega) 0 (Value.cells (.int .i64 0)) rfl n
  simp only [Int.toNat_natCast] at h
  rw [e] at h
  exact h
theorem take_setI (l : List Int) (z : Int) (k : Nat) (hk : k < l.length) : (l.take k ++ List.replicate (l.length - k) z).set k l[k] = l.take (k + 1) ++ List.replicate (l.length - (k + 1)) z := by
  have hlen : (l.take k).length = k := by simp; omega
  rw [List.set_append_right _ _ (by omega), hlen, Nat.sub_self]
  have e : l.length - k = (l.length - (k + 1)) + 1 := by omega
  rw [e, List.replicate_succ, List.take_succ_eq_append_getElem hk, List.append_assoc]
  rfl

set_option maxRecDepth 100000 in
set_option maxHeartbeats 2000000 in
theorem toIntS (a : Option Addr) (cap : Nat) (l : List Int) (w : World) (hl : l.length ≤ 1048576) (ha : IntsAt w a l) :
    Calls Tryz.prog 20 #[.slice a l.length cap] w fun e w' => e = .returned (.slice (some ⟨w.heap.size, 0, none⟩) l.length l.length) ∧ intBlk w' w.heap.size l ∧ Below w.heap.size w w' := by
  have hmk := makeInts l.length (by omega)
  have HA := hide ha
  clear ha
  go_enter Tryz.func20, Tryz.ntmps20
  go_wp2_with fail
  go_loopw [4] (fun i wr => ∃ k : Nat, k ≤ l.length ∧ i = .int .i64 k ∧ intBlk wr w.heap.size (l.take k ++ List.replicate (l.length - k) 0) ∧ Below w.heap.size w wr) (fun i _ => l.length - (intOf i).toNat)
  case atStart => exact ⟨0, Nat.zero_le _, rfl, by unfold intBlk GR.Blk; rw [List.take_zero, List.nil_append, Nat.sub_zero]; exact heap_alloc_new w _, below_one' w _⟩
  case round =>
    obtain ⟨k, hk, rfl, hB, hbel⟩ := hrel
    have HB := hide hB
    have HBL := hide hbel
    clear hB hbel hmk
    by_cases hlt : k < l.length
    · obtain ⟨g, off, rfl, hgw, q0⟩ := IntsAt.one (GR.At.below (unhide HA) (unhide HBL)) k hlt
      have TS := hide (take_setI l 0 k hlt)
      generalize l[k] = pu at *
      have hln : (l.take k ++ List.replicate (l.length - k) (0 : Int)).length = l.length := by simp; omega
      have s0 := intBlk.one (unhide HB) k (by omega)
      have f0 := GR.Blk.free (unhide HB) k
      go_wp2_with fail
      first | go_region | skip
      go_roundw
      case rel =>
        have h := GR.Blk.set (unhide HB) encNum_length k (by omega) pu
        rw [unhide TS] at h
        have h2 := GR.setW_below (o := k * 1) (Nat.le_refl w.heap.size) (encNum pu) (unhide HBL)
        rw [Nat.mul_one] at h h2
        exact ⟨k + 1, by omega, by go_num, h, h2⟩
      case measure => simp [intOf]; omega
    · have hke : k = l.length := by omega
      subst hke
      have hnlt : decide ((l.length : Int) < (l.length : Int)) = false := by simp
      go_wp2_with fail
      go_ret
      have h := unhide HB
      rw [List.take_length, Nat.sub_self, List.replicate_zero, List.append_nil] at h
      exact ⟨rfl, h, unhide HBL⟩

set_option maxRecDepth 100000 in
set_option maxHeartbeats 2000000 in
theorem eqIntS (a b : Option Addr) (ca cb : Nat) (l : List Int) (w : World) (hl : l.length ≤ 1048600) (ha : IntsAt w a l) (hb : IntsAt w b l) :
    Calls Tryz.prog 30 #[.slice a l.length ca, .slice b l.length cb] w fun e w' => e = .returned (.bool true) ∧ Below w.heap.size w w' := by
  have HA := hide ha
  have HB := hide hb
  clear ha hb
  go_enter Tryz.func30, Tryz.ntmps30
  go_wp2_with fail
  go_loopw [5] (fun i wr => ∃ k : Nat, k ≤ l.length ∧ i = .int .i64 k ∧ Below w.heap.size w wr) (fun i _ => l.length - (intOf i).toNat)
  case atStart => exact ⟨0, Nat.zero_le _, rfl, Below.refl _ _⟩
  case round =>
    obtain ⟨k, hk, rfl, hbel⟩ := hrel
    have HBL := hide hbel
    clear hbel
    by_cases hlt : k < l.length
    · obtain ⟨g1, o1, rfl, hg1, s0⟩ := IntsAt.one (GR.At.below (unhide HA) (unhide HBL)) k hlt
      obtain ⟨g2, o2, rfl, hg2, t0⟩ := IntsAt.one (GR.At.below (unhide HB) (unhide HBL)) k hlt
      generalize l[k] = pu at *
      go_wp2_with fail
      go_quiet (fail)
      go_wp2_with fail
      go_roundw
      case rel => exact ⟨k + 1, by omega, by go_num, (unhide HBL).trans ⟨rfl, rfl, rfl, Nat.le_refl _, fun _ _ => rfl⟩⟩
      case measure => simp [intOf]; omega
    · have hke : k = l.length := by omega
      subst hke
      have hnlt : decide ((l.length : Int) < (l.length : Int)) = false := by simp
      go_wp2_with fail
      go_ret
      exact ⟨rfl, unhide HBL⟩
theorem szIntS (a : Option Addr) (ca : Nat) (l : List Int) (z0 : Int) (w : World) (h0 : 0 ≤ z0) (h1 : z0 ≤ 1048576) (hl : l.length ≤ maxLen) :
    Calls Tryz.prog 13 #[.slice a l.length ca, .int .i64 z0] w fun e w' => e = .returned (.int .i64 (if (l.length : Int) ≤ z0 then z0 - l.length else -1)) ∧ w = w' := by
  unfold maxLen at hl
  by_cases hc : (l.length : Int) ≤ z0
  · rw [if_pos hc]
    have hn : ¬ (z0 - (l.length : Int) < 0) := by omega
    go_enter Tryz.func13, Tryz.ntmps13
    go_wp2_with fail
    go_ret
    exact ⟨rfl, rfl⟩
  · rw [if_neg hc]
    have hn : z0 - (l.length : Int) < 0 := by omega
    go_enter Tryz.func13, Tryz.ntmps13
    go_wp2_with fail
    go_ret
    exact ⟨rfl, rfl⟩
end Go.Proofs.YtcfcngbfnflbgaaGreatDoor
