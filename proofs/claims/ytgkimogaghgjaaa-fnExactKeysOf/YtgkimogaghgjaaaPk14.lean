/- Parts. -/
import Derived.Test.YtgkimogaghgjaaaPk13
import Derived.Deep.RegionHeld
namespace Go.Proofs.Ytgkimogaghgjaaa
open Go.RowKit
open Mth

theorem MsgAt_cells {w : World} {a : Option Addr} {l : List Mg} (h : GR.At encMg 7 w a l) (i : Nat) (hi : i < l.length) : ∃ g off, a = some ⟨g, off, none⟩ ∧ g < w.heap.size ∧ w.cell? ⟨g, off + i * 7, none⟩ = some (.int .i64 l[i].K) ∧ w.cell? ⟨g, off + i * 7 + 1, none⟩ = some (.int .i64 l[i].F) ∧ w.cell? ⟨g, off + i * 7 + 2, none⟩ = some (.int .i64 l[i].T) ∧ w.cell? ⟨g, off + i * 7 + 3, none⟩ = some (.int .i64 l[i].I) ∧ w.cell? ⟨g, off + i * 7 + 4, none⟩ = some (.int .i64 l[i].L) ∧ w.cell? ⟨g, off + i * 7 + 5, none⟩ = some (.string l[i].k) ∧ w.cell? ⟨g, off + i * 7 + 6, none⟩ = some (.int .i64 l[i].N) := by
  obtain ⟨g, off, e, hg, hc⟩ := h i hi
  refine ⟨g, off, e, hg, ?_, ?_, ?_, ?_, ?_, ?_, ?_⟩
  · simpa using hc 0 (by omega)
  · simpa [Nat.add_assoc] using hc 1 (by omega)
  · simpa [Nat.add_assoc] using hc 2 (by omega)
  · simpa [Nat.add_assoc] using hc 3 (by omega)
  · simpa [Nat.add_assoc] using hc 4 (by omega)
  · simpa [Nat.add_assoc] using hc 5 (by omega)
  · simpa [Nat.add_assoc] using hc 6 (by omega)
theorem MsgBlk_cells {w : World} {g : Nat} {l : List Mg} (h : GR.Blk encMg 106 w g l) (i : Nat) (hi : i < l.length) : w.cell? ⟨g, i * 7, none⟩ = some (.int .i64 l[i].K) ∧ w.cell? ⟨g, i * 7 + 1, none⟩ = some (.int .i64 l[i].F) ∧ w.cell? ⟨g, i * 7 + 2, none⟩ = some (.int .i64 l[i].T) ∧ w.cell? ⟨g, i * 7 + 3, none⟩ = some (.int .i64 l[i].I) ∧ w.cell? ⟨g, i * 7 + 4, none⟩ = some (.int .i64 l[i].L) ∧ w.cell? ⟨g, i * 7 + 5, none⟩ = some (.string l[i].k) ∧ w.cell? ⟨g, i * 7 + 6, none⟩ = some (.int .i64 l[i].N) :=
  ⟨by simpa using GR.Blk.cell h encMg_length i hi 0 (by omega), by simpa using GR.Blk.cell h encMg_length i hi 1 (by omega), by simpa using GR.Blk.cell h encMg_length i hi 2 (by omega), by simpa using GR.Blk.cell h encMg_length i hi 3 (by omega), by simpa using GR.Blk.cell h encMg_length i hi 4 (by omega), by simpa using GR.Blk.cell h encMg_length i hi 5 (by omega), by simpa using GR.Blk.cell h encMg_length i hi 6 (by omega)⟩
theorem infoMsgW : (Try.prog.info? 106).map (fun i => (i.zero, i.size, i.bytes)) = some (some (.agg #[.int .i64 0, .int .i64 0, .int .i64 0, .int .i64 0, .int .i64 0, .string ByteArray.empty, .int .i64 0]), 7, 64) := by kernel_rfl
theorem makeMsgW (n : Nat) (hn : n ≤ 2000000) : ∀ W : World, (Instr.makeSlice 60 (.int .i64 (n : Int)) (.int .i64 (n : Int))).run Try.prog W = .ok (.slice (some ⟨W.heap.size, 0, none⟩) n n) (W.alloc (.cells (GR.flat encMg (List.replicate n ⟨0, 0, 0, 0, 0, ByteArray.empty, 0⟩)).toArray 106)) := by
  obtain ⟨i0, hi, hz0, hz1, hz2⟩ := info_parts infoMsgW
  intro W
  have h := run_make (P := Try.prog) W 60 106 i0 (.agg #[.int .i64 0, .int .i64 0, .int .i64 0, .int .i64 0, .int .i64 0, .string ByteArray.empty, .int .i64 0]) Try.underlying60 hi hz0 .i64 .i64 (n : Int) (n : Int) (by omega) (by omega) (by rw [hz2]; omega) (by omega)
  rw [hz1] at h
  have e := GR.made_flat encMg 7 encMg_length (by omega) ⟨0, 0, 0, 0, 0, ByteArray.empty, 0⟩ (Value.cells (.agg #[.int .i64 0, .int .i64 0, .int .i64 0, .int .i64 0, .int .i64 0, .string ByteArray.empty, .int .i64 0])) rfl n
  simp only [Int.toNat_natCast] at h
  rw [e] at h
  exact h
set_option maxRecDepth 100000 in
set_option maxHeartbeats 4000000 in
theorem toMsgS (a : Option Addr) (cap : Nat) (l : List Mg) (w : World) (hl : l.length ≤ 1048576) (ha : GR.At encMg 7 w a l) :
    Calls Try.prog 66 #[.slice a l.length cap] w fun e w' => e = .returned (.slice (some ⟨w.heap.size, 0, none⟩) l.length l.length) ∧ GR.Blk encMg 106 w' w.heap.size l ∧ Below w.heap.size w w' := by
  have hmk := makeMsgW l.length (by omega)
  have HA := hide ha
  clear ha
  go_enter Try.func66, Try.ntmps66
  go_wp2_with fail
  go_loopw [4] (fun i wr => ∃ k : Nat, k ≤ l.length ∧ i = .int .i64 k ∧ GR.Blk encMg 106 wr w.heap.size (l.take k ++ List.replicate (l.length - k) ⟨0, 0, 0, 0, 0, ByteArray.empty, 0⟩) ∧ Below w.heap.size w wr) (fun i _ => l.length - (intOf i).toNat)
  case atStart => exact ⟨0, Nat.zero_le _, rfl, by unfold GR.Blk; rw [List.take_zero, List.nil_append, Nat.sub_zero]; exact heap_alloc_new w _, below_one' w _⟩
  case round =>
    obtain ⟨k, hk, rfl, hB, hbel⟩ := hrel
    have HB := hide hB
    have HBL := hide hbel
    clear hB hbel hmk
    by_cases hlt : k < l.length
    · obtain ⟨g, off, rfl, hgw, q0, q1, q2, q3, q4, q5, q6⟩ := MsgAt_cells (GR.At.below (unhide HA) (unhide HBL)) k hlt
      have TS := hide (take_setW l ⟨0, 0, 0, 0, 0, ByteArray.empty, 0⟩ k hlt)
      generalize l[k] = pu at *
      have HTO := hide (fun w1 => toMsg pu w1)
      obtain ⟨mK, mF, mT, mI, mL, mk, mN⟩ := pu
      dsimp only at q0 q1 q2 q3 q4 q5 q6
      have hln : (l.take k ++ List.replicate (l.length - k) (⟨0, 0, 0, 0, 0, ByteArray.empty, 0⟩ : Mg)).length = l.length := by simp; omega
      go_wp2_with fail
      refine (unhide HTO _).mono ?_
      rintro e w5 ⟨rfl, hb5⟩
      have HB5 := hide (GR.Blk.stepW (unhide HB) hb5)
      have HBL5 := hide ((unhide HBL).trans (hb5.mono (unhide HBL).size))
      clear hb5 q0 q1 q2 q3 q4 q5 q6
      obtain ⟨s0, s1, s2, s3, s4, s5, s6⟩ := MsgBlk_cells (unhide HB5) k (by omega)
      have f0 := GR.Blk.free (unhide HB5) (k * 7)
      have f1 := GR.Blk.free (unhide HB5) (k * 7 + 1)
      have f2 := GR.Blk.free (unhide HB5) (k * 7 + 2)
      have f3 := GR.Blk.free (unhide HB5) (k * 7 + 3)
      have f4 := GR.Blk.free (unhide HB5) (k * 7 + 4)
      have f5 := GR.Blk.free (unhide HB5) (k * 7 + 5)
      have f6 := GR.Blk.free (unhide HB5) (k * 7 + 6)
      go_wp2_with fail
      go_roundw
      case rel =>
        have h := GR.Blk.set (unhide HB5) encMg_length k (by omega) ⟨mK, mF, mT, mI, mL, mk, mN⟩
        rw [unhide TS] at h
        exact ⟨k + 1, by omega, by go_num, h, GR.setW_below (o := k * 7) (Nat.le_refl w.heap.size) (encMg ⟨mK, mF, mT, mI, mL, mk, mN⟩) (unhide HBL5)⟩
      case measure => simp [intOf]; omega
    · have hke : k = l.length := by omega
      subst hke
      have hnlt : decide ((l.length : Int) < (l.length : Int)) = false := by simp
      go_wp2_with fail
      go_ret
      have h := unhide HB
      rw [List.take_length, Nat.sub_self, List.replicate_zero, List.append_nil] at h
      exact ⟨rfl, h, unhide HBL⟩
set_option maxRecDepth 100000 in
set_option maxHeartbeats 4000000 in
theorem eqMsgSW (a b : Option Addr) (ca cb : Nat) (l : List Mg) (w : World) (hl : l.length ≤ 1048600) (ha : GR.At encMg 7 w a l) (hb : GR.At encMg 7 w b l) :
    Calls Try.prog 70 #[.slice a l.length ca, .slice b l.length cb] w fun e w' => e = .returned (.bool true) ∧ Below w.heap.size w w' := by
  have HA := hide ha
  have HB := hide hb
  clear ha hb
  go_enter Try.func70, Try.ntmps70
  go_wp2_with fail
  go_loopw [5] (fun i wr => ∃ k : Nat, k ≤ l.length ∧ i = .int .i64 k ∧ Below w.heap.size w wr) (fun i _ => l.length - (intOf i).toNat)
  case atStart => exact ⟨0, Nat.zero_le _, rfl, Below.refl _ _⟩
  case round =>
    obtain ⟨k, hk, rfl, hbel⟩ := hrel
    have HBL := hide hbel
    clear hbel
    by_cases hlt : k < l.length
    · obtain ⟨g1, o1, rfl, hg1, s0, s1, s2, s3, s4, s5, s6⟩ := MsgAt_cells (GR.At.below (unhide HA) (unhide HBL)) k hlt
      obtain ⟨g2, o2, rfl, hg2, t0, t1, t2, t3, t4, t5, t6⟩ := MsgAt_cells (GR.At.below (unhide HB) (unhide HBL)) k hlt
      generalize l[k] = pu at *
      have HEQ := hide (fun w1 => eqMsgW pu w1)
      obtain ⟨mK, mF, mT, mI, mL, mk, mN⟩ := pu
      dsimp only at s0 s1 s2 s3 s4 s5 s6 t0 t1 t2 t3 t4 t5 t6
      go_wp2_with fail
      go_region_held (fun w' => (w'.cell? ⟨g1, o1 + k * 7, none⟩ = some (.int .i64 mK) ∧ w'.cell? ⟨g1, o1 + k * 7 + 1, none⟩ = some (.int .i64 mF) ∧ w'.cell? ⟨g1, o1 + k * 7 + 2, none⟩ = some (.int .i64 mT) ∧ w'.cell? ⟨g1, o1 + k * 7 + 3, none⟩ = some (.int .i64 mI) ∧ w'.cell? ⟨g1, o1 + k * 7 + 4, none⟩ = some (.int .i64 mL) ∧ w'.cell? ⟨g1, o1 + k * 7 + 5, none⟩ = some (.string mk) ∧ w'.cell? ⟨g1, o1 + k * 7 + 6, none⟩ = some (.int .i64 mN)) ∧ w'.cell? ⟨g2, o2 + k * 7, none⟩ = some (.int .i64 mK) ∧ w'.cell? ⟨g2, o2 + k * 7 + 1, none⟩ = some (.int .i64 mF) ∧ w'.cell? ⟨g2, o2 + k * 7 + 2, none⟩ = some (.int .i64 mT) ∧ w'.cell? ⟨g2, o2 + k * 7 + 3, none⟩ = some (.int .i64 mI) ∧ w'.cell? ⟨g2, o2 + k * 7 + 4, none⟩ = some (.int .i64 mL) ∧ w'.cell? ⟨g2, o2 + k * 7 + 5, none⟩ = some (.string mk) ∧ w'.cell? ⟨g2, o2 + k * 7 + 6, none⟩ = some (.int .i64 mN)) (go_keep)
        (first
          | (go_at_call 89; refine (unhide HEQ _).mono ?_; rintro e w5 ⟨rfl, hb5⟩; have hb6 : Below wr.heap.size wr w5 := ⟨hb5.os, hb5.tape, hb5.output, hb5.size, hb5.block⟩; clear hb5; have HBL5 := hide ((unhide HBL).trans (hb6.mono (unhide HBL).size)); have y0 := (hb6.cell (p := ⟨g1, o1 + k * 7, none⟩) hg1).trans s0; have y1 := (hb6.cell (p := ⟨g1, o1 + k * 7 + 1, none⟩) hg1).trans s1; have y2 := (hb6.cell (p := ⟨g1, o1 + k * 7 + 2, none⟩) hg1).trans s2; have y3 := (hb6.cell (p := ⟨g1, o1 + k * 7 + 3, none⟩) hg1).trans s3; have y4 := (hb6.cell (p := ⟨g1, o1 + k * 7 + 4, none⟩) hg1).trans s4; have y5 := (hb6.cell (p := ⟨g1, o1 + k * 7 + 5, none⟩) hg1).trans s5; have y6 := (hb6.cell (p := ⟨g1, o1 + k * 7 + 6, none⟩) hg1).trans s6; have z0 := (hb6.cell (p := ⟨g2, o2 + k * 7, none⟩) hg2).trans t0; have z1 := (hb6.cell (p := ⟨g2, o2 + k * 7 + 1, none⟩) hg2).trans t1; have z2 := (hb6.cell (p := ⟨g2, o2 + k * 7 + 2, none⟩) hg2).trans t2; have z3 := (hb6.cell (p := ⟨g2, o2 + k * 7 + 3, none⟩) hg2).trans t3; have z4 := (hb6.cell (p := ⟨g2, o2 + k * 7 + 4, none⟩) hg2).trans t4; have z5 := (hb6.cell (p := ⟨g2, o2 + k * 7 + 5, none⟩) hg2).trans t5; have z6 := (hb6.cell (p := ⟨g2, o2 + k * 7 + 6, none⟩) hg2).trans t6; clear hb6))
      all_goals
        go_wp2_with fail
        go_roundw
        case rel => exact ⟨k + 1, by omega, by go_num, unhide HBL5⟩
        case measure => simp [intOf]; omega
    · have hke : k = l.length := by omega
      subst hke
      have hnlt : decide ((l.length : Int) < (l.length : Int)) = false := by simp
      go_wp2_with fail
      go_ret
      exact ⟨rfl, unhide HBL⟩
set_option maxRecDepth 100000 in
set_option maxHeartbeats 4000000 in
theorem szMsgSW (a : Option Addr) (ca : Nat) (l : List Mg) (z0 : Int) (w : World) (h0 : 0 ≤ z0) (h1 : z0 ≤ 1048576) (hl : l.length ≤ maxLen) (hks : ∀ p ∈ l, p.k.size ≤ maxLen) (ha : GR.At encMg 7 w a l) :
    Calls Try.prog 62 #[.slice a l.length ca, .int .i64 z0] w fun e w' => ∃ r : Int, e = .returned (.int .i64 r) ∧ (r = -1 ∨ 0 ≤ r ∧ r ≤ z0 ∧ l.length ≤ 1048576 ∧ ∀ p ∈ l, p.k.size ≤ 1048576) ∧ Below w.heap.size w w' := by
  have HA := hide ha
  clear ha
  unfold maxLen at hl
  by_cases hbig : (l.length : Int) ≤ z0
  · have hn : ¬ (z0 - (l.length : Int) < 0) := by omega
    go_enter Try.func62, Try.ntmps62
    go_wp2_with fail
    go_loopw [1, 5] (fun lf i wr => ∃ (k : Nat) (z : Int), k ≤ l.length ∧ i = .int .i64 k ∧ lf = .int .i64 z ∧ 0 ≤ z ∧ z ≤ z0 ∧ (∀ p ∈ l.take k, p.k.size ≤ 1048576) ∧ Below w.heap.size w wr) (fun _ i _ => l.length - (intOf i).toNat)
    case atStart => exact ⟨0, z0 - l.length, Nat.zero_le _, rfl, by go_num, by omega, by omega, fun p hp => by simp at hp, Below.refl _ _⟩
    case round =>
      obtain ⟨k, z, hk, rfl, rfl, hz0, hz1, hall, hbel⟩ := hrel
      have HALL := hide hall
      have HBL := hide hbel
      clear hall hbel
      by_cases hlt : k < l.length
      · obtain ⟨g, off, rfl, hgw, q0, q1, q2, q3, q4, q5, q6⟩ := MsgAt_cells (GR.At.below (unhide HA) (unhide HBL)) k hlt
        have hkk := hks l[k] (List.getElem_mem hlt)
        have HT := hide (List.take_succ_eq_append_getElem hlt)
        generalize l[k] = pu at *
        have HSZ := hide (fun (w1 : World) => szMsgQ pu z w1 hz0 (by omega) hkk)
        obtain ⟨mK, mF, mT, mI, mL, mk, mN⟩ := pu
        dsimp only at q0 q1 q2 q3 q4 q5 q6 HSZ
        clear hkk
        go_wp2_with fail
        refine (unhide HSZ wr).mono ?_
        rintro e w5 ⟨r, rfl, hcase, hb5⟩
        have HBL5 := hide ((unhide HBL).trans (hb5.mono (unhide HBL).size))
        clear hb5 q0 q1 q2 q3 q4 q5 q6
        rcases hcase with rfl | ⟨r0, r1, hqq⟩
        · go_wp2_with fail
          go_ret
          exact ⟨-1, rfl, .inl rfl, unhide HBL5⟩
        · have hn2 : decide (r < 0) = false := decide_eq_false (by omega)
          have HQQ := hide hqq
          clear hqq
          go_wp2_with fail
          go_roundw
          case rel =>
            refine ⟨k + 1, r, by omega, by go_num, rfl, by omega, by omega, ?_, unhide HBL5⟩
            intro p hp
            rw [unhide HT] at hp
            rcases List.mem_append.1 hp with h | h
            · exact unhide HALL p h
            · rw [List.mem_singleton] at h
              subst h
              exact unhide HQQ
          case measure => simp [intOf]; omega
      · have hke : k = l.length := by omega
        subst hke
        have hnlt : decide ((l.length : Int) < (l.length : Int)) = false := by simp
        go_wp2_with fail
        go_ret
        have h := unhide HALL
        rw [List.take_length] at h
        exact ⟨z, rfl, .inr ⟨hz0, hz1, by omega, h⟩, unhide HBL⟩
  · have hn : z0 - (l.length : Int) < 0 := by omega
    go_enter Try.func62, Try.ntmps62
    go_wp2_with fail
    go_ret
    exact ⟨-1, rfl, .inl rfl, Below.refl _ _⟩

theorem AnswerAt_cells {w : World} {a : Option Addr} {l : List An} (h : GR.At encAn 12 w a l) (i : Nat) (hi : i < l.length) : ∃ g off, a = some ⟨g, off, none⟩ ∧ g < w.heap.size ∧ w.cell? ⟨g, off + i * 12, none⟩ = some (.int .i64 l[i].o.K) ∧ w.cell? ⟨g, off + i * 12 + 1, none⟩ = some (.int .i64 l[i].o.no) ∧ w.cell? ⟨g, off + i * 12 + 2, none⟩ = some (.string l[i].o.k) ∧ w.cell? ⟨g, off + i * 12 + 3, none⟩ = some (.int .i64 l[i].o.n) ∧ w.cell? ⟨g, off + i * 12 + 4, none⟩ = some (.int .i64 l[i].o.m.K) ∧ w.cell? ⟨g, off + i * 12 + 5, none⟩ = some (.int .i64 l[i].o.m.F) ∧ w.cell? ⟨g, off + i * 12 + 6, none⟩ = some (.int .i64 l[i].o.m.T) ∧ w.cell? ⟨g, off + i * 12 + 7, none⟩ = some (.int .i64 l[i].o.m.I) ∧ w.cell? ⟨g, off + i * 12 + 8, none⟩ = some (.int .i64 l[i].o.m.L) ∧ w.cell? ⟨g, off + i * 12 + 9, none⟩ = some (.string l[i].o.m.k) ∧ w.cell? ⟨g, off + i * 12 + 10, none⟩ = some (.int .i64 l[i].o.m.N) ∧ w.cell? ⟨g, off + i * 12 + 11, none⟩ = some (.int .i64 l[i].c) := by
  obtain ⟨g, off, e, hg, hc⟩ := h i hi
  refine ⟨g, off, e, hg, ?_, ?_, ?_, ?_, ?_, ?_, ?_, ?_, ?_, ?_, ?_, ?_⟩
  · simpa using hc 0 (by omega)
  · simpa [Nat.add_assoc] using hc 1 (by omega)
  · simpa [Nat.add_assoc] using hc 2 (by omega)
  · simpa [Nat.add_assoc] using hc 3 (by omega)
  · simpa [Nat.add_assoc] using hc 4 (by omega)
  · simpa [Nat.add_assoc] using hc 5 (by omega)
  · simpa [Nat.add_assoc] using hc 6 (by omega)
  · simpa [Nat.add_assoc] using hc 7 (by omega)
  · simpa [Nat.add_assoc] using hc 8 (by omega)
  · simpa [Nat.add_assoc] using hc 9 (by omega)
  · simpa [Nat.add_assoc] using hc 10 (by omega)
  · simpa [Nat.add_assoc] using hc 11 (by omega)
theorem AnswerBlk_cells {w : World} {g : Nat} {l : List An} (h : GR.Blk encAn 110 w g l) (i : Nat) (hi : i < l.length) : w.cell? ⟨g, i * 12, none⟩ = some (.int .i64 l[i].o.K) ∧ w.cell? ⟨g, i * 12 + 1, none⟩ = some (.int .i64 l[i].o.no) ∧ w.cell? ⟨g, i * 12 + 2, none⟩ = some (.string l[i].o.k) ∧ w.cell? ⟨g, i * 12 + 3, none⟩ = some (.int .i64 l[i].o.n) ∧ w.cell? ⟨g, i * 12 + 4, none⟩ = some (.int .i64 l[i].o.m.K) ∧ w.cell? ⟨g, i * 12 + 5, none⟩ = some (.int .i64 l[i].o.m.F) ∧ w.cell? ⟨g, i * 12 + 6, none⟩ = some (.int .i64 l[i].o.m.T) ∧ w.cell? ⟨g, i * 12 + 7, none⟩ = some (.int .i64 l[i].o.m.I) ∧ w.cell? ⟨g, i * 12 + 8, none⟩ = some (.int .i64 l[i].o.m.L) ∧ w.cell? ⟨g, i * 12 + 9, none⟩ = some (.string l[i].o.m.k) ∧ w.cell? ⟨g, i * 12 + 10, none⟩ = some (.int .i64 l[i].o.m.N) ∧ w.cell? ⟨g, i * 12 + 11, none⟩ = some (.int .i64 l[i].c) :=
  ⟨by simpa using GR.Blk.cell h encAn_length i hi 0 (by omega), by simpa using GR.Blk.cell h encAn_length i hi 1 (by omega), by simpa using GR.Blk.cell h encAn_length i hi 2 (by omega), by simpa using GR.Blk.cell h encAn_length i hi 3 (by omega), by simpa using GR.Blk.cell h encAn_length i hi 4 (by omega), by simpa using GR.Blk.cell h encAn_length i hi 5 (by omega), by simpa using GR.Blk.cell h encAn_length i hi 6 (by omega), by simpa using GR.Blk.cell h encAn_length i hi 7 (by omega), by simpa using GR.Blk.cell h encAn_length i hi 8 (by omega), by simpa using GR.Blk.cell h encAn_length i hi 9 (by omega), by simpa using GR.Blk.cell h encAn_length i hi 10 (by omega), by simpa using GR.Blk.cell h encAn_length i hi 11 (by omega)⟩
theorem infoAnswerW : (Try.prog.info? 110).map (fun i => (i.zero, i.size, i.bytes)) = some (some (.agg #[.int .i64 0, .int .i64 0, .string ByteArray.empty, .int .i64 0, .int .i64 0, .int .i64 0, .int .i64 0, .int .i64 0, .int .i64 0, .string ByteArray.empty, .int .i64 0, .int .i64 0]), 12, 112) := by kernel_rfl
theorem makeAnswerW (n : Nat) (hn : n ≤ 2000000) : ∀ W : World, (Instr.makeSlice 61 (.int .i64 (n : Int)) (.int .i64 (n : Int))).run Try.prog W = .ok (.slice (some ⟨W.heap.size, 0, none⟩) n n) (W.alloc (.cells (GR.flat encAn (List.replicate n ⟨⟨0, 0, ByteArray.empty, 0, ⟨0, 0, 0, 0, 0, ByteArray.empty, 0⟩⟩, 0⟩)).toArray 110)) := by
  obtain ⟨i0, hi, hz0, hz1, hz2⟩ := info_parts infoAnswerW
  intro W
  have h := run_make (P := Try.prog) W 61 110 i0 (.agg #[.int .i64 0, .int .i64 0, .string ByteArray.empty, .int .i64 0, .int .i64 0, .int .i64 0, .int .i64 0, .int .i64 0, .int .i64 0, .string ByteArray.empty, .int .i64 0, .int .i64 0]) Try.underlying61 hi hz0 .i64 .i64 (n : Int) (n : Int) (by omega) (by omega) (by rw [hz2]; omega) (by omega)
  rw [hz1] at h
  have e := GR.made_flat encAn 12 encAn_length (by omega) ⟨⟨0, 0, ByteArray.empty, 0, ⟨0, 0, 0, 0, 0, ByteArray.empty, 0⟩⟩, 0⟩ (Value.cells (.agg #[.int .i64 0, .int .i64 0, .string ByteArray.empty, .int .i64 0, .int .i64 0, .int .i64 0, .int .i64 0, .int .i64 0, .int .i64 0, .string ByteArray.empty, .int .i64 0, .int .i64 0])) rfl n
  simp only [Int.toNat_natCast] at h
  rw [e] at h
  exact h
set_option maxRecDepth 100000 in
set_option maxHeartbeats 4000000 in
theorem toAnswerS (a : Option Addr) (cap : Nat) (l : List An) (w : World) (hl : l.length ≤ 1048576) (ha : GR.At encAn 12 w a l) :
    Calls Try.prog 67 #[.slice a l.length cap] w fun e w' => e = .returned (.slice (some ⟨w.heap.size, 0, none⟩) l.length l.length) ∧ GR.Blk encAn 110 w' w.heap.size l ∧ Below w.heap.size w w' := by
  have hmk := makeAnswerW l.length (by omega)
  have HA := hide ha
  clear ha
  go_enter Try.func67, Try.ntmps67
  go_wp2_with fail
  go_loopw [4] (fun i wr => ∃ k : Nat, k ≤ l.length ∧ i = .int .i64 k ∧ GR.Blk encAn 110 wr w.heap.size (l.take k ++ List.replicate (l.length - k) ⟨⟨0, 0, ByteArray.empty, 0, ⟨0, 0, 0, 0, 0, ByteArray.empty, 0⟩⟩, 0⟩) ∧ Below w.heap.size w wr) (fun i _ => l.length - (intOf i).toNat)
  case atStart => exact ⟨0, Nat.zero_le _, rfl, by unfold GR.Blk; rw [List.take_zero, List.nil_append, Nat.sub_zero]; exact heap_alloc_new w _, below_one' w _⟩
  case round =>
    obtain ⟨k, hk, rfl, hB, hbel⟩ := hrel
    have HB := hide hB
    have HBL := hide hbel
    clear hB hbel hmk
    by_cases hlt : k < l.length
    · obtain ⟨g, off, rfl, hgw, q0, q1, q2, q3, q4, q5, q6, q7, q8, q9, q10, q11⟩ := AnswerAt_cells (GR.At.below (unhide HA) (unhide HBL)) k hlt
      have TS := hide (take_setW l ⟨⟨0, 0, ByteArray.empty, 0, ⟨0, 0, 0, 0, 0, ByteArray.empty, 0⟩⟩, 0⟩ k hlt)
      generalize l[k] = pu at *
      have HTO := hide (fun w1 => toAnswer pu w1)
      obtain ⟨⟨oK, ono, ok, on, ⟨mK, mF, mT, mI, mL, mk, mN⟩⟩, ac⟩ := pu
      dsimp only at q0 q1 q2 q3 q4 q5 q6 q7 q8 q9 q10 q11
      have hln : (l.take k ++ List.replicate (l.length - k) (⟨⟨0, 0, ByteArray.empty, 0, ⟨0, 0, 0, 0, 0, ByteArray.empty, 0⟩⟩, 0⟩ : An)).length = l.length := by simp; omega
      go_wp2_with fail
      refine (unhide HTO _).mono ?_
      rintro e w5 ⟨rfl, hb5⟩
      have HB5 := hide (GR.Blk.stepW (unhide HB) hb5)
      have HBL5 := hide ((unhide HBL).trans (hb5.mono (unhide HBL).size))
      clear hb5 q0 q1 q2 q3 q4 q5 q6 q7 q8 q9 q10 q11
      obtain ⟨s0, s1, s2, s3, s4, s5, s6, s7, s8, s9, s10, s11⟩ := AnswerBlk_cells (unhide HB5) k (by omega)
      have f0 := GR.Blk.free (unhide HB5) (k * 12)
      have f1 := GR.Blk.free (unhide HB5) (k * 12 + 1)
      have f2 := GR.Blk.free (unhide HB5) (k * 12 + 2)
      have f3 := GR.Blk.free (unhide HB5) (k * 12 + 3)
      have f4 := GR.Blk.free (unhide HB5) (k * 12 + 4)
      have f5 := GR.Blk.free (unhide HB5) (k * 12 + 5)
      have f6 := GR.Blk.free (unhide HB5) (k * 12 + 6)
      have f7 := GR.Blk.free (unhide HB5) (k * 12 + 7)
      have f8 := GR.Blk.free (unhide HB5) (k * 12 + 8)
      have f9 := GR.Blk.free (unhide HB5) (k * 12 + 9)
      have f10 := GR.Blk.free (unhide HB5) (k * 12 + 10)
      have f11 := GR.Blk.free (unhide HB5) (k * 12 + 11)
      go_wp2_with fail
      go_roundw
      case rel =>
        have h := GR.Blk.set (unhide HB5) encAn_length k (by omega) ⟨⟨oK, ono, ok, on, ⟨mK, mF, mT, mI, mL, mk, mN⟩⟩, ac⟩
        rw [unhide TS] at h
        exact ⟨k + 1, by omega, by go_num, h, GR.setW_below (o := k * 12) (Nat.le_refl w.heap.size) (encAn ⟨⟨oK, ono, ok, on, ⟨mK, mF, mT, mI, mL, mk, mN⟩⟩, ac⟩) (unhide HBL5)⟩
      case measure => simp [intOf]; omega
    · have hke : k = l.length := by omega
      subst hke
      have hnlt : decide ((l.length : Int) < (l.length : Int)) = false := by simp
      go_wp2_with fail
      go_ret
      have h := unhide HB
      rw [List.take_length, Nat.sub_self, List.replicate_zero, List.append_nil] at h
      exact ⟨rfl, h, unhide HBL⟩
set_option maxRecDepth 100000 in
set_option maxHeartbeats 4000000 in
theorem eqAnswerSW (a b : Option Addr) (ca cb : Nat) (l : List An) (w : World) (hl : l.length ≤ 1048600) (ha : GR.At encAn 12 w a l) (hb : GR.At encAn 12 w b l) :
    Calls Try.prog 71 #[.slice a l.length ca, .slice b l.length cb] w fun e w' => e = .returned (.bool true) ∧ Below w.heap.size w w' := by
  have HA := hide ha
  have HB := hide hb
  clear ha hb
  go_enter Try.func71, Try.ntmps71
  go_wp2_with fail
  go_loopw [5] (fun i wr => ∃ k : Nat, k ≤ l.length ∧ i = .int .i64 k ∧ Below w.heap.size w wr) (fun i _ => l.length - (intOf i).toNat)
  case atStart => exact ⟨0, Nat.zero_le _, rfl, Below.refl _ _⟩
  case round =>
    obtain ⟨k, hk, rfl, hbel⟩ := hrel
    have HBL := hide hbel
    clear hbel
    by_cases hlt : k < l.length
    · obtain ⟨g1, o1, rfl, hg1, s0, s1, s2, s3, s4, s5, s6, s7, s8, s9, s10, s11⟩ := AnswerAt_cells (GR.At.below (unhide HA) (unhide HBL)) k hlt
      obtain ⟨g2, o2, rfl, hg2, t0, t1, t2, t3, t4, t5, t6, t7, t8, t9, t10, t11⟩ := AnswerAt_cells (GR.At.below (unhide HB) (unhide HBL)) k hlt
      generalize l[k] = pu at *
      have HEQ := hide (fun w1 => eqAnswerW pu w1)
      obtain ⟨⟨oK, ono, ok, on, ⟨mK, mF, mT, mI, mL, mk, mN⟩⟩, ac⟩ := pu
      dsimp only at s0 s1 s2 s3 s4 s5 s6 s7 s8 s9 s10 s11 t0 t1 t2 t3 t4 t5 t6 t7 t8 t9 t10 t11
      go_wp2_with fail
      go_region_held (fun w' => (w'.cell? ⟨g1, o1 + k * 12, none⟩ = some (.int .i64 oK) ∧ w'.cell? ⟨g1, o1 + k * 12 + 1, none⟩ = some (.int .i64 ono) ∧ w'.cell? ⟨g1, o1 + k * 12 + 2, none⟩ = some (.string ok) ∧ w'.cell? ⟨g1, o1 + k * 12 + 3, none⟩ = some (.int .i64 on) ∧ w'.cell? ⟨g1, o1 + k * 12 + 4, none⟩ = some (.int .i64 mK) ∧ w'.cell? ⟨g1, o1 + k * 12 + 5, none⟩ = some (.int .i64 mF) ∧ w'.cell? ⟨g1, o1 + k * 12 + 6, none⟩ = some (.int .i64 mT) ∧ w'.cell? ⟨g1, o1 + k * 12 + 7, none⟩ = some (.int .i64 mI) ∧ w'.cell? ⟨g1, o1 + k * 12 + 8, none⟩ = some (.int .i64 mL) ∧ w'.cell? ⟨g1, o1 + k * 12 + 9, none⟩ = some (.string mk) ∧ w'.cell? ⟨g1, o1 + k * 12 + 10, none⟩ = some (.int .i64 mN) ∧ w'.cell? ⟨g1, o1 + k * 12 + 11, none⟩ = some (.int .i64 ac)) ∧ w'.cell? ⟨g2, o2 + k * 12, none⟩ = some (.int .i64 oK) ∧ w'.cell? ⟨g2, o2 + k * 12 + 1, none⟩ = some (.int .i64 ono) ∧ w'.cell? ⟨g2, o2 + k * 12 + 2, none⟩ = some (.string ok) ∧ w'.cell? ⟨g2, o2 + k * 12 + 3, none⟩ = some (.int .i64 on) ∧ w'.cell? ⟨g2, o2 + k * 12 + 4, none⟩ = some (.int .i64 mK) ∧ w'.cell? ⟨g2, o2 + k * 12 + 5, none⟩ = some (.int .i64 mF) ∧ w'.cell? ⟨g2, o2 + k * 12 + 6, none⟩ = some (.int .i64 mT) ∧ w'.cell? ⟨g2, o2 + k * 12 + 7, none⟩ = some (.int .i64 mI) ∧ w'.cell? ⟨g2, o2 + k * 12 + 8, none⟩ = some (.int .i64 mL) ∧ w'.cell? ⟨g2, o2 + k * 12 + 9, none⟩ = some (.string mk) ∧ w'.cell? ⟨g2, o2 + k * 12 + 10, none⟩ = some (.int .i64 mN) ∧ w'.cell? ⟨g2, o2 + k * 12 + 11, none⟩ = some (.int .i64 ac)) (go_keep)
        (first
          | (go_at_call 72; refine (unhide HEQ _).mono ?_; rintro e w5 ⟨rfl, hb5⟩; have hb6 : Below wr.heap.size wr w5 := ⟨hb5.os, hb5.tape, hb5.output, hb5.size, hb5.block⟩; clear hb5; have HBL5 := hide ((unhide HBL).trans (hb6.mono (unhide HBL).size)); have y0 := (hb6.cell (p := ⟨g1, o1 + k * 12, none⟩) hg1).trans s0; have y1 := (hb6.cell (p := ⟨g1, o1 + k * 12 + 1, none⟩) hg1).trans s1; have y2 := (hb6.cell (p := ⟨g1, o1 + k * 12 + 2, none⟩) hg1).trans s2; have y3 := (hb6.cell (p := ⟨g1, o1 + k * 12 + 3, none⟩) hg1).trans s3; have y4 := (hb6.cell (p := ⟨g1, o1 + k * 12 + 4, none⟩) hg1).trans s4; have y5 := (hb6.cell (p := ⟨g1, o1 + k * 12 + 5, none⟩) hg1).trans s5; have y6 := (hb6.cell (p := ⟨g1, o1 + k * 12 + 6, none⟩) hg1).trans s6; have y7 := (hb6.cell (p := ⟨g1, o1 + k * 12 + 7, none⟩) hg1).trans s7; have y8 := (hb6.cell (p := ⟨g1, o1 + k * 12 + 8, none⟩) hg1).trans s8; have y9 := (hb6.cell (p := ⟨g1, o1 + k * 12 + 9, none⟩) hg1).trans s9; have y10 := (hb6.cell (p := ⟨g1, o1 + k * 12 + 10, none⟩) hg1).trans s10; have y11 := (hb6.cell (p := ⟨g1, o1 + k * 12 + 11, none⟩) hg1).trans s11; have z0 := (hb6.cell (p := ⟨g2, o2 + k * 12, none⟩) hg2).trans t0; have z1 := (hb6.cell (p := ⟨g2, o2 + k * 12 + 1, none⟩) hg2).trans t1; have z2 := (hb6.cell (p := ⟨g2, o2 + k * 12 + 2, none⟩) hg2).trans t2; have z3 := (hb6.cell (p := ⟨g2, o2 + k * 12 + 3, none⟩) hg2).trans t3; have z4 := (hb6.cell (p := ⟨g2, o2 + k * 12 + 4, none⟩) hg2).trans t4; have z5 := (hb6.cell (p := ⟨g2, o2 + k * 12 + 5, none⟩) hg2).trans t5; have z6 := (hb6.cell (p := ⟨g2, o2 + k * 12 + 6, none⟩) hg2).trans t6; have z7 := (hb6.cell (p := ⟨g2, o2 + k * 12 + 7, none⟩) hg2).trans t7; have z8 := (hb6.cell (p := ⟨g2, o2 + k * 12 + 8, none⟩) hg2).trans t8; have z9 := (hb6.cell (p := ⟨g2, o2 + k * 12 + 9, none⟩) hg2).trans t9; have z10 := (hb6.cell (p := ⟨g2, o2 + k * 12 + 10, none⟩) hg2).trans t10; have z11 := (hb6.cell (p := ⟨g2, o2 + k * 12 + 11, none⟩) hg2).trans t11; clear hb6))
      all_goals
        go_wp2_with fail
        go_roundw
        case rel => exact ⟨k + 1, by omega, by go_num, unhide HBL5⟩
        case measure => simp [intOf]; omega
    · have hke : k = l.length := by omega
      subst hke
      have hnlt : decide ((l.length : Int) < (l.length : Int)) = false := by simp
      go_wp2_with fail
      go_ret
      exact ⟨rfl, unhide HBL⟩
set_option maxRecDepth 100000 in
set_option maxHeartbeats 4000000 in
theorem szAnswerSW (a : Option Addr) (ca : Nat) (l : List An) (z0 : Int) (w : World) (h0 : 0 ≤ z0) (h1 : z0 ≤ 1048576) (hl : l.length ≤ maxLen) (hks : ∀ p ∈ l, p.o.k.size ≤ maxLen ∧ p.o.m.k.size ≤ maxLen) (ha : GR.At encAn 12 w a l) :
    Calls Try.prog 63 #[.slice a l.length ca, .int .i64 z0] w fun e w' => ∃ r : Int, e = .returned (.int .i64 r) ∧ (r = -1 ∨ 0 ≤ r ∧ r ≤ z0 ∧ l.length ≤ 1048576 ∧ ∀ p ∈ l, p.o.k.size ≤ 1048576 ∧ p.o.m.k.size ≤ 1048576) ∧ Below w.heap.size w w' := by
  have HA := hide ha
  clear ha
  unfold maxLen at hl
  by_cases hbig : (l.length : Int) ≤ z0
  · have hn : ¬ (z0 - (l.length : Int) < 0) := by omega
    go_enter Try.func63, Try.ntmps63
    go_wp2_with fail
    go_loopw [1, 5] (fun lf i wr => ∃ (k : Nat) (z : Int), k ≤ l.length ∧ i = .int .i64 k ∧ lf = .int .i64 z ∧ 0 ≤ z ∧ z ≤ z0 ∧ (∀ p ∈ l.take k, p.o.k.size ≤ 1048576 ∧ p.o.m.k.size ≤ 1048576) ∧ Below w.heap.size w wr) (fun _ i _ => l.length - (intOf i).toNat)
    case atStart => exact ⟨0, z0 - l.length, Nat.zero_le _, rfl, by go_num, by omega, by omega, fun p hp => by simp at hp, Below.refl _ _⟩
    case round =>
      obtain ⟨k, z, hk, rfl, rfl, hz0, hz1, hall, hbel⟩ := hrel
      have HALL := hide hall
      have HBL := hide hbel
      clear hall hbel
      by_cases hlt : k < l.length
      · obtain ⟨g, off, rfl, hgw, q0, q1, q2, q3, q4, q5, q6, q7, q8, q9, q10, q11⟩ := AnswerAt_cells (GR.At.below (unhide HA) (unhide HBL)) k hlt
        have hkk := hks l[k] (List.getElem_mem hlt)
        have HT := hide (List.take_succ_eq_append_getElem hlt)
        generalize l[k] = pu at *
        have HSZ := hide (fun (w1 : World) => szAnswerQ pu z w1 hz0 (by omega) hkk)
        obtain ⟨⟨oK, ono, ok, on, ⟨mK, mF, mT, mI, mL, mk, mN⟩⟩, ac⟩ := pu
        dsimp only at q0 q1 q2 q3 q4 q5 q6 q7 q8 q9 q10 q11 HSZ
        clear hkk
        go_wp2_with fail
        refine (unhide HSZ wr).mono ?_
        rintro e w5 ⟨r, rfl, hcase, hb5⟩
        have HBL5 := hide ((unhide HBL).trans (hb5.mono (unhide HBL).size))
        clear hb5 q0 q1 q2 q3 q4 q5 q6 q7 q8 q9 q10 q11
        rcases hcase with rfl | ⟨r0, r1, hqq⟩
        · go_wp2_with fail
          go_ret
          exact ⟨-1, rfl, .inl rfl, unhide HBL5⟩
        · have hn2 : decide (r < 0) = false := decide_eq_false (by omega)
          have HQQ := hide hqq
          clear hqq
          go_wp2_with fail
          go_roundw
          case rel =>
            refine ⟨k + 1, r, by omega, by go_num, rfl, by omega, by omega, ?_, unhide HBL5⟩
            intro p hp
            rw [unhide HT] at hp
            rcases List.mem_append.1 hp with h | h
            · exact unhide HALL p h
            · rw [List.mem_singleton] at h
              subst h
              exact unhide HQQ
          case measure => simp [intOf]; omega
      · have hke : k = l.length := by omega
        subst hke
        have hnlt : decide ((l.length : Int) < (l.length : Int)) = false := by simp
        go_wp2_with fail
        go_ret
        have h := unhide HALL
        rw [List.take_length] at h
        exact ⟨z, rfl, .inr ⟨hz0, hz1, by omega, h⟩, unhide HBL⟩
  · have hn : z0 - (l.length : Int) < 0 := by omega
    go_enter Try.func63, Try.ntmps63
    go_wp2_with fail
    go_ret
    exact ⟨-1, rfl, .inl rfl, Below.refl _ _⟩

theorem ToldAt_cells {w : World} {a : Option Addr} {l : List Td} (h : GR.At encTd 13 w a l) (i : Nat) (hi : i < l.length) : ∃ g off, a = some ⟨g, off, none⟩ ∧ g < w.heap.size ∧ w.cell? ⟨g, off + i * 13, none⟩ = some (.int .i64 l[i].a) ∧ w.cell? ⟨g, off + i * 13 + 1, none⟩ = some (.int .i64 l[i].n.o.K) ∧ w.cell? ⟨g, off + i * 13 + 2, none⟩ = some (.int .i64 l[i].n.o.no) ∧ w.cell? ⟨g, off + i * 13 + 3, none⟩ = some (.string l[i].n.o.k) ∧ w.cell? ⟨g, off + i * 13 + 4, none⟩ = some (.int .i64 l[i].n.o.n) ∧ w.cell? ⟨g, off + i * 13 + 5, none⟩ = some (.int .i64 l[i].n.o.m.K) ∧ w.cell? ⟨g, off + i * 13 + 6, none⟩ = some (.int .i64 l[i].n.o.m.F) ∧ w.cell? ⟨g, off + i * 13 + 7, none⟩ = some (.int .i64 l[i].n.o.m.T) ∧ w.cell? ⟨g, off + i * 13 + 8, none⟩ = some (.int .i64 l[i].n.o.m.I) ∧ w.cell? ⟨g, off + i * 13 + 9, none⟩ = some (.int .i64 l[i].n.o.m.L) ∧ w.cell? ⟨g, off + i * 13 + 10, none⟩ = some (.string l[i].n.o.m.k) ∧ w.cell? ⟨g, off + i * 13 + 11, none⟩ = some (.int .i64 l[i].n.o.m.N) ∧ w.cell? ⟨g, off + i * 13 + 12, none⟩ = some (.int .i64 l[i].n.c) := by
  obtain ⟨g, off, e, hg, hc⟩ := h i hi
  refine ⟨g, off, e, hg, ?_, ?_, ?_, ?_, ?_, ?_, ?_, ?_, ?_, ?_, ?_, ?_, ?_⟩
  · simpa using hc 0 (by omega)
  · simpa [Nat.add_assoc] using hc 1 (by omega)
  · simpa [Nat.add_assoc] using hc 2 (by omega)
  · simpa [Nat.add_assoc] using hc 3 (by omega)
  · simpa [Nat.add_assoc] using hc 4 (by omega)
  · simpa [Nat.add_assoc] using hc 5 (by omega)
  · simpa [Nat.add_assoc] using hc 6 (by omega)
  · simpa [Nat.add_assoc] using hc 7 (by omega)
  · simpa [Nat.add_assoc] using hc 8 (by omega)
  · simpa [Nat.add_assoc] using hc 9 (by omega)
  · simpa [Nat.add_assoc] using hc 10 (by omega)
  · simpa [Nat.add_assoc] using hc 11 (by omega)
  · simpa [Nat.add_assoc] using hc 12 (by omega)
theorem ToldBlk_cells {w : World} {g : Nat} {l : List Td} (h : GR.Blk encTd 112 w g l) (i : Nat) (hi : i < l.length) : w.cell? ⟨g, i * 13, none⟩ = some (.int .i64 l[i].a) ∧ w.cell? ⟨g, i * 13 + 1, none⟩ = some (.int .i64 l[i].n.o.K) ∧ w.cell? ⟨g, i * 13 + 2, none⟩ = some (.int .i64 l[i].n.o.no) ∧ w.cell? ⟨g, i * 13 + 3, none⟩ = some (.string l[i].n.o.k) ∧ w.cell? ⟨g, i * 13 + 4, none⟩ = some (.int .i64 l[i].n.o.n) ∧ w.cell? ⟨g, i * 13 + 5, none⟩ = some (.int .i64 l[i].n.o.m.K) ∧ w.cell? ⟨g, i * 13 + 6, none⟩ = some (.int .i64 l[i].n.o.m.F) ∧ w.cell? ⟨g, i * 13 + 7, none⟩ = some (.int .i64 l[i].n.o.m.T) ∧ w.cell? ⟨g, i * 13 + 8, none⟩ = some (.int .i64 l[i].n.o.m.I) ∧ w.cell? ⟨g, i * 13 + 9, none⟩ = some (.int .i64 l[i].n.o.m.L) ∧ w.cell? ⟨g, i * 13 + 10, none⟩ = some (.string l[i].n.o.m.k) ∧ w.cell? ⟨g, i * 13 + 11, none⟩ = some (.int .i64 l[i].n.o.m.N) ∧ w.cell? ⟨g, i * 13 + 12, none⟩ = some (.int .i64 l[i].n.c) :=
  ⟨by simpa using GR.Blk.cell h encTd_length i hi 0 (by omega), by simpa using GR.Blk.cell h encTd_length i hi 1 (by omega), by simpa using GR.Blk.cell h encTd_length i hi 2 (by omega), by simpa using GR.Blk.cell h encTd_length i hi 3 (by omega), by simpa using GR.Blk.cell h encTd_length i hi 4 (by omega), by simpa using GR.Blk.cell h encTd_length i hi 5 (by omega), by simpa using GR.Blk.cell h encTd_length i hi 6 (by omega), by simpa using GR.Blk.cell h encTd_length i hi 7 (by omega), by simpa using GR.Blk.cell h encTd_length i hi 8 (by omega), by simpa using GR.Blk.cell h encTd_length i hi 9 (by omega), by simpa using GR.Blk.cell h encTd_length i hi 10 (by omega), by simpa using GR.Blk.cell h encTd_length i hi 11 (by omega), by simpa using GR.Blk.cell h encTd_length i hi 12 (by omega)⟩
theorem infoToldW : (Try.prog.info? 112).map (fun i => (i.zero, i.size, i.bytes)) = some (some (.agg #[.int .i64 0, .int .i64 0, .int .i64 0, .string ByteArray.empty, .int .i64 0, .int .i64 0, .int .i64 0, .int .i64 0, .int .i64 0, .int .i64 0, .string ByteArray.empty, .int .i64 0, .int .i64 0]), 13, 120) := by kernel_rfl
theorem makeToldW (n : Nat) (hn : n ≤ 2000000) : ∀ W : World, (Instr.makeSlice 35 (.int .i64 (n : Int)) (.int .i64 (n : Int))).run Try.prog W = .ok (.slice (some ⟨W.heap.size, 0, none⟩) n n) (W.alloc (.cells (GR.flat encTd (List.replicate n ⟨0, ⟨⟨0, 0, ByteArray.empty, 0, ⟨0, 0, 0, 0, 0, ByteArray.empty, 0⟩⟩, 0⟩⟩)).toArray 112)) := by
  obtain ⟨i0, hi, hz0, hz1, hz2⟩ := info_parts infoToldW
  intro W
  have h := run_make (P := Try.prog) W 35 112 i0 (.agg #[.int .i64 0, .int .i64 0, .int .i64 0, .string ByteArray.empty, .int .i64 0, .int .i64 0, .int .i64 0, .int .i64 0, .int .i64 0, .int .i64 0, .string ByteArray.empty, .int .i64 0, .int .i64 0]) Try.underlying35 hi hz0 .i64 .i64 (n : Int) (n : Int) (by omega) (by omega) (by rw [hz2]; omega) (by omega)
  rw [hz1] at h
  have e := GR.made_flat encTd 13 encTd_length (by omega) ⟨0, ⟨⟨0, 0, ByteArray.empty, 0, ⟨0, 0, 0, 0, 0, ByteArray.empty, 0⟩⟩, 0⟩⟩ (Value.cells (.agg #[.int .i64 0, .int .i64 0, .int .i64 0, .string ByteArray.empty, .int .i64 0, .int .i64 0, .int .i64 0, .int .i64 0, .int .i64 0, .int .i64 0, .string ByteArray.empty, .int .i64 0, .int .i64 0])) rfl n
  simp only [Int.toNat_natCast] at h
  rw [e] at h
  exact h
set_option maxRecDepth 100000 in
set_option maxHeartbeats 4000000 in
theorem toToldS (a : Option Addr) (cap : Nat) (l : List Td) (w : World) (hl : l.length ≤ 1048576) (ha : GR.At encTd 13 w a l) :
    Calls Try.prog 25 #[.slice a l.length cap] w fun e w' => e = .returned (.slice (some ⟨w.heap.size, 0, none⟩) l.length l.length) ∧ GR.Blk encTd 112 w' w.heap.size l ∧ Below w.heap.size w w' := by
  have hmk := makeToldW l.length (by omega)
  have HA := hide ha
  clear ha
  go_enter Try.func25, Try.ntmps25
  go_wp2_with fail
  go_loopw [4] (fun i wr => ∃ k : Nat, k ≤ l.length ∧ i = .int .i64 k ∧ GR.Blk encTd 112 wr w.heap.size (l.take k ++ List.replicate (l.length - k) ⟨0, ⟨⟨0, 0, ByteArray.empty, 0, ⟨0, 0, 0, 0, 0, ByteArray.empty, 0⟩⟩, 0⟩⟩) ∧ Below w.heap.size w wr) (fun i _ => l.length - (intOf i).toNat)
  case atStart => exact ⟨0, Nat.zero_le _, rfl, by unfold GR.Blk; rw [List.take_zero, List.nil_append, Nat.sub_zero]; exact heap_alloc_new w _, below_one' w _⟩
  case round =>
    obtain ⟨k, hk, rfl, hB, hbel⟩ := hrel
    have HB := hide hB
    have HBL := hide hbel
    clear hB hbel hmk
    by_cases hlt : k < l.length
    · obtain ⟨g, off, rfl, hgw, q0, q1, q2, q3, q4, q5, q6, q7, q8, q9, q10, q11, q12⟩ := ToldAt_cells (GR.At.below (unhide HA) (unhide HBL)) k hlt
      have TS := hide (take_setW l ⟨0, ⟨⟨0, 0, ByteArray.empty, 0, ⟨0, 0, 0, 0, 0, ByteArray.empty, 0⟩⟩, 0⟩⟩ k hlt)
      generalize l[k] = pu at *
      have HTO := hide (fun w1 => toTold pu w1)
      obtain ⟨ta, ⟨⟨oK, ono, ok, on, ⟨mK, mF, mT, mI, mL, mk, mN⟩⟩, ac⟩⟩ := pu
      dsimp only at q0 q1 q2 q3 q4 q5 q6 q7 q8 q9 q10 q11 q12
      have hln : (l.take k ++ List.replicate (l.length - k) (⟨0, ⟨⟨0, 0, ByteArray.empty, 0, ⟨0, 0, 0, 0, 0, ByteArray.empty, 0⟩⟩, 0⟩⟩ : Td)).length = l.length := by simp; omega
      go_wp2_with fail
      refine (unhide HTO _).mono ?_
      rintro e w5 ⟨rfl, hb5⟩
      have HB5 := hide (GR.Blk.stepW (unhide HB) hb5)
      have HBL5 := hide ((unhide HBL).trans (hb5.mono (unhide HBL).size))
      clear hb5 q0 q1 q2 q3 q4 q5 q6 q7 q8 q9 q10 q11 q12
      obtain ⟨s0, s1, s2, s3, s4, s5, s6, s7, s8, s9, s10, s11, s12⟩ := ToldBlk_cells (unhide HB5) k (by omega)
      have f0 := GR.Blk.free (unhide HB5) (k * 13)
      have f1 := GR.Blk.free (unhide HB5) (k * 13 + 1)
      have f2 := GR.Blk.free (unhide HB5) (k * 13 + 2)
      have f3 := GR.Blk.free (unhide HB5) (k * 13 + 3)
      have f4 := GR.Blk.free (unhide HB5) (k * 13 + 4)
      have f5 := GR.Blk.free (unhide HB5) (k * 13 + 5)
      have f6 := GR.Blk.free (unhide HB5) (k * 13 + 6)
      have f7 := GR.Blk.free (unhide HB5) (k * 13 + 7)
      have f8 := GR.Blk.free (unhide HB5) (k * 13 + 8)
      have f9 := GR.Blk.free (unhide HB5) (k * 13 + 9)
      have f10 := GR.Blk.free (unhide HB5) (k * 13 + 10)
      have f11 := GR.Blk.free (unhide HB5) (k * 13 + 11)
      have f12 := GR.Blk.free (unhide HB5) (k * 13 + 12)
      go_wp2_with fail
      go_roundw
      case rel =>
        have h := GR.Blk.set (unhide HB5) encTd_length k (by omega) ⟨ta, ⟨⟨oK, ono, ok, on, ⟨mK, mF, mT, mI, mL, mk, mN⟩⟩, ac⟩⟩
        rw [unhide TS] at h
        exact ⟨k + 1, by omega, by go_num, h, GR.setW_below (o := k * 13) (Nat.le_refl w.heap.size) (encTd ⟨ta, ⟨⟨oK, ono, ok, on, ⟨mK, mF, mT, mI, mL, mk, mN⟩⟩, ac⟩⟩) (unhide HBL5)⟩
      case measure => simp [intOf]; omega
    · have hke : k = l.length := by omega
      subst hke
      have hnlt : decide ((l.length : Int) < (l.length : Int)) = false := by simp
      go_wp2_with fail
      go_ret
      have h := unhide HB
      rw [List.take_length, Nat.sub_self, List.replicate_zero, List.append_nil] at h
      exact ⟨rfl, h, unhide HBL⟩
set_option maxRecDepth 100000 in
set_option maxHeartbeats 4000000 in
theorem eqToldSW (a b : Option Addr) (ca cb : Nat) (l : List Td) (w : World) (hl : l.length ≤ 1048600) (ha : GR.At encTd 13 w a l) (hb : GR.At encTd 13 w b l) :
    Calls Try.prog 30 #[.slice a l.length ca, .slice b l.length cb] w fun e w' => e = .returned (.bool true) ∧ Below w.heap.size w w' := by
  have HA := hide ha
  have HB := hide hb
  clear ha hb
  go_enter Try.func30, Try.ntmps30
  go_wp2_with fail
  go_loopw [5] (fun i wr => ∃ k : Nat, k ≤ l.length ∧ i = .int .i64 k ∧ Below w.heap.size w wr) (fun i _ => l.length - (intOf i).toNat)
  case atStart => exact ⟨0, Nat.zero_le _, rfl, Below.refl _ _⟩
  case round =>
    obtain ⟨k, hk, rfl, hbel⟩ := hrel
    have HBL := hide hbel
    clear hbel
    by_cases hlt : k < l.length
    · obtain ⟨g1, o1, rfl, hg1, s0, s1, s2, s3, s4, s5, s6, s7, s8, s9, s10, s11, s12⟩ := ToldAt_cells (GR.At.below (unhide HA) (unhide HBL)) k hlt
      obtain ⟨g2, o2, rfl, hg2, t0, t1, t2, t3, t4, t5, t6, t7, t8, t9, t10, t11, t12⟩ := ToldAt_cells (GR.At.below (unhide HB) (unhide HBL)) k hlt
      generalize l[k] = pu at *
      have HEQ := hide (fun w1 => eqToldW pu w1)
      obtain ⟨ta, ⟨⟨oK, ono, ok, on, ⟨mK, mF, mT, mI, mL, mk, mN⟩⟩, ac⟩⟩ := pu
      dsimp only at s0 s1 s2 s3 s4 s5 s6 s7 s8 s9 s10 s11 s12 t0 t1 t2 t3 t4 t5 t6 t7 t8 t9 t10 t11 t12
      go_wp2_with fail
      go_region_held (fun w' => (w'.cell? ⟨g1, o1 + k * 13, none⟩ = some (.int .i64 ta) ∧ w'.cell? ⟨g1, o1 + k * 13 + 1, none⟩ = some (.int .i64 oK) ∧ w'.cell? ⟨g1, o1 + k * 13 + 2, none⟩ = some (.int .i64 ono) ∧ w'.cell? ⟨g1, o1 + k * 13 + 3, none⟩ = some (.string ok) ∧ w'.cell? ⟨g1, o1 + k * 13 + 4, none⟩ = some (.int .i64 on) ∧ w'.cell? ⟨g1, o1 + k * 13 + 5, none⟩ = some (.int .i64 mK) ∧ w'.cell? ⟨g1, o1 + k * 13 + 6, none⟩ = some (.int .i64 mF) ∧ w'.cell? ⟨g1, o1 + k * 13 + 7, none⟩ = some (.int .i64 mT) ∧ w'.cell? ⟨g1, o1 + k * 13 + 8, none⟩ = some (.int .i64 mI) ∧ w'.cell? ⟨g1, o1 + k * 13 + 9, none⟩ = some (.int .i64 mL) ∧ w'.cell? ⟨g1, o1 + k * 13 + 10, none⟩ = some (.string mk) ∧ w'.cell? ⟨g1, o1 + k * 13 + 11, none⟩ = some (.int .i64 mN) ∧ w'.cell? ⟨g1, o1 + k * 13 + 12, none⟩ = some (.int .i64 ac)) ∧ w'.cell? ⟨g2, o2 + k * 13, none⟩ = some (.int .i64 ta) ∧ w'.cell? ⟨g2, o2 + k * 13 + 1, none⟩ = some (.int .i64 oK) ∧ w'.cell? ⟨g2, o2 + k * 13 + 2, none⟩ = some (.int .i64 ono) ∧ w'.cell? ⟨g2, o2 + k * 13 + 3, none⟩ = some (.string ok) ∧ w'.cell? ⟨g2, o2 + k * 13 + 4, none⟩ = some (.int .i64 on) ∧ w'.cell? ⟨g2, o2 + k * 13 + 5, none⟩ = some (.int .i64 mK) ∧ w'.cell? ⟨g2, o2 + k * 13 + 6, none⟩ = some (.int .i64 mF) ∧ w'.cell? ⟨g2, o2 + k * 13 + 7, none⟩ = some (.int .i64 mT) ∧ w'.cell? ⟨g2, o2 + k * 13 + 8, none⟩ = some (.int .i64 mI) ∧ w'.cell? ⟨g2, o2 + k * 13 + 9, none⟩ = some (.int .i64 mL) ∧ w'.cell? ⟨g2, o2 + k * 13 + 10, none⟩ = some (.string mk) ∧ w'.cell? ⟨g2, o2 + k * 13 + 11, none⟩ = some (.int .i64 mN) ∧ w'.cell? ⟨g2, o2 + k * 13 + 12, none⟩ = some (.int .i64 ac)) (go_keep)
        (first
          | (go_at_call 50; refine (unhide HEQ _).mono ?_; rintro e w5 ⟨rfl, hb5⟩; have hb6 : Below wr.heap.size wr w5 := ⟨hb5.os, hb5.tape, hb5.output, hb5.size, hb5.block⟩; clear hb5; have HBL5 := hide ((unhide HBL).trans (hb6.mono (unhide HBL).size)); have y0 := (hb6.cell (p := ⟨g1, o1 + k * 13, none⟩) hg1).trans s0; have y1 := (hb6.cell (p := ⟨g1, o1 + k * 13 + 1, none⟩) hg1).trans s1; have y2 := (hb6.cell (p := ⟨g1, o1 + k * 13 + 2, none⟩) hg1).trans s2; have y3 := (hb6.cell (p := ⟨g1, o1 + k * 13 + 3, none⟩) hg1).trans s3; have y4 := (hb6.cell (p := ⟨g1, o1 + k * 13 + 4, none⟩) hg1).trans s4; have y5 := (hb6.cell (p := ⟨g1, o1 + k * 13 + 5, none⟩) hg1).trans s5; have y6 := (hb6.cell (p := ⟨g1, o1 + k * 13 + 6, none⟩) hg1).trans s6; have y7 := (hb6.cell (p := ⟨g1, o1 + k * 13 + 7, none⟩) hg1).trans s7; have y8 := (hb6.cell (p := ⟨g1, o1 + k * 13 + 8, none⟩) hg1).trans s8; have y9 := (hb6.cell (p := ⟨g1, o1 + k * 13 + 9, none⟩) hg1).trans s9; have y10 := (hb6.cell (p := ⟨g1, o1 + k * 13 + 10, none⟩) hg1).trans s10; have y11 := (hb6.cell (p := ⟨g1, o1 + k * 13 + 11, none⟩) hg1).trans s11; have y12 := (hb6.cell (p := ⟨g1, o1 + k * 13 + 12, none⟩) hg1).trans s12; have z0 := (hb6.cell (p := ⟨g2, o2 + k * 13, none⟩) hg2).trans t0; have z1 := (hb6.cell (p := ⟨g2, o2 + k * 13 + 1, none⟩) hg2).trans t1; have z2 := (hb6.cell (p := ⟨g2, o2 + k * 13 + 2, none⟩) hg2).trans t2; have z3 := (hb6.cell (p := ⟨g2, o2 + k * 13 + 3, none⟩) hg2).trans t3; have z4 := (hb6.cell (p := ⟨g2, o2 + k * 13 + 4, none⟩) hg2).trans t4; have z5 := (hb6.cell (p := ⟨g2, o2 + k * 13 + 5, none⟩) hg2).trans t5; have z6 := (hb6.cell (p := ⟨g2, o2 + k * 13 + 6, none⟩) hg2).trans t6; have z7 := (hb6.cell (p := ⟨g2, o2 + k * 13 + 7, none⟩) hg2).trans t7; have z8 := (hb6.cell (p := ⟨g2, o2 + k * 13 + 8, none⟩) hg2).trans t8; have z9 := (hb6.cell (p := ⟨g2, o2 + k * 13 + 9, none⟩) hg2).trans t9; have z10 := (hb6.cell (p := ⟨g2, o2 + k * 13 + 10, none⟩) hg2).trans t10; have z11 := (hb6.cell (p := ⟨g2, o2 + k * 13 + 11, none⟩) hg2).trans t11; have z12 := (hb6.cell (p := ⟨g2, o2 + k * 13 + 12, none⟩) hg2).trans t12; clear hb6))
      all_goals
        go_wp2_with fail
        go_roundw
        case rel => exact ⟨k + 1, by omega, by go_num, unhide HBL5⟩
        case measure => simp [intOf]; omega
    · have hke : k = l.length := by omega
      subst hke
      have hnlt : decide ((l.length : Int) < (l.length : Int)) = false := by simp
      go_wp2_with fail
      go_ret
      exact ⟨rfl, unhide HBL⟩
set_option maxRecDepth 100000 in
set_option maxHeartbeats 4000000 in
theorem szToldSW (a : Option Addr) (ca : Nat) (l : List Td) (z0 : Int) (w : World) (h0 : 0 ≤ z0) (h1 : z0 ≤ 1048576) (hl : l.length ≤ maxLen) (hks : ∀ p ∈ l, p.n.o.k.size ≤ maxLen ∧ p.n.o.m.k.size ≤ maxLen) (ha : GR.At encTd 13 w a l) :
    Calls Try.prog 19 #[.slice a l.length ca, .int .i64 z0] w fun e w' => ∃ r : Int, e = .returned (.int .i64 r) ∧ (r = -1 ∨ 0 ≤ r ∧ r ≤ z0 ∧ l.length ≤ 1048576 ∧ ∀ p ∈ l, p.n.o.k.size ≤ 1048576 ∧ p.n.o.m.k.size ≤ 1048576) ∧ Below w.heap.size w w' := by
  have HA := hide ha
  clear ha
  unfold maxLen at hl
  by_cases hbig : (l.length : Int) ≤ z0
  · have hn : ¬ (z0 - (l.length : Int) < 0) := by omega
    go_enter Try.func19, Try.ntmps19
    go_wp2_with fail
    go_loopw [1, 5] (fun lf i wr => ∃ (k : Nat) (z : Int), k ≤ l.length ∧ i = .int .i64 k ∧ lf = .int .i64 z ∧ 0 ≤ z ∧ z ≤ z0 ∧ (∀ p ∈ l.take k, p.n.o.k.size ≤ 1048576 ∧ p.n.o.m.k.size ≤ 1048576) ∧ Below w.heap.size w wr) (fun _ i _ => l.length - (intOf i).toNat)
    case atStart => exact ⟨0, z0 - l.length, Nat.zero_le _, rfl, by go_num, by omega, by omega, fun p hp => by simp at hp, Below.refl _ _⟩
    case round =>
      obtain ⟨k, z, hk, rfl, rfl, hz0, hz1, hall, hbel⟩ := hrel
      have HALL := hide hall
      have HBL := hide hbel
      clear hall hbel
      by_cases hlt : k < l.length
      · obtain ⟨g, off, rfl, hgw, q0, q1, q2, q3, q4, q5, q6, q7, q8, q9, q10, q11, q12⟩ := ToldAt_cells (GR.At.below (unhide HA) (unhide HBL)) k hlt
        have hkk := hks l[k] (List.getElem_mem hlt)
        have HT := hide (List.take_succ_eq_append_getElem hlt)
        generalize l[k] = pu at *
        have HSZ := hide (fun (w1 : World) => szToldQ pu z w1 hz0 (by omega) hkk)
        obtain ⟨ta, ⟨⟨oK, ono, ok, on, ⟨mK, mF, mT, mI, mL, mk, mN⟩⟩, ac⟩⟩ := pu
        dsimp only at q0 q1 q2 q3 q4 q5 q6 q7 q8 q9 q10 q11 q12 HSZ
        clear hkk
        go_wp2_with fail
        refine (unhide HSZ wr).mono ?_
        rintro e w5 ⟨r, rfl, hcase, hb5⟩
        have HBL5 := hide ((unhide HBL).trans (hb5.mono (unhide HBL).size))
        clear hb5 q0 q1 q2 q3 q4 q5 q6 q7 q8 q9 q10 q11 q12
        rcases hcase with rfl | ⟨r0, r1, hqq⟩
        · go_wp2_with fail
          go_ret
          exact ⟨-1, rfl, .inl rfl, unhide HBL5⟩
        · have hn2 : decide (r < 0) = false := decide_eq_false (by omega)
          have HQQ := hide hqq
          clear hqq
          go_wp2_with fail
          go_roundw
          case rel =>
            refine ⟨k + 1, r, by omega, by go_num, rfl, by omega, by omega, ?_, unhide HBL5⟩
            intro p hp
            rw [unhide HT] at hp
            rcases List.mem_append.1 hp with h | h
            · exact unhide HALL p h
            · rw [List.mem_singleton] at h
              subst h
              exact unhide HQQ
          case measure => simp [intOf]; omega
      · have hke : k = l.length := by omega
        subst hke
        have hnlt : decide ((l.length : Int) < (l.length : Int)) = false := by simp
        go_wp2_with fail
        go_ret
        have h := unhide HALL
        rw [List.take_length] at h
        exact ⟨z, rfl, .inr ⟨hz0, hz1, by omega, h⟩, unhide HBL⟩
  · have hn : z0 - (l.length : Int) < 0 := by omega
    go_enter Try.func19, Try.ntmps19
    go_wp2_with fail
    go_ret
    exact ⟨-1, rfl, .inl rfl, Below.refl _ _⟩

theorem GivenAt_cells {w : World} {a : Option Addr} {l : List Gv} (h : GR.At encGv 2 w a l) (i : Nat) (hi : i < l.length) : ∃ g off, a = some ⟨g, off, none⟩ ∧ g < w.heap.size ∧ w.cell? ⟨g, off + i * 2, none⟩ = some (.int .i64 l[i].a) ∧ w.cell? ⟨g, off + i * 2 + 1, none⟩ = some (.int .i64 l[i].no) := by
  obtain ⟨g, off, e, hg, hc⟩ := h i hi
  refine ⟨g, off, e, hg, ?_, ?_⟩
  · simpa using hc 0 (by omega)
  · simpa [Nat.add_assoc] using hc 1 (by omega)
theorem GivenBlk_cells {w : World} {g : Nat} {l : List Gv} (h : GR.Blk encGv 115 w g l) (i : Nat) (hi : i < l.length) : w.cell? ⟨g, i * 2, none⟩ = some (.int .i64 l[i].a) ∧ w.cell? ⟨g, i * 2 + 1, none⟩ = some (.int .i64 l[i].no) :=
  ⟨by simpa using GR.Blk.cell h encGv_length i hi 0 (by omega), by simpa using GR.Blk.cell h encGv_length i hi 1 (by omega)⟩
theorem infoGivenW : (Try.prog.info? 115).map (fun i => (i.zero, i.size, i.bytes)) = some (some (.agg #[.int .i64 0, .int .i64 0]), 2, 16) := by kernel_rfl
theorem makeGivenW (n : Nat) (hn : n ≤ 2000000) : ∀ W : World, (Instr.makeSlice 36 (.int .i64 (n : Int)) (.int .i64 (n : Int))).run Try.prog W = .ok (.slice (some ⟨W.heap.size, 0, none⟩) n n) (W.alloc (.cells (GR.flat encGv (List.replicate n ⟨0, 0⟩)).toArray 115)) := by
  obtain ⟨i0, hi, hz0, hz1, hz2⟩ := info_parts infoGivenW
  intro W
  have h := run_make (P := Try.prog) W 36 115 i0 (.agg #[.int .i64 0, .int .i64 0]) Try.underlying36 hi hz0 .i64 .i64 (n : Int) (n : Int) (by omega) (by omega) (by rw [hz2]; omega) (by omega)
  rw [hz1] at h
  have e := GR.made_flat encGv 2 encGv_length (by omega) ⟨0, 0⟩ (Value.cells (.agg #[.int .i64 0, .int .i64 0])) rfl n
  simp only [Int.toNat_natCast] at h
  rw [e] at h
  exact h
set_option maxRecDepth 100000 in
set_option maxHeartbeats 4000000 in
theorem toGivenS (a : Option Addr) (cap : Nat) (l : List Gv) (w : World) (hl : l.length ≤ 1048576) (ha : GR.At encGv 2 w a l) :
    Calls Try.prog 26 #[.slice a l.length cap] w fun e w' => e = .returned (.slice (some ⟨w.heap.size, 0, none⟩) l.length l.length) ∧ GR.Blk encGv 115 w' w.heap.size l ∧ Below w.heap.size w w' := by
  have hmk := makeGivenW l.length (by omega)
  have HA := hide ha
  clear ha
  go_enter Try.func26, Try.ntmps26
  go_wp2_with fail
  go_loopw [4] (fun i wr => ∃ k : Nat, k ≤ l.length ∧ i = .int .i64 k ∧ GR.Blk encGv 115 wr w.heap.size (l.take k ++ List.replicate (l.length - k) ⟨0, 0⟩) ∧ Below w.heap.size w wr) (fun i _ => l.length - (intOf i).toNat)
  case atStart => exact ⟨0, Nat.zero_le _, rfl, by unfold GR.Blk; rw [List.take_zero, List.nil_append, Nat.sub_zero]; exact heap_alloc_new w _, below_one' w _⟩
  case round =>
    obtain ⟨k, hk, rfl, hB, hbel⟩ := hrel
    have HB := hide hB
    have HBL := hide hbel
    clear hB hbel hmk
    by_cases hlt : k < l.length
    · obtain ⟨g, off, rfl, hgw, q0, q1⟩ := GivenAt_cells (GR.At.below (unhide HA) (unhide HBL)) k hlt
      have TS := hide (take_setW l ⟨0, 0⟩ k hlt)
      generalize l[k] = pu at *
      have HTO := hide (fun w1 => toGiven pu w1)
      obtain ⟨ga, gn⟩ := pu
      dsimp only at q0 q1
      have hln : (l.take k ++ List.replicate (l.length - k) (⟨0, 0⟩ : Gv)).length = l.length := by simp; omega
      go_wp2_with fail
      refine (unhide HTO _).mono ?_
      rintro e w5 ⟨rfl, hb5⟩
      have HB5 := hide (GR.Blk.stepW (unhide HB) hb5)
      have HBL5 := hide ((unhide HBL).trans (hb5.mono (unhide HBL).size))
      clear hb5 q0 q1
      obtain ⟨s0, s1⟩ := GivenBlk_cells (unhide HB5) k (by omega)
      have f0 := GR.Blk.free (unhide HB5) (k * 2)
      have f1 := GR.Blk.free (unhide HB5) (k * 2 + 1)
      go_wp2_with fail
      go_roundw
      case rel =>
        have h := GR.Blk.set (unhide HB5) encGv_length k (by omega) ⟨ga, gn⟩
        rw [unhide TS] at h
        exact ⟨k + 1, by omega, by go_num, h, GR.setW_below (o := k * 2) (Nat.le_refl w.heap.size) (encGv ⟨ga, gn⟩) (unhide HBL5)⟩
      case measure => simp [intOf]; omega
    · have hke : k = l.length := by omega
      subst hke
      have hnlt : decide ((l.length : Int) < (l.length : Int)) = false := by simp
      go_wp2_with fail
      go_ret
      have h := unhide HB
      rw [List.take_length, Nat.sub_self, List.replicate_zero, List.append_nil] at h
      exact ⟨rfl, h, unhide HBL⟩
set_option maxRecDepth 100000 in
set_option maxHeartbeats 4000000 in
theorem eqGivenSW (a b : Option Addr) (ca cb : Nat) (l : List Gv) (w : World) (hl : l.length ≤ 1048600) (ha : GR.At encGv 2 w a l) (hb : GR.At encGv 2 w b l) :
    Calls Try.prog 31 #[.slice a l.length ca, .slice b l.length cb] w fun e w' => e = .returned (.bool true) ∧ Below w.heap.size w w' := by
  have HA := hide ha
  have HB := hide hb
  clear ha hb
  go_enter Try.func31, Try.ntmps31
  go_wp2_with fail
  go_loopw [5] (fun i wr => ∃ k : Nat, k ≤ l.length ∧ i = .int .i64 k ∧ Below w.heap.size w wr) (fun i _ => l.length - (intOf i).toNat)
  case atStart => exact ⟨0, Nat.zero_le _, rfl, Below.refl _ _⟩
  case round =>
    obtain ⟨k, hk, rfl, hbel⟩ := hrel
    have HBL := hide hbel
    clear hbel
    by_cases hlt : k < l.length
    · obtain ⟨g1, o1, rfl, hg1, s0, s1⟩ := GivenAt_cells (GR.At.below (unhide HA) (unhide HBL)) k hlt
      obtain ⟨g2, o2, rfl, hg2, t0, t1⟩ := GivenAt_cells (GR.At.below (unhide HB) (unhide HBL)) k hlt
      generalize l[k] = pu at *
      have HEQ := hide (fun w1 => eqGivenW pu w1)
      obtain ⟨ga, gn⟩ := pu
      dsimp only at s0 s1 t0 t1
      go_wp2_with fail
      go_region_held (fun w' => (w'.cell? ⟨g1, o1 + k * 2, none⟩ = some (.int .i64 ga) ∧ w'.cell? ⟨g1, o1 + k * 2 + 1, none⟩ = some (.int .i64 gn)) ∧ w'.cell? ⟨g2, o2 + k * 2, none⟩ = some (.int .i64 ga) ∧ w'.cell? ⟨g2, o2 + k * 2 + 1, none⟩ = some (.int .i64 gn)) (go_keep)
        (first
          | (go_at_call 51; refine (unhide HEQ _).mono ?_; rintro e w5 ⟨rfl, hb5⟩; have hb6 : Below wr.heap.size wr w5 := ⟨hb5.os, hb5.tape, hb5.output, hb5.size, hb5.block⟩; clear hb5; have HBL5 := hide ((unhide HBL).trans (hb6.mono (unhide HBL).size)); have y0 := (hb6.cell (p := ⟨g1, o1 + k * 2, none⟩) hg1).trans s0; have y1 := (hb6.cell (p := ⟨g1, o1 + k * 2 + 1, none⟩) hg1).trans s1; have z0 := (hb6.cell (p := ⟨g2, o2 + k * 2, none⟩) hg2).trans t0; have z1 := (hb6.cell (p := ⟨g2, o2 + k * 2 + 1, none⟩) hg2).trans t1; clear hb6))
      all_goals
        go_wp2_with fail
        go_roundw
        case rel => exact ⟨k + 1, by omega, by go_num, unhide HBL5⟩
        case measure => simp [intOf]; omega
    · have hke : k = l.length := by omega
      subst hke
      have hnlt : decide ((l.length : Int) < (l.length : Int)) = false := by simp
      go_wp2_with fail
      go_ret
      exact ⟨rfl, unhide HBL⟩
end Go.Proofs.Ytgkimogaghgjaaa
