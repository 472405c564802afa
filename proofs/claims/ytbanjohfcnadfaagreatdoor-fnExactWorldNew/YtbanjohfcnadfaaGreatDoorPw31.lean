/- Parts. -/
import Derived.Test.YtbanjohfcnadfaaGreatDoorPw30
import Derived.Test.YtbanjohfcnadfaaGreatDoorPw10
import Derived.Deep.RegionHeld
namespace Go.Proofs.YtbanjohfcnadfaaGreatDoor
open Go.RowKit
open Mth

theorem MsgAt_cells {w : World} {a : Option Addr} {l : List Mg} (h : GR.At encMg 7 w a l) (i : Nat) (hi : i < l.length) : ∃ g off, a = some ⟨g, off, none⟩ ∧ g < w.heap.size ∧ w.cell? ⟨g, off + i * 7, none⟩ = some (.int .i64 l[i].K) ∧ w.cell? ⟨g, off + i * 7 + 1, none⟩ = some (.int .i64 l[i].F) ∧ w.cell? ⟨g, off + i * 7 + 2, none⟩ = some (.int .i64 l[i].T) ∧ w.cell? ⟨g, off + i * 7 + 3, none⟩ = some (.int .i64 l[i].I) ∧ w.cell? ⟨g, off + i * 7 + 4, none⟩ = some (.int .i64 l[i].L) ∧ w.cell? ⟨g, off + i * 7 + 5, none⟩ = some (.string l[i].k) ∧ w.cell? ⟨g, off + i * 7 + 6, none⟩ = some (.int .i64 l[i].N) := by
  obtain ⟨g, off, e, hg, hc⟩ := h i hi
  refine ⟨g, off, e, hg, ?_, ?_, ?_, ?_, ?_, ?_, ?_⟩
  · simpa using hc 0 (by omega)
  · simpa [Nat.add_assoc] using hc 1 (by omega)
  · simpa [Nat.add_assoc] using hc 2 (by omega)
  · simpa [Nat.add_assoc] using hc 3 (by omega)
  · simpa [Nat.add_assoc] using hc 4 (by omega)
  · simpa [Nat.add_assoc] using hc 5 (by omega)
  · simpa [Nat.add_assoc] using hc 6 (by omega)
set_option maxRecDepth 100000 in
set_option maxHeartbeats 4000000 in
theorem eqMsgSW (a b : Option Addr) (ca cb : Nat) (l : List Mg) (w : World) (hl : l.length ≤ 1048600) (ha : GR.At encMg 7 w a l) (hb : GR.At encMg 7 w b l) :
    Calls Tryz.prog 83 #[.slice a l.length ca, .slice b l.length cb] w fun e w' => e = .returned (.bool true) ∧ Below w.heap.size w w' := by
  have HA := hide ha
  have HB := hide hb
  clear ha hb
  go_enter Tryz.func83, Tryz.ntmps83
  go_wp2_with fail
  go_loopw [5] (fun i wr => ∃ k : Nat, k ≤ l.length ∧ i = .int .i64 k ∧ Below w.heap.size w wr) (fun i _ => l.length - (intOf i).toNat)
  case atStart => exact ⟨0, Nat.zero_le _, rfl, Below.refl _ _⟩
  case round =>
    obtain ⟨k, hk, rfl, hbel⟩ := hrel
    have HBL := hide hbel
    clear hbel
    by_cases hlt : k < l.length
    · obtain ⟨g1, o1, rfl, hg1, s0, s1, s2, s3, s4, s5, s6⟩ := MsgAt_cells (GR.At.below (unhide HA) (unhide HBL)) k hlt
      obtain ⟨g2, o2, rfl, hg2, t0, t1, t2, t3, t4, t5, t6⟩ := MsgAt_cells (GR.At.below (unhide HB) (unhide HBL)) k hlt
      generalize l[k] = pu at *
      have HEQ := hide (fun w1 => eqMsgW pu w1)
      obtain ⟨mK, mF, mT, mI, mL, mk, mN⟩ := pu
      dsimp only at s0 s1 s2 s3 s4 s5 s6 t0 t1 t2 t3 t4 t5 t6
      go_wp2_with fail
      go_region_held (fun w' => (w'.cell? ⟨g1, o1 + k * 7, none⟩ = some (.int .i64 mK) ∧ w'.cell? ⟨g1, o1 + k * 7 + 1, none⟩ = some (.int .i64 mF) ∧ w'.cell? ⟨g1, o1 + k * 7 + 2, none⟩ = some (.int .i64 mT) ∧ w'.cell? ⟨g1, o1 + k * 7 + 3, none⟩ = some (.int .i64 mI) ∧ w'.cell? ⟨g1, o1 + k * 7 + 4, none⟩ = some (.int .i64 mL) ∧ w'.cell? ⟨g1, o1 + k * 7 + 5, none⟩ = some (.string mk) ∧ w'.cell? ⟨g1, o1 + k * 7 + 6, none⟩ = some (.int .i64 mN)) ∧ w'.cell? ⟨g2, o2 + k * 7, none⟩ = some (.int .i64 mK) ∧ w'.cell? ⟨g2, o2 + k * 7 + 1, none⟩ = some (.int .i64 mF) ∧ w'.cell? ⟨g2, o2 + k * 7 + 2, none⟩ = some (.int .i64 mT) ∧ w'.cell? ⟨g2, o2 + k * 7 + 3, none⟩ = some (.int .i64 mI) ∧ w'.cell? ⟨g2, o2 + k * 7 + 4, none⟩ = some (.int .i64 mL) ∧ w'.cell? ⟨g2, o2 + k * 7 + 5, none⟩ = some (.string mk) ∧ w'.cell? ⟨g2, o2 + k * 7 + 6, none⟩ = some (.int .i64 mN)) (go_keep)
        (first
          | (go_at_call 110; refine (unhide HEQ _).mono ?_; rintro e w5 ⟨rfl, hb5⟩; have hb6 : Below wr.heap.size wr w5 := ⟨hb5.os, hb5.tape, hb5.output, hb5.size, hb5.block⟩; clear hb5; have HBL5 := hide ((unhide HBL).trans (hb6.mono (unhide HBL).size)); have y0 := (hb6.cell (p := ⟨g1, o1 + k * 7, none⟩) hg1).trans s0; have y1 := (hb6.cell (p := ⟨g1, o1 + k * 7 + 1, none⟩) hg1).trans s1; have y2 := (hb6.cell (p := ⟨g1, o1 + k * 7 + 2, none⟩) hg1).trans s2; have y3 := (hb6.cell (p := ⟨g1, o1 + k * 7 + 3, none⟩) hg1).trans s3; have y4 := (hb6.cell (p := ⟨g1, o1 + k * 7 + 4, none⟩) hg1).trans s4; have y5 := (hb6.cell (p := ⟨g1, o1 + k * 7 + 5, none⟩) hg1).trans s5; have y6 := (hb6.cell (p := ⟨g1, o1 + k * 7 + 6, none⟩) hg1).trans s6; have z0 := (hb6.cell (p := ⟨g2, o2 + k * 7, none⟩) hg2).trans t0; have z1 := (hb6.cell (p := ⟨g2, o2 + k * 7 + 1, none⟩) hg2).trans t1; have z2 := (hb6.cell (p := ⟨g2, o2 + k * 7 + 2, none⟩) hg2).trans t2; have z3 := (hb6.cell (p := ⟨g2, o2 + k * 7 + 3, none⟩) hg2).trans t3; have z4 := (hb6.cell (p := ⟨g2, o2 + k * 7 + 4, none⟩) hg2).trans t4; have z5 := (hb6.cell (p := ⟨g2, o2 + k * 7 + 5, none⟩) hg2).trans t5; have z6 := (hb6.cell (p := ⟨g2, o2 + k * 7 + 6, none⟩) hg2).trans t6; clear hb6))
      all_goals
        go_wp2_with fail
        go_roundw
        case rel => exact ⟨k + 1, by omega, by go_num, unhide HBL5⟩
        case measure => simp [intOf]; omega
    · have hke : k = l.length := by omega
      subst hke
      have hnlt : decide ((l.length : Int) < (l.length : Int)) = false := by simp
      go_wp2_with fail
      go_ret
      exact ⟨rfl, unhide HBL⟩
theorem AnswerAt_cells {w : World} {a : Option Addr} {l : List An} (h : GR.At encAn 12 w a l) (i : Nat) (hi : i < l.length) : ∃ g off, a = some ⟨g, off, none⟩ ∧ g < w.heap.size ∧ w.cell? ⟨g, off + i * 12, none⟩ = some (.int .i64 l[i].o.K) ∧ w.cell? ⟨g, off + i * 12 + 1, none⟩ = some (.int .i64 l[i].o.no) ∧ w.cell? ⟨g, off + i * 12 + 2, none⟩ = some (.string l[i].o.k) ∧ w.cell? ⟨g, off + i * 12 + 3, none⟩ = some (.int .i64 l[i].o.n) ∧ w.cell? ⟨g, off + i * 12 + 4, none⟩ = some (.int .i64 l[i].o.m.K) ∧ w.cell? ⟨g, off + i * 12 + 5, none⟩ = some (.int .i64 l[i].o.m.F) ∧ w.cell? ⟨g, off + i * 12 + 6, none⟩ = some (.int .i64 l[i].o.m.T) ∧ w.cell? ⟨g, off + i * 12 + 7, none⟩ = some (.int .i64 l[i].o.m.I) ∧ w.cell? ⟨g, off + i * 12 + 8, none⟩ = some (.int .i64 l[i].o.m.L) ∧ w.cell? ⟨g, off + i * 12 + 9, none⟩ = some (.string l[i].o.m.k) ∧ w.cell? ⟨g, off + i * 12 + 10, none⟩ = some (.int .i64 l[i].o.m.N) ∧ w.cell? ⟨g, off + i * 12 + 11, none⟩ = some (.int .i64 l[i].c) := by
  obtain ⟨g, off, e, hg, hc⟩ := h i hi
  refine ⟨g, off, e, hg, ?_, ?_, ?_, ?_, ?_, ?_, ?_, ?_, ?_, ?_, ?_, ?_⟩
  · simpa using hc 0 (by omega)
  · simpa [Nat.add_assoc] using hc 1 (by omega)
  · simpa [Nat.add_assoc] using hc 2 (by omega)
  · simpa [Nat.add_assoc] using hc 3 (by omega)
  · simpa [Nat.add_assoc] using hc 4 (by omega)
  · simpa [Nat.add_assoc] using hc 5 (by omega)
  · simpa [Nat.add_assoc] using hc 6 (by omega)
  · simpa [Nat.add_assoc] using hc 7 (by omega)
  · simpa [Nat.add_assoc] using hc 8 (by omega)
  · simpa [Nat.add_assoc] using hc 9 (by omega)
  · simpa [Nat.add_assoc] using hc 10 (by omega)
  · simpa [Nat.add_assoc] using hc 11 (by omega)
set_option maxRecDepth 100000 in
set_option maxHeartbeats 4000000 in
theorem eqAnswerSW (a b : Option Addr) (ca cb : Nat) (l : List An) (w : World) (hl : l.length ≤ 1048600) (ha : GR.At encAn 12 w a l) (hb : GR.At encAn 12 w b l) :
    Calls Tryz.prog 84 #[.slice a l.length ca, .slice b l.length cb] w fun e w' => e = .returned (.bool true) ∧ Below w.heap.size w w' := by
  have HA := hide ha
  have HB := hide hb
  clear ha hb
  go_enter Tryz.func84, Tryz.ntmps84
  go_wp2_with fail
  go_loopw [5] (fun i wr => ∃ k : Nat, k ≤ l.length ∧ i = .int .i64 k ∧ Below w.heap.size w wr) (fun i _ => l.length - (intOf i).toNat)
  case atStart => exact ⟨0, Nat.zero_le _, rfl, Below.refl _ _⟩
  case round =>
    obtain ⟨k, hk, rfl, hbel⟩ := hrel
    have HBL := hide hbel
    clear hbel
    by_cases hlt : k < l.length
    · obtain ⟨g1, o1, rfl, hg1, s0, s1, s2, s3, s4, s5, s6, s7, s8, s9, s10, s11⟩ := AnswerAt_cells (GR.At.below (unhide HA) (unhide HBL)) k hlt
      obtain ⟨g2, o2, rfl, hg2, t0, t1, t2, t3, t4, t5, t6, t7, t8, t9, t10, t11⟩ := AnswerAt_cells (GR.At.below (unhide HB) (unhide HBL)) k hlt
      generalize l[k] = pu at *
      have HEQ := hide (fun w1 => eqAnswerW pu w1)
      obtain ⟨⟨oK, ono, ok, on, ⟨mK, mF, mT, mI, mL, mk, mN⟩⟩, ac⟩ := pu
      dsimp only at s0 s1 s2 s3 s4 s5 s6 s7 s8 s9 s10 s11 t0 t1 t2 t3 t4 t5 t6 t7 t8 t9 t10 t11
      go_wp2_with fail
      go_region_held (fun w' => (w'.cell? ⟨g1, o1 + k * 12, none⟩ = some (.int .i64 oK) ∧ w'.cell? ⟨g1, o1 + k * 12 + 1, none⟩ = some (.int .i64 ono) ∧ w'.cell? ⟨g1, o1 + k * 12 + 2, none⟩ = some (.string ok) ∧ w'.cell? ⟨g1, o1 + k * 12 + 3, none⟩ = some (.int .i64 on) ∧ w'.cell? ⟨g1, o1 + k * 12 + 4, none⟩ = some (.int .i64 mK) ∧ w'.cell? ⟨g1, o1 + k * 12 + 5, none⟩ = some (.int .i64 mF) ∧ w'.cell? ⟨g1, o1 + k * 12 + 6, none⟩ = some (.int .i64 mT) ∧ w'.cell? ⟨g1, o1 + k * 12 + 7, none⟩ = some (.int .i64 mI) ∧ w'.cell? ⟨g1, o1 + k * 12 + 8, none⟩ = some (.int .i64 mL) ∧ w'.cell? ⟨g1, o1 + k * 12 + 9, none⟩ = some (.string mk) ∧ w'.cell? ⟨g1, o1 + k * 12 + 10, none⟩ = some (.int .i64 mN) ∧ w'.cell? ⟨g1, o1 + k * 12 + 11, none⟩ = some (.int .i64 ac)) ∧ w'.cell? ⟨g2, o2 + k * 12, none⟩ = some (.int .i64 oK) ∧ w'.cell? ⟨g2, o2 + k * 12 + 1, none⟩ = some (.int .i64 ono) ∧ w'.cell? ⟨g2, o2 + k * 12 + 2, none⟩ = some (.string ok) ∧ w'.cell? ⟨g2, o2 + k * 12 + 3, none⟩ = some (.int .i64 on) ∧ w'.cell? ⟨g2, o2 + k * 12 + 4, none⟩ = some (.int .i64 mK) ∧ w'.cell? ⟨g2, o2 + k * 12 + 5, none⟩ = some (.int .i64 mF) ∧ w'.cell? ⟨g2, o2 + k * 12 + 6, none⟩ = some (.int .i64 mT) ∧ w'.cell? ⟨g2, o2 + k * 12 + 7, none⟩ = some (.int .i64 mI) ∧ w'.cell? ⟨g2, o2 + k * 12 + 8, none⟩ = some (.int .i64 mL) ∧ w'.cell? ⟨g2, o2 + k * 12 + 9, none⟩ = some (.string mk) ∧ w'.cell? ⟨g2, o2 + k * 12 + 10, none⟩ = some (.int .i64 mN) ∧ w'.cell? ⟨g2, o2 + k * 12 + 11, none⟩ = some (.int .i64 ac)) (go_keep)
        (first
          | (go_at_call 85; refine (unhide HEQ _).mono ?_; rintro e w5 ⟨rfl, hb5⟩; have hb6 : Below wr.heap.size wr w5 := ⟨hb5.os, hb5.tape, hb5.output, hb5.size, hb5.block⟩; clear hb5; have HBL5 := hide ((unhide HBL).trans (hb6.mono (unhide HBL).size)); have y0 := (hb6.cell (p := ⟨g1, o1 + k * 12, none⟩) hg1).trans s0; have y1 := (hb6.cell (p := ⟨g1, o1 + k * 12 + 1, none⟩) hg1).trans s1; have y2 := (hb6.cell (p := ⟨g1, o1 + k * 12 + 2, none⟩) hg1).trans s2; have y3 := (hb6.cell (p := ⟨g1, o1 + k * 12 + 3, none⟩) hg1).trans s3; have y4 := (hb6.cell (p := ⟨g1, o1 + k * 12 + 4, none⟩) hg1).trans s4; have y5 := (hb6.cell (p := ⟨g1, o1 + k * 12 + 5, none⟩) hg1).trans s5; have y6 := (hb6.cell (p := ⟨g1, o1 + k * 12 + 6, none⟩) hg1).trans s6; have y7 := (hb6.cell (p := ⟨g1, o1 + k * 12 + 7, none⟩) hg1).trans s7; have y8 := (hb6.cell (p := ⟨g1, o1 + k * 12 + 8, none⟩) hg1).trans s8; have y9 := (hb6.cell (p := ⟨g1, o1 + k * 12 + 9, none⟩) hg1).trans s9; have y10 := (hb6.cell (p := ⟨g1, o1 + k * 12 + 10, none⟩) hg1).trans s10; have y11 := (hb6.cell (p := ⟨g1, o1 + k * 12 + 11, none⟩) hg1).trans s11; have z0 := (hb6.cell (p := ⟨g2, o2 + k * 12, none⟩) hg2).trans t0; have z1 := (hb6.cell (p := ⟨g2, o2 + k * 12 + 1, none⟩) hg2).trans t1; have z2 := (hb6.cell (p := ⟨g2, o2 + k * 12 + 2, none⟩) hg2).trans t2; have z3 := (hb6.cell (p := ⟨g2, o2 + k * 12 + 3, none⟩) hg2).trans t3; have z4 := (hb6.cell (p := ⟨g2, o2 + k * 12 + 4, none⟩) hg2).trans t4; have z5 := (hb6.cell (p := ⟨g2, o2 + k * 12 + 5, none⟩) hg2).trans t5; have z6 := (hb6.cell (p := ⟨g2, o2 + k * 12 + 6, none⟩) hg2).trans t6; have z7 := (hb6.cell (p := ⟨g2, o2 + k * 12 + 7, none⟩) hg2).trans t7; have z8 := (hb6.cell (p := ⟨g2, o2 + k * 12 + 8, none⟩) hg2).trans t8; have z9 := (hb6.cell (p := ⟨g2, o2 + k * 12 + 9, none⟩) hg2).trans t9; have z10 := (hb6.cell (p := ⟨g2, o2 + k * 12 + 10, none⟩) hg2).trans t10; have z11 := (hb6.cell (p := ⟨g2, o2 + k * 12 + 11, none⟩) hg2).trans t11; clear hb6))
      all_goals
        go_wp2_with fail
        go_roundw
        case rel => exact ⟨k + 1, by omega, by go_num, unhide HBL5⟩
        case measure => simp [intOf]; omega
    · have hke : k = l.length := by omega
      subst hke
      have hnlt : decide ((l.length : Int) < (l.length : Int)) = false := by simp
      go_wp2_with fail
      go_ret
      exact ⟨rfl, unhide HBL⟩
theorem ToldAt_cells {w : World} {a : Option Addr} {l : List Td} (h : GR.At encTd 13 w a l) (i : Nat) (hi : i < l.length) : ∃ g off, a = some ⟨g, off, none⟩ ∧ g < w.heap.size ∧ w.cell? ⟨g, off + i * 13, none⟩ = some (.int .i64 l[i].a) ∧ w.cell? ⟨g, off + i * 13 + 1, none⟩ = some (.int .i64 l[i].n.o.K) ∧ w.cell? ⟨g, off + i * 13 + 2, none⟩ = some (.int .i64 l[i].n.o.no) ∧ w.cell? ⟨g, off + i * 13 + 3, none⟩ = some (.string l[i].n.o.k) ∧ w.cell? ⟨g, off + i * 13 + 4, none⟩ = some (.int .i64 l[i].n.o.n) ∧ w.cell? ⟨g, off + i * 13 + 5, none⟩ = some (.int .i64 l[i].n.o.m.K) ∧ w.cell? ⟨g, off + i * 13 + 6, none⟩ = some (.int .i64 l[i].n.o.m.F) ∧ w.cell? ⟨g, off + i * 13 + 7, none⟩ = some (.int .i64 l[i].n.o.m.T) ∧ w.cell? ⟨g, off + i * 13 + 8, none⟩ = some (.int .i64 l[i].n.o.m.I) ∧ w.cell? ⟨g, off + i * 13 + 9, none⟩ = some (.int .i64 l[i].n.o.m.L) ∧ w.cell? ⟨g, off + i * 13 + 10, none⟩ = some (.string l[i].n.o.m.k) ∧ w.cell? ⟨g, off + i * 13 + 11, none⟩ = some (.int .i64 l[i].n.o.m.N) ∧ w.cell? ⟨g, off + i * 13 + 12, none⟩ = some (.int .i64 l[i].n.c) := by
  obtain ⟨g, off, e, hg, hc⟩ := h i hi
  refine ⟨g, off, e, hg, ?_, ?_, ?_, ?_, ?_, ?_, ?_, ?_, ?_, ?_, ?_, ?_, ?_⟩
  · simpa using hc 0 (by omega)
  · simpa [Nat.add_assoc] using hc 1 (by omega)
  · simpa [Nat.add_assoc] using hc 2 (by omega)
  · simpa [Nat.add_assoc] using hc 3 (by omega)
  · simpa [Nat.add_assoc] using hc 4 (by omega)
  · simpa [Nat.add_assoc] using hc 5 (by omega)
  · simpa [Nat.add_assoc] using hc 6 (by omega)
  · simpa [Nat.add_assoc] using hc 7 (by omega)
  · simpa [Nat.add_assoc] using hc 8 (by omega)
  · simpa [Nat.add_assoc] using hc 9 (by omega)
  · simpa [Nat.add_assoc] using hc 10 (by omega)
  · simpa [Nat.add_assoc] using hc 11 (by omega)
  · simpa [Nat.add_assoc] using hc 12 (by omega)
set_option maxRecDepth 100000 in
set_option maxHeartbeats 4000000 in
theorem eqToldSW (a b : Option Addr) (ca cb : Nat) (l : List Td) (w : World) (hl : l.length ≤ 1048600) (ha : GR.At encTd 13 w a l) (hb : GR.At encTd 13 w b l) :
    Calls Tryz.prog 24 #[.slice a l.length ca, .slice b l.length cb] w fun e w' => e = .returned (.bool true) ∧ Below w.heap.size w w' := by
  have HA := hide ha
  have HB := hide hb
  clear ha hb
  go_enter Tryz.func24, Tryz.ntmps24
  go_wp2_with fail
  go_loopw [5] (fun i wr => ∃ k : Nat, k ≤ l.length ∧ i = .int .i64 k ∧ Below w.heap.size w wr) (fun i _ => l.length - (intOf i).toNat)
  case atStart => exact ⟨0, Nat.zero_le _, rfl, Below.refl _ _⟩
  case round =>
    obtain ⟨k, hk, rfl, hbel⟩ := hrel
    have HBL := hide hbel
    clear hbel
    by_cases hlt : k < l.length
    · obtain ⟨g1, o1, rfl, hg1, s0, s1, s2, s3, s4, s5, s6, s7, s8, s9, s10, s11, s12⟩ := ToldAt_cells (GR.At.below (unhide HA) (unhide HBL)) k hlt
      obtain ⟨g2, o2, rfl, hg2, t0, t1, t2, t3, t4, t5, t6, t7, t8, t9, t10, t11, t12⟩ := ToldAt_cells (GR.At.below (unhide HB) (unhide HBL)) k hlt
      generalize l[k] = pu at *
      have HEQ := hide (fun w1 => eqToldW pu w1)
      obtain ⟨ta, ⟨⟨oK, ono, ok, on, ⟨mK, mF, mT, mI, mL, mk, mN⟩⟩, ac⟩⟩ := pu
      dsimp only at s0 s1 s2 s3 s4 s5 s6 s7 s8 s9 s10 s11 s12 t0 t1 t2 t3 t4 t5 t6 t7 t8 t9 t10 t11 t12
      go_wp2_with fail
      go_region_held (fun w' => (w'.cell? ⟨g1, o1 + k * 13, none⟩ = some (.int .i64 ta) ∧ w'.cell? ⟨g1, o1 + k * 13 + 1, none⟩ = some (.int .i64 oK) ∧ w'.cell? ⟨g1, o1 + k * 13 + 2, none⟩ = some (.int .i64 ono) ∧ w'.cell? ⟨g1, o1 + k * 13 + 3, none⟩ = some (.string ok) ∧ w'.cell? ⟨g1, o1 + k * 13 + 4, none⟩ = some (.int .i64 on) ∧ w'.cell? ⟨g1, o1 + k * 13 + 5, none⟩ = some (.int .i64 mK) ∧ w'.cell? ⟨g1, o1 + k * 13 + 6, none⟩ = some (.int .i64 mF) ∧ w'.cell? ⟨g1, o1 + k * 13 + 7, none⟩ = some (.int .i64 mT) ∧ w'.cell? ⟨g1, o1 + k * 13 + 8, none⟩ = some (.int .i64 mI) ∧ w'.cell? ⟨g1, o1 + k * 13 + 9, none⟩ = some (.int .i64 mL) ∧ w'.cell? ⟨g1, o1 + k * 13 + 10, none⟩ = some (.string mk) ∧ w'.cell? ⟨g1, o1 + k * 13 + 11, none⟩ = some (.int .i64 mN) ∧ w'.cell? ⟨g1, o1 + k * 13 + 12, none⟩ = some (.int .i64 ac)) ∧ w'.cell? ⟨g2, o2 + k * 13, none⟩ = some (.int .i64 ta) ∧ w'.cell? ⟨g2, o2 + k * 13 + 1, none⟩ = some (.int .i64 oK) ∧ w'.cell? ⟨g2, o2 + k * 13 + 2, none⟩ = some (.int .i64 ono) ∧ w'.cell? ⟨g2, o2 + k * 13 + 3, none⟩ = some (.string ok) ∧ w'.cell? ⟨g2, o2 + k * 13 + 4, none⟩ = some (.int .i64 on) ∧ w'.cell? ⟨g2, o2 + k * 13 + 5, none⟩ = some (.int .i64 mK) ∧ w'.cell? ⟨g2, o2 + k * 13 + 6, none⟩ = some (.int .i64 mF) ∧ w'.cell? ⟨g2, o2 + k * 13 + 7, none⟩ = some (.int .i64 mT) ∧ w'.cell? ⟨g2, o2 + k * 13 + 8, none⟩ = some (.int .i64 mI) ∧ w'.cell? ⟨g2, o2 + k * 13 + 9, none⟩ = some (.int .i64 mL) ∧ w'.cell? ⟨g2, o2 + k * 13 + 10, none⟩ = some (.string mk) ∧ w'.cell? ⟨g2, o2 + k * 13 + 11, none⟩ = some (.int .i64 mN) ∧ w'.cell? ⟨g2, o2 + k * 13 + 12, none⟩ = some (.int .i64 ac)) (go_keep)
        (first
          | (go_at_call 49; refine (unhide HEQ _).mono ?_; rintro e w5 ⟨rfl, hb5⟩; have hb6 : Below wr.heap.size wr w5 := ⟨hb5.os, hb5.tape, hb5.output, hb5.size, hb5.block⟩; clear hb5; have HBL5 := hide ((unhide HBL).trans (hb6.mono (unhide HBL).size)); have y0 := (hb6.cell (p := ⟨g1, o1 + k * 13, none⟩) hg1).trans s0; have y1 := (hb6.cell (p := ⟨g1, o1 + k * 13 + 1, none⟩) hg1).trans s1; have y2 := (hb6.cell (p := ⟨g1, o1 + k * 13 + 2, none⟩) hg1).trans s2; have y3 := (hb6.cell (p := ⟨g1, o1 + k * 13 + 3, none⟩) hg1).trans s3; have y4 := (hb6.cell (p := ⟨g1, o1 + k * 13 + 4, none⟩) hg1).trans s4; have y5 := (hb6.cell (p := ⟨g1, o1 + k * 13 + 5, none⟩) hg1).trans s5; have y6 := (hb6.cell (p := ⟨g1, o1 + k * 13 + 6, none⟩) hg1).trans s6; have y7 := (hb6.cell (p := ⟨g1, o1 + k * 13 + 7, none⟩) hg1).trans s7; have y8 := (hb6.cell (p := ⟨g1, o1 + k * 13 + 8, none⟩) hg1).trans s8; have y9 := (hb6.cell (p := ⟨g1, o1 + k * 13 + 9, none⟩) hg1).trans s9; have y10 := (hb6.cell (p := ⟨g1, o1 + k * 13 + 10, none⟩) hg1).trans s10; have y11 := (hb6.cell (p := ⟨g1, o1 + k * 13 + 11, none⟩) hg1).trans s11; have y12 := (hb6.cell (p := ⟨g1, o1 + k * 13 + 12, none⟩) hg1).trans s12; have z0 := (hb6.cell (p := ⟨g2, o2 + k * 13, none⟩) hg2).trans t0; have z1 := (hb6.cell (p := ⟨g2, o2 + k * 13 + 1, none⟩) hg2).trans t1; have z2 := (hb6.cell (p := ⟨g2, o2 + k * 13 + 2, none⟩) hg2).trans t2; have z3 := (hb6.cell (p := ⟨g2, o2 + k * 13 + 3, none⟩) hg2).trans t3; have z4 := (hb6.cell (p := ⟨g2, o2 + k * 13 + 4, none⟩) hg2).trans t4; have z5 := (hb6.cell (p := ⟨g2, o2 + k * 13 + 5, none⟩) hg2).trans t5; have z6 := (hb6.cell (p := ⟨g2, o2 + k * 13 + 6, none⟩) hg2).trans t6; have z7 := (hb6.cell (p := ⟨g2, o2 + k * 13 + 7, none⟩) hg2).trans t7; have z8 := (hb6.cell (p := ⟨g2, o2 + k * 13 + 8, none⟩) hg2).trans t8; have z9 := (hb6.cell (p := ⟨g2, o2 + k * 13 + 9, none⟩) hg2).trans t9; have z10 := (hb6.cell (p := ⟨g2, o2 + k * 13 + 10, none⟩) hg2).trans t10; have z11 := (hb6.cell (p := ⟨g2, o2 + k * 13 + 11, none⟩) hg2).trans t11; have z12 := (hb6.cell (p := ⟨g2, o2 + k * 13 + 12, none⟩) hg2).trans t12; clear hb6))
      all_goals
        go_wp2_with fail
        go_roundw
        case rel => exact ⟨k + 1, by omega, by go_num, unhide HBL5⟩
        case measure => simp [intOf]; omega
    · have hke : k = l.length := by omega
      subst hke
      have hnlt : decide ((l.length : Int) < (l.length : Int)) = false := by simp
      go_wp2_with fail
      go_ret
      exact ⟨rfl, unhide HBL⟩
theorem GivenAt_cells {w : World} {a : Option Addr} {l : List Gv} (h : GR.At encGv 2 w a l) (i : Nat) (hi : i < l.length) : ∃ g off, a = some ⟨g, off, none⟩ ∧ g < w.heap.size ∧ w.cell? ⟨g, off + i * 2, none⟩ = some (.int .i64 l[i].a) ∧ w.cell? ⟨g, off + i * 2 + 1, none⟩ = some (.int .i64 l[i].no) := by
  obtain ⟨g, off, e, hg, hc⟩ := h i hi
  refine ⟨g, off, e, hg, ?_, ?_⟩
  · simpa using hc 0 (by omega)
  · simpa [Nat.add_assoc] using hc 1 (by omega)
set_option maxRecDepth 100000 in
set_option maxHeartbeats 4000000 in
theorem eqGivenSW (a b : Option Addr) (ca cb : Nat) (l : List Gv) (w : World) (hl : l.length ≤ 1048600) (ha : GR.At encGv 2 w a l) (hb : GR.At encGv 2 w b l) :
    Calls Tryz.prog 25 #[.slice a l.length ca, .slice b l.length cb] w fun e w' => e = .returned (.bool true) ∧ Below w.heap.size w w' := by
  have HA := hide ha
  have HB := hide hb
  clear ha hb
  go_enter Tryz.func25, Tryz.ntmps25
  go_wp2_with fail
  go_loopw [5] (fun i wr => ∃ k : Nat, k ≤ l.length ∧ i = .int .i64 k ∧ Below w.heap.size w wr) (fun i _ => l.length - (intOf i).toNat)
  case atStart => exact ⟨0, Nat.zero_le _, rfl, Below.refl _ _⟩
  case round =>
    obtain ⟨k, hk, rfl, hbel⟩ := hrel
    have HBL := hide hbel
    clear hbel
    by_cases hlt : k < l.length
    · obtain ⟨g1, o1, rfl, hg1, s0, s1⟩ := GivenAt_cells (GR.At.below (unhide HA) (unhide HBL)) k hlt
      obtain ⟨g2, o2, rfl, hg2, t0, t1⟩ := GivenAt_cells (GR.At.below (unhide HB) (unhide HBL)) k hlt
      generalize l[k] = pu at *
      have HEQ := hide (fun w1 => eqGivenW pu w1)
      obtain ⟨ga, gn⟩ := pu
      dsimp only at s0 s1 t0 t1
      go_wp2_with fail
      go_region_held (fun w' => (w'.cell? ⟨g1, o1 + k * 2, none⟩ = some (.int .i64 ga) ∧ w'.cell? ⟨g1, o1 + k * 2 + 1, none⟩ = some (.int .i64 gn)) ∧ w'.cell? ⟨g2, o2 + k * 2, none⟩ = some (.int .i64 ga) ∧ w'.cell? ⟨g2, o2 + k * 2 + 1, none⟩ = some (.int .i64 gn)) (go_keep)
        (first
          | (go_at_call 50; refine (unhide HEQ _).mono ?_; rintro e w5 ⟨rfl, hb5⟩; have hb6 : Below wr.heap.size wr w5 := ⟨hb5.os, hb5.tape, hb5.output, hb5.size, hb5.block⟩; clear hb5; have HBL5 := hide ((unhide HBL).trans (hb6.mono (unhide HBL).size)); have y0 := (hb6.cell (p := ⟨g1, o1 + k * 2, none⟩) hg1).trans s0; have y1 := (hb6.cell (p := ⟨g1, o1 + k * 2 + 1, none⟩) hg1).trans s1; have z0 := (hb6.cell (p := ⟨g2, o2 + k * 2, none⟩) hg2).trans t0; have z1 := (hb6.cell (p := ⟨g2, o2 + k * 2 + 1, none⟩) hg2).trans t1; clear hb6))
      all_goals
        go_wp2_with fail
        go_roundw
        case rel => exact ⟨k + 1, by omega, by go_num, unhide HBL5⟩
        case measure => simp [intOf]; omega
    · have hke : k = l.length := by omega
      subst hke
      have hnlt : decide ((l.length : Int) < (l.length : Int)) = false := by simp
      go_wp2_with fail
      go_ret
      exact ⟨rfl, unhide HBL⟩

end Go.Proofs.YtbanjohfcnadfaaGreatDoor
