/- Parts. -/
import Derived.Test.YtcfcngbfnflbgaaGreatDoorPk31
import Derived.Test.YtcfcngbfnflbgaaGreatDoorPk12
import Derived.Test.YtcfcngbfnflbgaaGreatDoorPk30
import Derived.Deep.RegionHeld
namespace Go.Proofs.YtcfcngbfnflbgaaGreatDoor
open Go.RowKit
open Mth

theorem MsgAt_cells {w : World} {a : Option Addr} {l : List Mg} (h : GR.At encMg 7 w a l) (i : Nat) (hi : i < l.length) : ∃ g off, a = some ⟨g, off, none⟩ ∧ g < w.heap.size ∧ w.cell? ⟨g, off + i * 7, none⟩ = some (.int .i64 l[i].K) ∧ w.cell? ⟨g, off + i * 7 + 1, none⟩ = some (.int .i64 l[i].F) ∧ w.cell? ⟨g, off + i * 7 + 2, none⟩ = some (.int .i64 l[i].T) ∧ w.cell? ⟨g, off + i * 7 + 3, none⟩ = some (.int .i64 l[i].I) ∧ w.cell? ⟨g, off + i * 7 + 4, none⟩ = some (.int .i64 l[i].L) ∧ w.cell? ⟨g, off + i * 7 + 5, none⟩ = some (.string l[i].k) ∧ w.cell? ⟨g, off + i * 7 + 6, none⟩ = some (.int .i64 l[i].N) := by
  obtain ⟨g, off, e, hg, hc⟩ := h i hi
  refine ⟨g, off, e, hg, ?_, ?_, ?_, ?_, ?_, ?_, ?_⟩
  · simpa using hc 0 (by omega)
  · simpa [Nat.add_assoc] using hc 1 (by omega)
  · simpa [Nat.add_assoc] using hc 2 (by omega)
  · simpa [Nat.add_assoc] using hc 3 (by omega)
  · simpa [Nat.add_assoc] using hc 4 (by omega)
  · simpa [Nat.add_assoc] using hc 5 (by omega)
  · simpa [Nat.add_assoc] using hc 6 (by omega)
set_option maxRecDepth 100000 in
set_option maxHeartbeats 4000000 in
theorem eqMsgSW (a b : Option Addr) (ca cb : Nat) (l : List Mg) (w : World) (hl : l.length ≤ 1048600) (ha : GR.At encMg 7 w a l) (hb : GR.At encMg 7 w b l) :
    Calls Tryz.prog 28 #[.slice a l.length ca, .slice b l.length cb] w fun e w' => e = .returned (.bool true) ∧ Below w.heap.size w w' := by
  have HA := hide ha
  have HB := hide hb
  clear ha hb
  go_enter Tryz.func28, Tryz.ntmps28
  go_wp2_with fail
  go_loopw [5] (fun i wr => ∃ k : Nat, k ≤ l.length ∧ i = .int .i64 k ∧ Below w.heap.size w wr) (fun i _ => l.length - (intOf i).toNat)
  case atStart => exact ⟨0, Nat.zero_le _, rfl, Below.refl _ _⟩
  case round =>
    obtain ⟨k, hk, rfl, hbel⟩ := hrel
    have HBL := hide hbel
    clear hbel
    by_cases hlt : k < l.length
    · obtain ⟨g1, o1, rfl, hg1, s0, s1, s2, s3, s4, s5, s6⟩ := MsgAt_cells (GR.At.below (unhide HA) (unhide HBL)) k hlt
      obtain ⟨g2, o2, rfl, hg2, t0, t1, t2, t3, t4, t5, t6⟩ := MsgAt_cells (GR.At.below (unhide HB) (unhide HBL)) k hlt
      generalize l[k] = pu at *
      have HEQ := hide (fun w1 => eqMsgW pu w1)
      obtain ⟨mK, mF, mT, mI, mL, mk, mN⟩ := pu
      dsimp only at s0 s1 s2 s3 s4 s5 s6 t0 t1 t2 t3 t4 t5 t6
      go_wp2_with fail
      go_region_held (fun w' => (w'.cell? ⟨g1, o1 + k * 7, none⟩ = some (.int .i64 mK) ∧ w'.cell? ⟨g1, o1 + k * 7 + 1, none⟩ = some (.int .i64 mF) ∧ w'.cell? ⟨g1, o1 + k * 7 + 2, none⟩ = some (.int .i64 mT) ∧ w'.cell? ⟨g1, o1 + k * 7 + 3, none⟩ = some (.int .i64 mI) ∧ w'.cell? ⟨g1, o1 + k * 7 + 4, none⟩ = some (.int .i64 mL) ∧ w'.cell? ⟨g1, o1 + k * 7 + 5, none⟩ = some (.string mk) ∧ w'.cell? ⟨g1, o1 + k * 7 + 6, none⟩ = some (.int .i64 mN)) ∧ w'.cell? ⟨g2, o2 + k * 7, none⟩ = some (.int .i64 mK) ∧ w'.cell? ⟨g2, o2 + k * 7 + 1, none⟩ = some (.int .i64 mF) ∧ w'.cell? ⟨g2, o2 + k * 7 + 2, none⟩ = some (.int .i64 mT) ∧ w'.cell? ⟨g2, o2 + k * 7 + 3, none⟩ = some (.int .i64 mI) ∧ w'.cell? ⟨g2, o2 + k * 7 + 4, none⟩ = some (.int .i64 mL) ∧ w'.cell? ⟨g2, o2 + k * 7 + 5, none⟩ = some (.string mk) ∧ w'.cell? ⟨g2, o2 + k * 7 + 6, none⟩ = some (.int .i64 mN)) (go_keep)
        (first
          | (go_at_call 69; refine (unhide HEQ _).mono ?_; rintro e w5 ⟨rfl, hb5⟩; have hb6 : Below wr.heap.size wr w5 := ⟨hb5.os, hb5.tape, hb5.output, hb5.size, hb5.block⟩; clear hb5; have HBL5 := hide ((unhide HBL).trans (hb6.mono (unhide HBL).size)); have y0 := (hb6.cell (p := ⟨g1, o1 + k * 7, none⟩) hg1).trans s0; have y1 := (hb6.cell (p := ⟨g1, o1 + k * 7 + 1, none⟩) hg1).trans s1; have y2 := (hb6.cell (p := ⟨g1, o1 + k * 7 + 2, none⟩) hg1).trans s2; have y3 := (hb6.cell (p := ⟨g1, o1 + k * 7 + 3, none⟩) hg1).trans s3; have y4 := (hb6.cell (p := ⟨g1, o1 + k * 7 + 4, none⟩) hg1).trans s4; have y5 := (hb6.cell (p := ⟨g1, o1 + k * 7 + 5, none⟩) hg1).trans s5; have y6 := (hb6.cell (p := ⟨g1, o1 + k * 7 + 6, none⟩) hg1).trans s6; have z0 := (hb6.cell (p := ⟨g2, o2 + k * 7, none⟩) hg2).trans t0; have z1 := (hb6.cell (p := ⟨g2, o2 + k * 7 + 1, none⟩) hg2).trans t1; have z2 := (hb6.cell (p := ⟨g2, o2 + k * 7 + 2, none⟩) hg2).trans t2; have z3 := (hb6.cell (p := ⟨g2, o2 + k * 7 + 3, none⟩) hg2).trans t3; have z4 := (hb6.cell (p := ⟨g2, o2 + k * 7 + 4, none⟩) hg2).trans t4; have z5 := (hb6.cell (p := ⟨g2, o2 + k * 7 + 5, none⟩) hg2).trans t5; have z6 := (hb6.cell (p := ⟨g2, o2 + k * 7 + 6, none⟩) hg2).trans t6; clear hb6))
      all_goals
        go_wp2_with fail
        go_roundw
        case rel => exact ⟨k + 1, by omega, by go_num, unhide HBL5⟩
        case measure => simp [intOf]; omega
    · have hke : k = l.length := by omega
      subst hke
      have hnlt : decide ((l.length : Int) < (l.length : Int)) = false := by simp
      go_wp2_with fail
      go_ret
      exact ⟨rfl, unhide HBL⟩
theorem AnswerAt_cells {w : World} {a : Option Addr} {l : List An} (h : GR.At encAn 12 w a l) (i : Nat) (hi : i < l.length) : ∃ g off, a = some ⟨g, off, none⟩ ∧ g < w.heap.size ∧ w.cell? ⟨g, off + i * 12, none⟩ = some (.int .i64 l[i].o.K) ∧ w.cell? ⟨g, off + i * 12 + 1, none⟩ = some (.int .i64 l[i].o.no) ∧ w.cell? ⟨g, off + i * 12 + 2, none⟩ = some (.string l[i].o.k) ∧ w.cell? ⟨g, off + i * 12 + 3, none⟩ = some (.int .i64 l[i].o.n) ∧ w.cell? ⟨g, off + i * 12 + 4, none⟩ = some (.int .i64 l[i].o.m.K) ∧ w.cell? ⟨g, off + i * 12 + 5, none⟩ = some (.int .i64 l[i].o.m.F) ∧ w.cell? ⟨g, off + i * 12 + 6, none⟩ = some (.int .i64 l[i].o.m.T) ∧ w.cell? ⟨g, off + i * 12 + 7, none⟩ = some (.int .i64 l[i].o.m.I) ∧ w.cell? ⟨g, off + i * 12 + 8, none⟩ = some (.int .i64 l[i].o.m.L) ∧ w.cell? ⟨g, off + i * 12 + 9, none⟩ = some (.string l[i].o.m.k) ∧ w.cell? ⟨g, off + i * 12 + 10, none⟩ = some (.int .i64 l[i].o.m.N) ∧ w.cell? ⟨g, off + i * 12 + 11, none⟩ = some (.int .i64 l[i].c) := by
  obtain ⟨g, off, e, hg, hc⟩ := h i hi
  refine ⟨g, off, e, hg, ?_, ?_, ?_, ?_, ?_, ?_, ?_, ?_, ?_, ?_, ?_, ?_⟩
  · simpa using hc 0 (by omega)
  · simpa [Nat.add_assoc] using hc 1 (by omega)
  · simpa [Nat.add_assoc] using hc 2 (by omega)
  · simpa [Nat.add_assoc] using hc 3 (by omega)
  · simpa [Nat.add_assoc] using hc 4 (by omega)
  · simpa [Nat.add_assoc] using hc 5 (by omega)
  · simpa [Nat.add_assoc] using hc 6 (by omega)
  · simpa [Nat.add_assoc] using hc 7 (by omega)
  · simpa [Nat.add_assoc] using hc 8 (by omega)
  · simpa [Nat.add_assoc] using hc 9 (by omega)
  · simpa [Nat.add_assoc] using hc 10 (by omega)
  · simpa [Nat.add_assoc] using hc 11 (by omega)
set_option maxRecDepth 100000 in
set_option maxHeartbeats 4000000 in
theorem eqAnswerSW (a b : Option Addr) (ca cb : Nat) (l : List An) (w : World) (hl : l.length ≤ 1048600) (ha : GR.At encAn 12 w a l) (hb : GR.At encAn 12 w b l) :
    Calls Tryz.prog 29 #[.slice a l.length ca, .slice b l.length cb] w fun e w' => e = .returned (.bool true) ∧ Below w.heap.size w w' := by
  have HA := hide ha
  have HB := hide hb
  clear ha hb
  go_enter Tryz.func29, Tryz.ntmps29
  go_wp2_with fail
  go_loopw [5] (fun i wr => ∃ k : Nat, k ≤ l.length ∧ i = .int .i64 k ∧ Below w.heap.size w wr) (fun i _ => l.length - (intOf i).toNat)
  case atStart => exact ⟨0, Nat.zero_le _, rfl, Below.refl _ _⟩
  case round =>
    obtain ⟨k, hk, rfl, hbel⟩ := hrel
    have HBL := hide hbel
    clear hbel
    by_cases hlt : k < l.length
    · obtain ⟨g1, o1, rfl, hg1, s0, s1, s2, s3, s4, s5, s6, s7, s8, s9, s10, s11⟩ := AnswerAt_cells (GR.At.below (unhide HA) (unhide HBL)) k hlt
      obtain ⟨g2, o2, rfl, hg2, t0, t1, t2, t3, t4, t5, t6, t7, t8, t9, t10, t11⟩ := AnswerAt_cells (GR.At.below (unhide HB) (unhide HBL)) k hlt
      generalize l[k] = pu at *
      have HEQ := hide (fun w1 => eqAnswerW pu w1)
      obtain ⟨⟨oK, ono, ok, on, ⟨mK, mF, mT, mI, mL, mk, mN⟩⟩, ac⟩ := pu
      dsimp only at s0 s1 s2 s3 s4 s5 s6 s7 s8 s9 s10 s11 t0 t1 t2 t3 t4 t5 t6 t7 t8 t9 t10 t11
      go_wp2_with fail
      go_region_held (fun w' => (w'.cell? ⟨g1, o1 + k * 12, none⟩ = some (.int .i64 oK) ∧ w'.cell? ⟨g1, o1 + k * 12 + 1, none⟩ = some (.int .i64 ono) ∧ w'.cell? ⟨g1, o1 + k * 12 + 2, none⟩ = some (.string ok) ∧ w'.cell? ⟨g1, o1 + k * 12 + 3, none⟩ = some (.int .i64 on) ∧ w'.cell? ⟨g1, o1 + k * 12 + 4, none⟩ = some (.int .i64 mK) ∧ w'.cell? ⟨g1, o1 + k * 12 + 5, none⟩ = some (.int .i64 mF) ∧ w'.cell? ⟨g1, o1 + k * 12 + 6, none⟩ = some (.int .i64 mT) ∧ w'.cell? ⟨g1, o1 + k * 12 + 7, none⟩ = some (.int .i64 mI) ∧ w'.cell? ⟨g1, o1 + k * 12 + 8, none⟩ = some (.int .i64 mL) ∧ w'.cell? ⟨g1, o1 + k * 12 + 9, none⟩ = some (.string mk) ∧ w'.cell? ⟨g1, o1 + k * 12 + 10, none⟩ = some (.int .i64 mN) ∧ w'.cell? ⟨g1, o1 + k * 12 + 11, none⟩ = some (.int .i64 ac)) ∧ w'.cell? ⟨g2, o2 + k * 12, none⟩ = some (.int .i64 oK) ∧ w'.cell? ⟨g2, o2 + k * 12 + 1, none⟩ = some (.int .i64 ono) ∧ w'.cell? ⟨g2, o2 + k * 12 + 2, none⟩ = some (.string ok) ∧ w'.cell? ⟨g2, o2 + k * 12 + 3, none⟩ = some (.int .i64 on) ∧ w'.cell? ⟨g2, o2 + k * 12 + 4, none⟩ = some (.int .i64 mK) ∧ w'.cell? ⟨g2, o2 + k * 12 + 5, none⟩ = some (.int .i64 mF) ∧ w'.cell? ⟨g2, o2 + k * 12 + 6, none⟩ = some (.int .i64 mT) ∧ w'.cell? ⟨g2, o2 + k * 12 + 7, none⟩ = some (.int .i64 mI) ∧ w'.cell? ⟨g2, o2 + k * 12 + 8, none⟩ = some (.int .i64 mL) ∧ w'.cell? ⟨g2, o2 + k * 12 + 9, none⟩ = some (.string mk) ∧ w'.cell? ⟨g2, o2 + k * 12 + 10, none⟩ = some (.int .i64 mN) ∧ w'.cell? ⟨g2, o2 + k * 12 + 11, none⟩ = some (.int .i64 ac)) (go_keep)
        (first
          | (go_at_call 70; refine (unhide HEQ _).mono ?_; rintro e w5 ⟨rfl, hb5⟩; have hb6 : Below wr.heap.size wr w5 := ⟨hb5.os, hb5.tape, hb5.output, hb5.size, hb5.block⟩; clear hb5; have HBL5 := hide ((unhide HBL).trans (hb6.mono (unhide HBL).size)); have y0 := (hb6.cell (p := ⟨g1, o1 + k * 12, none⟩) hg1).trans s0; have y1 := (hb6.cell (p := ⟨g1, o1 + k * 12 + 1, none⟩) hg1).trans s1; have y2 := (hb6.cell (p := ⟨g1, o1 + k * 12 + 2, none⟩) hg1).trans s2; have y3 := (hb6.cell (p := ⟨g1, o1 + k * 12 + 3, none⟩) hg1).trans s3; have y4 := (hb6.cell (p := ⟨g1, o1 + k * 12 + 4, none⟩) hg1).trans s4; have y5 := (hb6.cell (p := ⟨g1, o1 + k * 12 + 5, none⟩) hg1).trans s5; have y6 := (hb6.cell (p := ⟨g1, o1 + k * 12 + 6, none⟩) hg1).trans s6; have y7 := (hb6.cell (p := ⟨g1, o1 + k * 12 + 7, none⟩) hg1).trans s7; have y8 := (hb6.cell (p := ⟨g1, o1 + k * 12 + 8, none⟩) hg1).trans s8; have y9 := (hb6.cell (p := ⟨g1, o1 + k * 12 + 9, none⟩) hg1).trans s9; have y10 := (hb6.cell (p := ⟨g1, o1 + k * 12 + 10, none⟩) hg1).trans s10; have y11 := (hb6.cell (p := ⟨g1, o1 + k * 12 + 11, none⟩) hg1).trans s11; have z0 := (hb6.cell (p := ⟨g2, o2 + k * 12, none⟩) hg2).trans t0; have z1 := (hb6.cell (p := ⟨g2, o2 + k * 12 + 1, none⟩) hg2).trans t1; have z2 := (hb6.cell (p := ⟨g2, o2 + k * 12 + 2, none⟩) hg2).trans t2; have z3 := (hb6.cell (p := ⟨g2, o2 + k * 12 + 3, none⟩) hg2).trans t3; have z4 := (hb6.cell (p := ⟨g2, o2 + k * 12 + 4, none⟩) hg2).trans t4; have z5 := (hb6.cell (p := ⟨g2, o2 + k * 12 + 5, none⟩) hg2).trans t5; have z6 := (hb6.cell (p := ⟨g2, o2 + k * 12 + 6, none⟩) hg2).trans t6; have z7 := (hb6.cell (p := ⟨g2, o2 + k * 12 + 7, none⟩) hg2).trans t7; have z8 := (hb6.cell (p := ⟨g2, o2 + k * 12 + 8, none⟩) hg2).trans t8; have z9 := (hb6.cell (p := ⟨g2, o2 + k * 12 + 9, none⟩) hg2).trans t9; have z10 := (hb6.cell (p := ⟨g2, o2 + k * 12 + 10, none⟩) hg2).trans t10; have z11 := (hb6.cell (p := ⟨g2, o2 + k * 12 + 11, none⟩) hg2).trans t11; clear hb6))
      all_goals
        go_wp2_with fail
        go_roundw
        case rel => exact ⟨k + 1, by omega, by go_num, unhide HBL5⟩
        case measure => simp [intOf]; omega
    · have hke : k = l.length := by omega
      subst hke
      have hnlt : decide ((l.length : Int) < (l.length : Int)) = false := by simp
      go_wp2_with fail
      go_ret
      exact ⟨rfl, unhide HBL⟩


structure Kp where
  base : Nd
  node : Nd
  log : ByteArray
  safe : Int
  wait : List Mg
  asked : List An
structure KA where
  b : Ads
  n : Ads
  wa : Option Addr
  wc : Nat
  aa : Option Addr
  ac : Nat
abbrev kpv (k : Kp) (A : KA) : Value := .agg #[.int .i64 k.base.id, .int .i64 k.base.par, .slice A.b.k k.base.kids.length A.b.ck, .int .i64 k.base.next, .slice A.b.p k.base.pu.length A.b.cp, .slice A.b.o k.base.out.length A.b.co, .slice A.b.s k.base.seen.length A.b.cs, .int .i64 k.base.old, .slice A.b.r k.base.reqs.length A.b.cr, .int .i64 k.node.id, .int .i64 k.node.par, .slice A.n.k k.node.kids.length A.n.ck, .int .i64 k.node.next, .slice A.n.p k.node.pu.length A.n.cp, .slice A.n.o k.node.out.length A.n.co, .slice A.n.s k.node.seen.length A.n.cs, .int .i64 k.node.old, .slice A.n.r k.node.reqs.length A.n.cr, .string k.log, .int .i64 k.safe, .slice A.wa k.wait.length A.wc, .slice A.aa k.asked.length A.ac]
structure KpAt (w : World) (A : KA) (k : Kp) : Prop where
  kb : NodeAt w A.b k.base
  kn : NodeAt w A.n k.node
  kw : GR.At encMg 7 w A.wa k.wait
  ka : GR.At encAn 12 w A.aa k.asked
theorem KpAt.below {w w' : World} {A : KA} {k : Kp} (h : KpAt w A k) (hb : Below w.heap.size w w') : KpAt w' A k := ⟨h.kb.below hb, h.kn.below hb, GR.At.below h.kw hb, GR.At.below h.ka hb⟩
structure KpSz (k : Kp) (z : Nat) : Prop where
  b : NdSz k.base z
  n : NdSz k.node z
  l : k.log.size ≤ z
  w : k.wait.length ≤ z
  a : k.asked.length ≤ z
  wk : ∀ p ∈ k.wait, p.k.size ≤ z
  ak : ∀ p ∈ k.asked, p.o.k.size ≤ z ∧ p.o.m.k.size ≤ z
theorem at22 {w : World} {g : Nat} {v0 v1 v2 v3 v4 v5 v6 v7 v8 v9 v10 v11 v12 v13 v14 v15 v16 v17 v18 v19 v20 v21 : Value} {t : TypeId} (h : w.heap[g]? = some (.cells #[v0, v1, v2, v3, v4, v5, v6, v7, v8, v9, v10, v11, v12, v13, v14, v15, v16, v17, v18, v19, v20, v21] t (0, 0))) : w.cell? ⟨g, 0, none⟩ = some v0 ∧ w.cell? ⟨g, 1, none⟩ = some v1 ∧ w.cell? ⟨g, 2, none⟩ = some v2 ∧ w.cell? ⟨g, 3, none⟩ = some v3 ∧ w.cell? ⟨g, 4, none⟩ = some v4 ∧ w.cell? ⟨g, 5, none⟩ = some v5 ∧ w.cell? ⟨g, 6, none⟩ = some v6 ∧ w.cell? ⟨g, 7, none⟩ = some v7 ∧ w.cell? ⟨g, 8, none⟩ = some v8 ∧ w.cell? ⟨g, 9, none⟩ = some v9 ∧ w.cell? ⟨g, 10, none⟩ = some v10 ∧ w.cell? ⟨g, 11, none⟩ = some v11 ∧ w.cell? ⟨g, 12, none⟩ = some v12 ∧ w.cell? ⟨g, 13, none⟩ = some v13 ∧ w.cell? ⟨g, 14, none⟩ = some v14 ∧ w.cell? ⟨g, 15, none⟩ = some v15 ∧ w.cell? ⟨g, 16, none⟩ = some v16 ∧ w.cell? ⟨g, 17, none⟩ = some v17 ∧ w.cell? ⟨g, 18, none⟩ = some v18 ∧ w.cell? ⟨g, 19, none⟩ = some v19 ∧ w.cell? ⟨g, 20, none⟩ = some v20 ∧ w.cell? ⟨g, 21, none⟩ = some v21 := by
  have hc : ∀ i, w.cell? ⟨g, i, none⟩ = #[v0, v1, v2, v3, v4, v5, v6, v7, v8, v9, v10, v11, v12, v13, v14, v15, v16, v17, v18, v19, v20, v21][i]? := fun i => cell_of_row w g i _ t (0, 0) h
  exact ⟨hc 0, hc 1, hc 2, hc 3, hc 4, hc 5, hc 6, hc 7, hc 8, hc 9, hc 10, hc 11, hc 12, hc 13, hc 14, hc 15, hc 16, hc 17, hc 18, hc 19, hc 20, hc 21⟩
set_option maxRecDepth 100000 in
set_option maxHeartbeats 4000000 in
theorem eqKeeper (k : Kp) (A B : KA) (w : World) (hz : KpSz k 1048576) (ha : KpAt w A k) (hb : KpAt w B k) :
    Calls Tryz.prog 8 #[kpv k A, kpv k B] w fun e w' => e = .returned (.bool true) ∧ Below w.heap.size w w' := by
  have H1 := hide (fun w1 (h : Below w.heap.size w w1) => eqNode k.base A.b B.b w1 (hz.b.mono (by omega)) (ha.below h).kb (hb.below h).kb)
  have H2 := hide (fun w1 (h : Below w.heap.size w w1) => eqNode k.node A.n B.n w1 (hz.n.mono (by omega)) (ha.below h).kn (hb.below h).kn)
  have H3 := hide (fun w1 (h : Below w.heap.size w w1) => eqMsgSW A.wa B.wa A.wc B.wc k.wait w1 (by have := hz.w; omega) (ha.below h).kw (hb.below h).kw)
  have H4 := hide (fun w1 (h : Below w.heap.size w w1) => eqAnswerSW A.aa B.aa A.ac B.ac k.asked w1 (by have := hz.a; omega) (ha.below h).ka (hb.below h).ka)
  have hS : (w.alloc (.cells #[.int .i64 k.base.id, .int .i64 k.base.par, .slice A.b.k k.base.kids.length A.b.ck, .int .i64 k.base.next, .slice A.b.p k.base.pu.length A.b.cp, .slice A.b.o k.base.out.length A.b.co, .slice A.b.s k.base.seen.length A.b.cs, .int .i64 k.base.old, .slice A.b.r k.base.reqs.length A.b.cr, .int .i64 k.node.id, .int .i64 k.node.par, .slice A.n.k k.node.kids.length A.n.ck, .int .i64 k.node.next, .slice A.n.p k.node.pu.length A.n.cp, .slice A.n.o k.node.out.length A.n.co, .slice A.n.s k.node.seen.length A.n.cs, .int .i64 k.node.old, .slice A.n.r k.node.reqs.length A.n.cr, .string k.log, .int .i64 k.safe, .slice A.wa k.wait.length A.wc, .slice A.aa k.asked.length A.ac] 39)).heap.size = w.heap.size + 1 := by simp
  have hA0 := obj_step (heap_alloc_new w (.cells #[.int .i64 k.base.id, .int .i64 k.base.par, .slice A.b.k k.base.kids.length A.b.ck, .int .i64 k.base.next, .slice A.b.p k.base.pu.length A.b.cp, .slice A.b.o k.base.out.length A.b.co, .slice A.b.s k.base.seen.length A.b.cs, .int .i64 k.base.old, .slice A.b.r k.base.reqs.length A.b.cr, .int .i64 k.node.id, .int .i64 k.node.par, .slice A.n.k k.node.kids.length A.n.ck, .int .i64 k.node.next, .slice A.n.p k.node.pu.length A.n.cp, .slice A.n.o k.node.out.length A.n.co, .slice A.n.s k.node.seen.length A.n.cs, .int .i64 k.node.old, .slice A.n.r k.node.reqs.length A.n.cr, .string k.log, .int .i64 k.safe, .slice A.wa k.wait.length A.wc, .slice A.aa k.asked.length A.ac] 39)) (below_one (w.alloc (.cells #[.int .i64 k.base.id, .int .i64 k.base.par, .slice A.b.k k.base.kids.length A.b.ck, .int .i64 k.base.next, .slice A.b.p k.base.pu.length A.b.cp, .slice A.b.o k.base.out.length A.b.co, .slice A.b.s k.base.seen.length A.b.cs, .int .i64 k.base.old, .slice A.b.r k.base.reqs.length A.b.cr, .int .i64 k.node.id, .int .i64 k.node.par, .slice A.n.k k.node.kids.length A.n.ck, .int .i64 k.node.next, .slice A.n.p k.node.pu.length A.n.cp, .slice A.n.o k.node.out.length A.n.co, .slice A.n.s k.node.seen.length A.n.cs, .int .i64 k.node.old, .slice A.n.r k.node.reqs.length A.n.cr, .string k.log, .int .i64 k.safe, .slice A.wa k.wait.length A.wc, .slice A.aa k.asked.length A.ac] 39)) (.cells #[.int .i64 k.base.id, .int .i64 k.base.par, .slice B.b.k k.base.kids.length B.b.ck, .int .i64 k.base.next, .slice B.b.p k.base.pu.length B.b.cp, .slice B.b.o k.base.out.length B.b.co, .slice B.b.s k.base.seen.length B.b.cs, .int .i64 k.base.old, .slice B.b.r k.base.reqs.length B.b.cr, .int .i64 k.node.id, .int .i64 k.node.par, .slice B.n.k k.node.kids.length B.n.ck, .int .i64 k.node.next, .slice B.n.p k.node.pu.length B.n.cp, .slice B.n.o k.node.out.length B.n.co, .slice B.n.s k.node.seen.length B.n.cs, .int .i64 k.node.old, .slice B.n.r k.node.reqs.length B.n.cr, .string k.log, .int .i64 k.safe, .slice B.wa k.wait.length B.wc, .slice B.aa k.asked.length B.ac] 39))
  have hB0 := heap_alloc_new (w.alloc (.cells #[.int .i64 k.base.id, .int .i64 k.base.par, .slice A.b.k k.base.kids.length A.b.ck, .int .i64 k.base.next, .slice A.b.p k.base.pu.length A.b.cp, .slice A.b.o k.base.out.length A.b.co, .slice A.b.s k.base.seen.length A.b.cs, .int .i64 k.base.old, .slice A.b.r k.base.reqs.length A.b.cr, .int .i64 k.node.id, .int .i64 k.node.par, .slice A.n.k k.node.kids.length A.n.ck, .int .i64 k.node.next, .slice A.n.p k.node.pu.length A.n.cp, .slice A.n.o k.node.out.length A.n.co, .slice A.n.s k.node.seen.length A.n.cs, .int .i64 k.node.old, .slice A.n.r k.node.reqs.length A.n.cr, .string k.log, .int .i64 k.safe, .slice A.wa k.wait.length A.wc, .slice A.aa k.asked.length A.ac] 39)) (.cells #[.int .i64 k.base.id, .int .i64 k.base.par, .slice B.b.k k.base.kids.length B.b.ck, .int .i64 k.base.next, .slice B.b.p k.base.pu.length B.b.cp, .slice B.b.o k.base.out.length B.b.co, .slice B.b.s k.base.seen.length B.b.cs, .int .i64 k.base.old, .slice B.b.r k.base.reqs.length B.b.cr, .int .i64 k.node.id, .int .i64 k.node.par, .slice B.n.k k.node.kids.length B.n.ck, .int .i64 k.node.next, .slice B.n.p k.node.pu.length B.n.cp, .slice B.n.o k.node.out.length B.n.co, .slice B.n.s k.node.seen.length B.n.cs, .int .i64 k.node.old, .slice B.n.r k.node.reqs.length B.n.cr, .string k.log, .int .i64 k.safe, .slice B.wa k.wait.length B.wc, .slice B.aa k.asked.length B.ac] 39)
  rw [hS] at hB0
  have HA0 := hide hA0
  have HB0 := hide hB0
  have HL0 := hide ((below_one w (.cells #[.int .i64 k.base.id, .int .i64 k.base.par, .slice A.b.k k.base.kids.length A.b.ck, .int .i64 k.base.next, .slice A.b.p k.base.pu.length A.b.cp, .slice A.b.o k.base.out.length A.b.co, .slice A.b.s k.base.seen.length A.b.cs, .int .i64 k.base.old, .slice A.b.r k.base.reqs.length A.b.cr, .int .i64 k.node.id, .int .i64 k.node.par, .slice A.n.k k.node.kids.length A.n.ck, .int .i64 k.node.next, .slice A.n.p k.node.pu.length A.n.cp, .slice A.n.o k.node.out.length A.n.co, .slice A.n.s k.node.seen.length A.n.cs, .int .i64 k.node.old, .slice A.n.r k.node.reqs.length A.n.cr, .string k.log, .int .i64 k.safe, .slice A.wa k.wait.length A.wc, .slice A.aa k.asked.length A.ac] 39)).trans ((below_one (w.alloc (.cells #[.int .i64 k.base.id, .int .i64 k.base.par, .slice A.b.k k.base.kids.length A.b.ck, .int .i64 k.base.next, .slice A.b.p k.base.pu.length A.b.cp, .slice A.b.o k.base.out.length A.b.co, .slice A.b.s k.base.seen.length A.b.cs, .int .i64 k.base.old, .slice A.b.r k.base.reqs.length A.b.cr, .int .i64 k.node.id, .int .i64 k.node.par, .slice A.n.k k.node.kids.length A.n.ck, .int .i64 k.node.next, .slice A.n.p k.node.pu.length A.n.cp, .slice A.n.o k.node.out.length A.n.co, .slice A.n.s k.node.seen.length A.n.cs, .int .i64 k.node.old, .slice A.n.r k.node.reqs.length A.n.cr, .string k.log, .int .i64 k.safe, .slice A.wa k.wait.length A.wc, .slice A.aa k.asked.length A.ac] 39)) (.cells #[.int .i64 k.base.id, .int .i64 k.base.par, .slice B.b.k k.base.kids.length B.b.ck, .int .i64 k.base.next, .slice B.b.p k.base.pu.length B.b.cp, .slice B.b.o k.base.out.length B.b.co, .slice B.b.s k.base.seen.length B.b.cs, .int .i64 k.base.old, .slice B.b.r k.base.reqs.length B.b.cr, .int .i64 k.node.id, .int .i64 k.node.par, .slice B.n.k k.node.kids.length B.n.ck, .int .i64 k.node.next, .slice B.n.p k.node.pu.length B.n.cp, .slice B.n.o k.node.out.length B.n.co, .slice B.n.s k.node.seen.length B.n.cs, .int .i64 k.node.old, .slice B.n.r k.node.reqs.length B.n.cr, .string k.log, .int .i64 k.safe, .slice B.wa k.wait.length B.wc, .slice B.aa k.asked.length B.ac] 39)).mono (by omega)))
  clear ha hb hz hS hA0 hB0
  obtain ⟨B0, N0, lg, sf, wt, sk⟩ := k
  obtain ⟨AB, AN, wa, wc, aa, ac⟩ := A
  obtain ⟨AB2, AN2, wa2, wc2, aa2, ac2⟩ := B
  dsimp only at H1 H2 H3 H4 HA0 HB0 HL0 ⊢
  go_enter Tryz.func8, Tryz.ntmps8
  obtain ⟨c0, c1, c2, c3, c4, c5, c6, c7, c8, c9, c10, c11, c12, c13, c14, c15, c16, c17, c18, c19, c20, c21⟩ := at22 (unhide HA0)
  obtain ⟨d0, d1, d2, d3, d4, d5, d6, d7, d8, d9, d10, d11, d12, d13, d14, d15, d16, d17, d18, d19, d20, d21⟩ := at22 (unhide HB0)
  go_wp2_with fail
  refine (unhide H1 _ (unhide HL0)).mono ?_
  rintro e w1 ⟨rfl, hb⟩
  have HA1 := hide (obj_step (unhide HA0) hb)
  have HB1 := hide (obj_step (unhide HB0) hb)
  have HL1 := hide ((unhide HL0).trans (hb.mono (unhide HL0).size))
  clear hb c0 c1 c2 c3 c4 c5 c6 c7 c8 c9 c10 c11 c12 c13 c14 c15 c16 c17 c18 c19 c20 c21 d0 d1 d2 d3 d4 d5 d6 d7 d8 d9 d10 d11 d12 d13 d14 d15 d16 d17 d18 d19 d20 d21 HA0 HB0 HL0
  obtain ⟨c0, c1, c2, c3, c4, c5, c6, c7, c8, c9, c10, c11, c12, c13, c14, c15, c16, c17, c18, c19, c20, c21⟩ := at22 (unhide HA1)
  obtain ⟨d0, d1, d2, d3, d4, d5, d6, d7, d8, d9, d10, d11, d12, d13, d14, d15, d16, d17, d18, d19, d20, d21⟩ := at22 (unhide HB1)
  go_wp2_with fail
  refine (unhide H2 _ (unhide HL1)).mono ?_
  rintro e w2 ⟨rfl, hb⟩
  have HA2 := hide (obj_step (unhide HA1) hb)
  have HB2 := hide (obj_step (unhide HB1) hb)
  have HL2 := hide ((unhide HL1).trans (hb.mono (unhide HL1).size))
  clear hb c0 c1 c2 c3 c4 c5 c6 c7 c8 c9 c10 c11 c12 c13 c14 c15 c16 c17 c18 c19 c20 c21 d0 d1 d2 d3 d4 d5 d6 d7 d8 d9 d10 d11 d12 d13 d14 d15 d16 d17 d18 d19 d20 d21 HA1 HB1 HL1
  obtain ⟨c0, c1, c2, c3, c4, c5, c6, c7, c8, c9, c10, c11, c12, c13, c14, c15, c16, c17, c18, c19, c20, c21⟩ := at22 (unhide HA2)
  obtain ⟨d0, d1, d2, d3, d4, d5, d6, d7, d8, d9, d10, d11, d12, d13, d14, d15, d16, d17, d18, d19, d20, d21⟩ := at22 (unhide HB2)
  go_wp2_with fail
  refine (unhide H3 _ (unhide HL2)).mono ?_
  rintro e w3 ⟨rfl, hb⟩
  have HA3 := hide (obj_step (unhide HA2) hb)
  have HB3 := hide (obj_step (unhide HB2) hb)
  have HL3 := hide ((unhide HL2).trans (hb.mono (unhide HL2).size))
  clear hb c0 c1 c2 c3 c4 c5 c6 c7 c8 c9 c10 c11 c12 c13 c14 c15 c16 c17 c18 c19 c20 c21 d0 d1 d2 d3 d4 d5 d6 d7 d8 d9 d10 d11 d12 d13 d14 d15 d16 d17 d18 d19 d20 d21 HA2 HB2 HL2
  obtain ⟨c0, c1, c2, c3, c4, c5, c6, c7, c8, c9, c10, c11, c12, c13, c14, c15, c16, c17, c18, c19, c20, c21⟩ := at22 (unhide HA3)
  obtain ⟨d0, d1, d2, d3, d4, d5, d6, d7, d8, d9, d10, d11, d12, d13, d14, d15, d16, d17, d18, d19, d20, d21⟩ := at22 (unhide HB3)
  go_wp2_with fail
  refine (unhide H4 _ (unhide HL3)).mono ?_
  rintro e w4 ⟨rfl, hb⟩
  have HA4 := hide (obj_step (unhide HA3) hb)
  have HB4 := hide (obj_step (unhide HB3) hb)
  have HL4 := hide ((unhide HL3).trans (hb.mono (unhide HL3).size))
  clear hb c0 c1 c2 c3 c4 c5 c6 c7 c8 c9 c10 c11 c12 c13 c14 c15 c16 c17 c18 c19 c20 c21 d0 d1 d2 d3 d4 d5 d6 d7 d8 d9 d10 d11 d12 d13 d14 d15 d16 d17 d18 d19 d20 d21 HA3 HB3 HL3
  go_wp2_with fail
  go_ret
  exact ⟨rfl, unhide HL4⟩

/-- The node that a new keeper has. -/
def newK (n : Nd) : Nd := if ndOk n then n else zeroNd
theorem few_new {n : Nd} (hz : NdSz n 1048576) : Few (newK n) := by
  unfold newK
  cases h : ndOk n
  · exact few_zero
  · exact few_ok hz h
abbrev zA : Ads := ⟨none, none, none, none, none, 0, 0, 0, 0, 0⟩
abbrev zG : Blks := ⟨0, 0, 0, 0, 0, fun _ => 0⟩
def GivesS (w : World) (n : Nd) (b : Bool) (e : Ending) (w' : World) : Prop := ∃ S2 S1, e = .returned (.tuple #[.agg (nkc n S2 S1), .bool b]) ∧ NodeAt w' S2 n ∧ NodeAt w' S1 n ∧ Below w.heap.size w w'
def GivesW (w : World) (n : Nd) (b : Bool) (e : Ending) (w' : World) : Prop := ∃ A2 A1 G2 G1, e = .returned (.tuple #[.agg (nkc n A2 A1), .bool b]) ∧ NodeW w' A2 G2 n ∧ NodeW w' A1 G1 n ∧ (G2.all n).Nodup ∧ (G1.all n).Nodup ∧ (∀ x ∈ G2.all n, x ∉ G1.all n) ∧ (∀ x ∈ G2.all n ++ G1.all n, w.heap.size ≤ x) ∧ Below w.heap.size w w'
theorem zero_all : Blks.all zG zeroNd = [] := by simp [Blks.all, zeroNd, fp, fpI]
theorem zero_nd : (Blks.all zG zeroNd).Nodup := by rw [zero_all]; exact List.nodup_nil
theorem GivesL.two {w w' : World} {n : Nd} {e : Ending} (h : GivesL w n e w') : GivesS w (newK n) (ndOk n) e w' := by
  rcases h with ⟨h1, rfl, h3⟩ | ⟨h1, A1, A2, rfl, h3, h4, h5⟩
  · unfold newK
    rw [h1]
    exact ⟨zA, zA, rfl, (NodeW.zero (w := w')).1.at, (NodeW.zero (w := w')).1.at, h3⟩
  · unfold newK
    rw [h1]
    exact ⟨A1, A2, rfl, h3, h4, h5⟩
theorem GivesK.two {w w' : World} {n : Nd} {e : Ending} (h : GivesK w n e w') : GivesW w (newK n) (ndOk n) e w' := by
  rcases h with ⟨h1, rfl, h3⟩ | ⟨h1, A1, A2, m, m2, rfl, h2, h3, ⟨G1, c1, G2, c2, t1, t2, t3, t4⟩, h5⟩
  · unfold newK
    rw [h1]
    refine ⟨zA, zA, zG, zG, rfl, (NodeW.zero (w := w')).1, (NodeW.zero (w := w')).1, zero_nd, zero_nd, fun x hx => absurd (show x ∈ Blks.all zG zeroNd from hx) (by rw [zero_all]; simp), fun x hx => absurd (show x ∈ Blks.all zG zeroNd ++ Blks.all zG zeroNd from hx) (by rw [zero_all]; simp), h3⟩
  · unfold newK
    rw [h1]
    obtain ⟨F1, n1, s1, col1⟩ := t1.full
    obtain ⟨F2, n2, s2, col2⟩ := t3.full
    refine ⟨A2, A1, F2, F1, rfl, n2, n1, s2.nodup, s1.nodup, fun x hx hx1 => ?_, fun x hx => ?_, h5⟩
    · have q2 := (s2.rng x hx).1
      have := t2 x q2
      have := (col1 x hx1).2
      omega
    · rcases List.mem_append.1 hx with hx | hx
      · have := (s2.rng x hx).1; omega
      · exact (s1.rng x hx).1
/-- The laws' eqKeeper of two such keepers. -/
theorem eqKeeper0 (n : Nd) (A2 A1 S2 S1 : Ads) (w : World) (hf : Few n) (a2 : NodeAt w A2 n) (a1 : NodeAt w A1 n) (s2 : NodeAt w S2 n) (s1 : NodeAt w S1 n) :
    Calls Tryz.prog 8 #[.agg (nkc n A2 A1), .agg (nkc n S2 S1)] w fun e w' => e = .returned (.bool true) ∧ Below w.heap.size w w' :=
  eqKeeper ⟨n, n, ByteArray.empty, 0, [], []⟩ ⟨A2, A1, none, 0, none, 0⟩ ⟨S2, S1, none, 0, none, 0⟩ w ⟨hf.1, hf.1, by simp, by simp, by simp, fun p hp => by simp at hp, fun p hp => by simp at hp⟩ ⟨a2, a1, GR.at_nil _ _, GR.at_nil _ _⟩ ⟨s2, s1, GR.at_nil _ _, GR.at_nil _ _⟩
end Go.Proofs.YtcfcngbfnflbgaaGreatDoor
