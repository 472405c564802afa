/- Parts. -/
import Derived.Test.YtbanjohfcnadfaaGreatDoorPw3
import Derived.Test.YtbanjohfcnadfaaGreatDoorPw2
import Derived.Test.YtbanjohfcnadfaaGreatDoorPw1
import Derived.Deep.RegionHeld
import Derived.Deep.QuietTactic
import Derived.BigQuiet
import Derived.Laws.IdiomStrings
import Derived.Laws.BytesString
import Derived.Laws.AppendOwnNone
import Derived.Maps.AppendAt
import Derived.Laws.OwnMore
namespace Go.Proofs.YtbanjohfcnadfaaGreatDoor
open Go.RowKit
open Mth

abbrev puBlk (w : World) (g : Nat) (l : List Pu) : Prop := GR.Blk encP 128 w g l
theorem puBlk.four {w : World} {g : Nat} {l : List Pu} (h : puBlk w g l) (i : Nat) (hi : i < l.length) : w.cell? ⟨g, i * 4, none⟩ = some (.string l[i].k) ∧ w.cell? ⟨g, i * 4 + 1, none⟩ = some (.int .i64 l[i].m) ∧ w.cell? ⟨g, i * 4 + 2, none⟩ = some (.int .i64 l[i].f) ∧ w.cell? ⟨g, i * 4 + 3, none⟩ = some (.int .i64 l[i].s) :=
  ⟨by simpa using GR.Blk.cell h encP_length i hi 0 (by omega), by simpa using GR.Blk.cell h encP_length i hi 1 (by omega), by simpa using GR.Blk.cell h encP_length i hi 2 (by omega), by simpa using GR.Blk.cell h encP_length i hi 3 (by omega)⟩
set_option maxRecDepth 100000 in
theorem eqPurse (p : Pu) (w : World) : Calls Tryz.prog 133 #[puv p, puv p] w fun e w' => e = .returned (.bool true) ∧ Below w.heap.size w w' := by
  obtain ⟨k, m, f, s⟩ := p
  go_enter Tryz.func133, Tryz.ntmps133
  go_wp2_with fail
  go_ret
  exact ⟨rfl, ((Below.refl _ _).alloc (Nat.le_refl _) _).alloc (by simp) _⟩


set_option maxRecDepth 100000 in
set_option maxHeartbeats 2000000 in
theorem eqPurseS (a b : Option Addr) (ca cb : Nat) (l : List Pu) (w : World) (hl : l.length ≤ 1048600) (ha : PursesAt w a l) (hb : PursesAt w b l) :
    Calls Tryz.prog 106 #[.slice a l.length ca, .slice b l.length cb] w fun e w' => e = .returned (.bool true) ∧ Below w.heap.size w w' := by
  have HA := hide ha
  have HB := hide hb
  clear ha hb
  go_enter Tryz.func106, Tryz.ntmps106
  go_wp2_with fail
  go_loopw [5] (fun i wr => ∃ k : Nat, k ≤ l.length ∧ i = .int .i64 k ∧ Below w.heap.size w wr) (fun i _ => l.length - (intOf i).toNat)
  case atStart => exact ⟨0, Nat.zero_le _, rfl, Below.refl _ _⟩
  case round =>
    obtain ⟨k, hk, rfl, hbel⟩ := hrel
    have HBL := hide hbel
    clear hbel
    by_cases hlt : k < l.length
    · obtain ⟨g1, o1, rfl, hg1, s0, s1, s2, s3⟩ := PursesAt.four (GR.At.below (unhide HA) (unhide HBL)) k hlt
      obtain ⟨g2, o2, rfl, hg2, t0, t1, t2, t3⟩ := PursesAt.four (GR.At.below (unhide HB) (unhide HBL)) k hlt
      generalize l[k] = pu at *
      have HEQ := hide (fun w1 => eqPurse pu w1)
      obtain ⟨pk, pm, pf, ps⟩ := pu
      dsimp only at s0 s1 s2 s3 t0 t1 t2 t3
      go_wp2_with fail
      go_region_held (fun w' => (w'.cell? ⟨g1, o1 + k * 4, none⟩ = some (.string pk) ∧ w'.cell? ⟨g1, o1 + k * 4 + 1, none⟩ = some (.int .i64 pm) ∧ w'.cell? ⟨g1, o1 + k * 4 + 2, none⟩ = some (.int .i64 pf) ∧ w'.cell? ⟨g1, o1 + k * 4 + 3, none⟩ = some (.int .i64 ps)) ∧ w'.cell? ⟨g2, o2 + k * 4, none⟩ = some (.string pk) ∧ w'.cell? ⟨g2, o2 + k * 4 + 1, none⟩ = some (.int .i64 pm) ∧ w'.cell? ⟨g2, o2 + k * 4 + 2, none⟩ = some (.int .i64 pf) ∧ w'.cell? ⟨g2, o2 + k * 4 + 3, none⟩ = some (.int .i64 ps)) (go_keep)
        (first
          | (go_at_call 133; refine (unhide HEQ _).mono ?_; rintro e w5 ⟨rfl, hb5⟩; have hb6 : Below wr.heap.size wr w5 := ⟨hb5.os, hb5.tape, hb5.output, hb5.size, hb5.block⟩; clear hb5; have HBL5 := hide ((unhide HBL).trans (hb6.mono (unhide HBL).size)); have y0 := (hb6.cell (p := ⟨g1, o1 + k * 4, none⟩) hg1).trans s0; have y1 := (hb6.cell (p := ⟨g1, o1 + k * 4 + 1, none⟩) hg1).trans s1; have y2 := (hb6.cell (p := ⟨g1, o1 + k * 4 + 2, none⟩) hg1).trans s2; have y3 := (hb6.cell (p := ⟨g1, o1 + k * 4 + 3, none⟩) hg1).trans s3; have z0 := (hb6.cell (p := ⟨g2, o2 + k * 4, none⟩) hg2).trans t0; have z1 := (hb6.cell (p := ⟨g2, o2 + k * 4 + 1, none⟩) hg2).trans t1; have z2 := (hb6.cell (p := ⟨g2, o2 + k * 4 + 2, none⟩) hg2).trans t2; have z3 := (hb6.cell (p := ⟨g2, o2 + k * 4 + 3, none⟩) hg2).trans t3; clear hb6))
      all_goals
        go_wp2_with fail
        go_roundw
        case rel => exact ⟨k + 1, by omega, by go_num, unhide HBL5⟩
        case measure => simp [intOf]; omega
    · have hke : k = l.length := by omega
      subst hke
      have hnlt : decide ((l.length : Int) < (l.length : Int)) = false := by simp
      go_wp2_with fail
      go_ret
      exact ⟨rfl, unhide HBL⟩



abbrev IntsAt (w : World) (a : Option Addr) (l : List Int) : Prop := GR.At encNum 1 w a l
theorem IntsAt.one {w : World} {a : Option Addr} {l : List Int} (h : IntsAt w a l) (i : Nat) (hi : i < l.length) : ∃ g off, a = some ⟨g, off, none⟩ ∧ g < w.heap.size ∧ w.cell? ⟨g, off + i, none⟩ = some (.int .i64 l[i]) := by
  obtain ⟨g, off, e, hg, hc⟩ := h i hi
  refine ⟨g, off, e, hg, ?_⟩
  simpa using hc 0 (by omega)
abbrev intBlk (w : World) (g : Nat) (l : List Int) : Prop := GR.Blk encNum 3 w g l
theorem intBlk.one {w : World} {g : Nat} {l : List Int} (h : intBlk w g l) (i : Nat) (hi : i < l.length) : w.cell? ⟨g, i, none⟩ = some (.int .i64 l[i]) := by
  simpa using GR.Blk.cell h encNum_length i hi 0 (by omega)
theorem intBlk.step {w w' : World} {g : Nat} {l : List Int} (h : intBlk w g l) (hb : Below w.heap.size w w') : intBlk w' g l := by
  have hl := GR.Blk.lt h
  unfold intBlk GR.Blk at *
  rw [hb.block g hl]
  exact h
theorem infoInt : (Tryz.prog.info? 3).map (fun i => (i.zero, i.size, i.bytes)) = some (some (.int .i64 0), 1, 8) := by kernel_rfl
theorem makeInts (n : Nat) (hn : n ≤ 2000000) : ∀ W : World, (Instr.makeSlice 22 (.int .i64 (n : Int)) (.int .i64 (n : Int))).run Tryz.prog W = .ok (.slice (some ⟨W.heap.size, 0, none⟩) n n) (W.alloc (.cells (GR.flat encNum (List.replicate n 0)).toArray 3)) := by
  obtain ⟨i0, hi, hz0, hz1, hz2⟩ := info_parts infoInt
  intro W
  have h := run_make (P := Tryz.prog) W 22 3 i0 (.int .i64 0) Tryz.underlying22 hi hz0 .i64 .i64 (n : Int) (n : Int) (by omega) (by omega) (by rw [hz2]; omega) (by omega)
  rw [hz1] at h
  have e := GR.made_flat encNum 1 encNum_length (by omega) 0 (Value.cells (.int .i64 0)) rfl n
  simp only [Int.toNat_natCast] at h
  rw [e] at h
  exact h
theorem take_setI (l : List Int) (z : Int) (k : Nat) (hk : k < l.length) : (l.take k ++ List.replicate (l.length - k) z).set k l[k] = l.take (k + 1) ++ List.replicate (l.length - (k + 1)) z := by
  have hlen : (l.take k).length = k := by simp; omega
  rw [List.set_append_right _ _ (by omega), hlen, Nat.sub_self]
  have e : l.length - k = (l.length - (k + 1)) + 1 := by omega
  rw [e, List.replicate_succ, List.take_succ_eq_append_getElem hk, List.append_assoc]
  rfl

set_option maxRecDepth 100000 in
set_option maxHeartbeats 2000000 in
theorem toIntS (a : Option Addr) (cap : Nat) (l : List Int) (w : World) (hl : l.length ≤ 1048576) (ha : IntsAt w a l) :
    Calls Tryz.prog 17 #[.slice a l.length cap] w fun e w' => e = .returned (.slice (some ⟨w.heap.size, 0, none⟩) l.length l.length) ∧ intBlk w' w.heap.size l ∧ Below w.heap.size w w' := by
  have hmk := makeInts l.length (by omega)
  have HA := hide ha
  clear ha
  go_enter Tryz.func17, Tryz.ntmps17
  go_wp2_with fail
  go_loopw [4] (fun i wr => ∃ k : Nat, k ≤ l.length ∧ i = .int .i64 k ∧ intBlk wr w.heap.size (l.take k ++ List.replicate (l.length - k) 0) ∧ Below w.heap.size w wr) (fun i _ => l.length - (intOf i).toNat)
  case atStart => exact ⟨0, Nat.zero_le _, rfl, by unfold intBlk GR.Blk; rw [List.take_zero, List.nil_append, Nat.sub_zero]; exact heap_alloc_new w _, below_one' w _⟩
  case round =>
    obtain ⟨k, hk, rfl, hB, hbel⟩ := hrel
    have HB := hide hB
    have HBL := hide hbel
    clear hB hbel hmk
    by_cases hlt : k < l.length
    · obtain ⟨g, off, rfl, hgw, q0⟩ := IntsAt.one (GR.At.below (unhide HA) (unhide HBL)) k hlt
      have TS := hide (take_setI l 0 k hlt)
      generalize l[k] = pu at *
      have hln : (l.take k ++ List.replicate (l.length - k) (0 : Int)).length = l.length := by simp; omega
      have s0 := intBlk.one (unhide HB) k (by omega)
      have f0 := GR.Blk.free (unhide HB) k
      go_wp2_with fail
      first | go_region | skip
      go_roundw
      case rel =>
        have h := GR.Blk.set (unhide HB) encNum_length k (by omega) pu
        rw [unhide TS] at h
        have h2 := GR.setW_below (o := k * 1) (Nat.le_refl w.heap.size) (encNum pu) (unhide HBL)
        rw [Nat.mul_one] at h h2
        exact ⟨k + 1, by omega, by go_num, h, h2⟩
      case measure => simp [intOf]; omega
    · have hke : k = l.length := by omega
      subst hke
      have hnlt : decide ((l.length : Int) < (l.length : Int)) = false := by simp
      go_wp2_with fail
      go_ret
      have h := unhide HB
      rw [List.take_length, Nat.sub_self, List.replicate_zero, List.append_nil] at h
      exact ⟨rfl, h, unhide HBL⟩

set_option maxRecDepth 100000 in
set_option maxHeartbeats 2000000 in
theorem eqIntS (a b : Option Addr) (ca cb : Nat) (l : List Int) (w : World) (hl : l.length ≤ 1048600) (ha : IntsAt w a l) (hb : IntsAt w b l) :
    Calls Tryz.prog 26 #[.slice a l.length ca, .slice b l.length cb] w fun e w' => e = .returned (.bool true) ∧ Below w.heap.size w w' := by
  have HA := hide ha
  have HB := hide hb
  clear ha hb
  go_enter Tryz.func26, Tryz.ntmps26
  go_wp2_with fail
  go_loopw [5] (fun i wr => ∃ k : Nat, k ≤ l.length ∧ i = .int .i64 k ∧ Below w.heap.size w wr) (fun i _ => l.length - (intOf i).toNat)
  case atStart => exact ⟨0, Nat.zero_le _, rfl, Below.refl _ _⟩
  case round =>
    obtain ⟨k, hk, rfl, hbel⟩ := hrel
    have HBL := hide hbel
    clear hbel
    by_cases hlt : k < l.length
    · obtain ⟨g1, o1, rfl, hg1, s0⟩ := IntsAt.one (GR.At.below (unhide HA) (unhide HBL)) k hlt
      obtain ⟨g2, o2, rfl, hg2, t0⟩ := IntsAt.one (GR.At.below (unhide HB) (unhide HBL)) k hlt
      generalize l[k] = pu at *
      go_wp2_with fail
      go_quiet (fail)
      go_wp2_with fail
      go_roundw
      case rel => exact ⟨k + 1, by omega, by go_num, (unhide HBL).trans ⟨rfl, rfl, rfl, Nat.le_refl _, fun _ _ => rfl⟩⟩
      case measure => simp [intOf]; omega
    · have hke : k = l.length := by omega
      subst hke
      have hnlt : decide ((l.length : Int) < (l.length : Int)) = false := by simp
      go_wp2_with fail
      go_ret
      exact ⟨rfl, unhide HBL⟩
theorem szIntS (a : Option Addr) (ca : Nat) (l : List Int) (z0 : Int) (w : World) (h0 : 0 ≤ z0) (h1 : z0 ≤ 1048576) (hl : l.length ≤ maxLen) :
    Calls Tryz.prog 13 #[.slice a l.length ca, .int .i64 z0] w fun e w' => e = .returned (.int .i64 (if (l.length : Int) ≤ z0 then z0 - l.length else -1)) ∧ w = w' := by
  unfold maxLen at hl
  by_cases hc : (l.length : Int) ≤ z0
  · rw [if_pos hc]
    have hn : ¬ (z0 - (l.length : Int) < 0) := by omega
    go_enter Tryz.func13, Tryz.ntmps13
    go_wp2_with fail
    go_ret
    exact ⟨rfl, rfl⟩
  · rw [if_neg hc]
    have hn : z0 - (l.length : Int) < 0 := by omega
    go_enter Tryz.func13, Tryz.ntmps13
    go_wp2_with fail
    go_ret
    exact ⟨rfl, rfl⟩

abbrev SentAt (w : World) (a : Option Addr) (l : List Snt) : Prop := GR.At encSnt 4 w a l
abbrev SentV (p : Snt) : Value := .agg #[.int .i64 p.i, .int .i64 p.t, .string p.k, .int .i64 p.n]
theorem SentAt.four {w : World} {a : Option Addr} {l : List Snt} (h : SentAt w a l) (i : Nat) (hi : i < l.length) : ∃ g off, a = some ⟨g, off, none⟩ ∧ g < w.heap.size ∧ w.cell? ⟨g, off + i * 4, none⟩ = some (.int .i64 l[i].i) ∧ w.cell? ⟨g, off + i * 4 + 1, none⟩ = some (.int .i64 l[i].t) ∧ w.cell? ⟨g, off + i * 4 + 2, none⟩ = some (.string l[i].k) ∧ w.cell? ⟨g, off + i * 4 + 3, none⟩ = some (.int .i64 l[i].n) := by
  obtain ⟨g, off, e, hg, hc⟩ := h i hi
  refine ⟨g, off, e, hg, ?_, ?_, ?_, ?_⟩
  · simpa using hc 0 (by omega)
  · simpa [Nat.add_assoc] using hc 1 (by omega)
  · simpa [Nat.add_assoc] using hc 2 (by omega)
  · simpa [Nat.add_assoc] using hc 3 (by omega)
abbrev SentBlk (w : World) (g : Nat) (l : List Snt) : Prop := GR.Blk encSnt 105 w g l
theorem SentBlk.four {w : World} {g : Nat} {l : List Snt} (h : SentBlk w g l) (i : Nat) (hi : i < l.length) : w.cell? ⟨g, i * 4, none⟩ = some (.int .i64 l[i].i) ∧ w.cell? ⟨g, i * 4 + 1, none⟩ = some (.int .i64 l[i].t) ∧ w.cell? ⟨g, i * 4 + 2, none⟩ = some (.string l[i].k) ∧ w.cell? ⟨g, i * 4 + 3, none⟩ = some (.int .i64 l[i].n) :=
  ⟨by simpa using GR.Blk.cell h encSnt_length i hi 0 (by omega), by simpa using GR.Blk.cell h encSnt_length i hi 1 (by omega), by simpa using GR.Blk.cell h encSnt_length i hi 2 (by omega), by simpa using GR.Blk.cell h encSnt_length i hi 3 (by omega)⟩
theorem SentBlk.step {w w' : World} {g : Nat} {l : List Snt} (h : SentBlk w g l) (hb : Below w.heap.size w w') : SentBlk w' g l := by
  have hl := GR.Blk.lt h
  unfold SentBlk GR.Blk at *
  rw [hb.block g hl]
  exact h
theorem infoSent : (Tryz.prog.info? 105).map (fun i => (i.zero, i.size, i.bytes)) = some (some (.agg #[.int .i64 0, .int .i64 0, .string ByteArray.empty, .int .i64 0]), 4, 40) := by kernel_rfl
set_option maxRecDepth 100000 in
theorem eqSent (p : Snt) (w : World) : Calls Tryz.prog 134 #[SentV p, SentV p] w fun e w' => e = .returned (.bool true) ∧ Below w.heap.size w w' := by
  obtain ⟨pi, pt, pk, pn⟩ := p
  go_enter Tryz.func134, Tryz.ntmps134
  go_wp2_with fail
  go_ret
  exact ⟨rfl, ((Below.refl _ _).alloc (Nat.le_refl _) _).alloc (by simp) _⟩
set_option maxRecDepth 100000 in
set_option maxHeartbeats 2000000 in
theorem eqSentS (a b : Option Addr) (ca cb : Nat) (l : List Snt) (w : World) (hl : l.length ≤ 1048600) (ha : SentAt w a l) (hb : SentAt w b l) :
    Calls Tryz.prog 107 #[.slice a l.length ca, .slice b l.length cb] w fun e w' => e = .returned (.bool true) ∧ Below w.heap.size w w' := by
  have HA := hide ha
  have HB := hide hb
  clear ha hb
  go_enter Tryz.func107, Tryz.ntmps107
  go_wp2_with fail
  go_loopw [5] (fun i wr => ∃ k : Nat, k ≤ l.length ∧ i = .int .i64 k ∧ Below w.heap.size w wr) (fun i _ => l.length - (intOf i).toNat)
  case atStart => exact ⟨0, Nat.zero_le _, rfl, Below.refl _ _⟩
  case round =>
    obtain ⟨k, hk, rfl, hbel⟩ := hrel
    have HBL := hide hbel
    clear hbel
    by_cases hlt : k < l.length
    · obtain ⟨g1, o1, rfl, hg1, s0, s1, s2, s3⟩ := SentAt.four (GR.At.below (unhide HA) (unhide HBL)) k hlt
      obtain ⟨g2, o2, rfl, hg2, t0, t1, t2, t3⟩ := SentAt.four (GR.At.below (unhide HB) (unhide HBL)) k hlt
      generalize l[k] = pu at *
      have HEQ := hide (fun w1 => eqSent pu w1)
      obtain ⟨pi, pt, pk, pn⟩ := pu
      dsimp only at s0 s1 s2 s3 t0 t1 t2 t3
      go_wp2_with fail
      go_region_held (fun w' => (w'.cell? ⟨g1, o1 + k * 4, none⟩ = some (.int .i64 pi) ∧ w'.cell? ⟨g1, o1 + k * 4 + 1, none⟩ = some (.int .i64 pt) ∧ w'.cell? ⟨g1, o1 + k * 4 + 2, none⟩ = some (.string pk) ∧ w'.cell? ⟨g1, o1 + k * 4 + 3, none⟩ = some (.int .i64 pn)) ∧ w'.cell? ⟨g2, o2 + k * 4, none⟩ = some (.int .i64 pi) ∧ w'.cell? ⟨g2, o2 + k * 4 + 1, none⟩ = some (.int .i64 pt) ∧ w'.cell? ⟨g2, o2 + k * 4 + 2, none⟩ = some (.string pk) ∧ w'.cell? ⟨g2, o2 + k * 4 + 3, none⟩ = some (.int .i64 pn)) (go_keep)
        (first
          | (go_at_call 134; refine (unhide HEQ _).mono ?_; rintro e w5 ⟨rfl, hb5⟩; have hb6 : Below wr.heap.size wr w5 := ⟨hb5.os, hb5.tape, hb5.output, hb5.size, hb5.block⟩; clear hb5; have HBL5 := hide ((unhide HBL).trans (hb6.mono (unhide HBL).size)); have y0 := (hb6.cell (p := ⟨g1, o1 + k * 4, none⟩) hg1).trans s0; have y1 := (hb6.cell (p := ⟨g1, o1 + k * 4 + 1, none⟩) hg1).trans s1; have y2 := (hb6.cell (p := ⟨g1, o1 + k * 4 + 2, none⟩) hg1).trans s2; have y3 := (hb6.cell (p := ⟨g1, o1 + k * 4 + 3, none⟩) hg1).trans s3; have z0 := (hb6.cell (p := ⟨g2, o2 + k * 4, none⟩) hg2).trans t0; have z1 := (hb6.cell (p := ⟨g2, o2 + k * 4 + 1, none⟩) hg2).trans t1; have z2 := (hb6.cell (p := ⟨g2, o2 + k * 4 + 2, none⟩) hg2).trans t2; have z3 := (hb6.cell (p := ⟨g2, o2 + k * 4 + 3, none⟩) hg2).trans t3; clear hb6))
      all_goals
        go_wp2_with fail
        go_roundw
        case rel => exact ⟨k + 1, by omega, by go_num, unhide HBL5⟩
        case measure => simp [intOf]; omega
    · have hke : k = l.length := by omega
      subst hke
      have hnlt : decide ((l.length : Int) < (l.length : Int)) = false := by simp
      go_wp2_with fail
      go_ret
      exact ⟨rfl, unhide HBL⟩


abbrev ReqAt (w : World) (a : Option Addr) (l : List Rq) : Prop := GR.At encRq 4 w a l
abbrev ReqV (p : Rq) : Value := .agg #[.int .i64 p.no, .string p.k, .int .i64 p.n, .int .i64 p.s]
theorem ReqAt.four {w : World} {a : Option Addr} {l : List Rq} (h : ReqAt w a l) (i : Nat) (hi : i < l.length) : ∃ g off, a = some ⟨g, off, none⟩ ∧ g < w.heap.size ∧ w.cell? ⟨g, off + i * 4, none⟩ = some (.int .i64 l[i].no) ∧ w.cell? ⟨g, off + i * 4 + 1, none⟩ = some (.string l[i].k) ∧ w.cell? ⟨g, off + i * 4 + 2, none⟩ = some (.int .i64 l[i].n) ∧ w.cell? ⟨g, off + i * 4 + 3, none⟩ = some (.int .i64 l[i].s) := by
  obtain ⟨g, off, e, hg, hc⟩ := h i hi
  refine ⟨g, off, e, hg, ?_, ?_, ?_, ?_⟩
  · simpa using hc 0 (by omega)
  · simpa [Nat.add_assoc] using hc 1 (by omega)
  · simpa [Nat.add_assoc] using hc 2 (by omega)
  · simpa [Nat.add_assoc] using hc 3 (by omega)
abbrev ReqBlk (w : World) (g : Nat) (l : List Rq) : Prop := GR.Blk encRq 108 w g l
theorem ReqBlk.four {w : World} {g : Nat} {l : List Rq} (h : ReqBlk w g l) (i : Nat) (hi : i < l.length) : w.cell? ⟨g, i * 4, none⟩ = some (.int .i64 l[i].no) ∧ w.cell? ⟨g, i * 4 + 1, none⟩ = some (.string l[i].k) ∧ w.cell? ⟨g, i * 4 + 2, none⟩ = some (.int .i64 l[i].n) ∧ w.cell? ⟨g, i * 4 + 3, none⟩ = some (.int .i64 l[i].s) :=
  ⟨by simpa using GR.Blk.cell h encRq_length i hi 0 (by omega), by simpa using GR.Blk.cell h encRq_length i hi 1 (by omega), by simpa using GR.Blk.cell h encRq_length i hi 2 (by omega), by simpa using GR.Blk.cell h encRq_length i hi 3 (by omega)⟩
theorem ReqBlk.step {w w' : World} {g : Nat} {l : List Rq} (h : ReqBlk w g l) (hb : Below w.heap.size w w') : ReqBlk w' g l := by
  have hl := GR.Blk.lt h
  unfold ReqBlk GR.Blk at *
  rw [hb.block g hl]
  exact h
theorem infoReq : (Tryz.prog.info? 108).map (fun i => (i.zero, i.size, i.bytes)) = some (some (.agg #[.int .i64 0, .string ByteArray.empty, .int .i64 0, .int .i64 0]), 4, 40) := by kernel_rfl
set_option maxRecDepth 100000 in
theorem eqReq (p : Rq) (w : World) : Calls Tryz.prog 136 #[ReqV p, ReqV p] w fun e w' => e = .returned (.bool true) ∧ Below w.heap.size w w' := by
  obtain ⟨pno, pk, pn, ps⟩ := p
  go_enter Tryz.func136, Tryz.ntmps136
  go_wp2_with fail
  go_ret
  exact ⟨rfl, ((Below.refl _ _).alloc (Nat.le_refl _) _).alloc (by simp) _⟩
set_option maxRecDepth 100000 in
set_option maxHeartbeats 2000000 in
theorem eqReqS (a b : Option Addr) (ca cb : Nat) (l : List Rq) (w : World) (hl : l.length ≤ 1048600) (ha : ReqAt w a l) (hb : ReqAt w b l) :
    Calls Tryz.prog 109 #[.slice a l.length ca, .slice b l.length cb] w fun e w' => e = .returned (.bool true) ∧ Below w.heap.size w w' := by
  have HA := hide ha
  have HB := hide hb
  clear ha hb
  go_enter Tryz.func109, Tryz.ntmps109
  go_wp2_with fail
  go_loopw [5] (fun i wr => ∃ k : Nat, k ≤ l.length ∧ i = .int .i64 k ∧ Below w.heap.size w wr) (fun i _ => l.length - (intOf i).toNat)
  case atStart => exact ⟨0, Nat.zero_le _, rfl, Below.refl _ _⟩
  case round =>
    obtain ⟨k, hk, rfl, hbel⟩ := hrel
    have HBL := hide hbel
    clear hbel
    by_cases hlt : k < l.length
    · obtain ⟨g1, o1, rfl, hg1, s0, s1, s2, s3⟩ := ReqAt.four (GR.At.below (unhide HA) (unhide HBL)) k hlt
      obtain ⟨g2, o2, rfl, hg2, t0, t1, t2, t3⟩ := ReqAt.four (GR.At.below (unhide HB) (unhide HBL)) k hlt
      generalize l[k] = pu at *
      have HEQ := hide (fun w1 => eqReq pu w1)
      obtain ⟨pno, pk, pn, ps⟩ := pu
      dsimp only at s0 s1 s2 s3 t0 t1 t2 t3
      go_wp2_with fail
      go_region_held (fun w' => (w'.cell? ⟨g1, o1 + k * 4, none⟩ = some (.int .i64 pno) ∧ w'.cell? ⟨g1, o1 + k * 4 + 1, none⟩ = some (.string pk) ∧ w'.cell? ⟨g1, o1 + k * 4 + 2, none⟩ = some (.int .i64 pn) ∧ w'.cell? ⟨g1, o1 + k * 4 + 3, none⟩ = some (.int .i64 ps)) ∧ w'.cell? ⟨g2, o2 + k * 4, none⟩ = some (.int .i64 pno) ∧ w'.cell? ⟨g2, o2 + k * 4 + 1, none⟩ = some (.string pk) ∧ w'.cell? ⟨g2, o2 + k * 4 + 2, none⟩ = some (.int .i64 pn) ∧ w'.cell? ⟨g2, o2 + k * 4 + 3, none⟩ = some (.int .i64 ps)) (go_keep)
        (first
          | (go_at_call 136; refine (unhide HEQ _).mono ?_; rintro e w5 ⟨rfl, hb5⟩; have hb6 : Below wr.heap.size wr w5 := ⟨hb5.os, hb5.tape, hb5.output, hb5.size, hb5.block⟩; clear hb5; have HBL5 := hide ((unhide HBL).trans (hb6.mono (unhide HBL).size)); have y0 := (hb6.cell (p := ⟨g1, o1 + k * 4, none⟩) hg1).trans s0; have y1 := (hb6.cell (p := ⟨g1, o1 + k * 4 + 1, none⟩) hg1).trans s1; have y2 := (hb6.cell (p := ⟨g1, o1 + k * 4 + 2, none⟩) hg1).trans s2; have y3 := (hb6.cell (p := ⟨g1, o1 + k * 4 + 3, none⟩) hg1).trans s3; have z0 := (hb6.cell (p := ⟨g2, o2 + k * 4, none⟩) hg2).trans t0; have z1 := (hb6.cell (p := ⟨g2, o2 + k * 4 + 1, none⟩) hg2).trans t1; have z2 := (hb6.cell (p := ⟨g2, o2 + k * 4 + 2, none⟩) hg2).trans t2; have z3 := (hb6.cell (p := ⟨g2, o2 + k * 4 + 3, none⟩) hg2).trans t3; clear hb6))
      all_goals
        go_wp2_with fail
        go_roundw
        case rel => exact ⟨k + 1, by omega, by go_num, unhide HBL5⟩
        case measure => simp [intOf]; omega
    · have hke : k = l.length := by omega
      subst hke
      have hnlt : decide ((l.length : Int) < (l.length : Int)) = false := by simp
      go_wp2_with fail
      go_ret
      exact ⟨rfl, unhide HBL⟩


/-- A byte as a cell's value. -/
def bv (c : UInt8) : Value := .int .u8 (c.toNat : Int)

/-- Below stays so behind an append to a row of the call's own. -/
theorem below_append {w wr w1 : World} {e : TypeId} {v : Value} {n : Nat} {xs : List Value} {o : Obj} (hb : Below w.heap.size w wr) (hown : wr.ownsRow w.heap.size e 1 v n xs) (hg : (wr.alloc o).grownBy w1 v.ownBlock) : Below w.heap.size w w1 :=
  (hb.alloc (by have := hb.size; omega) o).grown hg (by have := hb.size; simp; omega) (fun k hk => (hown.lt k hk).1)
namespace GR
open Go.RowKit
variable {α : Type} {enc : α → List Value} {sz : Nat}

theorem At.news {w : World} {x : Addr} {l : List α} (hs : ∀ y, (enc y).length = sz) (hz : 0 < sz) (h : At enc sz w (some x) l) : ∀ j u, (flat enc l)[j]? = some u → w.cell? (x.add j) = some u := by
  intro j u hu
  have hj : j < l.length * sz := by
    have := (List.getElem?_eq_some_iff.1 hu).1
    rwa [flat_length enc sz hs] at this
  have hq : j / sz < l.length := Nat.div_lt_of_lt_mul (by rw [Nat.mul_comm]; exact hj)
  have hr : j % sz < sz := Nat.mod_lt _ hz
  obtain ⟨g, off, e, hg, hc⟩ := h (j / sz) hq
  have hf := flat_at enc sz hs l (j / sz) hq (j % sz) hr
  have ej : j / sz * sz + j % sz = j := Nat.div_add_mod' j sz
  rw [ej] at hf
  have h2 := hc (j % sz) hr
  rw [ej, ← hf, hu] at h2
  injection e with e
  subst e
  have ea : (⟨g, off, none⟩ : Addr).add j = ⟨g, off + j, none⟩ := by unfold Addr.add; split <;> simp_all
  rw [ea]
  exact h2
theorem flat_oneCell (h1 : ∀ y, ∀ u ∈ enc y, u.oneCell' = true) (l : List α) : ∀ u ∈ flat enc l, u.oneCell' = true := by
  intro u hu
  unfold flat at hu
  rw [List.mem_flatMap] at hu
  obtain ⟨p, _, hp⟩ := hu
  exact h1 p u hp
theorem own_below {w w' : World} {B : Nat} {e : TypeId} {sz : Nat} {v : Value} {n : Nat} {xs : List Value} (h : w.ownsRow B e sz v n xs) (hb : Below w.heap.size w w') : w'.ownsRow B e sz v n xs :=
  h.kept (row := none) ⟨hb.os, hb.tape, hb.output, hb.size, fun k hk _ => hb.block k hk⟩ (by cases v.ownBlock with | none => exact .inl rfl | some k => exact .inr (by simp))
theorem own_lower {w : World} {b b' : Nat} {e : TypeId} {sz : Nat} {v : Value} {n : Nat} {xs : List Value} (h : w.ownsRow b e sz v n xs) (hb : b' ≤ b) : w.ownsRow b' e sz v n xs := by
  refine ⟨h.1, ?_⟩
  rcases h.2 with h2 | ⟨g, cap, cur, hv, hg, hr⟩
  · exact .inl h2
  · exact .inr ⟨g, cap, cur, hv, Nat.le_trans hb hg, hr⟩
theorem below_append {w wr w1 : World} {B : Nat} {e : TypeId} {sz : Nat} {v : Value} {n : Nat} {xs : List Value} {o : Obj} (hb : Below B w wr) (hB : B ≤ wr.heap.size) (hown : wr.ownsRow B e sz v n xs) (hg : (wr.alloc o).grownBy w1 v.ownBlock) : Below B w w1 :=
  (hb.alloc hB o).grown hg (by simp; omega) (fun k hk => (hown.lt k hk).1)
theorem none_nil {w : World} {l : List α} (h : At enc sz w none l) : l = [] := by
  cases l with
  | nil => rfl
  | cons y l =>
    obtain ⟨g, off, e, _⟩ := h 0 (by simp)
    cases e
end GR
end Go.Proofs.YtbanjohfcnadfaaGreatDoor
