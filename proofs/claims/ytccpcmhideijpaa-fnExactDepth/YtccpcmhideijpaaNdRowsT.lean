/-
  The laws' own helpers on lists of Sent: copied, held against each other, their bulk.
-/
import Derived.Test.YtccpcmhideijpaaNdMath
import Derived.Test.YtccpcmhideijpaaPuSz
import Derived.Deep.RegionHeld
namespace Go.Proofs.Ytccpcmhideijpaa
open Go.RowKit
open Mth

abbrev SentAt (w : World) (a : Option Addr) (l : List Snt) : Prop := GR.At encSnt 4 w a l
abbrev SentV (p : Snt) : Value := .agg #[.int .i64 p.i, .int .i64 p.t, .string p.k, .int .i64 p.n]
theorem SentAt.four {w : World} {a : Option Addr} {l : List Snt} (h : SentAt w a l) (i : Nat) (hi : i < l.length) : ∃ g off, a = some ⟨g, off, none⟩ ∧ g < w.heap.size ∧ w.cell? ⟨g, off + i * 4, none⟩ = some (.int .i64 l[i].i) ∧ w.cell? ⟨g, off + i * 4 + 1, none⟩ = some (.int .i64 l[i].t) ∧ w.cell? ⟨g, off + i * 4 + 2, none⟩ = some (.string l[i].k) ∧ w.cell? ⟨g, off + i * 4 + 3, none⟩ = some (.int .i64 l[i].n) := by
  obtain ⟨g, off, e, hg, hc⟩ := h i hi
  refine ⟨g, off, e, hg, ?_, ?_, ?_, ?_⟩
  · simpa using hc 0 (by omega)
  · simpa [Nat.add_assoc] using hc 1 (by omega)
  · simpa [Nat.add_assoc] using hc 2 (by omega)
  · simpa [Nat.add_assoc] using hc 3 (by omega)
abbrev SentBlk (w : World) (g : Nat) (l : List Snt) : Prop := GR.Blk encSnt 75 w g l
theorem SentBlk.four {w : World} {g : Nat} {l : List Snt} (h : SentBlk w g l) (i : Nat) (hi : i < l.length) : w.cell? ⟨g, i * 4, none⟩ = some (.int .i64 l[i].i) ∧ w.cell? ⟨g, i * 4 + 1, none⟩ = some (.int .i64 l[i].t) ∧ w.cell? ⟨g, i * 4 + 2, none⟩ = some (.string l[i].k) ∧ w.cell? ⟨g, i * 4 + 3, none⟩ = some (.int .i64 l[i].n) :=
  ⟨by simpa using GR.Blk.cell h encSnt_length i hi 0 (by omega), by simpa using GR.Blk.cell h encSnt_length i hi 1 (by omega), by simpa using GR.Blk.cell h encSnt_length i hi 2 (by omega), by simpa using GR.Blk.cell h encSnt_length i hi 3 (by omega)⟩
theorem SentBlk.step {w w' : World} {g : Nat} {l : List Snt} (h : SentBlk w g l) (hb : Below w.heap.size w w') : SentBlk w' g l := by
  have hl := GR.Blk.lt h
  unfold SentBlk GR.Blk at *
  rw [hb.block g hl]
  exact h
theorem infoSent : (Try.prog.info? 75).map (fun i => (i.zero, i.size, i.bytes)) = some (some (.agg #[.int .i64 0, .int .i64 0, .string ByteArray.empty, .int .i64 0]), 4, 40) := by kernel_rfl
theorem makeSent (n : Nat) (hn : n ≤ 2000000) : ∀ W : World, (Instr.makeSlice 50 (.int .i64 (n : Int)) (.int .i64 (n : Int))).run Try.prog W = .ok (.slice (some ⟨W.heap.size, 0, none⟩) n n) (W.alloc (.cells (GR.flat encSnt (List.replicate n ⟨0, 0, ByteArray.empty, 0⟩)).toArray 75)) := by
  obtain ⟨i0, hi, hz0, hz1, hz2⟩ := info_parts infoSent
  intro W
  have h := run_make (P := Try.prog) W 50 75 i0 (.agg #[.int .i64 0, .int .i64 0, .string ByteArray.empty, .int .i64 0]) Try.underlying50 hi hz0 .i64 .i64 (n : Int) (n : Int) (by omega) (by omega) (by rw [hz2]; omega) (by omega)
  rw [hz1] at h
  have e := GR.made_flat encSnt 4 encSnt_length (by omega) ⟨0, 0, ByteArray.empty, 0⟩ (Value.cells (.agg #[.int .i64 0, .int .i64 0, .string ByteArray.empty, .int .i64 0])) rfl n
  simp only [Int.toNat_natCast] at h
  rw [e] at h
  exact h

set_option maxRecDepth 100000 in
theorem eqSent (p : Snt) (w : World) : Calls Try.prog 73 #[SentV p, SentV p] w fun e w' => e = .returned (.bool true) ∧ Below w.heap.size w w' := by
  obtain ⟨pi, pt, pk, pn⟩ := p
  go_enter Try.func73, Try.ntmps73
  go_wp2_with fail
  go_ret
  exact ⟨rfl, ((Below.refl _ _).alloc (Nat.le_refl _) _).alloc (by simp) _⟩
theorem take_setSent (l : List Snt) (z : Snt) (k : Nat) (hk : k < l.length) : (l.take k ++ List.replicate (l.length - k) z).set k l[k] = l.take (k + 1) ++ List.replicate (l.length - (k + 1)) z := by
  have hlen : (l.take k).length = k := by simp; omega
  rw [List.set_append_right _ _ (by omega), hlen, Nat.sub_self]
  have e : l.length - k = (l.length - (k + 1)) + 1 := by omega
  rw [e, List.replicate_succ, List.take_succ_eq_append_getElem hk, List.append_assoc]
  rfl

set_option maxRecDepth 100000 in
set_option maxHeartbeats 2000000 in
theorem eqSentS (a b : Option Addr) (ca cb : Nat) (l : List Snt) (w : World) (hl : l.length ≤ 1048600) (ha : SentAt w a l) (hb : SentAt w b l) :
    Calls Try.prog 54 #[.slice a l.length ca, .slice b l.length cb] w fun e w' => e = .returned (.bool true) ∧ Below w.heap.size w w' := by
  have HA := hide ha
  have HB := hide hb
  clear ha hb
  go_enter Try.func54, Try.ntmps54
  go_wp2_with fail
  go_loopw [5] (fun i wr => ∃ k : Nat, k ≤ l.length ∧ i = .int .i64 k ∧ Below w.heap.size w wr) (fun i _ => l.length - (intOf i).toNat)
  case atStart => exact ⟨0, Nat.zero_le _, rfl, Below.refl _ _⟩
  case round =>
    obtain ⟨k, hk, rfl, hbel⟩ := hrel
    have HBL := hide hbel
    clear hbel
    by_cases hlt : k < l.length
    · obtain ⟨g1, o1, rfl, hg1, s0, s1, s2, s3⟩ := SentAt.four (GR.At.below (unhide HA) (unhide HBL)) k hlt
      obtain ⟨g2, o2, rfl, hg2, t0, t1, t2, t3⟩ := SentAt.four (GR.At.below (unhide HB) (unhide HBL)) k hlt
      generalize l[k] = pu at *
      have HEQ := hide (fun w1 => eqSent pu w1)
      obtain ⟨pi, pt, pk, pn⟩ := pu
      dsimp only at s0 s1 s2 s3 t0 t1 t2 t3
      go_wp2_with fail
      go_region_held (fun w' => (w'.cell? ⟨g1, o1 + k * 4, none⟩ = some (.int .i64 pi) ∧ w'.cell? ⟨g1, o1 + k * 4 + 1, none⟩ = some (.int .i64 pt) ∧ w'.cell? ⟨g1, o1 + k * 4 + 2, none⟩ = some (.string pk) ∧ w'.cell? ⟨g1, o1 + k * 4 + 3, none⟩ = some (.int .i64 pn)) ∧ w'.cell? ⟨g2, o2 + k * 4, none⟩ = some (.int .i64 pi) ∧ w'.cell? ⟨g2, o2 + k * 4 + 1, none⟩ = some (.int .i64 pt) ∧ w'.cell? ⟨g2, o2 + k * 4 + 2, none⟩ = some (.string pk) ∧ w'.cell? ⟨g2, o2 + k * 4 + 3, none⟩ = some (.int .i64 pn)) (go_keep)
        (first
          | (go_at_call 73; refine (unhide HEQ _).mono ?_; rintro e w5 ⟨rfl, hb5⟩; have hb6 : Below wr.heap.size wr w5 := ⟨hb5.os, hb5.tape, hb5.output, hb5.size, hb5.block⟩; clear hb5; have HBL5 := hide ((unhide HBL).trans (hb6.mono (unhide HBL).size)); have y0 := (hb6.cell (p := ⟨g1, o1 + k * 4, none⟩) hg1).trans s0; have y1 := (hb6.cell (p := ⟨g1, o1 + k * 4 + 1, none⟩) hg1).trans s1; have y2 := (hb6.cell (p := ⟨g1, o1 + k * 4 + 2, none⟩) hg1).trans s2; have y3 := (hb6.cell (p := ⟨g1, o1 + k * 4 + 3, none⟩) hg1).trans s3; have z0 := (hb6.cell (p := ⟨g2, o2 + k * 4, none⟩) hg2).trans t0; have z1 := (hb6.cell (p := ⟨g2, o2 + k * 4 + 1, none⟩) hg2).trans t1; have z2 := (hb6.cell (p := ⟨g2, o2 + k * 4 + 2, none⟩) hg2).trans t2; have z3 := (hb6.cell (p := ⟨g2, o2 + k * 4 + 3, none⟩) hg2).trans t3; clear hb6))
      all_goals
        go_wp2_with fail
        go_roundw
        case rel => exact ⟨k + 1, by omega, by go_num, unhide HBL5⟩
        case measure => simp [intOf]; omega
    · have hke : k = l.length := by omega
      subst hke
      have hnlt : decide ((l.length : Int) < (l.length : Int)) = false := by simp
      go_wp2_with fail
      go_ret
      exact ⟨rfl, unhide HBL⟩

end Go.Proofs.Ytccpcmhideijpaa
