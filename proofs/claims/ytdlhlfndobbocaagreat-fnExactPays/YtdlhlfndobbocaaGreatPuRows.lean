/-
  The laws' own helpers on lists of purses: copied, held against each other.
-/
import Derived.Test.YtdlhlfndobbocaaGreatPuBase
import Derived.Deep.RegionHeld
namespace Go.Proofs.YtdlhlfndobbocaaGreat
open Go.RowKit
open Mth

abbrev puBlk (w : World) (g : Nat) (l : List Pu) : Prop := GR.Blk encP 94 w g l
theorem puBlk.four {w : World} {g : Nat} {l : List Pu} (h : puBlk w g l) (i : Nat) (hi : i < l.length) : w.cell? ⟨g, i * 4, none⟩ = some (.string l[i].k) ∧ w.cell? ⟨g, i * 4 + 1, none⟩ = some (.int .i64 l[i].m) ∧ w.cell? ⟨g, i * 4 + 2, none⟩ = some (.int .i64 l[i].f) ∧ w.cell? ⟨g, i * 4 + 3, none⟩ = some (.int .i64 l[i].s) :=
  ⟨by simpa using GR.Blk.cell h encP_length i hi 0 (by omega), by simpa using GR.Blk.cell h encP_length i hi 1 (by omega), by simpa using GR.Blk.cell h encP_length i hi 2 (by omega), by simpa using GR.Blk.cell h encP_length i hi 3 (by omega)⟩
theorem blkstep {w w' : World} {g : Nat} {l : List Pu} (h : puBlk w g l) (hb : Below w.heap.size w w') : puBlk w' g l := by
  have hl := GR.Blk.lt h
  unfold puBlk GR.Blk at *
  rw [hb.block g hl]
  exact h
/-- 'make([]impl.Purse, n)'. -/
theorem make_purses (n : Nat) (hn : n ≤ 2000000) : ∀ W : World, (Instr.makeSlice 32 (.int .i64 (n : Int)) (.int .i64 (n : Int))).run Tryz.prog W = .ok (.slice (some ⟨W.heap.size, 0, none⟩) n n) (W.alloc (.cells (GR.flat encP (List.replicate n ⟨ByteArray.empty, 0, 0, 0⟩)).toArray 94)) := by
  obtain ⟨i0, hi, hz0, hz1, hz2⟩ := info_parts infoPu
  intro W
  have h := run_make (P := Tryz.prog) W 32 94 i0 (.agg #[.string ByteArray.empty, .int .i64 0, .int .i64 0, .int .i64 0]) Tryz.underlying32 hi hz0 .i64 .i64 (n : Int) (n : Int) (by omega) (by omega) (by rw [hz2]; omega) (by omega)
  rw [hz1] at h
  have e := GR.made_flat encP 4 encP_length (by omega) ⟨ByteArray.empty, 0, 0, 0⟩ (Value.agg #[.string ByteArray.empty, .int .i64 0, .int .i64 0, .int .i64 0]).cells rfl n
  simp only [Int.toNat_natCast] at h
  rw [e] at h
  exact h

set_option maxRecDepth 100000 in
theorem toPurse (p : Pu) (w : World) : Calls Tryz.prog 52 #[puv p] w fun e w' => e = .returned (puv p) ∧ Below w.heap.size w w' := by
  obtain ⟨k, m, f, s⟩ := p
  go_enter Tryz.func52, Tryz.ntmps52
  go_wp2_with fail
  refine bodyPost_ret (v := .agg #[.string k, .int .i64 m, .int .i64 f, .int .i64 s]) (by simp [results, Tryz.results52, go_sem]) rfl ⟨rfl, ?_⟩
  exact (((Below.refl _ _).alloc (Nat.le_refl _) _).alloc (by simp) _).alloc (by simp; omega) _
set_option maxRecDepth 100000 in
theorem eqPurse (p : Pu) (w : World) : Calls Tryz.prog 64 #[puv p, puv p] w fun e w' => e = .returned (.bool true) ∧ Below w.heap.size w w' := by
  obtain ⟨k, m, f, s⟩ := p
  go_enter Tryz.func64, Tryz.ntmps64
  go_wp2_with fail
  go_ret
  exact ⟨rfl, ((Below.refl _ _).alloc (Nat.le_refl _) _).alloc (by simp) _⟩

theorem take_set_pu (l : List Pu) (z : Pu) (k : Nat) (hk : k < l.length) : (l.take k ++ List.replicate (l.length - k) z).set k l[k] = l.take (k + 1) ++ List.replicate (l.length - (k + 1)) z := by
  have hlen : (l.take k).length = k := by simp; omega
  rw [List.set_append_right _ _ (by omega), hlen, Nat.sub_self]
  have e : l.length - k = (l.length - (k + 1)) + 1 := by omega
  rw [e, List.replicate_succ, List.take_succ_eq_append_getElem hk, List.append_assoc]
  rfl

set_option maxRecDepth 100000 in
set_option maxHeartbeats 2000000 in
theorem toPurseS (a : Option Addr) (cap : Nat) (l : List Pu) (w : World) (hl : l.length ≤ 1048576) (ha : PursesAt w a l) :
    Calls Tryz.prog 21 #[.slice a l.length cap] w fun e w' => e = .returned (.slice (some ⟨w.heap.size, 0, none⟩) l.length l.length) ∧ puBlk w' w.heap.size l ∧ Below w.heap.size w w' := by
  have hmk := make_purses l.length (by omega)
  have HA := hide ha
  clear ha
  go_enter Tryz.func21, Tryz.ntmps21
  go_wp2_with fail
  go_loopw [4] (fun i wr => ∃ k : Nat, k ≤ l.length ∧ i = .int .i64 k ∧ puBlk wr w.heap.size (l.take k ++ List.replicate (l.length - k) ⟨ByteArray.empty, 0, 0, 0⟩) ∧ Below w.heap.size w wr) (fun i _ => l.length - (intOf i).toNat)
  case atStart => exact ⟨0, Nat.zero_le _, rfl, by unfold puBlk GR.Blk; rw [List.take_zero, List.nil_append, Nat.sub_zero]; exact heap_alloc_new w _, below_one' w _⟩
  case round =>
    obtain ⟨k, hk, rfl, hB, hbel⟩ := hrel
    have HB := hide hB
    have HBL := hide hbel
    clear hB hbel hmk
    by_cases hlt : k < l.length
    · obtain ⟨g, off, rfl, hgw, q0, q1, q2, q3⟩ := PursesAt.four (GR.At.below (unhide HA) (unhide HBL)) k hlt
      have TS := hide (take_set_pu l ⟨ByteArray.empty, 0, 0, 0⟩ k hlt)
      generalize l[k] = pu at *
      obtain ⟨pk, pm, pf, ps⟩ := pu
      dsimp only at q0 q1 q2 q3
      have hln : (l.take k ++ List.replicate (l.length - k) (⟨ByteArray.empty, 0, 0, 0⟩ : Pu)).length = l.length := by simp; omega
      go_wp2_with fail
      refine (toPurse ⟨pk, pm, pf, ps⟩ _).mono ?_
      rintro e w5 ⟨rfl, hb5⟩
      have HB5 := hide (blkstep (unhide HB) hb5)
      have HBL5 := hide ((unhide HBL).trans (hb5.mono (unhide HBL).size))
      clear hb5 q0 q1 q2 q3
      obtain ⟨s0, s1, s2, s3⟩ := puBlk.four (unhide HB5) k (by omega)
      have f0 := GR.Blk.free (unhide HB5) (k * 4)
      have f1 := GR.Blk.free (unhide HB5) (k * 4 + 1)
      have f2 := GR.Blk.free (unhide HB5) (k * 4 + 2)
      have f3 := GR.Blk.free (unhide HB5) (k * 4 + 3)
      go_wp2_with fail
      go_roundw
      case rel =>
        have h := GR.Blk.set (unhide HB5) encP_length k (by omega) ⟨pk, pm, pf, ps⟩
        rw [unhide TS] at h
        exact ⟨k + 1, by omega, by go_num, h, GR.setW_below (o := k * 4) (Nat.le_refl w.heap.size) (encP ⟨pk, pm, pf, ps⟩) (unhide HBL5)⟩
      case measure => simp [intOf]; omega
    · have hke : k = l.length := by omega
      subst hke
      have hnlt : decide ((l.length : Int) < (l.length : Int)) = false := by simp
      go_wp2_with fail
      go_ret
      have h := unhide HB
      rw [List.take_length, Nat.sub_self, List.replicate_zero, List.append_nil] at h
      exact ⟨rfl, h, unhide HBL⟩
end Go.Proofs.YtdlhlfndobbocaaGreat
