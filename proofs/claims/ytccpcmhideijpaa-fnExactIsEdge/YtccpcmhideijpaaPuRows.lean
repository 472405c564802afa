/-
  The laws' own helpers on lists of purses: copied, held against each other.
-/
import Derived.Test.YtccpcmhideijpaaPuBase
import Derived.Deep.RegionHeld
namespace Go.Proofs.Ytccpcmhideijpaa
open Go.RowKit
open Mth

abbrev puBlk (w : World) (g : Nat) (l : List Pu) : Prop := GR.Blk encP 73 w g l
theorem puBlk.four {w : World} {g : Nat} {l : List Pu} (h : puBlk w g l) (i : Nat) (hi : i < l.length) : w.cell? ⟨g, i * 4, none⟩ = some (.string l[i].k) ∧ w.cell? ⟨g, i * 4 + 1, none⟩ = some (.int .i64 l[i].m) ∧ w.cell? ⟨g, i * 4 + 2, none⟩ = some (.int .i64 l[i].f) ∧ w.cell? ⟨g, i * 4 + 3, none⟩ = some (.int .i64 l[i].s) :=
  ⟨by simpa using GR.Blk.cell h encP_length i hi 0 (by omega), by simpa using GR.Blk.cell h encP_length i hi 1 (by omega), by simpa using GR.Blk.cell h encP_length i hi 2 (by omega), by simpa using GR.Blk.cell h encP_length i hi 3 (by omega)⟩
theorem blkstep {w w' : World} {g : Nat} {l : List Pu} (h : puBlk w g l) (hb : Below w.heap.size w w') : puBlk w' g l := by
  have hl := GR.Blk.lt h
  unfold puBlk GR.Blk at *
  rw [hb.block g hl]
  exact h
/-- 'make([]impl.Purse, n)'. -/
theorem make_purses (n : Nat) (hn : n ≤ 2000000) : ∀ W : World, (Instr.makeSlice 49 (.int .i64 (n : Int)) (.int .i64 (n : Int))).run Try.prog W = .ok (.slice (some ⟨W.heap.size, 0, none⟩) n n) (W.alloc (.cells (GR.flat encP (List.replicate n ⟨ByteArray.empty, 0, 0, 0⟩)).toArray 73)) := by
  obtain ⟨i0, hi, hz0, hz1, hz2⟩ := info_parts infoPu
  intro W
  have h := run_make (P := Try.prog) W 49 73 i0 (.agg #[.string ByteArray.empty, .int .i64 0, .int .i64 0, .int .i64 0]) Try.underlying49 hi hz0 .i64 .i64 (n : Int) (n : Int) (by omega) (by omega) (by rw [hz2]; omega) (by omega)
  rw [hz1] at h
  have e := GR.made_flat encP 4 encP_length (by omega) ⟨ByteArray.empty, 0, 0, 0⟩ (Value.agg #[.string ByteArray.empty, .int .i64 0, .int .i64 0, .int .i64 0]).cells rfl n
  simp only [Int.toNat_natCast] at h
  rw [e] at h
  exact h

set_option maxRecDepth 100000 in
theorem eqPurse (p : Pu) (w : World) : Calls Try.prog 72 #[puv p, puv p] w fun e w' => e = .returned (.bool true) ∧ Below w.heap.size w w' := by
  obtain ⟨k, m, f, s⟩ := p
  go_enter Try.func72, Try.ntmps72
  go_wp2_with fail
  go_ret
  exact ⟨rfl, ((Below.refl _ _).alloc (Nat.le_refl _) _).alloc (by simp) _⟩

theorem take_set_pu (l : List Pu) (z : Pu) (k : Nat) (hk : k < l.length) : (l.take k ++ List.replicate (l.length - k) z).set k l[k] = l.take (k + 1) ++ List.replicate (l.length - (k + 1)) z := by
  have hlen : (l.take k).length = k := by simp; omega
  rw [List.set_append_right _ _ (by omega), hlen, Nat.sub_self]
  have e : l.length - k = (l.length - (k + 1)) + 1 := by omega
  rw [e, List.replicate_succ, List.take_succ_eq_append_getElem hk, List.append_assoc]
  rfl

end Go.Proofs.Ytccpcmhideijpaa
