/-
  The program's list and copyPurses: purses by key in the keys' order, and a copy of purses, each in memory of its own.
-/
import Derived.Test.YtpglekkaplfdgaaDoorPmKey
import Derived.Test.YtpglekkaplfdgaaDoorPuI2
import Derived.Test.YtpglekkaplfdgaaDoorPuRows
namespace Go.Proofs.YtpglekkaplfdgaaDoor
open Go.RowKit Go.Maps
open Mth

set_option maxRecDepth 100000 in
set_option maxHeartbeats 2000000 in
theorem implCopy (a : Option Addr) (cap : Nat) (l : List Pu) (w : World) (hl : l.length ≤ 1048576) (hks : ∀ p ∈ l, p.k.size ≤ 1048576) (ha : PursesAt w a l) :
    Calls Tryd.prog 51 #[.slice a l.length cap] w fun e w' => e = .returned (.slice (some ⟨w.heap.size, 0, none⟩) l.length l.length) ∧ puBlk w' w.heap.size l ∧ Below w.heap.size w w' := by
  have hmk := make_purses l.length (by omega)
  have HA := hide ha
  have HKS := hide hks
  clear ha hks
  go_enter Tryd.func51, Tryd.ntmps51
  go_wp2_with fail
  go_loopw [11] (fun i wr => ∃ k : Nat, k ≤ l.length ∧ i = .int .i64 k ∧ puBlk wr w.heap.size (l.take k ++ List.replicate (l.length - k) ⟨ByteArray.empty, 0, 0, 0⟩) ∧ Below w.heap.size w wr) (fun i _ => l.length - (intOf i).toNat)
  case atStart => exact ⟨0, Nat.zero_le _, rfl, by unfold puBlk GR.Blk; rw [List.take_zero, List.nil_append, Nat.sub_zero]; exact heap_alloc_new w _, below_one' w _⟩
  case round =>
    obtain ⟨k, hk, rfl, hB, hbel⟩ := hrel
    have HB := hide hB
    have HBL := hide hbel
    clear hB hbel hmk
    by_cases hlt : k < l.length
    · obtain ⟨g, off, rfl, hgw, q0, q1, q2, q3⟩ := PursesAt.four (GR.At.below (unhide HA) (unhide HBL)) k hlt
      have TS := hide (take_set_pu l ⟨ByteArray.empty, 0, 0, 0⟩ k hlt)
      have hkk := unhide HKS l[k] (List.getElem_mem hlt)
      generalize l[k] = pu at *
      have HOK := hide (fun w1 => implOwnKey pu w1 hkk)
      clear hkk
      obtain ⟨pk, pm, pf, ps⟩ := pu
      dsimp only at q0 q1 q2 q3
      have hln : (l.take k ++ List.replicate (l.length - k) (⟨ByteArray.empty, 0, 0, 0⟩ : Pu)).length = l.length := by simp; omega
      go_wp2_with fail
      refine (unhide HOK _).mono ?_
      rintro e w5 ⟨rfl, hb5⟩
      obtain ⟨_, _, hb6⟩ := Fo.one_block hb5
      have HB5 := hide (blkstep (unhide HB) hb6)
      have HBL5 := hide ((unhide HBL).trans (hb6.mono (unhide HBL).size))
      clear hb5 hb6 q0 q1 q2 q3
      obtain ⟨s0, s1, s2, s3⟩ := puBlk.four (unhide HB5) k (by omega)
      have f0 := GR.Blk.free (unhide HB5) (k * 4)
      have f1 := GR.Blk.free (unhide HB5) (k * 4 + 1)
      have f2 := GR.Blk.free (unhide HB5) (k * 4 + 2)
      have f3 := GR.Blk.free (unhide HB5) (k * 4 + 3)
      go_wp2_with fail
      go_roundw
      case rel =>
        have h := GR.Blk.set (unhide HB5) encP_length k (by omega) ⟨pk, pm, pf, ps⟩
        rw [unhide TS] at h
        exact ⟨k + 1, by omega, by go_num, h, GR.setW_below (o := k * 4) (Nat.le_refl w.heap.size) (encP ⟨pk, pm, pf, ps⟩) (unhide HBL5)⟩
      case measure => simp [intOf]; omega
    · have hke : k = l.length := by omega
      subst hke
      have hnlt : decide ((l.length : Int) < (l.length : Int)) = false := by simp
      go_wp2_with fail
      go_ret
      have h := unhide HB
      rw [List.take_length, Nat.sub_self, List.replicate_zero, List.append_nil] at h
      exact ⟨rfl, h, unhide HBL⟩

set_option maxRecDepth 100000 in
set_option maxHeartbeats 2000000 in
theorem implList (B mp mb n : Nat) (v : Value) (l : List Pu) (G : ByteArray → Pu) (w : World) (hl : l.length ≤ 20) (hG : ∀ p ∈ l, G p.k = p) (hks : ∀ p ∈ l, p.k.size ≤ 1048576) (h : PM w B mp mb n v (l.map (·.k)) G) :
    Calls Tryd.prog 63 #[.pointer (some ⟨mp, 0, none⟩)] w fun e w' => e = .returned (.slice (some ⟨w.heap.size, 0, none⟩) l.length l.length) ∧ puBlk w' w.heap.size l ∧ Below w.heap.size w w' := by
  have hrow := h.row
  rw [List.length_map] at hrow
  obtain ⟨a, cap, rfl⟩ : ∃ a cap, v = .slice a l.length cap := by
    rcases hrow.2 with ⟨rfl, h0⟩ | ⟨g, cap, cur, rfl, _⟩
    · exact ⟨none, 0, by rw [h0]⟩
    · exact ⟨_, _, rfl⟩
  have hmk := make_purses l.length (by omega)
  have HH := hide h
  have HG := hide hG
  have HKS := hide hks
  have HR := hide hrow
  obtain ⟨⟨m0, m1⟩, _⟩ := two_at h.blk
  have hmp := Fo.lt_of_blk h.blk
  clear h hG hks hrow
  go_enter Tryd.func63, Tryd.ntmps63
  go_wp2_with fail
  go_loopw [17] (fun i wr => ∃ k : Nat, k ≤ l.length ∧ i = .int .i64 k ∧ puBlk wr w.heap.size (l.take k ++ List.replicate (l.length - k) ⟨ByteArray.empty, 0, 0, 0⟩) ∧ Below w.heap.size w wr) (fun i _ => l.length - (intOf i).toNat)
  case atStart => exact ⟨0, Nat.zero_le _, rfl, by unfold puBlk GR.Blk; rw [List.take_zero, List.nil_append, Nat.sub_zero]; exact heap_alloc_new w _, below_one' w _⟩
  case round =>
    obtain ⟨k, hk, rfl, hB, hbel⟩ := hrel
    have HB := hide hB
    have HBL := hide hbel
    clear hB hbel hmk
    by_cases hlt : k < l.length
    · obtain ⟨g, cap', ev, hgl, hgw⟩ := (unhide HR).form (by omega)
      have ea : a = some ⟨g, 0, none⟩ := by injection ev
      subst ea
      have c0 : ∀ (_ : k < l.length), Hid True := fun _ => trivial
      clear c0 ev
      have hcl : _ := (unhide HBL).cell (p := ⟨g, k, none⟩) hgw
      have hce := (unhide HR).cellAt k (by omega)
      have hck : w.cell? ⟨g, k, none⟩ = some (.string l[k].k) := by rw [hce]; simp [hlt]
      rw [hck] at hcl
      clear hce hck
      have TS := hide (take_set_pu l ⟨ByteArray.empty, 0, 0, 0⟩ k hlt)
      have hkk := unhide HKS l[k] (List.getElem_mem hlt)
      have hgk := unhide HG l[k] (List.getElem_mem hlt)
      have hPMr := (unhide HH).below (unhide HBL)
      generalize l[k] = pu at *
      have HGET := hide (implGet mp mb n _ G pu.k wr hkk hPMr.blk hPMr.map)
      rw [hgk] at HGET
      have HOK := hide (fun w1 => implOwnKey pu w1 hkk)
      clear hkk hgk hPMr
      obtain ⟨pk, pm, pf, ps⟩ := pu
      dsimp only at hcl
      have hln : (l.take k ++ List.replicate (l.length - k) (⟨ByteArray.empty, 0, 0, 0⟩ : Pu)).length = l.length := by simp; omega
      go_wp2_with fail
      refine (unhide HGET).mono ?_
      rintro e w4 ⟨rfl, hb4⟩
      have HB4 := hide (blkstep (unhide HB) hb4)
      have HBL4 := hide ((unhide HBL).trans (hb4.mono (unhide HBL).size))
      clear hb4 HGET
      go_wp2_with fail
      refine (unhide HOK _).mono ?_
      rintro e w5 ⟨rfl, hb5⟩
      have HB5 := hide (blkstep (unhide HB4) hb5)
      have HBL5 := hide ((unhide HBL4).trans (hb5.mono (unhide HBL4).size))
      clear hb5
      obtain ⟨s0, s1, s2, s3⟩ := puBlk.four (unhide HB5) k (by omega)
      have f0 := GR.Blk.free (unhide HB5) (k * 4)
      have f1 := GR.Blk.free (unhide HB5) (k * 4 + 1)
      have f2 := GR.Blk.free (unhide HB5) (k * 4 + 2)
      have f3 := GR.Blk.free (unhide HB5) (k * 4 + 3)
      go_wp2_with fail
      go_roundw
      case rel =>
        have h := GR.Blk.set (unhide HB5) encP_length k (by omega) ⟨pk, pm, pf, ps⟩
        rw [unhide TS] at h
        exact ⟨k + 1, by omega, by go_num, h, GR.setW_below (o := k * 4) (Nat.le_refl w.heap.size) (encP ⟨pk, pm, pf, ps⟩) (unhide HBL5)⟩
      case measure => simp [intOf]; omega
    · have hke : k = l.length := by omega
      subst hke
      have hnlt : decide ((l.length : Int) < (l.length : Int)) = false := by simp
      go_wp2_with fail
      go_ret
      have h := unhide HB
      rw [List.take_length, Nat.sub_self, List.replicate_zero, List.append_nil] at h
      exact ⟨rfl, h, unhide HBL⟩
end Go.Proofs.YtpglekkaplfdgaaDoor
