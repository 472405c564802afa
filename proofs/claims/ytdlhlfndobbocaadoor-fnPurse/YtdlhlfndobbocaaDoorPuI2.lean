/-
  The program's PurseOf and Holding.
-/
import Derived.Test.YtdlhlfndobbocaaDoorPuI
import Derived.Test.YtdlhlfndobbocaaDoorFours
namespace Go.Proofs.YtdlhlfndobbocaaDoor
open Go.RowKit
open Mth

set_option maxRecDepth 100000 in
set_option maxHeartbeats 2000000 in
theorem implOwnKey (p : Pu) (w : World) (hk : p.k.size ≤ 1048576) : Calls Tryd.prog 39 #[puv p] w fun e w' => e = .returned (puv p) ∧ Below w.heap.size w w' := by
  obtain ⟨pk, pm, pf, ps⟩ := p
  have HC := hide (fun w1 => clone pk w1 (by dsimp only at hk; omega))
  clear hk
  go_enter Tryd.func39, Tryd.ntmps39
  go_wp2_with fail
  refine (unhide HC _).mono ?_
  rintro e w1 ⟨rfl, hb1⟩
  obtain ⟨hA, hB, hz, hbel⟩ := Fo.two_blocks hb1
  have HB := hide hB
  have HBL := hide hbel
  obtain ⟨⟨p0, p1, p2, p3⟩, q0, q1, q2, q3⟩ := four_at hA
  obtain ⟨⟨r0, r1, r2, r3⟩, s0, s1, s2, s3⟩ := four_at hB
  clear hb1 hA hB hbel
  go_wp2_with fail
  clear r0 r1 r2 r3
  refine Fo.bodyPost_at (fun W' hW' => ?_)
  obtain ⟨⟨r0, r1, r2, r3⟩, _⟩ := four_at (show W'.heap[w.heap.size + 1]? = some (.cells #[.string pk, .int .i64 pm, .int .i64 pf, .int .i64 ps] 32 (0, 0)) by rw [hW']; exact Fo.four_set (Fo.one_other (unhide HB) (by omega)))
  have hbb : Below w.heap.size w W' := by rw [hW']; exact Fo.four_below ((unhide HBL).setCell (p := ⟨w.heap.size, 0, none⟩) (Nat.le_refl _) _) (by omega)
  refine bodyPost_ret (v := .agg #[.string pk, .int .i64 pm, .int .i64 pf, .int .i64 ps]) (by simp [results, Tryd.results39, go_sem, r0, r1, r2, r3]) rfl ⟨rfl, hbb⟩

set_option maxRecDepth 100000 in
set_option maxHeartbeats 2000000 in
theorem implPurseOf (a : Option Addr) (cap : Nat) (l : List Pu) (key : ByteArray) (w : World) (hl : l.length ≤ 1048600) (hks : ∀ p ∈ l, p.k.size ≤ 1048576) (hkey : key.size ≤ 1048576) (ha : PursesAt w a l) :
    Calls Tryd.prog 24 #[.slice a l.length cap, .string key] w fun e w' => e = .returned (puv (purseOf l key)) ∧ Below w.heap.size w w' := by
  have HA := hide ha
  have HKS := hide hks
  have HCL := hide (fun w1 => clone key w1 (by omega))
  clear ha hks
  go_enter Tryd.func24, Tryd.ntmps24
  go_wp2_with fail
  go_loopw [9] (fun i wr => ∃ k : Nat, k ≤ l.length ∧ i = .int .i64 k ∧ (l.take k).find? (fun p => p.k.toList == key.toList) = none ∧ Below w.heap.size w wr ∧ wr.heap[w.heap.size]? = some (.cells #[.string ⟨#[]⟩, .int .i64 0, .int .i64 0, .int .i64 0] 32 (0, 0))) (fun i _ => l.length - (intOf i).toNat)
  case atStart => exact ⟨0, Nat.zero_le _, rfl, rfl, below_one' w _, heap_alloc_new w _⟩
  case round =>
    obtain ⟨k, hk, rfl, hnone, hbel, hblk⟩ := hrel
    have HN := hide hnone
    have HBL := hide hbel
    have HBK := hide hblk
    have hlt0 := Fo.lt_of_blk hblk
    clear hnone hbel hblk
    by_cases hlt : k < l.length
    · obtain ⟨g, off, rfl, hgw, c0, c1, c2, c3⟩ := PursesAt.four (GR.At.below (unhide HA) (unhide HBL)) k hlt
      have hfs := find_step (fun p => p.k.toList == key.toList) l k hlt (unhide HN)
      have hkk := unhide HKS l[k] (List.getElem_mem hlt)
      cases hf : l[k].k.toList == key.toList
      · have HX := hide (hfs.2 hf)
        clear hfs HN hkk
        generalize l[k] = pu at *
        obtain ⟨pk, pm, pf, ps⟩ := pu
        dsimp only at c0 c1 c2 c3 hf
        go_wp2_with fail
        go_roundw
        case rel => exact ⟨k + 1, by omega, by go_num, unhide HX, by first | exact (unhide HBL).alloc (unhide HBL).size _ | exact unhide HBL, by first | (rw [Below.heap_alloc _ _ _ hlt0]; exact unhide HBK) | exact unhide HBK⟩
        case measure => simp [intOf]; omega
      · have HX := hide (show purseOf l key = l[k] by unfold purseOf; rw [hfs.1 hf]; rfl)
        clear hfs HN
        generalize l[k] = pu at *
        have HOK := hide (fun w1 => implOwnKey pu w1 hkk)
        clear hkk
        obtain ⟨pk, pm, pf, ps⟩ := pu
        dsimp only at c0 c1 c2 c3 hf
        go_wp2_with fail
        refine (unhide HOK _).mono ?_
        rintro e w1 ⟨rfl, hb1⟩
        have hb2 := (unhide HBL).trans ((Below.mono (Fo.one_block hb1).2.2 (unhide HBL).size))
        have hB : w1.heap[w.heap.size]? = some (.cells #[.string ⟨#[]⟩, .int .i64 0, .int .i64 0, .int .i64 0] 32 (0, 0)) := by rw [(Fo.one_block hb1).2.2.block _ hlt0]; exact unhide HBK
        have HB := hide hB
        have HB2 := hide hb2
        obtain ⟨⟨r0, r1, r2, r3⟩, s0, s1, s2, s3⟩ := four_at hB
        clear hB hb1 hb2
        go_wp2_with fail
        clear r0 r1 r2 r3
        refine Fo.bodyPost_at (fun W' hW' => ?_)
        obtain ⟨⟨r0, r1, r2, r3⟩, _⟩ := four_at (show W'.heap[w.heap.size]? = some (.cells #[.string pk, .int .i64 pm, .int .i64 pf, .int .i64 ps] 32 (0, 0)) by rw [hW']; exact Fo.four_set (unhide HB))
        have hbb : Below w.heap.size w W' := by rw [hW']; exact Fo.four_below (unhide HB2) (Nat.le_refl _)
        refine bodyPost_ret (v := .agg #[.string pk, .int .i64 pm, .int .i64 pf, .int .i64 ps]) (by simp [results, Tryd.results24, go_sem, r0, r1, r2, r3]) rfl ⟨by rw [unhide HX], hbb⟩
    · have hke : k = l.length := by omega
      subst hke
      have hnlt : decide ((l.length : Int) < (l.length : Int)) = false := by simp
      have HX := hide (show purseOf l key = ⟨key, 0, 0, 0⟩ by
        have h := unhide HN
        rw [List.take_length] at h
        unfold purseOf
        rw [h]
        rfl)
      go_wp2_with fail
      refine (unhide HCL _).mono ?_
      rintro e w1 ⟨rfl, hb1⟩
      have hB : w1.heap[w.heap.size]? = some (.cells #[.string ⟨#[]⟩, .int .i64 0, .int .i64 0, .int .i64 0] 32 (0, 0)) := by rw [hb1.block _ hlt0]; exact unhide HBK
      have HB := hide hB
      have HB2 := hide ((unhide HBL).trans (hb1.mono (unhide HBL).size))
      obtain ⟨⟨r0, r1, r2, r3⟩, s0, s1, s2, s3⟩ := four_at hB
      clear hB hb1
      go_wp2_with fail
      clear r0 r1 r2 r3
      refine Fo.bodyPost_at (fun W' hW' => ?_)
      obtain ⟨⟨r0, r1, r2, r3⟩, _⟩ := four_at (show W'.heap[w.heap.size]? = some (.cells #[.string key, .int .i64 0, .int .i64 0, .int .i64 0] 32 (0, 0)) by rw [hW']; exact Fo.four_set (unhide HB))
      have hbb : Below w.heap.size w W' := by rw [hW']; exact Fo.four_below (unhide HB2) (Nat.le_refl _)
      refine bodyPost_ret (v := .agg #[.string key, .int .i64 0, .int .i64 0, .int .i64 0]) (by simp [results, Tryd.results24, go_sem, r0, r1, r2, r3]) rfl ⟨by rw [unhide HX], hbb⟩

set_option maxRecDepth 100000 in
set_option maxHeartbeats 1000000 in
theorem implHolding (a : Option Addr) (cap : Nat) (l : List Pu) (key : ByteArray) (w : World) (hl : l.length ≤ 1048600) (hks : ∀ p ∈ l, p.k.size ≤ 1048576) (hkey : key.size ≤ 1048576) (ha : PursesAt w a l) :
    Calls Tryd.prog 26 #[.slice a l.length cap, .string key] w fun e w' => e = .returned (.int .i64 (wrap64 ((purseOf l key).f + (purseOf l key).s))) ∧ Below w.heap.size w w' := by
  have HP := hide (implPurseOf a cap l key w hl hks hkey ha)
  clear ha hks
  generalize purseOf l key = p at *
  obtain ⟨pk, pm, pf, ps⟩ := p
  go_enter Tryd.func26, Tryd.ntmps26
  go_wp2_with fail
  refine (unhide HP).mono ?_
  rintro e w1 ⟨rfl, hb1⟩
  go_wp2_with fail
  go_ret
  exact ⟨rfl, hb1.alloc hb1.size _⟩
end Go.Proofs.YtdlhlfndobbocaaDoor
