/-
  The model's GetMsg.
-/
import Derived.Test.YtiinpdkgnflmeaaDoorMgNums
import Derived.Test.YtiinpdkgnflmeaaDoorMgGetV
import Derived.Test.YtiinpdkgnflmeaaDoorMgPutS
import Derived.Test.YtiinpdkgnflmeaaDoorSevens
import Derived.BigRegion
namespace Go.Proofs.YtiinpdkgnflmeaaDoor
open Go.RowKit
open Mth

set_option maxRecDepth 100000 in
set_option maxHeartbeats 2000000 in
theorem specGetMsg_nil (w : World) : Calls Tryd.prog 20 #[.string ByteArray.empty] w fun e w' => e = .returned (.tuple #[.agg #[.int .i64 0, .int .i64 0, .int .i64 0, .int .i64 0, .int .i64 0, .string ⟨#[]⟩, .int .i64 0], .bool false]) ∧ Below w.heap.size w w' := by
  go_enter Tryd.func20, Tryd.ntmps20
  go_wp2_with fail
  exact bodyPost_ret (v := .tuple #[.agg #[.int .i64 0, .int .i64 0, .int .i64 0, .int .i64 0, .int .i64 0, .string ⟨#[]⟩, .int .i64 0], .bool false]) (by simp [results, Tryd.results20, go_sem]) rfl ⟨rfl, below_one w _⟩

set_option maxRecDepth 100000 in
set_option maxHeartbeats 4000000 in
theorem specGetMsg_some (s : ByteArray) (hs : s.size ≤ maxLen) (h0 : 0 < s.size) (w : World) : Calls Tryd.prog 20 #[.string s] w fun e w' => e = .returned (getV s) ∧ Below w.heap.size w w' := by
  have HN := hide (fun w1 => l04Nums s hs w1)
  have HT := hide (fun w1 => specRt s (posN s 4) hs w1)
  have HG := hide (fun w1 => specRd s (rtE s (posN s 4)) hs w1)
  have hcs : (cand s).k.size ≤ maxLen := by
    show (rtS s (posN s 4)).size ≤ maxLen
    by_cases h : 0 ≤ rtE s (posN s 4)
    · exact Nat.le_trans (text_piece h).2.2.2.1 (by unfold maxLen; omega)
    · unfold rtE at h
      unfold rtS
      cases hG : textOf s (posN s 4).toNat (getAt s (posN s 4)) with
      | none => simp [txtS]
      | some p => rw [hG] at h; exact absurd (by simp [txtE]) h
  have HP := hide (fun w1 => specPutMsg (cand s) w1 hcs)
  have HO := hide (getOk_spec h0)
  have hcand : cand s = ⟨s[0].toNat, rdN s (posN s 0), rdN s (posN s 1), rdN s (posN s 2), rdN s (posN s 3), rtS s (posN s 4), rdN s (rtE s (posN s 4))⟩ := by unfold cand; rw [head_at h0]; rfl
  have HM := hide (show getOk s = true → getV s = .tuple #[mgv (cand s), .bool true] from fun h => by unfold getV getMg; rw [h, if_pos rfl])
  have HZ := hide (show getOk s = false → getV s = .tuple #[.agg #[.int .i64 0, .int .i64 0, .int .i64 0, .int .i64 0, .int .i64 0, .string ⟨#[]⟩, .int .i64 0], .bool false] from getV_no)
  have hE : candE s = rdE s (rtE s (posN s 4)) := rfl
  rw [hE] at HO
  rw [hcand] at HP HM HO
  clear hcs hcand hE
  have hne := not_empty s h0
  have hi0 : (0 : Int) < (s.size : Int) := by omega
  generalize getV s = RES at *
  generalize getOk s = OK at *
  generalize rdN s (posN s 0) = N1 at *
  generalize rdN s (posN s 1) = N2 at *
  generalize rdN s (posN s 2) = N3 at *
  generalize rdN s (posN s 3) = N4 at *
  generalize rdN s (rtE s (posN s 4)) = N5 at *
  generalize rtS s (posN s 4) = TX at *
  generalize rdE s (rtE s (posN s 4)) = E6 at *
  generalize rtE s (posN s 4) = E5 at *
  generalize posN s 4 = E4 at *
  go_enter Tryd.func20, Tryd.ntmps20
  go_wp2_with fail
  refine (unhide HN _).mono ?_
  rintro e w1 ⟨g, cap, rfl, hg1, hc1, hb1⟩
  have hR1 := blk_step (heap_alloc_new w _) hb1
  have hB1 := (below_one w _).trans (hb1.mono (by simp))
  have hC1 := hide hc1
  clear hb1 hc1
  go_wp2_with fail
  refine (unhide HT _).mono ?_
  rintro e w2 ⟨rfl, hb2⟩
  have hR2 := blk_step hR1 hb2
  have hB2 := hB1.trans (hb2.mono hB1.size)
  have hg2 := Nat.lt_of_lt_of_le hg1 hb2.size
  have hC2 := hide (show w2.cell? ⟨g, 0, none⟩ = some (.int .i64 N1) ∧ w2.cell? ⟨g, 1, none⟩ = some (.int .i64 N2) ∧ w2.cell? ⟨g, 2, none⟩ = some (.int .i64 N3) ∧ w2.cell? ⟨g, 3, none⟩ = some (.int .i64 N4) by simp only [(bcell hb2).1 g _ hg1]; exact unhide hC1)
  clear hb2 hR1 hB1 hg1 hC1
  go_wp2_with fail
  refine (unhide HG _).mono ?_
  rintro e w3 ⟨rfl, hb3⟩
  have hR3 := blk_step hR2 hb3
  have hB3 := hB2.trans (hb3.mono hB2.size)
  have hg3 := Nat.lt_of_lt_of_le hg2 hb3.size
  have hC3 : w3.cell? ⟨g, 0, none⟩ = some (.int .i64 N1) ∧ w3.cell? ⟨g, 1, none⟩ = some (.int .i64 N2) ∧ w3.cell? ⟨g, 2, none⟩ = some (.int .i64 N3) ∧ w3.cell? ⟨g, 3, none⟩ = some (.int .i64 N4) := by simp only [(bcell hb3).1 g _ hg2]; exact unhide hC2
  obtain ⟨c0, c1, c2, c3⟩ := hC3
  clear hb3 hR2 hB2 hg2 hC2
  have HR3 := hide hR3
  have HB3 := hide hB3
  clear hR3 hB3
  have hb0 : s[0].toNat < 256 := s[0].toNat_lt
  have hw64 : wrap64 (s[0].toNat : Int) = (s[0].toNat : Int) := IntWalk.wrap64_in _ ⟨by omega, by omega⟩
  go_upto_region 6 with fail
  go_region
  go_upto_region 7 with fail
  refine wp_at (fun V hV => ?_)
  have hM : V.heap[w3.heap.size]? = some (.cells #[.int .i64 (s[0].toNat : Int), .int .i64 N1, .int .i64 N2, .int .i64 N3, .int .i64 N4, .string TX, .int .i64 N5] 23 (0, 0)) := by rw [hV]; exact heap_alloc_new w3 _
  have hlt := blk_lt (unhide HR3)
  have hR : V.heap[w.heap.size]? = some (.cells #[.int .i64 0, .int .i64 0, .int .i64 0, .int .i64 0, .int .i64 0, .string ⟨#[]⟩, .int .i64 0] 23 (0, 0)) := by
    rw [hV]
    show (w3.alloc _).heap[w.heap.size]? = _
    rw [Below.heap_alloc _ _ _ hlt]
    exact unhide HR3
  have hB : Below w.heap.size w V := by
    rw [hV]
    have h1 := (unhide HB3).alloc (unhide HB3).size (.cells #[.int .i64 (s[0].toNat : Int), .int .i64 N1, .int .i64 N2, .int .i64 N3, .int .i64 N4, .string TX, .int .i64 N5] 23)
    exact ⟨h1.os, h1.tape, h1.output, h1.size, h1.block⟩
  clear hV HR3 HB3 c0 c1 c2 c3 hg3 HN HT HG hw64 hb0
  have hzM := blk_lt hM
  have hzR := blk_lt hR
  by_cases hE : 0 ≤ E6
  case' neg =>
    have hO : OK = false := by rw [unhide HO, decide_eq_false hE]; rfl
    have hRes := hide (unhide HZ hO)
    have hE2 : E6 < 0 := by omega
    obtain ⟨⟨d0, d1, d2, d3, d4, d5, d6⟩, f0, f1, f2, f3, f4, f5, f6⟩ := seven_at hR
    have HR := hide hR
    have HB := hide hB
    clear hO HO HZ HM HP hM hR hB hE
    go_wp2_with fail
    refine bodyPost_at (fun W' hW' => ?_)
    obtain ⟨⟨r0, r1, r2, r3, r4, r5, r6⟩, _⟩ := seven_at (show W'.heap[w.heap.size]? = some (.cells #[.int .i64 0, .int .i64 0, .int .i64 0, .int .i64 0, .int .i64 0, .string ⟨#[]⟩, .int .i64 0] 23 (0, 0)) by rw [hW']; exact seven_set (unhide HR))
    have hbb : Below w.heap.size w W' := by rw [hW']; exact seven_below (unhide HB) (Nat.le_refl _)
    exact bodyPost_ret (v := .tuple #[.agg #[.int .i64 0, .int .i64 0, .int .i64 0, .int .i64 0, .int .i64 0, .string ⟨#[]⟩, .int .i64 0], .bool false]) (by simp [results, Tryd.results20, go_sem, r0, r1, r2, r3, r4, r5, r6]) rfl ⟨by rw [unhide hRes], hbb⟩
  have hE2 : ¬ (E6 < 0) := by omega
  obtain ⟨q0, q1, q2, q3, q4, q5, q6⟩ := cells7 hM
  have HR := hide hR
  have HB := hide hB
  have HMB := hide hM
  clear hR hB hM
  go_wp2_with fail
  refine (unhide HP _).mono ?_
  rintro e w5 ⟨rfl, hb5⟩
  have hR5 := blk_step (unhide HR) hb5
  have hM5 := blk_step (unhide HMB) hb5
  have hB5 := (unhide HB).trans (hb5.mono (unhide HB).size)
  have hzM5 := blk_lt hM5
  have hzR5 := blk_lt hR5
  obtain ⟨⟨d0, d1, d2, d3, d4, d5, d6⟩, f0, f1, f2, f3, f4, f5, f6⟩ := seven_at hR5
  have HR5 := hide hR5
  have HB5 := hide hB5
  clear hb5 HR HMB HB q0 q1 q2 q3 q4 q5 q6 HP hzM hzR
  by_cases hp : putMsg ⟨s[0].toNat, N1, N2, N3, N4, TX, N5⟩ = s
  case' neg =>
    have hO : OK = false := by rw [unhide HO, decide_eq_false hp]; simp
    have hRes := hide (unhide HZ hO)
    have hq : ((putMsg ⟨s[0].toNat, N1, N2, N3, N4, TX, N5⟩).toList == s.toList) = false := by
      rw [beq_eq_false_iff_ne]
      intro h
      rw [ByteArray.toList_eq, ByteArray.toList_eq] at h
      exact hp (ByteArray.ext (Array.ext' h))
    clear hO HO HZ HM hM5 hR5 hB5
    generalize putMsg ⟨s[0].toNat, N1, N2, N3, N4, TX, N5⟩ = pm at *
    have HP := hide hp
    clear hp
    go_wp2_with fail
    refine bodyPost_at (fun W' hW' => ?_)
    obtain ⟨⟨r0, r1, r2, r3, r4, r5, r6⟩, _⟩ := seven_at (show W'.heap[w.heap.size]? = some (.cells #[.int .i64 0, .int .i64 0, .int .i64 0, .int .i64 0, .int .i64 0, .string ⟨#[]⟩, .int .i64 0] 23 (0, 0)) by rw [hW']; exact seven_set (unhide HR5))
    have hbb : Below w.heap.size w W' := by rw [hW']; exact seven_below (unhide HB5) (Nat.le_refl _)
    exact bodyPost_ret (v := .tuple #[.agg #[.int .i64 0, .int .i64 0, .int .i64 0, .int .i64 0, .int .i64 0, .string ⟨#[]⟩, .int .i64 0], .bool false]) (by simp [results, Tryd.results20, go_sem, r0, r1, r2, r3, r4, r5, r6]) rfl ⟨by rw [unhide hRes], hbb⟩
  have hO : OK = true := by rw [unhide HO, decide_eq_true hE, decide_eq_true hp]; rfl
  have hRes := hide (unhide HM hO)
  have hq : ((putMsg ⟨s[0].toNat, N1, N2, N3, N4, TX, N5⟩).toList == s.toList) = true := by rw [hp]; simp
  obtain ⟨q0, q1, q2, q3, q4, q5, q6⟩ := cells7 hM5
  clear hO HO HZ HM hM5 hR5 hB5
  have HP := hide hp
  clear hp
  generalize putMsg ⟨s[0].toNat, N1, N2, N3, N4, TX, N5⟩ = pm at *
  go_wp2_with fail
  refine bodyPost_at (fun W' hW' => ?_)
  obtain ⟨⟨r0, r1, r2, r3, r4, r5, r6⟩, _⟩ := seven_at (show W'.heap[w.heap.size]? = some (.cells #[.int .i64 (s[0].toNat : Int), .int .i64 N1, .int .i64 N2, .int .i64 N3, .int .i64 N4, .string TX, .int .i64 N5] 23 (0, 0)) by rw [hW']; exact seven_set (unhide HR5))
  have hbb : Below w.heap.size w W' := by rw [hW']; exact seven_below (unhide HB5) (Nat.le_refl _)
  exact bodyPost_ret (v := .tuple #[.agg #[.int .i64 (s[0].toNat : Int), .int .i64 N1, .int .i64 N2, .int .i64 N3, .int .i64 N4, .string TX, .int .i64 N5], .bool true]) (by simp [results, Tryd.results20, go_sem, r0, r1, r2, r3, r4, r5, r6]) rfl ⟨by rw [unhide hRes], hbb⟩
theorem specGetMsg (s : ByteArray) (hs : s.size ≤ maxLen) (w : World) : Calls Tryd.prog 20 #[.string s] w fun e w' => e = .returned (getV s) ∧ Below w.heap.size w w' := by
  by_cases h0 : s.size = 0
  · obtain rfl := eq_empty s h0
    rw [getV_no (show getOk ByteArray.empty = false by unfold getOk; simp)]
    exact specGetMsg_nil w
  · exact specGetMsg_some s hs (by omega) w
end Go.Proofs.YtiinpdkgnflmeaaDoor
