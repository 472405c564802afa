/- Parts. -/
import Derived.Test.YtikdkijggejnfaaGreatDoorPj6
import Derived.Test.YtikdkijggejnfaaGreatDoorPj4
import Derived.Test.YtikdkijggejnfaaGreatDoorPj8
import Derived.Test.YtikdkijggejnfaaGreatDoorPj10
import Derived.Test.YtikdkijggejnfaaGreatDoorPj12
import Derived.Test.YtikdkijggejnfaaGreatDoorPj15
import Derived.BigRegion
namespace Go.Proofs.YtikdkijggejnfaaGreatDoor
open Go.RowKit
open Mth

set_option maxRecDepth 100000 in
set_option maxHeartbeats 2000000 in
theorem specGetMsg_nil (w : World) : Calls Tryz.prog 47 #[.string ByteArray.empty] w fun e w' => e = .returned (.tuple #[.agg #[.int .i64 0, .int .i64 0, .int .i64 0, .int .i64 0, .int .i64 0, .string ⟨#[]⟩, .int .i64 0], .bool false]) ∧ Below w.heap.size w w' := by
  go_enter Tryz.func47, Tryz.ntmps47
  go_wp2_with fail
  exact bodyPost_ret (v := .tuple #[.agg #[.int .i64 0, .int .i64 0, .int .i64 0, .int .i64 0, .int .i64 0, .string ⟨#[]⟩, .int .i64 0], .bool false]) (by simp [results, Tryz.results47, go_sem]) rfl ⟨rfl, below_one w _⟩

set_option maxRecDepth 100000 in
set_option maxHeartbeats 4000000 in
theorem specGetMsg_some (s : ByteArray) (hs : s.size ≤ maxLen) (h0 : 0 < s.size) (w : World) : Calls Tryz.prog 47 #[.string s] w fun e w' => e = .returned (getV s) ∧ Below w.heap.size w w' := by
  have HN := hide (fun w1 => l04Nums s hs w1)
  have HT := hide (fun w1 => specRt s (posN s 4) hs w1)
  have HG := hide (fun w1 => specRd s (rtE s (posN s 4)) hs w1)
  have hcs : (cand s).k.size ≤ maxLen := by
    show (rtS s (posN s 4)).size ≤ maxLen
    by_cases h : 0 ≤ rtE s (posN s 4)
    · exact Nat.le_trans (text_piece h).2.2.2.1 (by unfold maxLen; omega)
    · unfold rtE at h
      unfold rtS
      cases hG : textOf s (posN s 4).toNat (getAt s (posN s 4)) with
      | none => simp [txtS]
      | some p => rw [hG] at h; exact absurd (by simp [txtE]) h
  have HP := hide (fun w1 => specPutMsg (cand s) w1 hcs)
  have HO := hide (getOk_spec h0)
  have hcand : cand s = ⟨s[0].toNat, rdN s (posN s 0), rdN s (posN s 1), rdN s (posN s 2), rdN s (posN s 3), rtS s (posN s 4), rdN s (rtE s (posN s 4))⟩ := by unfold cand; rw [head_at h0]; rfl
  have HM := hide (show getOk s = true → getV s = .tuple #[mgv (cand s), .bool true] from fun h => by unfold getV getMg; rw [h, if_pos rfl])
  have HZ := hide (show getOk s = false → getV s = .tuple #[.agg #[.int .i64 0, .int .i64 0, .int .i64 0, .int .i64 0, .int .i64 0, .string ⟨#[]⟩, .int .i64 0], .bool false] from getV_no)
  have hE : candE s = rdE s (rtE s (posN s 4)) := rfl
  rw [hE] at HO
  rw [hcand] at HP HM HO
  clear hcs hcand hE
  have hne := not_empty s h0
  have hi0 : (0 : Int) < (s.size : Int) := by omega
  generalize getV s = RES at *
  generalize getOk s = OK at *
  generalize rdN s (posN s 0) = N1 at *
  generalize rdN s (posN s 1) = N2 at *
  generalize rdN s (posN s 2) = N3 at *
  generalize rdN s (posN s 3) = N4 at *
  generalize rdN s (rtE s (posN s 4)) = N5 at *
  generalize rtS s (posN s 4) = TX at *
  generalize rdE s (rtE s (posN s 4)) = E6 at *
  generalize rtE s (posN s 4) = E5 at *
  generalize posN s 4 = E4 at *
  go_enter Tryz.func47, Tryz.ntmps47
  go_wp2_with fail
  refine (unhide HN _).mono ?_
  rintro e w1 ⟨g, cap, rfl, hg1, hc1, hb1⟩
  have hR1 := blk_step (heap_alloc_new w _) hb1
  have hB1 := (below_one w _).trans (hb1.mono (by simp))
  have hC1 := hide hc1
  clear hb1 hc1
  go_wp2_with fail
  refine (unhide HT _).mono ?_
  rintro e w2 ⟨rfl, hb2⟩
  have hR2 := blk_step hR1 hb2
  have hB2 := hB1.trans (hb2.mono hB1.size)
  have hg2 := Nat.lt_of_lt_of_le hg1 hb2.size
  have hC2 := hide (show w2.cell? ⟨g, 0, none⟩ = some (.int .i64 N1) ∧ w2.cell? ⟨g, 1, none⟩ = some (.int .i64 N2) ∧ w2.cell? ⟨g, 2, none⟩ = some (.int .i64 N3) ∧ w2.cell? ⟨g, 3, none⟩ = some (.int .i64 N4) by simp only [(bcell hb2).1 g _ hg1]; exact unhide hC1)
  clear hb2 hR1 hB1 hg1 hC1
  go_wp2_with fail
  refine (unhide HG _).mono ?_
  rintro e w3 ⟨rfl, hb3⟩
  have hR3 := blk_step hR2 hb3
  have hB3 := hB2.trans (hb3.mono hB2.size)
  have hg3 := Nat.lt_of_lt_of_le hg2 hb3.size
  have hC3 : w3.cell? ⟨g, 0, none⟩ = some (.int .i64 N1) ∧ w3.cell? ⟨g, 1, none⟩ = some (.int .i64 N2) ∧ w3.cell? ⟨g, 2, none⟩ = some (.int .i64 N3) ∧ w3.cell? ⟨g, 3, none⟩ = some (.int .i64 N4) := by simp only [(bcell hb3).1 g _ hg2]; exact unhide hC2
  obtain ⟨c0, c1, c2, c3⟩ := hC3
  clear hb3 hR2 hB2 hg2 hC2
  have HR3 := hide hR3
  have HB3 := hide hB3
  clear hR3 hB3
  have hb0 : s[0].toNat < 256 := s[0].toNat_lt
  have hw64 : wrap64 (s[0].toNat : Int) = (s[0].toNat : Int) := IntWalk.wrap64_in _ ⟨by omega, by omega⟩
  go_upto_region 6 with fail
  go_region
  go_upto_region 7 with fail
  refine wp_at (fun V hV => ?_)
  have hM : V.heap[w3.heap.size]? = some (.cells #[.int .i64 (s[0].toNat : Int), .int .i64 N1, .int .i64 N2, .int .i64 N3, .int .i64 N4, .string TX, .int .i64 N5] 23 (0, 0)) := by rw [hV]; exact heap_alloc_new w3 _
  have hlt := blk_lt (unhide HR3)
  have hR : V.heap[w.heap.size]? = some (.cells #[.int .i64 0, .int .i64 0, .int .i64 0, .int .i64 0, .int .i64 0, .string ⟨#[]⟩, .int .i64 0] 23 (0, 0)) := by
    rw [hV]
    show (w3.alloc _).heap[w.heap.size]? = _
    rw [Below.heap_alloc _ _ _ hlt]
    exact unhide HR3
  have hB : Below w.heap.size w V := by
    rw [hV]
    have h1 := (unhide HB3).alloc (unhide HB3).size (.cells #[.int .i64 (s[0].toNat : Int), .int .i64 N1, .int .i64 N2, .int .i64 N3, .int .i64 N4, .string TX, .int .i64 N5] 23)
    exact ⟨h1.os, h1.tape, h1.output, h1.size, h1.block⟩
  clear hV HR3 HB3 c0 c1 c2 c3 hg3 HN HT HG hw64 hb0
  have hzM := blk_lt hM
  have hzR := blk_lt hR
  by_cases hE : 0 ≤ E6
  case' neg =>
    have hO : OK = false := by rw [unhide HO, decide_eq_false hE]; rfl
    have hRes := hide (unhide HZ hO)
    have hE2 : E6 < 0 := by omega
    obtain ⟨⟨d0, d1, d2, d3, d4, d5, d6⟩, f0, f1, f2, f3, f4, f5, f6⟩ := seven_at hR
    have HR := hide hR
    have HB := hide hB
    clear hO HO HZ HM HP hM hR hB hE
    go_wp2_with fail
    refine bodyPost_at (fun W' hW' => ?_)
    obtain ⟨⟨r0, r1, r2, r3, r4, r5, r6⟩, _⟩ := seven_at (show W'.heap[w.heap.size]? = some (.cells #[.int .i64 0, .int .i64 0, .int .i64 0, .int .i64 0, .int .i64 0, .string ⟨#[]⟩, .int .i64 0] 23 (0, 0)) by rw [hW']; exact seven_set (unhide HR))
    have hbb : Below w.heap.size w W' := by rw [hW']; exact seven_below (unhide HB) (Nat.le_refl _)
    exact bodyPost_ret (v := .tuple #[.agg #[.int .i64 0, .int .i64 0, .int .i64 0, .int .i64 0, .int .i64 0, .string ⟨#[]⟩, .int .i64 0], .bool false]) (by simp [results, Tryz.results47, go_sem, r0, r1, r2, r3, r4, r5, r6]) rfl ⟨by rw [unhide hRes], hbb⟩
  have hE2 : ¬ (E6 < 0) := by omega
  obtain ⟨q0, q1, q2, q3, q4, q5, q6⟩ := cells7 hM
  have HR := hide hR
  have HB := hide hB
  have HMB := hide hM
  clear hR hB hM
  go_wp2_with fail
  refine (unhide HP _).mono ?_
  rintro e w5 ⟨rfl, hb5⟩
  have hR5 := blk_step (unhide HR) hb5
  have hM5 := blk_step (unhide HMB) hb5
  have hB5 := (unhide HB).trans (hb5.mono (unhide HB).size)
  have hzM5 := blk_lt hM5
  have hzR5 := blk_lt hR5
  obtain ⟨⟨d0, d1, d2, d3, d4, d5, d6⟩, f0, f1, f2, f3, f4, f5, f6⟩ := seven_at hR5
  have HR5 := hide hR5
  have HB5 := hide hB5
  clear hb5 HR HMB HB q0 q1 q2 q3 q4 q5 q6 HP hzM hzR
  by_cases hp : putMsg ⟨s[0].toNat, N1, N2, N3, N4, TX, N5⟩ = s
  case' neg =>
    have hO : OK = false := by rw [unhide HO, decide_eq_false hp]; simp
    have hRes := hide (unhide HZ hO)
    have hq : ((putMsg ⟨s[0].toNat, N1, N2, N3, N4, TX, N5⟩).toList == s.toList) = false := by
      rw [beq_eq_false_iff_ne]
      intro h
      rw [ByteArray.toList_eq, ByteArray.toList_eq] at h
      exact hp (ByteArray.ext (Array.ext' h))
    clear hO HO HZ HM hM5 hR5 hB5
    generalize putMsg ⟨s[0].toNat, N1, N2, N3, N4, TX, N5⟩ = pm at *
    have HP := hide hp
    clear hp
    go_wp2_with fail
    refine bodyPost_at (fun W' hW' => ?_)
    obtain ⟨⟨r0, r1, r2, r3, r4, r5, r6⟩, _⟩ := seven_at (show W'.heap[w.heap.size]? = some (.cells #[.int .i64 0, .int .i64 0, .int .i64 0, .int .i64 0, .int .i64 0, .string ⟨#[]⟩, .int .i64 0] 23 (0, 0)) by rw [hW']; exact seven_set (unhide HR5))
    have hbb : Below w.heap.size w W' := by rw [hW']; exact seven_below (unhide HB5) (Nat.le_refl _)
    exact bodyPost_ret (v := .tuple #[.agg #[.int .i64 0, .int .i64 0, .int .i64 0, .int .i64 0, .int .i64 0, .string ⟨#[]⟩, .int .i64 0], .bool false]) (by simp [results, Tryz.results47, go_sem, r0, r1, r2, r3, r4, r5, r6]) rfl ⟨by rw [unhide hRes], hbb⟩
  have hO : OK = true := by rw [unhide HO, decide_eq_true hE, decide_eq_true hp]; rfl
  have hRes := hide (unhide HM hO)
  have hq : ((putMsg ⟨s[0].toNat, N1, N2, N3, N4, TX, N5⟩).toList == s.toList) = true := by rw [hp]; simp
  obtain ⟨q0, q1, q2, q3, q4, q5, q6⟩ := cells7 hM5
  clear hO HO HZ HM hM5 hR5 hB5
  have HP := hide hp
  clear hp
  generalize putMsg ⟨s[0].toNat, N1, N2, N3, N4, TX, N5⟩ = pm at *
  go_wp2_with fail
  refine bodyPost_at (fun W' hW' => ?_)
  obtain ⟨⟨r0, r1, r2, r3, r4, r5, r6⟩, _⟩ := seven_at (show W'.heap[w.heap.size]? = some (.cells #[.int .i64 (s[0].toNat : Int), .int .i64 N1, .int .i64 N2, .int .i64 N3, .int .i64 N4, .string TX, .int .i64 N5] 23 (0, 0)) by rw [hW']; exact seven_set (unhide HR5))
  have hbb : Below w.heap.size w W' := by rw [hW']; exact seven_below (unhide HB5) (Nat.le_refl _)
  exact bodyPost_ret (v := .tuple #[.agg #[.int .i64 (s[0].toNat : Int), .int .i64 N1, .int .i64 N2, .int .i64 N3, .int .i64 N4, .string TX, .int .i64 N5], .bool true]) (by simp [results, Tryz.results47, go_sem, r0, r1, r2, r3, r4, r5, r6]) rfl ⟨by rw [unhide hRes], hbb⟩
theorem specGetMsg (s : ByteArray) (hs : s.size ≤ maxLen) (w : World) : Calls Tryz.prog 47 #[.string s] w fun e w' => e = .returned (getV s) ∧ Below w.heap.size w w' := by
  by_cases h0 : s.size = 0
  · obtain rfl := eq_empty s h0
    rw [getV_no (show getOk ByteArray.empty = false by unfold getOk; simp)]
    exact specGetMsg_nil w
  · exact specGetMsg_some s hs (by omega) w

def gopV (s : ByteArray) : Value := .tuple #[opw (getOp s), .bool (gopB s)]
theorem gopV_no {s : ByteArray} (h : gopB s = false) : gopV s = .tuple #[.agg #[.int .i64 0, .int .i64 0, .string ⟨#[]⟩, .int .i64 0, .int .i64 0, .int .i64 0, .int .i64 0, .int .i64 0, .int .i64 0, .string ⟨#[]⟩, .int .i64 0], .bool false] := by
  unfold gopV getOp
  rw [h, if_neg (by simp)]
  rfl
set_option maxRecDepth 100000 in
set_option maxHeartbeats 2000000 in
theorem specGetOp_nil (w : World) : Calls Tryz.prog 15 #[.string ByteArray.empty] w fun e w' => e = .returned (.tuple #[.agg #[.int .i64 0, .int .i64 0, .string ⟨#[]⟩, .int .i64 0, .int .i64 0, .int .i64 0, .int .i64 0, .int .i64 0, .int .i64 0, .string ⟨#[]⟩, .int .i64 0], .bool false]) ∧ Below w.heap.size w w' := by
  go_enter Tryz.func15, Tryz.ntmps15
  go_wp2_with fail
  exact bodyPost_ret (v := .tuple #[.agg #[.int .i64 0, .int .i64 0, .string ⟨#[]⟩, .int .i64 0, .int .i64 0, .int .i64 0, .int .i64 0, .int .i64 0, .int .i64 0, .string ⟨#[]⟩, .int .i64 0], .bool false]) (by simp [results, Tryz.results15, go_sem]) rfl ⟨rfl, below_one w _⟩
set_option maxRecDepth 100000 in
set_option maxHeartbeats 8000000 in
theorem specGetOp_some (s : ByteArray) (hs : s.size ≤ maxLen) (h0 : 0 < s.size) (w : World) : Calls Tryz.prog 15 #[.string s] w fun e w' => e = .returned (gopV s) ∧ Below w.heap.size w w' := by
  have HN1 := hide (fun w1 => specRd s 1 hs w1)
  have HT1 := hide (fun w1 => specRt s (rdE s 1) hs w1)
  have HN2 : Hid (∀ w1 : World, Calls Tryz.prog 46 #[.string s, .int .i64 (rtE s (rdE s 1))] w1 fun e w' => e = .returned (.tuple #[.int .i64 (rdN s (rtE s (rdE s 1))), .int .i64 (opX s)]) ∧ Below w1.heap.size w1 w') := fun w1 => specRd s (rtE s (rdE s 1)) hs w1
  have HT2 : Hid (∀ w1 : World, Calls Tryz.prog 37 #[.string s, .int .i64 (opX s)] w1 fun e w' => e = .returned (.tuple #[.string (opB s), .int .i64 (opE s)]) ∧ Below w1.heap.size w1 w') := fun w1 => specRt s (opX s) hs w1
  have hbz : (opB s).size ≤ maxLen := Nat.le_trans (rtS_sizeO s (opX s)) (by unfold maxLen; omega)
  have HG := hide (fun w1 => specGetMsg (opB s) hbz w1)
  unfold getV at HG
  have HP := hide (fun w1 => specPutOp (opC s) w1 (Nat.le_trans (rtS_sizeO s (rdE s 1)) (by unfold maxLen; omega)) (Nat.le_trans (opMg_key (opB s)) (by unfold maxLen; omega)))
  have HO := hide (gopB_spec h0)
  have hC : opC s = ⟨s[0].toNat, rdN s 1, rtS s (rdE s 1), rdN s (rtE s (rdE s 1)), getMg (opB s)⟩ := by unfold opC; rw [head_at h0]
  have HM := hide (show gopB s = true → gopV s = .tuple #[opw (opC s), .bool true] from fun h => by unfold gopV getOp; rw [h, if_pos rfl])
  have HZ := hide (show gopB s = false → gopV s = .tuple #[.agg #[.int .i64 0, .int .i64 0, .string ⟨#[]⟩, .int .i64 0, .int .i64 0, .int .i64 0, .int .i64 0, .int .i64 0, .int .i64 0, .string ⟨#[]⟩, .int .i64 0], .bool false] from gopV_no)
  rw [show bodyB s = (decide ((opB s).size = 0) || getOk (opB s)) from rfl] at HO
  rw [hC] at HP HM HO
  clear hbz hC
  have hne := not_empty s h0
  have hi0 : (0 : Int) < (s.size : Int) := by omega
  generalize gopV s = RES at *
  generalize gopB s = OK at *
  generalize getMg (opB s) = m at *
  generalize getOk (opB s) = mo at *
  generalize opB s = B at *
  generalize opE s = E at *
  generalize opX s = X at *
  generalize rdN s (rtE s (rdE s 1)) = N2 at *
  generalize rtE s (rdE s 1) = E2 at *
  generalize rtS s (rdE s 1) = TX at *
  generalize rdN s 1 = N1 at *
  generalize rdE s 1 = E1 at *
  obtain ⟨mK, mF, mT, mI, mL, mk, mN⟩ := m
  go_enter Tryz.func15, Tryz.ntmps15
  go_wp2_with fail
  refine (unhide HN1 _).mono ?_
  rintro e w1 ⟨rfl, hb1⟩
  have hR1 := blk_step (heap_alloc_new w _) hb1
  have hB1 := (below_one w _).trans (hb1.mono (by simp))
  clear hb1 HN1
  go_wp2_with fail
  refine (unhide HT1 _).mono ?_
  rintro e w2 ⟨rfl, hb2⟩
  have hR2 := blk_step hR1 hb2
  have hB2 := hB1.trans (hb2.mono hB1.size)
  clear hb2 hR1 hB1 HT1
  go_wp2_with fail
  refine (unhide HN2 _).mono ?_
  rintro e w3 ⟨rfl, hb3⟩
  have hR3 := blk_step hR2 hb3
  have hB3 := hB2.trans (hb3.mono hB2.size)
  clear hb3 hR2 hB2 HN2
  go_wp2_with fail
  refine (unhide HT2 _).mono ?_
  rintro e w4 ⟨rfl, hb4⟩
  have hR4 := blk_step hR3 hb4
  have hB4 := hB3.trans (hb4.mono hB3.size)
  clear hb4 hR3 hB3 HT2
  go_wp2_with fail
  refine (unhide HG _).mono ?_
  rintro e w5 ⟨rfl, hb5⟩
  have HR5 := hide (blk_step hR4 hb5)
  have HB5 := hide (hB4.trans (hb5.mono hB4.size))
  clear hb5 hR4 hB4 HG
  have hb0 : s[0].toNat < 256 := s[0].toNat_lt
  have hw64 : wrap64 (s[0].toNat : Int) = (s[0].toNat : Int) := IntWalk.wrap64_in _ ⟨by omega, by omega⟩
  go_upto_region 8 with fail
  go_region
  go_upto_region 9 with fail
  refine wp_at (fun V hV => ?_)
  have hM : V.heap[w5.heap.size + 1]? = some (.cells #[.int .i64 (s[0].toNat : Int), .int .i64 N1, .string TX, .int .i64 N2, .int .i64 mK, .int .i64 mF, .int .i64 mT, .int .i64 mI, .int .i64 mL, .string mk, .int .i64 mN] 25 (0, 0)) := by rw [hV]; exact (allocsE2 w5 (.cells #[.int .i64 mK, .int .i64 mF, .int .i64 mT, .int .i64 mI, .int .i64 mL, .string mk, .int .i64 mN] 23) _).2.1
  have hlt := blk_lt (unhide HR5)
  have hB : Below w.heap.size w V := by
    rw [hV]
    have h1 := ((unhide HB5).alloc (unhide HB5).size (.cells #[.int .i64 mK, .int .i64 mF, .int .i64 mT, .int .i64 mI, .int .i64 mL, .string mk, .int .i64 mN] 23)).alloc (by have := (unhide HB5).size; simp; omega) (.cells #[.int .i64 (s[0].toNat : Int), .int .i64 N1, .string TX, .int .i64 N2, .int .i64 mK, .int .i64 mF, .int .i64 mT, .int .i64 mI, .int .i64 mL, .string mk, .int .i64 mN] 25)
    exact ⟨h1.os, h1.tape, h1.output, h1.size, h1.block⟩
  have hR : V.heap[w.heap.size]? = some (.cells #[.int .i64 0, .int .i64 0, .string ⟨#[]⟩, .int .i64 0, .int .i64 0, .int .i64 0, .int .i64 0, .int .i64 0, .int .i64 0, .string ⟨#[]⟩, .int .i64 0] 25 (0, 0)) := by
    rw [hV]
    have h1 := Below.heap_alloc (w5.alloc (.cells #[.int .i64 mK, .int .i64 mF, .int .i64 mT, .int .i64 mI, .int .i64 mL, .string mk, .int .i64 mN] 23)) (.cells #[.int .i64 (s[0].toNat : Int), .int .i64 N1, .string TX, .int .i64 N2, .int .i64 mK, .int .i64 mF, .int .i64 mT, .int .i64 mI, .int .i64 mL, .string mk, .int .i64 mN] 25) w.heap.size (by simp; omega)
    have h2 := Below.heap_alloc w5 (.cells #[.int .i64 mK, .int .i64 mF, .int .i64 mT, .int .i64 mI, .int .i64 mL, .string mk, .int .i64 mN] 23) w.heap.size hlt
    exact h1.trans (h2.trans (unhide HR5))
  clear hV HR5 HB5 hw64 hb0 hlt
  have hzM := blk_lt hM
  have hzR := blk_lt hR
  by_cases hE : 0 ≤ E
  case' neg =>
    have hO : OK = false := by rw [unhide HO, decide_eq_false hE, Bool.false_and, Bool.false_and]
    have hRes := hide (unhide HZ hO)
    have hE2 : E < 0 := by omega
    obtain ⟨⟨d0, d1, d2, d3, d4, d5, d6, d7, d8, d9, d10⟩, f0, f1, f2, f3, f4, f5, f6, f7, f8, f9, f10⟩ := eleven_at hR
    have HR := hide hR
    have HB := hide hB
    clear hO HO HZ HM HP hM hR hB hE
    go_wp2_with fail
    refine bodyPost_atE (fun W' hW' => ?_)
    obtain ⟨⟨r0, r1, r2, r3, r4, r5, r6, r7, r8, r9, r10⟩, _⟩ := eleven_at (show W'.heap[w.heap.size]? = some (.cells #[.int .i64 0, .int .i64 0, .string ⟨#[]⟩, .int .i64 0, .int .i64 0, .int .i64 0, .int .i64 0, .int .i64 0, .int .i64 0, .string ⟨#[]⟩, .int .i64 0] 25 (0, 0)) by rw [hW']; exact eleven_set (unhide HR))
    have hbb : Below w.heap.size w W' := by rw [hW']; exact eleven_set_below (unhide HB) (Nat.le_refl _)
    exact bodyPost_ret (v := .tuple #[.agg #[.int .i64 0, .int .i64 0, .string ⟨#[]⟩, .int .i64 0, .int .i64 0, .int .i64 0, .int .i64 0, .int .i64 0, .int .i64 0, .string ⟨#[]⟩, .int .i64 0], .bool false]) (by simp [results, Tryz.results15, go_sem, r0, r1, r2, r3, r4, r5, r6, r7, r8, r9, r10]) rfl ⟨by rw [unhide hRes], hbb⟩
  have hE2 : ¬ (E < 0) := by omega
  cases hbd : (decide (B.size = 0) || mo)
  case' false =>
    have hO : OK = false := by rw [unhide HO, hbd, Bool.and_false, Bool.false_and]
    have hRes := hide (unhide HZ hO)
    simp only [Bool.or_eq_false_iff, decide_eq_false_iff_not] at hbd
    obtain ⟨hb1, rfl⟩ := hbd
    have hbe := not_empty B (by omega)
    obtain ⟨⟨d0, d1, d2, d3, d4, d5, d6, d7, d8, d9, d10⟩, f0, f1, f2, f3, f4, f5, f6, f7, f8, f9, f10⟩ := eleven_at hR
    have HR := hide hR
    have HB := hide hB
    clear hO HO HZ HM HP hM hR hB hE hb1
    go_wp2_with fail
    refine bodyPost_atE (fun W' hW' => ?_)
    obtain ⟨⟨r0, r1, r2, r3, r4, r5, r6, r7, r8, r9, r10⟩, _⟩ := eleven_at (show W'.heap[w.heap.size]? = some (.cells #[.int .i64 0, .int .i64 0, .string ⟨#[]⟩, .int .i64 0, .int .i64 0, .int .i64 0, .int .i64 0, .int .i64 0, .int .i64 0, .string ⟨#[]⟩, .int .i64 0] 25 (0, 0)) by rw [hW']; exact eleven_set (unhide HR))
    have hbb : Below w.heap.size w W' := by rw [hW']; exact eleven_set_below (unhide HB) (Nat.le_refl _)
    exact bodyPost_ret (v := .tuple #[.agg #[.int .i64 0, .int .i64 0, .string ⟨#[]⟩, .int .i64 0, .int .i64 0, .int .i64 0, .int .i64 0, .int .i64 0, .int .i64 0, .string ⟨#[]⟩, .int .i64 0], .bool false]) (by simp [results, Tryz.results15, go_sem, r0, r1, r2, r3, r4, r5, r6, r7, r8, r9, r10]) rfl ⟨by rw [unhide hRes], hbb⟩
  have HBD := hide hbd
  obtain ⟨q0, q1, q2, q3, q4, q5, q6, q7, q8, q9, q10⟩ := (eleven_at hM).1
  have HR := hide hR
  have HB := hide hB
  have HMB := hide hM
  clear hR hB hM
  have hcond : ((!B.toList.isEmpty) && !mo) = false := by
    rcases Bool.or_eq_true_iff.1 hbd with h | h
    · have h1 := eq_empty B (of_decide_eq_true h)
      subst h1
      rw [ByteArray.toList_eq]
      rfl
    · rw [h]; simp
  clear hbd
  have HQ : Hid ((B.toList.isEmpty = true) ∨ (B.toList.isEmpty = false ∧ mo = true)) := by
    cases h1 : B.toList.isEmpty
    · rw [h1] at hcond
      exact .inr ⟨rfl, by simpa using hcond⟩
    · exact .inl rfl
  clear hcond
  have HPP : Hid (∀ Q : Prop, (B.toList.isEmpty = true → Q) → (B.toList.isEmpty = false → mo = true → Q) → Q) := fun Q h1 h2 => (unhide HQ).elim h1 (fun h => h2 h.1 h.2)
  clear HQ
  refine unhide HPP _ (fun hbe => ?_) (fun hbe hmo => ?_)
  all_goals
    clear HPP
    go_wp2_with fail
    refine (unhide HP _).mono ?_
    rintro e w7 ⟨rfl, hb7⟩
    have HR7 := hide (blk_step (unhide HR) hb7)
    have HM7 := hide (blk_step (unhide HMB) hb7)
    have HB7 := hide ((unhide HB).trans (hb7.mono (unhide HB).size))
    have hzM7 := blk_lt (unhide HM7)
    have hzR7 := blk_lt (unhide HR7)
    clear hb7 HR HMB HB q0 q1 q2 q3 q4 q5 q6 q7 q8 q9 q10 HP hzM hzR
    obtain ⟨⟨d0, d1, d2, d3, d4, d5, d6, d7, d8, d9, d10⟩, f0, f1, f2, f3, f4, f5, f6, f7, f8, f9, f10⟩ := eleven_at (unhide HR7)
    by_cases hp : putOp ⟨s[0].toNat, N1, TX, N2, ⟨mK, mF, mT, mI, mL, mk, mN⟩⟩ = s
    case' neg =>
      have hO : OK = false := by rw [unhide HO, decide_eq_false hp, Bool.and_false]
      have hRes := hide (unhide HZ hO)
      have hq : ((putOp ⟨s[0].toNat, N1, TX, N2, ⟨mK, mF, mT, mI, mL, mk, mN⟩⟩).toList == s.toList) = false := by
        rw [beq_eq_false_iff_ne]
        intro h
        rw [ByteArray.toList_eq, ByteArray.toList_eq] at h
        exact hp (ByteArray.ext (Array.ext' h))
      clear hO HO HZ HM HBD hp
      generalize putOp ⟨s[0].toNat, N1, TX, N2, ⟨mK, mF, mT, mI, mL, mk, mN⟩⟩ = pm at *
      go_wp2_with fail
      refine bodyPost_atE (fun W' hW' => ?_)
      obtain ⟨⟨r0, r1, r2, r3, r4, r5, r6, r7, r8, r9, r10⟩, _⟩ := eleven_at (show W'.heap[w.heap.size]? = some (.cells #[.int .i64 0, .int .i64 0, .string ⟨#[]⟩, .int .i64 0, .int .i64 0, .int .i64 0, .int .i64 0, .int .i64 0, .int .i64 0, .string ⟨#[]⟩, .int .i64 0] 25 (0, 0)) by rw [hW']; exact eleven_set (unhide HR7))
      have hbb : Below w.heap.size w W' := by rw [hW']; exact eleven_set_below (unhide HB7) (Nat.le_refl _)
      exact bodyPost_ret (v := .tuple #[.agg #[.int .i64 0, .int .i64 0, .string ⟨#[]⟩, .int .i64 0, .int .i64 0, .int .i64 0, .int .i64 0, .int .i64 0, .int .i64 0, .string ⟨#[]⟩, .int .i64 0], .bool false]) (by simp [results, Tryz.results15, go_sem, r0, r1, r2, r3, r4, r5, r6, r7, r8, r9, r10]) rfl ⟨by rw [unhide hRes], hbb⟩
    have hO : OK = true := by rw [unhide HO, decide_eq_true hE, unhide HBD, decide_eq_true hp]; rfl
    have hRes := hide (unhide HM hO)
    have hq : ((putOp ⟨s[0].toNat, N1, TX, N2, ⟨mK, mF, mT, mI, mL, mk, mN⟩⟩).toList == s.toList) = true := by rw [hp]; simp
    obtain ⟨⟨q0, q1, q2, q3, q4, q5, q6, q7, q8, q9, q10⟩, _⟩ := eleven_at (unhide HM7)
    clear hO HO HZ HM HBD
    have HPX := hide hp
    clear hp
    generalize putOp ⟨s[0].toNat, N1, TX, N2, ⟨mK, mF, mT, mI, mL, mk, mN⟩⟩ = pm at *
    go_wp2_with fail
    refine bodyPost_atE (fun W' hW' => ?_)
    obtain ⟨⟨r0, r1, r2, r3, r4, r5, r6, r7, r8, r9, r10⟩, _⟩ := eleven_at (show W'.heap[w.heap.size]? = some (.cells #[.int .i64 (s[0].toNat : Int), .int .i64 N1, .string TX, .int .i64 N2, .int .i64 mK, .int .i64 mF, .int .i64 mT, .int .i64 mI, .int .i64 mL, .string mk, .int .i64 mN] 25 (0, 0)) by rw [hW']; exact eleven_set (unhide HR7))
    have hbb : Below w.heap.size w W' := by rw [hW']; exact eleven_set_below (unhide HB7) (Nat.le_refl _)
    exact bodyPost_ret (v := .tuple #[.agg #[.int .i64 (s[0].toNat : Int), .int .i64 N1, .string TX, .int .i64 N2, .int .i64 mK, .int .i64 mF, .int .i64 mT, .int .i64 mI, .int .i64 mL, .string mk, .int .i64 mN], .bool true]) (by simp [results, Tryz.results15, go_sem, r0, r1, r2, r3, r4, r5, r6, r7, r8, r9, r10]) rfl ⟨by rw [unhide hRes], hbb⟩
theorem specGetOp (s : ByteArray) (hs : s.size ≤ maxLen) (w : World) : Calls Tryz.prog 15 #[.string s] w fun e w' => e = .returned (gopV s) ∧ Below w.heap.size w w' := by
  by_cases h0 : s.size = 0
  · obtain rfl := eq_empty s h0
    rw [gopV_no (show gopB ByteArray.empty = false by unfold gopB; simp)]
    exact specGetOp_nil w
  · exact specGetOp_some s hs (by omega) w
end Go.Proofs.YtikdkijggejnfaaGreatDoor
