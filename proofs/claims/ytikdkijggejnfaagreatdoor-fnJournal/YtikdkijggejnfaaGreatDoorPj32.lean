/- Parts. -/
import Derived.Test.YtikdkijggejnfaaGreatDoorPj31
namespace Go.Proofs.YtikdkijggejnfaaGreatDoor
open Go.RowKit
open Mth

set_option maxRecDepth 100000 in
set_option maxHeartbeats 16000000 in
theorem fnJournal_go (a : Option Addr) (len cap : Nat) (w : World) (hcode : CodeOk w a len) (hH : Handle w) (hT : Tens w) : Calls Tryz.prog 4 #[.slice a len cap] w fun e w' => e = .returned (.bool true) ∧ Below w.heap.size w w' := by
  have HC := hide hcode
  have HH := hide hH
  have HT := hide hT
  have hlen := hcode.1
  clear hcode hH hT
  go_enter Tryz.func4, Tryz.ntmps4
  go_wp2_with fail
  refine (bigNo a len cap _ hlen).mono ?_
  rintro e w0 ⟨rfl, rfl⟩
  go_wp2_with fail
  refine (drawWrite a len cap _ (unhide HC)).mono ?_
  rintro e w1 ⟨t, o, rfl, hts, hks, hms, hb1⟩
  have HS1 := hide (show JSt w [] w1 from ⟨hb1, fun x hx => by cases hx⟩)
  have hkm : o.k.size ≤ maxLen := Nat.le_trans hks (by unfold maxLen; omega)
  have hmm : o.m.k.size ≤ maxLen := Nat.le_trans hms (by unfold maxLen; omega)
  have htm : t.size ≤ maxLen := by unfold maxLen; omega
  have R1 := hide (fun w1 h => implRead t htm w1 h)
  have R2 := hide (fun w1 => specRead t htm w1)
  have P1 := hide (fun w1 => implPutOp o w1)
  have P2 := hide (fun w1 => specPutOp o w1 hkm hmm)
  have O1 := hide (fun w1 => implOpOkW o w1)
  have O2 := hide (fun w1 => specOpOkW o w1 hkm hmm)
  have T1 := hide (fun w1 h => implOpText o w1 h)
  have T2 := hide (fun w1 => specOpText o w1 hkm hmm)
  have hPs : (t.extract 0 (rdAll t).2).size ≤ 8000 := by rw [ByteArray.size_extract]; omega
  have WP := hide (fun w1 => implWrite (t.extract 0 (rdAll t).2) o w1 (by omega))
  have WT := hide (fun w1 => implWrite t o w1 (by omega))
  have WS := hide (fun w1 => specWrite t o w1 (by omega) hkm hmm)
  have hwb := jn_wr t o hts
  have hLn := jn_len t (by omega)
  have hEn := (rdAll_cat t (by omega)).1
  unfold GivesO at R1 R2
  unfold wrV at WP WT WS
  rw [hwb] at WP
  have hYes := hide (fun h : opOk o = true => jn_all t o (by omega) h)
  have hGet := hide (fun h : opOk o = true => get_op h)
  have hPut := hide (fun h : opOk o = true => (⟨by rw [putOp_yes h]; exact opBytes_pos o, putOp_yes h⟩ : 0 < (putOp o).size ∧ putOp o = opBytes o))
  have hNo := hide (fun h : opOk o = false => (⟨putOp_no h, wr_no (hwb.trans h)⟩ : putOp o = ByteArray.empty ∧ wrT (t.extract 0 (rdAll t).2) o = t.extract 0 (rdAll t).2))
  have hWr := hide (fun h : opOk o = true => wr_yes (hwb.trans h))
  have hSs := putOp_le o
  have hWs := wrT_le (t.extract 0 (rdAll t).2) o
  clear hb1 hks hms hkm hmm htm hwb
  generalize hSg : putOp o = S at *
  generalize hMg : opOk o = M at *
  generalize opTx o = TX at *
  generalize hXg : wrT (t.extract 0 (rdAll t).2) o = X at *
  generalize wrT t o = WTT at *
  generalize wrB t o = WTB at *
  have HSg := hide (And.intro hSg (And.intro hMg hXg))
  clear hSg hMg hXg
  obtain ⟨RD, hRD⟩ : ∃ RD, rdAll t = RD := ⟨_, rfl⟩
  rw [hRD] at R1 R2 WP hYes hNo hWr hLn hEn hPs HSg hWs
  have HRD := hide hRD
  clear hRD
  obtain ⟨L, E⟩ := RD
  dsimp only at hLn hEn hPs hWs
  obtain ⟨Ko, noo, ko, no, ⟨mKo, mFo, mTo, mIo, mLo, mko, mNo⟩⟩ := o
  go_wp2_with fail
  refine (unhide R1 _ ((unhide HH).below ((unhide HS1).put ⟨Ko, noo, ko, no, ⟨mKo, mFo, mTo, mIo, mLo, mko, mNo⟩⟩).bel)).mono ?_
  rintro e w2 ⟨v1, rfl, ho1, hb2⟩
  obtain ⟨a1, c1, hv1, hA1⟩ := GR.own_at encO_length ho1
  subst hv1
  have HA1 := hide hA1
  have HS2 := hide (((unhide HS1).put ⟨Ko, noo, ko, no, ⟨mKo, mFo, mTo, mIo, mLo, mko, mNo⟩⟩).step hb2)
  clear hb2 HS1 ho1 hA1 R1
  go_wp2_with fail
  refine (unhide R2 _).mono ?_
  rintro e w3 ⟨v2, rfl, ho2, hb3⟩
  obtain ⟨a2, c2, hv2, hA2⟩ := GR.own_at encO_length ho2
  subst hv2
  have HA2 := hide hA2
  have HA13 := hide (GR.At.below (unhide HA1) hb3)
  have HS3 := hide ((unhide HS2).step hb3)
  clear hb3 HS2 ho2 hA2 HA1 R2
  obtain ⟨c0, c1, c2, c3, c4, c5, c6, c7, c8, c9, c10⟩ := cells11 ((unhide HS3).own (w1.heap.size, ⟨Ko, noo, ko, no, ⟨mKo, mFo, mTo, mIo, mLo, mko, mNo⟩⟩) (by simp))
  have hzc := blk_lt ((unhide HS3).own (w1.heap.size, ⟨Ko, noo, ko, no, ⟨mKo, mFo, mTo, mIo, mLo, mko, mNo⟩⟩) (by simp))
  go_wp2_with fail
  refine (unhide P1 _).mono ?_
  rintro e w4 ⟨rfl, hb4⟩
  have HA14 := hide (GR.At.below (unhide HA13) hb4)
  have HA24 := hide (GR.At.below (unhide HA2) hb4)
  have HS4 := hide ((unhide HS3).step hb4)
  clear hb4 HS3 HA13 HA2 P1 c0 c1 c2 c3 c4 c5 c6 c7 c8 c9 c10 hzc
  go_wp2_with fail
  refine (drawGetOp a len cap _ ((unhide HC).below (unhide HS4).bel)).mono ?_
  rintro e w5 ⟨u, rfl, hu, hb5⟩
  have HA15 := hide (GR.At.below (unhide HA14) hb5)
  have HA25 := hide (GR.At.below (unhide HA24) hb5)
  have HS5 := hide ((unhide HS4).step hb5)
  have hum : u.size ≤ maxLen := by unfold maxLen; omega
  have G1 := hide (fun w1 h => implGetOp u hum w1 h)
  have G2 := hide (fun w1 => specGetOp u hum w1)
  have hGb := hide (fun h : gopB u = true => put_got h)
  have PX := hide (fun w1 => implPutOp (getOp u) w1)
  unfold gopV at G1 G2
  generalize gopB u = OKU at *
  generalize putOp (getOp u) = SX at *
  generalize getOp u = XO at *
  obtain ⟨Kx, nox, kx, nx, ⟨mKx, mFx, mTx, mIx, mLx, mkx, mNx⟩⟩ := XO
  clear hb5 HS4 hum HA14 HA24
  go_wp2_with fail
  refine (unhide G1 _ ((unhide HH).below (unhide HS5).bel)).mono ?_
  rintro e w6 ⟨rfl, hb6⟩
  have HA16 := hide (GR.At.below (unhide HA15) hb6)
  have HA26 := hide (GR.At.below (unhide HA25) hb6)
  have HS6 := hide ((unhide HS5).step hb6)
  clear hb6 HS5 HA15 HA25 G1
  go_wp2_with fail
  refine (unhide G2 _).mono ?_
  rintro e w7 ⟨rfl, hb7⟩
  have hbx := below_one w6 (.cells (opA ⟨Kx, nox, kx, nx, ⟨mKx, mFx, mTx, mIx, mLx, mkx, mNx⟩⟩) 25)
  have HA17 := hide (GR.At.below (GR.At.below (unhide HA16) hbx) hb7)
  have HA27 := hide (GR.At.below (GR.At.below (unhide HA26) hbx) hb7)
  have HS7 := hide (((unhide HS6).put ⟨Kx, nox, kx, nx, ⟨mKx, mFx, mTx, mIx, mLx, mkx, mNx⟩⟩).step hb7)
  clear hb7 hbx HS6 HA16 HA26 G2
  go_upto_region 10 with fail
  refine wp_at (fun V hV => ?_)
  have hby := below_one w7 (.cells (opA ⟨Kx, nox, kx, nx, ⟨mKx, mFx, mTx, mIx, mLx, mkx, mNx⟩⟩) 25)
  have HSV := hide (show JSt w ((w7.heap.size, ⟨Kx, nox, kx, nx, ⟨mKx, mFx, mTx, mIx, mLx, mkx, mNx⟩⟩) :: (w6.heap.size, ⟨Kx, nox, kx, nx, ⟨mKx, mFx, mTx, mIx, mLx, mkx, mNx⟩⟩) :: (w1.heap.size, ⟨Ko, noo, ko, no, ⟨mKo, mFo, mTo, mIo, mLo, mko, mNo⟩⟩) :: []) V by rw [hV]; exact (unhide HS7).put ⟨Kx, nox, kx, nx, ⟨mKx, mFx, mTx, mIx, mLx, mkx, mNx⟩⟩)
  have HA1V := hide (show OpsAt V a1 L by rw [hV]; exact GR.At.below (unhide HA17) hby)
  have HA2V := hide (show OpsAt V a2 L by rw [hV]; exact GR.At.below (unhide HA27) hby)
  clear hV hby HS7 HA17 HA27
  go_cut [118] (fun r wx => r = .bool false ∧ JSt w ((w7.heap.size, ⟨Kx, nox, kx, nx, ⟨mKx, mFx, mTx, mIx, mLx, mkx, mNx⟩⟩) :: (w6.heap.size, ⟨Kx, nox, kx, nx, ⟨mKx, mFx, mTx, mIx, mLx, mkx, mNx⟩⟩) :: (w1.heap.size, ⟨Ko, noo, ko, no, ⟨mKo, mFo, mTo, mIo, mLo, mko, mNo⟩⟩) :: []) wx ∧ OpsAt wx a1 L ∧ OpsAt wx a2 L)
  case first =>
    obtain ⟨aq0, aq1, aq2, aq3, aq4, aq5, aq6, aq7, aq8, aq9, aq10⟩ := cells11 ((unhide HSV).own (w7.heap.size, ⟨Kx, nox, kx, nx, ⟨mKx, mFx, mTx, mIx, mLx, mkx, mNx⟩⟩) (by simp))
    have hzaq := blk_lt ((unhide HSV).own (w7.heap.size, ⟨Kx, nox, kx, nx, ⟨mKx, mFx, mTx, mIx, mLx, mkx, mNx⟩⟩) (by simp))
    have ay0 := cell_regrown aq0
    have ay1 := cell_regrown aq1
    have ay2 := cell_regrown aq2
    have ay3 := cell_regrown aq3
    have ay4 := cell_regrown aq4
    have ay5 := cell_regrown aq5
    have ay6 := cell_regrown aq6
    have ay7 := cell_regrown aq7
    have ay8 := cell_regrown aq8
    have ay9 := cell_regrown aq9
    have ay10 := cell_regrown aq10
    clear aq0 aq1 aq2 aq3 aq4 aq5 aq6 aq7 aq8 aq9 aq10
    obtain ⟨bq0, bq1, bq2, bq3, bq4, bq5, bq6, bq7, bq8, bq9, bq10⟩ := cells11 ((unhide HSV).own (w6.heap.size, ⟨Kx, nox, kx, nx, ⟨mKx, mFx, mTx, mIx, mLx, mkx, mNx⟩⟩) (by simp))
    have hzbq := blk_lt ((unhide HSV).own (w6.heap.size, ⟨Kx, nox, kx, nx, ⟨mKx, mFx, mTx, mIx, mLx, mkx, mNx⟩⟩) (by simp))
    have by0 := cell_regrown bq0
    have by1 := cell_regrown bq1
    have by2 := cell_regrown bq2
    have by3 := cell_regrown bq3
    have by4 := cell_regrown bq4
    have by5 := cell_regrown bq5
    have by6 := cell_regrown bq6
    have by7 := cell_regrown bq7
    have by8 := cell_regrown bq8
    have by9 := cell_regrown bq9
    have by10 := cell_regrown bq10
    clear bq0 bq1 bq2 bq3 bq4 bq5 bq6 bq7 bq8 bq9 bq10
    obtain ⟨dq0, dq1, dq2, dq3, dq4, dq5, dq6, dq7, dq8, dq9, dq10⟩ := cells11 ((unhide HSV).own (w1.heap.size, ⟨Ko, noo, ko, no, ⟨mKo, mFo, mTo, mIo, mLo, mko, mNo⟩⟩) (by simp))
    have hzdq := blk_lt ((unhide HSV).own (w1.heap.size, ⟨Ko, noo, ko, no, ⟨mKo, mFo, mTo, mIo, mLo, mko, mNo⟩⟩) (by simp))
    have dy0 := cell_regrown dq0
    have dy1 := cell_regrown dq1
    have dy2 := cell_regrown dq2
    have dy3 := cell_regrown dq3
    have dy4 := cell_regrown dq4
    have dy5 := cell_regrown dq5
    have dy6 := cell_regrown dq6
    have dy7 := cell_regrown dq7
    have dy8 := cell_regrown dq8
    have dy9 := cell_regrown dq9
    have dy10 := cell_regrown dq10
    clear dq0 dq1 dq2 dq3 dq4 dq5 dq6 dq7 dq8 dq9 dq10
    have p2 : ∀ d os, Calls Tryz.prog 16 #[.agg #[.int .i64 Ko, .int .i64 noo, .string ko, .int .i64 no, .int .i64 mKo, .int .i64 mFo, .int .i64 mTo, .int .i64 mIo, .int .i64 mLo, .string mko, .int .i64 mNo]] (Sort.grow (redrawn V d) os) fun e w'' => e = .returned (.string S) ∧ ∃ p : Regrown, w'' = Sort.grow (redrawn V p.d) p.os := fun d os => Calls.regrown_of (unhide P2 _)
    have px : ∀ d os, Calls Tryz.prog 12 #[.agg #[.int .i64 Kx, .int .i64 nox, .string kx, .int .i64 nx, .int .i64 mKx, .int .i64 mFx, .int .i64 mTx, .int .i64 mIx, .int .i64 mLx, .string mkx, .int .i64 mNx]] (Sort.grow (redrawn V d) os) fun e w'' => e = .returned (.string SX) ∧ ∃ p : Regrown, w'' = Sort.grow (redrawn V p.d) p.os := fun d os => Calls.regrown_of (unhide PX _)
    have o1 : ∀ d os, Calls Tryz.prog 17 #[.agg #[.int .i64 Ko, .int .i64 noo, .string ko, .int .i64 no, .int .i64 mKo, .int .i64 mFo, .int .i64 mTo, .int .i64 mIo, .int .i64 mLo, .string mko, .int .i64 mNo]] (Sort.grow (redrawn V d) os) fun e w'' => e = .returned (.bool M) ∧ ∃ p : Regrown, w'' = Sort.grow (redrawn V p.d) p.os := fun d os => Calls.regrown_of (unhide O1 _)
    have o2 : ∀ d os, Calls Tryz.prog 18 #[.agg #[.int .i64 Ko, .int .i64 noo, .string ko, .int .i64 no, .int .i64 mKo, .int .i64 mFo, .int .i64 mTo, .int .i64 mIo, .int .i64 mLo, .string mko, .int .i64 mNo]] (Sort.grow (redrawn V d) os) fun e w'' => e = .returned (.bool M) ∧ ∃ p : Regrown, w'' = Sort.grow (redrawn V p.d) p.os := fun d os => Calls.regrown_of (unhide O2 _)
    have t1 : ∀ d os, Calls Tryz.prog 19 #[.agg #[.int .i64 Ko, .int .i64 noo, .string ko, .int .i64 no, .int .i64 mKo, .int .i64 mFo, .int .i64 mTo, .int .i64 mIo, .int .i64 mLo, .string mko, .int .i64 mNo]] (Sort.grow (redrawn V d) os) fun e w'' => e = .returned (.string TX) ∧ ∃ p : Regrown, w'' = Sort.grow (redrawn V p.d) p.os := fun d os => Calls.regrown_of (unhide T1 _ (((unhide HT).below (unhide HSV).bel).below (below_regrown V d os)))
    have t2 : ∀ d os, Calls Tryz.prog 20 #[.agg #[.int .i64 Ko, .int .i64 noo, .string ko, .int .i64 no, .int .i64 mKo, .int .i64 mFo, .int .i64 mTo, .int .i64 mIo, .int .i64 mLo, .string mko, .int .i64 mNo]] (Sort.grow (redrawn V d) os) fun e w'' => e = .returned (.string TX) ∧ ∃ p : Regrown, w'' = Sort.grow (redrawn V p.d) p.os := fun d os => Calls.regrown_of (unhide T2 _)
    clear P2 PX O1 O2 T1 T2
    cases M
    case' false =>
      obtain ⟨hS0, hX0⟩ := unhide hNo rfl
      subst hS0 hX0
      cases OKU
      case' false =>
        as_aux_lemma =>
        clear hYes hGet hPut hNo hWr hGb HSg HRD WP WT WS HC HH HT
        refine wp_region_quiet_below (by kernel_rfl) (by kernel_rfl) ?_
        repeat (first | go_big_quiet_step (first | (go_at_call 16; exact p2 _ _) | (go_at_call 12; exact px _ _) | (go_at_call 17; exact o1 _ _) | (go_at_call 18; exact o2 _ _) | (go_at_call 19; exact t1 _ _) | (go_at_call 20; exact t2 _ _)) | quiet_step (first | (go_at_call 16; exact p2 _ _) | (go_at_call 12; exact px _ _) | (go_at_call 17; exact o1 _ _) | (go_at_call 18; exact o2 _ _) | (go_at_call 19; exact t1 _ _) | (go_at_call 20; exact t2 _ _)))
        refine wpQuiet_nil ?_
        intro _ hw'
        obtain ⟨⟨dq, osq⟩, hw''⟩ := hw'
        subst hw''
        have HBL := hide ((unhide HSV).step (below_regrown V dq osq))
        have HB1 := hide (GR.At.below (unhide HA1V) (below_regrown V dq osq))
        have HB2 := hide (GR.At.below (unhide HA2V) (below_regrown V dq osq))
        clear p2 px o1 o2 t1 t2 ay0 ay1 ay2 ay3 ay4 ay5 ay6 ay7 ay8 ay9 ay10 by0 by1 by2 by3 by4 by5 by6 by7 by8 by9 by10 dy0 dy1 dy2 dy3 dy4 dy5 dy6 dy7 dy8 dy9 dy10
        go_wp2_with fail
        go_meet
        case rel => exact ⟨rfl, unhide HBL, unhide HB1, unhide HB2⟩
      case' true =>
        as_aux_lemma =>
        have hux := unhide hGb rfl
        subst hux
        clear hYes hGet hPut hNo hWr hGb HSg HRD WP WT WS HC HH HT
        refine wp_region_quiet_below (by kernel_rfl) (by kernel_rfl) ?_
        repeat (first | go_big_quiet_step (first | (go_at_call 16; exact p2 _ _) | (go_at_call 12; exact px _ _) | (go_at_call 17; exact o1 _ _) | (go_at_call 18; exact o2 _ _) | (go_at_call 19; exact t1 _ _) | (go_at_call 20; exact t2 _ _)) | quiet_step (first | (go_at_call 16; exact p2 _ _) | (go_at_call 12; exact px _ _) | (go_at_call 17; exact o1 _ _) | (go_at_call 18; exact o2 _ _) | (go_at_call 19; exact t1 _ _) | (go_at_call 20; exact t2 _ _)))
        refine wpQuiet_nil ?_
        intro _ hw'
        obtain ⟨⟨dq, osq⟩, hw''⟩ := hw'
        subst hw''
        have HBL := hide ((unhide HSV).step (below_regrown V dq osq))
        have HB1 := hide (GR.At.below (unhide HA1V) (below_regrown V dq osq))
        have HB2 := hide (GR.At.below (unhide HA2V) (below_regrown V dq osq))
        clear p2 px o1 o2 t1 t2 ay0 ay1 ay2 ay3 ay4 ay5 ay6 ay7 ay8 ay9 ay10 by0 by1 by2 by3 by4 by5 by6 by7 by8 by9 by10 dy0 dy1 dy2 dy3 dy4 dy5 dy6 dy7 dy8 dy9 dy10
        go_wp2_with fail
        go_meet
        case rel => exact ⟨rfl, unhide HBL, unhide HB1, unhide HB2⟩
    case' true =>
      have hneS := not_empty S (unhide hPut rfl).1
      cases OKU
      case' false =>
        as_aux_lemma =>
        clear hYes hGet hPut hNo hWr hGb HSg HRD WP WT WS HC HH HT
        refine wp_region_quiet_below (by kernel_rfl) (by kernel_rfl) ?_
        repeat (first | go_big_quiet_step (first | (go_at_call 16; exact p2 _ _) | (go_at_call 12; exact px _ _) | (go_at_call 17; exact o1 _ _) | (go_at_call 18; exact o2 _ _) | (go_at_call 19; exact t1 _ _) | (go_at_call 20; exact t2 _ _)) | quiet_step (first | (go_at_call 16; exact p2 _ _) | (go_at_call 12; exact px _ _) | (go_at_call 17; exact o1 _ _) | (go_at_call 18; exact o2 _ _) | (go_at_call 19; exact t1 _ _) | (go_at_call 20; exact t2 _ _)))
        refine wpQuiet_nil ?_
        intro _ hw'
        obtain ⟨⟨dq, osq⟩, hw''⟩ := hw'
        subst hw''
        have HBL := hide ((unhide HSV).step (below_regrown V dq osq))
        have HB1 := hide (GR.At.below (unhide HA1V) (below_regrown V dq osq))
        have HB2 := hide (GR.At.below (unhide HA2V) (below_regrown V dq osq))
        clear p2 px o1 o2 t1 t2 ay0 ay1 ay2 ay3 ay4 ay5 ay6 ay7 ay8 ay9 ay10 by0 by1 by2 by3 by4 by5 by6 by7 by8 by9 by10 dy0 dy1 dy2 dy3 dy4 dy5 dy6 dy7 dy8 dy9 dy10
        go_wp2_with fail
        go_meet
        case rel => exact ⟨rfl, unhide HBL, unhide HB1, unhide HB2⟩
      case' true =>
        as_aux_lemma =>
        have hux := unhide hGb rfl
        subst hux
        clear hYes hGet hPut hNo hWr hGb HSg HRD WP WT WS HC HH HT
        refine wp_region_quiet_below (by kernel_rfl) (by kernel_rfl) ?_
        repeat (first | go_big_quiet_step (first | (go_at_call 16; exact p2 _ _) | (go_at_call 12; exact px _ _) | (go_at_call 17; exact o1 _ _) | (go_at_call 18; exact o2 _ _) | (go_at_call 19; exact t1 _ _) | (go_at_call 20; exact t2 _ _)) | quiet_step (first | (go_at_call 16; exact p2 _ _) | (go_at_call 12; exact px _ _) | (go_at_call 17; exact o1 _ _) | (go_at_call 18; exact o2 _ _) | (go_at_call 19; exact t1 _ _) | (go_at_call 20; exact t2 _ _)))
        refine wpQuiet_nil ?_
        intro _ hw'
        obtain ⟨⟨dq, osq⟩, hw''⟩ := hw'
        subst hw''
        have HBL := hide ((unhide HSV).step (below_regrown V dq osq))
        have HB1 := hide (GR.At.below (unhide HA1V) (below_regrown V dq osq))
        have HB2 := hide (GR.At.below (unhide HA2V) (below_regrown V dq osq))
        clear p2 px o1 o2 t1 t2 ay0 ay1 ay2 ay3 ay4 ay5 ay6 ay7 ay8 ay9 ay10 by0 by1 by2 by3 by4 by5 by6 by7 by8 by9 by10 dy0 dy1 dy2 dy3 dy4 dy5 dy6 dy7 dy8 dy9 dy10
        go_wp2_with fail
        go_meet
        case rel => exact ⟨rfl, unhide HBL, unhide HB1, unhide HB2⟩
  case rest =>
  obtain ⟨rfl, hst, hA1, hA2⟩ := hcut
  have HS := hide (hst.less (gs := [(w1.heap.size, ⟨Ko, noo, ko, no, ⟨mKo, mFo, mTo, mIo, mLo, mko, mNo⟩⟩)]) (by simp))
  have HA := hide hA1
  have HB := hide hA2
  clear hst hA1 hA2 HSV HA1V HA2V P2 PX O1 O2 T1 T2 hGb
  have hL8 : L.length ≤ 8000 := by omega
  have hEi : (E : Int) ≤ (t.size : Int) := by omega
  have hE0 : (0 : Int) ≤ (E : Int) := by omega
  go_wp2_with fail
  go_loopw [15] (fun i wr => ∃ k : Nat, k ≤ L.length ∧ i = .int .i64 k ∧ JSt w [(w1.heap.size, ⟨Ko, noo, ko, no, ⟨mKo, mFo, mTo, mIo, mLo, mko, mNo⟩⟩)] wr ∧ OpsAt wr a1 L ∧ OpsAt wr a2 L) (fun i _ => L.length - (intOf i).toNat)
  case atStart => exact ⟨0, Nat.zero_le _, rfl, unhide HS, unhide HA, unhide HB⟩
  case round =>
    obtain ⟨k, hk, rfl, hst, hA1, hA2⟩ := hrel
    clear HS HA HB
    have HS := hide hst
    have HA := hide hA1
    have HB := hide hA2
    clear hst hA1 hA2
    by_cases hlt : k < L.length
    · obtain ⟨g1, o1, rfl, hg1, s0, s1, s2, s3, s4, s5, s6, s7, s8, s9, s10⟩ := OpsAt.eleven (unhide HA) k hlt
      obtain ⟨g2, o2, rfl, hg2, t0, t1, t2, t3, t4, t5, t6, t7, t8, t9, t10⟩ := OpsAt.eleven (unhide HB) k hlt
      generalize L[k] = pu at *
      obtain ⟨qK, qno, qk, qn, ⟨qmK, qmF, qmT, qmI, qmL, qmk, qmN⟩⟩ := pu
      dsimp only at s0 s1 s2 s3 s4 s5 s6 s7 s8 s9 s10 t0 t1 t2 t3 t4 t5 t6 t7 t8 t9 t10
      have hki : (0 : Int) ≤ (k : Int) := by omega
      have hkl : (k : Int) < (L.length : Int) := by omega
      clear WP WT WS hYes hGet hPut hNo hWr HSg HRD HC HH HT
      go_upto_region 15 with fail
      go_quiet (fail)
      go_wp2_with fail
      go_roundw
      case rel => exact ⟨k + 1, by omega, by go_num, ⟨⟨(unhide HS).bel.os, (unhide HS).bel.tape, (unhide HS).bel.output, (unhide HS).bel.size, (unhide HS).bel.block⟩, (unhide HS).own⟩, (unhide HA), (unhide HB)⟩
      case measure => simp [intOf]; omega
    · have hke : k = L.length := by omega
      subst hke
      clear HA HB
      have hnlt : decide ((L.length : Int) < (L.length : Int)) = false := by simp
      obtain ⟨q0, q1, q2, q3, q4, q5, q6, q7, q8, q9, q10⟩ := cells11 ((unhide HS).own (w1.heap.size, ⟨Ko, noo, ko, no, ⟨mKo, mFo, mTo, mIo, mLo, mko, mNo⟩⟩) (by simp))
      have hzq := blk_lt ((unhide HS).own (w1.heap.size, ⟨Ko, noo, ko, no, ⟨mKo, mFo, mTo, mIo, mLo, mko, mNo⟩⟩) (by simp))
      have y0 := cell_regrown q0
      have y1 := cell_regrown q1
      have y2 := cell_regrown q2
      have y3 := cell_regrown q3
      have y4 := cell_regrown q4
      have y5 := cell_regrown q5
      have y6 := cell_regrown q6
      have y7 := cell_regrown q7
      have y8 := cell_regrown q8
      have y9 := cell_regrown q9
      have y10 := cell_regrown q10
      clear q0 q1 q2 q3 q4 q5 q6 q7 q8 q9 q10 hzq
      go_upto_region 17 with fail
      refine wp_region_mix (by kernel_rfl) ?_
      show wpMix _ _ _ _ 10 (Array.replicate 10 false) _ _
      refine wpMix_take 0 rfl (by kernel_rfl) (by kernel_rfl) (by kernel_rfl) (fun _ _ _ _ h => h) (fun K hK => ?_)
      go_simp
      first
        | (refine hK _ ?_; clear hK K)
        | (apply Exists.intro
           refine ⟨fun _ => ?_, hK _ ?_⟩
           (fail)
           clear hK K)
      refine wpMix_take 1 rfl (by kernel_rfl) (by kernel_rfl) (by kernel_rfl) (fun _ _ _ _ h => h) (fun K hK => ?_)
      go_simp
      first
        | (refine hK _ ?_; clear hK K)
        | (apply Exists.intro
           refine ⟨fun _ => ?_, hK _ ?_⟩
           (fail)
           clear hK K)
      refine wpMix_take 2 rfl (by kernel_rfl) (by kernel_rfl) (by kernel_rfl) (fun _ _ _ _ h => h) (fun K hK => ?_)
      go_simp
      first
        | (refine hK _ ?_; clear hK K)
        | (apply Exists.intro
           refine ⟨fun _ => ?_, hK _ ?_⟩
           (fail)
           clear hK K)
      refine wpMix_take 3 rfl (by kernel_rfl) (by kernel_rfl) (by kernel_rfl) (fun _ _ _ _ h => h) (fun K hK => ?_)
      go_simp
      first
        | (refine hK _ ?_; clear hK K)
        | (apply Exists.intro
           refine ⟨fun _ => ?_, hK _ ?_⟩
           (fail)
           clear hK K)
      refine wpMix_take 4 rfl (by kernel_rfl) (by kernel_rfl) (by kernel_rfl) (fun _ _ _ _ h => h) (fun K hK => ?_)
      go_simp
      first
        | (refine hK _ ?_; clear hK K)
        | (apply Exists.intro
           refine ⟨fun _ => ?_, hK _ ?_⟩
           (exact unhide WP _)
           clear hK K)
      refine wpMix_take 5 rfl (by kernel_rfl) (by kernel_rfl) (by kernel_rfl) (fun _ _ _ _ h => h) (fun K hK => ?_)
      go_simp
      first
        | (refine hK _ ?_; clear hK K)
        | (apply Exists.intro
           refine ⟨fun _ => ?_, hK _ ?_⟩
           (fail)
           clear hK K)
      refine wpMix_take 6 rfl (by kernel_rfl) (by kernel_rfl) (by kernel_rfl) (fun _ _ _ _ h => h) (fun K hK => ?_)
      go_simp
      first
        | (refine hK _ ?_; clear hK K)
        | (apply Exists.intro
           refine ⟨fun _ => ?_, hK _ ?_⟩
           (fail)
           clear hK K)
      refine wpMix_take 7 rfl (by kernel_rfl) (by kernel_rfl) (by kernel_rfl) (fun _ _ _ _ h => h) (fun K hK => ?_)
      go_simp
      first
        | (refine hK _ ?_; clear hK K)
        | (apply Exists.intro
           refine ⟨fun _ => ?_, hK _ ?_⟩
           (fail)
           clear hK K)
      refine wpMix_take 8 rfl (by kernel_rfl) (by kernel_rfl) (by kernel_rfl) (fun _ _ _ _ h => h) (fun K hK => ?_)
      go_simp
      first
        | (refine hK _ ?_; clear hK K)
        | (apply Exists.intro
           refine ⟨fun _ => ?_, hK _ ?_⟩
           (fail)
           clear hK K)
      refine wpMix_take 9 rfl (by kernel_rfl) (by kernel_rfl) (by kernel_rfl) (fun _ _ _ _ h => h) (fun K hK => ?_)
      go_simp
      first
        | (refine hK _ ?_; clear hK K)
        | (apply Exists.intro
           refine ⟨fun _ => ?_, hK _ ?_⟩
           (fail)
           clear hK K)
      refine wpMix_done (by kernel_rfl) (fun z hz => ?_)
      have HS1 := hide ((unhide HS).step hz)
      clear hz HS WP hnlt y0 y1 y2 y3 y4 y5 y6 y7 y8 y9 y10
      obtain ⟨q0, q1, q2, q3, q4, q5, q6, q7, q8, q9, q10⟩ := cells11 ((unhide HS1).own (w1.heap.size, ⟨Ko, noo, ko, no, ⟨mKo, mFo, mTo, mIo, mLo, mko, mNo⟩⟩) (by simp))
      have hzq := blk_lt ((unhide HS1).own (w1.heap.size, ⟨Ko, noo, ko, no, ⟨mKo, mFo, mTo, mIo, mLo, mko, mNo⟩⟩) (by simp))
      go_wp2_with fail
      refine (unhide WS _).mono ?_
      rintro e z1 ⟨rfl, hb1⟩
      have HS2 := hide ((unhide HS1).step hb1)
      clear hb1 HS1 WS q0 q1 q2 q3 q4 q5 q6 q7 q8 q9 q10 hzq
      obtain ⟨q0, q1, q2, q3, q4, q5, q6, q7, q8, q9, q10⟩ := cells11 ((unhide HS2).own (w1.heap.size, ⟨Ko, noo, ko, no, ⟨mKo, mFo, mTo, mIo, mLo, mko, mNo⟩⟩) (by simp))
      have hzq := blk_lt ((unhide HS2).own (w1.heap.size, ⟨Ko, noo, ko, no, ⟨mKo, mFo, mTo, mIo, mLo, mko, mNo⟩⟩) (by simp))
      go_wp2_with fail
      refine (unhide WT _).mono ?_
      rintro e z2 ⟨rfl, hb2⟩
      have HS3 := hide ((unhide HS2).step hb2)
      clear hb2 HS2 WT q0 q1 q2 q3 q4 q5 q6 q7 q8 q9 q10 hzq
      cases M
      case' false =>
        obtain ⟨hS0, hX0⟩ := unhide hNo rfl
        subst hS0 hX0
        clear hNo hYes hGet hPut hWr HSg HRD HC HH HT
        cases WTB
        all_goals
          go_wp2_with fail
          go_ret
          exact ⟨rfl, (unhide HS3).bel⟩
      as_aux_lemma =>
      obtain ⟨hgo1, hgo2⟩ := unhide hGet rfl
      obtain ⟨hSp, hSb⟩ := unhide hPut rfl
      have hneS := not_empty S hSp
      have hXw := unhide hWr rfl
      obtain ⟨hr1, hr2, hr3⟩ := unhide hYes rfl
      rw [← hXw] at hr1 hr2 hr3
      have GB := hide (fun w1 h => implGetOp S (Nat.le_trans hSs (by unfold maxLen; omega)) w1 h)
      unfold gopV at GB
      rw [hgo1, hgo2] at GB
      have hXz : X.size ≤ 9010 := by omega
      have RX := hide (fun w1 h => implRead X (Nat.le_trans hXz (by unfold maxLen; omega)) w1 h)
      have RC := hide (fun w1 h => implRead (X.extract 0 (X.size - 1)) (by rw [ByteArray.size_extract]; unfold maxLen; omega) w1 h)
      have RS := hide (fun (i : Nat) (c : UInt8) (hi : i < X.data.toList.length) (h1 : X.size ≤ i + S.size) (h2 : c ≠ X.data.toList[i]) => (⟨fun w1 h => implRead ⟨(X.data.toList.set i c).toArray⟩ (by rw [size_of_list, List.length_set, size_toList]; unfold maxLen; omega) w1 h, hr3 i c hi (by rw [← hSb]; exact h1) h2⟩ : (∀ w1, Handle w1 → Calls Tryz.prog 10 #[.string ⟨(X.data.toList.set i c).toArray⟩] w1 (GivesO w1 ⟨(X.data.toList.set i c).toArray⟩)) ∧ rdAll ⟨(X.data.toList.set i c).toArray⟩ = (L, E)))
      unfold GivesO at RX RC RS
      rw [hr1] at RX
      rw [hr2] at RC
      dsimp only at RC
      have hXS : S.size < X.size := by
        rw [hXw, ByteArray.size_append, hSb]
        unfold entryB frameT
        rw [ByteArray.size_append, wordB_size]
        have := putT_list (opBytes_small (unhide HSg).2.1)
        have h2 := congrArg List.length this
        rw [List.length_append, size_toList, size_toList] at h2
        omega
      clear hr1 hr2 hr3 hXw hSb hgo1 hgo2 hGet hPut hNo hWr hYes HSg HRD
      have hl1 : (L ++ [(⟨Ko, noo, ko, no, ⟨mKo, mFo, mTo, mIo, mLo, mko, mNo⟩⟩ : Op5)]).length = L.length + 1 := by simp
      dsimp only at RX
      rw [hl1] at RX
      clear hl1
      go_wp2_with fail
      refine (unhide GB _ ((unhide HH).below (unhide HS3).bel)).mono ?_
      rintro e z3 ⟨rfl, hb3⟩
      have HS4 := hide (((unhide HS3).step hb3).put ⟨Ko, noo, ko, no, ⟨mKo, mFo, mTo, mIo, mLo, mko, mNo⟩⟩)
      clear hb3 HS3 GB
      go_wp2_with fail
      refine (unhide RX _ ((unhide HH).below (unhide HS4).bel)).mono ?_
      rintro e z4 ⟨v3, rfl, ho3, hb4⟩
      obtain ⟨a3, c3, hv3⟩ : ∃ a3 c3, v3 = .slice a3 (L.length + 1) c3 := by
        rcases ho3.2 with ⟨rfl, hn⟩ | ⟨gx, cx, cur, rfl, _⟩
        · omega
        · exact ⟨_, _, rfl⟩
      subst hv3
      have HS5 := hide ((unhide HS4).step hb4)
      clear hb4 HS4 RX ho3
      have hXi : (1 : Int) ≤ (X.size : Int) := by omega
      go_wp2_with fail
      refine (unhide RC _ ((unhide HH).below (unhide HS5).bel)).mono ?_
      rintro e z5 ⟨v4, rfl, ho4, hb5⟩
      obtain ⟨a4, c4, hv4, _⟩ := GR.own_at encO_length ho4
      subst hv4
      have HS6 := hide ((unhide HS5).step hb5)
      clear hb5 HS5 RC ho4
      obtain ⟨bcap, z6, hconv, hcells, hfree, hbel⟩ := jconv_bytes X z5
      have HS7 := hide ((unhide HS6).step hbel)
      have HCE := hide hcells
      have HFR := hide hfree
      have hz6 : z5.heap.size ≤ z6.heap.size := hbel.size
      have hne6 : ∀ x ∈ [(z3.heap.size, (⟨Ko, noo, ko, no, ⟨mKo, mFo, mTo, mIo, mLo, mko, mNo⟩⟩ : Op5)), (w1.heap.size, ⟨Ko, noo, ko, no, ⟨mKo, mFo, mTo, mIo, mLo, mko, mNo⟩⟩)], x.1 < z5.heap.size := fun x hx => blk_lt ((unhide HS6).own x hx)
      have HNE := hide hne6
      have hb6 := (unhide HS7).bel
      have hwz5 := (unhide HS6).bel.size
      clear hcells hfree hbel HS6 hne6
      obtain ⟨x3, hx30, hx31, hat3⟩ := atX a len cap 3 z6 ((unhide HC).below hb6) (by omega)
      obtain ⟨x4, hx40, hx41, hat4⟩ := atG a len cap 4 z6 ((unhide HC).below hb6) (by omega)
      have HAT3 := hide hat3
      have HAT4 := hide hat4
      clear hat3 hat4
      have hm1 : x3.tmod S.size = x3 % S.size := Int.tmod_eq_emod_of_nonneg hx30
      have hm2 : 0 ≤ x3 % (S.size : Int) ∧ x3 % (S.size : Int) < (S.size : Int) := ⟨Int.emod_nonneg _ (by omega), Int.emod_lt_of_pos _ (by omega)⟩
      obtain ⟨r3, hr3⟩ := Int.eq_ofNat_of_zero_le hm2.1
      rw [hr3] at hm1 hm2
      have hr3s : r3 < S.size := by omega
      have hSi : ¬ ((S.size : Int) = 0) := by omega
      have HM1 := hide hm1
      clear hr3 hm2
      obtain ⟨i, hii⟩ : ∃ i : Nat, (X.size : Int) - 1 - (r3 : Int) = (i : Int) := ⟨X.size - 1 - r3, by omega⟩
      have hiX : i < X.size := by omega
      have hiS : X.size ≤ i + S.size := by omega
      go_upto_region 29 with (go_at_call 23; refine (unhide HAT3 _ ?_).mono ?_; rfl; rintro e z7 ⟨rfl, rfl⟩)
      have cj := unhide HCE i hiX
      have fj := unhide HFR i hiX
      have hlb := X[i].toNat_lt
      obtain ⟨B, hB⟩ : ∃ B : Int, ((X[i].toNat : Nat) : Int) = B := ⟨_, rfl⟩
      rw [hB] at cj
      have hB0 : 0 ≤ B ∧ B ≤ 255 := by omega
      have HBB := hide hB
      clear hlb hB
      obtain ⟨c, hc, hcne⟩ := xor_byte X[i] (1 + x4 % 255) (by omega) (by omega)
      rw [unhide HBB] at hc
      obtain ⟨RS1, RS2⟩ := unhide RS i c (by rw [size_toList]; exact hiX) hiS (fun e => hcne e)
      rw [RS2] at RS1
      dsimp only at RS1
      have HRS := hide RS1
      clear RS1 RS2 RS hcne
      have hzz : IntKind.u8.wrap (IntKind.i64.wrap (1 + x4.tmod 255)) = 1 + x4 % 255 := by
        rw [Int.tmod_eq_emod_of_nonneg hx40, IntWalk.i64_in _ ⟨by omega, by omega⟩, IntWalk.u8_in _ ⟨by omega, by omega⟩]
      have HZZ := hide hzz
      have HC' := hide hc
      have hz57 := cell_lt cj
      have y1 := cell_regrown cj
      have hbi : (i : Int) < (X.size : Int) := by omega
      have hbi0 : (0 : Int) ≤ (i : Int) := by omega
      clear hzz hc hm1 hii cj fj
      refine wp_region_mixE 13 (by kernel_rfl) ?_
      show wpMixE _ _ _ _ _ 14 (Array.replicate 14 false) _ _
      refine wpMixE_take 0 20 rfl (by kernel_rfl) (by kernel_rfl) (by kernel_rfl) (by kernel_rfl) (by kernel_rfl) (fun _ _ _ _ h => h) (fun K hK => ?_)
      go_simp
      first
        | (refine hK _ ?_; clear hK K)
        | (apply Exists.intro
           refine ⟨fun _ => ?_, hK _ ?_⟩
           (fail)
           clear hK K)
      refine wpMixE_take 1 20 rfl (by kernel_rfl) (by kernel_rfl) (by kernel_rfl) (by kernel_rfl) (by kernel_rfl) (fun _ _ _ _ h => h) (fun K hK => ?_)
      go_simp
      first
        | (refine hK _ ?_; clear hK K)
        | (apply Exists.intro
           refine ⟨fun _ => ?_, hK _ ?_⟩
           (fail)
           clear hK K)
      refine wpMixE_take 2 20 rfl (by kernel_rfl) (by kernel_rfl) (by kernel_rfl) (by kernel_rfl) (by kernel_rfl) (fun _ _ _ _ h => h) (fun K hK => ?_)
      go_simp
      first
        | (refine hK _ ?_; clear hK K)
        | (apply Exists.intro
           refine ⟨fun _ => ?_, hK _ ?_⟩
           (fail)
           clear hK K)
      refine wpMixE_take 3 20 rfl (by kernel_rfl) (by kernel_rfl) (by kernel_rfl) (by kernel_rfl) (by kernel_rfl) (fun _ _ _ _ h => h) (fun K hK => ?_)
      go_simp
      first
        | (refine hK _ ?_; clear hK K)
        | (apply Exists.intro
           refine ⟨fun _ => ?_, hK _ ?_⟩
           (fail)
           clear hK K)
      refine wpMixE_take 4 20 rfl (by kernel_rfl) (by kernel_rfl) (by kernel_rfl) (by kernel_rfl) (by kernel_rfl) (fun _ _ _ _ h => h) (fun K hK => ?_)
      go_simp
      first
        | (refine hK _ ?_; clear hK K)
        | (apply Exists.intro
           refine ⟨fun _ => ?_, hK _ ?_⟩
           (fail)
           clear hK K)
      refine wpMixE_take 5 20 rfl (by kernel_rfl) (by kernel_rfl) (by kernel_rfl) (by kernel_rfl) (by kernel_rfl) (fun _ _ _ _ h => h) (fun K hK => ?_)
      go_simp
      first
        | (refine hK _ ?_; clear hK K)
        | (apply Exists.intro
           refine ⟨fun _ => ?_, hK _ ?_⟩
           (fail)
           clear hK K)
      refine wpMixE_take 6 20 rfl (by kernel_rfl) (by kernel_rfl) (by kernel_rfl) (by kernel_rfl) (by kernel_rfl) (fun _ _ _ _ h => h) (fun K hK => ?_)
      go_simp
      first
        | (refine hK _ ?_; clear hK K)
        | (apply Exists.intro
           refine ⟨fun _ => ?_, hK _ ?_⟩
           (fail)
           clear hK K)
      refine wpMixE_take 7 20 rfl (by kernel_rfl) (by kernel_rfl) (by kernel_rfl) (by kernel_rfl) (by kernel_rfl) (fun _ _ _ _ h => h) (fun K hK => ?_)
      go_simp
      first
        | (refine hK _ ?_; clear hK K)
        | (apply Exists.intro
           refine ⟨fun _ => ?_, hK _ ?_⟩
           (exact unhide HAT4 _ (below_regrown _ _ _))
           clear hK K)
      refine wpMixE_take 8 20 rfl (by kernel_rfl) (by kernel_rfl) (by kernel_rfl) (by kernel_rfl) (by kernel_rfl) (fun _ _ _ _ h => h) (fun K hK => ?_)
      go_simp
      first
        | (refine hK _ ?_; clear hK K)
        | (apply Exists.intro
           refine ⟨fun _ => ?_, hK _ ?_⟩
           (fail)
           clear hK K)
      refine wpMixE_take 9 20 rfl (by kernel_rfl) (by kernel_rfl) (by kernel_rfl) (by kernel_rfl) (by kernel_rfl) (fun _ _ _ _ h => h) (fun K hK => ?_)
      go_simp
      first
        | (refine hK _ ?_; clear hK K)
        | (apply Exists.intro
           refine ⟨fun _ => ?_, hK _ ?_⟩
           (fail)
           clear hK K)
      refine wpMixE_take 10 20 rfl (by kernel_rfl) (by kernel_rfl) (by kernel_rfl) (by kernel_rfl) (by kernel_rfl) (fun _ _ _ _ h => h) (fun K hK => ?_)
      go_simp
      first
        | (refine hK _ ?_; clear hK K)
        | (apply Exists.intro
           refine ⟨fun _ => ?_, hK _ ?_⟩
           (fail)
           clear hK K)
      refine wpMixE_take 11 20 rfl (by kernel_rfl) (by kernel_rfl) (by kernel_rfl) (by kernel_rfl) (by kernel_rfl) (fun _ _ _ _ h => h) (fun K hK => ?_)
      go_simp
      first
        | (refine hK _ ?_; clear hK K)
        | (apply Exists.intro
           refine ⟨fun _ => ?_, hK _ ?_⟩
           (fail)
           clear hK K)
      refine wpMixE_take 12 20 rfl (by kernel_rfl) (by kernel_rfl) (by kernel_rfl) (by kernel_rfl) (by kernel_rfl) (fun _ _ _ _ h => h) (fun K hK => ?_)
      go_simp
      first
        | (refine hK _ ?_; clear hK K)
        | (apply Exists.intro
           refine ⟨fun _ => ?_, hK _ ?_⟩
           (fail)
           clear hK K)
      refine wpMixE_leave (by kernel_rfl) (fun Y hY => ?_)
      have HCY := hide (fun j (hj : j < X.size) => (hY.cell (p := ⟨z5.heap.size, j, none⟩) hz57).trans (unhide HCE j hj))
      have cy : Y.cell? ⟨z5.heap.size, i, none⟩ = some (.int .u8 B) := by rw [unhide HCY i hiX, unhide HBB]
      have fy : Y.frozen? ⟨z5.heap.size, i, none⟩ = false := (hY.frozen (p := ⟨z5.heap.size, i, none⟩) hz57).trans (unhide HFR i hiX)
      have HSY := hide ((unhide HS7).step hY)
      clear hY y1
      refine wpAny_one 13 rfl (by kernel_rfl) (by rfl) ?_
      go_simp
      refine wpAny_done (by kernel_rfl) ?_
      go_simp
      go_upto_region 30 with fail
      refine wp_at (fun Z hZ => ?_)
      rw [unhide HZZ, unhide HC'] at hZ
      have hbk : (convert 30 9 (.slice (some ⟨z5.heap.size, 0, none⟩) X.size bcap)).run Tryz.prog Z = .ok (.string ⟨(X.data.toList.set i c).toArray⟩) Z := by rw [hZ]; exact jconv_changed X Y z5.heap.size i bcap c hiX (fun j hj => unhide HCY j hj)
      have HS8 := hide (show JSt w [(z3.heap.size, (⟨Ko, noo, ko, no, ⟨mKo, mFo, mTo, mIo, mLo, mko, mNo⟩⟩ : Op5)), (w1.heap.size, ⟨Ko, noo, ko, no, ⟨mKo, mFo, mTo, mIo, mLo, mko, mNo⟩⟩)] Z by
        rw [hZ]
        exact ⟨(unhide HSY).bel.setCell (p := ⟨z5.heap.size, i, none⟩) hwz5 _, fun x hx => by
          have hlt := unhide HNE x hx
          exact (Below.heap_setCell _ _ _ _ (show x.1 ≠ z5.heap.size by omega)).trans ((unhide HSY).own x hx)⟩)
      clear hZ HZZ HC' HCE HFR HAT3 HAT4 HS7 HSY HCY cy fy hconv hb6 HNE HBB
      go_wp2_with fail
      refine (unhide HRS _ ((unhide HH).below (unhide HS8).bel)).mono ?_
      rintro e z9 ⟨v5, rfl, ho5, hb9⟩
      obtain ⟨a5, c5, hv5, _⟩ := GR.own_at encO_length ho5
      subst hv5
      have HS9 := hide ((unhide HS8).step hb9)
      clear hb9 HS8 ho5 hbk HRS
      obtain ⟨p0, p1, p2, p3, p4, p5, p6, p7, p8, p9, p10⟩ := cells11 ((unhide HS9).own (z3.heap.size, ⟨Ko, noo, ko, no, ⟨mKo, mFo, mTo, mIo, mLo, mko, mNo⟩⟩) (by simp))
      have hzp := blk_lt ((unhide HS9).own (z3.heap.size, ⟨Ko, noo, ko, no, ⟨mKo, mFo, mTo, mIo, mLo, mko, mNo⟩⟩) (by simp))
      obtain ⟨q0, q1, q2, q3, q4, q5, q6, q7, q8, q9, q10⟩ := cells11 ((unhide HS9).own (w1.heap.size, ⟨Ko, noo, ko, no, ⟨mKo, mFo, mTo, mIo, mLo, mko, mNo⟩⟩) (by simp))
      have hzq := blk_lt ((unhide HS9).own (w1.heap.size, ⟨Ko, noo, ko, no, ⟨mKo, mFo, mTo, mIo, mLo, mko, mNo⟩⟩) (by simp))
      go_wp2_with fail
      go_ret
      exact ⟨rfl, (unhide HS9).bel⟩
end Go.Proofs.YtikdkijggejnfaaGreatDoor
