/-
  The law FnMsg: whatever is drawn, a message comes back from its bytes and its frame, and nothing else does.
-/
import Derived.Test.YtlopllgioobcjaaGreatDoorGrpUn
import Derived.Test.YtlopllgioobcjaaGreatDoorGrpDr
import Derived.Test.YtlopllgioobcjaaGreatDoorMgPut
import Derived.Test.YtlopllgioobcjaaGreatDoorMgFr
import Derived.Test.YtlopllgioobcjaaGreatDoorMgGetS
import Derived.Test.YtlopllgioobcjaaGreatDoorMgGetI
import Derived.Test.YtlopllgioobcjaaGreatDoorGrpTx
namespace Go.Proofs.YtlopllgioobcjaaGreatDoor
open Go.RowKit
open Mth

/-- Messages each in a block of its own. -/
structure FSt (w : World) (fs : List (Nat × Mg)) (W : World) : Prop where
  bel : Below w.heap.size w W
  own : ∀ x ∈ fs, W.heap[x.1]? = some (.cells (mgC x.2) 25 (0, 0))
theorem FSt.step {w W W' : World} {fs : List (Nat × Mg)} (h : FSt w fs W) (hb : Below W.heap.size W W') : FSt w fs W' := ⟨h.bel.trans (hb.mono h.bel.size), fun x hx => blk_step (h.own x hx) hb⟩
theorem FSt.put {w W : World} {fs : List (Nat × Mg)} (h : FSt w fs W) (m : Mg) : FSt w ((W.heap.size, m) :: fs) (W.alloc (.cells (mgC m) 25)) := by
  refine ⟨h.bel.alloc h.bel.size _, fun x hx => ?_⟩
  rcases List.mem_cons.1 hx with rfl | hx
  · exact heap_alloc_new W _
  · rw [Below.heap_alloc _ _ _ (blk_lt (h.own x hx))]
    exact h.own x hx
theorem lawsAt3 (a : Option Addr) (len cap : Nat) (w : World) (hcode : CodeOk w a len) : Calls Tryz.prog 20 #[.slice a len cap, .int .i64 3] w fun e w' => (∃ x : Int, e = .returned (.int .i64 x) ∧ 0 ≤ x ∧ x ≤ 255) ∧ w = w' := by
  have hl := hcode.1
  by_cases hlt : 3 < len
  · obtain ⟨b, off, z, rfl, hb, z0, z1, hz⟩ := hcode.2 3 hlt
    clear hcode
    go_enter Tryz.func20, Tryz.ntmps20
    go_wp2
    go_ret
    exact ⟨⟨z, rfl, z0, z1⟩, rfl⟩
  · clear hcode
    go_enter Tryz.func20, Tryz.ntmps20
    go_wp2
    go_ret
    exact ⟨⟨_, rfl, by omega, by omega⟩, rfl⟩

set_option maxRecDepth 100000 in
set_option maxHeartbeats 8000000 in
theorem fnMsg_go (a : Option Addr) (len cap : Nat) (w : World) (hcode : CodeOk w a len) (hH : Handle w) (hT : Tens w) : Calls Tryz.prog 3 #[.slice a len cap] w fun e w' => e = .returned (.bool true) ∧ Below w.heap.size w w' := by
  have HC := hide hcode
  have HH := hide hH
  have HT := hide hT
  have hlen := hcode.1
  clear hcode hH hT
  go_enter Tryz.func3, Tryz.ntmps3
  go_wp2_with fail
  refine (bigNo a len cap _ hlen).mono ?_
  rintro e w0 ⟨rfl, rfl⟩
  go_wp2_with fail
  refine (drawPutMsg a len cap _ (unhide HC)).mono ?_
  rintro e w1 ⟨m, rfl, hks, hb1⟩
  have HS1 := hide (show FSt w [] w1 from ⟨hb1, fun x hx => by cases hx⟩)
  have hkm : m.k.size ≤ maxLen := Nat.le_trans hks (by unfold maxLen; omega)
  have P1 := hide (fun w1 => implPutMsg m w1)
  have P2 := hide (fun w1 => specPutMsg m w1 hkm)
  have R1 := hide (fun w1 => implFrame m w1)
  have R2 := hide (fun w1 => specFrame m w1 hkm)
  have O1 := hide (fun w1 => implMsgOk m w1)
  have O2 := hide (fun w1 => specMsgOk m w1 hkm)
  have T1 := hide (fun w1 h => implMsgText m w1 h)
  have T2 := hide (fun w1 => specMsgText m w1 hkm)
  have hM := hide (fun h : mgOk m = true => (⟨putMsg_yes h, frm_yes h, get_back h, (back_msg h).2, back_frame h, cut_none h, more_none h⟩ : putMsg m = mgBytes m ∧ frm m = frameT (mgBytes m) ∧ getMg (mgBytes m) = m ∧ getOk (mgBytes m) = true ∧ (unOk (frm m) = true ∧ unMg (frm m) = m) ∧ (∀ k, k < (frm m).size → unOk ((frm m).extract 0 k) = false) ∧ ∀ x : ByteArray, 0 < x.size → unOk (frm m ++ x) = false))
  have hN := hide (fun h : mgOk m = false => (⟨putMsg_no h, frm_no h⟩ : putMsg m = ByteArray.empty ∧ frm m = ByteArray.empty))
  have hsS := putMsg_le m
  have hsF := frm_le m
  have hpos := hide (show mgOk m = true → 0 < (putMsg m).size ∧ 0 < (frm m).size from fun h => by rw [putMsg_yes h, frm_yes h]; refine ⟨mgBytes_pos m, ?_⟩; unfold frameT; rw [ByteArray.size_append, wordB_size]; omega)
  clear hb1 hks hkm
  generalize hmo : mgOk m = M at *
  generalize hpm : putMsg m = S at *
  generalize hfm : frm m = FR at *
  generalize msgTx m = TX at *
  have HMO := hide (And.intro hmo (And.intro hpm hfm))
  clear hmo hpm hfm
  obtain ⟨Km, Fm, Tm, Im, Lm, km, Nm⟩ := m
  go_wp2_with fail
  refine (unhide P1 _).mono ?_
  rintro e w2 ⟨rfl, hb2⟩
  have HS2 := hide (((unhide HS1).put ⟨Km, Fm, Tm, Im, Lm, km, Nm⟩).step hb2)
  clear hb2 HS1
  obtain ⟨c0, c1, c2, c3, c4, c5, c6⟩ := cells7 ((unhide HS2).own (w1.heap.size, ⟨Km, Fm, Tm, Im, Lm, km, Nm⟩) (by simp))
  have hzc := blk_lt ((unhide HS2).own (w1.heap.size, ⟨Km, Fm, Tm, Im, Lm, km, Nm⟩) (by simp))
  go_wp2_with fail
  refine (unhide R1 _).mono ?_
  rintro e w3 ⟨rfl, hb3⟩
  have HS3 := hide ((unhide HS2).step hb3)
  clear hb3 HS2 c0 c1 c2 c3 c4 c5 c6 hzc
  go_wp2_with fail
  refine (drawGetMsg a len cap _ ((unhide HC).below (unhide HS3).bel)).mono ?_
  rintro e w4 ⟨u, rfl, hu, hb4⟩
  have HS4 := hide ((unhide HS3).step hb4)
  have hum : u.size ≤ maxLen := by unfold maxLen; omega
  have G1 := hide (fun w1 h => implGetMsg u hum w1 h)
  have G2 := hide (fun w1 => specGetMsg u hum w1)
  have hGb := hide (show getOk u = true → putMsg (getMg u) = u from fun h => by obtain ⟨g1, g2⟩ := got_bytes h; rw [putMsg_yes g1, g2])
  have PX := hide (fun w1 => implPutMsg (getMg u) w1)
  unfold getV at G1 G2
  generalize getOk u = OKU at *
  generalize putMsg (getMg u) = SX at *
  generalize getMg u = X at *
  obtain ⟨Kx, Fx, Tx, Ix, Lx, kx, Nx⟩ := X
  clear hb4 HS3 hum
  go_wp2_with fail
  refine (unhide G1 _ ((unhide HH).below (unhide HS4).bel)).mono ?_
  rintro e w5 ⟨rfl, hb5⟩
  have HS5 := hide ((unhide HS4).step hb5)
  clear hb5 HS4 G1
  go_wp2_with fail
  refine (unhide G2 _).mono ?_
  rintro e w6 ⟨rfl, hb6⟩
  have HS6 := hide (((unhide HS5).put ⟨Kx, Fx, Tx, Ix, Lx, kx, Nx⟩).step hb6)
  clear hb6 HS5 G2
  go_wp2_with fail
  refine (drawUnframe a len cap _ ((unhide HC).below ((unhide HS6).put ⟨Kx, Fx, Tx, Ix, Lx, kx, Nx⟩).bel)).mono ?_
  rintro e w7 ⟨v, rfl, hv, hb7⟩
  have HS7 := hide (((unhide HS6).put ⟨Kx, Fx, Tx, Ix, Lx, kx, Nx⟩).step hb7)
  have hvm : v.size ≤ maxLen := by unfold maxLen; omega
  have U1 := hide (fun w1 h => implUnframe v hvm w1 h)
  have U2 := hide (fun w1 => specUnframe v hvm w1)
  have hUb := hide (show unOk v = true → frm (unMg v) = v from fun h => (un_frame h).1)
  have RP := hide (fun w1 => implFrame (unMg v) w1)
  unfold unV at U1 U2
  generalize unOk v = OKV at *
  generalize frm (unMg v) = FP at *
  generalize unMg v = Y at *
  obtain ⟨Ky, Fy, Ty, Iy, Ly, ky, Ny⟩ := Y
  clear hb7 HS6 hvm
  go_wp2_with fail
  refine (unhide U1 _ ((unhide HH).below (unhide HS7).bel)).mono ?_
  rintro e w8 ⟨rfl, hb8⟩
  have HS8 := hide ((unhide HS7).step hb8)
  clear hb8 HS7 U1
  go_wp2_with fail
  refine (unhide U2 _).mono ?_
  rintro e w9 ⟨rfl, hb9⟩
  have HS9 := hide (((unhide HS8).put ⟨Ky, Fy, Ty, Iy, Ly, ky, Ny⟩).step hb9)
  clear hb9 HS8 U2
  go_upto_region 12 with fail
  refine wp_at (fun V hV => ?_)
  have HSV := hide (show FSt w ((w9.heap.size, ⟨Ky, Fy, Ty, Iy, Ly, ky, Ny⟩) :: (w8.heap.size, ⟨Ky, Fy, Ty, Iy, Ly, ky, Ny⟩) :: (w6.heap.size, ⟨Kx, Fx, Tx, Ix, Lx, kx, Nx⟩) :: (w5.heap.size, ⟨Kx, Fx, Tx, Ix, Lx, kx, Nx⟩) :: (w1.heap.size, ⟨Km, Fm, Tm, Im, Lm, km, Nm⟩) :: []) V by rw [hV]; exact (unhide HS9).put ⟨Ky, Fy, Ty, Iy, Ly, ky, Ny⟩)
  clear hV HS9
  go_cut [99] (fun r wx => r = .bool false ∧ FSt w ((w9.heap.size, ⟨Ky, Fy, Ty, Iy, Ly, ky, Ny⟩) :: (w8.heap.size, ⟨Ky, Fy, Ty, Iy, Ly, ky, Ny⟩) :: (w6.heap.size, ⟨Kx, Fx, Tx, Ix, Lx, kx, Nx⟩) :: (w5.heap.size, ⟨Kx, Fx, Tx, Ix, Lx, kx, Nx⟩) :: (w1.heap.size, ⟨Km, Fm, Tm, Im, Lm, km, Nm⟩) :: []) wx)
  case first =>
    obtain ⟨aq0, aq1, aq2, aq3, aq4, aq5, aq6⟩ := cells7 ((unhide HSV).own (w9.heap.size, ⟨Ky, Fy, Ty, Iy, Ly, ky, Ny⟩) (by simp))
    have hzaq := blk_lt ((unhide HSV).own (w9.heap.size, ⟨Ky, Fy, Ty, Iy, Ly, ky, Ny⟩) (by simp))
    have ay0 := cell_regrown aq0
    have ay1 := cell_regrown aq1
    have ay2 := cell_regrown aq2
    have ay3 := cell_regrown aq3
    have ay4 := cell_regrown aq4
    have ay5 := cell_regrown aq5
    have ay6 := cell_regrown aq6
    clear aq0 aq1 aq2 aq3 aq4 aq5 aq6
    obtain ⟨bq0, bq1, bq2, bq3, bq4, bq5, bq6⟩ := cells7 ((unhide HSV).own (w8.heap.size, ⟨Ky, Fy, Ty, Iy, Ly, ky, Ny⟩) (by simp))
    have hzbq := blk_lt ((unhide HSV).own (w8.heap.size, ⟨Ky, Fy, Ty, Iy, Ly, ky, Ny⟩) (by simp))
    have by0 := cell_regrown bq0
    have by1 := cell_regrown bq1
    have by2 := cell_regrown bq2
    have by3 := cell_regrown bq3
    have by4 := cell_regrown bq4
    have by5 := cell_regrown bq5
    have by6 := cell_regrown bq6
    clear bq0 bq1 bq2 bq3 bq4 bq5 bq6
    obtain ⟨cq0, cq1, cq2, cq3, cq4, cq5, cq6⟩ := cells7 ((unhide HSV).own (w6.heap.size, ⟨Kx, Fx, Tx, Ix, Lx, kx, Nx⟩) (by simp))
    have hzcq := blk_lt ((unhide HSV).own (w6.heap.size, ⟨Kx, Fx, Tx, Ix, Lx, kx, Nx⟩) (by simp))
    have cy0 := cell_regrown cq0
    have cy1 := cell_regrown cq1
    have cy2 := cell_regrown cq2
    have cy3 := cell_regrown cq3
    have cy4 := cell_regrown cq4
    have cy5 := cell_regrown cq5
    have cy6 := cell_regrown cq6
    clear cq0 cq1 cq2 cq3 cq4 cq5 cq6
    obtain ⟨dq0, dq1, dq2, dq3, dq4, dq5, dq6⟩ := cells7 ((unhide HSV).own (w5.heap.size, ⟨Kx, Fx, Tx, Ix, Lx, kx, Nx⟩) (by simp))
    have hzdq := blk_lt ((unhide HSV).own (w5.heap.size, ⟨Kx, Fx, Tx, Ix, Lx, kx, Nx⟩) (by simp))
    have dy0 := cell_regrown dq0
    have dy1 := cell_regrown dq1
    have dy2 := cell_regrown dq2
    have dy3 := cell_regrown dq3
    have dy4 := cell_regrown dq4
    have dy5 := cell_regrown dq5
    have dy6 := cell_regrown dq6
    clear dq0 dq1 dq2 dq3 dq4 dq5 dq6
    obtain ⟨eq0, eq1, eq2, eq3, eq4, eq5, eq6⟩ := cells7 ((unhide HSV).own (w1.heap.size, ⟨Km, Fm, Tm, Im, Lm, km, Nm⟩) (by simp))
    have hzeq := blk_lt ((unhide HSV).own (w1.heap.size, ⟨Km, Fm, Tm, Im, Lm, km, Nm⟩) (by simp))
    have ey0 := cell_regrown eq0
    have ey1 := cell_regrown eq1
    have ey2 := cell_regrown eq2
    have ey3 := cell_regrown eq3
    have ey4 := cell_regrown eq4
    have ey5 := cell_regrown eq5
    have ey6 := cell_regrown eq6
    clear eq0 eq1 eq2 eq3 eq4 eq5 eq6
    have p2 : ∀ d os, Calls Tryz.prog 14 #[.agg #[.int .i64 Km, .int .i64 Fm, .int .i64 Tm, .int .i64 Im, .int .i64 Lm, .string km, .int .i64 Nm]] (Sort.grow (redrawn V d) os) fun e w'' => e = .returned (.string S) ∧ ∃ p : Regrown, w'' = Sort.grow (redrawn V p.d) p.os := fun d os => Calls.regrown_of (unhide P2 _)
    have r2 : ∀ d os, Calls Tryz.prog 15 #[.agg #[.int .i64 Km, .int .i64 Fm, .int .i64 Tm, .int .i64 Im, .int .i64 Lm, .string km, .int .i64 Nm]] (Sort.grow (redrawn V d) os) fun e w'' => e = .returned (.string FR) ∧ ∃ p : Regrown, w'' = Sort.grow (redrawn V p.d) p.os := fun d os => Calls.regrown_of (unhide R2 _)
    have o1 : ∀ d os, Calls Tryz.prog 16 #[.agg #[.int .i64 Km, .int .i64 Fm, .int .i64 Tm, .int .i64 Im, .int .i64 Lm, .string km, .int .i64 Nm]] (Sort.grow (redrawn V d) os) fun e w'' => e = .returned (.bool M) ∧ ∃ p : Regrown, w'' = Sort.grow (redrawn V p.d) p.os := fun d os => Calls.regrown_of (unhide O1 _)
    have o2 : ∀ d os, Calls Tryz.prog 17 #[.agg #[.int .i64 Km, .int .i64 Fm, .int .i64 Tm, .int .i64 Im, .int .i64 Lm, .string km, .int .i64 Nm]] (Sort.grow (redrawn V d) os) fun e w'' => e = .returned (.bool M) ∧ ∃ p : Regrown, w'' = Sort.grow (redrawn V p.d) p.os := fun d os => Calls.regrown_of (unhide O2 _)
    have t2 : ∀ d os, Calls Tryz.prog 19 #[.agg #[.int .i64 Km, .int .i64 Fm, .int .i64 Tm, .int .i64 Im, .int .i64 Lm, .string km, .int .i64 Nm]] (Sort.grow (redrawn V d) os) fun e w'' => e = .returned (.string TX) ∧ ∃ p : Regrown, w'' = Sort.grow (redrawn V p.d) p.os := fun d os => Calls.regrown_of (unhide T2 _)
    have t1 : ∀ d os, Calls Tryz.prog 18 #[.agg #[.int .i64 Km, .int .i64 Fm, .int .i64 Tm, .int .i64 Im, .int .i64 Lm, .string km, .int .i64 Nm]] (Sort.grow (redrawn V d) os) fun e w'' => e = .returned (.string TX) ∧ ∃ p : Regrown, w'' = Sort.grow (redrawn V p.d) p.os := fun d os => Calls.regrown_of (unhide T1 _ (((unhide HT).below (unhide HSV).bel).below (below_regrown V d os)))
    clear P1 P2 R1 R2 O1 O2 T1 T2 PX RP
    refine wp_region_quiet_below (by kernel_rfl) (by kernel_rfl) ?_
    repeat (first | go_big_quiet_step (first | (go_at_call 14; exact p2 _ _) | (go_at_call 15; exact r2 _ _) | (go_at_call 16; exact o1 _ _) | (go_at_call 17; exact o2 _ _) | (go_at_call 18; exact t1 _ _) | (go_at_call 19; exact t2 _ _)) | quiet_step (first | (go_at_call 14; exact p2 _ _) | (go_at_call 15; exact r2 _ _) | (go_at_call 16; exact o1 _ _) | (go_at_call 17; exact o2 _ _) | (go_at_call 18; exact t1 _ _) | (go_at_call 19; exact t2 _ _)))
    refine wpQuiet_nil ?_
    intro _ hw'
    obtain ⟨⟨dq, osq⟩, hw''⟩ := hw'
    subst hw''
    have HBL := hide ((unhide HSV).step (below_regrown V dq osq))
    clear p2 r2 o1 o2 t1 t2 ay0 ay1 ay2 ay3 ay4 ay5 ay6 by0 by1 by2 by3 by4 by5 by6 cy0 cy1 cy2 cy3 cy4 cy5 cy6 dy0 dy1 dy2 dy3 dy4 dy5 dy6 ey0 ey1 ey2 ey3 ey4 ey5 ey6
    go_wp2_with fail
    go_meet
    case rel => exact ⟨rfl, unhide HBL⟩
  case rest =>
  obtain ⟨rfl, hst⟩ := hcut
  clear HSV
  have HSV := hide hst
  clear hst
  go_upto_region 14 with fail
  go_cut [129] (fun r wx => r = .bool false ∧ FSt w ((w9.heap.size, ⟨Ky, Fy, Ty, Iy, Ly, ky, Ny⟩) :: (w8.heap.size, ⟨Ky, Fy, Ty, Iy, Ly, ky, Ny⟩) :: (w6.heap.size, ⟨Kx, Fx, Tx, Ix, Lx, kx, Nx⟩) :: (w5.heap.size, ⟨Kx, Fx, Tx, Ix, Lx, kx, Nx⟩) :: (w1.heap.size, ⟨Km, Fm, Tm, Im, Lm, km, Nm⟩) :: []) wx)
  case first =>
    clear P1 P2 R1 R2 O1 T1 T2
    cases M
    case' false =>
      clear hM hpos
      cases OKU
      case' false =>
        cases OKV
        case' false =>
          as_aux_lemma =>
          obtain ⟨e1, e2⟩ := unhide hN rfl
          subst e1 e2
          clear hGb hUb HMO HC HH HT hN
          obtain ⟨b0, b1, b2, b3, b4, b5, b6⟩ := cells7 ((unhide HSV).own (w8.heap.size, ⟨Ky, Fy, Ty, Iy, Ly, ky, Ny⟩) (by simp))
          have hzb := blk_lt ((unhide HSV).own (w8.heap.size, ⟨Ky, Fy, Ty, Iy, Ly, ky, Ny⟩) (by simp))
          obtain ⟨d0, d1, d2, d3, d4, d5, d6⟩ := cells7 ((unhide HSV).own (w5.heap.size, ⟨Kx, Fx, Tx, Ix, Lx, kx, Nx⟩) (by simp))
          have hzd := blk_lt ((unhide HSV).own (w5.heap.size, ⟨Kx, Fx, Tx, Ix, Lx, kx, Nx⟩) (by simp))
          obtain ⟨e0, e1, e2, e3, e4, e5, e6⟩ := cells7 ((unhide HSV).own (w1.heap.size, ⟨Km, Fm, Tm, Im, Lm, km, Nm⟩) (by simp))
          have hze := blk_lt ((unhide HSV).own (w1.heap.size, ⟨Km, Fm, Tm, Im, Lm, km, Nm⟩) (by simp))
          go_wp2_with fail
          refine (unhide O2 _).mono ?_
          rintro e z1 ⟨rfl, hb1⟩
          have HQ1 := hide ((unhide HSV).step hb1)
          clear hb1 HSV b0 b1 b2 b3 b4 b5 b6 hzb d0 d1 d2 d3 d4 d5 d6 hzd e0 e1 e2 e3 e4 e5 e6 hze
          obtain ⟨b0, b1, b2, b3, b4, b5, b6⟩ := cells7 ((unhide HQ1).own (w8.heap.size, ⟨Ky, Fy, Ty, Iy, Ly, ky, Ny⟩) (by simp))
          have hzb := blk_lt ((unhide HQ1).own (w8.heap.size, ⟨Ky, Fy, Ty, Iy, Ly, ky, Ny⟩) (by simp))
          obtain ⟨d0, d1, d2, d3, d4, d5, d6⟩ := cells7 ((unhide HQ1).own (w5.heap.size, ⟨Kx, Fx, Tx, Ix, Lx, kx, Nx⟩) (by simp))
          have hzd := blk_lt ((unhide HQ1).own (w5.heap.size, ⟨Kx, Fx, Tx, Ix, Lx, kx, Nx⟩) (by simp))
          obtain ⟨e0, e1, e2, e3, e4, e5, e6⟩ := cells7 ((unhide HQ1).own (w1.heap.size, ⟨Km, Fm, Tm, Im, Lm, km, Nm⟩) (by simp))
          have hze := blk_lt ((unhide HQ1).own (w1.heap.size, ⟨Km, Fm, Tm, Im, Lm, km, Nm⟩) (by simp))
          go_wp2_with fail
          refine (unhide O2 _).mono ?_
          rintro e z2 ⟨rfl, hb2⟩
          have HQ2 := hide ((unhide HQ1).step hb2)
          clear hb2 HQ1 b0 b1 b2 b3 b4 b5 b6 hzb d0 d1 d2 d3 d4 d5 d6 hzd e0 e1 e2 e3 e4 e5 e6 hze
          go_wp2_with fail
          go_meet
          case rel => exact ⟨rfl, unhide HQ2⟩
        case' true =>
          as_aux_lemma =>
          obtain ⟨e1, e2⟩ := unhide hN rfl
          subst e1 e2
          have e4 := unhide hUb rfl
          subst e4
          clear hGb hUb HMO HC HH HT hN
          obtain ⟨b0, b1, b2, b3, b4, b5, b6⟩ := cells7 ((unhide HSV).own (w8.heap.size, ⟨Ky, Fy, Ty, Iy, Ly, ky, Ny⟩) (by simp))
          have hzb := blk_lt ((unhide HSV).own (w8.heap.size, ⟨Ky, Fy, Ty, Iy, Ly, ky, Ny⟩) (by simp))
          obtain ⟨d0, d1, d2, d3, d4, d5, d6⟩ := cells7 ((unhide HSV).own (w5.heap.size, ⟨Kx, Fx, Tx, Ix, Lx, kx, Nx⟩) (by simp))
          have hzd := blk_lt ((unhide HSV).own (w5.heap.size, ⟨Kx, Fx, Tx, Ix, Lx, kx, Nx⟩) (by simp))
          obtain ⟨e0, e1, e2, e3, e4, e5, e6⟩ := cells7 ((unhide HSV).own (w1.heap.size, ⟨Km, Fm, Tm, Im, Lm, km, Nm⟩) (by simp))
          have hze := blk_lt ((unhide HSV).own (w1.heap.size, ⟨Km, Fm, Tm, Im, Lm, km, Nm⟩) (by simp))
          go_wp2_with fail
          refine (unhide RP _).mono ?_
          rintro e z1 ⟨rfl, hb1⟩
          have HQ1 := hide ((unhide HSV).step hb1)
          clear hb1 HSV b0 b1 b2 b3 b4 b5 b6 hzb d0 d1 d2 d3 d4 d5 d6 hzd e0 e1 e2 e3 e4 e5 e6 hze
          obtain ⟨b0, b1, b2, b3, b4, b5, b6⟩ := cells7 ((unhide HQ1).own (w8.heap.size, ⟨Ky, Fy, Ty, Iy, Ly, ky, Ny⟩) (by simp))
          have hzb := blk_lt ((unhide HQ1).own (w8.heap.size, ⟨Ky, Fy, Ty, Iy, Ly, ky, Ny⟩) (by simp))
          obtain ⟨d0, d1, d2, d3, d4, d5, d6⟩ := cells7 ((unhide HQ1).own (w5.heap.size, ⟨Kx, Fx, Tx, Ix, Lx, kx, Nx⟩) (by simp))
          have hzd := blk_lt ((unhide HQ1).own (w5.heap.size, ⟨Kx, Fx, Tx, Ix, Lx, kx, Nx⟩) (by simp))
          obtain ⟨e0, e1, e2, e3, e4, e5, e6⟩ := cells7 ((unhide HQ1).own (w1.heap.size, ⟨Km, Fm, Tm, Im, Lm, km, Nm⟩) (by simp))
          have hze := blk_lt ((unhide HQ1).own (w1.heap.size, ⟨Km, Fm, Tm, Im, Lm, km, Nm⟩) (by simp))
          go_wp2_with fail
          refine (unhide O2 _).mono ?_
          rintro e z2 ⟨rfl, hb2⟩
          have HQ2 := hide ((unhide HQ1).step hb2)
          clear hb2 HQ1 b0 b1 b2 b3 b4 b5 b6 hzb d0 d1 d2 d3 d4 d5 d6 hzd e0 e1 e2 e3 e4 e5 e6 hze
          obtain ⟨b0, b1, b2, b3, b4, b5, b6⟩ := cells7 ((unhide HQ2).own (w8.heap.size, ⟨Ky, Fy, Ty, Iy, Ly, ky, Ny⟩) (by simp))
          have hzb := blk_lt ((unhide HQ2).own (w8.heap.size, ⟨Ky, Fy, Ty, Iy, Ly, ky, Ny⟩) (by simp))
          obtain ⟨d0, d1, d2, d3, d4, d5, d6⟩ := cells7 ((unhide HQ2).own (w5.heap.size, ⟨Kx, Fx, Tx, Ix, Lx, kx, Nx⟩) (by simp))
          have hzd := blk_lt ((unhide HQ2).own (w5.heap.size, ⟨Kx, Fx, Tx, Ix, Lx, kx, Nx⟩) (by simp))
          obtain ⟨e0, e1, e2, e3, e4, e5, e6⟩ := cells7 ((unhide HQ2).own (w1.heap.size, ⟨Km, Fm, Tm, Im, Lm, km, Nm⟩) (by simp))
          have hze := blk_lt ((unhide HQ2).own (w1.heap.size, ⟨Km, Fm, Tm, Im, Lm, km, Nm⟩) (by simp))
          go_wp2_with fail
          refine (unhide O2 _).mono ?_
          rintro e z3 ⟨rfl, hb3⟩
          have HQ3 := hide ((unhide HQ2).step hb3)
          clear hb3 HQ2 b0 b1 b2 b3 b4 b5 b6 hzb d0 d1 d2 d3 d4 d5 d6 hzd e0 e1 e2 e3 e4 e5 e6 hze
          go_wp2_with fail
          go_meet
          case rel => exact ⟨rfl, unhide HQ3⟩
      case' true =>
        cases OKV
        case' false =>
          as_aux_lemma =>
          obtain ⟨e1, e2⟩ := unhide hN rfl
          subst e1 e2
          have e3 := unhide hGb rfl
          subst e3
          clear hGb hUb HMO HC HH HT hN
          obtain ⟨b0, b1, b2, b3, b4, b5, b6⟩ := cells7 ((unhide HSV).own (w8.heap.size, ⟨Ky, Fy, Ty, Iy, Ly, ky, Ny⟩) (by simp))
          have hzb := blk_lt ((unhide HSV).own (w8.heap.size, ⟨Ky, Fy, Ty, Iy, Ly, ky, Ny⟩) (by simp))
          obtain ⟨d0, d1, d2, d3, d4, d5, d6⟩ := cells7 ((unhide HSV).own (w5.heap.size, ⟨Kx, Fx, Tx, Ix, Lx, kx, Nx⟩) (by simp))
          have hzd := blk_lt ((unhide HSV).own (w5.heap.size, ⟨Kx, Fx, Tx, Ix, Lx, kx, Nx⟩) (by simp))
          obtain ⟨e0, e1, e2, e3, e4, e5, e6⟩ := cells7 ((unhide HSV).own (w1.heap.size, ⟨Km, Fm, Tm, Im, Lm, km, Nm⟩) (by simp))
          have hze := blk_lt ((unhide HSV).own (w1.heap.size, ⟨Km, Fm, Tm, Im, Lm, km, Nm⟩) (by simp))
          go_wp2_with fail
          refine (unhide PX _).mono ?_
          rintro e z1 ⟨rfl, hb1⟩
          have HQ1 := hide ((unhide HSV).step hb1)
          clear hb1 HSV b0 b1 b2 b3 b4 b5 b6 hzb d0 d1 d2 d3 d4 d5 d6 hzd e0 e1 e2 e3 e4 e5 e6 hze
          obtain ⟨b0, b1, b2, b3, b4, b5, b6⟩ := cells7 ((unhide HQ1).own (w8.heap.size, ⟨Ky, Fy, Ty, Iy, Ly, ky, Ny⟩) (by simp))
          have hzb := blk_lt ((unhide HQ1).own (w8.heap.size, ⟨Ky, Fy, Ty, Iy, Ly, ky, Ny⟩) (by simp))
          obtain ⟨d0, d1, d2, d3, d4, d5, d6⟩ := cells7 ((unhide HQ1).own (w5.heap.size, ⟨Kx, Fx, Tx, Ix, Lx, kx, Nx⟩) (by simp))
          have hzd := blk_lt ((unhide HQ1).own (w5.heap.size, ⟨Kx, Fx, Tx, Ix, Lx, kx, Nx⟩) (by simp))
          obtain ⟨e0, e1, e2, e3, e4, e5, e6⟩ := cells7 ((unhide HQ1).own (w1.heap.size, ⟨Km, Fm, Tm, Im, Lm, km, Nm⟩) (by simp))
          have hze := blk_lt ((unhide HQ1).own (w1.heap.size, ⟨Km, Fm, Tm, Im, Lm, km, Nm⟩) (by simp))
          go_wp2_with fail
          refine (unhide O2 _).mono ?_
          rintro e z2 ⟨rfl, hb2⟩
          have HQ2 := hide ((unhide HQ1).step hb2)
          clear hb2 HQ1 b0 b1 b2 b3 b4 b5 b6 hzb d0 d1 d2 d3 d4 d5 d6 hzd e0 e1 e2 e3 e4 e5 e6 hze
          obtain ⟨b0, b1, b2, b3, b4, b5, b6⟩ := cells7 ((unhide HQ2).own (w8.heap.size, ⟨Ky, Fy, Ty, Iy, Ly, ky, Ny⟩) (by simp))
          have hzb := blk_lt ((unhide HQ2).own (w8.heap.size, ⟨Ky, Fy, Ty, Iy, Ly, ky, Ny⟩) (by simp))
          obtain ⟨d0, d1, d2, d3, d4, d5, d6⟩ := cells7 ((unhide HQ2).own (w5.heap.size, ⟨Kx, Fx, Tx, Ix, Lx, kx, Nx⟩) (by simp))
          have hzd := blk_lt ((unhide HQ2).own (w5.heap.size, ⟨Kx, Fx, Tx, Ix, Lx, kx, Nx⟩) (by simp))
          obtain ⟨e0, e1, e2, e3, e4, e5, e6⟩ := cells7 ((unhide HQ2).own (w1.heap.size, ⟨Km, Fm, Tm, Im, Lm, km, Nm⟩) (by simp))
          have hze := blk_lt ((unhide HQ2).own (w1.heap.size, ⟨Km, Fm, Tm, Im, Lm, km, Nm⟩) (by simp))
          go_wp2_with fail
          refine (unhide O2 _).mono ?_
          rintro e z3 ⟨rfl, hb3⟩
          have HQ3 := hide ((unhide HQ2).step hb3)
          clear hb3 HQ2 b0 b1 b2 b3 b4 b5 b6 hzb d0 d1 d2 d3 d4 d5 d6 hzd e0 e1 e2 e3 e4 e5 e6 hze
          go_wp2_with fail
          go_meet
          case rel => exact ⟨rfl, unhide HQ3⟩
        case' true =>
          as_aux_lemma =>
          obtain ⟨e1, e2⟩ := unhide hN rfl
          subst e1 e2
          have e3 := unhide hGb rfl
          subst e3
          have e4 := unhide hUb rfl
          subst e4
          clear hGb hUb HMO HC HH HT hN
          obtain ⟨b0, b1, b2, b3, b4, b5, b6⟩ := cells7 ((unhide HSV).own (w8.heap.size, ⟨Ky, Fy, Ty, Iy, Ly, ky, Ny⟩) (by simp))
          have hzb := blk_lt ((unhide HSV).own (w8.heap.size, ⟨Ky, Fy, Ty, Iy, Ly, ky, Ny⟩) (by simp))
          obtain ⟨d0, d1, d2, d3, d4, d5, d6⟩ := cells7 ((unhide HSV).own (w5.heap.size, ⟨Kx, Fx, Tx, Ix, Lx, kx, Nx⟩) (by simp))
          have hzd := blk_lt ((unhide HSV).own (w5.heap.size, ⟨Kx, Fx, Tx, Ix, Lx, kx, Nx⟩) (by simp))
          obtain ⟨e0, e1, e2, e3, e4, e5, e6⟩ := cells7 ((unhide HSV).own (w1.heap.size, ⟨Km, Fm, Tm, Im, Lm, km, Nm⟩) (by simp))
          have hze := blk_lt ((unhide HSV).own (w1.heap.size, ⟨Km, Fm, Tm, Im, Lm, km, Nm⟩) (by simp))
          go_wp2_with fail
          refine (unhide PX _).mono ?_
          rintro e z1 ⟨rfl, hb1⟩
          have HQ1 := hide ((unhide HSV).step hb1)
          clear hb1 HSV b0 b1 b2 b3 b4 b5 b6 hzb d0 d1 d2 d3 d4 d5 d6 hzd e0 e1 e2 e3 e4 e5 e6 hze
          obtain ⟨b0, b1, b2, b3, b4, b5, b6⟩ := cells7 ((unhide HQ1).own (w8.heap.size, ⟨Ky, Fy, Ty, Iy, Ly, ky, Ny⟩) (by simp))
          have hzb := blk_lt ((unhide HQ1).own (w8.heap.size, ⟨Ky, Fy, Ty, Iy, Ly, ky, Ny⟩) (by simp))
          obtain ⟨d0, d1, d2, d3, d4, d5, d6⟩ := cells7 ((unhide HQ1).own (w5.heap.size, ⟨Kx, Fx, Tx, Ix, Lx, kx, Nx⟩) (by simp))
          have hzd := blk_lt ((unhide HQ1).own (w5.heap.size, ⟨Kx, Fx, Tx, Ix, Lx, kx, Nx⟩) (by simp))
          obtain ⟨e0, e1, e2, e3, e4, e5, e6⟩ := cells7 ((unhide HQ1).own (w1.heap.size, ⟨Km, Fm, Tm, Im, Lm, km, Nm⟩) (by simp))
          have hze := blk_lt ((unhide HQ1).own (w1.heap.size, ⟨Km, Fm, Tm, Im, Lm, km, Nm⟩) (by simp))
          go_wp2_with fail
          refine (unhide RP _).mono ?_
          rintro e z2 ⟨rfl, hb2⟩
          have HQ2 := hide ((unhide HQ1).step hb2)
          clear hb2 HQ1 b0 b1 b2 b3 b4 b5 b6 hzb d0 d1 d2 d3 d4 d5 d6 hzd e0 e1 e2 e3 e4 e5 e6 hze
          obtain ⟨b0, b1, b2, b3, b4, b5, b6⟩ := cells7 ((unhide HQ2).own (w8.heap.size, ⟨Ky, Fy, Ty, Iy, Ly, ky, Ny⟩) (by simp))
          have hzb := blk_lt ((unhide HQ2).own (w8.heap.size, ⟨Ky, Fy, Ty, Iy, Ly, ky, Ny⟩) (by simp))
          obtain ⟨d0, d1, d2, d3, d4, d5, d6⟩ := cells7 ((unhide HQ2).own (w5.heap.size, ⟨Kx, Fx, Tx, Ix, Lx, kx, Nx⟩) (by simp))
          have hzd := blk_lt ((unhide HQ2).own (w5.heap.size, ⟨Kx, Fx, Tx, Ix, Lx, kx, Nx⟩) (by simp))
          obtain ⟨e0, e1, e2, e3, e4, e5, e6⟩ := cells7 ((unhide HQ2).own (w1.heap.size, ⟨Km, Fm, Tm, Im, Lm, km, Nm⟩) (by simp))
          have hze := blk_lt ((unhide HQ2).own (w1.heap.size, ⟨Km, Fm, Tm, Im, Lm, km, Nm⟩) (by simp))
          go_wp2_with fail
          refine (unhide O2 _).mono ?_
          rintro e z3 ⟨rfl, hb3⟩
          have HQ3 := hide ((unhide HQ2).step hb3)
          clear hb3 HQ2 b0 b1 b2 b3 b4 b5 b6 hzb d0 d1 d2 d3 d4 d5 d6 hzd e0 e1 e2 e3 e4 e5 e6 hze
          obtain ⟨b0, b1, b2, b3, b4, b5, b6⟩ := cells7 ((unhide HQ3).own (w8.heap.size, ⟨Ky, Fy, Ty, Iy, Ly, ky, Ny⟩) (by simp))
          have hzb := blk_lt ((unhide HQ3).own (w8.heap.size, ⟨Ky, Fy, Ty, Iy, Ly, ky, Ny⟩) (by simp))
          obtain ⟨d0, d1, d2, d3, d4, d5, d6⟩ := cells7 ((unhide HQ3).own (w5.heap.size, ⟨Kx, Fx, Tx, Ix, Lx, kx, Nx⟩) (by simp))
          have hzd := blk_lt ((unhide HQ3).own (w5.heap.size, ⟨Kx, Fx, Tx, Ix, Lx, kx, Nx⟩) (by simp))
          obtain ⟨e0, e1, e2, e3, e4, e5, e6⟩ := cells7 ((unhide HQ3).own (w1.heap.size, ⟨Km, Fm, Tm, Im, Lm, km, Nm⟩) (by simp))
          have hze := blk_lt ((unhide HQ3).own (w1.heap.size, ⟨Km, Fm, Tm, Im, Lm, km, Nm⟩) (by simp))
          go_wp2_with fail
          refine (unhide O2 _).mono ?_
          rintro e z4 ⟨rfl, hb4⟩
          have HQ4 := hide ((unhide HQ3).step hb4)
          clear hb4 HQ3 b0 b1 b2 b3 b4 b5 b6 hzb d0 d1 d2 d3 d4 d5 d6 hzd e0 e1 e2 e3 e4 e5 e6 hze
          go_wp2_with fail
          go_meet
          case rel => exact ⟨rfl, unhide HQ4⟩
    case' true =>
      clear hN
      cases OKU
      case' false =>
        cases OKV
        case' false =>
          as_aux_lemma =>
          have hneS := not_empty S (unhide hpos rfl).1
          have hneF := not_empty FR (unhide hpos rfl).2
          clear hGb hUb HMO HC HH HT hM hpos
          obtain ⟨b0, b1, b2, b3, b4, b5, b6⟩ := cells7 ((unhide HSV).own (w8.heap.size, ⟨Ky, Fy, Ty, Iy, Ly, ky, Ny⟩) (by simp))
          have hzb := blk_lt ((unhide HSV).own (w8.heap.size, ⟨Ky, Fy, Ty, Iy, Ly, ky, Ny⟩) (by simp))
          obtain ⟨d0, d1, d2, d3, d4, d5, d6⟩ := cells7 ((unhide HSV).own (w5.heap.size, ⟨Kx, Fx, Tx, Ix, Lx, kx, Nx⟩) (by simp))
          have hzd := blk_lt ((unhide HSV).own (w5.heap.size, ⟨Kx, Fx, Tx, Ix, Lx, kx, Nx⟩) (by simp))
          obtain ⟨e0, e1, e2, e3, e4, e5, e6⟩ := cells7 ((unhide HSV).own (w1.heap.size, ⟨Km, Fm, Tm, Im, Lm, km, Nm⟩) (by simp))
          have hze := blk_lt ((unhide HSV).own (w1.heap.size, ⟨Km, Fm, Tm, Im, Lm, km, Nm⟩) (by simp))
          go_wp2_with fail
          refine (unhide O2 _).mono ?_
          rintro e z1 ⟨rfl, hb1⟩
          have HQ1 := hide ((unhide HSV).step hb1)
          clear hb1 HSV b0 b1 b2 b3 b4 b5 b6 hzb d0 d1 d2 d3 d4 d5 d6 hzd e0 e1 e2 e3 e4 e5 e6 hze
          obtain ⟨b0, b1, b2, b3, b4, b5, b6⟩ := cells7 ((unhide HQ1).own (w8.heap.size, ⟨Ky, Fy, Ty, Iy, Ly, ky, Ny⟩) (by simp))
          have hzb := blk_lt ((unhide HQ1).own (w8.heap.size, ⟨Ky, Fy, Ty, Iy, Ly, ky, Ny⟩) (by simp))
          obtain ⟨d0, d1, d2, d3, d4, d5, d6⟩ := cells7 ((unhide HQ1).own (w5.heap.size, ⟨Kx, Fx, Tx, Ix, Lx, kx, Nx⟩) (by simp))
          have hzd := blk_lt ((unhide HQ1).own (w5.heap.size, ⟨Kx, Fx, Tx, Ix, Lx, kx, Nx⟩) (by simp))
          obtain ⟨e0, e1, e2, e3, e4, e5, e6⟩ := cells7 ((unhide HQ1).own (w1.heap.size, ⟨Km, Fm, Tm, Im, Lm, km, Nm⟩) (by simp))
          have hze := blk_lt ((unhide HQ1).own (w1.heap.size, ⟨Km, Fm, Tm, Im, Lm, km, Nm⟩) (by simp))
          go_wp2_with fail
          refine (unhide O2 _).mono ?_
          rintro e z2 ⟨rfl, hb2⟩
          have HQ2 := hide ((unhide HQ1).step hb2)
          clear hb2 HQ1 b0 b1 b2 b3 b4 b5 b6 hzb d0 d1 d2 d3 d4 d5 d6 hzd e0 e1 e2 e3 e4 e5 e6 hze
          go_wp2_with fail
          go_meet
          case rel => exact ⟨rfl, unhide HQ2⟩
        case' true =>
          as_aux_lemma =>
          have hneS := not_empty S (unhide hpos rfl).1
          have hneF := not_empty FR (unhide hpos rfl).2
          have e4 := unhide hUb rfl
          subst e4
          clear hGb hUb HMO HC HH HT hM hpos
          obtain ⟨b0, b1, b2, b3, b4, b5, b6⟩ := cells7 ((unhide HSV).own (w8.heap.size, ⟨Ky, Fy, Ty, Iy, Ly, ky, Ny⟩) (by simp))
          have hzb := blk_lt ((unhide HSV).own (w8.heap.size, ⟨Ky, Fy, Ty, Iy, Ly, ky, Ny⟩) (by simp))
          obtain ⟨d0, d1, d2, d3, d4, d5, d6⟩ := cells7 ((unhide HSV).own (w5.heap.size, ⟨Kx, Fx, Tx, Ix, Lx, kx, Nx⟩) (by simp))
          have hzd := blk_lt ((unhide HSV).own (w5.heap.size, ⟨Kx, Fx, Tx, Ix, Lx, kx, Nx⟩) (by simp))
          obtain ⟨e0, e1, e2, e3, e4, e5, e6⟩ := cells7 ((unhide HSV).own (w1.heap.size, ⟨Km, Fm, Tm, Im, Lm, km, Nm⟩) (by simp))
          have hze := blk_lt ((unhide HSV).own (w1.heap.size, ⟨Km, Fm, Tm, Im, Lm, km, Nm⟩) (by simp))
          go_wp2_with fail
          refine (unhide RP _).mono ?_
          rintro e z1 ⟨rfl, hb1⟩
          have HQ1 := hide ((unhide HSV).step hb1)
          clear hb1 HSV b0 b1 b2 b3 b4 b5 b6 hzb d0 d1 d2 d3 d4 d5 d6 hzd e0 e1 e2 e3 e4 e5 e6 hze
          obtain ⟨b0, b1, b2, b3, b4, b5, b6⟩ := cells7 ((unhide HQ1).own (w8.heap.size, ⟨Ky, Fy, Ty, Iy, Ly, ky, Ny⟩) (by simp))
          have hzb := blk_lt ((unhide HQ1).own (w8.heap.size, ⟨Ky, Fy, Ty, Iy, Ly, ky, Ny⟩) (by simp))
          obtain ⟨d0, d1, d2, d3, d4, d5, d6⟩ := cells7 ((unhide HQ1).own (w5.heap.size, ⟨Kx, Fx, Tx, Ix, Lx, kx, Nx⟩) (by simp))
          have hzd := blk_lt ((unhide HQ1).own (w5.heap.size, ⟨Kx, Fx, Tx, Ix, Lx, kx, Nx⟩) (by simp))
          obtain ⟨e0, e1, e2, e3, e4, e5, e6⟩ := cells7 ((unhide HQ1).own (w1.heap.size, ⟨Km, Fm, Tm, Im, Lm, km, Nm⟩) (by simp))
          have hze := blk_lt ((unhide HQ1).own (w1.heap.size, ⟨Km, Fm, Tm, Im, Lm, km, Nm⟩) (by simp))
          go_wp2_with fail
          refine (unhide O2 _).mono ?_
          rintro e z2 ⟨rfl, hb2⟩
          have HQ2 := hide ((unhide HQ1).step hb2)
          clear hb2 HQ1 b0 b1 b2 b3 b4 b5 b6 hzb d0 d1 d2 d3 d4 d5 d6 hzd e0 e1 e2 e3 e4 e5 e6 hze
          obtain ⟨b0, b1, b2, b3, b4, b5, b6⟩ := cells7 ((unhide HQ2).own (w8.heap.size, ⟨Ky, Fy, Ty, Iy, Ly, ky, Ny⟩) (by simp))
          have hzb := blk_lt ((unhide HQ2).own (w8.heap.size, ⟨Ky, Fy, Ty, Iy, Ly, ky, Ny⟩) (by simp))
          obtain ⟨d0, d1, d2, d3, d4, d5, d6⟩ := cells7 ((unhide HQ2).own (w5.heap.size, ⟨Kx, Fx, Tx, Ix, Lx, kx, Nx⟩) (by simp))
          have hzd := blk_lt ((unhide HQ2).own (w5.heap.size, ⟨Kx, Fx, Tx, Ix, Lx, kx, Nx⟩) (by simp))
          obtain ⟨e0, e1, e2, e3, e4, e5, e6⟩ := cells7 ((unhide HQ2).own (w1.heap.size, ⟨Km, Fm, Tm, Im, Lm, km, Nm⟩) (by simp))
          have hze := blk_lt ((unhide HQ2).own (w1.heap.size, ⟨Km, Fm, Tm, Im, Lm, km, Nm⟩) (by simp))
          go_wp2_with fail
          refine (unhide O2 _).mono ?_
          rintro e z3 ⟨rfl, hb3⟩
          have HQ3 := hide ((unhide HQ2).step hb3)
          clear hb3 HQ2 b0 b1 b2 b3 b4 b5 b6 hzb d0 d1 d2 d3 d4 d5 d6 hzd e0 e1 e2 e3 e4 e5 e6 hze
          go_wp2_with fail
          go_meet
          case rel => exact ⟨rfl, unhide HQ3⟩
      case' true =>
        cases OKV
        case' false =>
          as_aux_lemma =>
          have hneS := not_empty S (unhide hpos rfl).1
          have hneF := not_empty FR (unhide hpos rfl).2
          have e3 := unhide hGb rfl
          subst e3
          clear hGb hUb HMO HC HH HT hM hpos
          obtain ⟨b0, b1, b2, b3, b4, b5, b6⟩ := cells7 ((unhide HSV).own (w8.heap.size, ⟨Ky, Fy, Ty, Iy, Ly, ky, Ny⟩) (by simp))
          have hzb := blk_lt ((unhide HSV).own (w8.heap.size, ⟨Ky, Fy, Ty, Iy, Ly, ky, Ny⟩) (by simp))
          obtain ⟨d0, d1, d2, d3, d4, d5, d6⟩ := cells7 ((unhide HSV).own (w5.heap.size, ⟨Kx, Fx, Tx, Ix, Lx, kx, Nx⟩) (by simp))
          have hzd := blk_lt ((unhide HSV).own (w5.heap.size, ⟨Kx, Fx, Tx, Ix, Lx, kx, Nx⟩) (by simp))
          obtain ⟨e0, e1, e2, e3, e4, e5, e6⟩ := cells7 ((unhide HSV).own (w1.heap.size, ⟨Km, Fm, Tm, Im, Lm, km, Nm⟩) (by simp))
          have hze := blk_lt ((unhide HSV).own (w1.heap.size, ⟨Km, Fm, Tm, Im, Lm, km, Nm⟩) (by simp))
          go_wp2_with fail
          refine (unhide PX _).mono ?_
          rintro e z1 ⟨rfl, hb1⟩
          have HQ1 := hide ((unhide HSV).step hb1)
          clear hb1 HSV b0 b1 b2 b3 b4 b5 b6 hzb d0 d1 d2 d3 d4 d5 d6 hzd e0 e1 e2 e3 e4 e5 e6 hze
          obtain ⟨b0, b1, b2, b3, b4, b5, b6⟩ := cells7 ((unhide HQ1).own (w8.heap.size, ⟨Ky, Fy, Ty, Iy, Ly, ky, Ny⟩) (by simp))
          have hzb := blk_lt ((unhide HQ1).own (w8.heap.size, ⟨Ky, Fy, Ty, Iy, Ly, ky, Ny⟩) (by simp))
          obtain ⟨d0, d1, d2, d3, d4, d5, d6⟩ := cells7 ((unhide HQ1).own (w5.heap.size, ⟨Kx, Fx, Tx, Ix, Lx, kx, Nx⟩) (by simp))
          have hzd := blk_lt ((unhide HQ1).own (w5.heap.size, ⟨Kx, Fx, Tx, Ix, Lx, kx, Nx⟩) (by simp))
          obtain ⟨e0, e1, e2, e3, e4, e5, e6⟩ := cells7 ((unhide HQ1).own (w1.heap.size, ⟨Km, Fm, Tm, Im, Lm, km, Nm⟩) (by simp))
          have hze := blk_lt ((unhide HQ1).own (w1.heap.size, ⟨Km, Fm, Tm, Im, Lm, km, Nm⟩) (by simp))
          go_wp2_with fail
          refine (unhide O2 _).mono ?_
          rintro e z2 ⟨rfl, hb2⟩
          have HQ2 := hide ((unhide HQ1).step hb2)
          clear hb2 HQ1 b0 b1 b2 b3 b4 b5 b6 hzb d0 d1 d2 d3 d4 d5 d6 hzd e0 e1 e2 e3 e4 e5 e6 hze
          obtain ⟨b0, b1, b2, b3, b4, b5, b6⟩ := cells7 ((unhide HQ2).own (w8.heap.size, ⟨Ky, Fy, Ty, Iy, Ly, ky, Ny⟩) (by simp))
          have hzb := blk_lt ((unhide HQ2).own (w8.heap.size, ⟨Ky, Fy, Ty, Iy, Ly, ky, Ny⟩) (by simp))
          obtain ⟨d0, d1, d2, d3, d4, d5, d6⟩ := cells7 ((unhide HQ2).own (w5.heap.size, ⟨Kx, Fx, Tx, Ix, Lx, kx, Nx⟩) (by simp))
          have hzd := blk_lt ((unhide HQ2).own (w5.heap.size, ⟨Kx, Fx, Tx, Ix, Lx, kx, Nx⟩) (by simp))
          obtain ⟨e0, e1, e2, e3, e4, e5, e6⟩ := cells7 ((unhide HQ2).own (w1.heap.size, ⟨Km, Fm, Tm, Im, Lm, km, Nm⟩) (by simp))
          have hze := blk_lt ((unhide HQ2).own (w1.heap.size, ⟨Km, Fm, Tm, Im, Lm, km, Nm⟩) (by simp))
          go_wp2_with fail
          refine (unhide O2 _).mono ?_
          rintro e z3 ⟨rfl, hb3⟩
          have HQ3 := hide ((unhide HQ2).step hb3)
          clear hb3 HQ2 b0 b1 b2 b3 b4 b5 b6 hzb d0 d1 d2 d3 d4 d5 d6 hzd e0 e1 e2 e3 e4 e5 e6 hze
          go_wp2_with fail
          go_meet
          case rel => exact ⟨rfl, unhide HQ3⟩
        case' true =>
          as_aux_lemma =>
          have hneS := not_empty S (unhide hpos rfl).1
          have hneF := not_empty FR (unhide hpos rfl).2
          have e3 := unhide hGb rfl
          subst e3
          have e4 := unhide hUb rfl
          subst e4
          clear hGb hUb HMO HC HH HT hM hpos
          obtain ⟨b0, b1, b2, b3, b4, b5, b6⟩ := cells7 ((unhide HSV).own (w8.heap.size, ⟨Ky, Fy, Ty, Iy, Ly, ky, Ny⟩) (by simp))
          have hzb := blk_lt ((unhide HSV).own (w8.heap.size, ⟨Ky, Fy, Ty, Iy, Ly, ky, Ny⟩) (by simp))
          obtain ⟨d0, d1, d2, d3, d4, d5, d6⟩ := cells7 ((unhide HSV).own (w5.heap.size, ⟨Kx, Fx, Tx, Ix, Lx, kx, Nx⟩) (by simp))
          have hzd := blk_lt ((unhide HSV).own (w5.heap.size, ⟨Kx, Fx, Tx, Ix, Lx, kx, Nx⟩) (by simp))
          obtain ⟨e0, e1, e2, e3, e4, e5, e6⟩ := cells7 ((unhide HSV).own (w1.heap.size, ⟨Km, Fm, Tm, Im, Lm, km, Nm⟩) (by simp))
          have hze := blk_lt ((unhide HSV).own (w1.heap.size, ⟨Km, Fm, Tm, Im, Lm, km, Nm⟩) (by simp))
          go_wp2_with fail
          refine (unhide PX _).mono ?_
          rintro e z1 ⟨rfl, hb1⟩
          have HQ1 := hide ((unhide HSV).step hb1)
          clear hb1 HSV b0 b1 b2 b3 b4 b5 b6 hzb d0 d1 d2 d3 d4 d5 d6 hzd e0 e1 e2 e3 e4 e5 e6 hze
          obtain ⟨b0, b1, b2, b3, b4, b5, b6⟩ := cells7 ((unhide HQ1).own (w8.heap.size, ⟨Ky, Fy, Ty, Iy, Ly, ky, Ny⟩) (by simp))
          have hzb := blk_lt ((unhide HQ1).own (w8.heap.size, ⟨Ky, Fy, Ty, Iy, Ly, ky, Ny⟩) (by simp))
          obtain ⟨d0, d1, d2, d3, d4, d5, d6⟩ := cells7 ((unhide HQ1).own (w5.heap.size, ⟨Kx, Fx, Tx, Ix, Lx, kx, Nx⟩) (by simp))
          have hzd := blk_lt ((unhide HQ1).own (w5.heap.size, ⟨Kx, Fx, Tx, Ix, Lx, kx, Nx⟩) (by simp))
          obtain ⟨e0, e1, e2, e3, e4, e5, e6⟩ := cells7 ((unhide HQ1).own (w1.heap.size, ⟨Km, Fm, Tm, Im, Lm, km, Nm⟩) (by simp))
          have hze := blk_lt ((unhide HQ1).own (w1.heap.size, ⟨Km, Fm, Tm, Im, Lm, km, Nm⟩) (by simp))
          go_wp2_with fail
          refine (unhide RP _).mono ?_
          rintro e z2 ⟨rfl, hb2⟩
          have HQ2 := hide ((unhide HQ1).step hb2)
          clear hb2 HQ1 b0 b1 b2 b3 b4 b5 b6 hzb d0 d1 d2 d3 d4 d5 d6 hzd e0 e1 e2 e3 e4 e5 e6 hze
          obtain ⟨b0, b1, b2, b3, b4, b5, b6⟩ := cells7 ((unhide HQ2).own (w8.heap.size, ⟨Ky, Fy, Ty, Iy, Ly, ky, Ny⟩) (by simp))
          have hzb := blk_lt ((unhide HQ2).own (w8.heap.size, ⟨Ky, Fy, Ty, Iy, Ly, ky, Ny⟩) (by simp))
          obtain ⟨d0, d1, d2, d3, d4, d5, d6⟩ := cells7 ((unhide HQ2).own (w5.heap.size, ⟨Kx, Fx, Tx, Ix, Lx, kx, Nx⟩) (by simp))
          have hzd := blk_lt ((unhide HQ2).own (w5.heap.size, ⟨Kx, Fx, Tx, Ix, Lx, kx, Nx⟩) (by simp))
          obtain ⟨e0, e1, e2, e3, e4, e5, e6⟩ := cells7 ((unhide HQ2).own (w1.heap.size, ⟨Km, Fm, Tm, Im, Lm, km, Nm⟩) (by simp))
          have hze := blk_lt ((unhide HQ2).own (w1.heap.size, ⟨Km, Fm, Tm, Im, Lm, km, Nm⟩) (by simp))
          go_wp2_with fail
          refine (unhide O2 _).mono ?_
          rintro e z3 ⟨rfl, hb3⟩
          have HQ3 := hide ((unhide HQ2).step hb3)
          clear hb3 HQ2 b0 b1 b2 b3 b4 b5 b6 hzb d0 d1 d2 d3 d4 d5 d6 hzd e0 e1 e2 e3 e4 e5 e6 hze
          obtain ⟨b0, b1, b2, b3, b4, b5, b6⟩ := cells7 ((unhide HQ3).own (w8.heap.size, ⟨Ky, Fy, Ty, Iy, Ly, ky, Ny⟩) (by simp))
          have hzb := blk_lt ((unhide HQ3).own (w8.heap.size, ⟨Ky, Fy, Ty, Iy, Ly, ky, Ny⟩) (by simp))
          obtain ⟨d0, d1, d2, d3, d4, d5, d6⟩ := cells7 ((unhide HQ3).own (w5.heap.size, ⟨Kx, Fx, Tx, Ix, Lx, kx, Nx⟩) (by simp))
          have hzd := blk_lt ((unhide HQ3).own (w5.heap.size, ⟨Kx, Fx, Tx, Ix, Lx, kx, Nx⟩) (by simp))
          obtain ⟨e0, e1, e2, e3, e4, e5, e6⟩ := cells7 ((unhide HQ3).own (w1.heap.size, ⟨Km, Fm, Tm, Im, Lm, km, Nm⟩) (by simp))
          have hze := blk_lt ((unhide HQ3).own (w1.heap.size, ⟨Km, Fm, Tm, Im, Lm, km, Nm⟩) (by simp))
          go_wp2_with fail
          refine (unhide O2 _).mono ?_
          rintro e z4 ⟨rfl, hb4⟩
          have HQ4 := hide ((unhide HQ3).step hb4)
          clear hb4 HQ3 b0 b1 b2 b3 b4 b5 b6 hzb d0 d1 d2 d3 d4 d5 d6 hzd e0 e1 e2 e3 e4 e5 e6 hze
          go_wp2_with fail
          go_meet
          case rel => exact ⟨rfl, unhide HQ4⟩
  case rest =>
  obtain ⟨rfl, hst⟩ := hcut
  clear HSV P2 R1 R2 O1 O2 T1 T2 PX RP hGb hUb P1
  have HSV := hide (show FSt w ((w1.heap.size, ⟨Km, Fm, Tm, Im, Lm, km, Nm⟩) :: []) _ from ⟨hst.bel, fun x hx => hst.own x (by simp only [List.mem_singleton] at hx; subst hx; simp)⟩)
  clear hst
  go_upto_region 16 with fail
  refine wp_at (fun V2 hV => ?_)
  subst hV
  cases M
  case' false =>
    obtain ⟨e1, e2⟩ := unhide hN rfl
    subst e1 e2
    clear hM hN hpos HMO HC HH HT
    go_wp2_with fail
    go_ret
    exact ⟨rfl, (unhide HSV).bel⟩
  as_aux_lemma =>
  have hneS := not_empty S (unhide hpos rfl).1
  have hposF := (unhide hpos rfl).2
  have HF := unhide hM rfl
  obtain ⟨hS, hFR, hgb, hgo, ⟨huo, hum⟩, hcut0, hmore0⟩ := HF
  have hv1 : getV S = .tuple #[mgv ⟨Km, Fm, Tm, Im, Lm, km, Nm⟩, .bool true] := by unfold getV; rw [hS, hgb, hgo]
  have hv2 : unV FR = .tuple #[mgv ⟨Km, Fm, Tm, Im, Lm, km, Nm⟩, .bool true] := by unfold unV; rw [hum, huo]
  have GB := hide (fun w1 h => implGetMsg S (Nat.le_trans hsS (by unfold maxLen; omega)) w1 h)
  have UB := hide (fun w1 h => implUnframe FR (Nat.le_trans hsF (by unfold maxLen; omega)) w1 h)
  have UC := hide (show ∀ k, k < FR.size → ∀ w1, Handle w1 → Calls Tryz.prog 12 #[.string (FR.extract 0 k)] w1 fun e w' => e = .returned (.tuple #[.agg #[.int .i64 0, .int .i64 0, .int .i64 0, .int .i64 0, .int .i64 0, .string ⟨#[]⟩, .int .i64 0], .bool false]) ∧ Below w1.heap.size w1 w' from fun k hk w1 h => by
    have h1 := implUnframe (FR.extract 0 k) (by rw [ByteArray.size_extract]; unfold maxLen; omega) w1 h
    rw [unV_no (hcut0 k hk)] at h1
    exact h1)
  have UM := hide (show ∀ w1, Handle w1 → Calls Tryz.prog 12 #[.string (FR ++ ⟨#[120]⟩)] w1 fun e w' => e = .returned (.tuple #[.agg #[.int .i64 0, .int .i64 0, .int .i64 0, .int .i64 0, .int .i64 0, .string ⟨#[]⟩, .int .i64 0], .bool false]) ∧ Below w1.heap.size w1 w' from fun w1 h => by
    have h1 := implUnframe (FR ++ ⟨#[120]⟩) (by rw [ByteArray.size_append]; show FR.size + 1 ≤ maxLen; unfold maxLen; omega) w1 h
    rw [unV_no (hmore0 ⟨#[120]⟩ (by decide))] at h1
    exact h1)
  rw [hv1] at GB
  rw [hv2] at UB
  have a1 := fun w1 => run_string_add_sum (P := Tryz.prog) w1 FR ⟨#[120]⟩ (by show FR.size + 1 ≤ _; omega)
  have HA1 := hide a1
  clear hS hFR hgb hgo huo hum hcut0 hmore0 hv1 hv2 a1 hM hpos HMO hsS
  go_wp2_with fail
  refine (unhide GB _ ((unhide HH).below (unhide HSV).bel)).mono ?_
  rintro e v1 ⟨rfl, hb1⟩
  have HT1 := hide ((unhide HSV).step hb1)
  clear hb1 HSV GB
  go_wp2_with fail
  refine (unhide UB _ ((unhide HH).below ((unhide HT1).put ⟨Km, Fm, Tm, Im, Lm, km, Nm⟩).bel)).mono ?_
  rintro e v2 ⟨rfl, hb2⟩
  have HT2 := hide (((unhide HT1).put ⟨Km, Fm, Tm, Im, Lm, km, Nm⟩).step hb2)
  clear hb2 HT1 UB
  go_wp2_with fail
  refine (lawsAt3 a len cap _ ((unhide HC).below ((unhide HT2).put ⟨Km, Fm, Tm, Im, Lm, km, Nm⟩).bel)).mono ?_
  rintro e v3 ⟨⟨x, rfl, hx0, hx1⟩, hv3⟩
  have HT3 := hide (show FSt w ((v2.heap.size, ⟨Km, Fm, Tm, Im, Lm, km, Nm⟩) :: (v1.heap.size, ⟨Km, Fm, Tm, Im, Lm, km, Nm⟩) :: (w1.heap.size, ⟨Km, Fm, Tm, Im, Lm, km, Nm⟩) :: []) v3 by rw [← hv3]; exact (unhide HT2).put ⟨Km, Fm, Tm, Im, Lm, km, Nm⟩)
  clear hv3 HT2
  have hfi : (0 : Int) < (FR.size : Int) := by omega
  have hr0 : 0 ≤ x % (FR.size : Int) := Int.emod_nonneg _ (by omega)
  have hr1 : x % (FR.size : Int) < (FR.size : Int) := Int.emod_lt_of_pos _ hfi
  have hr2 : x % (FR.size : Int) ≤ (FR.size : Int) := by omega
  have UC1 := hide (unhide UC (x % (FR.size : Int)).toNat (by omega))
  clear UC
  go_wp2_with fail
  refine (unhide UC1 _ ((unhide HH).below (unhide HT3).bel)).mono ?_
  rintro e v4 ⟨rfl, hb4⟩
  have HT4 := hide ((unhide HT3).step hb4)
  have a1 := unhide HA1
  clear hb4 HT3 UC1 hr0 hr1 hr2 hfi
  go_wp2_with fail
  refine (unhide UM _ ((unhide HH).below ((unhide HT4).put mg0).bel)).mono ?_
  rintro e v5 ⟨rfl, hb5⟩
  have HT5 := hide (((unhide HT4).put mg0).step hb5)
  clear hb5 HT4 UM a1 HA1
  obtain ⟨b0, b1, b2, b3, b4, b5, b6⟩ := cells7 ((unhide HT5).own (v2.heap.size, ⟨Km, Fm, Tm, Im, Lm, km, Nm⟩) (by simp))
  have hzb := blk_lt ((unhide HT5).own (v2.heap.size, ⟨Km, Fm, Tm, Im, Lm, km, Nm⟩) (by simp))
  obtain ⟨d0, d1, d2, d3, d4, d5, d6⟩ := cells7 ((unhide HT5).own (v1.heap.size, ⟨Km, Fm, Tm, Im, Lm, km, Nm⟩) (by simp))
  have hzd := blk_lt ((unhide HT5).own (v1.heap.size, ⟨Km, Fm, Tm, Im, Lm, km, Nm⟩) (by simp))
  obtain ⟨e0, e1, e2, e3, e4, e5, e6⟩ := cells7 ((unhide HT5).own (w1.heap.size, ⟨Km, Fm, Tm, Im, Lm, km, Nm⟩) (by simp))
  have hze := blk_lt ((unhide HT5).own (w1.heap.size, ⟨Km, Fm, Tm, Im, Lm, km, Nm⟩) (by simp))
  go_wp2_with fail
  go_ret
  exact ⟨rfl, ((unhide HT5).put mg0).bel⟩
end Go.Proofs.YtlopllgioobcjaaGreatDoor
