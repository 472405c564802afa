/- Parts. -/
import Derived.Test.YtbanjohfcnadfaaGreatDoorPw17
import Derived.Test.YtbanjohfcnadfaaGreatDoorPw9
import Derived.Test.YtbanjohfcnadfaaGreatDoorProg
import Derived.Shelf.SortM.Plain
import Derived.Shelf.SortM.SortNone
import Derived.Shelf.SlicesE.Clone
import Derived.Shelf.SlGeneric
namespace Go.Proofs.YtbanjohfcnadfaaGreatDoor
open Go.RowKit
open Mth

set_option maxRecDepth 100000 in
set_option maxHeartbeats 4000000 in
theorem implOutOk (n : Nd) (A : Ads) (w : World) (hz : NdSz n 1048600) (hp : placeB n = true) (ha : NodeAt w A n) :
    Calls Tryz.prog 92 #[ndv n A] w fun e w' => e = .returned (.bool (outsB n)) ∧ Below w.heap.size w w' := by
  have HA := hide ha
  have HD : Hid (outsB n = (decide (n.out.length ≤ 40) && chk (outB n) (fun s t => ltB s.i t.i) n.out)) := rfl
  have HCB := hide (fun k h => chk_bad (outB n) (fun s t => ltB s.i t.i) n.out k h)
  have HCL := hide (fun k h => chk_last (outB n) (fun s => s.i) 0 (fun x => out_pos) n.out k h)
  have HLS := hide (fun k h => lastI_snoc (fun s : Snt => s.i) 0 n.out k h)
  have HLB := hide (fun k (h : chk (outB n) (fun s t => ltB s.i t.i) (n.out.take k) = true) => chk_lastI (key := fun s => s.i) (y0 := 0) (fun x => out_pos) h)
  have HKB := hide (fun s => show outB n s = (decide (1 ≤ s.i ∧ s.i ≤ n.next - 1) && nearB n s.t && keyOk s.k.data.toList && smB s.n) from rfl)
  have HNR : Hid (∀ x w1, Below w.heap.size w w1 → Calls Tryz.prog 116 #[ndv n A, .int .i64 x] w1 fun e w' => e = .returned (.bool (nearB n x)) ∧ Below w1.heap.size w1 w') := fun x w1 hb => by
    have h := implNear n A x w1 hz.k (ha.below hb).k
    rw [near_same hp] at h
    exact h
  have hlo := hz.o
  have HBX := hide (heap_alloc_new w (.cells (ndc n A) 50))
  generalize outsB n = TT at *
  generalize outB n = KB at *
  generalize nearB n = NN at *
  clear ha hz hp
  obtain ⟨id, par, kids, next, pu, out, seen, old, reqs⟩ := n
  obtain ⟨ak, ap, ao, as', ar, ck, cp, co, cs, cr⟩ := A
  dsimp only at hlo HD HCB HCL HLS HLB HKB HNR HBX ⊢
  generalize (fun s t : Snt => ltB s.i t.i) = RR at *
  by_cases h0 : out.length ≤ 40
  case' neg =>
    have HP := hide (show TT = false by rw [unhide HD, decide_eq_false h0]; rfl)
    have hb0 : decide ((40 : Int) < out.length) = true := decide_eq_true (by omega)
    go_enter Tryz.func92, Tryz.ntmps92
    go_wp2_with fail
    go_ret
    exact ⟨ret_bool (unhide HP).symm, below_one w _⟩
  have hb0 : decide ((40 : Int) < out.length) = false := decide_eq_false (by omega)
  have HOK : Hid (TT = chk KB RR out) := by rw [unhide HD, decide_eq_true h0]; rfl
  clear HD
  go_enter Tryz.func92, Tryz.ntmps92
  go_wp2_with fail
  go_loopw [3, 13] (fun lv i wr => ∃ (k : Nat) (y : Int), k ≤ out.length ∧ i = .int .i64 k ∧ lv = .int .i64 y ∧ y = lastI (fun s => s.i) 0 (out.take k) ∧ chk KB RR (out.take k) = true ∧ wr.heap[w.heap.size]? = some (.cells (ndc ⟨id, par, kids, next, pu, out, seen, old, reqs⟩ ⟨ak, ap, ao, as', ar, ck, cp, co, cs, cr⟩) 50 (0, 0)) ∧ Below w.heap.size w wr) (fun _ i _ => out.length - (intOf i).toNat)
  case atStart => exact ⟨0, 0, Nat.zero_le _, rfl, rfl, rfl, rfl, unhide HBX, below_one w _⟩
  case round =>
    obtain ⟨k, y, hk, rfl, rfl, hy, hall, hblk, hbel⟩ := hrel
    have HALL := hide hall
    have HY := hide hy
    have HBL := hide hbel
    have HBK := hide hblk
    have hy0 : 0 ≤ y := by rw [hy]; exact unhide HLB k hall
    clear hall hy hblk hbel
    by_cases hlt : k < out.length
    case' neg =>
      have hke : k = out.length := by omega
      subst hke
      have hnlt : decide ((out.length : Int) < (out.length : Int)) = false := by simp
      have HF : Hid (TT = true) := by
        have h := unhide HALL
        rw [List.take_length] at h
        exact (unhide HOK).trans h
      go_wp2_with fail
      go_ret
      exact ⟨ret_bool (unhide HF).symm, unhide HBL⟩
    obtain ⟨g, off, e0, hgw, q0, q1, q2, q3⟩ := SentAt.four ((unhide HA).below (unhide HBL)).o k hlt
    (try dsimp only at e0 q0 q1 q2 q3)
    subst e0
    have HBAD : Hid (chk KB RR (out.take (k + 1)) = false → TT = false) := fun h => (unhide HOK).trans (unhide HCB _ h)
    have HNX : Hid (chk KB RR (out.take (k + 1)) = (KB out[k] && decide (y < (out[k]).i))) := by
      have h := unhide HCL k hlt
      have h2 := unhide HALL
      rw [← unhide HY] at h
      rw [h, h2]
      rfl
    have HLN := hide (unhide HLS k hlt)
    have HKX := hide (unhide HKB out[k])
    clear HCL HLS HCB HKB HLB
    generalize out[k] = sk at *
    generalize KB sk = OB at *
    obtain ⟨si, st, sx, sn⟩ := sk
    dsimp only at q0 q1 q2 q3 HNX HLN HKX
    obtain ⟨bb, hbb⟩ : ∃ bb, (!(decide (y < si) && decide (si < next) && NN st && keyOk sx.data.toList && smB sn)) = bb := ⟨_, rfl⟩
    have HBB := hide hbb
    have HVB : Hid (chk KB RR (out.take (k + 1)) = !bb) := by
      rw [unhide HNX, ← unhide HBB, unhide HKX, Bool.not_not]
      have e1 : (decide (1 ≤ si ∧ si ≤ next - 1) && decide (y < si)) = (decide (y < si) && decide (si < next)) := by
        rw [Bool.eq_iff_iff]
        simp only [Bool.and_eq_true, decide_eq_true_eq]
        omega
      rw [← e1]
      generalize decide (1 ≤ si ∧ si ≤ next - 1) = z1
      generalize decide (y < si) = z2
      generalize NN st = z3
      generalize keyOk sx.data.toList = z4
      generalize smB sn = z5
      cases z1 <;> cases z2 <;> cases z3 <;> cases z4 <;> cases z5 <;> exact hide rfl
    clear hbb HNX HKX
    go_upto_region 7 with fail
    refine wp_at (fun W1 hW1 => ?_)
    have HW1 : Hid (W1.heap[wr.heap.size]? = some (.cells #[.int .i64 si, .int .i64 st, .string sx, .int .i64 sn] 105 (0, 0))) := by rw [hW1]; exact heap_alloc_new _ _
    have hbw : Below wr.heap.size wr W1 := by rw [hW1]; exact below_one wr _
    have HBK1 := hide (obj_step (unhide HBK) hbw)
    have HBL1 := hide ((unhide HBL).trans (hbw.mono (unhide HBL).size))
    clear hW1 hbw q0 q1 q2 q3 HBK
    obtain ⟨d0, d1, d2, d3⟩ := fourC (unhide HW1)
    obtain ⟨c0, c1, c2, c3, c4, c5, c6, c7, c8⟩ := nine (unhide HBK1)
    go_cut [46] (fun r wx => r = .bool bb ∧ Below W1.heap.size W1 wx)
    case first =>
      by_cases h1 : y < si
      case' neg =>
        have HV := hide (show bb = true by rw [← unhide HBB]; simp [h1])
        have hb1 : decide (si ≤ y) = true := decide_eq_true (by omega)
        clear HBB HVB
        go_wp2_with fail
        go_meet
        case rel => exact ⟨by rw [unhide HV], Below.refl _ _⟩
      have hb1 : decide (si ≤ y) = false := decide_eq_false (by omega)
      by_cases h2 : si < next
      case' neg =>
        have HV := hide (show bb = true by rw [← unhide HBB]; simp [h2])
        have hb2 : decide (next ≤ si) = true := decide_eq_true (by omega)
        clear HBB HVB
        go_wp2_with fail
        go_meet
        case rel => exact ⟨by rw [unhide HV], Below.refl _ _⟩
      have hb2 : decide (next ≤ si) = false := decide_eq_false (by omega)
      go_wp2_with fail
      refine (unhide HNR _ _ (unhide HBL1)).mono ?_
      rintro e w2 ⟨rfl, hb3⟩
      have HB3 := hide hb3
      have HW2 := hide (obj_step (unhide HW1) hb3)
      clear hb3 d0 d1 d2 d3 c0 c1 c2 c3 c4 c5 c6 c7 c8
      obtain ⟨d0, d1, d2, d3⟩ := fourC (unhide HW2)
      cases h3 : NN st
      case' false =>
        have HV := hide (show bb = true by rw [← unhide HBB]; simp [h3])
        clear HBB HVB h3
        go_wp2_with fail
        go_meet
        case rel => exact ⟨by rw [unhide HV], unhide HB3⟩
      cases h4 : keyOk sx.data.toList
      case' false =>
        have HV := hide (show bb = true by rw [← unhide HBB]; simp [h4])
        have H4 := hide (fun w1 => implKeyR sx false w1 h4)
        clear HBB HVB h3 h4
        go_wp2_with (go_at_call 117; refine (unhide H4 _).mono ?_; rintro e w9 ⟨rfl, rfl⟩)
        go_meet
        case rel => exact ⟨by rw [unhide HV], unhide HB3⟩
      have H4 := hide (fun w1 => implKeyR sx true w1 h4)
      have HV := hide (show bb = !smB sn by rw [← unhide HBB]; simp [h1, h2, h3, h4])
      have H5 := hide (fun w1 => isSomeAmount sn _ w1 rfl)
      clear HBB HVB h3 h4
      go_wp2_with (first | (go_at_call 117; refine (unhide H4 _).mono ?_; rintro e w9 ⟨rfl, rfl⟩) | (go_at_call 91; refine (unhide H5 _).mono ?_; rintro e w9 ⟨rfl, rfl⟩))
      go_meet
      case rel => exact ⟨by rw [unhide HV], unhide HB3⟩
    case rest =>
      obtain ⟨rfl, hbx⟩ := hcut
      have HBK2 := hide (obj_step (unhide HBK1) hbx)
      have HBL2 := hide ((unhide HBL1).trans (hbx.mono (unhide HBL1).size))
      have HW2 := hide (obj_step (unhide HW1) hbx)
      clear hbx d0 d1 d2 d3 c0 c1 c2 c3 c4 c5 c6 c7 c8 HW1 HBK1 HBL1 HBB
      obtain ⟨d0, d1, d2, d3⟩ := fourC (unhide HW2)
      cases hbv : bb
      · have HG := hide (show chk KB RR (out.take (k + 1)) = true by rw [unhide HVB, hbv]; rfl)
        subst hbv
        clear HBAD HVB
        go_wp2_with fail
        go_roundw
        case rel => exact ⟨k + 1, si, by omega, by go_num, rfl, (unhide HLN).symm, unhide HG, unhide HBK2, unhide HBL2⟩
        case measure => simp [intOf]; omega
      · have HP := hide (unhide HBAD (by rw [unhide HVB, hbv]; rfl))
        subst hbv
        clear HBAD HVB
        go_wp2_with fail
        go_ret
        exact ⟨ret_bool (unhide HP).symm, unhide HBL2⟩

set_option maxRecDepth 100000 in
set_option maxHeartbeats 4000000 in
theorem implReqsOk (n : Nd) (A : Ads) (w : World) (hz : NdSz n 1048600) (ha : NodeAt w A n) :
    Calls Tryz.prog 94 #[ndv n A] w fun e w' => e = .returned (.bool (reqsB n)) ∧ Below w.heap.size w w' := by
  have HA := hide ha
  have HD : Hid (reqsB n = (amB n.old && decide (n.reqs.length ≤ 30) && chk (reqB n) (fun s t => ltB s.no t.no) n.reqs)) := rfl
  have HCB := hide (fun k h => chk_bad (reqB n) (fun s t => ltB s.no t.no) n.reqs k h)
  have HCL := hide (fun k h => chk_last (reqB n) (fun s => s.no) n.old (fun x => req_pos) n.reqs k h)
  have HLS := hide (fun k h => lastI_snoc (fun s : Rq => s.no) n.old n.reqs k h)
  have HLB := hide (fun k (h : chk (reqB n) (fun s t => ltB s.no t.no) (n.reqs.take k) = true) => chk_lastI (key := fun s => s.no) (y0 := n.old) (fun x => req_pos) h)
  have HKB := hide (fun s => show reqB n s = (decide (n.old + 1 ≤ s.no ∧ s.no ≤ 1000000000) && keyOk s.k.data.toList && smB s.n && decide (0 ≤ s.s ∧ s.s ≤ 2)) from rfl)
  have hlo := hz.r
  have HBX := hide (heap_alloc_new w (.cells (ndc n A) 50))
  generalize reqsB n = TT at *
  generalize reqB n = KB at *
  clear ha hz
  obtain ⟨id, par, kids, next, pu, out, seen, old, reqs⟩ := n
  obtain ⟨ak, ap, ao, as', ar, ck, cp, co, cs, cr⟩ := A
  dsimp only at hlo HD HCB HCL HLS HLB HKB HBX ⊢
  generalize (fun s t : Rq => ltB s.no t.no) = RR at *
  cases h1 : amB old
  case' false =>
    have HP := hide (show TT = false by rw [unhide HD, h1]; rfl)
    have H1 := hide (fun w1 => implAmB old false w1 h1)
    clear h1 HD
    go_enter Tryz.func94, Tryz.ntmps94
    go_wp2_with (go_at_call 119; refine (unhide H1 _).mono ?_; rintro e w9 ⟨rfl, rfl⟩)
    go_ret
    exact ⟨ret_bool (unhide HP).symm, below_one w _⟩
  have H1 := hide (fun w1 => implAmB old true w1 h1)
  have hold : 0 ≤ old ∧ old ≤ 1000000000 := of_decide_eq_true h1
  obtain ⟨ho1, ho2⟩ := hold
  by_cases h0 : reqs.length ≤ 30
  case' neg =>
    have HP := hide (show TT = false by rw [unhide HD, decide_eq_false h0]; simp)
    have hb0 : decide ((30 : Int) < reqs.length) = true := decide_eq_true (by omega)
    clear h1 HD
    go_enter Tryz.func94, Tryz.ntmps94
    go_wp2_with (go_at_call 119; refine (unhide H1 _).mono ?_; rintro e w9 ⟨rfl, rfl⟩)
    go_ret
    exact ⟨ret_bool (unhide HP).symm, below_one w _⟩
  have hb0 : decide ((30 : Int) < reqs.length) = false := decide_eq_false (by omega)
  have HOK : Hid (TT = chk KB RR reqs) := by rw [unhide HD, h1, decide_eq_true h0]; rfl
  clear HD h1
  go_enter Tryz.func94, Tryz.ntmps94
  go_wp2_with (go_at_call 119; refine (unhide H1 _).mono ?_; rintro e w9 ⟨rfl, rfl⟩)
  go_loopw [3, 21] (fun lv i wr => ∃ (k : Nat) (y : Int), k ≤ reqs.length ∧ i = .int .i64 k ∧ lv = .int .i64 y ∧ y = lastI (fun s => s.no) old (reqs.take k) ∧ chk KB RR (reqs.take k) = true ∧ wr.heap[w.heap.size]? = some (.cells (ndc ⟨id, par, kids, next, pu, out, seen, old, reqs⟩ ⟨ak, ap, ao, as', ar, ck, cp, co, cs, cr⟩) 50 (0, 0)) ∧ Below w.heap.size w wr) (fun _ i _ => reqs.length - (intOf i).toNat)
  case atStart => exact ⟨0, old, Nat.zero_le _, rfl, rfl, rfl, rfl, unhide HBX, below_one w _⟩
  case round =>
    obtain ⟨k, y, hk, rfl, rfl, hy, hall, hblk, hbel⟩ := hrel
    have HALL := hide hall
    have HY := hide hy
    have HBL := hide hbel
    have HBK := hide hblk
    have hy0 : old ≤ y := by rw [hy]; exact unhide HLB k hall
    clear hall hy hblk hbel
    by_cases hlt : k < reqs.length
    case' neg =>
      have hke : k = reqs.length := by omega
      subst hke
      have hnlt : decide ((reqs.length : Int) < (reqs.length : Int)) = false := by simp
      have HF : Hid (TT = true) := by
        have h := unhide HALL
        rw [List.take_length] at h
        exact (unhide HOK).trans h
      go_wp2_with fail
      go_ret
      exact ⟨ret_bool (unhide HF).symm, unhide HBL⟩
    obtain ⟨g, off, e0, hgw, q0, q1, q2, q3⟩ := ReqAt.four ((unhide HA).below (unhide HBL)).r k hlt
    (try dsimp only at e0 q0 q1 q2 q3)
    subst e0
    have HBAD : Hid (chk KB RR (reqs.take (k + 1)) = false → TT = false) := fun h => (unhide HOK).trans (unhide HCB _ h)
    have HNX : Hid (chk KB RR (reqs.take (k + 1)) = (KB reqs[k] && decide (y < (reqs[k]).no))) := by
      have h := unhide HCL k hlt
      have h2 := unhide HALL
      rw [← unhide HY] at h
      rw [h, h2]
      rfl
    have HLN := hide (unhide HLS k hlt)
    have HKX := hide (unhide HKB reqs[k])
    clear HCL HLS HCB HKB HLB
    generalize reqs[k] = sk at *
    generalize KB sk = OB at *
    obtain ⟨si, sx, sn, st⟩ := sk
    dsimp only at q0 q1 q2 q3 HNX HLN HKX
    obtain ⟨bb, hbb⟩ : ∃ bb, (!(decide (y < si) && amB si && keyOk sx.data.toList && smB sn && decide (0 ≤ st) && decide (st ≤ 2))) = bb := ⟨_, rfl⟩
    have HBB := hide hbb
    have HVB : Hid (chk KB RR (reqs.take (k + 1)) = !bb) := by
      rw [unhide HNX, ← unhide HBB, unhide HKX, Bool.not_not]
      have e1 : (decide (old + 1 ≤ si ∧ si ≤ 1000000000) && decide (y < si)) = (decide (y < si) && amB si) := by
        rw [Bool.eq_iff_iff]
        unfold amB
        simp only [Bool.and_eq_true, decide_eq_true_eq]
        omega
      have e2 : decide (0 ≤ st ∧ st ≤ 2) = (decide (0 ≤ st) && decide (st ≤ 2)) := by
        rw [Bool.eq_iff_iff]
        simp only [Bool.and_eq_true, decide_eq_true_eq]
      rw [← e1, e2]
      generalize decide (old + 1 ≤ si ∧ si ≤ 1000000000) = z1
      generalize decide (y < si) = z2
      generalize decide (0 ≤ st) = z3
      generalize decide (st ≤ 2) = z6
      generalize keyOk sx.data.toList = z4
      generalize smB sn = z5
      cases z1 <;> cases z2 <;> cases z3 <;> cases z4 <;> cases z5 <;> cases z6 <;> exact hide rfl
    clear hbb HNX HKX
    go_upto_region 7 with fail
    refine wp_at (fun W1 hW1 => ?_)
    have HW1 : Hid (W1.heap[wr.heap.size]? = some (.cells #[.int .i64 si, .string sx, .int .i64 sn, .int .i64 st] 108 (0, 0))) := by rw [hW1]; exact heap_alloc_new _ _
    have hbw : Below wr.heap.size wr W1 := by rw [hW1]; exact below_one wr _
    have HBK1 := hide (obj_step (unhide HBK) hbw)
    have HBL1 := hide ((unhide HBL).trans (hbw.mono (unhide HBL).size))
    clear hW1 hbw q0 q1 q2 q3 HBK
    obtain ⟨d0, d1, d2, d3⟩ := fourC (unhide HW1)
    go_cut [56] (fun r wx => r = .bool bb ∧ wx = W1)
    case first =>
      by_cases g1 : y < si
      case' neg =>
        have hb1 : decide (si ≤ y) = true := decide_eq_true (by omega)
        have HV := hide (show bb = true by rw [← unhide HBB]; simp [g1])
        clear HBB HVB
        go_wp2_with (fail)
        go_meet
        case rel => exact ⟨by rw [unhide HV], rfl⟩
      have hb1 : decide (si ≤ y) = false := decide_eq_false (by omega)
      cases g2 : amB si
      case' false =>
        have Hg2 := hide (fun w1 => implAmB si false w1 g2)
        have HV := hide (show bb = true by rw [← unhide HBB]; simp [g2])
        clear HBB HVB
        go_wp2_with (first | (go_at_call 119; refine (unhide Hg2 _).mono ?_; rintro e w9 ⟨rfl, rfl⟩))
        go_meet
        case rel => exact ⟨by rw [unhide HV], rfl⟩
      have Hg2 := hide (fun w1 => implAmB si true w1 g2)
      cases g3 : keyOk sx.data.toList
      case' false =>
        have Hg3 := hide (fun w1 => implKeyR sx false w1 g3)
        have HV := hide (show bb = true by rw [← unhide HBB]; simp [g3])
        clear HBB HVB
        go_wp2_with (first | (go_at_call 119; refine (unhide Hg2 _).mono ?_; rintro e w9 ⟨rfl, rfl⟩) | (go_at_call 117; refine (unhide Hg3 _).mono ?_; rintro e w9 ⟨rfl, rfl⟩))
        go_meet
        case rel => exact ⟨by rw [unhide HV], rfl⟩
      have Hg3 := hide (fun w1 => implKeyR sx true w1 g3)
      cases g4 : smB sn
      case' false =>
        have Hg4 := hide (fun w1 => isSomeAmount sn false w1 g4)
        have HV := hide (show bb = true by rw [← unhide HBB]; simp [g4])
        clear HBB HVB
        go_wp2_with (first | (go_at_call 119; refine (unhide Hg2 _).mono ?_; rintro e w9 ⟨rfl, rfl⟩) | (go_at_call 117; refine (unhide Hg3 _).mono ?_; rintro e w9 ⟨rfl, rfl⟩) | (go_at_call 91; refine (unhide Hg4 _).mono ?_; rintro e w9 ⟨rfl, rfl⟩))
        go_meet
        case rel => exact ⟨by rw [unhide HV], rfl⟩
      have Hg4 := hide (fun w1 => isSomeAmount sn true w1 g4)
      by_cases g5 : 0 ≤ st
      case' neg =>
        have hb5 : decide (st < 0) = true := decide_eq_true (by omega)
        have HV := hide (show bb = true by rw [← unhide HBB]; simp [g5])
        clear HBB HVB
        go_wp2_with (first | (go_at_call 119; refine (unhide Hg2 _).mono ?_; rintro e w9 ⟨rfl, rfl⟩) | (go_at_call 117; refine (unhide Hg3 _).mono ?_; rintro e w9 ⟨rfl, rfl⟩) | (go_at_call 91; refine (unhide Hg4 _).mono ?_; rintro e w9 ⟨rfl, rfl⟩))
        go_meet
        case rel => exact ⟨by rw [unhide HV], rfl⟩
      have hb5 : decide (st < 0) = false := decide_eq_false (by omega)
      by_cases g6 : st ≤ 2
      case' neg =>
        have hb6 : decide (2 < st) = true := decide_eq_true (by omega)
        have HV := hide (show bb = true by rw [← unhide HBB]; simp [g6])
        clear HBB HVB
        go_wp2_with (first | (go_at_call 119; refine (unhide Hg2 _).mono ?_; rintro e w9 ⟨rfl, rfl⟩) | (go_at_call 117; refine (unhide Hg3 _).mono ?_; rintro e w9 ⟨rfl, rfl⟩) | (go_at_call 91; refine (unhide Hg4 _).mono ?_; rintro e w9 ⟨rfl, rfl⟩))
        go_meet
        case rel => exact ⟨by rw [unhide HV], rfl⟩
      have hb6 : decide (2 < st) = false := decide_eq_false (by omega)
      have HV := hide (show bb = false by rw [← unhide HBB]; simp [g1, g2, g3, g4, g5, g6])
      clear HBB HVB
      go_wp2_with (first | (go_at_call 119; refine (unhide Hg2 _).mono ?_; rintro e w9 ⟨rfl, rfl⟩) | (go_at_call 117; refine (unhide Hg3 _).mono ?_; rintro e w9 ⟨rfl, rfl⟩) | (go_at_call 91; refine (unhide Hg4 _).mono ?_; rintro e w9 ⟨rfl, rfl⟩))
      go_meet
      case rel => exact ⟨by rw [unhide HV], rfl⟩
    case rest =>
      obtain ⟨rfl, rfl⟩ := hcut
      clear HBB
      cases hbv : bb
      · have HG := hide (show chk KB RR (reqs.take (k + 1)) = true by rw [unhide HVB, hbv]; rfl)
        subst hbv
        clear HBAD HVB
        go_wp2_with fail
        go_roundw
        case rel => exact ⟨k + 1, si, by omega, by go_num, rfl, (unhide HLN).symm, unhide HG, unhide HBK1, unhide HBL1⟩
        case measure => simp [intOf]; omega
      · have HP := hide (unhide HBAD (by rw [unhide HVB, hbv]; rfl))
        subst hbv
        clear HBAD HVB
        go_wp2_with fail
        go_ret
        exact ⟨ret_bool (unhide HP).symm, unhide HBL1⟩
end Go.Proofs.YtbanjohfcnadfaaGreatDoor
namespace Go.Proofs
open Go.Shelf
def Tryz.sortL_ren : Go.Shelf.Ren := ⟨fun | 5 => 88 | 8 => 113 | 7 => 112 | 19 => 146 | 20 => 147 | 10 => 137 | 11 => 138 | 12 => 139 | 13 => 140 | 14 => 141 | 15 => 142 | 16 => 143 | 17 => 144 | 18 => 145 | 30 => 168 | 31 => 169 | 32 => 170 | 33 => 171 | 34 => 172 | 35 => 173 | 40 => 187 | n => n, fun | 23 => 22 | 25 => 3 | 3 => 3 | 32 => 145 | 22 => 22 | 0 => 0 | 44 => 116 | 46 => 174 | 4 => 4 | 36 => 165 | 35 => 164 | 41 => 170 | 5 => 5 | 9 => 9 | 53 => 188 | 57 => 192 | 63 => 204 | 64 => 205 | n => n, fun | n => n⟩
theorem Tryz.sortL : Go.Proofs.SlLaysM.n5 Tryz.prog Tryz.sortL_ren := {
  mixed := by kernel_rfl
  f5 := ⟨Tryz.f88.name, by decide, Tryz.func88.trans (congrArg some (by kernel_rfl))⟩
  f7 := ⟨Tryz.f112.name, by decide, Tryz.func112.trans (congrArg some (by kernel_rfl))⟩
  f8 := Tryz.func113.trans (congrArg some (by kernel_rfl))
  f10 := ⟨Tryz.f137.name, by decide, Tryz.func137.trans (congrArg some (by kernel_rfl))⟩
  f11 := ⟨Tryz.f138.name, by decide, Tryz.func138.trans (congrArg some (by kernel_rfl))⟩
  f12 := ⟨Tryz.f139.name, by decide, Tryz.func139.trans (congrArg some (by kernel_rfl))⟩
  f13 := ⟨Tryz.f140.name, by decide, Tryz.func140.trans (congrArg some (by kernel_rfl))⟩
  f14 := ⟨Tryz.f141.name, by decide, Tryz.func141.trans (congrArg some (by kernel_rfl))⟩
  f15 := ⟨Tryz.f142.name, by decide, Tryz.func142.trans (congrArg some (by kernel_rfl))⟩
  f16 := ⟨Tryz.f143.name, by decide, Tryz.func143.trans (congrArg some (by kernel_rfl))⟩
  f17 := ⟨Tryz.f144.name, by decide, Tryz.func144.trans (congrArg some (by kernel_rfl))⟩
  f18 := ⟨Tryz.f145.name, by decide, Tryz.func145.trans (congrArg some (by kernel_rfl))⟩
  f19 := Tryz.func146.trans (congrArg some (by kernel_rfl))
  f20 := Tryz.func147.trans (congrArg some (by kernel_rfl))
  f30 := ⟨Tryz.f168.name, by decide, Tryz.func168.trans (congrArg some (by kernel_rfl))⟩
  f31 := Tryz.func169.trans (congrArg some (by kernel_rfl))
  f32 := Tryz.func170.trans (congrArg some (by kernel_rfl))
  f33 := ⟨Tryz.f171.name, by decide, Tryz.func171.trans (congrArg some (by kernel_rfl))⟩
  f34 := ⟨Tryz.f172.name, by decide, Tryz.func172.trans (congrArg some (by kernel_rfl))⟩
  f35 := ⟨Tryz.f173.name, by decide, Tryz.func173.trans (congrArg some (by kernel_rfl))⟩
  f40 := ⟨Tryz.f187.name, by decide, Tryz.func187.trans (congrArg some (by kernel_rfl))⟩
  t0 := Tryz.underlying0
  a0 := Tryz.isAgg0
  z0 := Tryz.sizeOf0
  v0 := Tryz.zeroValue0
  t3 := Tryz.underlying3
  a3 := Tryz.isAgg3
  z3 := Tryz.sizeOf3
  v3 := Tryz.zeroValue3
  t4 := Tryz.underlying4
  a4 := Tryz.isAgg4
  z4 := Tryz.sizeOf4
  v4 := Tryz.zeroValue4
  t5 := Tryz.underlying5
  a5 := Tryz.isAgg5
  z5 := Tryz.sizeOf5
  v5 := Tryz.zeroValue5
  t9 := Tryz.underlying9
  a9 := Tryz.isAgg9
  z9 := Tryz.sizeOf9
  v9 := Tryz.zeroValue9
  t22 := Tryz.underlying22
  a22 := Tryz.isAgg22
  z22 := Tryz.sizeOf22
  v22 := Tryz.zeroValue22
  t23 := Tryz.underlying22
  a23 := Tryz.isAgg22
  z23 := Tryz.sizeOf22
  v23 := Tryz.zeroValue22
  t25 := Tryz.underlying3
  a25 := Tryz.isAgg3
  z25 := Tryz.sizeOf3
  v25 := Tryz.zeroValue3
  t32 := Tryz.underlying145
  a32 := Tryz.isAgg145
  z32 := Tryz.sizeOf145
  v32 := Tryz.zeroValue145
  t35 := Tryz.underlying164
  a35 := Tryz.isAgg164
  z35 := Tryz.sizeOf164
  v35 := Tryz.zeroValue164
  t36 := Tryz.underlying165
  a36 := Tryz.isAgg165
  z36 := Tryz.sizeOf165
  v36 := Tryz.zeroValue165
  t41 := Tryz.underlying170
  a41 := Tryz.isAgg170
  z41 := Tryz.sizeOf170
  v41 := Tryz.zeroValue170
  t44 := Tryz.underlying116
  a44 := Tryz.isAgg116
  z44 := Tryz.sizeOf116
  v44 := Tryz.zeroValue116
  t46 := Tryz.underlying174
  a46 := Tryz.isAgg174
  z46 := Tryz.sizeOf174
  v46 := Tryz.zeroValue174
  t53 := Tryz.underlying188
  a53 := Tryz.isAgg188
  z53 := Tryz.sizeOf188
  v53 := Tryz.zeroValue188
  t57 := Tryz.underlying192
  a57 := Tryz.isAgg192
  z57 := Tryz.sizeOf192
  v57 := Tryz.zeroValue192
  t63 := Tryz.underlying204
  a63 := Tryz.isAgg204
  z63 := Tryz.sizeOf204
  v63 := Tryz.zeroValue204
  t64 := Tryz.underlying205
  a64 := Tryz.isAgg205
  z64 := Tryz.sizeOf205
  v64 := Tryz.zeroValue205 }
end Go.Proofs
