/-
  The law FnExactNodeOk at a node that lies in memory.
-/
import Derived.Test.YtdlhlfndobbocaaNdNode
import Derived.Test.YtdlhlfndobbocaaNdI5
import Derived.Test.YtdlhlfndobbocaaMix
namespace Go.Proofs.Ytdlhlfndobbocaa
open Go.RowKit
open Mth

set_option maxRecDepth 100000 in
set_option maxHeartbeats 4000000 in
theorem fnExactNodeOk_walk (n : Nd) (A : Ads) (hz : NdSz n maxLen) (w : World) (ha : NodeAt w A n) :
    Calls Try.prog 3 #[ndv n A] w fun e w' => e = .returned (.bool true) ∧ Below w.heap.size w w' := by
  have HA := hide ha
  have HBX := hide (heap_alloc_new w (.cells (ndc n A) 28))
  have HL0 := hide (below_one w (.cells (ndc n A) 28))
  have HSZ := hide (szNode n A (w.alloc (.cells (ndc n A) 28)) hz (ha.below (below_one w _)))
  have HTN := hide (fun W (hb : Below w.heap.size w W) (h : NdSz n 1048576) => toNode n A W h (ha.below hb))
  have HOS := hide (fun A' W (h : NdSz n 1048576) (ha : NodeAt W A' n) => specNodeOk n A' W (h.mono (by omega)) ha)
  have HOI := hide (fun A' W (h : NdSz n 1048576) (ha : NodeAt W A' n) => implNodeOk n A' W (h.mono (by omega)) ha)
  have HEQ := hide (fun A' A'' W (h : NdSz n 1048576) (ha : NodeAt W A' n) (hb : NodeAt W A'' n) => eqNode n A' A'' W (h.mono (by omega)) ha hb)
  generalize ndOk n = OK at *
  clear ha hz
  obtain ⟨id, par, kids, next, pu, out, seen, old, reqs⟩ := n
  obtain ⟨ak, ap, ao, as', ar, ck, cp, co, cs, cr⟩ := A
  go_enter Try.func3, Try.ntmps3
  go_wp2_with fail
  refine (unhide HSZ).mono ?_
  rintro e w1 ⟨z, rfl, hb1, hcase⟩
  have HB1 := hide (obj_step (unhide HBX) hb1)
  have HL1 := hide ((unhide HL0).trans (hb1.mono (unhide HL0).size))
  clear hb1 HSZ HBX
  obtain ⟨c0, c1, c2, c3, c4, c5, c6, c7, c8⟩ := nine (unhide HB1)
  rcases hcase with rfl | ⟨z0, z1, hz⟩
  case' inl =>
    go_wp2_with fail
    go_ret
    exact ⟨rfl, unhide HL1⟩
  have hzn : decide (z < 0) = false := decide_eq_false (by omega)
  have HZ := hide hz
  clear hz
  go_wp2_with fail
  refine (unhide HTN _ (unhide HL1) (unhide HZ)).mono ?_
  rintro e w2 ⟨A2, rfl, G2, hN2, _, hb2⟩
  have HB2 := hide (obj_step (unhide HB1) hb2)
  have HL2 := hide ((unhide HL1).trans (hb2.mono (unhide HL1).size))
  have HO2 := hide (unhide HOS A2 w2 (unhide HZ) hN2.at)
  clear hb2 hN2 c0 c1 c2 c3 c4 c5 c6 c7 c8
  obtain ⟨c0, c1, c2, c3, c4, c5, c6, c7, c8⟩ := nine (unhide HB2)
  obtain ⟨a0, a1, a2, a3, a4, b0, b1, b2, b3, b4⟩ := A2
  go_wp2_with fail
  refine (unhide HO2).mono ?_
  rintro e w3 ⟨rfl, hb3⟩
  have HB3 := hide (obj_step (unhide HB2) hb3)
  have HL3 := hide ((unhide HL2).trans (hb3.mono (unhide HL2).size))
  clear hb3 c0 c1 c2 c3 c4 c5 c6 c7 c8
  obtain ⟨c0, c1, c2, c3, c4, c5, c6, c7, c8⟩ := nine (unhide HB3)
  go_wp2_with fail
  refine (unhide HTN _ (unhide HL3) (unhide HZ)).mono ?_
  rintro e w4 ⟨A4, rfl, G4, hN4, _, hb4⟩
  have HB4 := hide (obj_step (unhide HB3) hb4)
  have HL4 := hide ((unhide HL3).trans (hb4.mono (unhide HL3).size))
  clear hb4 c0 c1 c2 c3 c4 c5 c6 c7 c8
  obtain ⟨x0, x1, x2, x3, x4, y0, y1, y2, y3, y4⟩ := A4
  have HN4 := hide hN4.at
  clear hN4
  go_upto_region 7 with fail
  refine wp_at (fun W4 hW4 => ?_)
  have hbw : Below w4.heap.size w4 W4 := by rw [hW4]; exact below_one w4 _
  have HX4 : Hid (W4.heap[w4.heap.size]? = some (.cells (ndc ⟨id, par, kids, next, pu, out, seen, old, reqs⟩ ⟨x0, x1, x2, x3, x4, y0, y1, y2, y3, y4⟩) 36 (0, 0))) := by rw [hW4]; exact heap_alloc_new _ _
  have HB5 := hide (obj_step (unhide HB4) hbw)
  have HL5 := hide ((unhide HL4).trans (hbw.mono (unhide HL4).size))
  have HN5 := hide ((unhide HN4).below hbw)
  clear hW4 hbw
  obtain ⟨d0, d1, d2, d3, d4, d5, d6, d7, d8⟩ := nine (unhide HX4)
  go_wp2_with fail
  refine (unhide HOI _ _ (unhide HZ) (unhide HN5)).mono ?_
  rintro e w6 ⟨rfl, hb6⟩
  have HB6 := hide (obj_step (unhide HB5) hb6)
  have HX6 := hide (obj_step (unhide HX4) hb6)
  have HL6 := hide ((unhide HL5).trans (hb6.mono (unhide HL5).size))
  have HN6 := hide ((unhide HN5).below hb6)
  clear hb6 d0 d1 d2 d3 d4 d5 d6 d7 d8
  obtain ⟨d0, d1, d2, d3, d4, d5, d6, d7, d8⟩ := nine (unhide HX6)
  obtain ⟨c0, c1, c2, c3, c4, c5, c6, c7, c8⟩ := nine (unhide HB6)
  have hok : (OK != OK) = false := by simp
  have HTN6 := hide (fun x (hx : Ge w6 x) => unhide HTN x (Ge.trans (unhide HL6) hx) (unhide HZ))
  have HN6' := unhide HN6
  clear HTN HOS HOI HN5 HN4 HB5 HB4 HB3 HB2 HB1 HL5 HL4 HL3 HL2 HL1 HL0 HX4
  go_upto_region 10 with fail
  have k0 := cell_grown' c0
  have k1 := cell_grown' c1
  have k2 := cell_grown' c2
  have k3 := cell_grown' c3
  have k4 := cell_grown' c4
  have k5 := cell_grown' c5
  have k6 := cell_grown' c6
  have k7 := cell_grown' c7
  have k8 := cell_grown' c8
  have m0 := cell_grown' d0
  have m1 := cell_grown' d1
  have m2 := cell_grown' d2
  have m3 := cell_grown' d3
  have m4 := cell_grown' d4
  have m5 := cell_grown' d5
  have m6 := cell_grown' d6
  have m7 := cell_grown' d7
  have m8 := cell_grown' d8
  refine wp_region_mix (by kernel_rfl) ?_
  show wpMix _ _ _ _ 5 (Array.replicate 5 false) _ _
  refine wpMix_take 0 rfl (by kernel_rfl) (by kernel_rfl) (by kernel_rfl) (fun _ _ _ _ h => h) (fun K hK => ?_)
  go_simp
  first
    | (refine hK _ ?_; clear hK K)
    | (apply Exists.intro
       refine ⟨fun _ => ?_, hK _ ?_⟩
       (fail)
       clear hK K)
  refine wpMix_take 1 rfl (by kernel_rfl) (by kernel_rfl) (by kernel_rfl) (fun _ _ _ _ h => h) (fun K hK => ?_)
  go_simp
  first
    | (refine hK _ ?_; clear hK K)
    | (apply Exists.intro
       refine ⟨fun _ => ?_, hK _ ?_⟩
       (fail)
       clear hK K)
  clear k0 k1 k2 k3 k4 k5 k6 k7 k8 m0 m1 m2 m3 m4 m5 m6 m7 m8 c0 c1 c2 c3 c4 c5 c6 c7 c8 d0 d1 d2 d3 d4 d5 d6 d7 d8
  refine wpMix_one 2 rfl (by kernel_rfl) (by rfl) (fun x hx => ?_)
  go_simp
  refine (unhide HTN6 x hx).mono ?_
  rintro e y ⟨A9, rfl, G9, hN9, _, hby⟩
  refine ⟨hby, ?_⟩
  have HEE := hide (fun z (hz : Ge y z) => unhide HEQ _ _ z (unhide HZ) ((HN6'.below (Ge.trans hx hby)).below hz) (hN9.at.below hz))
  have HXY := hide (Ge.trans hx hby)
  clear hN9 hx hby
  obtain ⟨v0, v1, v2, v3, v4, u0, u1, u2, u3, u4⟩ := A9
  refine wpMix_one 3 rfl (by kernel_rfl) (by rfl) (fun x2 hx2 => ?_)
  go_simp
  refine (unhide HEE x2 hx2).mono ?_
  rintro e y2 ⟨rfl, hby2⟩
  refine ⟨hby2, ?_⟩
  have HXZ := hide (Ge.trans (Ge.trans (unhide HXY) hx2) hby2)
  clear hx2 hby2
  refine wpMix_take 4 rfl (by kernel_rfl) (by kernel_rfl) (by kernel_rfl) (fun _ _ _ _ h => h) (fun K hK => ?_)
  go_simp
  first
    | (refine hK _ ?_; clear hK K)
    | (apply Exists.intro
       refine ⟨fun _ => ?_, hK _ ?_⟩
       (fail)
       clear hK K)
  refine wpMix_done (by kernel_rfl) (fun z0 hz0 => ?_)
  have hz := Ge.trans (unhide HXZ) hz0
  go_wp2_with fail
  go_ret
  exact ⟨rfl, (unhide HL6).trans (hz.mono (unhide HL6).size)⟩
end Go.Proofs.Ytdlhlfndobbocaa
