/- Parts. -/
import Derived.Test.YtcfcngbfnflbgaaGreatDoorPk32
import Derived.Test.YtcfcngbfnflbgaaGreatDoorPk12
import Derived.Deep.RegionHeld
import Derived.BigFrame
namespace Go.Proofs.YtcfcngbfnflbgaaGreatDoor
open Go.RowKit
open Mth

/-- A keeper's cells lie in a block. -/
structure KR (W : World) (g : Nat) (V : List Value) : Prop where
  r : W.rangeAt g 0 V
  l : g < W.heap.size
theorem KR.below {W W' : World} {g : Nat} {V : List Value} (h : KR W g V) (hb : Below W.heap.size W W') : KR W' g V := ⟨rangeAt_below h.r h.l hb, Nat.lt_of_lt_of_le h.l hb.size⟩
theorem KR.keeps {W W' : World} {g : Nat} {V : List Value} {F : List Nat} (h : KR W g V) (hk : KeepsL F W W') (hg : g ∉ F) : KR W' g V :=
  ⟨fun j v hj => (World.cell?_of_block (w := W) (hk.block g h.l hg)).trans (h.r j v hj), Nat.lt_of_lt_of_le h.l hk.size⟩
/-- A list of cells that is a new keeper's. -/
def IsK (V : List Value) (n : Nd) (A2 A1 : Ads) : Prop := V = (nkc n A2 A1).toList
theorem IsK.len {V : List Value} {n : Nd} {A2 A1 : Ads} (h : IsK V n A2 A1) : V.length = 22 := by unfold IsK at h; rw [h]; rfl
theorem IsK.agg {V : List Value} {n : Nd} {A2 A1 : Ads} (h : IsK V n A2 A1) : Value.agg (nkc n A2 A1) = .agg V.toArray := by unfold IsK at h; rw [h]
theorem IsK.one {V : List Value} {n : Nd} {A2 A1 : Ads} (h : IsK V n A2 A1) : V.toArray.all (·.oneCell') = true := by unfold IsK at h; rw [h]; kernel_rfl
theorem TwoW.below {w w' : World} {n : Nd} {A2 A1 : Ads} {G2 G1 : Blks} {s2 s1 : Nat} (h : TwoW w n A2 A1 G2 G1 s2 s1) (hb : Below w.heap.size w w') : TwoW w' n A2 A1 G2 G1 s2 s1 := ⟨h.b.below hb, h.n.below hb⟩
section
variable {ops : Array Oper} {rest : List Oper} {op : Oper} {a : Act} {w : World} {Q : Exit → Act → World → Prop}
theorem kLoad (hw : Region.wanted op (yielded ops a.tmps) = true) (x : Operand) (ho : op.op = .load 39 x) (g : Nat) (hx : a.eval x = .pointer (some ⟨g, 0, none⟩)) (V : List Value) (hl : V.length = 22) (hc : KR w g V)
    (h : wpList Tryz.prog ops Q rest (a.put op.dst (.agg V.toArray)) w) : wpList Tryz.prog ops Q (op :: rest) a w :=
  BigFrame.wpList_want hw fun _ hK => wp_load_mid 39 x ho g 0 hx V _ hc.r Tryz.underlying39 rfl (by rw [hl]; kernel_rfl) (hK _ _ h)
theorem kStore (hw : Region.wanted op (yielded ops a.tmps) = true) (x y : Operand) (ho : op.op = .store 39 x y) (g : Nat) (hx : a.eval x = .pointer (some ⟨g, 0, none⟩)) (V : List Value) (hy : a.eval y = .agg V.toArray) (hl : V.length = 22) (h1 : V.toArray.all (·.oneCell') = true) (hb : w.heap[g]? = some (.cells zk22 39 (0, 0)))
    (h : ∀ W, W = w.setCells g 0 V → KR W g V → wpList Tryz.prog ops Q rest (a.put op.dst undef) W) : wpList Tryz.prog ops Q (op :: rest) a w := by
  have ht : w.there g 0 22 := fun j hj => ⟨blk22 hb hj, obj_free hb _⟩
  refine BigFrame.wpList_want hw fun _ hK => wp_store_mid 39 x y ho g 0 V.toArray hx hy (by simpa [hl] using ht) (by simp only [List.size_toArray, hl]; kernel_rfl) h1 (hK _ _ ?_)
  exact h _ rfl ⟨World.rangeAt_setCells_same w g 0 V (by rw [hl]; exact ht), Nat.lt_of_lt_of_le (obj_lt hb) (setCells_keeps g V w 0).size⟩
end
set_option maxRecDepth 100000 in
set_option maxHeartbeats 8000000 in
theorem fnExactKeeperNew_walk (n : Nd) (A : Ads) (hz : NdSz n maxLen) (w : World) (ha : NodeAt w A n) :
    Calls Tryz.prog 3 #[ndv n A] w fun e w' => e = .returned (.bool true) ∧ Below w.heap.size w w' := by
  have hL0 := heap_alloc_new w (.cells (ndc n A) 28)
  have hB0 := below_one w (.cells (ndc n A) 28)
  have HZN := hide (szNode n A (w.alloc (.cells (ndc n A) 28)) hz (ha.below (below_one w _)))
  have HTN := hide (fun W (hb : Below w.heap.size w W) (h : NdSz n 1048576) => toNode n A W h (ha.below hb))
  have HSP := hide (fun A' W (h : NdSz n 1048576) (ha : NodeAt W A' n) => (specKeeperNew n A' W h ha).mono (fun _ _ h => h.two))
  have HIM := hide (fun A' W (h : NdSz n 1048576) (ha : NodeAt W A' n) => (implKeeperNew n A' W h ha).mono (fun _ _ h => h.two))
  have HFN := hide (fun (h : NdSz n 1048576) => few_new h)
  unfold GivesS at HSP
  unfold GivesW at HIM
  generalize newK n = nn at *
  generalize ndOk n = ok at *
  clear ha hz
  have hokn : (ok != ok) = false := by simp
  have HB_0 := hide hB0
  have HL_0 := hide hL0
  clear hB0 hL0
  go_enter Tryz.func3, Tryz.ntmps3
  go_wp2_with fail
  refine (unhide HZN).mono ?_
  rintro e w1 ⟨z, rfl, hb1, hcase⟩
  clear HZN
  have hzw1 : w.heap.size < w1.heap.size := Nat.lt_of_lt_of_le (obj_lt (unhide HL_0)) hb1.size
  have HB_1 := hide ((unhide HB_0).trans (hb1.mono (unhide HB_0).size))
  have HL_1 := hide (obj_step (unhide HL_0) hb1)
  clear hb1 HB_0 HL_0
  obtain ⟨L0, L1, L2, L3, L4, L5, L6, L7, L8⟩ := nine (unhide HL_1)
  rcases hcase with rfl | ⟨z0, z1, hz⟩
  case' inl =>
    go_wp2_with fail
    go_ret
    exact ⟨rfl, unhide HB_1⟩
  have hzn : decide (z < 0) = false := decide_eq_false (by omega)
  have HZ := hide hz
  have HF := hide (unhide HFN hz)
  clear hz HFN
  go_wp2_with fail
  refine (unhide HTN _ (unhide HB_1) (unhide HZ)).mono ?_
  rintro e w2 ⟨A3, rfl, G3, hN3, hS3, hb2⟩
  have HB_2 := hide ((unhide HB_1).trans (hb2.mono (unhide HB_1).size))
  have HL_2 := hide (obj_step (unhide HL_1) hb2)
  have HN3 := hide hN3.at
  clear hb2 HB_1 HL_1 hN3 hS3 L0 L1 L2 L3 L4 L5 L6 L7 L8
  go_wp2_with fail
  refine (unhide HSP A3 w2 (unhide HZ) (unhide HN3)).mono ?_
  rintro e w3 ⟨S2, S1, rfl, hs2, hs1, hb3⟩
  have HB_3 := hide ((unhide HB_2).trans (hb3.mono (unhide HB_2).size))
  have HL_3 := hide (obj_step (unhide HL_2) hb3)
  have HS2_0 := hide hs2
  have HS1_0 := hide hs1
  clear hb3 HB_2 HL_2 hs2 hs1 HN3 HSP
  obtain ⟨VS, hVS⟩ : ∃ VS, IsK VS nn S2 S1 := ⟨_, rfl⟩
  rw [hVS.agg]
  have HVS := hide hVS
  clear hVS
  rename_i hKK
  refine hKK _ _ ?_
  clear hKK
  refine BigFrame.wpList_want (by rfl) (fun K hK => ?_)
  go_simp
  refine hK _ _ ?_
  clear hK K
  refine BigFrame.wpList_want (by rfl) (fun K hK => ?_)
  go_simp
  refine hK _ _ ?_
  clear hK K
  refine BigFrame.wpList_want (by rfl) (fun K hK => ?_)
  go_simp
  refine hK _ _ ?_
  clear hK K
  refine BigFrame.wpList_want (by rfl) (fun K hK => ?_)
  go_simp
  refine hK _ _ ?_
  clear hK K
  refine kStore (by rfl) (.tmp 4) (.tmp 23) rfl w3.heap.size rfl VS rfl (unhide HVS).len (unhide HVS).one (heap_alloc_new w3 _) (fun W3 hW3 hR3 => ?_)
  have hk3 : Below w3.heap.size w3 W3 := by subst hW3; exact setCells_below (Nat.le_refl _) _ _ _ _ (below_one w3 _)
  have HB_4 := hide ((unhide HB_3).trans (hk3.mono (unhide HB_3).size))
  have HL_4 := hide (obj_step (unhide HL_3) hk3)
  have HS2_1 := hide ((unhide HS2_0).below hk3)
  have HS1_1 := hide ((unhide HS1_0).below hk3)
  have HRS_0 := hide hR3
  have hg4 : w3.heap.size < W3.heap.size := hR3.l
  have hwg4 : w.heap.size < w3.heap.size := obj_lt (unhide HL_3)
  clear hW3 hR3 hk3 HB_3 HL_3 HS2_0 HS1_0
  generalize w3.heap.size = g4 at *
  obtain ⟨L0, L1, L2, L3, L4, L5, L6, L7, L8⟩ := nine (unhide HL_4)
  have HC_0 := hide (Below.refl W3.heap.size W3)
  have HSA := hide (fun W (hb : Below W3.heap.size W3 W) => And.intro ((unhide HS2_1).below hb) ((unhide HS1_1).below hb))
  have HRS := hide (fun W (hb : Below W3.heap.size W3 W) => (unhide HRS_0).below hb)
  have HLL := hide (fun W (hb : Below W3.heap.size W3 W) => obj_step (unhide HL_4) hb)
  clear HS2_1 HS1_1 HRS_0 HL_4
  go_wp2_with fail
  refine (unhide HTN _ (unhide HB_4) (unhide HZ)).mono ?_
  rintro e w4 ⟨A6, rfl, G6, hN6, hS6, hb4⟩
  have hlo6 : ∀ x ∈ G6.all n, W3.heap.size ≤ x ∧ x < w4.heap.size := hS6.rng
  have HLO6 := hide hlo6
  have HND6 := hide hS6.nodup
  have HN_0 := hide hN6
  clear hN6 hS6 hlo6 L0 L1 L2 L3 L4 L5 L6 L7 L8
  have HB_5 := hide ((unhide HB_4).trans (hb4.mono (unhide HB_4).size))
  have HC_1 := hide ((unhide HC_0).trans (hb4.mono (unhide HC_0).size))
  clear hb4 HB_4 HC_0
  go_upto_region 7 with fail
  refine wp_at (fun W4 hW4 => ?_)
  have hbw : Below w4.heap.size w4 W4 := by rw [hW4]; exact below_one w4 _
  have HX_0 : Hid (W4.heap[w4.heap.size]? = some (.cells (ndc n A6) 35 (0, 0))) := by rw [hW4]; exact heap_alloc_new _ _
  have h46 : w4.heap.size < W4.heap.size := obj_lt (unhide HX_0)
  have h34 : W3.heap.size ≤ w4.heap.size := (unhide HC_1).size
  clear hW4
  have HB_6 := hide ((unhide HB_5).trans (hbw.mono (unhide HB_5).size))
  have HC_2 := hide ((unhide HC_1).trans (hbw.mono (unhide HC_1).size))
  have HN_1 := hide (NodeW.below (unhide HN_0) hbw)
  clear hbw HB_5 HC_1 HN_0
  generalize w4.heap.size = g6 at *
  obtain ⟨X0, X1, X2, X3, X4, X5, X6, X7, X8⟩ := nine (unhide HX_0)
  go_wp2_with fail
  refine (unhide HIM A6 W4 (unhide HZ) (unhide HN_1).at).mono ?_
  rintro e w5 ⟨A2, A1, G2, G1, rfl, m2, m1, nd2, nd1, hdis, hrng, hb5⟩
  have HM2_0 := hide m2
  have HM1_0 := hide m1
  have HND2 := hide nd2
  have HND1 := hide nd1
  have HDIS := hide hdis
  have HRNG := hide hrng
  have h45 : W4.heap.size ≤ w5.heap.size := hb5.size
  have HHI := hide (show ∀ x ∈ G2.all nn ++ G1.all nn, x < w5.heap.size from fun x hx => by rcases List.mem_append.1 hx with h | h; exact all_lt m2 x h; exact all_lt m1 x h)
  clear m2 m1 nd2 nd1 hdis hrng X0 X1 X2 X3 X4 X5 X6 X7 X8
  have HB_7 := hide ((unhide HB_6).trans (hb5.mono (unhide HB_6).size))
  have HC_3 := hide ((unhide HC_2).trans (hb5.mono (unhide HC_2).size))
  have HN_2 := hide (NodeW.below (unhide HN_1) hb5)
  have HX_1 := hide (obj_step (unhide HX_0) hb5)
  clear hb5 HB_6 HC_2 HN_1 HX_0
  obtain ⟨VA, hVA⟩ : ∃ VA, IsK VA nn A2 A1 := ⟨_, rfl⟩
  rw [hVA.agg]
  have HVA := hide hVA
  clear hVA
  rename_i hKK
  refine hKK _ _ ?_
  clear hKK
  refine BigFrame.wpList_want (by rfl) (fun K hK => ?_)
  go_simp
  refine hK _ _ ?_
  clear hK K
  refine BigFrame.wpList_want (by rfl) (fun K hK => ?_)
  go_simp
  refine hK _ _ ?_
  clear hK K
  refine BigFrame.wpList_want (by rfl) (fun K hK => ?_)
  go_simp
  refine hK _ _ ?_
  clear hK K
  refine BigFrame.wpList_want (by rfl) (fun K hK => ?_)
  go_simp
  refine hK _ _ ?_
  clear hK K
  refine kStore (by rfl) (.tmp 7) (.tmp 30) rfl w5.heap.size rfl VA rfl (unhide HVA).len (unhide HVA).one (heap_alloc_new w5 _) (fun W5 hW hR => ?_)
  have hkb : Below w5.heap.size w5 W5 := by subst hW; exact setCells_below (Nat.le_refl _) _ _ _ _ (below_one w5 _)
  have HT_0 := hide hR
  have hg7 : w5.heap.size < W5.heap.size := hR.l
  clear hW hR
  have HB_8 := hide ((unhide HB_7).trans (hkb.mono (unhide HB_7).size))
  have HC_4 := hide ((unhide HC_3).trans (hkb.mono (unhide HC_3).size))
  have HN_3 := hide (NodeW.below (unhide HN_2) hkb)
  have HX_2 := hide (obj_step (unhide HX_1) hkb)
  have HM2_1 := hide (NodeW.below (unhide HM2_0) hkb)
  have HM1_1 := hide (NodeW.below (unhide HM1_0) hkb)
  clear hkb HB_7 HC_3 HN_2 HX_1 HM2_0 HM1_0
  have HEQ := hide (fun W VX B2 B1 (hV : IsK VX nn B2 B1) (hb : Below W3.heap.size W3 W) (b2 : NodeAt W B2 nn) (b1 : NodeAt W B1 nn) => show Calls Tryz.prog 8 #[.agg VX.toArray, .agg VS.toArray] W _ from by rw [← hV.agg, ← (unhide HVS).agg]; exact eqKeeper0 nn B2 B1 S2 S1 W (unhide HF) b2 b1 (unhide HSA W hb).1 (unhide HSA W hb).2)
  go_upto_region 8 with fail
  refine wp_region_list ?_
  show wpList _ _ _ [_, _, _, _, _, _, _, _, _] _ _
  refine kLoad (by rfl) (.tmp 7) rfl w5.heap.size rfl VA (unhide HVA).len (unhide HT_0) ?_
  refine kLoad (by rfl) (.tmp 4) rfl g4 rfl VS (unhide HVS).len (unhide HRS W5 (unhide HC_4)) ?_
  go_wp2_with fail
  refine (unhide HEQ W5 VA A2 A1 (unhide HVA) (unhide HC_4) (unhide HM2_1).at (unhide HM1_1).at).mono ?_
  rintro e w6 ⟨rfl, hb6⟩
  have HB_9 := hide ((unhide HB_8).trans (hb6.mono (unhide HB_8).size))
  have HC_5 := hide ((unhide HC_4).trans (hb6.mono (unhide HC_4).size))
  have HN_4 := hide (NodeW.below (unhide HN_3) hb6)
  have HX_3 := hide (obj_step (unhide HX_2) hb6)
  have HM2_2 := hide (NodeW.below (unhide HM2_1) hb6)
  have HM1_2 := hide (NodeW.below (unhide HM1_1) hb6)
  have HT_1 := hide ((unhide HT_0).below hb6)
  clear hb6 HB_8 HC_4 HN_3 HX_2 HM2_1 HM1_1 HT_0
  go_upto_region 10 with fail
  obtain ⟨q0, q1, q2, q3, q4, q5, q6, q7, q8⟩ := nine (unhide HX_3)
  obtain ⟨r0, r1, r2, r3, r4, r5, r6, r7, r8⟩ := nine (unhide HLL w6 (unhide HC_5))
  have yq0 := cell_regrown q0
  have yq1 := cell_regrown q1
  have yq2 := cell_regrown q2
  have yq3 := cell_regrown q3
  have yq4 := cell_regrown q4
  have yq5 := cell_regrown q5
  have yq6 := cell_regrown q6
  have yq7 := cell_regrown q7
  have yq8 := cell_regrown q8
  have yr0 := cell_regrown r0
  have yr1 := cell_regrown r1
  have yr2 := cell_regrown r2
  have yr3 := cell_regrown r3
  have yr4 := cell_regrown r4
  have yr5 := cell_regrown r5
  have yr6 := cell_regrown r6
  have yr7 := cell_regrown r7
  have yr8 := cell_regrown r8
  clear q0 q1 q2 q3 q4 q5 q6 q7 q8 r0 r1 r2 r3 r4 r5 r6 r7 r8
  refine wp_region_mix (by kernel_rfl) ?_
  show wpMix _ _ _ _ 5 (Array.replicate 5 false) _ _
  refine wpMix_take 0 rfl (by kernel_rfl) (by kernel_rfl) (by kernel_rfl) (fun _ _ _ _ h => h) (fun K hK => ?_)
  go_simp
  first
    | (refine hK _ ?_; clear hK K)
    | (apply Exists.intro
       refine ⟨fun _ => ?_, hK _ ?_⟩
       (rfl)
       clear hK K)
  refine wpMix_take 1 rfl (by kernel_rfl) (by kernel_rfl) (by kernel_rfl) (fun _ _ _ _ h => h) (fun K hK => ?_)
  go_simp
  first
    | (refine hK _ ?_; clear hK K)
    | (apply Exists.intro
       refine ⟨fun _ => ?_, hK _ ?_⟩
       (rfl)
       clear hK K)
  clear yq0 yq1 yq2 yq3 yq4 yq5 yq6 yq7 yq8 yr0 yr1 yr2 yr3 yr4 yr5 yr6 yr7 yr8
  refine wpMix_one 2 rfl (by kernel_rfl) (by rfl) (fun x2 hx2 => ?_)
  go_simp
  have HB_10 := hide ((unhide HB_9).trans (hx2.mono (unhide HB_9).size))
  have HC_6 := hide ((unhide HC_5).trans (hx2.mono (unhide HC_5).size))
  have HN_5 := hide (NodeW.below (unhide HN_4) hx2)
  have HX_4 := hide (obj_step (unhide HX_3) hx2)
  have HM2_3 := hide (NodeW.below (unhide HM2_2) hx2)
  have HM1_3 := hide (NodeW.below (unhide HM1_2) hx2)
  have HT_2 := hide ((unhide HT_1).below hx2)
  clear hx2 HB_9 HC_5 HN_4 HX_3 HM2_2 HM1_2 HT_1
  refine (unhide HTN _ (unhide HB_10) (unhide HZ)).mono ?_
  rintro e w7 ⟨A7, rfl, G7, hN7, _, hb7⟩
  refine ⟨hb7, ?_⟩
  have HN7 := hide hN7.at
  clear hN7
  have HB_11 := hide ((unhide HB_10).trans (hb7.mono (unhide HB_10).size))
  have HC_7 := hide ((unhide HC_6).trans (hb7.mono (unhide HC_6).size))
  have HN_6 := hide (NodeW.below (unhide HN_5) hb7)
  have HX_5 := hide (obj_step (unhide HX_4) hb7)
  have HM2_4 := hide (NodeW.below (unhide HM2_3) hb7)
  have HM1_4 := hide (NodeW.below (unhide HM1_3) hb7)
  have HT_3 := hide ((unhide HT_2).below hb7)
  clear hb7 HB_10 HC_6 HN_5 HX_4 HM2_3 HM1_3 HT_2
  refine wpMix_one 3 rfl (by kernel_rfl) (by rfl) (fun x3 hx3 => ?_)
  go_simp
  have HN7b := hide ((unhide HN7).below hx3)
  clear HN7
  have HB_12 := hide ((unhide HB_11).trans (hx3.mono (unhide HB_11).size))
  have HC_8 := hide ((unhide HC_7).trans (hx3.mono (unhide HC_7).size))
  have HN_7 := hide (NodeW.below (unhide HN_6) hx3)
  have HX_6 := hide (obj_step (unhide HX_5) hx3)
  have HM2_5 := hide (NodeW.below (unhide HM2_4) hx3)
  have HM1_5 := hide (NodeW.below (unhide HM1_4) hx3)
  have HT_4 := hide ((unhide HT_3).below hx3)
  clear hx3 HB_11 HC_7 HN_6 HX_5 HM2_4 HM1_4 HT_3
  refine (eqNode n A6 A7 x3 ((unhide HZ).mono (by omega)) (unhide HN_7).at (unhide HN7b)).mono ?_
  rintro e w8 ⟨rfl, hb8⟩
  refine ⟨hb8, ?_⟩
  clear HN7b
  have HB_13 := hide ((unhide HB_12).trans (hb8.mono (unhide HB_12).size))
  have HC_9 := hide ((unhide HC_8).trans (hb8.mono (unhide HC_8).size))
  have HN_8 := hide (NodeW.below (unhide HN_7) hb8)
  have HX_7 := hide (obj_step (unhide HX_6) hb8)
  have HM2_6 := hide (NodeW.below (unhide HM2_5) hb8)
  have HM1_6 := hide (NodeW.below (unhide HM1_5) hb8)
  have HT_5 := hide ((unhide HT_4).below hb8)
  clear hb8 HB_12 HC_8 HN_7 HX_6 HM2_5 HM1_5 HT_4
  refine wpMix_take 4 rfl (by kernel_rfl) (by kernel_rfl) (by kernel_rfl) (fun _ _ _ _ h => h) (fun K hK => ?_)
  go_simp
  first
    | (refine hK _ ?_; clear hK K)
    | (apply Exists.intro
       refine ⟨fun _ => ?_, hK _ ?_⟩
       (rfl)
       clear hK K)
  refine wpMix_done (by kernel_rfl) (fun w9 hb9 => ?_)
  have HB_14 := hide ((unhide HB_13).trans (hb9.mono (unhide HB_13).size))
  have HC_10 := hide ((unhide HC_9).trans (hb9.mono (unhide HC_9).size))
  have HN_9 := hide (NodeW.below (unhide HN_8) hb9)
  have HX_8 := hide (obj_step (unhide HX_7) hb9)
  have HM2_7 := hide (NodeW.below (unhide HM2_6) hb9)
  have HM1_7 := hide (NodeW.below (unhide HM1_6) hb9)
  have HT_6 := hide ((unhide HT_5).below hb9)
  clear hb9 HB_13 HC_9 HN_8 HX_7 HM2_6 HM1_6 HT_5
  obtain ⟨X0, X1, X2, X3, X4, X5, X6, X7, X8⟩ := nine (unhide HX_8)
  go_wp2_with fail
  refine (markNodeK 1 (by omega) (by omega) n A6 G6 w9 ((unhide HZ).mono (by omega)) (unhide HND6) (unhide HN_9)).mono ?_
  rintro e wa ⟨rfl, _, hk⟩
  have hba : Below W3.heap.size w9 wa := ⟨hk.os, hk.tape, hk.output, hk.size, fun x hx => hk.block x (by have := (unhide HC_10).size; omega) (fun hm => by have := (unhide HLO6 x hm).1; omega)⟩
  have HB_15 := hide ((unhide HB_14).trans (hba.mono (by omega)))
  have HC_11 := hide ((unhide HC_10).trans hba)
  have HM2_8 := hide (NodeW.keeps (unhide HM2_7) hk (fun x hx hm => by have := (unhide HLO6 x hm).2; have := unhide HRNG x (List.mem_append.2 (.inl hx)); omega))
  have HM1_8 := hide (NodeW.keeps (unhide HM1_7) hk (fun x hx hm => by have := (unhide HLO6 x hm).2; have := unhide HRNG x (List.mem_append.2 (.inr hx)); omega))
  have HT_7 := hide (KR.keeps (unhide HT_6) hk (fun hm => by have := (unhide HLO6 _ hm).2; omega))
  have gE : decide (((eNodeK 1 n : Nat) : Int) < 0) = false := by simp
  clear hk hba HB_14 HC_10 HM2_7 HM1_7 HT_6 HN_9 HX_8 X0 X1 X2 X3 X4 X5 X6 X7 X8 HND6
  go_upto_region 14 with fail
  refine wp_region_list ?_
  show wpList _ _ _ [_, _, _, _, _, _, _, _, _, _, _, _, _] _ _
  refine BigFrame.wpList_want (by rfl) (fun K hK => ?_)
  go_simp
  refine hK _ _ ?_
  clear hK K
  refine BigFrame.wpList_want (by rfl) (fun K hK => ?_)
  go_simp
  refine hK _ _ ?_
  clear hK K
  refine BigFrame.wpList_want (by rfl) (fun K hK => ?_)
  go_simp
  refine hK _ _ ?_
  clear hK K
  refine kLoad (by rfl) (.tmp 7) rfl w5.heap.size rfl VA (unhide HVA).len (unhide HT_7) ?_
  refine kLoad (by rfl) (.tmp 4) rfl g4 rfl VS (unhide HVS).len (unhide HRS wa (unhide HC_11)) ?_
  go_wp2_with fail
  refine (unhide HEQ wa VA A2 A1 (unhide HVA) (unhide HC_11) (unhide HM2_8).at (unhide HM1_8).at).mono ?_
  rintro e wb ⟨rfl, hbb⟩
  have HB_16 := hide ((unhide HB_15).trans (hbb.mono (unhide HB_15).size))
  have HC_12 := hide ((unhide HC_11).trans (hbb.mono (unhide HC_11).size))
  have HM2_9 := hide (NodeW.below (unhide HM2_8) hbb)
  have HM1_9 := hide (NodeW.below (unhide HM1_8) hbb)
  have HT_8 := hide ((unhide HT_7).below hbb)
  clear hbb HB_15 HC_11 HM2_8 HM1_8 HT_7
  go_upto_region 17 with fail
  refine wp_region_list ?_
  show wpList _ _ _ [_, _, _, _] _ _
  refine kLoad (by rfl) (.tmp 7) rfl w5.heap.size rfl VA (unhide HVA).len (unhide HT_8) ?_
  have HMK := hide (markKeeper0 nn A2 A1 G2 G1 wb (unhide HF) (unhide HND2) (unhide HND1) (unhide HDIS) (unhide HM2_9) (unhide HM1_9))
  rw [(unhide HVA).agg] at HMK
  go_wp2_with fail
  refine (unhide HMK).mono ?_
  rintro e wc ⟨rfl, hW, hk⟩
  have HW_0 := hide hW
  have hbc : Below W3.heap.size wb wc := ⟨hk.os, hk.tape, hk.output, hk.size, fun x hx => hk.block x (by have := (unhide HC_12).size; omega) (fun hm => by have := unhide HRNG x hm; omega)⟩
  have HB_17 := hide ((unhide HB_16).trans (hbc.mono (by omega)))
  have HC_13 := hide ((unhide HC_12).trans hbc)
  have HT_9 := hide (KR.keeps (unhide HT_8) hk (fun hm => by have := unhide HHI _ hm; omega))
  clear hW hk hbc HMK HB_16 HC_12 HM2_9 HM1_9 HT_8
  have HHK := hide (fun W (h : TwoW W nn A2 A1 G2 G1 1 (eNodeK 1 nn)) => show Calls Tryz.prog 12 #[.agg VA.toArray, .int .i64 1] W _ from by rw [← (unhide HVA).agg]; exact heldKeeper0 nn A2 A1 G2 G1 W (unhide HF) h)
  have gE2 : decide (((eNodeK (eNodeK 1 nn) nn : Nat) : Int) < 0) = false := by simp
  generalize eNodeK (eNodeK 1 nn) nn = E at *
  have gE3 : (((E : Nat) : Int) != ((E : Nat) : Int)) = false := by simp
  go_upto_region 19 with fail
  refine wp_region_list ?_
  show wpList _ _ _ [_, _, _, _] _ _
  refine kLoad (by rfl) (.tmp 7) rfl w5.heap.size rfl VA (unhide HVA).len (unhide HT_9) ?_
  go_wp2_with fail
  refine (unhide HHK wc (unhide HW_0)).mono ?_
  rintro e wd ⟨rfl, hbd⟩
  have HB_18 := hide ((unhide HB_17).trans (hbd.mono (unhide HB_17).size))
  have HC_14 := hide ((unhide HC_13).trans (hbd.mono (unhide HC_13).size))
  have HT_10 := hide ((unhide HT_9).below hbd)
  have HW_1 := hide (TwoW.below (unhide HW_0) hbd)
  clear hbd HB_17 HC_13 HT_9 HW_0
  obtain ⟨L0, L1, L2, L3, L4, L5, L6, L7, L8⟩ := nine (unhide HLL wd (unhide HC_14))
  go_wp2_with fail
  refine (unhide HTN _ (unhide HB_18) (unhide HZ)).mono ?_
  rintro e we ⟨A9, rfl, G9, hN9, _, hbe⟩
  have HN9 := hide hN9.at
  clear hN9 L0 L1 L2 L3 L4 L5 L6 L7 L8
  have HB_19 := hide ((unhide HB_18).trans (hbe.mono (unhide HB_18).size))
  have HC_15 := hide ((unhide HC_14).trans (hbe.mono (unhide HC_14).size))
  have HT_11 := hide ((unhide HT_10).below hbe)
  have HW_2 := hide (TwoW.below (unhide HW_1) hbe)
  clear hbe HB_18 HC_14 HT_10 HW_1
  go_wp2_with fail
  refine (unhide HIM A9 we (unhide HZ) (unhide HN9)).mono ?_
  rintro e wf ⟨B2, B1, G2', G1', rfl, b2, b1, xx1, xx2, xx3, xx4, hbf⟩
  have HH2_0 := hide b2
  have HH1_0 := hide b1
  clear b2 b1 HN9 xx1 xx2 xx3 xx4
  have HB_20 := hide ((unhide HB_19).trans (hbf.mono (unhide HB_19).size))
  have HC_16 := hide ((unhide HC_15).trans (hbf.mono (unhide HC_15).size))
  have HT_12 := hide ((unhide HT_11).below hbf)
  have HW_3 := hide (TwoW.below (unhide HW_2) hbf)
  clear hbf HB_19 HC_15 HT_11 HW_2
  obtain ⟨VH, hVH⟩ : ∃ VH, IsK VH nn B2 B1 := ⟨_, rfl⟩
  rw [hVH.agg]
  have HVH := hide hVH
  clear hVH
  rename_i hKK
  refine hKK _ _ ?_
  clear hKK
  refine BigFrame.wpList_want (by rfl) (fun K hK => ?_)
  go_simp
  refine hK _ _ ?_
  clear hK K
  refine BigFrame.wpList_want (by rfl) (fun K hK => ?_)
  go_simp
  refine hK _ _ ?_
  clear hK K
  refine BigFrame.wpList_want (by rfl) (fun K hK => ?_)
  go_simp
  refine hK _ _ ?_
  clear hK K
  refine BigFrame.wpList_want (by rfl) (fun K hK => ?_)
  go_simp
  refine hK _ _ ?_
  clear hK K
  refine kStore (by rfl) (.tmp 12) (.tmp 77) rfl wf.heap.size rfl VH rfl (unhide HVH).len (unhide HVH).one (heap_alloc_new wf _) (fun Wg hW hR => ?_)
  have hkb : Below wf.heap.size wf Wg := by subst hW; exact setCells_below (Nat.le_refl _) _ _ _ _ (below_one wf _)
  have HU_0 := hide hR
  have HH2 := hide (NodeW.below (unhide HH2_0) hkb).at
  have HH1 := hide (NodeW.below (unhide HH1_0) hkb).at
  clear hW hR HH2_0 HH1_0
  have HB_21 := hide ((unhide HB_20).trans (hkb.mono (unhide HB_20).size))
  have HC_17 := hide ((unhide HC_16).trans (hkb.mono (unhide HC_16).size))
  have HT_13 := hide ((unhide HT_12).below hkb)
  have HW_4 := hide (TwoW.below (unhide HW_3) hkb)
  clear hkb HB_20 HC_16 HT_12 HW_3
  go_upto_region 25 with fail
  refine wp_region_list ?_
  show wpList _ _ _ [_, _, _, _, _, _, _, _, _] _ _
  refine kLoad (by rfl) (.tmp 12) rfl wf.heap.size rfl VH (unhide HVH).len (unhide HU_0) ?_
  refine kLoad (by rfl) (.tmp 4) rfl g4 rfl VS (unhide HVS).len (unhide HRS Wg (unhide HC_17)) ?_
  go_wp2_with fail
  refine (unhide HEQ Wg VH B2 B1 (unhide HVH) (unhide HC_17) (unhide HH2) (unhide HH1)).mono ?_
  rintro e wh ⟨rfl, hbh⟩
  have HB_22 := hide ((unhide HB_21).trans (hbh.mono (unhide HB_21).size))
  have HC_18 := hide ((unhide HC_17).trans (hbh.mono (unhide HC_17).size))
  have HT_14 := hide ((unhide HT_13).below hbh)
  have HW_5 := hide (TwoW.below (unhide HW_4) hbh)
  clear hbh HB_21 HC_17 HT_13 HW_4
  go_upto_region 28 with fail
  refine wp_region_list ?_
  show wpList _ _ _ [_, _, _, _] _ _
  refine kLoad (by rfl) (.tmp 7) rfl w5.heap.size rfl VA (unhide HVA).len (unhide HT_14) ?_
  go_wp2_with fail
  refine (unhide HHK wh (unhide HW_5)).mono ?_
  rintro e wi ⟨rfl, hbi⟩
  have HB_23 := hide ((unhide HB_22).trans (hbi.mono (unhide HB_22).size))
  clear hbi HB_22
  go_wp2_with fail
  go_ret
  exact ⟨rfl, unhide HB_23⟩
end Go.Proofs.YtcfcngbfnflbgaaGreatDoor
