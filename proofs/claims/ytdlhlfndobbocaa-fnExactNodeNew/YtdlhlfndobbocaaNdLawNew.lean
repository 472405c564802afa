/-
  The law FnExactNodeNew at a list of kids that lies in memory.
-/
import Derived.Test.YtdlhlfndobbocaaNdNewS
import Derived.Test.YtdlhlfndobbocaaNdMarkN
import Derived.Test.YtdlhlfndobbocaaNdOpen
namespace Go.Proofs.Ytdlhlfndobbocaa
open Go.RowKit
open Mth

theorem newN_sz {id par : Int} {kids : List Int} (h : kids.length ≤ 1048576) : NdSz (newN id par kids).1 1048600 := by
  unfold newN
  split
  · refine sz_new (by omega) ?_
    rw [srt_length]
    unfold nbrs nnode
    dsimp only
    split <;> simp <;> omega
  · exact ⟨by simp [zeroNd], by simp [zeroNd], by simp [zeroNd], by simp [zeroNd], by simp [zeroNd], fun x hx => by simp [zeroNd] at hx, fun x hx => by simp [zeroNd] at hx, fun x hx => by simp [zeroNd] at hx, fun x hx => by simp [zeroNd] at hx⟩
set_option maxRecDepth 100000 in
set_option maxHeartbeats 8000000 in
theorem fnExactNodeNew_walk (id par : Int) (a : Option Addr) (cap : Nat) (kids : List Int) (hm : kids.length ≤ maxLen) (w : World) (ha : IntsAt w a kids) :
    Calls Try.prog 4 #[.int .i64 id, .int .i64 par, .slice a kids.length cap] w fun e w' => e = .returned (.bool true) ∧ Below w.heap.size w w' := by
  unfold maxLen at hm
  by_cases hl : kids.length ≤ 1048576
  case' neg =>
    have hg : decide ((1048576 : Int) < kids.length) = true := decide_eq_true (by omega)
    clear ha
    go_enter Try.func4, Try.ntmps4
    go_wp2_with fail
    go_ret
    exact ⟨rfl, Below.refl _ _⟩
  have hg : decide ((1048576 : Int) < kids.length) = false := decide_eq_false (by omega)
  have HTO := hide (fun W (hb : Below w.heap.size w W) => toIntS a cap kids W hl (GR.At.below ha hb))
  have HSP := hide (fun g W (h : intBlk W g kids) => specNodeNew id par (some ⟨g, 0, none⟩) kids.length kids W hl (fun h => by cases h) (GR.Blk.at h encNum_length))
  have HIM := hide (fun g W (h : intBlk W g kids) => implNodeNew id par (some ⟨g, 0, none⟩) kids.length kids W hl (GR.Blk.at h encNum_length))
  have HSZ := hide (newN_sz (id := id) (par := par) hl)
  generalize newN id par kids = RN at *
  obtain ⟨n, ok⟩ := RN
  dsimp only at HSZ
  unfold GivesN at HSP HIM
  dsimp only at HSP HIM
  have hokn : (ok != ok) = false := by simp
  clear ha
  go_enter Try.func4, Try.ntmps4
  go_wp2_with fail
  refine (unhide HTO _ (Below.refl _ _)).mono ?_
  rintro e w1 ⟨rfl, hblk1, hb1⟩
  have HB_0 := hide hb1
  have HS1 := hide (unhide HSP _ _ hblk1)
  have hz1 : w.heap.size < w1.heap.size := obj_lt hblk1
  clear hblk1 hb1
  go_wp2_with fail
  refine (unhide HS1).mono ?_
  rintro e w2 ⟨A2, rfl, G2, hN2, hP2, hb2⟩
  have HZ2 := hide hb2.size
  have HB_1 := hide ((unhide HB_0).trans (hb2.mono (unhide HB_0).size))
  clear hb2 HB_0
  have HN_0 := hide (hN2)
  have HP2 := hide hP2
  have hz2 : w1.heap.size ≤ w2.heap.size := unhide HZ2
  clear hN2 hP2 HS1
  go_upto_region 4 with fail
  refine wp_at (fun W2 hW2 => ?_)
  have hbw : Below w2.heap.size w2 W2 := by rw [hW2]; exact below_one w2 _
  have hO7 : W2.heap[w2.heap.size]? = some (.cells (ndc n A2) 36 (0, 0)) := by rw [hW2]; exact heap_alloc_new _ _
  have hz2' : w2.heap.size < W2.heap.size := obj_lt hO7
  clear hW2
  have HB_2 := hide ((unhide HB_1).trans (hbw.mono (unhide HB_1).size))
  have HN_1 := hide (NodeW.below (unhide HN_0) hbw)
  clear hbw HB_1 HN_0
  have HS_0 := hide (hO7)
  clear hO7
  go_wp2_with fail
  refine (unhide HTO _ (unhide HB_2)).mono ?_
  rintro e w3 ⟨rfl, hblk3, hb3⟩
  have hz3 : W2.heap.size < w3.heap.size := obj_lt hblk3
  have HI3 := hide (unhide HIM _ _ hblk3)
  have HB_3 := hide ((unhide HB_2).trans (hb3.mono (unhide HB_2).size))
  have HN_2 := hide (NodeW.below (unhide HN_1) hb3)
  have HS_1 := hide (obj_step (unhide HS_0) hb3)
  clear hb3 HB_2 HN_1 HS_0
  have HX_0 := hide (hblk3)
  clear hblk3
  go_wp2_with fail
  refine (unhide HI3).mono ?_
  rintro e w4 ⟨A4, rfl, G4, hN4, hP4, hb4⟩
  have hz4 : w3.heap.size ≤ w4.heap.size := hb4.size
  have HP4 := hide hP4
  have HB_4 := hide ((unhide HB_3).trans (hb4.mono (unhide HB_3).size))
  have HN_3 := hide (NodeW.below (unhide HN_2) hb4)
  have HS_2 := hide (obj_step (unhide HS_1) hb4)
  have HX_1 := hide (obj_step (unhide HX_0) hb4)
  clear hb4 HB_3 HN_2 HS_1 HX_0
  have HM_0 := hide (hN4)
  clear hN4 hP4 HI3
  go_upto_region 6 with fail
  refine wp_at (fun W4 hW4 => ?_)
  have hbw : Below w4.heap.size w4 W4 := by rw [hW4]; exact below_one w4 _
  have hO10 : W4.heap[w4.heap.size]? = some (.cells (ndc n A4) 36 (0, 0)) := by rw [hW4]; exact heap_alloc_new _ _
  have hz4' : w4.heap.size < W4.heap.size := obj_lt hO10
  clear hW4
  have HB_5 := hide ((unhide HB_4).trans (hbw.mono (unhide HB_4).size))
  have HN_4 := hide (NodeW.below (unhide HN_3) hbw)
  have HS_3 := hide (obj_step (unhide HS_2) hbw)
  have HX_2 := hide (obj_step (unhide HX_1) hbw)
  have HM_1 := hide (NodeW.below (unhide HM_0) hbw)
  clear hbw HB_4 HN_3 HS_2 HX_1 HM_0
  have HT_0 := hide (hO10)
  clear hO10
  obtain ⟨S0, S1, S2, S3, S4, S5, S6, S7, S8⟩ := nine (unhide HS_3)
  obtain ⟨T0, T1, T2, T3, T4, T5, T6, T7, T8⟩ := nine (unhide HT_0)
  go_wp2_with fail
  refine (eqNode n A4 A2 _ (unhide HSZ) (unhide HM_1).at (unhide HN_4).at).mono ?_
  rintro e w5 ⟨rfl, hb5⟩
  clear S0 S1 S2 S3 S4 S5 S6 S7 S8
  clear T0 T1 T2 T3 T4 T5 T6 T7 T8
  have HB_6 := hide ((unhide HB_5).trans (hb5.mono (unhide HB_5).size))
  have HN_5 := hide (NodeW.below (unhide HN_4) hb5)
  have HS_4 := hide (obj_step (unhide HS_3) hb5)
  have HX_3 := hide (obj_step (unhide HX_2) hb5)
  have HM_2 := hide (NodeW.below (unhide HM_1) hb5)
  have HT_1 := hide (obj_step (unhide HT_0) hb5)
  clear hb5 HB_5 HN_4 HS_3 HX_2 HM_1 HT_0
  go_wp2_with fail
  refine (unhide HTO _ (unhide HB_6)).mono ?_
  rintro e w6 ⟨rfl, hblk6, hb6⟩
  have HK6 := hide hblk6
  have HB_7 := hide ((unhide HB_6).trans (hb6.mono (unhide HB_6).size))
  have HN_6 := hide (NodeW.below (unhide HN_5) hb6)
  have HS_5 := hide (obj_step (unhide HS_4) hb6)
  have HX_4 := hide (obj_step (unhide HX_3) hb6)
  have HM_3 := hide (NodeW.below (unhide HM_2) hb6)
  have HT_2 := hide (obj_step (unhide HT_1) hb6)
  clear hb6 HB_6 HN_5 HS_4 HX_3 HM_2 HT_1
  clear hblk6
  go_wp2_with fail
  refine (eqIntS _ _ _ _ kids _ (by omega) (GR.Blk.at (unhide HX_4) encNum_length) (GR.Blk.at (unhide HK6) encNum_length)).mono ?_
  rintro e w7 ⟨rfl, hb7⟩
  have HB_8 := hide ((unhide HB_7).trans (hb7.mono (unhide HB_7).size))
  have HN_7 := hide (NodeW.below (unhide HN_6) hb7)
  have HS_6 := hide (obj_step (unhide HS_5) hb7)
  have HX_5 := hide (obj_step (unhide HX_4) hb7)
  have HM_4 := hide (NodeW.below (unhide HM_3) hb7)
  have HT_3 := hide (obj_step (unhide HT_2) hb7)
  clear hb7 HB_7 HN_6 HS_5 HX_4 HM_3 HT_2
  go_wp2_with fail
  refine (markIntZ _ W2.heap.size _ 1 _ kids _ (by omega) (by omega) (by omega) (by omega) (GR.W.of_blk encNum_length (unhide HX_5))).mono ?_
  rintro e w8 ⟨rfl, _, hk8⟩
  have HB_9 := hide ((unhide HB_8).trans (hk8.below (fun x hx => by have := (of_fp hx).1; omega) (unhide HB_8).size))
  have HN_8 := hide (NodeW.keeps (unhide HN_7) hk8 (fun x hx hx2 => by have h1 := (unhide HP2).rng x hx; have h2 := (of_fp hx2).1; omega))
  have HS_7 := hide (hk8.obj (unhide HS_6) (fun hx => by have := (of_fp hx).1; omega))
  have HM_5 := hide (NodeW.keeps (unhide HM_4) hk8 (fun x hx hx2 => by have h1 := (unhide HP4).rng x hx; have h2 := (of_fp hx2).1; omega))
  have HT_4 := hide (hk8.obj (unhide HT_3) (fun hx => by have := (of_fp hx).1; omega))
  have hpos1 : decide (((1 : Nat) : Int) + (kids.length : Int) < 0) = false := decide_eq_false (by omega)
  have hpos1' : decide ((1 : Int) + (kids.length : Int) < 0) = false := decide_eq_false (by omega)
  clear hk8 HB_8 HN_7 HS_6 HM_4 HT_3
  obtain ⟨S0, S1, S2, S3, S4, S5, S6, S7, S8⟩ := nine (unhide HS_7)
  obtain ⟨T0, T1, T2, T3, T4, T5, T6, T7, T8⟩ := nine (unhide HT_4)
  go_wp2_with fail
  refine (eqNode n A4 A2 _ (unhide HSZ) (unhide HM_5).at (unhide HN_8).at).mono ?_
  rintro e w9 ⟨rfl, hb9⟩
  clear S0 S1 S2 S3 S4 S5 S6 S7 S8
  clear T0 T1 T2 T3 T4 T5 T6 T7 T8
  have HB_10 := hide ((unhide HB_9).trans (hb9.mono (unhide HB_9).size))
  have HN_9 := hide (NodeW.below (unhide HN_8) hb9)
  have HS_8 := hide (obj_step (unhide HS_7) hb9)
  have HM_6 := hide (NodeW.below (unhide HM_5) hb9)
  have HT_5 := hide (obj_step (unhide HT_4) hb9)
  clear hb9 HB_9 HN_8 HS_7 HM_5 HT_4
  obtain ⟨T0, T1, T2, T3, T4, T5, T6, T7, T8⟩ := nine (unhide HT_5)
  go_wp2_with fail
  refine (markNodeG n A4 G4 _ (unhide HSZ) (unhide HP4).nodup (unhide HM_6)).mono ?_
  rintro e w10 ⟨rfl, hM10, hk10⟩
  clear T0 T1 T2 T3 T4 T5 T6 T7 T8
  have HB_11 := hide ((unhide HB_10).trans (hk10.below (fun x hx => by have := (unhide HP4).rng x hx; have := (unhide HB_10).size; omega) (unhide HB_10).size))
  have HN_10 := hide (NodeW.keeps (unhide HN_9) hk10 (fun x hx hx2 => by have h1 := (unhide HP2).rng x hx; have h2 := (unhide HP4).rng x hx2; omega))
  have HS_9 := hide (hk10.obj (unhide HS_8) (fun hx => by have := (unhide HP4).rng _ hx; omega))
  have HT_6 := hide (hk10.obj (unhide HT_5) (fun hx => by have := (unhide HP4).rng _ hx; omega))
  have HM_7 := hide hM10
  clear hk10 hM10 HM_6 HB_10 HN_9 HS_8 HT_5
  obtain ⟨T0, T1, T2, T3, T4, T5, T6, T7, T8⟩ := nine (unhide HT_6)
  have hpos2 : decide ((eNode n : Int) < 0) = false := decide_eq_false (by omega)
  have hpos3 : ((eNode n : Int) != (eNode n : Int)) = false := by simp
  go_wp2_with fail
  refine (heldNodeG n A4 G4 _ (unhide HSZ) (unhide HM_7)).mono ?_
  rintro e w11 ⟨rfl, hb11⟩
  clear T0 T1 T2 T3 T4 T5 T6 T7 T8
  have HB_12 := hide ((unhide HB_11).trans (hb11.mono (unhide HB_11).size))
  have HN_11 := hide (NodeW.below (unhide HN_10) hb11)
  have HS_10 := hide (obj_step (unhide HS_9) hb11)
  have HT_7 := hide (obj_step (unhide HT_6) hb11)
  have HM_8 := hide (NodeW.below (unhide HM_7) hb11)
  clear hb11 HB_11 HN_10 HS_9 HT_6 HM_7
  go_wp2_with fail
  refine (unhide HTO _ (unhide HB_12)).mono ?_
  rintro e w12 ⟨rfl, hblk12, hb12⟩
  have HI12 := hide (unhide HIM _ _ hblk12)
  have HB_13 := hide ((unhide HB_12).trans (hb12.mono (unhide HB_12).size))
  have HN_12 := hide (NodeW.below (unhide HN_11) hb12)
  have HS_11 := hide (obj_step (unhide HS_10) hb12)
  have HT_8 := hide (obj_step (unhide HT_7) hb12)
  have HM_9 := hide (NodeW.below (unhide HM_8) hb12)
  clear hb12 HB_12 HN_11 HS_10 HT_7 HM_8
  clear hblk12
  go_wp2_with fail
  refine (unhide HI12).mono ?_
  rintro e w13 ⟨A13, rfl, G13, hN13, _, hb13⟩
  have HB_14 := hide ((unhide HB_13).trans (hb13.mono (unhide HB_13).size))
  have HN_13 := hide (NodeW.below (unhide HN_12) hb13)
  have HS_12 := hide (obj_step (unhide HS_11) hb13)
  have HT_9 := hide (obj_step (unhide HT_8) hb13)
  have HM_10 := hide (NodeW.below (unhide HM_9) hb13)
  clear hb13 HB_13 HN_12 HS_11 HT_8 HM_9
  have HQ_0 := hide (hN13)
  clear hN13 HI12
  go_upto_region 23 with fail
  refine wp_at (fun W13 hW13 => ?_)
  have hbw : Below w13.heap.size w13 W13 := by rw [hW13]; exact below_one w13 _
  have hO15 : W13.heap[w13.heap.size]? = some (.cells (ndc n A13) 36 (0, 0)) := by rw [hW13]; exact heap_alloc_new _ _
  clear hW13
  have HB_15 := hide ((unhide HB_14).trans (hbw.mono (unhide HB_14).size))
  have HN_14 := hide (NodeW.below (unhide HN_13) hbw)
  have HS_13 := hide (obj_step (unhide HS_12) hbw)
  have HT_10 := hide (obj_step (unhide HT_9) hbw)
  have HM_11 := hide (NodeW.below (unhide HM_10) hbw)
  have HQ_1 := hide (NodeW.below (unhide HQ_0) hbw)
  clear hbw HB_14 HN_13 HS_12 HT_9 HM_10 HQ_0
  have HU_0 := hide (hO15)
  clear hO15
  obtain ⟨S0, S1, S2, S3, S4, S5, S6, S7, S8⟩ := nine (unhide HS_13)
  obtain ⟨U0, U1, U2, U3, U4, U5, U6, U7, U8⟩ := nine (unhide HU_0)
  go_wp2_with fail
  refine (eqNode n A13 A2 _ (unhide HSZ) (unhide HQ_1).at (unhide HN_14).at).mono ?_
  rintro e w14 ⟨rfl, hb14⟩
  clear S0 S1 S2 S3 S4 S5 S6 S7 S8
  clear U0 U1 U2 U3 U4 U5 U6 U7 U8
  have HB_16 := hide ((unhide HB_15).trans (hb14.mono (unhide HB_15).size))
  have HN_15 := hide (NodeW.below (unhide HN_14) hb14)
  have HS_14 := hide (obj_step (unhide HS_13) hb14)
  have HT_11 := hide (obj_step (unhide HT_10) hb14)
  have HM_12 := hide (NodeW.below (unhide HM_11) hb14)
  have HQ_2 := hide (NodeW.below (unhide HQ_1) hb14)
  have HU_1 := hide (obj_step (unhide HU_0) hb14)
  clear hb14 HB_15 HN_14 HS_13 HT_10 HM_11 HQ_1 HU_0
  obtain ⟨T0, T1, T2, T3, T4, T5, T6, T7, T8⟩ := nine (unhide HT_11)
  go_wp2_with fail
  refine (heldNodeG n A4 G4 _ (unhide HSZ) (unhide HM_12)).mono ?_
  rintro e w15 ⟨rfl, hb15⟩
  clear T0 T1 T2 T3 T4 T5 T6 T7 T8
  have HB_17 := hide ((unhide HB_16).trans (hb15.mono (unhide HB_16).size))
  have HN_16 := hide (NodeW.below (unhide HN_15) hb15)
  have HS_15 := hide (obj_step (unhide HS_14) hb15)
  have HT_12 := hide (obj_step (unhide HT_11) hb15)
  have HM_13 := hide (NodeW.below (unhide HM_12) hb15)
  have HQ_3 := hide (NodeW.below (unhide HQ_2) hb15)
  have HU_2 := hide (obj_step (unhide HU_1) hb15)
  clear hb15 HB_16 HN_15 HS_14 HT_11 HM_12 HQ_2 HU_1
  go_wp2_with fail
  go_ret
  exact ⟨rfl, unhide HB_17⟩
end Go.Proofs.Ytdlhlfndobbocaa
