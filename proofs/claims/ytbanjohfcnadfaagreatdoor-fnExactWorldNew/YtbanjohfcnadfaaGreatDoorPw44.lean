/- Parts. -/
import Derived.Test.YtbanjohfcnadfaaGreatDoorPw39
import Derived.Test.YtbanjohfcnadfaaGreatDoorPw40
import Derived.Test.YtbanjohfcnadfaaGreatDoorPw43
import Derived.Test.YtbanjohfcnadfaaGreatDoorPw19
import Derived.Test.YtbanjohfcnadfaaGreatDoorPw5
import Derived.Test.YtbanjohfcnadfaaGreatDoorPw33
import Derived.Deep.Cut
import Derived.Deep.SlicePairs
import Derived.ProofKit
import Derived.OpenVars
namespace Go.Proofs.YtbanjohfcnadfaaGreatDoor
open Go.RowKit
open Mth

theorem upT_len (l : List Int) : (upT l).length ≤ 30 := by
  unfold upT
  split
  · rename_i h; exact (TreeP.of h).le
  · simp
theorem log_of {l : List Int} {L : List KdI} (h : L.map (fun x => x.1) = keepsT l) : ∀ x ∈ L, x.1.log.size ≤ 100 := fun x hx => by
  have h1 : x.1 ∈ keepsT l := by rw [← h]; exact List.mem_map_of_mem hx
  obtain ⟨n, _, e⟩ := List.mem_map.1 h1
  rw [← e]
  show ByteArray.empty.size ≤ 100
  simp
set_option maxRecDepth 100000 in
set_option maxHeartbeats 8000000 in
theorem fnExactWorldNew_walk (a : Option Addr) (cap : Nat) (l : List Int) (hm : l.length ≤ maxLen) (w : World) (ha : IntsAt w a l) :
    Calls Tryz.prog 3 #[trv a l cap] w fun e w' => e = .returned (.bool true) ∧ Below w.heap.size w w' := by
  have HSZ := hide (fun W => szTree a cap l 1048576 W (by omega) (by omega) hm)
  by_cases hl : l.length ≤ 1048576
  case neg =>
    have hc : ¬ (l.length : Int) ≤ 1048576 := by omega
    rw [if_neg hc] at HSZ
    clear ha
    go_enter Tryz.func3, Tryz.ntmps3
    go_wp2_with (go_at_call 4; refine (unhide HSZ _).mono ?_; rintro e w1 ⟨rfl, hb1⟩)
    go_ret
    exact ⟨rfl, (below_one' w _).trans (hb1.mono (by simp))⟩
  have hc : (l.length : Int) ≤ 1048576 := by omega
  rw [if_pos hc] at HSZ
  have hn : decide ((1048576 : Int) - l.length < 0) = false := decide_eq_false (by omega)
  have HTO := hide (fun W (hb : Below w.heap.size w W) => toTree a cap l W hl (GR.At.below ha hb))
  have HSP := hide (fun g W (h : intBlk W g l) => (specWorldNew (some ⟨g, 0, none⟩) l.length l W (by omega) (GR.Blk.at h encNum_length)).mono (fun _ _ h => h.nw))
  have HIM := hide (fun g W (h : intBlk W g l) => (implWorldNew (some ⟨g, 0, none⟩) l.length l W (by omega) (GR.Blk.at h encNum_length)).mono (fun _ _ h => h.nw))
  have HSM := hide (fun (L : List KdI) (h : L.map (fun x => x.1) = keepsT l) => And.intro (smallK_of h) (log_of h))
  have hul := upT_len l
  unfold GivesNW at HSP HIM
  clear ha
  generalize upT l = U at *
  generalize keepsT l = KS at *
  generalize treeB l = ok at *
  have hokk : (ok != ok) = false := by simp
  go_enter Tryz.func3, Tryz.ntmps3
  go_wp2_with fail
  generalize hW : w.alloc (.cells #[.slice a l.length cap] 24) = W at *
  have hB0 : Below w.heap.size w W := by rw [← hW]; exact below_one' w _
  have hT0 : W.heap[w.heap.size]? = some (.cells #[.slice a l.length cap] 24 (0, 0)) := by rw [← hW]; exact heap_alloc_new w _
  clear hW
  have HT_0 := hide (hT0)
  have HB_0 := hide (hB0)
  clear hT0 hB0
  refine (unhide HSZ _).mono ?_
  rintro e w1 ⟨rfl, hb⟩
  have HT_1 := hide (obj_step (unhide HT_0) hb)
  have HB_1 := hide ((unhide HB_0).trans (hb.mono (unhide HB_0).size))
  clear HT_0 HB_0 hb HSZ
  obtain ⟨t1, _⟩ := one_at (unhide HT_1)
  go_wp2_with fail
  refine (unhide HTO _ (unhide HB_1)).mono ?_
  rintro e w2 ⟨g2, rfl, hg2, hk2, hb⟩
  have HT_2 := hide (obj_step (unhide HT_1) hb)
  have HB_2 := hide ((unhide HB_1).trans (hb.mono (unhide HB_1).size))
  clear HT_1 HB_1 t1 hb hg2
  have HK2 := hide hk2
  clear hk2
  go_wp2_with fail
  refine (unhide HSP _ _ (unhide HK2)).mono ?_
  rintro e w3 ⟨u3, uc3, ug3, ka3, kc3, kg3, L3, rfl, hm3, hn3, hr3, hb⟩
  have h02 : w.heap.size < w2.heap.size := obj_lt (unhide HT_2)
  have h23 : w2.heap.size ≤ w3.heap.size := hb.size
  have HT_3 := hide (obj_step (unhide HT_2) hb)
  have HB_3 := hide ((unhide HB_2).trans (hb.mono (unhide HB_2).size))
  clear HT_2 HB_2 hb HK2 HSP
  have HP_0 := hide (hn3)
  have HM3 := hide hm3
  have HR3 := hide hr3
  clear hn3 hm3 hr3
  go_upto_region 6 with fail
  refine wp_at (fun W3 hW3 => ?_)
  have hW3' : W3 = w3.alloc (.cells (wn5 (.slice u3 U.length uc3) (.slice ka3 KS.length kc3)) 32) := hW3
  have hb : Below w3.heap.size w3 W3 := by rw [hW3']; exact below_one w3 _
  have hq : W3.heap[w3.heap.size]? = some (.cells (wn5 (.slice u3 U.length uc3) (.slice ka3 KS.length kc3)) 32 (0, 0)) := by rw [hW3']; exact heap_alloc_new w3 _
  have h33 := obj_lt hq
  clear hW3 hW3'
  have HT_4 := hide (obj_step (unhide HT_3) hb)
  have HB_4 := hide ((unhide HB_3).trans (hb.mono (unhide HB_3).size))
  have HP_1 := hide ((unhide HP_0).below hb)
  clear HT_3 HB_3 HP_0 hb
  have HQ_0 := hide (hq)
  clear hq
  obtain ⟨t1, _⟩ := one_at (unhide HT_4)
  go_wp2_with fail
  refine (unhide HTO _ (unhide HB_4)).mono ?_
  rintro e w4 ⟨g4, rfl, hg4, hk4, hb⟩
  have h34 := hb.size
  have hg4l := GR.Blk.lt hk4
  have HT_5 := hide (obj_step (unhide HT_4) hb)
  have HB_5 := hide ((unhide HB_4).trans (hb.mono (unhide HB_4).size))
  have HP_2 := hide ((unhide HP_1).below hb)
  have HQ_1 := hide (obj_step (unhide HQ_0) hb)
  clear HT_4 HB_4 HP_1 HQ_0 hb t1
  have HK_0 := hide (hk4)
  clear hk4
  go_upto_region 7 with fail
  refine wp_at (fun W4 hW4 => ?_)
  have hb : Below w4.heap.size w4 W4 := by rw [hW4]; exact below_one' w4 _
  have hx : W4.heap[w4.heap.size]? = some (.cells #[.slice (some ⟨g4, 0, none⟩) l.length l.length] 26 (0, 0)) := by rw [hW4]; exact heap_alloc_new _ _
  have h44 := obj_lt hx
  clear hW4
  have HT_6 := hide (obj_step (unhide HT_5) hb)
  have HB_6 := hide ((unhide HB_5).trans (hb.mono (unhide HB_5).size))
  have HP_3 := hide ((unhide HP_2).below hb)
  have HQ_2 := hide (obj_step (unhide HQ_1) hb)
  have HK_1 := hide (intBlk.step (unhide HK_0) hb)
  clear HT_5 HB_5 HP_2 HQ_1 HK_0 hb
  have HX_0 := hide (hx)
  clear hx
  obtain ⟨x1, _⟩ := one_at (unhide HX_0)
  go_wp2_with fail
  refine (unhide HIM _ _ (unhide HK_1)).mono ?_
  rintro e w6 ⟨u6, uc6, ug6, ka6, kc6, kg6, L6, rfl, hm6, hn6, hr6, hb⟩
  have h46 := hb.size
  have HT_7 := hide (obj_step (unhide HT_6) hb)
  have HB_7 := hide ((unhide HB_6).trans (hb.mono (unhide HB_6).size))
  have HP_4 := hide ((unhide HP_3).below hb)
  have HQ_3 := hide (obj_step (unhide HQ_2) hb)
  have HK_2 := hide (intBlk.step (unhide HK_1) hb)
  have HX_1 := hide (obj_step (unhide HX_0) hb)
  clear HT_6 HB_6 HP_3 HQ_2 HK_1 HX_0 hb x1
  have HN_0 := hide (hn6)
  have HM6 := hide hm6
  have HR6 := hide hr6
  obtain ⟨⟨hsm6, hlen6⟩, hlog6⟩ := unhide HSM L6 hm6
  have HSM6 := hide hsm6
  have hl6 : L6.length = KS.length := by rw [← hm6]; simp
  have hkl : KS.length ≤ 30 := by omega
  have HEQ := hide (fun W (h : NWd W u6 ug6 ka6 kg6 U L6) (h3 : NWd W u3 ug3 ka3 kg3 U L3) => eqWorldN u6 u3 ka6 ka3 uc6 uc3 kc6 kc3 ug6 ug3 kg6 kg3 U L6 L3 KS W (by omega) (by omega) hsm6 hlog6 hm6 (unhide HM3) h h3)
  clear hn6 hm6 hr6 hsm6 hlog6
  go_upto_region 8 with fail
  refine wp_at (fun W6 hW6 => ?_)
  have hW6' : W6 = w6.alloc (.cells (wn5 (.slice u6 U.length uc6) (.slice ka6 KS.length kc6)) 32) := hW6
  have hb : Below w6.heap.size w6 W6 := by rw [hW6']; exact below_one w6 _
  have hq : W6.heap[w6.heap.size]? = some (.cells (wn5 (.slice u6 U.length uc6) (.slice ka6 KS.length kc6)) 32 (0, 0)) := by rw [hW6']; exact heap_alloc_new w6 _
  have h66 := obj_lt hq
  clear hW6 hW6'
  have HT_8 := hide (obj_step (unhide HT_7) hb)
  have HB_8 := hide ((unhide HB_7).trans (hb.mono (unhide HB_7).size))
  have HP_5 := hide ((unhide HP_4).below hb)
  have HQ_4 := hide (obj_step (unhide HQ_3) hb)
  have HK_3 := hide (intBlk.step (unhide HK_2) hb)
  have HX_2 := hide (obj_step (unhide HX_1) hb)
  have HN_1 := hide ((unhide HN_0).below hb)
  clear HT_7 HB_7 HP_4 HQ_3 HK_2 HX_1 HN_0 hb
  have HG_0 := hide (hq)
  clear hq
  obtain ⟨c0, c1, c2, c3, c4⟩ := at5 (unhide HG_0)
  obtain ⟨d0, d1, d2, d3, d4⟩ := at5 (unhide HQ_4)
  go_wp2_with fail
  refine (unhide HEQ _ (unhide HN_1) (unhide HP_5)).mono ?_
  rintro e w7 ⟨rfl, hb⟩
  have h67 := hb.size
  have HT_9 := hide (obj_step (unhide HT_8) hb)
  have HB_9 := hide ((unhide HB_8).trans (hb.mono (unhide HB_8).size))
  have HP_6 := hide ((unhide HP_5).below hb)
  have HQ_5 := hide (obj_step (unhide HQ_4) hb)
  have HK_4 := hide (intBlk.step (unhide HK_3) hb)
  have HX_3 := hide (obj_step (unhide HX_2) hb)
  have HN_2 := hide ((unhide HN_1).below hb)
  have HG_1 := hide (obj_step (unhide HG_0) hb)
  clear HT_8 HB_8 HP_5 HQ_4 HK_3 HX_2 HN_1 HG_0 hb c0 c1 c2 c3 c4 d0 d1 d2 d3 d4
  obtain ⟨x6, _⟩ := one_at (unhide HX_3)
  obtain ⟨t6, _⟩ := one_at (unhide HT_9)
  have HTN6 := hide (fun x (hx : Ge w7 x) => unhide HTO x (Ge.trans (unhide HB_9) hx))
  have HK6' := (unhide HK_4)
  go_upto_region 10 with fail
  go_cut [45] (fun v wx => v = .bool false ∧ Below w7.heap.size w7 wx)
  case first =>
    have k0 := cell_regrown x6
    have m0 := cell_regrown t6
    refine wp_region_mix (by kernel_rfl) ?_
    show wpMix _ _ _ _ 5 (Array.replicate 5 false) _ _
    refine wpMix_take 0 rfl (by kernel_rfl) (by kernel_rfl) (by kernel_rfl) (fun _ _ _ _ h => h) (fun K hK => ?_)
    go_simp
    first
      | (refine hK _ ?_; clear hK K)
      | (apply Exists.intro
         refine ⟨fun _ => ?_, hK _ ?_⟩
         (fail)
         clear hK K)
    refine wpMix_take 1 rfl (by kernel_rfl) (by kernel_rfl) (by kernel_rfl) (fun _ _ _ _ h => h) (fun K hK => ?_)
    go_simp
    first
      | (refine hK _ ?_; clear hK K)
      | (apply Exists.intro
         refine ⟨fun _ => ?_, hK _ ?_⟩
         (fail)
         clear hK K)
    clear k0 m0 x6 t6
    refine wpMix_one 2 rfl (by kernel_rfl) (by rfl) (fun x hx => ?_)
    go_simp
    refine (unhide HTN6 x hx).mono ?_
    rintro e y ⟨g7, rfl, _, hk7, hby⟩
    refine ⟨hby, ?_⟩
    have HEE := hide (fun z (hz : Ge y z) => eqTree _ _ l.length l.length l z (by omega) (GR.At.below (GR.Blk.at (intBlk.step HK6' (Ge.trans hx hby)) encNum_length) hz) (GR.At.below (GR.Blk.at hk7 encNum_length) hz))
    have HXY := hide (Ge.trans hx hby)
    clear hk7 hx hby
    refine wpMix_one 3 rfl (by kernel_rfl) (by rfl) (fun x2 hx2 => ?_)
    go_simp
    refine (unhide HEE x2 hx2).mono ?_
    rintro e y2 ⟨rfl, hby2⟩
    refine ⟨hby2, ?_⟩
    have HXZ := hide (Ge.trans (Ge.trans (unhide HXY) hx2) hby2)
    clear hx2 hby2
    refine wpMix_take 4 rfl (by kernel_rfl) (by kernel_rfl) (by kernel_rfl) (fun _ _ _ _ h => h) (fun K hK => ?_)
    go_simp
    first
      | (refine hK _ ?_; clear hK K)
      | (apply Exists.intro
         refine ⟨fun _ => ?_, hK _ ?_⟩
         (fail)
         clear hK K)
    refine wpMix_done (by kernel_rfl) (fun z0 hz0 => ?_)
    have hz := Ge.trans (unhide HXZ) hz0
    go_wp2_with fail
    go_meet
    case rel => exact ⟨rfl, hz⟩
  case rest =>
    obtain ⟨rfl, hb⟩ := hcut
    obtain ⟨w8, hw8⟩ : ∃ x, x = wc := ⟨_, rfl⟩
    subst hw8
    have h78 := hb.size
    have HT_10 := hide (obj_step (unhide HT_9) hb)
    have HB_10 := hide ((unhide HB_9).trans (hb.mono (unhide HB_9).size))
    have HP_7 := hide ((unhide HP_6).below hb)
    have HQ_6 := hide (obj_step (unhide HQ_5) hb)
    have HK_5 := hide (intBlk.step (unhide HK_4) hb)
    have HX_4 := hide (obj_step (unhide HX_3) hb)
    have HN_3 := hide ((unhide HN_2).below hb)
    have HG_2 := hide (obj_step (unhide HG_1) hb)
    clear HT_9 HB_9 HP_6 HQ_5 HK_4 HX_3 HN_2 HG_1 hb x6 t6 HTN6 HK6'
    have HKW := hide (blk_W (unhide HK_5))
    have hq9 : ∀ x ∈ fp g4 l, x = g4 := fun x hx => (of_fp hx).1
    clear HK_5
    obtain ⟨x8, _⟩ := one_at (unhide HX_4)
    go_wp2_with fail
    refine (markTreeG (some ⟨g4, 0, none⟩) g4 l.length 1 l w8 (by omega) (by omega) (by omega) (unhide HKW)).mono ?_
    rintro e w9 ⟨rfl, _, hk9⟩
    have h89 := hk9.size
    have HT_11 := hide (hk9.obj (unhide HT_10) (fun hx => by have := hq9 _ hx; omega))
    have HB_11 := hide ((unhide HB_10).trans (hk9.below (B := w.heap.size) (fun x hx => by have := hq9 x hx; omega) (unhide HB_10).size))
    have HP_8 := hide ((unhide HP_7).keeps hk9 (fun x hx hm => by have h1 := hq9 x hm; have h2 := unhide HR3 x hx; omega))
    have HQ_7 := hide (hk9.obj (unhide HQ_6) (fun hx => by have := hq9 _ hx; omega))
    have HN_4 := hide ((unhide HN_3).keeps hk9 (fun x hx hm => by have h1 := hq9 x hm; have h2 := unhide HR6 x hx; omega))
    have HG_3 := hide (hk9.obj (unhide HG_2) (fun hx => by have := hq9 _ hx; omega))
    clear HT_10 HB_10 HP_7 HQ_6 HX_4 HN_3 HG_2 hk9 x8 HKW hq9
    have hneg : decide ((1 : Int) + (l.length : Int) < 0) = false := decide_eq_false (by omega)
    obtain ⟨c0, c1, c2, c3, c4⟩ := at5 (unhide HG_3)
    obtain ⟨d0, d1, d2, d3, d4⟩ := at5 (unhide HQ_7)
    go_wp2_with fail
    refine (unhide HEQ _ (unhide HN_4) (unhide HP_8)).mono ?_
    rintro e w10 ⟨rfl, hb⟩
    have HT_12 := hide (obj_step (unhide HT_11) hb)
    have HB_12 := hide ((unhide HB_11).trans (hb.mono (unhide HB_11).size))
    have HP_9 := hide ((unhide HP_8).below hb)
    have HQ_8 := hide (obj_step (unhide HQ_7) hb)
    have HN_5 := hide ((unhide HN_4).below hb)
    have HG_4 := hide (obj_step (unhide HG_3) hb)
    clear HT_11 HB_11 HP_8 HQ_7 HN_4 HG_3 hb hneg HEQ c0 c1 c2 c3 c4 d0 d1 d2 d3 d4
    have HMK := hide (fun W (h : NWd W u6 ug6 ka6 kg6 U L6) => markWorldN u6 ka6 uc6 kc6 ug6 kg6 KS.length U L6 W hl6.symm (by omega) (by omega) (unhide HSM6) h)
    have HHD := hide (fun W (h : NWd W u6 ug6 ka6 kg6 (mUp U) (mKs (1 + U.length) L6)) => heldWorldN u6 ka6 uc6 kc6 ug6 kg6 KS.length U.length U L6 W hl6.symm rfl (by omega) (by omega) (unhide HSM6) h)
    have hfm := fpW_marked (ug := ug6) (kg := kg6) (U := U) (unhide HSM6)
    generalize eWd U L6 = EN at *
    generalize mUp U = MU at *
    generalize mKs (1 + U.length) L6 = ML at *
    have HFM := hide hfm
    clear hfm
    have hen : decide ((EN : Int) < 0) = false := decide_eq_false (by omega)
    have hee : ((EN : Int) != (EN : Int)) = false := by simp
    obtain ⟨c0, c1, c2, c3, c4⟩ := at5 (unhide HG_4)
    go_wp2_with fail
    refine (unhide HMK _ (unhide HN_5)).mono ?_
    rintro e w11 ⟨rfl, hn11, hk11⟩
    have hX : ∀ x ∈ fpW ug6 kg6 U L6, W4.heap.size ≤ x ∧ x < w6.heap.size := unhide HR6
    have HT_13 := hide (hk11.obj (unhide HT_12) (fun hx => by have := hX _ hx; omega))
    have HB_13 := hide ((unhide HB_12).trans (hk11.below (B := w.heap.size) (fun x hx => by have := hX x hx; omega) (unhide HB_12).size))
    have HP_10 := hide ((unhide HP_9).keeps hk11 (fun x hx hm => by have h1 := hX x hm; have h2 := unhide HR3 x hx; omega))
    have HQ_9 := hide (hk11.obj (unhide HQ_8) (fun hx => by have := hX _ hx; omega))
    have HG_5 := hide (hk11.obj (unhide HG_4) (fun hx => by have := hX _ hx; omega))
    clear HT_12 HB_12 HP_9 HQ_8 HN_5 HG_4 hk11 hX HMK c0 c1 c2 c3 c4
    have HW_0 := hide (hn11)
    clear hn11
    obtain ⟨c0, c1, c2, c3, c4⟩ := at5 (unhide HG_5)
    go_wp2_with fail
    refine (unhide HHD _ (unhide HW_0)).mono ?_
    rintro e w12 ⟨rfl, hb⟩
    have HT_14 := hide (obj_step (unhide HT_13) hb)
    have HB_14 := hide ((unhide HB_13).trans (hb.mono (unhide HB_13).size))
    have HP_11 := hide ((unhide HP_10).below hb)
    have HQ_10 := hide (obj_step (unhide HQ_9) hb)
    have HG_6 := hide (obj_step (unhide HG_5) hb)
    have HW_1 := hide ((unhide HW_0).below hb)
    clear HT_13 HB_13 HP_10 HQ_9 HG_5 HW_0 hb c0 c1 c2 c3 c4
    obtain ⟨t1, _⟩ := one_at (unhide HT_14)
    go_wp2_with fail
    refine (unhide HTO _ (unhide HB_14)).mono ?_
    rintro e w13 ⟨g13, rfl, _, hk13, hb⟩
    have HT_15 := hide (obj_step (unhide HT_14) hb)
    have HB_15 := hide ((unhide HB_14).trans (hb.mono (unhide HB_14).size))
    have HP_12 := hide ((unhide HP_11).below hb)
    have HQ_11 := hide (obj_step (unhide HQ_10) hb)
    have HG_7 := hide (obj_step (unhide HG_6) hb)
    have HW_2 := hide ((unhide HW_1).below hb)
    clear HT_14 HB_14 HP_11 HQ_10 HG_6 HW_1 hb t1
    clear HT_15
    have HK13 := hide hk13
    clear hk13
    go_wp2_with fail
    refine (unhide HIM _ _ (unhide HK13)).mono ?_
    rintro e w14 ⟨u14, uc14, ug14, ka14, kc14, kg14, L14, rfl, hm14, hn14, _, hb⟩
    have HB_16 := hide ((unhide HB_15).trans (hb.mono (unhide HB_15).size))
    have HP_13 := hide ((unhide HP_12).below hb)
    have HQ_12 := hide (obj_step (unhide HQ_11) hb)
    have HG_8 := hide (obj_step (unhide HG_7) hb)
    have HW_3 := hide ((unhide HW_2).below hb)
    clear HB_15 HP_12 HQ_11 HG_7 HW_2 hb HK13 HIM HTO
    have HV_0 := hide (hn14)
    obtain ⟨⟨hsm14, hlen14⟩, hlog14⟩ := unhide HSM L14 hm14
    have HEQ2 := hide (fun W (h : NWd W u14 ug14 ka14 kg14 U L14) (h3 : NWd W u3 ug3 ka3 kg3 U L3) => eqWorldN u14 u3 ka14 ka3 uc14 uc3 kc14 kc3 ug14 ug3 kg14 kg3 U L14 L3 KS W (by omega) (by omega) hsm14 hlog14 hm14 (unhide HM3) h h3)
    clear hn14 hm14 hsm14 hlog14
    go_upto_region 25 with fail
    refine wp_at (fun W14 hW14 => ?_)
    have hW14' : W14 = w14.alloc (.cells (wn5 (.slice u14 U.length uc14) (.slice ka14 KS.length kc14)) 32) := hW14
    have hb : Below w14.heap.size w14 W14 := by rw [hW14']; exact below_one w14 _
    have hq : W14.heap[w14.heap.size]? = some (.cells (wn5 (.slice u14 U.length uc14) (.slice ka14 KS.length kc14)) 32 (0, 0)) := by rw [hW14']; exact heap_alloc_new w14 _
    clear hW14 hW14'
    have HB_17 := hide ((unhide HB_16).trans (hb.mono (unhide HB_16).size))
    have HP_14 := hide ((unhide HP_13).below hb)
    have HQ_13 := hide (obj_step (unhide HQ_12) hb)
    have HG_9 := hide (obj_step (unhide HG_8) hb)
    have HW_4 := hide ((unhide HW_3).below hb)
    have HV_1 := hide ((unhide HV_0).below hb)
    clear HB_16 HP_13 HQ_12 HG_8 HW_3 HV_0 hb
    obtain ⟨c0, c1, c2, c3, c4⟩ := at5 hq
    obtain ⟨d0, d1, d2, d3, d4⟩ := at5 (unhide HQ_13)
    clear hq
    go_wp2_with fail
    refine (unhide HEQ2 _ (unhide HV_1) (unhide HP_14)).mono ?_
    rintro e w15 ⟨rfl, hb⟩
    have HB_18 := hide ((unhide HB_17).trans (hb.mono (unhide HB_17).size))
    have HP_15 := hide ((unhide HP_14).below hb)
    have HQ_14 := hide (obj_step (unhide HQ_13) hb)
    have HG_10 := hide (obj_step (unhide HG_9) hb)
    have HW_5 := hide ((unhide HW_4).below hb)
    have HV_2 := hide ((unhide HV_1).below hb)
    clear HB_17 HP_14 HQ_13 HG_9 HW_4 HV_1 hb HEQ2 c0 c1 c2 c3 c4 d0 d1 d2 d3 d4
    obtain ⟨c0, c1, c2, c3, c4⟩ := at5 (unhide HG_10)
    go_wp2_with fail
    refine (unhide HHD _ (unhide HW_5)).mono ?_
    rintro e w16 ⟨rfl, hb⟩
    have HB_19 := hide ((unhide HB_18).trans (hb.mono (unhide HB_18).size))
    have HP_16 := hide ((unhide HP_15).below hb)
    have HQ_15 := hide (obj_step (unhide HQ_14) hb)
    have HG_11 := hide (obj_step (unhide HG_10) hb)
    have HW_6 := hide ((unhide HW_5).below hb)
    have HV_3 := hide ((unhide HV_2).below hb)
    clear HB_18 HP_15 HQ_14 HG_10 HW_5 HV_2 hb c0 c1 c2 c3 c4
    go_wp2_with fail
    go_ret
    exact ⟨rfl, (unhide HB_19)⟩
open Go.WideShapes
open Go.ChangeShapes

theorem ndIntCells : Tryz.prog.cellsOf 3 = 1 := by kernel_rfl
section
variable {H : Type} {enc : TypeId × Value → H} {W : World}
/-- A slice of structs that came in. -/
theorem open_rows {α : Type} {en : α → List Value} {sz : Nat} {ok : α → Prop} {t e : TypeId} {fuel : Nat} {cs : List Value} {x : DataW H × List MemPlace} (ht : Tryz.prog.underlying t = some (.slice e)) (hc : Tryz.prog.cellsOf e = sz) (hsz : 0 < sz) (hs : ∀ y, (en y).length = sz)
    (hel : ∀ fuel cs' x, cs'.length = sz → DataW.trod enc Tryz.prog W 0 (fun _ => true) true fuel e cs' = some x → ∃ y, ok y ∧ cs' = en y)
    (h : DataW.trod enc Tryz.prog W 0 (fun _ => true) true fuel t cs = some x) :
    ∃ (a : Option Addr) (cap : Nat) (l : List α), cs = [.slice a l.length cap] ∧ l.length ≤ maxLen ∧ (∀ y ∈ l, ok y) ∧ GR.At en sz W a l := by
  rcases Deep.open_slice ht h with ⟨hcs, _⟩ | ⟨x, len, cap, m, n, D, Pl, hcs, _, hlc, hcm, hm, _, hcell⟩
  · exact ⟨none, 0, [], hcs, by simp, fun p hp => by simp at hp, fun i hi => by simp at hi⟩
  · have hm' : m = cap := by rw [hm]; simp
    have each : ∀ i, i < len → ∃ q : α, ok q ∧ ∀ j, j < sz → W.cell? (x.add (i * sz + j)) = (en q)[j]? := by
      intro i hi
      obtain ⟨cs', h1, h2⟩ := hcell i (by omega)
      rw [hc] at h1
      obtain ⟨_, hlen, hcc⟩ := World.cells?_some h1
      obtain ⟨y, hy, rfl⟩ := hel _ _ _ hlen h2
      refine ⟨y, hy, fun j hj => ?_⟩
      have e := hcc j (by omega)
      rw [Deep.add_add] at e
      exact e
    have hd : Nonempty α ∨ len = 0 := by
      by_cases h0 : len = 0
      · exact .inr h0
      · obtain ⟨q, _⟩ := each 0 (by omega)
        exact .inl ⟨q⟩
    rcases hd with d | d
    · obtain ⟨q, hq⟩ : ∃ q : Nat → α, ∀ i, i < len → ok (q i) ∧ ∀ j, j < sz → W.cell? (x.add (i * sz + j)) = (en (q i))[j]? := by
        exact ⟨fun i => if hi : i < len then (each i hi).choose else Classical.choice d, fun i hi => by simp only [dif_pos hi]; exact (each i hi).choose_spec⟩
      refine ⟨some x, cap, (List.range len).map q, by rw [hcs]; simp, by simp; omega, fun p hp => ?_, fun i hi => ?_⟩
      · obtain ⟨i, hi, rfl⟩ := List.mem_map.1 hp
        exact (hq i (List.mem_range.1 hi)).1
      · have hi' : i < len := by simpa using hi
        obtain ⟨b, off, spot⟩ := x
        have h0 := (hq 0 (by omega)).2 0 hsz
        have hne : ∃ v, (en (q 0))[0]? = some v := ⟨_, List.getElem?_eq_getElem (by rw [hs]; exact hsz)⟩
        obtain ⟨v0, hv0⟩ := hne
        rw [hv0] at h0
        have hspot : spot = none := by simpa [Addr.add] using World.cell?_spot h0
        subst hspot
        have h1 := (hq i hi').2
        have ea : ∀ k : Nat, (⟨b, off, none⟩ : Addr).add k = ⟨b, off + k, none⟩ := fun k => by unfold Addr.add; split <;> simp_all
        have h3 := h1 0 hsz
        rw [ea, List.getElem?_eq_getElem (by rw [hs]; exact hsz)] at h3
        refine ⟨b, off, rfl, World.block_lt_of_cell? _ _ h3, fun j hj => ?_⟩
        have h2 := h1 j hj
        rw [ea] at h2
        simpa using h2
    · subst d
      exact ⟨some x, cap, [], by rw [hcs]; simp, by simp, fun p hp => by simp at hp, fun i hi => by simp at hi⟩
theorem open_ints' {fuel : Nat} {cs : List Value} {x : DataW H × List MemPlace} (h : DataW.trod enc Tryz.prog W 0 (fun _ => true) true fuel 22 cs = some x) :
    ∃ (a : Option Addr) (cap : Nat) (l : List Int), cs = [.slice a l.length cap] ∧ l.length ≤ maxLen ∧ IntsAt W a l := by
  obtain ⟨a, cap, l, h1, h2, _, h4⟩ := open_rows (en := encNum) (sz := 1) (ok := fun _ => True) Tryz.underlying22 ndIntCells (by omega) encNum_length (fun fuel cs' x _ h => by
    obtain ⟨n, q, _⟩ := DataW.trod_int Tryz.underlying3 h
    exact ⟨n, trivial, q⟩) h
  exact ⟨a, cap, l, h1, h2, h4⟩
end

theorem array_one {α : Type} {cs : Array α} (h : cs.size = 1) : ∃ a, cs = #[a] := by
  obtain ⟨l⟩ := cs
  match l, h with
  | [a], _ => exact ⟨a, rfl⟩
theorem trCells : Tryz.prog.cellsOf 24 = 1 := by kernel_rfl
theorem trSlcCells : Tryz.prog.cellsOf 22 = 1 := by kernel_rfl
set_option maxRecDepth 100000 in
theorem open_tree {H : Type} {enc : TypeId × Value → H} {W : World} {r : Reach} {base : Nat} {v : Value} {d : DataW H} {p : List MemPlace} (hv : Value.okWide Tryz.prog W r base 24 v) (h : DataW.Trod enc Tryz.prog W 0 (fun _ => true) true 24 v d p) :
    ∃ (a : Option Addr) (cap : Nat) (l : List Int), v = trv a l cap ∧ l.length ≤ maxLen ∧ IntsAt W a l := by
  simp only [Value.okWide, Tryz.underlying24] at hv
  obtain ⟨cs, rfl, hsz, ts, hts, _, hall⟩ := hv
  obtain ⟨fuel, hf⟩ := h
  obtain ⟨a0, rfl⟩ := array_one (hsz.trans trCells)
  obtain ⟨xs, k, _, _, _, hxl, hfl⟩ := DataW.trod_struct Tryz.underlying24 hf
  match xs, hxl with
  | [y0], _ =>
    have g0 := hfl 0 _ rfl
    simp [trSlcCells, Value.cells] at g0
    obtain ⟨b2, c2, l2, q2, z2, t2⟩ := open_ints' g0
    simp at q2
    subst q2
    exact ⟨b2, c2, l2, rfl, z2, t2⟩
open Go
theorem trodVars_len {H : Type} {enc : TypeId × Value → H} {P : Program} {w : World} {sp : Nat → Bool} : ∀ {ns : List String} {gs : List (DataW H)} {ps : List MemPlace}, DataW.TrodVars enc P w sp ns gs ps → gs.length = ns.length
  | [], [], _, _ => rfl
  | [], _ :: _, _, h => h.elim
  | _ :: _, [], _, h => h.elim
  | _ :: ns, _ :: ds, _, h => by
    obtain ⟨_, _, _, _, _, _, _, _, _, _, hs, _⟩ := h
    have := trodVars_len hs
    simp [this]
theorem vars_list5 {α : Type} {gs : List α} (h : gs.length = 5) : ∃ a b c d e, gs = [a, b, c, d, e] := by
  match gs, h with
  | [a, b, c, d, e], _ => exact ⟨a, b, c, d, e, rfl⟩
end Go.Proofs.YtbanjohfcnadfaaGreatDoor
