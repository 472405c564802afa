/-
  The law's walk: FnExactTreeText returns true at every tree that lies in memory.
-/
import Derived.Test.YtccpcmhideijpaaDoorTrOk
import Derived.Test.YtccpcmhideijpaaDoorTrTxI
import Derived.Test.YtccpcmhideijpaaDoorMix
import Derived.Deep.Cut
namespace Go.Proofs.YtccpcmhideijpaaDoor
open Go.RowKit
open Mth

set_option maxRecDepth 100000 in
set_option maxHeartbeats 4000000 in
theorem fnExactTreeText_walk (a : Option Addr) (cap : Nat) (l : List Int) (hm : l.length ≤ maxLen) (w : World) (hst : Tens w) (ha : IntsAt w a l) :
    Calls Tryd.prog 4 #[trv a l cap] w fun e w' => e = .returned (.bool true) ∧ Below w.heap.size w w' := by
  have HSZ := hide (fun W => szTree a cap l 1048576 W (by omega) (by omega) hm)
  by_cases hl : l.length ≤ 1048576
  case neg =>
    have hc : ¬ (l.length : Int) ≤ 1048576 := by omega
    rw [if_neg hc] at HSZ
    clear ha hst
    go_enter Tryd.func4, Tryd.ntmps4
    go_wp2_with (go_at_call 10; refine (unhide HSZ _).mono ?_; rintro e w1 ⟨rfl, hb1⟩)
    go_ret
    exact ⟨rfl, (below_one' w _).trans (hb1.mono (by simp))⟩
  have hc : (l.length : Int) ≤ 1048576 := by omega
  rw [if_pos hc] at HSZ
  have hn : decide ((1048576 : Int) - l.length < 0) = false := decide_eq_false (by omega)
  have HTO := hide (fun W (hb : Below w.heap.size w W) => toTree a cap l W hl (GR.At.below ha hb))
  have HSP := hide (fun g W (h : intBlk W g l) => specTreeText (some ⟨g, 0, none⟩) l.length l W (by omega) (GR.Blk.at h encNum_length))
  have HIM := hide (fun g W (h : intBlk W g l) (hb : Below w.heap.size w W) => implTreeText (some ⟨g, 0, none⟩) l.length l W (by omega) (Nat.le_refl _) (hst.below hb) (GR.Blk.at h encNum_length))
  clear ha hst
  generalize (treeTx l) = tb at *
  go_enter Tryd.func4, Tryd.ntmps4
  go_wp2_with fail
  generalize hW : w.alloc (.cells #[.slice a l.length cap] 30) = W at *
  have hB0 : Below w.heap.size w W := by rw [← hW]; exact below_one' w _
  have hT0 : W.heap[w.heap.size]? = some (.cells #[.slice a l.length cap] 30 (0, 0)) := by rw [← hW]; exact heap_alloc_new w _
  clear hW
  refine (unhide HSZ _).mono ?_
  rintro e w1 ⟨rfl, hb1⟩
  have HT1 := hide (tr_step hT0 hb1)
  have HB1 := hide (hB0.trans (hb1.mono hB0.size))
  clear hT0 hB0 hb1
  obtain ⟨t1, _⟩ := one_at (unhide HT1)
  go_wp2_with fail
  refine (unhide HTO _ (unhide HB1)).mono ?_
  rintro e w2 ⟨g2, rfl, hg2, hk2, hb2⟩
  have HK2 := hide hk2
  have HT2 := hide (tr_step (unhide HT1) hb2)
  have HB2 := hide ((unhide HB1).trans (hb2.mono (unhide HB1).size))
  clear t1 hk2 hb2 hg2
  go_wp2_with fail
  refine (unhide HSP _ _ (unhide HK2)).mono ?_
  rintro e w3 ⟨rfl, hb3⟩
  have HT3 := hide (tr_step (unhide HT2) hb3)
  have HB3 := hide ((unhide HB2).trans (hb3.mono (unhide HB2).size))
  clear hb3 HK2
  obtain ⟨t3, _⟩ := one_at (unhide HT3)
  go_wp2_with fail
  refine (unhide HTO _ (unhide HB3)).mono ?_
  rintro e w4 ⟨g4, rfl, hg4, hk4, hb4⟩
  have HK4 := hide hk4
  have HT4 := hide (tr_step (unhide HT3) hb4)
  have HB4 := hide ((unhide HB3).trans (hb4.mono (unhide HB3).size))
  clear t3 hk4 hb4 hg4
  go_upto_region 7 with fail
  refine wp_at (fun W4 hW4 => ?_)
  have hbw : Below w4.heap.size w4 W4 := by rw [hW4]; exact below_one' w4 _
  have hX4 : W4.heap[w4.heap.size]? = some (.cells #[.slice (some ⟨g4, 0, none⟩) l.length l.length] 24 (0, 0)) := by rw [hW4]; exact heap_alloc_new _ _
  clear hW4
  have HX4 := hide hX4
  have HK5 := hide (intBlk.step (unhide HK4) hbw)
  have HT5 := hide (tr_step (unhide HT4) hbw)
  have HB5 := hide ((unhide HB4).trans (hbw.mono (unhide HB4).size))
  clear hX4 hbw HK4
  obtain ⟨x4, _⟩ := one_at (unhide HX4)
  go_wp2_with fail
  refine (unhide HIM _ _ (unhide HK5) (unhide HB5)).mono ?_
  rintro e w6 ⟨rfl, hb6⟩
  have HX6 := hide (tr_step (unhide HX4) hb6)
  have HK6 := hide (intBlk.step (unhide HK5) hb6)
  have HT6 := hide (tr_step (unhide HT5) hb6)
  have HB6 := hide ((unhide HB5).trans (hb6.mono (unhide HB5).size))
  clear hb6 x4
  obtain ⟨x6, _⟩ := one_at (unhide HX6)
  obtain ⟨t6, _⟩ := one_at (unhide HT6)
  have HTN6 := hide (fun x (hx : Ge w6 x) => unhide HTO x (Ge.trans (unhide HB6) hx))
  have HK6' := unhide HK6
  clear HTO HSP HIM HK5 HX4 HB1 HB2 HB3 HB4 HB5 HT1 HT2 HT3 HT4 HT5
  go_upto_region 10 with fail
  have k0 := cell_regrown x6
  have m0 := cell_regrown t6
  refine wp_region_mix (by kernel_rfl) ?_
  show wpMix _ _ _ _ 5 (Array.replicate 5 false) _ _
  refine wpMix_take 0 rfl (by kernel_rfl) (by kernel_rfl) (by kernel_rfl) (fun _ _ _ _ h => h) (fun K hK => ?_)
  go_simp
  first
    | (refine hK _ ?_; clear hK K)
    | (apply Exists.intro
       refine ⟨fun _ => ?_, hK _ ?_⟩
       (fail)
       clear hK K)
  refine wpMix_take 1 rfl (by kernel_rfl) (by kernel_rfl) (by kernel_rfl) (fun _ _ _ _ h => h) (fun K hK => ?_)
  go_simp
  first
    | (refine hK _ ?_; clear hK K)
    | (apply Exists.intro
       refine ⟨fun _ => ?_, hK _ ?_⟩
       (fail)
       clear hK K)
  clear k0 m0 x6 t6
  refine wpMix_one 2 rfl (by kernel_rfl) (by rfl) (fun x hx => ?_)
  go_simp
  refine (unhide HTN6 x hx).mono ?_
  rintro e y ⟨g7, rfl, _, hk7, hby⟩
  refine ⟨hby, ?_⟩
  have HEE := hide (fun z (hz : Ge y z) => eqTree _ _ l.length l.length l z (by omega) (GR.At.below (GR.Blk.at (intBlk.step HK6' (Ge.trans hx hby)) encNum_length) hz) (GR.At.below (GR.Blk.at hk7 encNum_length) hz))
  have HXY := hide (Ge.trans hx hby)
  clear hk7 hx hby
  refine wpMix_one 3 rfl (by kernel_rfl) (by rfl) (fun x2 hx2 => ?_)
  go_simp
  refine (unhide HEE x2 hx2).mono ?_
  rintro e y2 ⟨rfl, hby2⟩
  refine ⟨hby2, ?_⟩
  have HXZ := hide (Ge.trans (Ge.trans (unhide HXY) hx2) hby2)
  clear hx2 hby2
  refine wpMix_take 4 rfl (by kernel_rfl) (by kernel_rfl) (by kernel_rfl) (fun _ _ _ _ h => h) (fun K hK => ?_)
  go_simp
  first
    | (refine hK _ ?_; clear hK K)
    | (apply Exists.intro
       refine ⟨fun _ => ?_, hK _ ?_⟩
       (fail)
       clear hK K)
  refine wpMix_done (by kernel_rfl) (fun z0 hz0 => ?_)
  have hz := Ge.trans (unhide HXZ) hz0
  go_wp2_with fail
  go_ret
  exact ⟨rfl, (unhide HB6).trans (hz.mono (unhide HB6).size)⟩
end Go.Proofs.YtccpcmhideijpaaDoor
