/-
  The law FnExactSpend at purses that lie in memory.
-/
import Derived.Test.YtdlhlfndobbocaaDoorPmHelp
namespace Go.Proofs.YtdlhlfndobbocaaDoor
open Go.RowKit
open Mth

set_option maxRecDepth 100000 in
set_option maxHeartbeats 8000000 in
theorem fnExactSpend_walk (a : Option Addr) (cap : Nat) (l : List Pu) (hm : l.length ≤ maxLen) (hks : ∀ p ∈ l, p.k.size ≤ maxLen) (key : ByteArray) (hkm : key.size ≤ maxLen) (n : Int) (E : Nat → Addr) (w : World) (ha : PursesAt w a l) (he : Errs w E) :
    Calls Tryd.prog 7 #[.slice a l.length cap, .string key, .int .i64 n] w fun e w' => e = .returned (.bool true) ∧ Below w.heap.size w w' := by
  unfold maxLen at hkm
  by_cases hkey : key.size ≤ 1048576
  case' neg =>
    have hg : decide (1048576 < (key.size : Int)) = true := decide_eq_true (by omega)
    clear ha hks he
    go_enter Tryd.func7, Tryd.ntmps7
    go_wp2_with fail
    go_ret
    exact ⟨rfl, Below.refl _ _⟩
  have hg : decide (1048576 < (key.size : Int)) = false := decide_eq_false (by omega)
  have HSZ := hide (szPurseS a cap l w hm hks ha)
  have HA := hide ha
  have HE := hide he
  clear ha hks he
  go_enter Tryd.func7, Tryd.ntmps7
  go_wp2_with fail
  refine (unhide HSZ).mono ?_
  rintro e w1 ⟨r, rfl, hb1, hr⟩
  rcases hr with rfl | ⟨hr0, hr1, hl, hks⟩
  · go_wp2_with fail
    go_ret
    exact ⟨rfl, hb1⟩
  have hrn : decide (r < 0) = false := decide_eq_false (by omega)
  have HB1 := hide hb1
  have HLEN := hide (addP_len l key (0) (-1) (1) n hl)
  have HKS := hide hks
  have HTO := hide (fun w1 (hb : Below w.heap.size w w1) => toPurseS a cap l w1 hl (GR.At.below (unhide HA) hb))
  have HSP := hide (fun b w1 (h : puBlk w1 b l) => specSpend b 0 l.length l key n w1 (by omega) (Nat.le_refl _) hks hkey (GR.Blk.at h encP_length))
  have HIM := hide (fun b w1 (h : puBlk w1 b l) (hb : Below w.heap.size w w1) => implSpend (some ⟨b, 0, none⟩) l.length l key n E w1 hl hks hkey (GR.Blk.at h encP_length) ((unhide HE).below hb))
  generalize addP l key (0) (-1) (1) n = R at *
  obtain ⟨L, bo⟩ := R
  dsimp only at HLEN
  have hL := unhide HLEN
  clear hb1 HSZ hks hr0 hr1
  unfold GivesO at HSP
  unfold GivesP at HIM
  go_wp2_with fail
  refine (unhide HTO _ (unhide HB1)).mono ?_
  rintro e w2 ⟨rfl, hblk2, hb2⟩
  have HB2 := hide ((unhide HB1).trans (hb2.mono (unhide HB1).size))
  have HS2 := hide (unhide HSP _ _ hblk2)
  clear hblk2 hb2 HB1
  go_wp2_with fail
  refine (unhide HS2).mono ?_
  rintro e w3 ⟨v0, rfl, _, hown3, hb3⟩
  obtain ⟨a0, c0, rfl, _⟩ := GR.own_at encP_length hown3
  have HB3 := hide ((unhide HB2).trans (hb3.mono (unhide HB2).size))
  have HO3 := hide (own_lower (b' := w.heap.size) hown3 (unhide HB2).size)
  have HV := hide (fun k (e : (Value.slice a0 L.length c0).ownBlock = some k) => (hown3.lt k e).2)
  clear hown3 hb3 HB2 HS2
  go_wp2_with fail
  refine (unhide HTO _ (unhide HB3)).mono ?_
  rintro e w4 ⟨rfl, hblk4, hb4⟩
  have HB4 := hide ((unhide HB3).trans (hb4.mono (unhide HB3).size))
  have HO4 := hide (own_below (unhide HO3) hb4)
  have HX4 := hide hblk4
  have HI4 := hide (unhide HIM _ _ hblk4 (unhide HB4))
  have hx4 := GR.Blk.lt hblk4
  have HW3 := hide (unhide HB3).size
  clear hblk4 hb4 HO3 HB3
  go_wp2_with fail
  refine (unhide HI4).mono ?_
  rintro e w5 ⟨ga, gc, gg, hgg, rfl, hblk5, hb5⟩
  have HB5 := hide ((unhide HB4).trans (hb5.mono (unhide HB4).size))
  have HO5 := hide (own_below (unhide HO4) hb5)
  have HX5 := hide (blkstep (unhide HX4) hb5)
  have HG5 := hide hblk5
  have hne : w3.heap.size ≠ gg := by omega
  have HNX := hide (show (Value.slice a0 L.length c0).ownBlock ≠ some w3.heap.size from fun e => by have := unhide HV _ e; omega)
  have HNG := hide (show (Value.slice a0 L.length c0).ownBlock ≠ some gg from fun e => by have := unhide HV _ e; omega)
  have HWG := hide (Nat.le_trans (unhide HB4).size hgg)
  clear hblk5 hb5 HI4 HO4 HX4 HB4 hgg hx4
  go_wp2_with fail
  refine (eqPurseS _ _ _ _ L _ (by omega) (PuW.at (unhide HG5)) (own_at' (unhide HO5))).mono ?_
  rintro e w6 ⟨rfl, hb6⟩
  have HB6 := hide ((unhide HB5).trans (hb6.mono (unhide HB5).size))
  have HO6 := hide (own_below (unhide HO5) hb6)
  have HX6 := hide (blkstep (unhide HX5) hb6)
  have HG6 := hide (PuW.below (unhide HG5) hb6)
  clear hb6 HB5 HO5 HX5 HG5
  go_wp2_with fail
  refine (unhide HTO _ (unhide HB6)).mono ?_
  rintro e w7 ⟨rfl, hblk7, hb7⟩
  have HB7 := hide ((unhide HB6).trans (hb7.mono (unhide HB6).size))
  have HO7 := hide (own_below (unhide HO6) hb7)
  have HX7 := hide (blkstep (unhide HX6) hb7)
  have HG7 := hide (PuW.below (unhide HG6) hb7)
  have HN7 := hide hblk7
  clear hblk7 hb7 HB6 HO6 HX6 HG6
  go_wp2_with fail
  refine (eqPurseS _ _ _ _ l _ (by omega) (GR.Blk.at (unhide HX7) encP_length) (GR.Blk.at (unhide HN7) encP_length)).mono ?_
  rintro e w8 ⟨rfl, hb8⟩
  have HB8 := hide ((unhide HB7).trans (hb8.mono (unhide HB7).size))
  have HO8 := hide (own_below (unhide HO7) hb8)
  have HX8 := hide (blkstep (unhide HX7) hb8)
  have HG8 := hide (PuW.below (unhide HG7) hb8)
  clear hb8 HB7 HO7 HX7 HG7 HN7
  go_wp2_with fail
  refine (markPurseS _ w3.heap.size _ l _ (by omega) (PuW.of_blk (unhide HX8))).mono ?_
  rintro e w9 ⟨rfl, _, hk9⟩
  have hb39 : w.heap.size ≤ w3.heap.size := unhide HW3
  have HB9 := hide ((unhide HB8).trans (hk9.below hb39 (unhide HB8).size))
  have HO9 := hide (own_keeps (unhide HO8) hk9 (unhide HNX))
  have HG9 := hide (PuW.keeps (unhide HG8) hk9 (.inr (Ne.symm hne)))
  have hpos1 : decide (1 + 4 * (l.length : Int) < 0) = false := decide_eq_false (by omega)
  clear hk9 HB8 HO8 HX8 HG8
  go_wp2_with fail
  refine (eqPurseS _ _ _ _ L _ (by omega) (PuW.at (unhide HG9)) (own_at' (unhide HO9))).mono ?_
  rintro e w10 ⟨rfl, hb10⟩
  have HB10 := hide ((unhide HB9).trans (hb10.mono (unhide HB9).size))
  have HO10 := hide (own_below (unhide HO9) hb10)
  have HG10 := hide (PuW.below (unhide HG9) hb10)
  clear hb10 HB9 HO9 HG9
  go_wp2_with fail
  refine (markPurseS _ gg _ L _ (by omega) (unhide HG10)).mono ?_
  rintro e w11 ⟨rfl, hW11, hk11⟩
  have HB11 := hide ((unhide HB10).trans (hk11.below (unhide HWG) (unhide HB10).size))
  have HO11 := hide (own_keeps (unhide HO10) hk11 (unhide HNG))
  have HM11 := hide hW11
  clear hW11 hk11 HB10 HO10 HG10
  go_wp2_with fail
  refine (heldPurseS _ gg _ _ L _ rfl (by omega) (unhide HM11)).mono ?_
  rintro e w12 ⟨rfl, hb12⟩
  have HB12 := hide ((unhide HB11).trans (hb12.mono (unhide HB11).size))
  have HO12 := hide (own_below (unhide HO11) hb12)
  have HM12 := hide ((unhide HM11).below hb12)
  have hpos2 : decide (1 + 4 * (L.length : Int) < 0) = false := decide_eq_false (by omega)
  clear hb12 HB11 HO11 HM11
  go_wp2_with fail
  refine (unhide HTO _ (unhide HB12)).mono ?_
  rintro e w13 ⟨rfl, hblk13, hb13⟩
  have HB13 := hide ((unhide HB12).trans (hb13.mono (unhide HB12).size))
  have HO13 := hide (own_below (unhide HO12) hb13)
  have HM13 := hide ((unhide HM12).below hb13)
  have HI13 := hide (unhide HIM _ _ hblk13 (unhide HB13))
  clear hblk13 hb13 HB12 HO12 HM12
  go_wp2_with fail
  refine (unhide HI13).mono ?_
  rintro e w14 ⟨ha, hc, gh, hgh, rfl, hblk14, hb14⟩
  have HB14 := hide ((unhide HB13).trans (hb14.mono (unhide HB13).size))
  have HO14 := hide (own_below (unhide HO13) hb14)
  have HM14 := hide ((unhide HM13).below hb14)
  have HH14 := hide hblk14
  clear hblk14 hb14 HB13 HO13 HM13 HI13 hgh
  go_wp2_with fail
  refine (eqPurseS _ _ _ _ L _ (by omega) (PuW.at (unhide HH14)) (own_at' (unhide HO14))).mono ?_
  rintro e w15 ⟨rfl, hb15⟩
  have HB15 := hide ((unhide HB14).trans (hb15.mono (unhide HB14).size))
  have HM15 := hide ((unhide HM14).below hb15)
  clear hb15 HB14 HO14 HM14 HH14
  go_wp2_with fail
  refine (heldPurseS _ gg _ _ L _ rfl (by omega) (unhide HM15)).mono ?_
  rintro e w16 ⟨rfl, hb16⟩
  have HB16 := hide ((unhide HB15).trans (hb16.mono (unhide HB15).size))
  clear hb16 HB15 HM15
  go_wp2_with fail
  go_ret
  exact ⟨rfl, unhide HB16⟩
end Go.Proofs.YtdlhlfndobbocaaDoor
