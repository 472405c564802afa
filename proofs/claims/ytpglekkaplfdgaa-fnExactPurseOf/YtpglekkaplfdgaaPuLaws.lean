/-
  The laws FnExactPursesOk, FnExactPurseOf and FnExactHolding at purses that lie in memory.
-/
import Derived.Test.YtpglekkaplfdgaaPuI2
import Derived.Test.YtpglekkaplfdgaaPuI3
import Derived.Test.YtpglekkaplfdgaaPuSz
namespace Go.Proofs.Ytpglekkaplfdgaa
open Go.RowKit
open Mth

theorem le_maxLen {n : Nat} (h : n ≤ 1048576) : n ≤ maxLen := by unfold maxLen; omega

set_option maxRecDepth 100000 in
set_option maxHeartbeats 2000000 in
theorem fnExactPursesOk_walk (a : Option Addr) (cap : Nat) (l : List Pu) (hm : l.length ≤ maxLen) (hks : ∀ p ∈ l, p.k.size ≤ maxLen) (w : World) (ha : PursesAt w a l) :
    Calls Try.prog 3 #[.slice a l.length cap] w fun e w' => e = .returned (.bool true) ∧ Below w.heap.size w w' := by
  have HSZ := hide (szPurseS a cap l w hm hks ha)
  have HA := hide ha
  clear ha hks
  go_enter Try.func3, Try.ntmps3
  go_wp2_with fail
  refine (unhide HSZ).mono ?_
  rintro e w1 ⟨r, rfl, hb1, hr⟩
  rcases hr with rfl | ⟨hr0, hr1, hl, hks⟩
  · go_wp2_with fail
    go_ret
    exact ⟨rfl, hb1⟩
  have hrn : decide (r < 0) = false := decide_eq_false (by omega)
  have HB1 := hide hb1
  clear hb1 HSZ
  go_wp2_with fail
  refine (toPurseS a cap l _ hl (GR.At.below (unhide HA) (unhide HB1))).mono ?_
  rintro e w2 ⟨rfl, hblk2, hb2⟩
  have HB2 := hide ((unhide HB1).trans (hb2.mono (unhide HB1).size))
  have HK2 := hide hblk2
  clear hblk2 hb2 HB1
  go_wp2_with fail
  refine (specPursesOk _ _ l _ (by omega) (fun p hp => le_maxLen (hks p hp)) (GR.Blk.at (unhide HK2) encP_length)).mono ?_
  rintro e w3 ⟨rfl, hb3⟩
  have HB3 := hide ((unhide HB2).trans (hb3.mono (unhide HB2).size))
  clear HK2 HB2 hb3
  go_wp2_with fail
  refine (toPurseS a cap l _ hl (GR.At.below (unhide HA) (unhide HB3))).mono ?_
  rintro e w4 ⟨rfl, hblk4, hb4⟩
  have HB4 := hide ((unhide HB3).trans (hb4.mono (unhide HB3).size))
  have HK4 := hide hblk4
  clear hblk4 hb4 HB3
  go_wp2_with fail
  refine (implPursesOk _ _ l _ (by omega) (GR.Blk.at (unhide HK4) encP_length)).mono ?_
  rintro e w5 ⟨rfl, hb5⟩
  have HB5 := hide ((unhide HB4).trans (hb5.mono (unhide HB4).size))
  have HK5 := hide (blkstep (unhide HK4) hb5)
  clear HK4 HB4 hb5
  go_wp2_with fail
  refine (toPurseS a cap l _ hl (GR.At.below (unhide HA) (unhide HB5))).mono ?_
  rintro e w6 ⟨rfl, hblk6, hb6⟩
  have HB6 := hide ((unhide HB5).trans (hb6.mono (unhide HB5).size))
  have HK6 := hide hblk6
  have HX6 := hide (blkstep (unhide HK5) hb6)
  clear hblk6 hb6 HB5 HK5
  go_wp2_with fail
  refine (eqPurseS _ _ _ _ l _ (by omega) (GR.Blk.at (unhide HX6) encP_length) (GR.Blk.at (unhide HK6) encP_length)).mono ?_
  rintro e w7 ⟨rfl, hb7⟩
  have HB7 := hide ((unhide HB6).trans (hb7.mono (unhide HB6).size))
  clear hb7
  go_wp2_with fail
  go_ret
  exact ⟨rfl, unhide HB7⟩

set_option maxRecDepth 100000 in
set_option maxHeartbeats 2000000 in
theorem fnExactHolding_walk (a : Option Addr) (cap : Nat) (l : List Pu) (hm : l.length ≤ maxLen) (hks : ∀ p ∈ l, p.k.size ≤ maxLen) (key : ByteArray) (hkm : key.size ≤ maxLen) (w : World) (ha : PursesAt w a l) :
    Calls Try.prog 5 #[.slice a l.length cap, .string key] w fun e w' => e = .returned (.bool true) ∧ Below w.heap.size w w' := by
  unfold maxLen at hkm
  by_cases hkey : key.size ≤ 1048576
  case' neg =>
    have hg : decide (1048576 < (key.size : Int)) = true := decide_eq_true (by omega)
    clear ha hks
    go_enter Try.func5, Try.ntmps5
    go_wp2_with fail
    go_ret
    exact ⟨rfl, Below.refl _ _⟩
  have hg : decide (1048576 < (key.size : Int)) = false := decide_eq_false (by omega)
  have HSZ := hide (szPurseS a cap l w hm hks ha)
  have HA := hide ha
  clear ha hks
  go_enter Try.func5, Try.ntmps5
  go_wp2_with fail
  refine (unhide HSZ).mono ?_
  rintro e w1 ⟨r, rfl, hb1, hr⟩
  rcases hr with rfl | ⟨hr0, hr1, hl, hks⟩
  · go_wp2_with fail
    go_ret
    exact ⟨rfl, hb1⟩
  have hrn : decide (r < 0) = false := decide_eq_false (by omega)
  have HB1 := hide hb1
  clear hb1 HSZ
  go_wp2_with fail
  refine (toPurseS a cap l _ hl (GR.At.below (unhide HA) (unhide HB1))).mono ?_
  rintro e w2 ⟨rfl, hblk2, hb2⟩
  have HB2 := hide ((unhide HB1).trans (hb2.mono (unhide HB1).size))
  have HK2 := hide hblk2
  clear hblk2 hb2 HB1
  go_wp2_with fail
  refine (specHolding _ _ l key _ (by omega) (GR.Blk.at (unhide HK2) encP_length)).mono ?_
  rintro e w3 ⟨rfl, hb3⟩
  have HB3 := hide ((unhide HB2).trans (hb3.mono (unhide HB2).size))
  clear HK2 HB2 hb3
  go_wp2_with fail
  refine (toPurseS a cap l _ hl (GR.At.below (unhide HA) (unhide HB3))).mono ?_
  rintro e w4 ⟨rfl, hblk4, hb4⟩
  have HB4 := hide ((unhide HB3).trans (hb4.mono (unhide HB3).size))
  have HK4 := hide hblk4
  clear hblk4 hb4 HB3
  go_wp2_with fail
  refine (implHolding _ _ l key _ (by omega) hks hkey (GR.Blk.at (unhide HK4) encP_length)).mono ?_
  rintro e w5 ⟨rfl, hb5⟩
  have HB5 := hide ((unhide HB4).trans (hb5.mono (unhide HB4).size))
  have HK5 := hide (blkstep (unhide HK4) hb5)
  clear HK4 HB4 hb5
  generalize wrap64 ((purseOf l key).f + (purseOf l key).s) = hh
  go_wp2_with fail
  refine (toPurseS a cap l _ hl (GR.At.below (unhide HA) (unhide HB5))).mono ?_
  rintro e w6 ⟨rfl, hblk6, hb6⟩
  have HB6 := hide ((unhide HB5).trans (hb6.mono (unhide HB5).size))
  have HK6 := hide hblk6
  have HX6 := hide (blkstep (unhide HK5) hb6)
  clear hblk6 hb6 HB5 HK5
  go_wp2_with fail
  refine (eqPurseS _ _ _ _ l _ (by omega) (GR.Blk.at (unhide HX6) encP_length) (GR.Blk.at (unhide HK6) encP_length)).mono ?_
  rintro e w7 ⟨rfl, hb7⟩
  have HB7 := hide ((unhide HB6).trans (hb7.mono (unhide HB6).size))
  clear hb7
  go_wp2_with fail
  go_ret
  exact ⟨rfl, unhide HB7⟩

end Go.Proofs.Ytpglekkaplfdgaa
