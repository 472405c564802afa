/-
  The law FnExactPurseOf at purses that lie in memory.
-/
import Derived.Test.YtpglekkaplfdgaaPuLaws
namespace Go.Proofs.Ytpglekkaplfdgaa
open Go.RowKit
open Mth

set_option maxRecDepth 100000 in
set_option maxHeartbeats 2000000 in
theorem fnExactPurseOf_walk (a : Option Addr) (cap : Nat) (l : List Pu) (hm : l.length ≤ maxLen) (hks : ∀ p ∈ l, p.k.size ≤ maxLen) (key : ByteArray) (hkm : key.size ≤ maxLen) (w : World) (ha : PursesAt w a l) :
    Calls Try.prog 4 #[.slice a l.length cap, .string key] w fun e w' => e = .returned (.bool true) ∧ Below w.heap.size w w' := by
  unfold maxLen at hkm
  by_cases hkey : key.size ≤ 1048576
  case' neg =>
    have hg : decide (1048576 < (key.size : Int)) = true := decide_eq_true (by omega)
    clear ha hks
    go_enter Try.func4, Try.ntmps4
    go_wp2_with fail
    go_ret
    exact ⟨rfl, Below.refl _ _⟩
  have hg : decide (1048576 < (key.size : Int)) = false := decide_eq_false (by omega)
  have HSZ := hide (szPurseS a cap l w hm hks ha)
  have HA := hide ha
  clear ha hks
  go_enter Try.func4, Try.ntmps4
  go_wp2_with fail
  refine (unhide HSZ).mono ?_
  rintro e w1 ⟨r, rfl, hb1, hr⟩
  rcases hr with rfl | ⟨hr0, hr1, hl, hks⟩
  · go_wp2_with fail
    go_ret
    exact ⟨rfl, hb1⟩
  have hrn : decide (r < 0) = false := decide_eq_false (by omega)
  have HB1 := hide hb1
  clear hb1 HSZ
  go_wp2_with fail
  refine (toPurseS a cap l _ hl (GR.At.below (unhide HA) (unhide HB1))).mono ?_
  rintro e w2 ⟨rfl, hblk2, hb2⟩
  have HB2 := hide ((unhide HB1).trans (hb2.mono (unhide HB1).size))
  have HK2 := hide hblk2
  clear hblk2 hb2 HB1
  go_wp2_with fail
  refine (specPurseOf _ _ l key _ (by omega) (GR.Blk.at (unhide HK2) encP_length)).mono ?_
  rintro e w3 ⟨rfl, hb3⟩
  have HB3 := hide ((unhide HB2).trans (hb3.mono (unhide HB2).size))
  clear HK2 HB2 hb3
  have HIP := hide (fun a' cap' w' h => implPurseOf a' cap' l key w' (by omega) hks hkey h)
  generalize purseOf l key = pu at *
  have HEQ := hide (fun w1 => eqPurse pu w1)
  obtain ⟨pk, pm, pf, ps⟩ := pu
  go_wp2_with fail
  refine (toPurseS a cap l _ hl ((GR.At.below (unhide HA) (unhide HB3)).below (below_one' w3 _))).mono ?_
  rintro e w4 ⟨rfl, hblk4, hb4⟩
  rw [show (w3.alloc (.cells #[.string pk, .int .i64 pm, .int .i64 pf, .int .i64 ps] 30)).heap.size = w3.heap.size + 1 by simp] at hblk4
  obtain ⟨hq4, hz4, hbb4⟩ := Fo.one_block hb4
  have HQ4 := hide hq4
  have HB4 := hide ((unhide HB3).trans (hbb4.mono (unhide HB3).size))
  have HK4 := hide hblk4
  clear hblk4 hb4 HB3 hq4 hbb4
  go_wp2_with fail
  refine (unhide HIP _ _ _ (GR.Blk.at (unhide HK4) encP_length)).mono ?_
  rintro e w5 ⟨rfl, hb5⟩
  have hq5 : w5.heap[w3.heap.size]? = some (.cells #[.string pk, .int .i64 pm, .int .i64 pf, .int .i64 ps] 30 (0, 0)) := by rw [hb5.block _ hz4]; exact unhide HQ4
  have HB5 := hide ((unhide HB4).trans (hb5.mono (unhide HB4).size))
  have HK5 := hide (blkstep (unhide HK4) hb5)
  have hz5 := Fo.lt_of_blk hq5
  obtain ⟨⟨p0, p1, p2, p3⟩, _⟩ := four_at hq5
  clear HK4 HB4 hb5 HQ4 hq5
  go_wp2_with fail
  refine (unhide HEQ _).mono ?_
  rintro e w6 ⟨rfl, hb6⟩
  obtain ⟨_, _, hb6'⟩ := Fo.one_block hb6
  have HB6 := hide ((unhide HB5).trans (hb6'.mono (unhide HB5).size))
  have HK6 := hide (blkstep (unhide HK5) hb6')
  clear hb6 hb6' HB5 HK5 p0 p1 p2 p3
  go_wp2_with fail
  refine (toPurseS a cap l _ hl (GR.At.below (unhide HA) (unhide HB6))).mono ?_
  rintro e w7 ⟨rfl, hblk7, hb7⟩
  have HB7 := hide ((unhide HB6).trans (hb7.mono (unhide HB6).size))
  have HK7 := hide hblk7
  have HX7 := hide (blkstep (unhide HK6) hb7)
  clear hblk7 hb7 HB6 HK6
  go_wp2_with fail
  refine (eqPurseS _ _ _ _ l _ (by omega) (GR.Blk.at (unhide HX7) encP_length) (GR.Blk.at (unhide HK7) encP_length)).mono ?_
  rintro e w8 ⟨rfl, hb8⟩
  have HB8 := hide ((unhide HB7).trans (hb8.mono (unhide HB7).size))
  clear hb8
  go_wp2_with fail
  go_ret
  exact ⟨rfl, unhide HB8⟩
end Go.Proofs.Ytpglekkaplfdgaa
