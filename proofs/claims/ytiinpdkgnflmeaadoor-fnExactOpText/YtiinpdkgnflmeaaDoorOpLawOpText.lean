/-
  The law FnExactOpText returns true at every operation.
-/
import Derived.Test.YtiinpdkgnflmeaaDoorOpL
import Derived.Test.YtiinpdkgnflmeaaDoorOpTxS
import Derived.Test.YtiinpdkgnflmeaaDoorOpTxI
namespace Go.Proofs.YtiinpdkgnflmeaaDoor
open Go.RowKit
open Mth

set_option maxRecDepth 100000 in
set_option maxHeartbeats 2000000 in
theorem fnExactOpText_walk (o : Op5) (hs : o.k.size ≤ maxLen) (hm : o.m.k.size ≤ maxLen) (w : World) (hT : Tens w) : Calls Tryd.prog 5 #[opw o] w fun e w' => e = .returned (.bool true) ∧ Below w.heap.size w w' := by
  have HZ := hide (fun w1 => szOp o 1048576 w1 (by omega) (by omega) hs hm)
  have HT := hide (fun w1 => toOp o w1)
  have HI := hide (fun w1 h => implOpText o w1 h)
  have HS := hide (fun w1 => specOpText o w1 hs hm)
  have HTT := hide hT
  clear hT
  generalize opTx o = r at *
  clear hs hm
  obtain ⟨K, no, k, n, ⟨mK, mF, mT, mI, mL, mk, mN⟩⟩ := o
  go_enter Tryd.func5, Tryd.ntmps5
  go_wp2_with fail
  refine (unhide HZ _).mono ?_
  rintro e w0 ⟨z, rfl, hz, hb0⟩
  have hA0 := hide (blk_step (heap_alloc_new w _) hb0)
  have hB0 := (below_one w _).trans (hb0.mono (by simp))
  obtain ⟨c0, c1, c2, c3, c4, c5, c6, c7, c8, c9, c10⟩ := elevenL (unhide hA0)
  have hz0 := blk_lt (unhide hA0)
  clear hb0
  rcases hz with rfl | ⟨z0, z1, z2, z3⟩
  · go_wp2_with fail
    go_ret
    exact ⟨rfl, hB0⟩
  have hn : ¬ (z < 0) := by omega
  clear z1 z2 z3
  go_wp2_with fail
  refine (unhide HT _).mono ?_
  rintro e w1 ⟨rfl, hb1⟩
  have hA1 := hide (blk_step (unhide hA0) hb1)
  have hB1 := hB0.trans (hb1.mono hB0.size)
  clear hb1 hB0 hA0 c0 c1 c2 c3 c4 c5 c6 c7 c8 c9 c10
  go_wp2_with fail
  refine (unhide HS _).mono ?_
  rintro e w2 ⟨rfl, hb2⟩
  have hA2 := hide (blk_step (unhide hA1) hb2)
  have hB2 := hB1.trans (hb2.mono hB1.size)
  obtain ⟨c0, c1, c2, c3, c4, c5, c6, c7, c8, c9, c10⟩ := elevenL (unhide hA2)
  have hz2 := blk_lt (unhide hA2)
  clear hb2 hB1 hA1
  go_wp2_with fail
  refine (unhide HT _).mono ?_
  rintro e w3 ⟨rfl, hb3⟩
  have hB3 := hB2.trans (hb3.mono hB2.size)
  clear hb3 hB2 hA2 c0 c1 c2 c3 c4 c5 c6 c7 c8 c9 c10
  go_wp2_with fail
  refine (unhide HI _ ((unhide HTT).below hB3)).mono ?_
  rintro e w4 ⟨rfl, hb4⟩
  have hB4 := hB3.trans (hb4.mono hB3.size)
  clear hb4 hB3
  go_wp2
  go_ret
  exact ⟨rfl, hB4⟩
end Go.Proofs.YtiinpdkgnflmeaaDoor
