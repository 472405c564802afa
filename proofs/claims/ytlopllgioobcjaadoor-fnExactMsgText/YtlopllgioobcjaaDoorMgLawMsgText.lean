/-
  The law FnExactMsgText returns true at every message.
-/
import Derived.Test.YtlopllgioobcjaaDoorMgLaws
import Derived.Test.YtlopllgioobcjaaDoorMgTxS
import Derived.Test.YtlopllgioobcjaaDoorMgTxI
namespace Go.Proofs.YtlopllgioobcjaaDoor
open Go.RowKit
open Mth

set_option maxRecDepth 100000 in
set_option maxHeartbeats 2000000 in
theorem fnExactMsgText_walk (m : Mg) (hs : m.k.size ≤ maxLen) (w : World) (hT0 : Tens w) : Calls Tryd.prog 4 #[mgv m] w fun e w' => e = .returned (.bool true) ∧ Below w.heap.size w w' := by
  have HTN := hide hT0
  clear hT0
  by_cases hbig : 1048576 < m.k.size
  · have HZ := hide (fun w1 => szMsg_big m w1 hbig hs)
    clear hbig hs
    obtain ⟨K, F, T, I, L, k, N⟩ := m
    go_enter Tryd.func4, Tryd.ntmps4
    go_wp2_with fail
    refine (unhide HZ _).mono ?_
    rintro e w1 ⟨rfl, hb1⟩
    go_wp2_with fail
    go_ret
    exact ⟨rfl, (below_one w _).trans (hb1.mono (by simp))⟩
  have hsm : m.k.size ≤ 1048576 := by omega
  have HT := hide (fun w1 => toMsg m w1)
  have HZ := hide (fun w1 => szMsg m w1 hsm)
  have HI := hide (fun w1 h => implMsgText m w1 h)
  have HS := hide (fun w1 => specMsgText m w1 hs)
  generalize msgTx m = r at *
  obtain ⟨K, F, T, I, L, k, N⟩ := m
  dsimp only at hsm
  have hn : ¬ ((1048576 : Int) - k.size < 0) := by omega
  clear hs hbig hsm
  go_enter Tryd.func4, Tryd.ntmps4
  go_wp2_with fail
  refine (unhide HZ _).mono ?_
  rintro e w0 ⟨rfl, hb0⟩
  have hA0 := hide (blk_step (heap_alloc_new w _) hb0)
  have hB0 := (below_one w _).trans (hb0.mono (by simp))
  obtain ⟨c0, c1, c2, c3, c4, c5, c6⟩ := cells7 (unhide hA0)
  have hz0 := blk_lt (unhide hA0)
  clear hb0
  dsimp only
  go_wp2_with fail
  refine (unhide HT _).mono ?_
  rintro e w1 ⟨rfl, hb1⟩
  have hA1 := hide (blk_step (unhide hA0) hb1)
  have hB1 := hB0.trans (hb1.mono hB0.size)
  clear hb1 hB0 hA0 c0 c1 c2 c3 c4 c5 c6
  go_wp2_with fail
  refine (unhide HS _).mono ?_
  rintro e w2 ⟨rfl, hb2⟩
  have hA2 := hide (blk_step (unhide hA1) hb2)
  have hB2 := hB1.trans (hb2.mono hB1.size)
  obtain ⟨c0, c1, c2, c3, c4, c5, c6⟩ := cells7 (unhide hA2)
  have hz2 := blk_lt (unhide hA2)
  clear hb2 hB1 hA1
  go_wp2_with fail
  refine (unhide HT _).mono ?_
  rintro e w3 ⟨rfl, hb3⟩
  have hB3 := hB2.trans (hb3.mono hB2.size)
  clear hb3 hB2 hA2 c0 c1 c2 c3 c4 c5 c6
  go_wp2_with fail
  refine (unhide HI _ ((unhide HTN).below hB3)).mono ?_
  rintro e w4 ⟨rfl, hb4⟩
  have hB4 := hB3.trans (hb4.mono hB3.size)
  clear hb4 hB3
  go_wp2
  go_ret
  exact ⟨rfl, hB4⟩
end Go.Proofs.YtlopllgioobcjaaDoor
