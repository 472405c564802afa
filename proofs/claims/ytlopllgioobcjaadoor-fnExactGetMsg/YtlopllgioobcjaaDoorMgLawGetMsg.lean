/-
  The law FnExactGetMsg returns true at every text.
-/
import Derived.Test.YtlopllgioobcjaaDoorMgGetS
import Derived.Test.YtlopllgioobcjaaDoorMgGetI
import Derived.Test.YtlopllgioobcjaaDoorMgEq
import Derived.Test.YtlopllgioobcjaaDoorMgLaws
namespace Go.Proofs.YtlopllgioobcjaaDoor
open Go.RowKit
open Mth

set_option maxRecDepth 100000 in
set_option maxHeartbeats 2000000 in
theorem fnExactGetMsg_walk (s : ByteArray) (hs : s.size ≤ maxLen) (w : World) (hH : Handle w) : Calls Tryd.prog 3 #[.string s] w fun e w' => e = .returned (.bool true) ∧ Below w.heap.size w w' := by
  by_cases hbig : 1048576 < s.size
  · clear hs hH
    go_enter Tryd.func3, Tryd.ntmps3
    go_wp2_with fail
    go_ret
    exact ⟨rfl, Below.refl _ _⟩
  have HS := hide (fun w1 => specGetMsg s hs w1)
  have HI := hide (fun w1 h => implGetMsg s hs w1 h)
  have HQ := hide (fun w1 => eqMsg (getMg s) w1)
  unfold getV at HS HI
  generalize getOk s = ok at *
  generalize getMg s = m at *
  have HH := hide hH
  clear hs hH
  obtain ⟨K, F, T, I, L, k, N⟩ := m
  go_enter Tryd.func3, Tryd.ntmps3
  go_wp2_with fail
  refine (unhide HS _).mono ?_
  rintro e w1 ⟨rfl, hb1⟩
  have HB1 := hide hb1
  clear hb1
  go_wp2_with fail
  have hB2 : Below w.heap.size w (w1.alloc (.cells #[.int .i64 K, .int .i64 F, .int .i64 T, .int .i64 I, .int .i64 L, .string k, .int .i64 N] 23)) := (unhide HB1).alloc (unhide HB1).size _
  refine (unhide HI _ ((unhide HH).below hB2)).mono ?_
  rintro e w3 ⟨rfl, hb3⟩
  have hW3 := blk_step (heap_alloc_new w1 _) hb3
  have hB3 := hB2.trans (hb3.mono hB2.size)
  obtain ⟨c0, c1, c2, c3, c4, c5, c6⟩ := cells7 hW3
  have hz3 := blk_lt hW3
  have HB3 := hide hB3
  clear hb3 hB2 hW3 hB3 HB1
  go_wp2_with fail
  refine (unhide HQ _).mono ?_
  rintro e w4 ⟨rfl, hb4⟩
  have hB4 := ((unhide HB3).alloc (unhide HB3).size (.cells #[.int .i64 K, .int .i64 F, .int .i64 T, .int .i64 I, .int .i64 L, .string k, .int .i64 N] 23)).trans (hb4.mono (by have := (unhide HB3).size; simp; omega))
  clear hb4
  cases ok
  all_goals
    go_wp2_with fail
    go_ret
    exact ⟨rfl, hB4⟩
end Go.Proofs.YtlopllgioobcjaaDoor
