/-
  The law FnExactDemandOk: it returns true at every argument.
-/
import Derived.Test.YtmflajfddjnmhaaDmS
import Derived.Test.YtmflajfddjnmhaaDmLaws
import Derived.Test.YtmflajfddjnmhaaDmI0
namespace Go.Proofs.Ytmflajfddjnmhaa
open Go.RowKit
open Mth

set_option maxRecDepth 100000 in
set_option maxHeartbeats 1000000 in
theorem fnExactDemandOk_walk (d : Dm) (w : World) : Calls Try.prog 4 #[dmv d] w fun e w' => e = .returned (.bool true) ∧ Below w.heap.size w w' := by
  have HT := hide (fun w1 => toDemand d w1)
  have HI := hide (fun w1 => implDemandOk d w1)
  have HS := hide (fun w1 => specDemandOk d w1)
  generalize decide d.Ok = r at *
  obtain ⟨A, C, O⟩ := d
  go_enter Try.func4, Try.ntmps4
  go_wp2_with fail
  refine (unhide HT _).mono ?_
  rintro e w1 ⟨rfl, hb1⟩
  have hA1 := hide (dm_step (heap_alloc_new w _) hb1)
  have hB1 := (dm_one w _).trans (hb1.mono (by simp))
  clear hb1
  go_wp2_with fail
  refine (unhide HS _).mono ?_
  rintro e w2 ⟨rfl, hb2⟩
  have hA2 := hide (dm_step (unhide hA1) hb2)
  have hB2 := hB1.trans (hb2.mono hB1.size)
  obtain ⟨⟨c0, c1, c2⟩, _⟩ := dm_at (unhide hA2)
  have hz2 := dm_lt (unhide hA2)
  clear hb2 hB1 hA1
  go_wp2_with fail
  refine (unhide HT _).mono ?_
  rintro e w3 ⟨rfl, hb3⟩
  have hB3 := hB2.trans (hb3.mono hB2.size)
  clear hb3 hB2 hA2 c0 c1 c2
  go_wp2_with fail
  refine (unhide HI _).mono ?_
  rintro e w4 ⟨rfl, hb4⟩
  have hB4 := hB3.trans (hb4.mono hB3.size)
  clear hb4 hB3
  go_wp2
  go_ret
  exact ⟨rfl, hB4⟩
end Go.Proofs.Ytmflajfddjnmhaa
