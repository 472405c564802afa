/-
  The law FnExactDemandTick: it returns true at every argument.
-/
import Derived.Test.YtmflajfddjnmhaaDmS2
import Derived.Test.YtmflajfddjnmhaaDmLaws
import Derived.Test.YtmflajfddjnmhaaDmI
namespace Go.Proofs.Ytmflajfddjnmhaa
open Go.RowKit
open Mth

set_option maxRecDepth 100000 in
set_option maxHeartbeats 1000000 in
theorem fnExactDemandTick_walk (d : Dm) (w : World) : Calls Try.prog 6 #[dmv d] w fun e w' => e = .returned (.bool true) ∧ Below w.heap.size w w' := by
  have HT := hide (fun w1 => toDemand d w1)
  have HI := hide (fun w1 => implDemandTick d w1)
  have HS := hide (fun w1 => specDemandTick d w1)
  generalize d.tick = r at *
  have HE := hide (fun w1 => eqDemand r w1)
  obtain ⟨A, C, O⟩ := d
  obtain ⟨A', C', O'⟩ := r
  go_enter Try.func6, Try.ntmps6
  go_wp2_with fail
  refine (unhide HT _).mono ?_
  rintro e w1 ⟨rfl, hb1⟩
  have hA1 := hide (dm_step (heap_alloc_new w _) hb1)
  have hB1 := (dm_one w _).trans (hb1.mono (by simp))
  clear hb1
  go_wp2_with fail
  refine (unhide HS _).mono ?_
  rintro e w2 ⟨rfl, hb2⟩
  have hA2 := hide (dm_step (unhide hA1) hb2)
  have hB2 := hB1.trans (hb2.mono hB1.size)
  obtain ⟨⟨c0, c1, c2⟩, _⟩ := dm_at (unhide hA2)
  have hz2 := dm_lt (unhide hA2)
  clear hb2 hB1 hA1
  go_wp2_with fail
  refine (unhide HT _).mono ?_
  rintro e w3 ⟨rfl, hb3⟩
  have hW3 := hide (dm_step (heap_alloc_new w2 _) hb3)
  have hB3 := (hB2.alloc hB2.size _).trans (hb3.mono (by have := hB2.size; simp; omega))
  clear hb3 hB2 hA2 c0 c1 c2
  go_wp2_with fail
  refine (unhide HI _).mono ?_
  rintro e w4 ⟨rfl, hb4⟩
  have hW4 := hide (dm_step (unhide hW3) hb4)
  have hB4 := hB3.trans (hb4.mono hB3.size)
  obtain ⟨⟨c0, c1, c2⟩, _⟩ := dm_at (unhide hW4)
  have hz4 := dm_lt (unhide hW4)
  clear hb4 hB3 hW3
  go_wp2_with fail
  refine (unhide HE _).mono ?_
  rintro e w5 ⟨rfl, hb5⟩
  go_wp2
  go_ret
  exact ⟨rfl, (hB4.alloc hB4.size _).trans (hb5.mono (by have := hB4.size; simp; omega))⟩
end Go.Proofs.Ytmflajfddjnmhaa
