/-
  The draws' choice from a list of texts.
-/
import Derived.Test.YtpglekkaplfdgaaDoorDrawP
namespace Go.Proofs.YtpglekkaplfdgaaDoor
open Go.RowKit

set_option maxRecDepth 100000 in
set_option maxHeartbeats 1000000 in
theorem l01Pick (c g cap : Nat) (xs : List ByteArray) (w : World) (hc : Cur w c) (hne : g ≠ c) (hp : 0 < xs.length) (hm : xs.length ≤ 1000) (hcell : ∀ i (hi : i < xs.length), w.cell? ⟨g, i, none⟩ = some (.string xs[i])) (hgl : g < w.heap.size) :
    Calls Tryd.prog 58 #[.pointer (some ⟨c, 0, none⟩), .slice (some ⟨g, 0, none⟩) xs.length cap] w fun e w' => ∃ x : ByteArray, e = .returned (.string x) ∧ x ∈ xs ∧ Cur w' c ∧ Keeps c w w' := by
  have HC := hide hc
  have HL := hide hcell
  clear hc hcell
  go_enter Tryd.func58, Tryd.ntmps58
  go_wp2_with fail
  refine (l01Below c _ _ (unhide HC) (by omega) (by omega)).mono ?_
  rintro e w1 ⟨x, rfl, hx0, hx1, hc1, hk1⟩
  obtain ⟨k, rfl⟩ := Int.eq_ofNat_of_zero_le hx0
  have hk : k < xs.length := by omega
  have hcell1 : w1.cell? ⟨g, k, none⟩ = some (.string xs[k]) := (World.cell?_of_block (w := w) (hk1.block g hgl hne)).trans (unhide HL k hk)
  have HC1 := hide hc1
  clear hc1
  go_wp2
  go_ret
  exact ⟨_, rfl, List.getElem_mem hk, unhide HC1, hk1⟩
end Go.Proofs.YtpglekkaplfdgaaDoor
