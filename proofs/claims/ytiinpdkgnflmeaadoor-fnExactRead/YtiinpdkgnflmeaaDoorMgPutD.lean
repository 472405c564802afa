/-
  A message's bytes, in plain terms.
-/
import Derived.Test.YtiinpdkgnflmeaaDoorMgI
import Derived.Test.YtiinpdkgnflmeaaDoorPutAnyS
namespace Go.Proofs.YtiinpdkgnflmeaaDoor
open Go.RowKit
open Mth

/-- The kind's byte. -/
def kb (K : Int) : ByteArray := ⟨[UInt8.ofNat K.toNat].toArray⟩
/-- A message's bytes. -/
def mgBytes (m : Mg) : ByteArray := kb m.K ++ putS m.F ++ putS m.T ++ putS m.I ++ putS m.L ++ putT m.k ++ putS m.N
def putMsg (m : Mg) : ByteArray := if mgOk m = true then mgBytes m else ByteArray.empty
theorem putMsg_yes {m : Mg} (h : mgOk m = true) : putMsg m = mgBytes m := by unfold putMsg; rw [if_pos h]
theorem putMsg_no {m : Mg} (h : mgOk m = false) : putMsg m = ByteArray.empty := by unfold putMsg; rw [if_neg (by rw [h]; simp)]
theorem kind_in {m : Mg} (h : mgOk m = true) : 0 ≤ m.K ∧ m.K ≤ 2 := by
  unfold mgOk at h
  simp only [Bool.and_eq_true] at h
  obtain ⟨_, h⟩ := h
  split at h
  · omega
  · split at h
    · omega
    · split at h
      · omega
      · cases h
theorem kb_size (K : Int) : (kb K).size = 1 := rfl
theorem conv_kind (w : World) (g : Nat) (K : Int) (h : 0 ≤ K ∧ K ≤ 2) (hc : w.cell? ⟨g, 0, none⟩ = some (.int .u8 K)) : (convert 68 9 (.slice (some ⟨g, 0, none⟩) 1 1)).run Tryd.prog w = .ok (.string (kb K)) w := by
  refine run_convert_bytes_back (P := Tryd.prog) w 68 9 5 ⟨g, 0, none⟩ 1 [UInt8.ofNat K.toNat] Tryd.underlying68 Tryd.underlying5 Tryd.underlying9 ?_
  intro j hj
  obtain rfl : j = 0 := by simpa using hj
  show w.cell? ⟨g, 0, none⟩ = _
  rw [hc]
  simp only [List.getElem_cons_zero]
  rw [toNat_byte _ (by omega)]
  congr 2
  omega
theorem below_size {w w' : World} (h : Below w.heap.size w w') : w.heap.size ≤ w'.heap.size := h.size

end Go.Proofs.YtiinpdkgnflmeaaDoor
