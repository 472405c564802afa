/-
  What PutNum and PutText hand back at whatever argument: the model's.
-/
import Derived.Test.YtiinpdkgnflmeaaDoorPutTextS
namespace Go.Proofs.YtiinpdkgnflmeaaDoor
open Go.RowKit

/-- What PutNum hands back at whatever number. -/
def putS (n : Int) : ByteArray := if 0 ≤ n ∧ n ≤ 4000000000 then ⟨(Mth.put n.toNat).toArray⟩ else ByteArray.empty
theorem specPutAny (n : Int) (w : World) : Calls Tryd.prog 39 #[.int .i64 n] w fun e w' => e = .returned (.string (putS n)) ∧ Below w.heap.size w w' := by
  unfold putS
  by_cases h : 0 ≤ n ∧ n ≤ 4000000000
  · rw [if_pos h]
    exact specPutNumI n w h.1 h.2
  · rw [if_neg h]
    exact (specPutNum_none n w (by omega)).mono fun e w' ⟨he, hw⟩ => ⟨he, hw ▸ Below.refl _ _⟩
/-- What PutText hands back at whatever text. -/
def putT (s : ByteArray) : ByteArray := if s.size ≤ 1000 then putText s else ByteArray.empty
theorem specPutTAny (s : ByteArray) (w : World) : Calls Tryd.prog 42 #[.string s] w fun e w' => e = .returned (.string (putT s)) ∧ Below w.heap.size w w' := by
  unfold putT
  by_cases h : s.size ≤ 1000
  · rw [if_pos h]; exact specPutText s w h
  · rw [if_neg h]; exact (specPutText_none s w (by omega)).mono fun e w' ⟨he, hw⟩ => ⟨he, hw ▸ Below.refl _ _⟩
theorem putS_size (n : Int) : (putS n).size ≤ 6 := by
  unfold putS
  split
  · rw [size_of_list]; exact Mth.put_length _
  · decide
theorem putT_size (x : ByteArray) : (putT x).size ≤ 1006 := by
  unfold putT
  split
  · unfold putText; rw [size_of_list, List.length_append, size_toList]; have := Mth.put_length x.size; omega
  · decide
end Go.Proofs.YtiinpdkgnflmeaaDoor
