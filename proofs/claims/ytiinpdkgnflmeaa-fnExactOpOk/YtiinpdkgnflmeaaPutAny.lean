/-
  What PutNum and PutText hand back at whatever argument: the program's.
-/
import Derived.Test.YtiinpdkgnflmeaaPutText
import Derived.Test.YtiinpdkgnflmeaaPutAnyS
namespace Go.Proofs.Ytiinpdkgnflmeaa
open Go.RowKit

theorem implPutAny (n : Int) (w : World) : Calls Try.prog 21 #[.int .i64 n] w fun e w' => e = .returned (.string (putS n)) ∧ Below w.heap.size w w' := by
  unfold putS
  by_cases h : 0 ≤ n ∧ n ≤ 4000000000
  · rw [if_pos h]
    obtain ⟨m, rfl⟩ := Int.eq_ofNat_of_zero_le h.1
    exact implPutNum m w (by omega)
  · rw [if_neg h]
    exact (implPutNum_none n w (by omega)).mono fun e w' ⟨he, hw⟩ => ⟨he, hw ▸ Below.refl _ _⟩
theorem implPutTAny (s : ByteArray) (w : World) : Calls Try.prog 22 #[.string s] w fun e w' => e = .returned (.string (putT s)) ∧ Below w.heap.size w w' := by
  unfold putT
  by_cases h : s.size ≤ 1000
  · rw [if_pos h]; exact implPutText s w h
  · rw [if_neg h]; exact (implPutText_none s w (by omega)).mono fun e w' ⟨he, hw⟩ => ⟨he, hw ▸ Below.refl _ _⟩
end Go.Proofs.Ytiinpdkgnflmeaa
