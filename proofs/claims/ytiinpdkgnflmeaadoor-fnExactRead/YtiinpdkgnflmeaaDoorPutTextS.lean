/-
  What the model's PutText comes to: the count of the text's bytes as PutNum puts it, and the text; the empty text where it is longer than 1000 bytes.
-/
import Derived.Test.YtiinpdkgnflmeaaDoorPutNumS
namespace Go.Proofs.YtiinpdkgnflmeaaDoor
open Go.RowKit

/-- A text's bytes ahead of which the count stands. -/
def putText (s : ByteArray) : ByteArray := ⟨(Mth.put s.size ++ s.data.toList).toArray⟩

theorem add_put (s : ByteArray) : (⟨(Mth.put s.size).toArray⟩ : ByteArray) ++ s = putText s := by
  apply ByteArray.ext
  simp [putText]

theorem specPutText_none (s : ByteArray) (w : World) (h : 1000 < s.size) :
    Calls Tryd.prog 42 #[.string s] w fun e w' => e = .returned (.string ByteArray.empty) ∧ w = w' := by
  go_enter Tryd.func42, Tryd.ntmps42
  go_wp2
  go_ret
  exact ⟨rfl, rfl⟩

set_option maxRecDepth 100000 in
set_option maxHeartbeats 400000 in
theorem specPutText (s : ByteArray) (w : World) (h : s.size ≤ 1000) :
    Calls Tryd.prog 42 #[.string s] w fun e w' => e = .returned (.string (putText s)) ∧ Below w.heap.size w w' := by
  have hl := Mth.put_length s.size
  have hadd := fun w1 => run_string_add_sum (P := Tryd.prog) w1 ⟨(Mth.put s.size).toArray⟩ s (by rw [size_of_list]; omega)
  simp only [add_put] at hadd
  go_enter Tryd.func42, Tryd.ntmps42
  go_wp2_with (go_at_call 39; refine (specPutNum s.size _ (by omega)).mono ?_; rintro e w' ⟨rfl, hbel⟩)
  go_ret
  exact ⟨rfl, by assumption⟩
end Go.Proofs.YtiinpdkgnflmeaaDoor
