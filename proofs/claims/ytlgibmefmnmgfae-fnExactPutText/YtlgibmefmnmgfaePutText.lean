/-
  What PutText comes to, in the program and in its model: the count of the text's bytes as PutNum puts it, and the text; the empty text where it is longer than 1000 bytes.
-/
import Derived.Test.YtlgibmefmnmgfaePutNum
namespace Go.Proofs.Ytlgibmefmnmgfae
open Go.RowKit

/-- A text's bytes ahead of which the count stands. -/
def putText (s : ByteArray) : ByteArray := ⟨(Mth.put s.size ++ s.data.toList).toArray⟩

theorem add_put (s : ByteArray) : (⟨(Mth.put s.size).toArray⟩ : ByteArray) ++ s = putText s := by
  apply ByteArray.ext
  simp [putText]

theorem implPutText_none (s : ByteArray) (w : World) (h : 1000 < s.size) :
    Calls Try.prog 10 #[.string s] w fun e w' => e = .returned (.string ByteArray.empty) ∧ w = w' := by
  go_enter Try.func10, Try.ntmps10
  go_wp2
  go_ret
  exact ⟨rfl, rfl⟩
theorem specPutText_none (s : ByteArray) (w : World) (h : 1000 < s.size) :
    Calls Try.prog 9 #[.string s] w fun e w' => e = .returned (.string ByteArray.empty) ∧ w = w' := by
  go_enter Try.func9, Try.ntmps9
  go_wp2
  go_ret
  exact ⟨rfl, rfl⟩

set_option maxHeartbeats 400000 in
theorem implPutText (s : ByteArray) (w : World) (h : s.size ≤ 1000) :
    Calls Try.prog 10 #[.string s] w fun e w' => e = .returned (.string (putText s)) ∧ Below w.heap.size w w' := by
  have hl := Mth.put_length s.size
  have hadd := fun w1 => run_string_add_sum (P := Try.prog) w1 ⟨(Mth.put s.size).toArray⟩ s (by rw [size_of_list]; omega)
  simp only [add_put] at hadd
  go_enter Try.func10, Try.ntmps10
  go_wp2_with (go_at_call 8; refine (implPutNum s.size _ (by omega)).mono ?_; rintro e w' ⟨rfl, hbel⟩)
  go_ret
  exact ⟨rfl, by assumption⟩
set_option maxHeartbeats 400000 in
theorem specPutText (s : ByteArray) (w : World) (h : s.size ≤ 1000) :
    Calls Try.prog 9 #[.string s] w fun e w' => e = .returned (.string (putText s)) ∧ Below w.heap.size w w' := by
  have hl := Mth.put_length s.size
  have hadd := fun w1 => run_string_add_sum (P := Try.prog) w1 ⟨(Mth.put s.size).toArray⟩ s (by rw [size_of_list]; omega)
  simp only [add_put] at hadd
  go_enter Try.func9, Try.ntmps9
  go_wp2_with (go_at_call 7; refine (specPutNum s.size _ (by omega)).mono ?_; rintro e w' ⟨rfl, hbel⟩)
  go_ret
  exact ⟨rfl, by assumption⟩
end Go.Proofs.Ytlgibmefmnmgfae
