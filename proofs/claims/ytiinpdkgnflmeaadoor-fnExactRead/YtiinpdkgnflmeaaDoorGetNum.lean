/-
  What the program's GetNum comes to: the same as the model's.
-/
import Derived.Test.YtiinpdkgnflmeaaDoorGetNumS
import Derived.Test.YtiinpdkgnflmeaaDoorIsNo
namespace Go.Proofs.YtiinpdkgnflmeaaDoor
open Go.RowKit

/-- The number at a place that may lie outside. -/
def getAt (s : ByteArray) (i : Int) : Option (Nat × Nat) := if i < 0 then none else Mth.get s.data.toList i.toNat
theorem getAt_neg (s : ByteArray) (i : Int) (h : i < 0) : getAt s i = none := by simp [getAt, h]
theorem getAt_nat (s : ByteArray) (n : Nat) : getAt s n = Mth.get s.data.toList n := by
  unfold getAt; rw [if_neg (by omega)]; rfl

theorem numAtI (s : ByteArray) (i : Int) (w : World) (hs : s.size ≤ maxLen) : Calls Tryd.prog 85 #[.string s, .int .i64 i] w fun e w' => e = .returned (numRes (getAt s i) i) ∧ w = w' := by
  by_cases h : i < 0
  · rw [getAt_neg s i h]; exact numAt_neg s i w h
  · obtain ⟨n, rfl⟩ := Int.eq_ofNat_of_zero_le (show 0 ≤ i by omega)
    rw [getAt_nat]; exact numAt s n w hs
theorem specGetNumI (s : ByteArray) (i : Int) (w : World) (hs : s.size ≤ maxLen) : Calls Tryd.prog 18 #[.string s, .int .i64 i] w fun e w' => e = .returned (getRes (getAt s i) i) ∧ Below w.heap.size w w' := by
  by_cases h : i < 0
  · rw [getAt_neg s i h]
    exact (specGetNum_neg s i w h).mono fun e w' ⟨he, hw⟩ => ⟨he, hw ▸ Below.refl _ _⟩
  · obtain ⟨n, rfl⟩ := Int.eq_ofNat_of_zero_le (show 0 ≤ i by omega)
    rw [getAt_nat]; exact specGetNum s n w hs

set_option maxRecDepth 100000 in
set_option maxHeartbeats 1000000 in
theorem implGetNumI (s : ByteArray) (i : Int) (w : World) (hs : s.size ≤ maxLen) (hH : Handle w) : Calls Tryd.prog 73 #[.string s, .int .i64 i] w fun e w' => e = .returned (getRes (getAt s i) i) ∧ Below w.heap.size w w' := by
  have HN := hide (fun w1 => numAtI s i w1 hs)
  have HH := hide hH
  clear hH
  cases hG : getAt s i with
  | none =>
    rw [hG] at HN
    go_enter Tryd.func73, Tryd.ntmps73
    go_wp2_with (first | (go_at_call 85; refine (unhide HN _).mono ?_; rintro e w' ⟨rfl, rfl⟩; simp only [numRes]) | (go_at_call 77; refine (isNo_one _ _ (unhide HH)).mono ?_; rintro e w' ⟨rfl, hbel⟩))
    go_ret2
    exact ⟨rfl, hbel⟩
  | some p =>
    obtain ⟨n, c⟩ := p
    rw [hG] at HN
    go_enter Tryd.func73, Tryd.ntmps73
    go_wp2_with (first | (go_at_call 85; refine (unhide HN _).mono ?_; rintro e w' ⟨rfl, rfl⟩; simp only [numRes]) | (go_at_call 77; refine (isNo_nil _).mono ?_; rintro e w' ⟨rfl, hbel⟩))
    go_ret2
    exact ⟨rfl, hbel⟩
end Go.Proofs.YtiinpdkgnflmeaaDoor
