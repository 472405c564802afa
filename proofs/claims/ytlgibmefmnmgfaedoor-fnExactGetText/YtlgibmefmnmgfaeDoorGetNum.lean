/-
  What the program's GetNum comes to: the same as the model's.
-/
import Derived.Test.YtlgibmefmnmgfaeDoorGetNumS
import Derived.Test.YtlgibmefmnmgfaeDoorIsNo
namespace Go.Proofs.YtlgibmefmnmgfaeDoor
open Go.RowKit

/-- The number at a place that may lie outside. -/
def getAt (s : ByteArray) (i : Int) : Option (Nat × Nat) := if i < 0 then none else Mth.get s.data.toList i.toNat
theorem getAt_neg (s : ByteArray) (i : Int) (h : i < 0) : getAt s i = none := by simp [getAt, h]
theorem getAt_nat (s : ByteArray) (n : Nat) : getAt s n = Mth.get s.data.toList n := by
  unfold getAt; rw [if_neg (by omega)]; rfl

theorem numAtI (s : ByteArray) (i : Int) (w : World) (hs : s.size ≤ maxLen) : Calls Tryd.prog 10 #[.string s, .int .i64 i] w fun e w' => e = .returned (numRes (getAt s i) i) ∧ w = w' := by
  by_cases h : i < 0
  · rw [getAt_neg s i h]; exact numAt_neg s i w h
  · obtain ⟨n, rfl⟩ := Int.eq_ofNat_of_zero_le (show 0 ≤ i by omega)
    rw [getAt_nat]; exact numAt s n w hs
theorem specGetNumI (s : ByteArray) (i : Int) (w : World) (hs : s.size ≤ maxLen) : Calls Tryd.prog 5 #[.string s, .int .i64 i] w fun e w' => e = .returned (getRes (getAt s i) i) ∧ Below w.heap.size w w' := by
  by_cases h : i < 0
  · rw [getAt_neg s i h]
    exact (specGetNum_neg s i w h).mono fun e w' ⟨he, hw⟩ => ⟨he, hw ▸ Below.refl _ _⟩
  · obtain ⟨n, rfl⟩ := Int.eq_ofNat_of_zero_le (show 0 ≤ i by omega)
    rw [getAt_nat]; exact specGetNum s n w hs

set_option maxHeartbeats 1000000 in
theorem implGetNumI (s : ByteArray) (i : Int) (w : World) (hs : s.size ≤ maxLen) (hH : Handle w) : Calls Tryd.prog 6 #[.string s, .int .i64 i] w fun e w' => e = .returned (getRes (getAt s i) i) ∧ Below w.heap.size w w' := by
  have HN := hide (fun w1 => numAtI s i w1 hs)
  have HH := hide hH
  clear hH
  cases hG : getAt s i with
  | none =>
    rw [hG] at HN
    go_enter Tryd.func6, Tryd.ntmps6
    go_wp2_with (first | (go_at_call 10; refine (unhide HN _).mono ?_; rintro e w' ⟨rfl, rfl⟩; simp only [numRes]) | (go_at_call 11; refine (isNo_one _ _ (unhide HH)).mono ?_; rintro e w' ⟨rfl, hbel⟩))
    go_ret2
    exact ⟨rfl, hbel⟩
  | some p =>
    obtain ⟨n, c⟩ := p
    rw [hG] at HN
    go_enter Tryd.func6, Tryd.ntmps6
    go_wp2_with (first | (go_at_call 10; refine (unhide HN _).mono ?_; rintro e w' ⟨rfl, rfl⟩; simp only [numRes]) | (go_at_call 11; refine (isNo_nil _).mono ?_; rintro e w' ⟨rfl, hbel⟩))
    go_ret2
    exact ⟨rfl, hbel⟩

set_option maxHeartbeats 1000000 in
theorem fnExactGetNum_walk (s : ByteArray) (hs : s.size ≤ maxLen) (i : Int) (_hi : (Lit.int .i64 i).wf = true) (w : World) (hH : Handle w) :
    Calls Tryd.prog 3 #[.string s, .int .i64 i] w fun e w' => e = .returned (.bool true) ∧ Below w.heap.size w w' := by
  by_cases hb : 1048576 < s.size
  · clear _hi hH
    go_enter Tryd.func3, Tryd.ntmps3
    go_wp2
    go_ret
    exact ⟨rfl, Below.refl _ _⟩
  · have HS := hide (fun w1 => specGetNumI s i w1 hs)
    have HI := hide (fun w1 => implGetNumI s i w1 hs)
    have HH := hide hH
    clear _hi hH
    cases hG : getAt s i with
    | none =>
      rw [hG] at HS HI
      go_enter Tryd.func3, Tryd.ntmps3
      go_wp2_with (first | (go_at_call 5; refine (unhide HS _).mono ?_; rintro e w1 ⟨rfl, hb1⟩; simp only [getRes]) | (go_at_call 6; refine (unhide HI _ ((unhide HH).below hb1)).mono ?_; rintro e w2 ⟨rfl, hb2⟩; simp only [getRes]))
      go_ret
      exact ⟨rfl, hb1.trans (hb2.mono hb1.size)⟩
    | some p =>
      obtain ⟨n, c⟩ := p
      rw [hG] at HS HI
      go_enter Tryd.func3, Tryd.ntmps3
      go_wp2_with (first | (go_at_call 5; refine (unhide HS _).mono ?_; rintro e w1 ⟨rfl, hb1⟩; simp only [getRes]) | (go_at_call 6; refine (unhide HI _ ((unhide HH).below hb1)).mono ?_; rintro e w2 ⟨rfl, hb2⟩; simp only [getRes]))
      go_ret
      exact ⟨rfl, hb1.trans (hb2.mono hb1.size)⟩
end Go.Proofs.YtlgibmefmnmgfaeDoor
