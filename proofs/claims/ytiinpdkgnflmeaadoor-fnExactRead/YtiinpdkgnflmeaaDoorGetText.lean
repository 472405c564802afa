/-
  What GetText comes to, in the program and in its model: a count as GetNum reads it, at most 1000 and at most what is left, and as many bytes behind it.
-/
import Derived.Test.YtiinpdkgnflmeaaDoorGetNum
import Derived.Test.YtiinpdkgnflmeaaDoorClone
namespace Go.Proofs.YtiinpdkgnflmeaaDoor
open Go.RowKit

/-- What GetText hands back. -/
def textRes (o : Option (ByteArray × Nat)) : Value :=
  match o with
  | none => .tuple #[.string ByteArray.empty, .int .i64 (-1)]
  | some (t, b) => .tuple #[.string t, .int .i64 b]
/-- The text at a place. -/
def textOf (s : ByteArray) (i : Nat) (o : Option (Nat × Nat)) : Option (ByteArray × Nat) :=
  match o with
  | none => none
  | some (n, c) => if 1000 < n ∨ s.size - (i + c) < n then none else some (s.extract (i + c) (i + c + n), i + c + n)

theorem get_some_nat {s : ByteArray} {i : Int} {n c : Nat} (h : getAt s i = some (n, c)) : ∃ k : Nat, i = k ∧ Mth.get s.data.toList k = some (n, c) ∧ n ≤ 4000000000 ∧ k + c ≤ s.size := by
  by_cases h0 : i < 0
  · rw [getAt_neg s i h0] at h; cases h
  · obtain ⟨k, rfl⟩ := Int.eq_ofNat_of_zero_le (show 0 ≤ i by omega)
    have h' : getAt s (k : Int) = some (n, c) := h
    rw [getAt_nat] at h'
    have hb := Mth.get_bound _ _ _ _ h'
    rw [size_toList] at hb
    exact ⟨k, rfl, h', hb.1, hb.2.2.2⟩

set_option maxRecDepth 100000 in
set_option maxHeartbeats 1000000 in
theorem specGetText (s : ByteArray) (i : Int) (w : World) (hs : s.size ≤ maxLen) : Calls Tryd.prog 19 #[.string s, .int .i64 i] w fun e w' => e = .returned (textRes (textOf s i.toNat (getAt s i))) ∧ Below w.heap.size w w' := by
  have HS := hide (fun w1 => specGetNumI s i w1 hs)
  unfold maxLen at hs
  cases hG : getAt s i with
  | none =>
    rw [hG] at HS
    go_enter Tryd.func19, Tryd.ntmps19
    go_wp2_with (go_at_call 18; refine (unhide HS _).mono ?_; rintro e w1 ⟨rfl, hb1⟩; simp only [getRes])
    go_ret2
    exact ⟨rfl, hb1⟩
  | some p =>
    obtain ⟨n, c⟩ := p
    obtain ⟨k, rfl, _, hn, hk⟩ := get_some_nat hG
    rw [hG] at HS
    by_cases hbad : 1000 < n ∨ s.size - (k + c) < n
    · have HR : Hid (textOf s k (some (n, c)) = none) := by unfold textOf; exact if_pos hbad
      rw [Int.toNat_natCast]
      by_cases h1 : 1000 < n
      · clear hbad
        go_enter Tryd.func19, Tryd.ntmps19
        go_wp2_with (go_at_call 18; refine (unhide HS _).mono ?_; rintro e w1 ⟨rfl, hb1⟩; simp only [getRes])
        go_ret2
        exact ⟨by rw [unhide HR]; rfl, hb1⟩
      · have h2 : (s.size : Int) - ((k : Int) + (c : Int)) < (n : Int) := by omega
        clear hbad
        go_enter Tryd.func19, Tryd.ntmps19
        go_wp2_with (go_at_call 18; refine (unhide HS _).mono ?_; rintro e w1 ⟨rfl, hb1⟩; simp only [getRes])
        go_ret2
        exact ⟨by rw [unhide HR]; rfl, hb1⟩
    · have HR : Hid (textOf s k (some (n, c)) = some (s.extract (k + c) (k + c + n), k + c + n)) := by unfold textOf; exact if_neg hbad
      rw [Int.toNat_natCast]
      have h1 : ¬ 1000 < n := by omega
      have h2 : ¬ (s.size : Int) - ((k : Int) + (c : Int)) < (n : Int) := by omega
      clear hbad
      go_enter Tryd.func19, Tryd.ntmps19
      go_wp2_with (go_at_call 18; refine (unhide HS _).mono ?_; rintro e w1 ⟨rfl, hb1⟩; simp only [getRes])
      go_ret2
      exact ⟨by rw [unhide HR]; simp [textRes], hb1⟩
end Go.Proofs.YtiinpdkgnflmeaaDoor
