/-
  The program's GetText, and the law's walk.
-/
import Derived.Test.YtiinpdkgnflmeaaDoorGetText
namespace Go.Proofs.YtiinpdkgnflmeaaDoor
open Go.RowKit

/-- The two errors that textAt hands on. -/
def textErr (o : Option (Nat × Nat)) (i : Int) : Value :=
  match o with
  | none => .iface 121 (.agg #[.iface 121 (.agg #[.iface 123 (.agg #[.int .i64 i])])])
  | some _ => .iface 121 (.agg #[.iface 123 (.agg #[.int .i64 i])])
/-- What textAt hands back. -/
def textAtRes (t : Option (ByteArray × Nat)) (o : Option (Nat × Nat)) (i : Int) : Value :=
  match t with
  | none => .tuple #[.string ByteArray.empty, .int .i64 0, textErr o i]
  | some (x, b) => .tuple #[.string x, .int .i64 b, .nilIface]

set_option maxRecDepth 100000 in
set_option maxHeartbeats 1000000 in
theorem textAt (s : ByteArray) (i : Int) (w : World) (hs : s.size ≤ maxLen) : Calls Tryd.prog 76 #[.string s, .int .i64 i] w fun e w' => e = .returned (textAtRes (textOf s i.toNat (getAt s i)) (getAt s i) i) ∧ Below w.heap.size w w' := by
  have HS := hide (fun w1 => numAtI s i w1 hs)
  unfold maxLen at hs
  cases hG : getAt s i with
  | none =>
    rw [hG] at HS
    go_enter Tryd.func76, Tryd.ntmps76
    go_wp2_with (go_at_call 85; refine (unhide HS _).mono ?_; rintro e w1 ⟨rfl, rfl⟩; simp only [numRes])
    go_ret3
    exact ⟨rfl, Below.refl _ _⟩
  | some p =>
    obtain ⟨n, c⟩ := p
    obtain ⟨k, rfl, _, hn, hk⟩ := get_some_nat hG
    rw [hG] at HS
    by_cases hbad : 1000 < n ∨ s.size - (k + c) < n
    · have HR : Hid (textOf s k (some (n, c)) = none) := by unfold textOf; exact if_pos hbad
      rw [Int.toNat_natCast]
      by_cases h1 : 1000 < n
      · clear hbad
        go_enter Tryd.func76, Tryd.ntmps76
        go_wp2_with (first | (go_at_call 85; refine (unhide HS _).mono ?_; rintro e w1 ⟨rfl, rfl⟩; simp only [numRes]) | (go_at_call 86; refine (noNumberAt _ _).mono ?_; rintro e w' ⟨rfl, rfl⟩))
        go_ret3
        exact ⟨by rw [unhide HR]; rfl, Below.refl _ _⟩
      · have h2 : (s.size : Int) - ((k : Int) + (c : Int)) < (n : Int) := by omega
        clear hbad
        go_enter Tryd.func76, Tryd.ntmps76
        go_wp2_with (first | (go_at_call 85; refine (unhide HS _).mono ?_; rintro e w1 ⟨rfl, rfl⟩; simp only [numRes]) | (go_at_call 86; refine (noNumberAt _ _).mono ?_; rintro e w' ⟨rfl, rfl⟩))
        go_ret3
        exact ⟨by rw [unhide HR]; rfl, Below.refl _ _⟩
    · have HR : Hid (textOf s k (some (n, c)) = some (s.extract (k + c) (k + c + n), k + c + n)) := by unfold textOf; exact if_neg hbad
      rw [Int.toNat_natCast]
      have h1 : ¬ 1000 < n := by omega
      have h2 : ¬ (s.size : Int) - ((k : Int) + (c : Int)) < (n : Int) := by omega
      have hz : (s.extract (k + c) (k + c + n)).size ≤ 281474976710656 := by rw [ByteArray.size_extract]; omega
      clear hbad
      go_enter Tryd.func76, Tryd.ntmps76
      go_wp2_with (first | (go_at_call 85; refine (unhide HS _).mono ?_; rintro e w1 ⟨rfl, rfl⟩; simp only [numRes]) | (go_at_call 87; refine (clone _ _ hz).mono ?_; rintro e w2 ⟨rfl, hb2⟩))
      go_ret3
      exact ⟨by rw [unhide HR]; simp [textAtRes], hb2⟩

set_option maxRecDepth 100000 in
set_option maxHeartbeats 1000000 in
theorem implGetText (s : ByteArray) (i : Int) (w : World) (hs : s.size ≤ maxLen) (hH : Handle w) : Calls Tryd.prog 60 #[.string s, .int .i64 i] w fun e w' => e = .returned (textRes (textOf s i.toNat (getAt s i))) ∧ Below w.heap.size w w' := by
  have HN := hide (fun w1 => textAt s i w1 hs)
  have HH := hide hH
  clear hH
  cases hT : textOf s i.toNat (getAt s i) with
  | none =>
    rw [hT] at HN
    cases hG : getAt s i with
    | none =>
      rw [hG] at HN
      go_enter Tryd.func60, Tryd.ntmps60
      go_wp2_with (first | (go_at_call 76; refine (unhide HN _).mono ?_; rintro e w1 ⟨rfl, hb1⟩; simp only [textAtRes, textErr]) | (go_at_call 77; refine (isNo_two _ _ ((unhide HH).below hb1)).mono ?_; rintro e w2 ⟨rfl, hb2⟩))
      go_ret2
      exact ⟨rfl, hb1.trans (hb2.mono hb1.size)⟩
    | some p =>
      rw [hG] at HN
      go_enter Tryd.func60, Tryd.ntmps60
      go_wp2_with (first | (go_at_call 76; refine (unhide HN _).mono ?_; rintro e w1 ⟨rfl, hb1⟩; simp only [textAtRes, textErr]) | (go_at_call 77; refine (isNo_one _ _ ((unhide HH).below hb1)).mono ?_; rintro e w2 ⟨rfl, hb2⟩))
      go_ret2
      exact ⟨rfl, hb1.trans (hb2.mono hb1.size)⟩
  | some p =>
    obtain ⟨x, b⟩ := p
    rw [hT] at HN
    go_enter Tryd.func60, Tryd.ntmps60
    go_wp2_with (first | (go_at_call 76; refine (unhide HN _).mono ?_; rintro e w1 ⟨rfl, hb1⟩; simp only [textAtRes]) | (go_at_call 77; refine (isNo_nil _).mono ?_; rintro e w2 ⟨rfl, hb2⟩))
    go_ret2
    exact ⟨rfl, hb1.trans (hb2.mono hb1.size)⟩
end Go.Proofs.YtiinpdkgnflmeaaDoor
