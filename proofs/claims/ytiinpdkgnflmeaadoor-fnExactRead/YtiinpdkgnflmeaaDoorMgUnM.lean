/-
  A message read off its frame, in plain terms: the program's way and the model's come to the same.
-/
import Derived.Test.YtiinpdkgnflmeaaDoorMgGetV
import Derived.Test.YtiinpdkgnflmeaaDoorMgFrS
namespace Go.Proofs.YtiinpdkgnflmeaaDoor
open Go.RowKit
open Mth

def restOf (s : ByteArray) : ByteArray := s.extract 4 (min s.size 1006)
def unT (s : ByteArray) : ByteArray := rtS (restOf s) 0
def unZ (s : ByteArray) : Int := rtE (restOf s) 0
def unOk (s : ByteArray) : Bool := decide (4 ≤ s.size) && decide (0 ≤ unZ s) && decide (wordB (sumN (unT s)) = s.extract 0 4) && decide (4 + unZ s = s.size) && getOk (unT s)
def unMg (s : ByteArray) : Mg := if unOk s = true then getMg (unT s) else mg0
def unV (s : ByteArray) : Value := .tuple #[mgv (unMg s), .bool (unOk s)]
theorem rest_list (s : ByteArray) (h : s.size ≤ 1006) : (restOf s).data.toList = s.data.toList.drop 4 := by
  unfold restOf
  rw [Lib.extract_data, Nat.min_eq_left h]
  apply List.take_of_length_le
  simp
theorem rest_size (s : ByteArray) : (restOf s).size = min s.size 1006 - 4 := by
  unfold restOf
  rw [ByteArray.size_extract]
  omega
theorem get_shift (s : ByteArray) (h : s.size ≤ 1006) : getAt s 4 = getAt (restOf s) 0 := by
  have e1 := getAt_nat s 4
  have e2 := getAt_nat (restOf s) 0
  rw [show ((4 : Nat) : Int) = 4 from rfl] at e1
  rw [show ((0 : Nat) : Int) = 0 from rfl] at e2
  rw [e1, e2]
  unfold Mth.get
  rw [rest_list s h]
  simp
theorem text_shift (s : ByteArray) (h4 : 4 ≤ s.size) (h : s.size ≤ 1006) : (rtE s 4 < 0 ∧ unZ s < 0) ∨ (0 ≤ unZ s ∧ rtE s 4 = 4 + unZ s ∧ rtS s 4 = unT s) := by
  unfold unZ unT rtE rtS
  rw [get_shift s h]
  have hr := rest_size s
  rw [Nat.min_eq_left h] at hr
  cases hG : getAt (restOf s) 0 with
  | none => left; simp [textOf, txtE]
  | some p =>
    obtain ⟨n, c⟩ := p
    obtain ⟨k, hk0, hk, hc, hn, _⟩ := read_put hG
    have hk1 : k = 0 := by omega
    subst hk1
    unfold textOf
    simp only
    have e4 : (4 : Int).toNat = 4 := rfl
    have e0 : (0 : Int).toNat = 0 := rfl
    rw [e4, e0]
    by_cases hb : 1000 < n ∨ s.size - (4 + c) < n
    · left
      rw [if_pos hb, if_pos (by omega)]
      simp [txtE]
    · right
      rw [if_neg hb, if_neg (by omega)]
      simp only [txtE, txtS]
      refine ⟨by omega, by omega, ?_⟩
      apply ByteArray.ext
      apply Array.ext'
      rw [Lib.extract_data, Lib.extract_data]
      rw [rest_list s h, List.drop_drop]
      congr 1
      · omega
      · congr 1; omega
theorem put_two (n : Nat) (h : n ≤ 1000) : (Mth.put n).length ≤ 2 := by
  unfold Mth.put
  by_cases h1 : n ≤ 127
  · rw [putF_small _ _ h1]; simp
  · rw [putF_great _ _ h1, putF_small _ _ (by omega)]; simp
theorem putT_two (s : ByteArray) : (putT s).size ≤ 1002 := by
  unfold putT
  split
  · rename_i h
    unfold putText
    have := put_two s.size h
    rw [size_of_list, List.length_append, size_toList]
    omega
  · decide
/-- What a read message's bytes are. -/
theorem got_bytes {t : ByteArray} (h : getOk t = true) : mgOk (getMg t) = true ∧ mgBytes (getMg t) = t := by
  have h0 : 0 < t.size := by unfold getOk at h; simp only [Bool.and_eq_true, decide_eq_true_iff] at h; exact h.1.1
  have hm : mgOk (cand t) = true := by unfold getOk at h; simp only [Bool.and_eq_true] at h; exact h.2
  have hs := h
  rw [getOk_spec h0] at hs
  simp only [Bool.and_eq_true, decide_eq_true_iff] at hs
  have e : getMg t = cand t := by unfold getMg; rw [if_pos h]
  rw [e]
  refine ⟨hm, ?_⟩
  rw [← putMsg_yes hm]
  exact hs.2
theorem list_of_eq {a b : ByteArray} : a = b ↔ a.data.toList = b.data.toList := by
  constructor
  · intro h; rw [h]
  · intro h; exact ByteArray.ext (Array.ext' h)
theorem frame_split (s t : ByteArray) : frameT t = s ↔ wordB (sumN t) = s.extract 0 4 ∧ (putT t).data.toList = s.data.toList.drop 4 := by
  have hw : (wordB (sumN t)).data.toList.length = 4 := by rw [size_toList]; exact wordB_size _
  have e4 : (s.extract 0 4).data.toList = s.data.toList.take 4 := by rw [Lib.extract_data]; rfl
  rw [list_of_eq, list_of_eq, e4]
  unfold frameT
  rw [ByteArray.data_append, Array.toList_append]
  constructor
  · intro h
    rw [← h]
    refine ⟨?_, ?_⟩
    · rw [List.take_append_of_le_length (by omega), List.take_of_length_le (by omega)]
    · rw [← hw, List.drop_left]
  · rintro ⟨h1, h2⟩
    rw [h1, h2, List.take_append_drop]
theorem unOk_spec (s : ByteArray) : unOk s = (decide (0 ≤ rtE s 4) && getOk (rtS s 4) && decide (frm (getMg (rtS s 4)) = s)) ∧ (unOk s = true → rtS s 4 = unT s) := by
  by_cases h4 : 4 ≤ s.size
  · by_cases h6 : s.size ≤ 1006
    · rcases text_shift s h4 h6 with ⟨h1, h2⟩ | ⟨h0, h1, h2⟩
      · have e1 : decide (0 ≤ rtE s 4) = false := decide_eq_false (by omega)
        have e2 : decide (0 ≤ unZ s) = false := decide_eq_false (by omega)
        have e : unOk s = false := by unfold unOk; rw [e2]; simp
        rw [e, e1]
        exact ⟨rfl, fun h => by cases h⟩
      · refine ⟨?_, fun _ => h2⟩
        rw [h2, h1]
        cases hg : getOk (unT s) with
        | false => unfold unOk; rw [hg]; simp
        | true =>
          obtain ⟨g1, g2⟩ := got_bytes hg
          rw [frm_yes g1, g2]
          obtain ⟨_, _, hz, _, hp⟩ := text_piece (s := restOf s) (i := 0) h0
          have hrs := rest_size s
          rw [Nat.min_eq_left h6] at hrs
          have hp2 : (putT (unT s)).data.toList = (s.data.toList.drop 4).take (unZ s).toNat := by
            have : (putT (unT s)).data.toList = ((restOf s).data.toList.take (unZ s).toNat).drop (0 : Int).toNat := hp
            rw [this, rest_list s h6]
            simp
          have hz2 : unZ s ≤ (restOf s).size := hz
          have key : decide (frameT (unT s) = s) = (decide (wordB (sumN (unT s)) = s.extract 0 4) && decide (4 + unZ s = s.size)) := by
            rw [Bool.eq_iff_iff]
            simp only [Bool.and_eq_true, decide_eq_true_iff]
            rw [frame_split s _, hp2]
            refine and_congr_right fun _ => ?_
            constructor
            · intro h
              have hl := congrArg List.length h
              rw [List.length_take, List.length_drop, size_toList] at hl
              omega
            · intro h
              apply List.take_of_length_le
              rw [List.length_drop, size_toList]
              omega
          unfold unOk
          rw [hg, key, decide_eq_true h4, decide_eq_true h0, decide_eq_true (show 0 ≤ 4 + unZ s by omega)]
          simp
    · have hz : unOk s = false := by
        cases h : unOk s with
        | false => rfl
        | true =>
          unfold unOk at h
          simp only [Bool.and_eq_true, decide_eq_true_iff] at h
          obtain ⟨⟨⟨⟨_, h0⟩, _⟩, he⟩, _⟩ := h
          have hz := (text_piece (s := restOf s) (i := 0) h0).2.2.1
          have hz2 : unZ s ≤ (restOf s).size := hz
          have hrs := rest_size s
          omega
      refine ⟨?_, fun h => by rw [hz] at h; cases h⟩
      rw [hz]
      symm
      cases hg : getOk (rtS s 4) with
      | false => simp
      | true =>
        obtain ⟨g1, g2⟩ := got_bytes hg
        rw [frm_yes g1, g2]
        have hne : ¬ frameT (rtS s 4) = s := by
          intro h
          have hsz := congrArg ByteArray.size h
          unfold frameT at hsz
          rw [ByteArray.size_append, wordB_size] at hsz
          have := putT_two (rtS s 4)
          omega
        rw [decide_eq_false hne]
        simp
  · have e1 : getAt s 4 = none := by
      cases hG : getAt s 4 with
      | none => rfl
      | some p =>
        obtain ⟨n, c⟩ := p
        obtain ⟨k, hk0, hk, hc, _⟩ := read_put hG
        omega
    have e2 : rtE s 4 = -1 := by unfold rtE; rw [e1]; simp [textOf, txtE]
    have e : unOk s = false := by unfold unOk; rw [decide_eq_false h4]; simp
    rw [e, e2]
    exact ⟨by simp, fun h => by cases h⟩
theorem rtS_size (s : ByteArray) (i : Int) : (rtS s i).size ≤ 1000 := by
  by_cases h : 0 ≤ rtE s i
  · exact (text_piece h).2.2.2.1
  · unfold rtE at h
    unfold rtS
    cases hG : textOf s i.toNat (getAt s i) with
    | none => simp [txtS]
    | some p => rw [hG] at h; exact absurd (by simp [txtE]) h
theorem rtE_le (s : ByteArray) (i : Int) : rtE s i ≤ s.size := by
  by_cases h : 0 ≤ rtE s i
  · exact (text_piece h).2.2.1
  · omega
theorem unV_no {s : ByteArray} (h : unOk s = false) : unV s = .tuple #[.agg #[.int .i64 0, .int .i64 0, .int .i64 0, .int .i64 0, .int .i64 0, .string ⟨#[]⟩, .int .i64 0], .bool false] := by
  unfold unV unMg
  rw [h, if_neg (by simp)]
  rfl
end Go.Proofs.YtiinpdkgnflmeaaDoor
