/-
  A message read off its bytes, in plain terms: it is read just where its bytes are the text.
-/
import Derived.Test.YtiinpdkgnflmeaaDoorReadParts
import Derived.Test.YtiinpdkgnflmeaaDoorMgPutD
namespace Go.Proofs.YtiinpdkgnflmeaaDoor
open Mth

/-- The number at a place and the place behind it; the text. -/
def rdN (s : ByteArray) (i : Int) : Int := numN (getAt s i)
def rdE (s : ByteArray) (i : Int) : Int := numT (getAt s i) i
def rtS (s : ByteArray) (i : Int) : ByteArray := txtS (textOf s i.toNat (getAt s i))
def rtE (s : ByteArray) (i : Int) : Int := txtE (textOf s i.toNat (getAt s i))
theorem num_piece {s : ByteArray} {i : Int} (h : 0 ≤ rdE s i) : 0 ≤ i ∧ i ≤ rdE s i ∧ rdE s i ≤ s.size ∧ (putS (rdN s i)).data.toList = (s.data.toList.take (rdE s i).toNat).drop i.toNat := by
  unfold rdE rdN at *
  cases hG : getAt s i with
  | none => rw [hG] at h; simp [numT] at h
  | some p =>
    obtain ⟨n, c⟩ := p
    obtain ⟨k, rfl, hk, hc, hn, hput⟩ := read_put hG
    simp only [numT, numN]
    refine ⟨by omega, by omega, by omega, ?_⟩
    rw [← ByteArray.toList_eq, hput, Lib.extract_toList, List.drop_take]
    simp only [Int.toNat_natCast]
    rfl
theorem text_piece {s : ByteArray} {i : Int} (h : 0 ≤ rtE s i) : 0 ≤ i ∧ i ≤ rtE s i ∧ rtE s i ≤ s.size ∧ (rtS s i).size ≤ 1000 ∧ (putT (rtS s i)).data.toList = (s.data.toList.take (rtE s i).toNat).drop i.toNat := by
  unfold rtE rtS at *
  cases hG : textOf s i.toNat (getAt s i) with
  | none => rw [hG] at h; simp [txtE] at h
  | some p =>
    obtain ⟨t, e⟩ := p
    obtain ⟨k, rfl, hk, hc, hn, hput⟩ := read_text hG
    simp only [txtE, txtS]
    refine ⟨by omega, by omega, by omega, hn, ?_⟩
    rw [← ByteArray.toList_eq, hput, Lib.extract_toList, List.drop_take]
    simp only [Int.toNat_natCast]
/-- What stands in a text as a message, right or not, and the place behind it. -/
def candE (s : ByteArray) : Int := rdE s (rtE s (rdE s (rdE s (rdE s (rdE s 1)))))
def cand (s : ByteArray) : Mg :=
  ⟨(s.data.toList.headD 0).toNat, rdN s 1, rdN s (rdE s 1), rdN s (rdE s (rdE s 1)), rdN s (rdE s (rdE s (rdE s 1))), rtS s (rdE s (rdE s (rdE s (rdE s 1)))), rdN s (rtE s (rdE s (rdE s (rdE s (rdE s 1)))))⟩
theorem cut_cut (l : List UInt8) (i j : Nat) (h : i ≤ j) : l.take i ++ (l.take j).drop i = l.take j := by
  have h2 : (l.take j).take i = l.take i := by rw [List.take_take, Nat.min_eq_left h]
  rw [← h2, List.take_append_drop]
/-- Where a message could be read its bytes stand there. -/
theorem cand_bytes {s : ByteArray} (hs : 0 < s.size) (h : 0 ≤ candE s) : candE s ≤ s.size ∧ (mgBytes (cand s)).data.toList = s.data.toList.take (candE s).toNat := by
  unfold candE at h
  obtain ⟨g5, l6, e6, q6⟩ := num_piece h
  obtain ⟨g4, l5, e5, _, q5⟩ := text_piece g5
  obtain ⟨g3, l4, e4, q4⟩ := num_piece g4
  obtain ⟨g2, l3, e3, q3⟩ := num_piece g3
  obtain ⟨g1, l2, e2, q2⟩ := num_piece g2
  obtain ⟨g0, l1, e1, q1⟩ := num_piece g1
  refine ⟨e6, ?_⟩
  unfold mgBytes cand candE
  simp only [ByteArray.data_append, Array.toList_append]
  rw [q1, q2, q3, q4, q5, q6]
  have q0 : (kb ((s.data.toList.headD 0).toNat : Int)).data.toList = s.data.toList.take (1 : Int).toNat := by
    have hl := size_toList s
    unfold kb
    cases hd : s.data.toList with
    | nil => rw [hd] at hl; simp at hl; omega
    | cons b r => simp
  rw [q0, cut_cut _ _ _ (by omega), cut_cut _ _ _ (by omega), cut_cut _ _ _ (by omega), cut_cut _ _ _ (by omega), cut_cut _ _ _ (by omega), cut_cut _ _ _ (by omega)]
/-- The zero message. -/
def mg0 : Mg := ⟨0, 0, 0, 0, 0, ByteArray.empty, 0⟩
def getOk (s : ByteArray) : Bool := decide (0 < s.size) && decide (candE s = s.size) && mgOk (cand s)
def getMg (s : ByteArray) : Mg := if getOk s = true then cand s else mg0
/-- The model's own test comes to the same. -/
theorem getOk_spec {s : ByteArray} (hs : 0 < s.size) : getOk s = (decide (0 ≤ candE s) && decide (putMsg (cand s) = s)) := by
  rw [Bool.eq_iff_iff]
  unfold getOk
  simp only [Bool.and_eq_true, decide_eq_true_iff]
  constructor
  · rintro ⟨⟨_, h1⟩, h2⟩
    have h0 : 0 ≤ candE s := by omega
    refine ⟨h0, ?_⟩
    rw [putMsg_yes h2]
    apply ByteArray.ext
    apply Array.ext'
    rw [(cand_bytes hs h0).2, h1, Int.toNat_natCast, List.take_of_length_le (by rw [size_toList]; exact Nat.le_refl _)]
  · rintro ⟨h0, h1⟩
    obtain ⟨hl, hb⟩ := cand_bytes hs h0
    cases hm : mgOk (cand s) with
    | false =>
      rw [putMsg_no hm] at h1
      rw [← h1] at hs
      exact absurd hs (by decide)
    | true =>
      rw [putMsg_yes hm] at h1
      refine ⟨⟨hs, ?_⟩, rfl⟩
      rw [h1] at hb
      have := congrArg List.length hb
      rw [List.length_take, size_toList] at this
      omega
end Go.Proofs.YtiinpdkgnflmeaaDoor
