/-
  An operation read off its bytes, in plain terms: it is read just where its bytes are the text.
-/
import Derived.Test.YtiinpdkgnflmeaaDoorMgGetM
import Derived.Test.YtiinpdkgnflmeaaDoorOpPutD
namespace Go.Proofs.YtiinpdkgnflmeaaDoor
open Mth

/-- The message's bytes, and the place behind them. -/
def opX (s : ByteArray) : Int := rdE s (rtE s (rdE s 1))
def opB (s : ByteArray) : ByteArray := rtS s (opX s)
def opE (s : ByteArray) : Int := rtE s (opX s)
/-- What stands in a text as an operation, right or not. -/
def opC (s : ByteArray) : Op5 := ⟨(s.data.toList.headD 0).toNat, rdN s 1, rtS s (rdE s 1), rdN s (rtE s (rdE s 1)), getMg (opB s)⟩
def bodyB (s : ByteArray) : Bool := decide ((opB s).size = 0) || getOk (opB s)
theorem mg0_not : mgOk mg0 = false := by decide
theorem size_zero {s : ByteArray} (h : s.size = 0) : s = ByteArray.empty := eq_empty s h
theorem getMg_nil {b : ByteArray} (h : b.size = 0) : getMg b = mg0 ∧ getOk b = false := by
  have ho : getOk b = false := by unfold getOk; rw [decide_eq_false (by omega)]; rfl
  refine ⟨?_, ho⟩
  unfold getMg
  rw [ho, if_neg (by simp)]
theorem body_back {s : ByteArray} (h : bodyB s = true) : putMsg (getMg (opB s)) = opB s := by
  by_cases h0 : (opB s).size = 0
  · rw [(getMg_nil h0).1, putMsg_no mg0_not, size_zero h0]
  · unfold bodyB at h
    rw [decide_eq_false h0, Bool.false_or] at h
    have h2 := getOk_spec (s := opB s) (by omega)
    rw [h] at h2
    unfold getMg
    rw [if_pos h]
    have h3 := h2.symm
    simp only [Bool.and_eq_true, decide_eq_true_iff] at h3
    exact h3.2
/-- Where an operation could be read its bytes stand there. -/
theorem opC_bytes {s : ByteArray} (hs : 0 < s.size) (h : 0 ≤ opE s) (hb : bodyB s = true) : opE s ≤ s.size ∧ (opBytes (opC s)).data.toList = s.data.toList.take (opE s).toNat := by
  have hq := body_back hb
  unfold opE opB at *
  obtain ⟨g3, l4, e4, _, q4⟩ := text_piece h
  unfold opX at g3 l4 e4 q4 hq h ⊢
  obtain ⟨g2, l3, e3, q3⟩ := num_piece g3
  obtain ⟨g1, l2, e2, _, q2⟩ := text_piece g2
  obtain ⟨g0, l1, e1, q1⟩ := num_piece g1
  refine ⟨e4, ?_⟩
  unfold opBytes opC opB opX
  simp only [ByteArray.data_append, Array.toList_append]
  rw [hq, q1, q2, q3, q4]
  have q0 : (kb ((s.data.toList.headD 0).toNat : Int)).data.toList = s.data.toList.take (1 : Int).toNat := by
    have hl := size_toList s
    unfold kb
    cases hd : s.data.toList with
    | nil => rw [hd] at hl; simp at hl; omega
    | cons b r => simp
  rw [q0, cut_cut _ _ _ (by omega), cut_cut _ _ _ (by omega), cut_cut _ _ _ (by omega), cut_cut _ _ _ (by omega)]
/-- The zero operation. -/
def op0 : Op5 := ⟨0, 0, ByteArray.empty, 0, mg0⟩
def gopB (s : ByteArray) : Bool := decide (0 < s.size) && decide (opE s = s.size) && bodyB s && opOk (opC s)
def getOp (s : ByteArray) : Op5 := if gopB s = true then opC s else op0
/-- The model's own test comes to the same. -/
theorem gopB_spec {s : ByteArray} (hs : 0 < s.size) : gopB s = (decide (0 ≤ opE s) && bodyB s && decide (putOp (opC s) = s)) := by
  rw [Bool.eq_iff_iff]
  unfold gopB
  simp only [Bool.and_eq_true, decide_eq_true_iff]
  constructor
  · rintro ⟨⟨⟨_, h1⟩, hb⟩, h2⟩
    have h0 : 0 ≤ opE s := by omega
    refine ⟨⟨h0, hb⟩, ?_⟩
    rw [putOp_yes h2]
    apply ByteArray.ext
    apply Array.ext'
    rw [(opC_bytes hs h0 hb).2, h1, Int.toNat_natCast, List.take_of_length_le (by rw [size_toList]; exact Nat.le_refl _)]
  · rintro ⟨⟨h0, hb⟩, h1⟩
    obtain ⟨hl, hq⟩ := opC_bytes hs h0 hb
    cases hm : opOk (opC s) with
    | false =>
      rw [putOp_no hm] at h1
      rw [← h1] at hs
      exact absurd hs (by decide)
    | true =>
      rw [putOp_yes hm] at h1
      refine ⟨⟨⟨hs, ?_⟩, hb⟩, rfl⟩
      rw [h1] at hq
      have := congrArg List.length hq
      rw [List.length_take, size_toList] at this
      omega
theorem rtS_size (s : ByteArray) (i : Int) : (rtS s i).size ≤ 1000 := by
  by_cases h : 0 ≤ rtE s i
  · exact (text_piece h).2.2.2.1
  · unfold rtE at h
    unfold rtS
    cases hG : textOf s i.toNat (getAt s i) with
    | none => simp [txtS]
    | some p => rw [hG] at h; exact absurd (by simp [txtE]) h
theorem opMg_key (s : ByteArray) : (getMg s).k.size ≤ 1000 := by
  unfold getMg
  split
  · exact rtS_size _ _
  · decide
end Go.Proofs.YtiinpdkgnflmeaaDoor
