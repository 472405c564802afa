/-
  A log with an operation written behind it: in plain terms, and the model's Write.
-/
import Derived.Test.YtiinpdkgnflmeaaOpPutS
import Derived.Test.YtiinpdkgnflmeaaMgFrS
namespace Go.Proofs.Ytiinpdkgnflmeaa
open Go.RowKit
open Mth

/-- An operation's entry in a log. -/
def entryB (o : Op5) : ByteArray := frameT (opBytes o)
def wrB (s : ByteArray) (o : Op5) : Bool := opOk o && decide ((s.size + (entryB o).size : Int) ≤ 60000)
def wrT (s : ByteArray) (o : Op5) : ByteArray := if wrB s o = true then s ++ entryB o else s
theorem wr_no {s : ByteArray} {o : Op5} (h : wrB s o = false) : wrT s o = s := by unfold wrT; rw [if_neg (by rw [h]; simp)]
theorem wr_yes {s : ByteArray} {o : Op5} (h : wrB s o = true) : wrT s o = s ++ entryB o := by unfold wrT; rw [if_pos h]
theorem wr_bad {s : ByteArray} {o : Op5} (h : opOk o = false) : wrB s o = false := by unfold wrB; rw [h, Bool.false_and]
theorem wr_ok {s : ByteArray} {o : Op5} (h : opOk o = true) : wrB s o = decide ((s.size + (entryB o).size : Int) ≤ 60000) := by unfold wrB; rw [h, Bool.true_and]
theorem frameT_le (s : ByteArray) : (frameT s).size ≤ 1010 := by
  unfold frameT
  have h1 := wordB_size (sumN s)
  have h2 := putT_size s
  rw [ByteArray.size_append]
  omega
abbrev wrV (s : ByteArray) (o : Op5) : Value := .tuple #[.string (wrT s o), .bool (wrB s o)]

set_option maxRecDepth 100000 in
set_option maxHeartbeats 2000000 in
theorem specWrite (s : ByteArray) (o : Op5) (w : World) (hl : s.size ≤ 1048576) (hs : o.k.size ≤ maxLen) (hm : o.m.k.size ≤ maxLen) : Calls Try.prog 12 #[.string s, opw o] w fun e w' => e = .returned (wrV s o) ∧ Below w.heap.size w w' := by
  have HM := hide (fun w1 => specPutOp o w1 hs hm)
  have hsz : (putOp o).size ≤ maxLen := by
    unfold putOp
    split
    · exact Nat.le_trans (opBytes_le o) (by unfold maxLen; omega)
    · exact Nat.zero_le _
  have HC := hide (fun w1 => specCheckSum (putOp o) w1 hsz)
  have e : (65536 * (sums (putOp o).data.toList).2 + (sums (putOp o).data.toList).1 : Int) = (sumN (putOp o) : Int) := by unfold sumN; omega
  rw [e] at HC
  have HW := hide (fun w1 => l04Word (sumN (putOp o)) (sumN_lt _) w1)
  have HT := hide (fun w1 => specPutTAny (putOp o) w1)
  have hp := putT_size (putOp o)
  have hw := wordB_size (sumN (putOp o))
  have HF : Hid (frameT (putOp o) = wordB (sumN (putOp o)) ++ putT (putOp o)) := rfl
  have ha := fun w1 => run_string_add_sum (P := Try.prog) w1 (wordB (sumN (putOp o))) (putT (putOp o)) (by omega)
  have hfl := frameT_le (putOp o)
  clear e hsz hs hm
  cases h : opOk o
  · rw [show wrV s o = .tuple #[.string s, .bool false] by unfold wrV; rw [wr_no (wr_bad h), wr_bad h]]
    rw [putOp_no h] at HM HC HW HT ha
    clear h HF hfl hp hw
    generalize wordB (sumN ByteArray.empty) = bW at *
    generalize sumN ByteArray.empty = n at *
    generalize putT ByteArray.empty = bT at *
    obtain ⟨K, no, k, n, ⟨mK, mF, mT, mI, mL, mk, mN⟩⟩ := o
    go_enter Try.func12, Try.ntmps12
    go_wp2_with fail
    refine (unhide HM _).mono ?_
    rintro e w1 ⟨rfl, hb1⟩
    have hB := (below_one w _).trans (hb1.mono (by simp))
    clear hb1
    go_wp2_with fail
    refine (unhide HC _).mono ?_
    rintro e w2 ⟨rfl, rfl⟩
    go_wp2_with fail
    refine (unhide HW _).mono ?_
    rintro e w2 ⟨rfl, hb2⟩
    have hB2 := hB.trans (hb2.mono hB.size)
    clear hb2 hB
    go_wp2_with fail
    refine (unhide HT _).mono ?_
    rintro e w3 ⟨rfl, hb3⟩
    have hB3 := hB2.trans (hb3.mono hB2.size)
    clear hb3 hB2
    go_wp2_with fail
    go_ret2
    exact ⟨rfl, hB3⟩
  · have hX : entryB o = frameT (putOp o) := by unfold entryB; rw [putOp_yes h]
    have hne := not_empty (putOp o) (by rw [putOp_yes h]; exact opBytes_pos o)
    rw [unhide HF] at hX hfl
    rw [show wrV s o = .tuple #[.string (wrT s o), .bool (wrB s o)] from rfl]
    unfold wrT
    rw [wr_ok h, hX]
    clear h HF hX hp hw
    generalize wordB (sumN (putOp o)) ++ putT (putOp o) = r at *
    generalize wordB (sumN (putOp o)) = bW at *
    generalize sumN (putOp o) = n at *
    generalize putT (putOp o) = bT at *
    generalize putOp o = b at *
    have HR1 := hide (fun h : (s.size + r.size : Int) ≤ 60000 => show (if decide ((s.size + r.size : Int) ≤ 60000) = true then s ++ r else s) = s ++ r ∧ decide ((s.size + r.size : Int) ≤ 60000) = true from ⟨if_pos (decide_eq_true h), decide_eq_true h⟩)
    have HR2 := hide (fun h : 60000 < (s.size + r.size : Int) => show (if decide ((s.size + r.size : Int) ≤ 60000) = true then s ++ r else s) = s ∧ decide ((s.size + r.size : Int) ≤ 60000) = false from ⟨if_neg (by rw [decide_eq_false (by omega)]; simp), decide_eq_false (by omega)⟩)
    have a2 := fun w1 => run_string_add_sum (P := Try.prog) w1 s r (by omega)
    obtain ⟨K, no, k, n, ⟨mK, mF, mT, mI, mL, mk, mN⟩⟩ := o
    generalize (if decide ((s.size + r.size : Int) ≤ 60000) = true then s ++ r else s) = RT at *
    generalize decide ((s.size + r.size : Int) ≤ 60000) = RB at *
    go_enter Try.func12, Try.ntmps12
    go_wp2_with fail
    refine (unhide HM _).mono ?_
    rintro e w1 ⟨rfl, hb1⟩
    have hB := (below_one w _).trans (hb1.mono (by simp))
    clear hb1
    go_wp2_with fail
    refine (unhide HC _).mono ?_
    rintro e w2 ⟨rfl, rfl⟩
    go_wp2_with fail
    refine (unhide HW _).mono ?_
    rintro e w2 ⟨rfl, hb2⟩
    have hB2 := hB.trans (hb2.mono hB.size)
    clear hb2 hB
    go_wp2_with fail
    refine (unhide HT _).mono ?_
    rintro e w3 ⟨rfl, hb3⟩
    have hB3 := hB2.trans (hb3.mono hB2.size)
    clear hb3 hB2
    by_cases hc : (s.size + r.size : Int) ≤ 60000
    · obtain ⟨e1, rfl⟩ := unhide HR1 hc
      have HE := hide e1
      clear e1 HR1 HR2
      have hd : decide ((60000 : Int) - r.size < s.size) = false := decide_eq_false (by omega)
      have hd2 : ¬ ((60000 : Int) - r.size < s.size) := by omega
      go_wp2_with fail
      go_ret2
      exact ⟨by rw [unhide HE]; rfl, hB3⟩
    · obtain ⟨e1, rfl⟩ := unhide HR2 (by omega)
      have HE := hide e1
      clear e1 HR1 HR2
      have hd : decide ((60000 : Int) - r.size < s.size) = true := decide_eq_true (by omega)
      have hd2 : ((60000 : Int) - r.size < s.size) := by omega
      go_wp2_with fail
      go_ret2
      exact ⟨by rw [unhide HE]; rfl, hB3⟩
end Go.Proofs.Ytiinpdkgnflmeaa
