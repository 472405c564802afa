/-
  The program's Write.
-/
import Derived.Test.YtiinpdkgnflmeaaOpPutI
import Derived.Test.YtiinpdkgnflmeaaOpWrS
import Derived.Test.YtiinpdkgnflmeaaMgFr
import Derived.Test.YtiinpdkgnflmeaaClone
namespace Go.Proofs.Ytiinpdkgnflmeaa
open Go.RowKit
open Mth

set_option maxRecDepth 100000 in
set_option maxHeartbeats 2000000 in
theorem implWrite (s : ByteArray) (o : Op5) (w : World) (hl : s.size ≤ 1048576) : Calls Try.prog 13 #[.string s, opw o] w fun e w' => e = .returned (wrV s o) ∧ Below w.heap.size w w' := by
  have HM := hide (fun w1 => implPutOp o w1)
  have hsz : (putOp o).size ≤ maxLen := by
    unfold putOp
    split
    · exact Nat.le_trans (opBytes_le o) (by unfold maxLen; omega)
    · exact Nat.zero_le _
  have HF := hide (fun w1 => framed (putOp o) hsz w1)
  have HL := hide (fun w1 => clone s w1 (by omega))
  have hfl := frameT_le (putOp o)
  clear hsz
  cases h : opOk o
  · rw [show wrV s o = .tuple #[.string s, .bool false] by unfold wrV; rw [wr_no (wr_bad h), wr_bad h]]
    rw [putOp_no h] at HM HF
    clear h hfl
    generalize frameT ByteArray.empty = r at *
    obtain ⟨K, no, k, n, ⟨mK, mF, mT, mI, mL, mk, mN⟩⟩ := o
    go_enter Try.func13, Try.ntmps13
    go_wp2_with fail
    refine (unhide HM _).mono ?_
    rintro e w1 ⟨rfl, hb1⟩
    have hB := (below_one w _).trans (hb1.mono (by simp))
    clear hb1
    go_wp2_with fail
    refine (unhide HF _).mono ?_
    rintro e w2 ⟨rfl, hb2⟩
    have hB2 := hB.trans (hb2.mono hB.size)
    clear hb2 hB
    go_wp2_with fail
    refine (unhide HL _).mono ?_
    rintro e w3 ⟨rfl, hb3⟩
    have hB3 := hB2.trans (hb3.mono hB2.size)
    clear hb3 hB2
    go_wp2_with fail
    go_ret2
    exact ⟨rfl, hB3⟩
  · have hX : entryB o = frameT (putOp o) := by unfold entryB; rw [putOp_yes h]
    have hne := not_empty (putOp o) (by rw [putOp_yes h]; exact opBytes_pos o)
    rw [show wrV s o = .tuple #[.string (wrT s o), .bool (wrB s o)] from rfl]
    unfold wrT
    rw [wr_ok h, hX]
    clear h hX
    generalize frameT (putOp o) = r at *
    generalize putOp o = b at *
    have HR1 := hide (fun h : (s.size + r.size : Int) ≤ 60000 => show (if decide ((s.size + r.size : Int) ≤ 60000) = true then s ++ r else s) = s ++ r ∧ decide ((s.size + r.size : Int) ≤ 60000) = true from ⟨if_pos (decide_eq_true h), decide_eq_true h⟩)
    have HR2 := hide (fun h : 60000 < (s.size + r.size : Int) => show (if decide ((s.size + r.size : Int) ≤ 60000) = true then s ++ r else s) = s ∧ decide ((s.size + r.size : Int) ≤ 60000) = false from ⟨if_neg (by rw [decide_eq_false (by omega)]; simp), decide_eq_false (by omega)⟩)
    have a2 := fun w1 => run_string_add_sum (P := Try.prog) w1 s r (by omega)
    obtain ⟨K, no, k, n, ⟨mK, mF, mT, mI, mL, mk, mN⟩⟩ := o
    generalize (if decide ((s.size + r.size : Int) ≤ 60000) = true then s ++ r else s) = RT at *
    generalize decide ((s.size + r.size : Int) ≤ 60000) = RB at *
    go_enter Try.func13, Try.ntmps13
    go_wp2_with fail
    refine (unhide HM _).mono ?_
    rintro e w1 ⟨rfl, hb1⟩
    have hB := (below_one w _).trans (hb1.mono (by simp))
    clear hb1
    go_wp2_with fail
    refine (unhide HF _).mono ?_
    rintro e w2 ⟨rfl, hb2⟩
    have hB2 := hB.trans (hb2.mono hB.size)
    clear hb2 hB
    by_cases hc : (s.size + r.size : Int) ≤ 60000
    · obtain ⟨e1, rfl⟩ := unhide HR1 hc
      have HE := hide e1
      clear e1 HR1 HR2
      have hd : decide ((60000 : Int) < s.size + r.size) = false := decide_eq_false (by omega)
      have hd2 : ¬ ((60000 : Int) < s.size + r.size) := by omega
      go_wp2_with fail
      go_ret2
      exact ⟨by rw [unhide HE]; rfl, hB2⟩
    · obtain ⟨e1, rfl⟩ := unhide HR2 (by omega)
      have HE := hide e1
      clear e1 HR1 HR2
      have hd : decide ((60000 : Int) < s.size + r.size) = true := decide_eq_true (by omega)
      have hd2 : ((60000 : Int) < s.size + r.size) := by omega
      go_wp2_with fail
      refine (unhide HL _).mono ?_
      rintro e w3 ⟨rfl, hb3⟩
      have hB3 := hB2.trans (hb3.mono hB2.size)
      clear hb3 hB2
      go_wp2_with fail
      go_ret2
      exact ⟨by rw [unhide HE]; rfl, hB3⟩
end Go.Proofs.Ytiinpdkgnflmeaa
