/-
  A text's frame: the four bytes of its sum and its PutText: the model's Frame.
-/
import Derived.Test.YtlopllgioobcjaaGreatDoorMgPutS
import Derived.Test.YtlopllgioobcjaaGreatDoorMgSum
namespace Go.Proofs.YtlopllgioobcjaaGreatDoor
open Go.RowKit
open Mth

def frameT (s : ByteArray) : ByteArray := wordB (sumN s) ++ putT s
def frm (m : Mg) : ByteArray := if mgOk m = true then frameT (mgBytes m) else ByteArray.empty
theorem frm_yes {m : Mg} (h : mgOk m = true) : frm m = frameT (mgBytes m) := by unfold frm; rw [if_pos h]
theorem frm_no {m : Mg} (h : mgOk m = false) : frm m = ByteArray.empty := by unfold frm; rw [if_neg (by rw [h]; simp)]
theorem mgBytes_pos (m : Mg) : 0 < (mgBytes m).size := by
  unfold mgBytes
  simp only [ByteArray.size_append, kb_size]
  omega
theorem mgBytes_le (m : Mg) : (mgBytes m).size ≤ 1037 := by
  unfold mgBytes
  have s1 := putS_size m.F
  have s2 := putS_size m.T
  have s3 := putS_size m.I
  have s4 := putS_size m.L
  have s5 := putT_size m.k
  have s6 := putS_size m.N
  simp only [ByteArray.size_append, kb_size]
  omega

set_option maxRecDepth 100000 in
set_option maxHeartbeats 2000000 in
theorem specFrame (m : Mg) (w : World) (hs : m.k.size ≤ maxLen) : Calls Tryz.prog 15 #[mgv m] w fun e w' => e = .returned (.string (frm m)) ∧ Below w.heap.size w w' := by
  have HM := hide (fun w1 => specPutMsg m w1 hs)
  clear hs
  cases h : mgOk m
  · rw [putMsg_no h] at HM
    rw [frm_no h]
    clear h
    obtain ⟨K, F, T, I, L, k, N⟩ := m
    go_enter Tryz.func15, Tryz.ntmps15
    go_wp2_with fail
    refine (unhide HM _).mono ?_
    rintro e w1 ⟨rfl, hb1⟩
    have hB := (below_one w _).trans (hb1.mono (by simp))
    clear hb1
    go_wp2_with fail
    go_ret
    exact ⟨rfl, hB⟩
  · rw [putMsg_yes h] at HM
    rw [frm_yes h]
    clear h
    have hne := not_empty _ (mgBytes_pos m)
    have hsz : (mgBytes m).size ≤ maxLen := Nat.le_trans (mgBytes_le m) (by unfold maxLen; omega)
    have HC := hide (fun w1 => specCheckSum (mgBytes m) w1 hsz)
    have e : (65536 * (sums (mgBytes m).data.toList).2 + (sums (mgBytes m).data.toList).1 : Int) = (sumN (mgBytes m) : Int) := by unfold sumN; omega
    rw [e] at HC
    have HW := hide (fun w1 => l04Word (sumN (mgBytes m)) (sumN_lt _) w1)
    have HT := hide (fun w1 => specPutTAny (mgBytes m) w1)
    have hp := putT_size (mgBytes m)
    have hw := wordB_size (sumN (mgBytes m))
    unfold frameT
    clear e hsz
    generalize wordB (sumN (mgBytes m)) = bW at *
    generalize sumN (mgBytes m) = n at *
    generalize putT (mgBytes m) = bT at *
    generalize mgBytes m = b at *
    have ha := fun w1 => run_string_add_sum (P := Tryz.prog) w1 bW bT (by omega)
    clear hp hw
    obtain ⟨K, F, T, I, L, k, N⟩ := m
    go_enter Tryz.func15, Tryz.ntmps15
    go_wp2_with fail
    refine (unhide HM _).mono ?_
    rintro e w1 ⟨rfl, hb1⟩
    have hB := (below_one w _).trans (hb1.mono (by simp))
    clear hb1
    go_wp2_with fail
    refine (unhide HC _).mono ?_
    rintro e w2 ⟨rfl, rfl⟩
    go_wp2_with fail
    refine (unhide HW _).mono ?_
    rintro e w2 ⟨rfl, hb2⟩
    have hB2 := hB.trans (hb2.mono hB.size)
    clear hb2 hB
    go_wp2_with fail
    refine (unhide HT _).mono ?_
    rintro e w3 ⟨rfl, hb3⟩
    have hB3 := hB2.trans (hb3.mono hB2.size)
    clear hb3 hB2
    go_wp2_with fail
    go_ret
    exact ⟨rfl, hB3⟩
end Go.Proofs.YtlopllgioobcjaaGreatDoor
