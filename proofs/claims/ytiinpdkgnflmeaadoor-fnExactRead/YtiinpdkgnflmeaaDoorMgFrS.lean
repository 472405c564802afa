/-
  A text's frame: the four bytes of its sum and its PutText: the model's Frame.
-/
import Derived.Test.YtiinpdkgnflmeaaDoorMgPutS
import Derived.Test.YtiinpdkgnflmeaaDoorMgSum
namespace Go.Proofs.YtiinpdkgnflmeaaDoor
open Go.RowKit
open Mth

def frameT (s : ByteArray) : ByteArray := wordB (sumN s) ++ putT s
def frm (m : Mg) : ByteArray := if mgOk m = true then frameT (mgBytes m) else ByteArray.empty
theorem frm_yes {m : Mg} (h : mgOk m = true) : frm m = frameT (mgBytes m) := by unfold frm; rw [if_pos h]
theorem frm_no {m : Mg} (h : mgOk m = false) : frm m = ByteArray.empty := by unfold frm; rw [if_neg (by rw [h]; simp)]
theorem mgBytes_pos (m : Mg) : 0 < (mgBytes m).size := by
  unfold mgBytes
  simp only [ByteArray.size_append, kb_size]
  omega
theorem mgBytes_le (m : Mg) : (mgBytes m).size ≤ 1037 := by
  unfold mgBytes
  have s1 := putS_size m.F
  have s2 := putS_size m.T
  have s3 := putS_size m.I
  have s4 := putS_size m.L
  have s5 := putT_size m.k
  have s6 := putS_size m.N
  simp only [ByteArray.size_append, kb_size]
  omega

end Go.Proofs.YtiinpdkgnflmeaaDoor
