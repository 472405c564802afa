/-
  What GetMsg hands back.
-/
import Derived.Test.YtiinpdkgnflmeaaDoorMgGetM
namespace Go.Proofs.YtiinpdkgnflmeaaDoor
open Go.RowKit
open Mth

def getV (s : ByteArray) : Value := .tuple #[mgv (getMg s), .bool (getOk s)]
theorem getV_no {s : ByteArray} (h : getOk s = false) : getV s = .tuple #[.agg #[.int .i64 0, .int .i64 0, .int .i64 0, .int .i64 0, .int .i64 0, .string ⟨#[]⟩, .int .i64 0], .bool false] := by
  unfold getV getMg
  rw [h, if_neg (by simp)]
  rfl
theorem head_at {s : ByteArray} (h : 0 < s.size) : s.data.toList.headD 0 = s[0] := by
  have hl := size_toList s
  rw [List.headD_eq_head?_getD, List.head?_eq_getElem?, List.getElem?_eq_getElem (by omega)]
  rfl
end Go.Proofs.YtiinpdkgnflmeaaDoor
