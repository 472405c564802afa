/-
  What the row of FnExactReadTree gives the walk: the library's variable MaxLen holds some number (by the world's shape), the handle of the type 'error' lies in its variable; and a world for the witness, Go's own table of first bytes laid in it.
-/
import Derived.Test.YtccpcmhideijpaaDoorTrLawReadTree
import Derived.Test.YtccpcmhideijpaaDoorLaidGet
import Derived.Test.YtccpcmhideijpaaDoorShaped
import Derived.Shelf.Vars
import GoSem.PinnedTables
namespace Go.Proofs.YtccpcmhideijpaaDoor
/-- The table of first bytes laid in its variable. -/
def withFirst (w : World) : World := { w with heap := w.heap.modify 3 fun
      | .cells _ t frozen => .cells (Go.Pinned.utf8FirstZ.map fun n : Nat => Value.int .u8 (n : Int)).toArray t frozen
      | o => o }
theorem fnExactReadTree_met {W : World} (h : laidMetH Tryd.prog Rows.fnExactReadTreeRow.laid W) (hsh : W.ShapedOpen Tryd.prog) : RtIs W := by
  refine ⟨cell_of_shapedOpen_int (g := 1) (t := 3) (zero := #[.int .i64 0]) (k := .i64) hsh (of_decide_eq_true (by kernel_rfl)) (by kernel_rfl) rfl (by kernel_rfl) (by kernel_rfl) Tryd.underlying3, ?_⟩
  have h' : laidMet Tryd.prog (Rows.fnExactReadTreeRow.laid.filter fun x => x.2.handleName?.isNone) W ∧ handlesMet Tryd.prog [("errors.errorType", Rows.laid_errors_errorType)] W := h
  exact handle_of h'.2 (List.mem_singleton.2 rfl)
end Go.Proofs.YtccpcmhideijpaaDoor
