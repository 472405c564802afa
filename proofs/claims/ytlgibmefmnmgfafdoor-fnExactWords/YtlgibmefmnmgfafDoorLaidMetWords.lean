/-
  What the row of FnExactWords gives the walk: the library's variable MaxLen holds some number (by the world's shape); and a world for the witness, Go's own table of first bytes laid in it.
-/
import Derived.Test.YtlgibmefmnmgfafDoorWordsI
import Derived.Test.YtlgibmefmnmgfafDoorShaped
import Derived.Shelf.Vars
import GoSem.PinnedTables
namespace Go.Proofs.YtlgibmefmnmgfafDoor
/-- The table of first bytes laid in its variable. -/
def withFirst (w : World) : World := { w with heap := w.heap.modify 3 fun
      | .cells _ t frozen => .cells (Go.Pinned.utf8FirstZ.map fun n : Nat => Value.int .u8 (n : Int)).toArray t frozen
      | o => o }
theorem fnExactWords_met {W : World} (_h : laidMetH Tryd.prog Rows.fnExactWordsRow.laid W) (hsh : W.ShapedOpen Tryd.prog) : MaxLenIs W :=
  cell_of_shapedOpen_int (g := 2) (t := 3) (zero := #[.int .i64 0]) (k := .i64) hsh (of_decide_eq_true (by kernel_rfl)) (by kernel_rfl) rfl (by kernel_rfl) (by kernel_rfl) Tryd.underlying3
end Go.Proofs.YtlgibmefmnmgfafDoor
