/-
  What the rows' lists give the walks.
-/
import Derived.Test.YtiinpdkgnflmeaaDoorLaidGet
namespace Go.Proofs.YtiinpdkgnflmeaaDoor
theorem fnExactGetOp_met {W : World} (h : laidMetH Tryd.prog Rows.fnExactGetOpRow.laid W) : Handle W := handle_lone h
theorem fnExactRead_met {W : World} (h : laidMetH Tryd.prog Rows.fnExactReadRow.laid W) : Handle W := handle_lone h
end Go.Proofs.YtiinpdkgnflmeaaDoor
