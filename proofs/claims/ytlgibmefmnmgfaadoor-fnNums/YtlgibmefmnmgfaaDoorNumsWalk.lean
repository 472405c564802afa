/-
  The law's walk at every code: FnNums returns true.
-/
import Derived.Test.YtlgibmefmnmgfaaDoorNumsLaw
import Derived.Test.YtlgibmefmnmgfaaDoorCodeRow
import Derived.Test.YtlgibmefmnmgfaaDoorLaidGet
namespace Go.Proofs.YtlgibmefmnmgfaaDoor
open Go.RowKit

theorem fnNums_all (a : Option Addr) (len cap : Nat) (zs : List Int) (w : World) (hz : IsRow .u8 w a len cap zs) (hH : Handle w) :
    Calls Tryd.prog 3 #[.slice a len cap] w fun e w' => e = .returned (.bool true) ∧ Below w.heap.size w w' := by
  by_cases hl : len ≤ 1048576
  · exact fnNums_go a len cap w (code_ok hz hl) hH
  · have hl' : 1048576 < len := by omega
    clear hz hH
    go_enter Tryd.func3, Tryd.ntmps3
    go_wp2_with (go_at_call 5; refine (big_yes a len cap _ hl').mono ?_; rintro e w0 ⟨rfl, rfl⟩)
    go_ret
    exact ⟨rfl, Below.refl _ _⟩
theorem fnNums_met {W : World} (h : laidMetH Tryd.prog Rows.fnNumsRow.laid W) : Handle W := handle_lone h
end Go.Proofs.YtlgibmefmnmgfaaDoor
