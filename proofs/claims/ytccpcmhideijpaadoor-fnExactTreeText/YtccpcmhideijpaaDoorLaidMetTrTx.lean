/-
  What the row's list gives the walk of FnExactTreeText: the library's table of the powers of ten.
-/
import Derived.Test.YtccpcmhideijpaaDoorTrLawTreeText
import Derived.MakeChecks
import Derived.Stop.LaidErr
namespace Go.Proofs.YtccpcmhideijpaaDoor
theorem gTens : Tryd.prog.globalNamed "internal/strconv.uint64pow10" = some 2 := by kernel_rfl
theorem tTens : (Tryd.prog.globals[2]?).map (·.type) = some 112 := by kernel_rfl
theorem cU64 : Tryd.prog.cellsOf 104 = 1 := by kernel_rfl
theorem cTens : Tryd.prog.cellsOf 112 = 20 := by kernel_rfl
theorem tens_of {W : World} {rest : List (String × DataW Unit)} (h : laidMet Tryd.prog (("internal/strconv.uint64pow10", Rows.laid_internal_strconv_uint64pow10) :: rest) W) : Tens W :=
  Lib.tabIs_of_head (zs := Lib.pow10Tab) (rest := rest) gTens tTens Tryd.underlying112 Tryd.underlying104 cU64 cTens h
theorem fnExactTreeText_met {W : World} (h : laidMetH Tryd.prog Rows.fnExactTreeTextRow.laid W) : Tens W := by
  rw [MakeChecks.laidMetH_plain _ _ _ (by kernel_rfl)] at h
  exact tens_of h.tail.tail
end Go.Proofs.YtccpcmhideijpaaDoor
