/-
  The law's walk at every code: FnMsg returns true; what the row lists gives the walk what it asks.
-/
import Derived.Test.YtlopllgioobcjaaGreatDoorMsgWalk
import Derived.Test.YtlopllgioobcjaaGreatDoorGrpDr
import Derived.Test.YtlopllgioobcjaaGreatDoorLaidGet
import Derived.MakeChecks
import Derived.Stop.LaidErr
namespace Go.Proofs.YtlopllgioobcjaaGreatDoor
open Go.RowKit

set_option maxRecDepth 100000 in
theorem fnMsg_all (a : Option Addr) (len cap : Nat) (zs : List Int) (w : World) (hz : IsRow .u8 w a len cap zs) (h : Handle w ∧ Tens w) :
    Calls Tryz.prog 3 #[.slice a len cap] w fun e w' => e = .returned (.bool true) ∧ Below w.heap.size w w' := by
  by_cases hl : len ≤ 1048576
  · exact fnMsg_go a len cap w (code_ok hz hl) h.1 h.2
  · have hl' : 1048576 < len := by omega
    clear hz h
    go_enter Tryz.func3, Tryz.ntmps3
    go_wp2_with (go_at_call 4; refine (bigYes a len cap _ hl').mono ?_; rintro e w0 ⟨rfl, rfl⟩)
    go_ret
    exact ⟨rfl, Below.refl _ _⟩
theorem gTens : Tryz.prog.globalNamed "internal/strconv.uint64pow10" = some 2 := by kernel_rfl
theorem tTens : (Tryz.prog.globals[2]?).map (·.type) = some 140 := by kernel_rfl
theorem cU64 : Tryz.prog.cellsOf 133 = 1 := by kernel_rfl
theorem cTens : Tryz.prog.cellsOf 140 = 20 := by kernel_rfl
theorem tens_of {W : World} {rest : List (String × DataW Unit)} (h : laidMet Tryz.prog (("internal/strconv.uint64pow10", Rows.laid_internal_strconv_uint64pow10) :: rest) W) : Tens W :=
  Lib.tabIs_of_head (zs := Lib.pow10Tab) (rest := rest) gTens tTens Tryz.underlying140 Tryz.underlying133 cU64 cTens h
theorem fnMsg_met {W : World} (h : laidMetH Tryz.prog Rows.fnMsgRow.laid W) : Handle W ∧ Tens W := by
  have h' : laidMet Tryz.prog [("math/bits.deBruijn32tab", Rows.laid_math_bits_deBruijn32tab), ("math/bits.deBruijn64tab", Rows.laid_math_bits_deBruijn64tab), ("internal/strconv.uint64pow10", Rows.laid_internal_strconv_uint64pow10)] W ∧ handlesMet Tryz.prog [("errors.errorType", Rows.laid_errors_errorType)] W := h
  exact ⟨handle_of h'.2 (List.mem_singleton.2 rfl), tens_of h'.1.tail.tail⟩
end Go.Proofs.YtlopllgioobcjaaGreatDoor
