/-
  The law's walk at every code: FnSums returns true; what the row lists gives the walk what it asks; and a world for the witness, Go's own table of first bytes laid in it.
-/
import Derived.Test.YthjpjamihlopeaaDoorSumsLaw
import Derived.Test.YthjpjamihlopeaaDoorCodeRow
import Derived.Test.YthjpjamihlopeaaDoorLaidGet
import Derived.Test.YthjpjamihlopeaaDoorShaped
import Derived.MakeChecks
import Derived.Stop.LaidErr
import Derived.Shelf.Vars
import GoSem.PinnedTables
namespace Go.Proofs.YthjpjamihlopeaaDoor
open Go.RowKit

theorem fnSums_all (a : Option Addr) (len cap : Nat) (zs : List Int) (w : World) (hz : IsRow .u8 w a len cap zs) (h : Handle w ∧ Tens w ∧ MaxLenIs w) :
    Calls Tryd.prog 4 #[.slice a len cap] w fun e w' => e = .returned (.bool true) ∧ Below w.heap.size w w' := by
  by_cases hl : len ≤ 1048576
  · exact fnSums_go a len cap w (code_ok hz hl) h.1 h.2.1 h.2.2
  · have hl' : 1048576 < len := by omega
    clear hz h
    go_enter Tryd.func4, Tryd.ntmps4
    go_wp2_with (go_at_call 5; refine (big_yes a len cap _ hl').mono ?_; rintro e w0 ⟨rfl, rfl⟩)
    go_ret
    exact ⟨rfl, Below.refl _ _⟩

/-- The table of first bytes laid in its variable. -/
def withFirst (w : World) : World := { w with heap := w.heap.modify 3 fun
      | .cells _ t frozen => .cells (Go.Pinned.utf8FirstZ.map fun n : Nat => Value.int .u8 (n : Int)).toArray t frozen
      | o => o }
theorem gTens : Tryd.prog.globalNamed "internal/strconv.uint64pow10" = some 1 := by kernel_rfl
theorem tTens : (Tryd.prog.globals[1]?).map (·.type) = some 116 := by kernel_rfl
theorem cU64 : Tryd.prog.cellsOf 106 = 1 := by kernel_rfl
theorem cTens : Tryd.prog.cellsOf 116 = 20 := by kernel_rfl
theorem tens_of {W : World} {rest : List (String × DataW Unit)} (h : laidMet Tryd.prog (("internal/strconv.uint64pow10", Rows.laid_internal_strconv_uint64pow10) :: rest) W) : Tens W :=
  Lib.tabIs_of_head (zs := Lib.pow10Tab) (rest := rest) gTens tTens Tryd.underlying116 Tryd.underlying106 cU64 cTens h
theorem fnSums_met {W : World} (h : laidMetH Tryd.prog Rows.fnSumsRow.laid W) (hsh : W.ShapedOpen Tryd.prog) : Handle W ∧ Tens W ∧ MaxLenIs W := by
  have h' : laidMet Tryd.prog [("math/bits.deBruijn32tab", Rows.laid_math_bits_deBruijn32tab), ("math/bits.deBruijn64tab", Rows.laid_math_bits_deBruijn64tab), ("internal/strconv.uint64pow10", Rows.laid_internal_strconv_uint64pow10), ("unicode/utf8.acceptRanges", Rows.laid_unicode_utf8_acceptRanges), ("unicode/utf8.first", Rows.laid_unicode_utf8_first)] W ∧ handlesMet Tryd.prog [("errors.errorType", Rows.laid_errors_errorType)] W := h
  refine ⟨handle_of h'.2 (List.mem_singleton.2 rfl), tens_of h'.1.tail.tail, ?_⟩
  exact cell_of_shapedOpen_int (g := 2) (t := 3) (zero := #[.int .i64 0]) (k := .i64) hsh (of_decide_eq_true (by kernel_rfl)) (by kernel_rfl) rfl (by kernel_rfl) (by kernel_rfl) Tryd.underlying3
end Go.Proofs.YthjpjamihlopeaaDoor
