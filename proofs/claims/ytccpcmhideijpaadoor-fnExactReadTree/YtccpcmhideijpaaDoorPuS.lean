/-
  What the model's PursesOk comes to.
-/
import Derived.Test.YtccpcmhideijpaaDoorPuMath
import Derived.Test.YtccpcmhideijpaaDoorAmS
import Derived.Test.YtccpcmhideijpaaDoorKey
import Derived.Deep.QuietTactic
import Derived.Deep.RegionWith
import Derived.BigQuiet
import Derived.Laws.Cover1
namespace Go.Proofs.YtccpcmhideijpaaDoor
open Go.RowKit
open Mth

/-- Purses as they lie. -/
abbrev PursesAt (w : World) (a : Option Addr) (l : List Pu) : Prop := GR.At encP 4 w a l
theorem PursesAt.four {w : World} {a : Option Addr} {l : List Pu} (h : PursesAt w a l) (i : Nat) (hi : i < l.length) : ∃ g off, a = some ⟨g, off, none⟩ ∧ g < w.heap.size ∧ w.cell? ⟨g, off + i * 4, none⟩ = some (.string l[i].k) ∧ w.cell? ⟨g, off + i * 4 + 1, none⟩ = some (.int .i64 l[i].m) ∧ w.cell? ⟨g, off + i * 4 + 2, none⟩ = some (.int .i64 l[i].f) ∧ w.cell? ⟨g, off + i * 4 + 3, none⟩ = some (.int .i64 l[i].s) := by
  obtain ⟨g, off, e, hg, hc⟩ := h i hi
  refine ⟨g, off, e, hg, ?_, ?_, ?_, ?_⟩
  · simpa using hc 0 (by omega)
  · simpa [Nat.add_assoc] using hc 1 (by omega)
  · simpa [Nat.add_assoc] using hc 2 (by omega)
  · simpa [Nat.add_assoc] using hc 3 (by omega)

end Go.Proofs.YtccpcmhideijpaaDoor
