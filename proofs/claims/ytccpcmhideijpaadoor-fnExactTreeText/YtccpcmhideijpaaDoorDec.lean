/-
  The program's DecText (strconv.Itoa), and the law's walk.
-/
import Derived.Test.YtccpcmhideijpaaDoorDecS
import Derived.Test.YtccpcmhideijpaaDoorShelf
import Derived.Lib.LaidTab
import Derived.OpenShut
namespace Go.Proofs.YtccpcmhideijpaaDoor
open Go.RowKit
open Go.Lib (decDigits itoa)

/-- What the program needs of memory: the library's table of the powers of ten. -/
def Tens (w : World) : Prop := Lib.TabIs Tryd.prog w "internal/strconv.uint64pow10" .u64 Lib.pow10Tab

theorem below_grow (w : World) (k : Nat) (os : Array Obj) : Below w.heap.size w (Sort.grow (w.drewN k) os) :=
  ⟨rfl, rfl, rfl, by simp [Sort.grow, World.drewN], fun i hi => by simp [Sort.grow, World.drewN, Array.getElem?_append_left hi]⟩

theorem implDec (n : Int) (w : World) (h0 : -9223372036854775808 ≤ n) (h1 : n ≤ 9223372036854775807) (hT : Tens w) : Calls Tryd.prog 26 #[.int .i64 n] w fun e w' => e = .returned (.string ⟨(itoa n).toArray⟩) ∧ Below w.heap.size w w' := by
  have HI := hide (Tryd.strconv_Itoa n h0 h1 w hT)
  clear hT
  go_enter Tryd.func26, Tryd.ntmps26
  go_wp2_with (go_at_call 33; refine (unhide HI).mono ?_; rintro e w' ⟨rfl, k, os, rfl⟩)
  go_ret
  exact ⟨rfl, below_grow w k os⟩
end Go.Proofs.YtccpcmhideijpaaDoor
