/-
  The program's DecText (strconv.Itoa), and the law's walk.
-/
import Derived.Test.YtlgibmefmnmgfafDoorDecS
import Derived.Test.YtlgibmefmnmgfafDoorShelf
import Derived.Lib.LaidTab
import Derived.OpenShut
namespace Go.Proofs.YtlgibmefmnmgfafDoor
open Go.RowKit
open Go.Lib (decDigits itoa)

/-- What the program needs of memory: the library's table of the powers of ten. -/
def Tens (w : World) : Prop := Lib.TabIs Tryd.prog w "internal/strconv.uint64pow10" .u64 Lib.pow10Tab

theorem below_grow (w : World) (k : Nat) (os : Array Obj) : Below w.heap.size w (Sort.grow (w.drewN k) os) :=
  ⟨rfl, rfl, rfl, by simp [Sort.grow, World.drewN], fun i hi => by simp [Sort.grow, World.drewN, Array.getElem?_append_left hi]⟩

theorem implDec (n : Int) (w : World) (h0 : -9223372036854775808 ≤ n) (h1 : n ≤ 9223372036854775807) (hT : Tens w) : Calls Tryd.prog 7 #[.int .i64 n] w fun e w' => e = .returned (.string ⟨(itoa n).toArray⟩) ∧ Below w.heap.size w w' := by
  have HI := hide (Tryd.strconv_Itoa n h0 h1 w hT)
  clear hT
  go_enter Tryd.func7, Tryd.ntmps7
  go_wp2_with (go_at_call 15; refine (unhide HI).mono ?_; rintro e w' ⟨rfl, k, os, rfl⟩)
  go_ret
  exact ⟨rfl, below_grow w k os⟩

set_option maxHeartbeats 1000000 in
theorem fnExactDecText_walk (n : Int) (hn : (Lit.int .i64 n).wf = true) (w : World) (hT : Tens w) :
    Calls Tryd.prog 3 #[.int .i64 n] w fun e w' => e = .returned (.bool true) ∧ Below w.heap.size w w' := by
  have hb := bounds_i64 hn
  have HS := hide (fun w1 => specDec n w1 hb.1 hb.2)
  have HI := hide (implDec n w hb.1 hb.2 hT)
  clear hT hn hb
  go_enter Tryd.func3, Tryd.ntmps3
  go_wp2_with (first | (go_at_call 6; refine (unhide HS _).mono ?_; rintro e w1 ⟨rfl, rfl⟩) | (go_at_call 7; refine (unhide HI).mono ?_; rintro e w2 ⟨rfl, hb2⟩))
  go_ret
  exact ⟨rfl, hb2⟩
end Go.Proofs.YtlgibmefmnmgfafDoor
