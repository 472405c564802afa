/-
  What the laws share: a code that is too big, a byte of the code.
-/
import Derived.Test.YtmflajfddjnmhaaDrawBase
namespace Go.Proofs.Ytmflajfddjnmhaa
open Go.RowKit

theorem bigNo (a : Option Addr) (len cap : Nat) (w : World) (h : len ≤ 1048576) : Calls Try.prog 10 #[.slice a len cap] w fun e w' => e = .returned (.bool false) ∧ w = w' := by
  go_enter Try.func10, Try.ntmps10
  go_wp2
  go_ret
  exact ⟨by simp; omega, rfl⟩
theorem bigYes (a : Option Addr) (len cap : Nat) (w : World) (h : 1048576 < len) : Calls Try.prog 10 #[.slice a len cap] w fun e w' => e = .returned (.bool true) ∧ w = w' := by
  go_enter Try.func10, Try.ntmps10
  go_wp2
  go_ret
  exact ⟨by simp; omega, rfl⟩
/-- A byte of the code, or another number below 256: the same one in every world with this memory. -/
theorem atX (a : Option Addr) (len cap i : Nat) (w : World) (hcode : CodeOk w a len) (hi : i ≤ 1000) : ∃ x : Int, 0 ≤ x ∧ x ≤ 255 ∧ ∀ w' : World, w'.heap = w.heap → Calls Try.prog 27 #[.slice a len cap, .int .i64 i] w' fun e w'' => e = .returned (.int .i64 x) ∧ w'' = w' := by
  have hl := hcode.1
  by_cases hlt : i < len
  · obtain ⟨b, off, z, rfl, hb, z0, z1, hz⟩ := hcode.2 i hlt
    refine ⟨z, z0, z1, fun w' hw => ?_⟩
    have hz' : w'.cell? ⟨b, off + i, none⟩ = some (.int .u8 z) := by rw [← hz]; unfold World.cell?; rw [hw]
    clear hcode hz
    go_enter Try.func27, Try.ntmps27
    go_wp2
    go_ret
    exact ⟨rfl, rfl⟩
  · refine ⟨((i : Int) * 7 + (len : Int)) % 256, by omega, by omega, fun w' hw => ?_⟩
    clear hcode
    go_enter Try.func27, Try.ntmps27
    go_wp2
    go_ret
    exact ⟨rfl, rfl⟩
end Go.Proofs.Ytmflajfddjnmhaa
