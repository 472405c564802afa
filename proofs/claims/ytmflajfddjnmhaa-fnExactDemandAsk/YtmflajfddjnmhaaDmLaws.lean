/-
  The laws' own helpers on demand, and a demand that came in, as a value: three numbers.
-/
import Derived.Test.YtmflajfddjnmhaaDmS2
import Derived.ProofKit
namespace Go.Proofs.Ytmflajfddjnmhaa
open Go.RowKit
open Go.WideShapes
open Mth

set_option maxRecDepth 100000 in
theorem toDemand (d : Dm) (w : World) : Calls Try.prog 28 #[dmv d] w fun e w' => e = .returned (dmv d) ∧ Below w.heap.size w w' := by
  obtain ⟨A, C, O⟩ := d
  go_enter Try.func28, Try.ntmps28
  go_wp2_with fail
  refine bodyPost_ret (v := .agg #[.int .i64 A, .int .i64 C, .int .i64 O]) (by simp [results, Try.results28, go_sem]) rfl ⟨rfl, ?_⟩
  exact (((Below.refl _ _).alloc (Nat.le_refl _) _).alloc (by simp) _).alloc (by simp; omega) _

set_option maxRecDepth 100000 in
theorem eqDemand (d : Dm) (w : World) : Calls Try.prog 29 #[dmv d, dmv d] w fun e w' => e = .returned (.bool true) ∧ Below w.heap.size w w' := by
  obtain ⟨A, C, O⟩ := d
  go_enter Try.func29, Try.ntmps29
  go_wp2_with fail
  go_ret
  exact ⟨rfl, ((Below.refl _ _).alloc (Nat.le_refl _) _).alloc (by simp) _⟩

theorem array_three {α : Type} {cs : Array α} (h : cs.size = 3) : ∃ a b c, cs = #[a, b, c] := by
  obtain ⟨l⟩ := cs
  match l, h with
  | [a, b, c], _ => exact ⟨a, b, c, rfl⟩
theorem dmTypes : Try.prog.cellTypes Try.prog.depth 39 = some [3, 3, 3] := by kernel_rfl
theorem dmCells : Try.prog.cellsOf 39 = 3 := by kernel_rfl
theorem open_dm {W : World} {r : Reach} {base : Nat} {v : Value} (hv : Value.okWide Try.prog W r base 39 v) : ∃ d : Dm, v = dmv d := by
  simp only [Value.okWide, Try.underlying39] at hv
  obtain ⟨cs, rfl, hsz, ts, hts, _, hall⟩ := hv
  rw [dmTypes] at hts
  cases hts
  obtain ⟨a, b, c, rfl⟩ := array_three (hsz.trans dmCells)
  have key : ∀ (i : Nat) (x : Value), i < 3 → #[a, b, c][i]? = some x → ∃ n, x = .int .i64 n := by
    intro i x hi hx
    obtain ⟨u, hu, hc⟩ := hall i x hx
    have hu3 : u = 3 := by
      have hcase : i = 0 ∨ i = 1 ∨ i = 2 := by omega
      rcases hcase with rfl | rfl | rfl <;> (simp at hu; exact hu.symm)
    subst hu3
    exact okWide_int (P := Try.prog) (w := W) (r := r) (base := base) Try.underlying3 (by simpa only [Value.okWide, Try.underlying3] using hc)
  obtain ⟨na, rfl⟩ := key 0 a (by omega) rfl
  obtain ⟨nb, rfl⟩ := key 1 b (by omega) rfl
  obtain ⟨nc, rfl⟩ := key 2 c (by omega) rfl
  exact ⟨⟨na, nb, nc⟩, rfl⟩
end Go.Proofs.Ytmflajfddjnmhaa
