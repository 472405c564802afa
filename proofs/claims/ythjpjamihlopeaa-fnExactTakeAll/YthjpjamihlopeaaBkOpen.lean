/-
  A bucket that came in, as a value: six numbers.
-/
import Derived.Test.YthjpjamihlopeaaBkMath
import Derived.ProofKit
namespace Go.Proofs.Ythjpjamihlopeaa
open Go.RowKit
open Go.WideShapes
open Mth

theorem array_six {α : Type} {cs : Array α} (h : cs.size = 6) : ∃ a b c d e f, cs = #[a, b, c, d, e, f] := by
  obtain ⟨l⟩ := cs
  match l, h with
  | [a, b, c, d, e, f], _ => exact ⟨a, b, c, d, e, f, rfl⟩
theorem bkTypes : Try.prog.cellTypes Try.prog.depth 44 = some [3, 3, 3, 3, 3, 3] := by kernel_rfl
theorem bkCells : Try.prog.cellsOf 44 = 6 := by kernel_rfl
theorem open_bk {W : World} {r : Reach} {base : Nat} {v : Value} (hv : Value.okWide Try.prog W r base 44 v) : ∃ b : Bk, v = bkv b := by
  simp only [Value.okWide, Try.underlying44] at hv
  obtain ⟨cs, rfl, hsz, ts, hts, _, hall⟩ := hv
  rw [bkTypes] at hts
  cases hts
  obtain ⟨a, b, c, d, e, f, rfl⟩ := array_six (hsz.trans bkCells)
  have key : ∀ (i : Nat) (x : Value), i < 6 → #[a, b, c, d, e, f][i]? = some x → ∃ n, x = .int .i64 n := by
    intro i x hi hx
    obtain ⟨u, hu, hc⟩ := hall i x hx
    have hu3 : u = 3 := by
      have hcase : i = 0 ∨ i = 1 ∨ i = 2 ∨ i = 3 ∨ i = 4 ∨ i = 5 := by omega
      rcases hcase with rfl | rfl | rfl | rfl | rfl | rfl <;> (simp at hu; exact hu.symm)
    subst hu3
    exact okWide_int (P := Try.prog) (w := W) (r := r) (base := base) Try.underlying3 (by simpa only [Value.okWide, Try.underlying3] using hc)
  obtain ⟨na, rfl⟩ := key 0 a (by omega) rfl
  obtain ⟨nb, rfl⟩ := key 1 b (by omega) rfl
  obtain ⟨nc, rfl⟩ := key 2 c (by omega) rfl
  obtain ⟨nd, rfl⟩ := key 3 d (by omega) rfl
  obtain ⟨ne, rfl⟩ := key 4 e (by omega) rfl
  obtain ⟨nf, rfl⟩ := key 5 f (by omega) rfl
  exact ⟨⟨na, nb, nc, nd, ne, nf⟩, rfl⟩
end Go.Proofs.Ythjpjamihlopeaa
