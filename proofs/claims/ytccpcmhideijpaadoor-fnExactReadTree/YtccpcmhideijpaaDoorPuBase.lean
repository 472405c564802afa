/-
  Purses in memory: their cells one by one, what the type's zero is.
-/
import Derived.Test.YtccpcmhideijpaaDoorPuOf
namespace Go.Proofs.YtccpcmhideijpaaDoor
open Go.RowKit
open Mth

theorem below_one' (w : World) (o : Obj) : Below w.heap.size w (w.alloc o) := (Below.refl _ _).alloc (Nat.le_refl _) _
/-- The cells of purses as they lie, one by one. -/
theorem PursesAt.news {w : World} {x : Addr} {l : List Pu} (h : PursesAt w (some x) l) : ∀ j u, (GR.flat encP l)[j]? = some u → w.cell? (x.add j) = some u := by
  intro j u hu
  have hj : j < l.length * 4 := by
    have := (List.getElem?_eq_some_iff.1 hu).1
    rwa [GR.flat_length encP 4 encP_length] at this
  obtain ⟨g, off, e, hg, hc⟩ := h (j / 4) (by omega)
  have hf := GR.flat_at encP 4 encP_length l (j / 4) (by omega) (j % 4) (by omega)
  have ej : j / 4 * 4 + j % 4 = j := by omega
  rw [ej] at hf
  have h2 := hc (j % 4) (by omega)
  rw [ej, ← hf, hu] at h2
  injection e with e
  subst e
  have ea : (⟨g, off, none⟩ : Addr).add j = ⟨g, off + j, none⟩ := by unfold Addr.add; split <;> simp_all
  rw [ea]
  exact h2
theorem encP_one (l : List Pu) : ∀ u ∈ GR.flat encP l, u.oneCell' = true := by
  intro u hu
  unfold GR.flat at hu
  rw [List.mem_flatMap] at hu
  obtain ⟨p, _, hp⟩ := hu
  simp only [encP, List.mem_cons, List.not_mem_nil, or_false] at hp
  rcases hp with rfl | rfl | rfl | rfl <;> rfl

end Go.Proofs.YtccpcmhideijpaaDoor
