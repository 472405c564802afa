/-
  Rows of structs that came in, cell by cell, as an append takes them; rows of one's own.
-/
import Derived.Test.YtccpcmhideijpaaDoorGRows
import Derived.Test.YtccpcmhideijpaaDoorBytes
import Derived.Laws.AppendOwnNone
import Derived.Maps.AppendAt
import Derived.Laws.OwnMore
namespace Go.Proofs.YtccpcmhideijpaaDoor
namespace GR
open Go.RowKit
variable {α : Type} {enc : α → List Value} {sz : Nat}

theorem At.news {w : World} {x : Addr} {l : List α} (hs : ∀ y, (enc y).length = sz) (hz : 0 < sz) (h : At enc sz w (some x) l) : ∀ j u, (flat enc l)[j]? = some u → w.cell? (x.add j) = some u := by
  intro j u hu
  have hj : j < l.length * sz := by
    have := (List.getElem?_eq_some_iff.1 hu).1
    rwa [flat_length enc sz hs] at this
  have hq : j / sz < l.length := Nat.div_lt_of_lt_mul (by rw [Nat.mul_comm]; exact hj)
  have hr : j % sz < sz := Nat.mod_lt _ hz
  obtain ⟨g, off, e, hg, hc⟩ := h (j / sz) hq
  have hf := flat_at enc sz hs l (j / sz) hq (j % sz) hr
  have ej : j / sz * sz + j % sz = j := Nat.div_add_mod' j sz
  rw [ej] at hf
  have h2 := hc (j % sz) hr
  rw [ej, ← hf, hu] at h2
  injection e with e
  subst e
  have ea : (⟨g, off, none⟩ : Addr).add j = ⟨g, off + j, none⟩ := by unfold Addr.add; split <;> simp_all
  rw [ea]
  exact h2
theorem flat_oneCell (h1 : ∀ y, ∀ u ∈ enc y, u.oneCell' = true) (l : List α) : ∀ u ∈ flat enc l, u.oneCell' = true := by
  intro u hu
  unfold flat at hu
  rw [List.mem_flatMap] at hu
  obtain ⟨p, _, hp⟩ := hu
  exact h1 p u hp
theorem own_below {w w' : World} {B : Nat} {e : TypeId} {sz : Nat} {v : Value} {n : Nat} {xs : List Value} (h : w.ownsRow B e sz v n xs) (hb : Below w.heap.size w w') : w'.ownsRow B e sz v n xs :=
  h.kept (row := none) ⟨hb.os, hb.tape, hb.output, hb.size, fun k hk _ => hb.block k hk⟩ (by cases v.ownBlock with | none => exact .inl rfl | some k => exact .inr (by simp))
theorem own_lower {w : World} {b b' : Nat} {e : TypeId} {sz : Nat} {v : Value} {n : Nat} {xs : List Value} (h : w.ownsRow b e sz v n xs) (hb : b' ≤ b) : w.ownsRow b' e sz v n xs := by
  refine ⟨h.1, ?_⟩
  rcases h.2 with h2 | ⟨g, cap, cur, hv, hg, hr⟩
  · exact .inl h2
  · exact .inr ⟨g, cap, cur, hv, Nat.le_trans hb hg, hr⟩
theorem below_append {w wr w1 : World} {B : Nat} {e : TypeId} {sz : Nat} {v : Value} {n : Nat} {xs : List Value} {o : Obj} (hb : Below B w wr) (hB : B ≤ wr.heap.size) (hown : wr.ownsRow B e sz v n xs) (hg : (wr.alloc o).grownBy w1 v.ownBlock) : Below B w w1 :=
  (hb.alloc hB o).grown hg (by simp; omega) (fun k hk => (hown.lt k hk).1)
theorem none_nil {w : World} {l : List α} (h : At enc sz w none l) : l = [] := by
  cases l with
  | nil => rfl
  | cons y l =>
    obtain ⟨g, off, e, _⟩ := h 0 (by simp)
    cases e
end GR
end Go.Proofs.YtccpcmhideijpaaDoor
