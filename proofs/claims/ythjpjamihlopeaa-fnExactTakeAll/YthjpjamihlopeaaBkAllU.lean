/-
  TakeAll at any number of asks, of the program and of the model, in one form.
-/
import Derived.Test.YthjpjamihlopeaaBkAllS
namespace Go.Proofs.Ythjpjamihlopeaa
open Go.RowKit
open Mth

def Mth.Bk.takesU (b : Bk) (l : List (Int × Int)) : Bk × List Bool := if l.length ≤ 300 then b.takes l else (b, [])
theorem Mth.takesU_few {b : Bk} {l : List (Int × Int)} (h : l.length ≤ 300) : b.takesU l = b.takes l := if_pos h
theorem Mth.takesU_many {b : Bk} {l : List (Int × Int)} (h : ¬ l.length ≤ 300) : b.takesU l = (b, []) := if_neg h
theorem Mth.takes_len (b : Bk) (l : List (Int × Int)) : (b.takes l).2.length = l.length := by
  have h := takes_length b l l.length (Nat.le_refl _)
  rwa [List.take_length] at h
/-- A row of truths, as it lies. -/
def RowB (w : World) (a : Option Addr) (xs : List Bool) : Prop := ∀ i (hi : i < xs.length), ∃ g, a = some ⟨g, 0, none⟩ ∧ g < w.heap.size ∧ w.cell? ⟨g, i, none⟩ = some (.bool xs[i])
theorem RowB.below {w w' : World} {a : Option Addr} {xs : List Bool} (h : RowB w a xs) (hb : Below w.heap.size w w') : RowB w' a xs := fun i hi => by
  obtain ⟨g, e, hg, hc⟩ := h i hi
  exact ⟨g, e, Nat.lt_of_lt_of_le hg hb.size, (hb.cell (p := ⟨g, i, none⟩) hg).trans hc⟩
theorem AsksAt.below {w w' : World} {a : Option Addr} {l : List (Int × Int)} (h : AsksAt w a l) (hb : Below w.heap.size w w') : AsksAt w' a l := fun i hi => by
  obtain ⟨g, off, e, hg, h1, h2⟩ := h i hi
  exact ⟨g, off, e, Nat.lt_of_lt_of_le hg hb.size, (hb.cell (p := ⟨g, off + i * 2, none⟩) hg).trans h1, (hb.cell (p := ⟨g, off + i * 2 + 1, none⟩) hg).trans h2⟩
theorem rowB_nil {w : World} {a : Option Addr} : RowB w a [] := fun i hi => by simp at hi
theorem rowB_own {w : World} {base : Nat} {v : Value} {xs : List Bool} (h : w.ownsRow base 4 1 v xs.length (xs.map Value.bool)) : ∃ a cap, v = .slice a xs.length cap ∧ RowB w a xs := by
  rcases h.2 with ⟨rfl, hn⟩ | ⟨g, cap, cur, rfl, hg, hblk, _⟩
  · exact ⟨none, 0, by rw [hn], fun i hi => by omega⟩
  · refine ⟨_, cap, rfl, fun i hi => ⟨g, rfl, blk_lt hblk, ?_⟩⟩
    have := h.cells rfl i (.bool xs[i]) (by simp [hi])
    unfold Addr.add at this
    by_cases hz : i = 0
    · subst hz; simpa using this
    · simpa [hz] using this

theorem implTakeAllU (b : Bk) (a : Option Addr) (cap : Nat) (l : List (Int × Int)) (w : World) (ha : AsksAt w a l) :
    Calls Try.prog 18 #[bkv b, .slice a l.length cap] w fun e w' => ∃ la lc, e = .returned (.tuple #[bkv (b.takesU l).1, .slice la (b.takesU l).2.length lc]) ∧ RowB w' la (b.takesU l).2 ∧ Below w.heap.size w w' := by
  by_cases hl : l.length ≤ 300
  · rw [takesU_few hl]
    refine (implTakeAll b a cap l w hl ha).mono ?_
    rintro e w' ⟨g, rfl, hr, hg, hb⟩
    rw [takes_len]
    exact ⟨_, _, rfl, fun i hi => ⟨g, rfl, blk_lt hr, hr.cell i hi⟩, hb⟩
  · rw [takesU_many hl]
    refine (implTakeAll_many b a l.length cap w (by omega)).mono ?_
    rintro e w' ⟨rfl, hb⟩
    exact ⟨none, 0, rfl, rowB_nil, hb⟩
theorem specTakeAllU (b : Bk) (a : Option Addr) (cap : Nat) (l : List (Int × Int)) (w : World) (ha : AsksAt w a l) :
    Calls Try.prog 19 #[bkv b, .slice a l.length cap] w fun e w' => ∃ la lc, e = .returned (.tuple #[bkv (b.takesU l).1, .slice la (b.takesU l).2.length lc]) ∧ RowB w' la (b.takesU l).2 ∧ Below w.heap.size w w' := by
  by_cases hl : l.length ≤ 300
  · rw [takesU_few hl]
    refine (specTakeAll b a cap l w hl ha).mono ?_
    rintro e w' ⟨v, rfl, hr, hb⟩
    obtain ⟨la, lc, rfl, hR⟩ := rowB_own hr
    exact ⟨la, lc, rfl, hR, hb⟩
  · rw [takesU_many hl]
    refine (specTakeAll_many b a l.length cap w (by omega)).mono ?_
    rintro e w' ⟨g, rfl, hb⟩
    exact ⟨_, 0, rfl, rowB_nil, hb⟩
end Go.Proofs.Ythjpjamihlopeaa
