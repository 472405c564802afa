/-
  Plain facts, without the program: a text cut at its blanks.
-/
import Derived.Lib.Split
import Derived.Lib.SplitLaws
import Derived.Lib.Strings
import Derived.Test.YtccpcmhideijpaaDoorNumMath
namespace Go.Proofs.YtccpcmhideijpaaDoor.Mth
open Go.Lib (split splitK splitB index indexByte count)

theorem index_blank (p r : List UInt8) (h : ∀ c ∈ p, c ≠ 32) : index (p ++ 32 :: r) [32] = p.length := by
  rw [Lib.index_one]
  induction p with
  | nil => simp [indexByte]
  | cons c t ih =>
    have hc : c ≠ 32 := h c (by simp)
    have := ih (fun x hx => h x (by simp [hx]))
    simp only [List.cons_append, indexByte, this]
    rw [if_neg (by simpa using hc), if_neg (by simp)]
    simp
theorem index_none (p : List UInt8) (h : ∀ c ∈ p, c ≠ 32) : index p [32] = -1 := by
  rw [Lib.index_one]
  induction p with
  | nil => simp [indexByte]
  | cons c t ih =>
    have hc : c ≠ 32 := h c (by simp)
    have := ih (fun x hx => h x (by simp [hx]))
    simp only [indexByte, this]
    rw [if_neg (by simpa using hc)]
    simp
theorem split_blank (p r : List UInt8) (h : ∀ c ∈ p, c ≠ 32) : split (p ++ 32 :: r) [32] = p :: split r [32] := by
  have hi := index_blank p r h
  have hc := Lib.count_hit (s := p ++ 32 :: r) (sub := [32]) (i := p.length) (by simp) hi
  unfold split
  rw [hc, Nat.add_comm 1]
  have e1 : (p ++ 32 :: r).drop (p.length + ([32] : List UInt8).length) = r := by simp
  rw [e1]
  simp only [splitK, hi]
  rw [if_neg (by simp)]
  simp
theorem split_none (p : List UInt8) (h : ∀ c ∈ p, c ≠ 32) : split p [32] = [p] := by
  have hi := index_none p h
  unfold split
  rw [Lib.count_miss hi]
  rfl
end Go.Proofs.YtccpcmhideijpaaDoor.Mth
