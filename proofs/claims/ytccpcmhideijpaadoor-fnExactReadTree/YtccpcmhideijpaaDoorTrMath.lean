/-
  Trees in plain terms: a list of parents, when it is right.
-/
import Derived.Test.YtccpcmhideijpaaDoorNdMath
namespace Go.Proofs.YtccpcmhideijpaaDoor
namespace Mth

/-- Is place i of a list of parents right? -/
def upB (l : List Int) (i : Nat) : Bool := if i = 0 then l[i]?.getD 0 == -1 else decide (0 ≤ l[i]?.getD 0 ∧ l[i]?.getD 0 < i)
def upsB (l : List Int) (k : Nat) : Bool := (List.range k).all (upB l)
def treeB (l : List Int) : Bool := decide (1 ≤ l.length) && decide (l.length ≤ 30) && upsB l l.length
theorem upsB_zero (l : List Int) : upsB l 0 = true := rfl
theorem upsB_succ (l : List Int) (k : Nat) : upsB l (k + 1) = (upsB l k && upB l k) := by simp [upsB, List.range_succ]
theorem upB_zero (l : List Int) (h : 0 < l.length) : upB l 0 = decide (l[0] = -1) := by
  unfold upB; rw [if_pos rfl, List.getElem?_eq_getElem h, Option.getD_some]
  by_cases h : l[0] = -1 <;> simp [h]
theorem upB_pos (l : List Int) (i : Nat) (h0 : 0 < i) (h : i < l.length) : upB l i = decide (0 ≤ l[i] ∧ l[i] < (i : Int)) := by
  unfold upB; rw [if_neg (by omega), List.getElem?_eq_getElem h, Option.getD_some]
theorem upsB_bad (l : List Int) (k n : Nat) (hk : k < n) (h : upB l k = false) : upsB l n = false := by
  cases hc : upsB l n with
  | false => rfl
  | true =>
    unfold upsB at hc
    rw [List.all_eq_true] at hc
    rw [hc k (by simpa using hk)] at h
    cases h
theorem upsB_at (l : List Int) (k n : Nat) (hk : k < n) (h : upsB l n = true) : upB l k = true := by
  unfold upsB at h
  rw [List.all_eq_true] at h
  exact h k (by simpa using hk)
/-- What a right tree is. -/
structure TreeP (l : List Int) : Prop where
  pos : 0 < l.length
  le : l.length ≤ 30
  root : l[0]? = some (-1)
  up : ∀ i (h : i < l.length), 0 < i → 0 ≤ l[i] ∧ l[i] < (i : Int)
theorem TreeP.of {l : List Int} (h : treeB l = true) : TreeP l := by
  unfold treeB at h
  simp only [Bool.and_eq_true, decide_eq_true_eq] at h
  have h0 : 0 < l.length := by omega
  refine ⟨h0, h.1.2, ?_, fun i hi hp => ?_⟩
  · have := upsB_at l 0 _ h0 h.2
    rw [upB_zero l h0, decide_eq_true_eq] at this
    rw [List.getElem?_eq_getElem h0, this]
  · have := upsB_at l i _ hi h.2
    rw [upB_pos l i hp hi, decide_eq_true_eq] at this
    exact this
theorem treeB_len (l : List Int) (h : l.length = 0 ∨ 30 < l.length) : treeB l = false := by
  unfold treeB
  rcases h with h | h
  · rw [decide_eq_false (show ¬ 1 ≤ l.length by omega)]; rfl
  · rw [decide_eq_false (show ¬ l.length ≤ 30 by omega)]; simp
theorem treeB_bad (l : List Int) (k : Nat) (hk : k < l.length) (h : upB l k = false) : treeB l = false := by
  unfold treeB
  rw [upsB_bad l k _ hk h]; simp
theorem treeB_good (l : List Int) (h0 : 1 ≤ l.length) (h1 : l.length ≤ 30) (h : upsB l l.length = true) : treeB l = true := by
  unfold treeB
  rw [h, decide_eq_true h0, decide_eq_true h1]; rfl
theorem treeB_fit (l : List Int) (h : upsB l l.length = true) : treeB l = decide (1 ≤ (l.length : Int) ∧ (l.length : Int) ≤ 30) := by
  unfold treeB
  rw [h, Bool.and_true]
  by_cases h1 : 1 ≤ l.length <;> by_cases h2 : l.length ≤ 30 <;> simp [h1, h2] <;> omega
end Mth
end Go.Proofs.YtccpcmhideijpaaDoor
