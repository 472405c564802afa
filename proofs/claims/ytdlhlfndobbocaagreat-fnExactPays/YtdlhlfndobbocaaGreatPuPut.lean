/-
  A purse put into its place in an ascending list, in plain terms: when the list is right then.
-/
import Derived.Test.YtdlhlfndobbocaaGreatPuMath
import Derived.Sort.Walk0
namespace Go.Proofs.YtdlhlfndobbocaaGreat
namespace Mth

abbrev klt (a b : Pu) : Prop := a.k.toList < b.k.toList
theorem less_iff (a b : ByteArray) : Op.bytesLess a.toList b.toList = true ↔ a.toList < b.toList := by
  rw [bytesLess_eq, decide_eq_true_iff]
theorem sle_false_iff (a b : ByteArray) : sle a b = false ↔ b.toList < a.toList := by
  unfold sle
  rw [bytesLess_eq, Bool.or_eq_false_iff, decide_eq_false_iff_not, beq_eq_false_iff_ne]
  constructor
  · rintro ⟨h1, h2⟩
    rcases List.le_iff_lt_or_eq.1 (List.not_lt.1 h1) with h | h
    · exact h
    · exact absurd h.symm h2
  · intro h
    exact ⟨List.lt_asymm h, fun e => by rw [e] at h; exact List.lt_irrefl _ h⟩
theorem pairwise_of_next {R : Pu → Pu → Prop} (tr : ∀ a b c, R a b → R b c → R a c) : ∀ (l : List Pu), (∀ i (h : i + 1 < l.length), R l[i] l[i + 1]) → l.Pairwise R := by
  intro l
  induction l with
  | nil => intro _; exact List.Pairwise.nil
  | cons x r ih =>
    intro h
    have hr : r.Pairwise R := ih fun i hi => h (i + 1) (by simpa using hi)
    refine List.Pairwise.cons ?_ hr
    intro y hy
    cases r with
    | nil => simp at hy
    | cons z s =>
      have hxz : R x z := h 0 (by simp)
      rcases List.mem_cons.1 hy with rfl | hy
      · exact hxz
      · exact tr _ _ _ hxz ((List.pairwise_cons.1 hr).1 y hy)
theorem psOk_iff (l : List Pu) : psOk l = true ↔ (∀ p ∈ l, puOk p = true) ∧ l.Pairwise klt ∧ l.length ≤ 20 := by
  unfold psOk
  rw [Bool.and_eq_true, List.all_eq_true, decide_eq_true_iff]
  constructor
  · rintro ⟨h, h20⟩
    refine ⟨?_, ?_, h20⟩
    · intro p hp
      obtain ⟨i, hi, rfl⟩ := List.mem_iff_getElem.1 hp
      have h1 := h i (List.mem_range.2 hi)
      unfold okAt at h1
      rw [Bool.and_eq_true] at h1
      simpa [List.getD, hi] using h1.1
    · refine pairwise_of_next (fun a b c (h1 : klt a b) (h2 : klt b c) => (List.lt_trans h1 h2 : klt a c)) l fun i hi => ?_
      have h1 := h (i + 1) (List.mem_range.2 hi)
      unfold okAt at h1
      rw [Bool.and_eq_true] at h1
      have h2 := h1.2
      have hi0 : i < l.length := by omega
      simp [List.getD, hi, hi0] at h2
      exact (sle_false_iff _ _).1 h2
  · rintro ⟨h, hp, h20⟩
    refine ⟨?_, h20⟩
    intro i hi
    have hi' := List.mem_range.1 hi
    unfold okAt
    rw [Bool.and_eq_true]
    refine ⟨by simpa [List.getD, hi'] using h l[i] (List.getElem_mem hi'), ?_⟩
    cases i with
    | zero => rfl
    | succ i =>
      have hi0 : i < l.length := by omega
      have h2 := (sle_false_iff l[i + 1].k l[i].k).2 (List.pairwise_iff_getElem.1 hp i (i + 1) hi0 hi' (by omega))
      simp [List.getD, hi', hi0, h2]

/-- What lies ahead of a key, and what lies behind its place. -/
def headP (l : List Pu) (k : ByteArray) : List Pu := l.takeWhile fun q => Op.bytesLess q.k.toList k.toList
def fromP (l : List Pu) (k : ByteArray) : List Pu := l.dropWhile fun q => Op.bytesLess q.k.toList k.toList
def tailP (l : List Pu) (k : ByteArray) : List Pu := match fromP l k with
  | [] => []
  | q :: r => if q.k.toList == k.toList then r else q :: r
/-- The list with a purse in its place. -/
def putP (l : List Pu) (p : Pu) : List Pu := headP l p.k ++ p :: tailP l p.k
theorem head_from (l : List Pu) (k : ByteArray) : headP l k ++ fromP l k = l := List.takeWhile_append_dropWhile
theorem takeWhile_imp (f : Pu → Bool) : ∀ (l : List Pu) (q : Pu), q ∈ l.takeWhile f → f q = true := by
  intro l
  induction l with
  | nil => intro q hq; simp at hq
  | cons x r ih =>
    intro q hq
    rw [List.takeWhile_cons] at hq
    split at hq
    · rename_i hx
      rcases List.mem_cons.1 hq with rfl | hq
      · exact hx
      · exact ih q hq
    · simp at hq
theorem head_lt {l : List Pu} {k : ByteArray} {q : Pu} (h : q ∈ headP l k) : q.k.toList < k.toList := (less_iff _ _).1 (takeWhile_imp _ l q h)
theorem tail_sub (l : List Pu) (k : ByteArray) : ∀ q ∈ tailP l k, q ∈ fromP l k := by
  intro q hq
  unfold tailP at hq
  split at hq
  · simp at hq
  · rename_i x r e
    rw [e]
    split at hq
    · exact List.mem_cons_of_mem _ hq
    · exact hq
theorem from_head (l : List Pu) (k : ByteArray) (q : Pu) (r : List Pu) (h : fromP l k = q :: r) : ¬ q.k.toList < k.toList := by
  unfold fromP at h
  have h2 := List.head?_dropWhile_not (fun q : Pu => Op.bytesLess q.k.toList k.toList) l
  rw [h] at h2
  simp at h2
  intro h3
  rw [(less_iff _ _).2 h3] at h2
  cases h2
theorem tail_gt {l : List Pu} {k : ByteArray} (hp : l.Pairwise klt) : ∀ q ∈ tailP l k, k.toList < q.k.toList := by
  have hp2 : (fromP l k).Pairwise klt := hp.sublist (List.dropWhile_sublist _)
  unfold tailP
  cases hf : fromP l k with
  | nil => intro q hq; simp at hq
  | cons x r =>
    have hx := from_head l k x r hf
    rw [hf] at hp2
    have hr := (List.pairwise_cons.1 hp2).1
    dsimp only
    by_cases he : x.k.toList = k.toList
    · rw [if_pos (by simpa using he)]
      intro q hq
      have := hr q hq
      unfold klt at this
      rw [he] at this
      exact this
    · rw [if_neg (by simpa using he)]
      have hkx : k.toList < x.k.toList := by
        rcases List.le_iff_lt_or_eq.1 (List.not_lt.1 hx) with h | h
        · exact h
        · exact absurd h.symm he
      intro q hq
      rcases List.mem_cons.1 hq with rfl | hq
      · exact hkx
      · exact List.lt_trans hkx (hr q hq)
theorem tail_pairwise {l : List Pu} {k : ByteArray} (hp : l.Pairwise klt) : (tailP l k).Pairwise klt := by
  have hp2 : (fromP l k).Pairwise klt := hp.sublist (List.dropWhile_sublist _)
  unfold tailP
  cases hf : fromP l k with
  | nil => exact List.Pairwise.nil
  | cons x r =>
    rw [hf] at hp2
    dsimp only
    split
    · exact (List.pairwise_cons.1 hp2).2
    · exact hp2
/-- A right list with a purse in its place is right just when the purse is, and there is room. -/
theorem psOk_put {l : List Pu} (p : Pu) (h : psOk l = true) : psOk (putP l p) = (puOk p && decide ((putP l p).length ≤ 20)) := by
  obtain ⟨h1, h2, h3⟩ := (psOk_iff l).1 h
  apply Bool.eq_iff_iff.2
  rw [psOk_iff, Bool.and_eq_true, decide_eq_true_iff]
  constructor
  · rintro ⟨g1, _, g3⟩
    exact ⟨g1 p (by unfold putP; simp), g3⟩
  · rintro ⟨g1, g3⟩
    refine ⟨?_, ?_, g3⟩
    · intro q hq
      unfold putP at hq
      rcases List.mem_append.1 hq with hq | hq
      · exact h1 q ((List.takeWhile_sublist _).mem hq)
      · rcases List.mem_cons.1 hq with rfl | hq
        · exact g1
        · exact h1 q ((List.dropWhile_sublist _).mem (tail_sub l p.k q hq))
    · unfold putP
      rw [List.pairwise_append]
      refine ⟨h2.sublist (List.takeWhile_sublist _), List.pairwise_cons.2 ⟨fun q hq => tail_gt h2 q hq, tail_pairwise h2⟩, ?_⟩
      intro q hq q' hq'
      rcases List.mem_cons.1 hq' with rfl | hq'
      · exact head_lt hq
      · exact List.lt_trans (head_lt hq) (tail_gt h2 q' hq')
/-- The list with another purse of a key, where that is right. -/
def withP (l : List Pu) (p : Pu) (n : Int) : List Pu × Bool :=
  if psOk l && decide (1 ≤ n ∧ n ≤ 1000000000) && psOk (putP l p) then (putP l p, true) else (l, false)
end Mth
end Go.Proofs.YtdlhlfndobbocaaGreat
