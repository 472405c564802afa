/-
  Nodes in plain terms, the program's way: numbers that ascend from a first one on, a node's neighbours in order, what was seen of each.
-/
import Derived.Test.YtdlhlfndobbocaaGreatNdMath
namespace Go.Proofs.YtdlhlfndobbocaaGreat
namespace Mth

/-- The last one's number, or a first one's. -/
def lastI {α : Type} (key : α → Int) (y0 : Int) (l : List α) : Int := (l.getLast?.map key).getD y0
theorem lastI_snoc {α : Type} (key : α → Int) (y0 : Int) (l : List α) (k : Nat) (h : k < l.length) : lastI key y0 (l.take (k + 1)) = key l[k] := by
  unfold lastI
  rw [List.take_succ_eq_append_getElem h, List.getLast?_append]
  simp
theorem chk_last {α : Type} (p : α → Bool) (key : α → Int) (y0 : Int) (hp : ∀ x, p x = true → y0 < key x) (l : List α) (k : Nat) (h : k < l.length) :
    chk p (fun s t => ltB (key s) (key t)) (l.take (k + 1)) = (chk p (fun s t => ltB (key s) (key t)) (l.take k) && (p l[k] && decide (lastI key y0 (l.take k) < key l[k]))) := by
  rw [List.take_succ_eq_append_getElem h, chk_snoc]
  unfold lastI
  cases hg : (l.take k).getLast? with
  | none =>
    cases hx : p l[k] with
    | false => simp
    | true => simp [hp _ hx]
  | some y => simp [ltB]
theorem chk_mem {α : Type} {p : α → Bool} {r : α → α → Bool} {l : List α} (h : chk p r l = true) : ∀ x ∈ l, p x = true := by
  induction l with
  | nil => intro x hx; simp at hx
  | cons y l ih =>
    rw [chk_cons] at h
    simp only [Bool.and_eq_true] at h
    intro x hx
    rcases List.mem_cons.1 hx with rfl | hx
    · exact h.1.1
    · exact ih h.2 x hx
theorem chk_lastI {α : Type} {p : α → Bool} {r : α → α → Bool} {key : α → Int} {y0 : Int} {l : List α} (hp : ∀ x, p x = true → y0 < key x) (h : chk p r l = true) : y0 ≤ lastI key y0 l := by
  unfold lastI
  cases hg : l.getLast? with
  | none => simp
  | some y =>
    have := hp y (chk_mem h y (List.mem_of_getLast? hg))
    simp
    omega
theorem chk_iff {α : Type} {p : α → Bool} {r : α → α → Bool} (ht : ∀ a b c, r a b = true → r b c = true → r a c = true) {l : List α} : chk p r l = true ↔ (∀ x ∈ l, p x = true) ∧ l.Pairwise (fun a b => r a b = true) := by
  induction l with
  | nil => simp [chk]
  | cons x l ih =>
    rw [chk_cons]
    simp only [Bool.and_eq_true, ih, List.pairwise_cons, List.mem_cons, forall_eq_or_imp]
    constructor
    · rintro ⟨⟨h1, h2⟩, h3, h4⟩
      refine ⟨⟨h1, h3⟩, ?_, h4⟩
      cases l with
      | nil => intro a ha; simp at ha
      | cons y l =>
        simp only [List.head?_cons] at h2
        intro a ha
        rcases List.mem_cons.1 ha with rfl | ha
        · exact h2
        · exact ht x y a h2 ((List.pairwise_cons.1 h4).1 a ha)
    · rintro ⟨⟨h1, h3⟩, h2, h4⟩
      refine ⟨⟨h1, ?_⟩, h3, h4⟩
      cases l with
      | nil => simp
      | cons y l => exact h2 y (by simp)
theorem chk_and {α : Type} {p q : α → Bool} {r : α → α → Bool} {l : List α} : chk (fun x => p x && q x) r l = (chk p r l && l.all q) := by
  induction l with
  | nil => simp [chk]
  | cons x l ih =>
    rw [chk_cons, ih, chk_cons, List.all_cons]
    generalize p x = a
    generalize q x = b
    generalize chk p r l = d
    generalize l.all q = e
    cases a <;> cases b <;> cases d <;> cases e <;> simp

theorem asc_le : ∀ (B A : List Int), A.Pairwise (· < ·) → B.Pairwise (· < ·) → (∀ x ∈ A, x ∈ B) → A.length ≤ B.length := by
  intro B
  induction B with
  | nil =>
    intro A _ _ hs
    cases A with
    | nil => simp
    | cons a A => exact absurd (hs a (by simp)) (by simp)
  | cons b B ih =>
    intro A hA hB hs
    cases A with
    | nil => simp
    | cons a A =>
      have hA' := List.pairwise_cons.1 hA
      have hB' := List.pairwise_cons.1 hB
      by_cases hab : a = b
      · subst hab
        have := ih A hA'.2 hB'.2 (fun x hx => by
          rcases List.mem_cons.1 (hs x (List.mem_cons_of_mem _ hx)) with h | h
          · have := hA'.1 x hx; omega
          · exact h)
        simp; omega
      · have haB : a ∈ B := by
          rcases List.mem_cons.1 (hs a (by simp)) with h | h
          · exact absurd h hab
          · exact h
        have hba := hB'.1 a haB
        have := ih (a :: A) hA hB'.2 (fun x hx => by
          rcases List.mem_cons.1 (hs x hx) with h | h
          · rcases List.mem_cons.1 hx with h2 | h2
            · omega
            · have := hA'.1 x h2; omega
          · exact h)
        simp at this ⊢; omega
theorem asc_eq : ∀ (B A : List Int), A.Pairwise (· < ·) → B.Pairwise (· < ·) → (∀ x ∈ A, x ∈ B) → B.length ≤ A.length → A = B := by
  intro B
  induction B with
  | nil =>
    intro A _ _ hs _
    cases A with
    | nil => rfl
    | cons a A => exact absurd (hs a (by simp)) (by simp)
  | cons b B ih =>
    intro A hA hB hs hl
    cases A with
    | nil => simp at hl
    | cons a A =>
      have hA' := List.pairwise_cons.1 hA
      have hB' := List.pairwise_cons.1 hB
      by_cases hab : a = b
      · subst hab
        rw [ih A hA'.2 hB'.2 (fun x hx => by
          rcases List.mem_cons.1 (hs x (List.mem_cons_of_mem _ hx)) with h | h
          · have := hA'.1 x hx; omega
          · exact h) (by simpa using hl)]
      · have haB : a ∈ B := by
          rcases List.mem_cons.1 (hs a (by simp)) with h | h
          · exact absurd h hab
          · exact h
        have hba := hB'.1 a haB
        have := asc_le B (a :: A) hA hB'.2 (fun x hx => by
          rcases List.mem_cons.1 (hs x hx) with h | h
          · rcases List.mem_cons.1 hx with h2 | h2
            · omega
            · have := hA'.1 x h2; omega
          · exact h)
        simp at this hl; omega

/-- A node's neighbours. -/
def nbrs (n : Nd) : List Int := n.kids ++ (if n.par = -1 then [] else [n.par])
def srt (l : List Int) : List Int := l.mergeSort fun x y => decide (x ≤ y)
theorem srt_length (l : List Int) : (srt l).length = l.length := List.length_mergeSort l
theorem srt_mem (l : List Int) (x : Int) : x ∈ srt l ↔ x ∈ l := (List.mergeSort_perm l _).mem_iff
theorem srt_asc {l : List Int} (h : l.Nodup) : (srt l).Pairwise (· < ·) := by
  have h1 : (srt l).Pairwise (fun x y => decide (x ≤ y) = true) := List.pairwise_mergeSort (le := fun x y : Int => decide (x ≤ y)) (fun a b c h1 h2 => by simp at *; omega) (fun a b => by simp; omega) l
  have h2 : (srt l).Nodup := (List.mergeSort_perm l _).symm.nodup h
  exact (h1.and h2).imp (fun {a b} h => by have := of_decide_eq_true h.1; have := h.2; omega)
theorem has_iff (l : List Int) (x : Int) : hasB l x = true ↔ x ∈ l := by
  unfold hasB
  rw [List.any_eq_true]
  constructor
  · rintro ⟨y, hy, h⟩
    have := of_decide_eq_true h
    subst this
    exact hy
  · intro h; exact ⟨x, h, by simp⟩
theorem ltB_trans (a b c : Int) (h1 : ltB a b = true) (h2 : ltB b c = true) : ltB a c = true := by
  unfold ltB at *
  simp at *
  omega
theorem place_kids {n : Nd} (h : placeB n = true) : (∀ x ∈ n.kids, kidB n.id n.par x = true) ∧ n.kids.Pairwise (· < ·) ∧ -1 ≤ n.par := by
  unfold placeB at h
  simp only [Bool.and_eq_true] at h
  obtain ⟨h1, h2⟩ := (chk_iff (r := ltB) ltB_trans).1 h.2
  exact ⟨h1, h2.imp (fun {a b} h => of_decide_eq_true h), (of_decide_eq_true h.1.1.1.2).1⟩
theorem nbrs_nodup {n : Nd} (h : placeB n = true) : (nbrs n).Nodup := by
  obtain ⟨h1, h2, _⟩ := place_kids h
  have h3 : n.kids.Nodup := h2.imp (fun {a b} h => by omega)
  unfold nbrs
  split
  · simpa using h3
  · rw [List.nodup_append]
    refine ⟨h3, by simp, ?_⟩
    intro a ha b hb
    have hb' : b = n.par := by simpa using hb
    have := h1 a ha
    unfold kidB at this
    simp only [Bool.and_eq_true, decide_eq_true_eq] at this
    rw [hb']
    exact this.2
theorem near_iff {n : Nd} (h : placeB n = true) (x : Int) : nearB n x = true ↔ x ∈ nbrs n := by
  obtain ⟨h1, _, h3⟩ := place_kids h
  unfold nearB nbrs
  rw [Bool.or_eq_true, has_iff, List.mem_append]
  constructor
  · rintro (h | h)
    · simp only [Bool.and_eq_true, decide_eq_true_eq] at h
      right
      rw [if_neg (by omega)]
      simp [h.2]
    · exact .inl h
  · rintro (h | h)
    · exact .inr h
    · left
      split at h
      · simp at h
      · have : x = n.par := by simpa using h
        simp only [Bool.and_eq_true, decide_eq_true_eq]
        omega
theorem nbrs_length {n : Nd} (h : placeB n = true) : ((nbrs n).length : Int) = n.kids.length + (if 0 ≤ n.par then 1 else 0) := by
  obtain ⟨_, _, h3⟩ := place_kids h
  unfold nbrs
  by_cases hp : n.par = -1
  · rw [if_pos hp, if_neg (by omega)]; simp
  · rw [if_neg hp, if_pos (by omega)]; simp
theorem told_eq {n : Nd} (hp : placeB n = true) : toldB n = (decide (n.seen.map (·.f) = srt (nbrs n)) && n.seen.all snB) := by
  have hnd := nbrs_nodup hp
  have hsr := srt_asc hnd
  unfold toldB
  rw [chk_and, ← nbrs_length hp, ← Bool.and_assoc]
  congr 1
  rw [Bool.eq_iff_iff, Bool.and_eq_true, decide_eq_true_iff, decide_eq_true_iff, chk_iff (fun a b c h1 h2 => ltB_trans a.f b.f c.f h1 h2)]
  constructor
  · rintro ⟨h1, h2, h3⟩
    refine asc_eq _ _ ?_ hsr ?_ ?_
    · rw [List.pairwise_map]
      exact h3.imp (fun {a b} h => of_decide_eq_true h)
    · intro x hx
      obtain ⟨s, hs, rfl⟩ := List.mem_map.1 hx
      rw [srt_mem]
      exact (near_iff hp _).1 (h2 s hs)
    · rw [srt_length, List.length_map]
      omega
  · intro h
    refine ⟨?_, ?_, ?_⟩
    · have := congrArg List.length h
      rw [srt_length, List.length_map] at this
      omega
    · intro s hs
      rw [near_iff hp, ← srt_mem, ← h]
      exact List.mem_map.2 ⟨s, hs, rfl⟩
    · rw [← h, List.pairwise_map] at hsr
      exact hsr.imp (fun {a b} h => decide_eq_true h)
end Mth
end Go.Proofs.YtdlhlfndobbocaaGreat
