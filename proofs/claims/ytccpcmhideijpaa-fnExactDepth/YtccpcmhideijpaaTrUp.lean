/-
  The nodes above a node, and a node's kids, in plain terms.
-/
import Derived.Test.YtccpcmhideijpaaTrMath
namespace Go.Proofs.Ytccpcmhideijpaa
namespace Mth

def aboves (l : List Int) : Nat → Nat → List Nat
  | 0, _ => []
  | f + 1, n => if 0 ≤ l[n]?.getD (-1) then (l[n]?.getD (-1)).toNat :: aboves l f (l[n]?.getD (-1)).toNat else []
/-- The nodes above n, the nearest first. -/
def upN (l : List Int) (n : Nat) : List Nat := aboves l n n
theorem aboves_more {l : List Int} (h : TreeP l) : ∀ (n f : Nat), n < l.length → n ≤ f → aboves l f n = upN l n := by
  intro n
  induction n using Nat.strongRecOn with
  | _ n ih =>
    intro f hn hf
    by_cases h0 : n = 0
    · subst h0
      cases f with
      | zero => rfl
      | succ f =>
        have e : l[0]?.getD (-1) = -1 := by rw [h.root]; rfl
        unfold upN
        simp only [aboves]
        rw [e, if_neg (by omega)]
    · have hp : 0 < n := by omega
      obtain ⟨h1, h2⟩ := h.up n hn hp
      have e : l[n]?.getD (-1) = l[n] := by rw [List.getElem?_eq_getElem hn]; rfl
      obtain ⟨f, rfl⟩ : ∃ g, f = g + 1 := ⟨f - 1, by omega⟩
      obtain ⟨m, hm⟩ : ∃ m, n = m + 1 := ⟨n - 1, by omega⟩
      unfold upN
      rw [show aboves l n n = aboves l (m + 1) n by rw [← hm]]
      simp only [aboves]
      rw [e, if_pos h1, if_pos h1]
      have hlt : l[n].toNat < n := by omega
      rw [ih _ hlt f (by omega) (by omega), ih _ hlt m (by omega) (by omega)]
theorem upN_zero (l : List Int) : upN l 0 = [] := rfl
theorem upN_pos {l : List Int} (h : TreeP l) (n : Nat) (hn : n < l.length) (hp : 0 < n) : upN l n = l[n].toNat :: upN l l[n].toNat := by
  obtain ⟨h1, h2⟩ := h.up n hn hp
  have e : l[n]?.getD (-1) = l[n] := by rw [List.getElem?_eq_getElem hn]; rfl
  obtain ⟨m, hm⟩ : ∃ m, n = m + 1 := ⟨n - 1, by omega⟩
  unfold upN
  rw [show aboves l n n = aboves l (m + 1) n by rw [← hm]]
  simp only [aboves]
  rw [e, if_pos h1, aboves_more h _ m (by omega) (by omega)]
  rfl
theorem TreeP.at_zero {l : List Int} (h : TreeP l) : l[0]'h.pos = -1 := by
  have := h.root
  rw [List.getElem?_eq_getElem h.pos] at this
  exact Option.some.inj this
theorem upN_len {l : List Int} (h : TreeP l) : ∀ n, n < l.length → (upN l n).length ≤ n := by
  intro n
  induction n using Nat.strongRecOn with
  | _ n ih =>
    intro hn
    by_cases h0 : n = 0
    · subst h0; simp [upN_zero]
    · obtain ⟨h1, h2⟩ := h.up n hn (by omega)
      rw [upN_pos h n hn (by omega), List.length_cons]
      have := ih l[n].toNat (by omega) (by omega)
      omega
theorem upN_lt {l : List Int} (h : TreeP l) : ∀ n, n < l.length → ∀ x ∈ upN l n, x < n := by
  intro n
  induction n using Nat.strongRecOn with
  | _ n ih =>
    intro hn x hx
    by_cases h0 : n = 0
    · subst h0; simp [upN_zero] at hx
    · obtain ⟨h1, h2⟩ := h.up n hn (by omega)
      rw [upN_pos h n hn (by omega), List.mem_cons] at hx
      rcases hx with rfl | hx
      · omega
      · have := ih l[n].toNat (by omega) (by omega) x hx
        omega
/-- How many nodes are above one. -/
def depthN (l : List Int) (n : Int) : Int := if (treeB l && decide (0 ≤ n) && decide (n < (l.length : Int))) = true then (upN l n.toNat).length else -1
theorem depthN_no (l : List Int) (n : Int) (h : treeB l = false ∨ n < 0 ∨ (l.length : Int) ≤ n) : depthN l n = -1 := by
  unfold depthN
  rw [if_neg]
  intro h'
  simp only [Bool.and_eq_true, decide_eq_true_eq] at h'
  rcases h with h | h | h
  · rw [h] at h'; exact absurd h'.1.1 (by simp)
  · omega
  · omega
theorem depthN_yes (l : List Int) (n : Nat) (h : treeB l = true) (hn : n < l.length) : depthN l n = (upN l n).length := by
  unfold depthN
  rw [if_pos (by rw [h, decide_eq_true (show (0 : Int) ≤ n by omega), decide_eq_true (show (n : Int) < l.length by omega)]; rfl)]
  simp
end Mth
end Go.Proofs.Ytccpcmhideijpaa
