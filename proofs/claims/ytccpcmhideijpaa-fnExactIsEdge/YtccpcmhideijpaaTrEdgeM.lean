/-
  Whether a node is an edge, in plain terms.
-/
import Derived.Test.YtccpcmhideijpaaTrKids
namespace Go.Proofs.Ytccpcmhideijpaa
namespace Mth
theorem upN_desc {l : List Int} (h : TreeP l) : ∀ n, n < l.length → (upN l n).Pairwise (fun x y => y < x) := by
  intro n
  induction n using Nat.strongRecOn with
  | _ n ih =>
    intro hn
    by_cases h0 : n = 0
    · subst h0; rw [upN_zero]; exact List.Pairwise.nil
    · obtain ⟨h1, h2⟩ := h.up n hn (by omega)
      rw [upN_pos h n hn (by omega)]
      exact List.Pairwise.cons (fun x hx => upN_lt h _ (by omega) x hx) (ih _ (by omega) (by omega))
/-- The first one that is no more than n tells whether n is among them. -/
theorem up_stop {l : List Int} (h : TreeP l) (m n : Nat) (hm : m < l.length) (pre : List Nat) (x : Nat) (hp : pre ++ [x] <+: upN l m) (hgt : ∀ y ∈ pre, n < y) (hle : x ≤ n) : decide (n ∈ upN l m) = decide (x = n) := by
  obtain ⟨r, hr⟩ := hp
  have hd := upN_desc h m hm
  rw [← hr] at hd ⊢
  have hd2 := List.pairwise_append.1 hd
  by_cases hx : x = n
  · subst hx
    rw [decide_eq_true rfl, decide_eq_true]
    simp
  · rw [decide_eq_false hx, decide_eq_false]
    intro hin
    rcases List.mem_append.1 hin with hin | hin
    · rcases List.mem_append.1 hin with hin | hin
      · have := hgt n hin; omega
      · simp at hin; omega
    · have := hd2.2.2 x (by simp) n hin
      omega
theorem edge_of {l : List Int} (h : TreeP l) (n : Nat) : (kidsN l n).isEmpty = true ↔ ∀ j, n < j → j < l.length → n ∉ upN l j := by
  constructor
  · intro he j
    have hno : ∀ i, (hi : i < l.length) → l[i] ≠ (n : Int) := fun i hi e => by
      have : (i : Int) ∈ kidsN l n := (kids_mem l n l.length i).2 ⟨i, hi, rfl, by rw [List.getElem?_eq_getElem hi, Option.getD_some, e]⟩
      rw [List.isEmpty_iff.1 he] at this
      cases this
    have hall : ∀ j, j < l.length → n ∉ upN l j := by
      intro j
      induction j using Nat.strongRecOn with
      | _ j ih =>
        intro hj hin
        by_cases h0 : j = 0
        · subst h0; rw [upN_zero] at hin; cases hin
        · obtain ⟨h1, h2⟩ := h.up j hj (by omega)
          rw [upN_pos h j hj (by omega), List.mem_cons] at hin
          rcases hin with e | hin
          · exact hno j hj (by omega)
          · exact ih _ (by omega) (by omega) hin
    intro _ hj
    exact hall j hj
  · intro hall
    rw [List.isEmpty_iff]
    apply List.eq_nil_iff_forall_not_mem.2
    intro x hx
    obtain ⟨i, hi, _, e⟩ := (kids_mem l n l.length x).1 hx
    rw [List.getElem?_eq_getElem hi, Option.getD_some] at e
    have h0 : 0 < i := by
      rcases Nat.eq_zero_or_pos i with h0 | h0
      · subst h0; rw [h.at_zero] at e; omega
      · exact h0
    obtain ⟨h1, h2⟩ := h.up i hi h0
    refine hall i (by omega) hi ?_
    rw [upN_pos h i hi h0, e]
    simp
/-- Whether a node is one without kids. -/
def edgeN (l : List Int) (n : Int) : Bool := (treeB l && decide (0 ≤ n) && decide (n < (l.length : Int))) && (kidsN l n).isEmpty
theorem edgeN_no (l : List Int) (n : Int) (h : (treeB l && decide (0 ≤ n) && decide (n < (l.length : Int))) = false) : edgeN l n = false := by
  unfold edgeN; rw [h]; rfl
theorem edgeN_yes (l : List Int) (n : Int) (h : (treeB l && decide (0 ≤ n) && decide (n < (l.length : Int))) = true) : edgeN l n = (kidsN l n).isEmpty := by
  unfold edgeN; rw [h]; rfl
end Mth
open Go.RowKit
open Mth

set_option maxRecDepth 100000 in
set_option maxHeartbeats 2000000 in
theorem specIsEdge (a : Option Addr) (cap : Nat) (l : List Int) (n : Int) (w : World) (hl : l.length ≤ 1048600) (ha : IntsAt w a l) :
    Calls Try.prog 21 #[trv a l cap, .int .i64 n] w fun e w' => e = .returned (.bool (edgeN l n)) ∧ Below w.heap.size w w' := by
  have hb1 : Below w.heap.size w (w.alloc (.cells #[.slice a l.length cap] 27)) := below_one' w _
  have HC := hide (specTreeOk a cap l _ hl (GR.At.below ha hb1))
  have HT0 := hide (heap_alloc_new w (.cells #[.slice a l.length cap] 27))
  have HK := hide (fun W (hb : Below w.heap.size w W) (h1 : treeB l = true) (h2 : 0 ≤ n) => specKidsOf a cap l n W hl (GR.At.below ha hb) h1 h2)
  have HB := hide hb1
  clear hb1 ha
  cases htb : treeB l
  · have HE := hide (edgeN_no l n (by rw [htb]; rfl))
    rw [htb] at HC
    go_enter Try.func21, Try.ntmps21
    go_wp2_with fail
    refine (unhide HC).mono ?_
    rintro e w1 ⟨rfl, hb2⟩
    have hB2 := hide ((unhide HB).trans (hb2.mono (unhide HB).size))
    obtain ⟨t1, _⟩ := one_at (tr_step (unhide HT0) hb2)
    clear hb2
    go_wp2_with fail
    go_ret
    exact ⟨ret_bool (unhide HE).symm, unhide hB2⟩
  by_cases hin : 0 ≤ n ∧ n < (l.length : Int)
  case neg =>
    have HE := hide (edgeN_no l n (by
      rw [htb, Bool.true_and]
      by_cases h0 : 0 ≤ n
      · rw [decide_eq_false (show ¬ n < (l.length : Int) by omega)]; simp
      · rw [decide_eq_false h0]; rfl))
    have hc := fun W => l01In_no n 0 ((l.length : Int) - 1) W (by omega)
    rw [htb] at HC
    go_enter Try.func21, Try.ntmps21
    go_wp2_with fail
    refine (unhide HC).mono ?_
    rintro e w1 ⟨rfl, hb2⟩
    have hB2 := hide ((unhide HB).trans (hb2.mono (unhide HB).size))
    obtain ⟨t1, _⟩ := one_at (tr_step (unhide HT0) hb2)
    clear hb2
    go_wp2_with (go_at_call 29; refine (hc _).mono ?_; rintro e w2 ⟨rfl, rfl⟩)
    go_ret
    exact ⟨ret_bool (unhide HE).symm, unhide hB2⟩
  have hc := fun W => l01In_yes n 0 ((l.length : Int) - 1) W (by omega) (by omega)
  have HE := hide (edgeN_yes l n (by rw [htb, decide_eq_true hin.1, decide_eq_true hin.2]; rfl))
  have HTB := hide htb
  have HLE := hide (kidsTo_len l n l.length)
  have hl30 := (TreeP.of htb).le
  rw [htb] at HC
  clear htb
  have h0n := hin.1
  go_enter Try.func21, Try.ntmps21
  go_wp2_with fail
  refine (unhide HC).mono ?_
  rintro e w1 ⟨rfl, hb2⟩
  have hB2 := hide ((unhide HB).trans (hb2.mono (unhide HB).size))
  obtain ⟨t1, _⟩ := one_at (tr_step (unhide HT0) hb2)
  clear hb2
  go_wp2_with (go_at_call 29; refine (hc _).mono ?_; rintro e w2 ⟨rfl, rfl⟩)
  refine (unhide HK _ (unhide hB2) (unhide HTB) h0n).mono ?_
  rintro e w2 ⟨v, rfl, hown, hb3⟩
  obtain ⟨av, cv, rfl, _⟩ := GR.own_at encNum_length hown
  have hB3 := hide ((unhide hB2).trans (hb3.mono (unhide hB2).size))
  clear hown hb3
  cases hk : (kidsN l n)
  · have hk0 : (kidsN l n).length = 0 := by rw [hk]; rfl
    have HF := hide (show edgeN l n = true by rw [unhide HE, hk]; rfl)
    clear hk
    go_wp2_with fail
    go_ret
    exact ⟨ret_bool (unhide HF).symm, unhide hB3⟩
  · rename_i kx kr
    have hk0 : (((kidsN l n).length : Int) == 0) = false := by rw [hk]; simp; omega
    have HF := hide (show edgeN l n = false by rw [unhide HE, hk]; rfl)
    clear hk
    go_wp2_with fail
    go_ret
    exact ⟨ret_bool (unhide HF).symm, unhide hB3⟩
end Go.Proofs.Ytccpcmhideijpaa
