/-
  In a stretch of time no more goes through than the bucket had and what came to it; and one that waits as long as it is told has enough.
-/
import Derived.Test.YthjpjamihlopeaaBkMath2
import Derived.Test.YthjpjamihlopeaaBkAllU
import Derived.Test.YthjpjamihlopeaaBkUntil
namespace Go.Proofs.Ythjpjamihlopeaa
namespace Mth

/-- What a filled bucket has comes of what it had and what came. -/
theorem fill_ineq {b : Bk} {n : Int} (h : b.Can n) : (b.fill n).H * b.P + (b.fill n).T ≤ b.H * b.P + b.T + b.R * (n - b.L) ∧ (b.fill n).S = b.S ∧ (b.fill n).R = b.R ∧ (b.fill n).P = b.P := by
  have h2 := parts_bound h
  have h3 := div_bound (b.parts n) b.P h2.1 h.1.2.2.2.2.1
  have hP : 1 ≤ b.P := h.1.2.2.2.2.1
  have e : b.parts n = b.R * (n - b.L) + b.T := rfl
  by_cases hc : b.S ≤ b.H + b.parts n / b.P
  · rw [fill_cap hc]
    refine ⟨?_, rfl, rfl, rfl⟩
    dsimp only
    have h4 : b.S * b.P ≤ (b.H + b.parts n / b.P) * b.P := Int.mul_le_mul_of_nonneg_right hc (by omega)
    rw [Int.add_mul] at h4
    omega
  · rw [fill_low hc]
    refine ⟨?_, rfl, rfl, rfl⟩
    dsimp only
    rw [Int.add_mul]
    omega
/-- A taken bucket is right, and has come no further than its fill. -/
theorem take_inv {b : Bk} (n m : Int) (h : b.Ok) : (b.take n m).1.Ok ∧ (b.take n m).1.S = b.S ∧ (b.take n m).1.R = b.R ∧ (b.take n m).1.P = b.P ∧ b.L ≤ (b.take n m).1.L ∧
    ((b.take n m).1.H + (if (b.take n m).2 then m else 0)) * b.P + (b.take n m).1.T ≤ b.H * b.P + b.T + b.R * ((b.take n m).1.L - b.L) := by
  unfold Bk.take
  by_cases hc : b.Can n ∧ Am m
  · rw [if_pos hc]
    obtain ⟨ho, hL⟩ := fill_ok hc.1
    obtain ⟨hi, hS, hR, hP⟩ := fill_ineq hc.1
    have hn := hc.1.2.1
    have hm := hc.2
    unfold Am at hm
    unfold Bk.taken
    by_cases hlt : (b.fill n).H < m
    · rw [if_pos hlt]
      refine ⟨ho, hS, hR, hP, by rw [hL]; exact hn, ?_⟩
      rw [hL]
      simpa using hi
    · rw [if_neg hlt]
      refine ⟨?_, hS, hR, hP, by dsimp only; rw [hL]; exact hn, ?_⟩
      · unfold Bk.Ok at ho ⊢
        dsimp only
        omega
      · dsimp only
        rw [hL, if_pos rfl]
        have e : (b.fill n).H - m + m = (b.fill n).H := by omega
        rw [e]
        exact hi
  · rw [if_neg hc]
    refine ⟨h, rfl, rfl, rfl, Int.le_refl _, ?_⟩
    simp
/-- How much went through at the first asks. -/
def sumK (l : List (Int × Int)) (oks : List Bool) : Nat → Int
  | 0 => 0
  | k + 1 => sumK l oks k + (if oks.getD k false then (l.getD k (0, 0)).2 else 0)
theorem takes_at (b : Bk) (l : List (Int × Int)) (k : Nat) (hk : k < l.length) : ∀ j, k < j → j ≤ l.length → (b.takes (l.take j)).2[k]? = some ((b.takes (l.take k)).1.take l[k].1 l[k].2).2 := by
  intro j
  induction j with
  | zero => intro h; omega
  | succ j ih =>
    intro h1 h2
    have hl := takes_length b l j (by omega)
    rw [takes_succ b l j (by omega)]
    dsimp only
    by_cases e : j = k
    · subst e
      rw [List.getElem?_append_right (by omega), hl]
      simp
    · rw [List.getElem?_append_left (by omega)]
      exact ih (by omega) (by omega)
theorem stretch (b : Bk) (l : List (Int × Int)) (h : b.Ok) : ∀ k, k ≤ l.length → (b.takes (l.take k)).1.Ok ∧ (b.takes (l.take k)).1.S = b.S ∧ (b.takes (l.take k)).1.R = b.R ∧ (b.takes (l.take k)).1.P = b.P ∧ b.L ≤ (b.takes (l.take k)).1.L ∧
    (sumK l (b.takes l).2 k + (b.takes (l.take k)).1.H) * b.P + (b.takes (l.take k)).1.T ≤ b.H * b.P + b.T + b.R * ((b.takes (l.take k)).1.L - b.L) := by
  intro k
  induction k with
  | zero => intro _; exact ⟨h, rfl, rfl, rfl, Int.le_refl _, by simp [sumK, Bk.takes]⟩
  | succ k ih =>
    intro hk
    obtain ⟨o, s, r, p, hL, hi⟩ := ih (by omega)
    have ht := takes_at b l k (by omega) l.length (by omega) (Nat.le_refl _)
    rw [List.take_length] at ht
    rw [takes_succ b l k (by omega)]
    dsimp only
    obtain ⟨o', s', r', p', hL', hi'⟩ := take_inv l[k].1 l[k].2 o
    refine ⟨o', s'.trans s, r'.trans r, p'.trans p, Int.le_trans hL hL', ?_⟩
    unfold sumK
    rw [List.getD_eq_getElem?_getD, ht, List.getD_eq_getElem?_getD, List.getElem?_eq_getElem (by omega)]
    dsimp only [Option.getD_some]
    rw [p, r] at hi'
    generalize (b.takes (l.take k)).1.take l[k].1 l[k].2 = q at *
    obtain ⟨q, ok⟩ := q
    dsimp only at *
    have e1 : b.R * (q.L - b.L) = b.R * (q.L - (b.takes (l.take k)).1.L) + b.R * ((b.takes (l.take k)).1.L - b.L) := by
      rw [← Int.mul_add]
      congr 1
      omega
    rw [e1]
    cases ok
    · simp only [Bool.false_eq_true, if_false, Int.add_zero] at hi' ⊢
      rw [Int.add_mul] at hi ⊢
      omega
    · simp only [if_true] at hi' ⊢
      rw [Int.add_mul] at hi hi'
      rw [Int.add_mul, Int.add_mul]
      omega

/-- One that waits as long as it is told has enough, and not ahead of it. -/
theorem wait_cases {d : Bk} {m : Int} (h : 0 ≤ d.wait m) : d.Ok ∧ 0 ≤ m ∧ m ≤ d.S ∧ ((m ≤ d.H ∧ d.wait m = 0) ∨ (d.H < m ∧ 0 < d.R ∧ d.wait m = d.ticks m)) := by
  unfold Bk.wait at h ⊢
  by_cases h1 : ¬ d.Ok ∨ m < 0 ∨ d.S < m
  · rw [if_pos h1] at h; omega
  · rw [if_neg h1] at h ⊢
    have ho : d.Ok := Decidable.not_not.1 (fun x => h1 (.inl x))
    have hm : ¬ m < 0 := fun x => h1 (.inr (.inl x))
    have hs : ¬ d.S < m := fun x => h1 (.inr (.inr x))
    refine ⟨ho, by omega, by omega, ?_⟩
    by_cases h2 : m ≤ d.H
    · rw [if_pos h2]; exact .inl ⟨h2, rfl⟩
    · rw [if_neg h2] at h ⊢
      by_cases h3 : d.R = 0
      · rw [if_pos h3] at h; omega
      · rw [if_neg h3]
        unfold Bk.Ok at ho
        exact .inr ⟨by omega, by omega, rfl⟩
theorem ticks_bound {d : Bk} {m : Int} (ho : d.Ok) (h1 : d.H < m) (h2 : m ≤ d.S) (h3 : 0 < d.R) : 1 ≤ d.ticks m ∧ (m - d.H) * d.P ≤ d.R * d.ticks m + d.T ∧ d.R * (d.ticks m - 1) + d.T < (m - d.H) * d.P ∧ d.ticks m ≤ 1000002000000000 := by
  have hn := need_bound ho h1 h2
  unfold Bk.Ok at ho
  unfold Bk.ticks
  generalize (m - d.H) * d.P = N at *
  have hb := div_bound (N - d.T + d.R - 1) d.R (by omega) (by omega)
  have hq := hb.2.2.2.2
  have hle := hb.2.1
  generalize (N - d.T + d.R - 1) / d.R = q at *
  generalize (N - d.T + d.R - 1) % d.R = r at *
  have e1 : q * d.R = d.R * q := Int.mul_comm _ _
  have e2 : d.R * (q - 1) = d.R * q - d.R := by rw [Int.mul_sub, Int.mul_one]
  have hq1 : 1 ≤ q := by
    rcases Int.lt_or_le q 1 with hlt | hge
    · have : q = 0 := by omega
      subst this
      simp at e1
      omega
    · exact hge
  refine ⟨hq1, by omega, by omega, by omega⟩
theorem wait_enough {d : Bk} {m : Int} (h : 0 ≤ d.wait m) (hL : d.L + d.wait m ≤ 1000000000) : (d.take (d.L + d.wait m) m).2 = true := by
  obtain ⟨ho, hm0, hmS, hc⟩ := wait_cases h
  have hcan : d.Can (d.L + d.wait m) := ⟨ho, by omega, hL⟩
  have hmax : d.S ≤ 1000000000 := ho.2.1
  have hH : m ≤ (d.fill (d.L + d.wait m)).H := by
    rcases hc with ⟨h1, _⟩ | ⟨h1, h2, h3⟩
    · exact Int.le_trans h1 (fill_more hcan)
    · have hb := ticks_bound ho h1 hmS h2
      by_cases hcap : d.S ≤ d.H + d.parts (d.L + d.wait m) / d.P
      · rw [fill_cap hcap]; exact hmS
      · rw [fill_low hcap]
        dsimp only
        have hp : (m - d.H) * d.P ≤ d.parts (d.L + d.wait m) := by
          unfold Bk.parts
          rw [h3, show d.L + d.ticks m - d.L = d.ticks m by omega]
          exact hb.2.1
        have hq : m - d.H ≤ d.parts (d.L + d.wait m) / d.P := (Int.le_ediv_iff_mul_le (by have := ho.2.2.2.2.1; omega)).2 hp
        omega
  unfold Bk.take
  rw [if_pos ⟨hcan, by unfold Am; omega⟩]
  unfold Bk.taken
  rw [if_neg (by omega)]
theorem wait_early {d : Bk} {m : Int} (h : 0 < d.wait m) (hL : d.L + d.wait m ≤ 1000000000) : (d.take (d.L + d.wait m - 1) m).2 = false := by
  obtain ⟨ho, hm0, hmS, hc⟩ := wait_cases (Int.le_of_lt h)
  have hcan : d.Can (d.L + d.wait m - 1) := ⟨ho, by omega, by omega⟩
  rcases hc with ⟨_, h2⟩ | ⟨h1, h2, h3⟩
  · omega
  · have hb := ticks_bound ho h1 hmS h2
    have hp : d.parts (d.L + d.wait m - 1) < (m - d.H) * d.P := by
      unfold Bk.parts
      rw [h3, show d.L + d.ticks m - 1 - d.L = d.ticks m - 1 by omega]
      exact hb.2.2.1
    have hq : d.parts (d.L + d.wait m - 1) / d.P < m - d.H := (Int.ediv_lt_iff_lt_mul (by have := ho.2.2.2.2.1; omega)).2 hp
    have hcap : ¬ d.S ≤ d.H + d.parts (d.L + d.wait m - 1) / d.P := by omega
    unfold Bk.take
    by_cases hA : Am m
    · rw [if_pos ⟨hcan, hA⟩, fill_low hcap]
      unfold Bk.taken
      rw [if_pos (by dsimp only; omega)]
    · rw [if_neg (fun x => hA x.2)]
end Mth
end Go.Proofs.Ythjpjamihlopeaa
