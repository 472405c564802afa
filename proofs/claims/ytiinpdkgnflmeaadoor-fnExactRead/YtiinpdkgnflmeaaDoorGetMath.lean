/-
  Plain facts, without the program: a number read back from its bytes; it is read just where the bytes are those that are put for it.
-/
import Derived.Test.YtiinpdkgnflmeaaDoorNumMath
namespace Go.Proofs.YtiinpdkgnflmeaaDoor.Mth

/-- A number read from bytes, by fuel: what was read so far, the next byte's unit, how many bytes were read. -/
def getF : Nat → List UInt8 → Nat → Nat → Nat → Option (Nat × Nat)
  | 0, _, _, _, _ => none
  | _ + 1, [], _, _, _ => none
  | f + 1, b :: r, n, u, j => if 128 ≤ b.toNat then getF f r (n + b.toNat % 128 * u) (u * 128) (j + 1) else if 4000000000 < n + b.toNat * u ∨ (b.toNat = 0 ∧ 0 < j) then none else some (n + b.toNat * u, j + 1)
/-- The number at a place, and how many bytes it takes. -/
def get (l : List UInt8) (i : Nat) : Option (Nat × Nat) := getF 5 (l.drop i) 0 1 0

theorem getF_more (f n u j : Nat) (b : UInt8) (r : List UInt8) (h : 128 ≤ b.toNat) : getF (f + 1) (b :: r) n u j = getF f r (n + b.toNat % 128 * u) (u * 128) (j + 1) := by simp [getF, h]
theorem getF_hit (f n u j : Nat) (b : UInt8) (r : List UInt8) (h : ¬ 128 ≤ b.toNat) (h2 : ¬ (4000000000 < n + b.toNat * u ∨ (b.toNat = 0 ∧ 0 < j))) : getF (f + 1) (b :: r) n u j = some (n + b.toNat * u, j + 1) := by simp [getF, h, h2]
theorem getF_bad (f n u j : Nat) (b : UInt8) (r : List UInt8) (h : ¬ 128 ≤ b.toNat) (h2 : 4000000000 < n + b.toNat * u ∨ (b.toNat = 0 ∧ 0 < j)) : getF (f + 1) (b :: r) n u j = none := by simp [getF, h, h2]
theorem getF_nil (f n u j : Nat) : getF f [] n u j = none := by cases f <;> rfl
theorem drop_cons (s : ByteArray) (k : Nat) (h : k < s.size) : s.data.toList.drop k = s[k] :: s.data.toList.drop (k + 1) := by
  rw [List.drop_eq_getElem_cons (by simpa using h)]; rfl
theorem drop_none (s : ByteArray) (k : Nat) (h : ¬ k < s.size) : s.data.toList.drop k = [] := by
  apply List.drop_eq_nil_of_le
  simp only [Array.length_toList]
  show s.size ≤ k
  omega

/-- The loop's rounds, one by one. -/
theorem get_more (s : ByteArray) (k j m v : Nat) (G : Option (Nat × Nat)) (hlt : k < s.size) (hj : j < 5) (hb : 128 ≤ s[k].toNat) (h : getF (5 - j) (s.data.toList.drop k) m v j = G) :
    getF (5 - (j + 1)) (s.data.toList.drop (k + 1)) (m + s[k].toNat % 128 * v) (v * 128) (j + 1) = G := by
  obtain ⟨f, hf⟩ : ∃ f, 5 - j = f + 1 := ⟨5 - j - 1, by omega⟩
  rw [hf, drop_cons s k hlt, getF_more _ _ _ _ _ _ hb] at h
  rw [← h]; congr 1; omega
theorem get_hit (s : ByteArray) (k j m v : Nat) (G : Option (Nat × Nat)) (hlt : k < s.size) (hj : j < 5) (hb : ¬ 128 ≤ s[k].toNat) (h2 : m + s[k].toNat * v ≤ 4000000000) (h3 : s[k].toNat ≠ 0 ∨ j = 0) (h : getF (5 - j) (s.data.toList.drop k) m v j = G) :
    G = some (m + s[k].toNat * v, j + 1) := by
  obtain ⟨f, hf⟩ : ∃ f, 5 - j = f + 1 := ⟨5 - j - 1, by omega⟩
  rw [hf, drop_cons s k hlt, getF_hit _ _ _ _ _ _ hb (by omega)] at h
  exact h.symm
theorem get_bad (s : ByteArray) (k j m v : Nat) (G : Option (Nat × Nat)) (hlt : k < s.size) (hj : j < 5) (hb : ¬ 128 ≤ s[k].toNat) (h2 : 4000000000 < m + s[k].toNat * v ∨ (s[k].toNat = 0 ∧ 0 < j)) (h : getF (5 - j) (s.data.toList.drop k) m v j = G) :
    G = none := by
  obtain ⟨f, hf⟩ : ∃ f, 5 - j = f + 1 := ⟨5 - j - 1, by omega⟩
  rw [hf, drop_cons s k hlt, getF_bad _ _ _ _ _ _ hb h2] at h
  exact h.symm
theorem get_end (s : ByteArray) (k j m v : Nat) (G : Option (Nat × Nat)) (hlt : ¬ k < s.size) (h : getF (5 - j) (s.data.toList.drop k) m v j = G) : G = none := by
  rw [drop_none s k hlt, getF_nil] at h; exact h.symm
theorem get_full (l : List UInt8) (m v : Nat) (G : Option (Nat × Nat)) (h : getF (5 - 5) l m v 5 = G) : G = none := by
  simp [getF] at h; exact h.symm

/-- How many bytes were read, and what they are worth. -/
theorem getF_bound (f : Nat) : ∀ (l : List UInt8) (n u j m c : Nat), getF f l n u j = some (m, c) → m ≤ 4000000000 ∧ j < c ∧ c ≤ j + f ∧ c - j ≤ l.length := by
  induction f with
  | zero => intro l n u j m c h; simp [getF] at h
  | succ f ih =>
    intro l n u j m c h
    cases l with
    | nil => simp [getF] at h
    | cons b r =>
      by_cases hb : 128 ≤ b.toNat
      · rw [getF_more _ _ _ _ _ _ hb] at h
        have := ih _ _ _ _ _ _ h
        simp; omega
      · by_cases hx : 4000000000 < n + b.toNat * u ∨ (b.toNat = 0 ∧ 0 < j)
        · rw [getF_bad _ _ _ _ _ _ hb hx] at h; cases h
        · rw [getF_hit _ _ _ _ _ _ hb hx] at h
          simp at h; simp; omega
theorem get_bound (l : List UInt8) (i m c : Nat) (h : get l i = some (m, c)) : m ≤ 4000000000 ∧ 0 < c ∧ c ≤ 5 ∧ i + c ≤ l.length := by
  have := getF_bound 5 _ _ _ _ _ _ h
  simp at this; omega

/-- What bytes are worth, least first. -/
def val : List UInt8 → Nat
  | [] => 0
  | b :: r => b.toNat % 128 + 128 * val r
theorem val_snoc (l : List UInt8) (b : UInt8) : val (l ++ [b]) = val l + b.toNat % 128 * 128 ^ l.length := by
  induction l with
  | nil => simp [val]
  | cons c r ih => simp only [List.cons_append, val, ih, List.length_cons, Nat.pow_succ]; rw [Nat.mul_add, Nat.add_assoc]; congr 2; rw [Nat.mul_comm (128 ^ r.length) 128, Nat.mul_left_comm]
theorem val_lt (l : List UInt8) : val l < 128 ^ l.length := by
  induction l with
  | nil => simp [val]
  | cons c r ih => simp only [val, List.length_cons, Nat.pow_succ]; have := Nat.mod_lt c.toNat (show 0 < 128 by omega); omega
theorem ofNat_toNat (b : UInt8) : UInt8.ofNat b.toNat = b := by simp
/-- Bytes that are right are put just so. -/
theorem putF_val (cs : List UInt8) (b : UInt8) (hb : b.toNat < 128) : ∀ (f : Nat), cs.length ≤ f → (∀ c ∈ cs, 128 ≤ c.toNat) → (b.toNat ≠ 0 ∨ cs = []) → putF f (val (cs ++ [b])) = cs ++ [b] := by
  induction cs with
  | nil =>
    intro f _ _ _
    have e : val ([] ++ [b]) = b.toNat := by simp [val]; omega
    rw [e, putF_small _ _ (by omega), ofNat_toNat]; rfl
  | cons c r ih =>
    intro f hf hc h0
    have h0' : b.toNat ≠ 0 := by simpa using h0
    cases f with
    | zero => simp at hf
    | succ f =>
      have hcc : 128 ≤ c.toNat := hc c (by simp)
      have hc2 := c.toNat_lt
      have hpos : 0 < val (r ++ [b]) := by
        rw [val_snoc]
        have : 0 < 128 ^ r.length := Nat.pow_pos (by omega)
        have h1 : b.toNat % 128 = b.toNat := Nat.mod_eq_of_lt hb
        rw [h1]
        have := Nat.mul_pos (Nat.pos_of_ne_zero h0') this
        omega
      have e : val ((c :: r) ++ [b]) = c.toNat % 128 + 128 * val (r ++ [b]) := rfl
      rw [e, putF_great _ _ (by omega)]
      have e1 : (c.toNat % 128 + 128 * val (r ++ [b])) % 128 = c.toNat % 128 := by omega
      have e2 : (c.toNat % 128 + 128 * val (r ++ [b])) / 128 = val (r ++ [b]) := by omega
      rw [e1, e2, ih f (by simpa using hf) (fun x hx => hc x (by simp [hx])) (.inl h0')]
      have e3 : 128 + c.toNat % 128 = c.toNat := by omega
      rw [e3, ofNat_toNat]; rfl
/-- The last byte that is put is not nought, but for the number nought. -/
theorem putF_last (f : Nat) : ∀ (n : Nat), n < 128 ^ (f + 1) → 0 < n → ∃ pre b, putF f n = pre ++ [b] ∧ b.toNat ≠ 0 := by
  induction f with
  | zero => intro n h1 h2; refine ⟨[], UInt8.ofNat n, rfl, ?_⟩; rw [toNat_byte _ (by simp at h1; omega)]; omega
  | succ f ih =>
    intro n h1 h2
    by_cases h : n ≤ 127
    · rw [putF_small _ _ h]; refine ⟨[], UInt8.ofNat n, rfl, ?_⟩; rw [toNat_byte _ (by omega)]; omega
    · obtain ⟨pre, b, e, hb⟩ := ih (n / 128) (by rw [Nat.div_lt_iff_lt_mul (by omega)]; rw [Nat.pow_succ] at h1; exact h1) (by omega)
      rw [putF_great _ _ h, e]
      exact ⟨_ :: pre, b, rfl, hb⟩
theorem putF_nought (cs : List UInt8) (b : UInt8) (h0 : b.toNat = 0) (hne : cs ≠ []) (f : Nat) (hf : cs.length ≤ f) : putF f (val (cs ++ [b])) ≠ cs ++ [b] := by
  intro e
  have hv : val (cs ++ [b]) < 128 ^ (f + 1) := by
    have h1 := val_lt (cs ++ [b])
    have h2 : 128 ^ (cs ++ [b]).length ≤ 128 ^ (f + 1) := Nat.pow_le_pow_right (by omega) (by simpa using hf)
    omega
  rcases Nat.eq_zero_or_pos (val (cs ++ [b])) with hz | hp
  · rw [hz, putF_small _ _ (by omega)] at e
    have := congrArg List.length e
    simp at this
    exact hne this
  · obtain ⟨pre, b', e', hb'⟩ := putF_last f _ hv hp
    rw [e] at e'
    have := List.append_inj_right' e' rfl
    simp at this
    subst this
    exact hb' h0
end Go.Proofs.YtiinpdkgnflmeaaDoor.Mth
