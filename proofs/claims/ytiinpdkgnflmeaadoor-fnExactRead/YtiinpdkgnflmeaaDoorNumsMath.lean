/-
  Plain facts, without the program: what is put is read back, and what is read was put so.
-/
import Derived.Test.YtiinpdkgnflmeaaDoorGetMath
namespace Go.Proofs.YtiinpdkgnflmeaaDoor.Mth

theorem getF_was_put (f : Nat) : ∀ (l pre : List UInt8) (n j m c : Nat), pre.length = j → j + f = 5 → (∀ x ∈ pre, 128 ≤ x.toNat) → n = val pre → getF f l n (128 ^ j) j = some (m, c) → put m = pre ++ l.take (c - j) := by
  induction f with
  | zero => intro l pre n j m c _ _ _ _ h; simp [getF] at h
  | succ f ih =>
    intro l pre n j m c hl hj hp hn h
    cases l with
    | nil => simp [getF] at h
    | cons b r =>
      by_cases hb : 128 ≤ b.toNat
      · rw [getF_more _ _ _ _ _ _ hb] at h
        have hc := (getF_bound f _ _ _ _ _ _ h).2.1
        have := ih r (pre ++ [b]) (n + b.toNat % 128 * 128 ^ j) (j + 1) m c (by simp; omega) (by omega) (by
          intro x hx
          rcases List.mem_append.1 hx with hx | hx
          · exact hp x hx
          · simp at hx; subst hx; exact hb) (by rw [val_snoc, hl, hn]) (by rw [Nat.pow_succ]; exact h)
        rw [this]
        obtain ⟨d, hd⟩ : ∃ d, c - j = d + 1 := ⟨c - j - 1, by omega⟩
        have hd2 : c - (j + 1) = d := by omega
        rw [hd, hd2]; simp
      · by_cases hx : 4000000000 < n + b.toNat * 128 ^ j ∨ (b.toNat = 0 ∧ 0 < j)
        · rw [getF_bad _ _ _ _ _ _ hb hx] at h; cases h
        · rw [getF_hit _ _ _ _ _ _ hb hx] at h
          simp only [Option.some.injEq, Prod.mk.injEq] at h
          obtain ⟨h1, h2⟩ := h
          have e : m = val (pre ++ [b]) := by rw [val_snoc, hl, ← hn, Nat.mod_eq_of_lt (by omega)]; exact h1.symm
          have e2 : c - j = 1 := by omega
          rw [e, e2]
          have := putF_val pre b (by omega) 5 (by omega) hp (by
            by_cases hz : b.toNat = 0
            · right
              have : j = 0 := by omega
              exact List.length_eq_zero_iff.1 (by omega)
            · exact .inl hz)
          unfold put; rw [this]; simp
theorem get_was_put (l : List UInt8) (i m c : Nat) (h : get l i = some (m, c)) : put m = (l.drop i).take c := by
  have := getF_was_put 5 (l.drop i) [] 0 0 m c rfl rfl (by simp) rfl (by rw [Nat.pow_zero]; exact h)
  simpa using this
theorem getF_put (g : Nat) : ∀ (v f n u j : Nat) (y : List UInt8), v < 128 ^ (g + 1) → v < 128 ^ f → 0 < f → (v ≠ 0 ∨ j = 0) → n + v * u ≤ 4000000000 → getF f (putF g v ++ y) n u j = some (n + v * u, j + (putF g v).length) := by
  induction g with
  | zero =>
    intro v f n u j y hv _ hf hz hb
    obtain ⟨f', rfl⟩ : ∃ f', f = f' + 1 := ⟨f - 1, by omega⟩
    have hv' : v ≤ 127 := by simp at hv; omega
    have e : (UInt8.ofNat v).toNat = v := toNat_byte _ (by omega)
    rw [putF_small _ _ hv', List.singleton_append, getF_hit _ _ _ _ _ _ (by rw [e]; omega) (by rw [e]; omega), e]
    simp
  | succ g ih =>
    intro v f n u j y hv hvf hf hz hb
    obtain ⟨f', rfl⟩ : ∃ f', f = f' + 1 := ⟨f - 1, by omega⟩
    by_cases hs : v ≤ 127
    · have e : (UInt8.ofNat v).toNat = v := toNat_byte _ (by omega)
      rw [putF_small _ _ hs, List.singleton_append, getF_hit _ _ _ _ _ _ (by rw [e]; omega) (by rw [e]; omega), e]
      simp
    · have e : (UInt8.ofNat (128 + v % 128)).toNat = 128 + v % 128 := toNat_byte _ (by omega)
      have hm : (128 + v % 128) % 128 = v % 128 := by omega
      have hmul : v % 128 * u + v / 128 * (u * 128) = v * u := by
        have h1 : v = 128 * (v / 128) + v % 128 := by omega
        conv => rhs; rw [h1]
        rw [Nat.add_mul, Nat.mul_comm u 128, ← Nat.mul_assoc, Nat.mul_comm (v / 128) 128]; omega
      have hf' : 0 < f' := by
        rcases Nat.eq_zero_or_pos f' with h | h
        · subst h; simp at hvf; omega
        · exact h
      rw [putF_great _ _ hs, List.cons_append, getF_more _ _ _ _ _ _ (by rw [e]; omega), e, hm]
      rw [ih (v / 128) f' (n + v % 128 * u) (u * 128) (j + 1) y (by rw [Nat.div_lt_iff_lt_mul (by omega)]; rw [Nat.pow_succ] at hv; exact hv) (by rw [Nat.div_lt_iff_lt_mul (by omega)]; rw [Nat.pow_succ] at hvf; exact hvf) hf' (.inl (by omega)) (by omega)]
      simp only [List.length_cons, Option.some.injEq, Prod.mk.injEq]
      omega
theorem get_put (x : UInt8) (y : List UInt8) (n : Nat) (h : n ≤ 4000000000) : get (x :: (put n ++ y)) 1 = some (n, (put n).length) := by
  have := getF_put 5 n 5 0 1 0 y (by omega) (by omega) (by omega) (.inr rfl) (by omega)
  simpa [get, put] using this
end Go.Proofs.YtiinpdkgnflmeaaDoor.Mth
