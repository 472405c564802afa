/-
  Plain facts, without the program: decimal texts: what digits are worth, and which texts are put for a number.
-/
import Derived.Lib.ItoaNum
import Derived.Lib.ItoaLen
import Derived.Test.YtccpcmhideijpaaDoorNumMath
namespace Go.Proofs.YtccpcmhideijpaaDoor.Mth
open Go.Lib (decDigits itoa)

/-- By the last element. -/
theorem snoc_ind {p : List UInt8 → Prop} (h0 : p []) (h1 : ∀ r c, p r → p (r ++ [c])) (l : List UInt8) : p l := by
  have h : ∀ (n : Nat) (l : List UInt8), l.length = n → p l := by
    intro n
    induction n with
    | zero => intro l hl; rw [List.length_eq_zero_iff.1 hl]; exact h0
    | succ n ih =>
      intro l hl
      rcases List.eq_nil_or_concat l with rfl | ⟨r, c, rfl⟩
      · exact h0
      · rw [List.concat_eq_append] at hl ⊢
        exact h1 r c (ih r (by simpa using hl))
  exact h l.length l rfl

def isDig (c : UInt8) : Prop := 48 ≤ c.toNat ∧ c.toNat ≤ 57
/-- What digits are worth. -/
def val10 (l : List UInt8) : Nat := l.foldl (fun n c => n * 10 + (c.toNat - 48)) 0
theorem val10_snoc (l : List UInt8) (c : UInt8) : val10 (l ++ [c]) = val10 l * 10 + (c.toNat - 48) := by simp [val10]
/-- The texts that are read: digits, at least one and at most nine, with no nought ahead. -/
def decOk (l : List UInt8) : Prop := l ≠ [] ∧ (∀ c ∈ l, isDig c) ∧ (l.headD 0 ≠ 48 ∨ l.length = 1) ∧ l.length ≤ 9
theorem val10_lt (l : List UInt8) : (∀ c ∈ l, isDig c) → val10 l < 10 ^ l.length := by
  induction l using snoc_ind with
  | h0 => simp [val10]
  | h1 r c ih0 =>
    intro h
    have ih := ih0 (fun x hx => h x (by simp [hx]))
    have hc := h c (by simp)
    unfold isDig at hc
    rw [val10_snoc, List.length_append, List.length_singleton, Nat.pow_succ]
    omega
theorem digits_small (v : Nat) (h : v < 10) : decDigits v = [UInt8.ofNat (48 + v)] := by rw [decDigits, dif_pos h]
theorem digits_big (v : Nat) (h : ¬ v < 10) : decDigits v = decDigits (v / 10) ++ [UInt8.ofNat (48 + v % 10)] := by rw [decDigits, dif_neg h]
theorem headD_append (r : List UInt8) (c : UInt8) (h : r ≠ []) : (r ++ [c]).headD 0 = r.headD 0 := by
  cases r with
  | nil => exact absurd rfl h
  | cons x t => rfl
theorem val10_pos (l : List UInt8) : l ≠ [] → (∀ c ∈ l, isDig c) → l.headD 0 ≠ 48 → 10 ^ (l.length - 1) ≤ val10 l := by
  induction l using snoc_ind with
  | h0 => intro hne; exact absurd rfl hne
  | h1 r c ih0 =>
    intro _ h h0
    have hc := h c (by simp)
    unfold isDig at hc
    rw [val10_snoc, List.length_append, List.length_singleton]
    by_cases hr : r = []
    · subst hr
      have : c.toNat ≠ 48 := fun e => h0 (by show c = 48; exact UInt8.toNat_inj.1 e)
      simp [val10]; omega
    · have ih := ih0 hr (fun x hx => h x (by simp [hx])) (by rw [← headD_append r c hr]; exact h0)
      have hl : 0 < r.length := List.length_pos_iff.2 hr
      obtain ⟨m, hm⟩ : ∃ m, r.length = m + 1 := ⟨r.length - 1, by omega⟩
      rw [hm] at ih ⊢
      simp only [Nat.add_sub_cancel] at ih ⊢
      rw [Nat.pow_succ]; omega
/-- A text of digits with no nought ahead is put for what it is worth. -/
theorem digits_val (l : List UInt8) : l ≠ [] → (∀ c ∈ l, isDig c) → (l.headD 0 ≠ 48 ∨ l.length = 1) → decDigits (val10 l) = l := by
  induction l using snoc_ind with
  | h0 => intro hne; exact absurd rfl hne
  | h1 r c ih0 =>
    intro _ h h0
    have hc := h c (by simp)
    unfold isDig at hc
    have e0 : UInt8.ofNat (48 + (c.toNat - 48)) = c := by
      have : 48 + (c.toNat - 48) = c.toNat := by omega
      rw [this]; simp
    rw [val10_snoc]
    by_cases hr : r = []
    · subst hr
      have : val10 [] = 0 := rfl
      rw [this, Nat.zero_mul, Nat.zero_add, digits_small _ (by omega), e0]; rfl
    · have hl : 0 < r.length := List.length_pos_iff.2 hr
      have h1 : r.headD 0 ≠ 48 := by
        rcases h0 with h0 | h0
        · rw [headD_append r c hr] at h0; exact h0
        · rw [List.length_append, List.length_singleton] at h0; omega
      have hd : ∀ x ∈ r, isDig x := fun x hx => h x (by simp [hx])
      have hp := val10_pos r hr hd h1
      have hp' : 1 ≤ val10 r := Nat.le_trans (Nat.one_le_pow _ _ (by omega)) hp
      rw [digits_big _ (by omega)]
      have e1 : (val10 r * 10 + (c.toNat - 48)) / 10 = val10 r := by omega
      have e2 : (val10 r * 10 + (c.toNat - 48)) % 10 = c.toNat - 48 := by omega
      rw [e1, e2, e0, ih0 hr hd (.inl h1)]
theorem digits_head (v : Nat) : 0 < v → (decDigits v).headD 0 ≠ 48 ∧ decDigits v ≠ [] := by
  induction v using Nat.strongRecOn with
  | ind v ih =>
  intro h
  by_cases hs : v < 10
  · rw [digits_small v hs]
    refine ⟨?_, by simp⟩
    show UInt8.ofNat (48 + v) ≠ 48
    intro e
    have := congrArg UInt8.toNat e
    rw [toNat_byte _ (by omega)] at this
    simp at this; omega
  · obtain ⟨h1, h2⟩ := ih (v / 10) (by omega) (by omega)
    rw [digits_big v hs]
    refine ⟨?_, by simp⟩
    rw [headD_append _ _ h2]; exact h1
theorem digits_nought (l : List UInt8) (h0 : l.headD 0 = 48) (h1 : l.length ≠ 1) : ∀ v, decDigits v ≠ l := by
  intro v e
  rcases Nat.eq_zero_or_pos v with rfl | hv
  · rw [digits_small 0 (by omega)] at e
    exact h1 (by rw [← e]; rfl)
  · exact (digits_head v hv).1 (by rw [e]; exact h0)
/-- The same, to be reckoned. -/
def decOkB (l : List UInt8) : Bool := !l.isEmpty && l.all (fun c => decide (48 ≤ c.toNat ∧ c.toNat ≤ 57)) && (l.headD 0 != 48 || l.length == 1) && decide (l.length ≤ 9)
theorem decOkB_iff (l : List UInt8) : decOkB l = true ↔ decOk l := by
  unfold decOkB decOk isDig
  simp [and_assoc]
end Go.Proofs.YtccpcmhideijpaaDoor.Mth
