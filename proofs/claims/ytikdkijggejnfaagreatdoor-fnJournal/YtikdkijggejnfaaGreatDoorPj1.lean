/- Parts. -/
import Derived.Test.YtikdkijggejnfaaGreatDoorRows
import Derived.WalkKit
import Derived.WalkSpells
import Derived.ShutString
import Derived.Laws.IdiomStrings
import Derived.Laws.BytesString
namespace Go.Proofs.YtikdkijggejnfaaGreatDoor.Mth

/-- A number's bytes, by fuel. -/
def putF : Nat → Nat → List UInt8
  | 0, n => [UInt8.ofNat n]
  | f + 1, n => if n ≤ 127 then [UInt8.ofNat n] else UInt8.ofNat (128 + n % 128) :: putF f (n / 128)
/-- A number's bytes (up to 4000000000: five of them at the most). -/
def put (n : Nat) : List UInt8 := putF 5 n

theorem putF_small (f n : Nat) (h : n ≤ 127) : putF f n = [UInt8.ofNat n] := by
  cases f with
  | zero => rfl
  | succ f => simp [putF, h]
theorem putF_great (f n : Nat) (h : ¬ n ≤ 127) : putF (f + 1) n = UInt8.ofNat (128 + n % 128) :: putF f (n / 128) := by
  simp [putF, h]
theorem putF_length (f n : Nat) : (putF f n).length ≤ f + 1 := by
  induction f generalizing n with
  | zero => simp [putF]
  | succ f ih =>
    by_cases h : n ≤ 127
    · rw [putF_small _ _ h]; simp
    · rw [putF_great _ _ h]; have := ih (n / 128); simp; omega
theorem toNat_byte (n : Nat) (h : n < 256) : (UInt8.ofNat n).toNat = n := by
  simp [UInt8.toNat_ofNat']; omega

/-- One round of the loop that puts a number's bytes. -/
theorem put_round (n f cur : Nat) (pre : List UInt8) (hcur : cur < 128 ^ (f + 1)) (hbig : ¬ cur ≤ 127) (hpf : pre.length + f = 5) (h : pre ++ putF f cur = put n) :
    ∃ f', f = f' + 1 ∧ cur / 128 < 128 ^ (f' + 1) ∧ (pre ++ [UInt8.ofNat (128 + cur % 128)]).length + f' = 5 ∧ (pre ++ [UInt8.ofNat (128 + cur % 128)]) ++ putF f' (cur / 128) = put n := by
  cases f with
  | zero => simp at hcur; omega
  | succ f' =>
    refine ⟨f', rfl, ?_, by simp; omega, ?_⟩
    · rw [Nat.div_lt_iff_lt_mul (by omega)]; rw [Nat.pow_succ] at hcur; exact hcur
    · rw [putF_great _ _ hbig] at h
      rw [← h]; simp
theorem put_end (n f cur : Nat) (pre : List UInt8) (hs : cur ≤ 127) (h : pre ++ putF f cur = put n) : pre ++ [UInt8.ofNat cur] = put n := by
  rw [putF_small _ _ hs] at h; exact h
theorem put_length (n : Nat) : (put n).length ≤ 6 := putF_length 5 n
/-- One byte taken into the two sums. -/
def sumStep (p : Nat × Nat) (c : UInt8) : Nat × Nat := ((p.1 + c.toNat) % 65521, (p.2 + (p.1 + c.toNat) % 65521) % 65521)
def sums (l : List UInt8) : Nat × Nat := l.foldl sumStep (1, 0)
theorem sums_snoc (l : List UInt8) (c : UInt8) : sums (l ++ [c]) = sumStep (sums l) c := by simp [sums]
theorem sums_lt (l : List UInt8) : (sums l).1 < 65521 ∧ (sums l).2 < 65521 := by
  rcases List.eq_nil_or_concat l with rfl | ⟨r, c, rfl⟩
  · simp [sums]
  · rw [List.concat_eq_append, sums_snoc]
    exact ⟨Nat.mod_lt _ (by omega), Nat.mod_lt _ (by omega)⟩
theorem take_snoc (s : ByteArray) (k : Nat) (h : k < s.size) : s.data.toList.take (k + 1) = s.data.toList.take k ++ [s[k]] := by
  rw [List.take_succ_eq_append_getElem (by simpa using h)]; rfl
theorem take_all (s : ByteArray) (k : Nat) (h : ¬ k < s.size) : s.data.toList.take k = s.data.toList := by
  apply List.take_of_length_le
  simp only [Array.length_toList]
  show s.size ≤ k
  omega

/-- Is this byte a small letter or a digit? -/
def keyByte (c : UInt8) : Bool := decide (97 ≤ (c.toNat : Int) ∧ (c.toNat : Int) ≤ 122) || decide (48 ≤ (c.toNat : Int) ∧ (c.toNat : Int) ≤ 57)
theorem keyByte_yes (c : UInt8) (h : (97 ≤ (c.toNat : Int) ∧ (c.toNat : Int) ≤ 122) ∨ (48 ≤ (c.toNat : Int) ∧ (c.toNat : Int) ≤ 57)) : keyByte c = true := by
  unfold keyByte; simp; omega
theorem keyByte_no (c : UInt8) (h : (c.toNat : Int) < 48 ∨ (57 < (c.toNat : Int) ∧ (c.toNat : Int) < 97) ∨ 122 < (c.toNat : Int)) : keyByte c = false := by
  unfold keyByte; simp; omega
theorem byte_cases (c : UInt8) : ((97 ≤ (c.toNat : Int) ∧ (c.toNat : Int) ≤ 122) ∨ (48 ≤ (c.toNat : Int) ∧ (c.toNat : Int) ≤ 57)) ∨ ((c.toNat : Int) < 48 ∨ (57 < (c.toNat : Int) ∧ (c.toNat : Int) < 97) ∨ 122 < (c.toNat : Int)) := by omega
/-- Is this text a key? -/
def keyOk (l : List UInt8) : Bool := l.all keyByte && decide (1 ≤ l.length ∧ l.length ≤ 10)
theorem all_snoc (l : List UInt8) (c : UInt8) : (l ++ [c]).all keyByte = (l.all keyByte && keyByte c) := by simp
theorem keyOk_bad (l : List UInt8) (k : Nat) (h : (l.take k).all keyByte = false) : keyOk l = false := by
  have : l.all keyByte = false := by
    rw [List.all_eq_false] at h ⊢
    obtain ⟨x, hx, hp⟩ := h
    exact ⟨x, List.mem_of_mem_take hx, hp⟩
  simp [keyOk, this]
theorem keyOk_all (l : List UInt8) (h : l.all keyByte = true) : keyOk l = decide (1 ≤ l.length ∧ l.length ≤ 10) := by simp [keyOk, h]
theorem keyOk_len (l : List UInt8) (h : ¬ (1 ≤ l.length ∧ l.length ≤ 10)) : keyOk l = false := by simp [keyOk]; intro _; omega
end Go.Proofs.YtikdkijggejnfaaGreatDoor.Mth
namespace Go.Proofs.YtikdkijggejnfaaGreatDoor.Mth

/-- A number read from bytes, by fuel: what was read so far, the next byte's unit, how many bytes were read. -/
def getF : Nat → List UInt8 → Nat → Nat → Nat → Option (Nat × Nat)
  | 0, _, _, _, _ => none
  | _ + 1, [], _, _, _ => none
  | f + 1, b :: r, n, u, j => if 128 ≤ b.toNat then getF f r (n + b.toNat % 128 * u) (u * 128) (j + 1) else if 4000000000 < n + b.toNat * u ∨ (b.toNat = 0 ∧ 0 < j) then none else some (n + b.toNat * u, j + 1)
/-- The number at a place, and how many bytes it takes. -/
def get (l : List UInt8) (i : Nat) : Option (Nat × Nat) := getF 5 (l.drop i) 0 1 0

theorem getF_more (f n u j : Nat) (b : UInt8) (r : List UInt8) (h : 128 ≤ b.toNat) : getF (f + 1) (b :: r) n u j = getF f r (n + b.toNat % 128 * u) (u * 128) (j + 1) := by simp [getF, h]
theorem getF_hit (f n u j : Nat) (b : UInt8) (r : List UInt8) (h : ¬ 128 ≤ b.toNat) (h2 : ¬ (4000000000 < n + b.toNat * u ∨ (b.toNat = 0 ∧ 0 < j))) : getF (f + 1) (b :: r) n u j = some (n + b.toNat * u, j + 1) := by simp [getF, h, h2]
theorem getF_bad (f n u j : Nat) (b : UInt8) (r : List UInt8) (h : ¬ 128 ≤ b.toNat) (h2 : 4000000000 < n + b.toNat * u ∨ (b.toNat = 0 ∧ 0 < j)) : getF (f + 1) (b :: r) n u j = none := by simp [getF, h, h2]
theorem getF_nil (f n u j : Nat) : getF f [] n u j = none := by cases f <;> rfl
theorem drop_cons (s : ByteArray) (k : Nat) (h : k < s.size) : s.data.toList.drop k = s[k] :: s.data.toList.drop (k + 1) := by
  rw [List.drop_eq_getElem_cons (by simpa using h)]; rfl
theorem drop_none (s : ByteArray) (k : Nat) (h : ¬ k < s.size) : s.data.toList.drop k = [] := by
  apply List.drop_eq_nil_of_le
  simp only [Array.length_toList]
  show s.size ≤ k
  omega

/-- The loop's rounds, one by one. -/
theorem get_more (s : ByteArray) (k j m v : Nat) (G : Option (Nat × Nat)) (hlt : k < s.size) (hj : j < 5) (hb : 128 ≤ s[k].toNat) (h : getF (5 - j) (s.data.toList.drop k) m v j = G) :
    getF (5 - (j + 1)) (s.data.toList.drop (k + 1)) (m + s[k].toNat % 128 * v) (v * 128) (j + 1) = G := by
  obtain ⟨f, hf⟩ : ∃ f, 5 - j = f + 1 := ⟨5 - j - 1, by omega⟩
  rw [hf, drop_cons s k hlt, getF_more _ _ _ _ _ _ hb] at h
  rw [← h]; congr 1; omega
theorem get_hit (s : ByteArray) (k j m v : Nat) (G : Option (Nat × Nat)) (hlt : k < s.size) (hj : j < 5) (hb : ¬ 128 ≤ s[k].toNat) (h2 : m + s[k].toNat * v ≤ 4000000000) (h3 : s[k].toNat ≠ 0 ∨ j = 0) (h : getF (5 - j) (s.data.toList.drop k) m v j = G) :
    G = some (m + s[k].toNat * v, j + 1) := by
  obtain ⟨f, hf⟩ : ∃ f, 5 - j = f + 1 := ⟨5 - j - 1, by omega⟩
  rw [hf, drop_cons s k hlt, getF_hit _ _ _ _ _ _ hb (by omega)] at h
  exact h.symm
theorem get_bad (s : ByteArray) (k j m v : Nat) (G : Option (Nat × Nat)) (hlt : k < s.size) (hj : j < 5) (hb : ¬ 128 ≤ s[k].toNat) (h2 : 4000000000 < m + s[k].toNat * v ∨ (s[k].toNat = 0 ∧ 0 < j)) (h : getF (5 - j) (s.data.toList.drop k) m v j = G) :
    G = none := by
  obtain ⟨f, hf⟩ : ∃ f, 5 - j = f + 1 := ⟨5 - j - 1, by omega⟩
  rw [hf, drop_cons s k hlt, getF_bad _ _ _ _ _ _ hb h2] at h
  exact h.symm
theorem get_end (s : ByteArray) (k j m v : Nat) (G : Option (Nat × Nat)) (hlt : ¬ k < s.size) (h : getF (5 - j) (s.data.toList.drop k) m v j = G) : G = none := by
  rw [drop_none s k hlt, getF_nil] at h; exact h.symm
theorem get_full (l : List UInt8) (m v : Nat) (G : Option (Nat × Nat)) (h : getF (5 - 5) l m v 5 = G) : G = none := by
  simp [getF] at h; exact h.symm

/-- How many bytes were read, and what they are worth. -/
theorem getF_bound (f : Nat) : ∀ (l : List UInt8) (n u j m c : Nat), getF f l n u j = some (m, c) → m ≤ 4000000000 ∧ j < c ∧ c ≤ j + f ∧ c - j ≤ l.length := by
  induction f with
  | zero => intro l n u j m c h; simp [getF] at h
  | succ f ih =>
    intro l n u j m c h
    cases l with
    | nil => simp [getF] at h
    | cons b r =>
      by_cases hb : 128 ≤ b.toNat
      · rw [getF_more _ _ _ _ _ _ hb] at h
        have := ih _ _ _ _ _ _ h
        simp; omega
      · by_cases hx : 4000000000 < n + b.toNat * u ∨ (b.toNat = 0 ∧ 0 < j)
        · rw [getF_bad _ _ _ _ _ _ hb hx] at h; cases h
        · rw [getF_hit _ _ _ _ _ _ hb hx] at h
          simp at h; simp; omega
theorem get_bound (l : List UInt8) (i m c : Nat) (h : get l i = some (m, c)) : m ≤ 4000000000 ∧ 0 < c ∧ c ≤ 5 ∧ i + c ≤ l.length := by
  have := getF_bound 5 _ _ _ _ _ _ h
  simp at this; omega

/-- What bytes are worth, least first. -/
def val : List UInt8 → Nat
  | [] => 0
  | b :: r => b.toNat % 128 + 128 * val r
theorem val_snoc (l : List UInt8) (b : UInt8) : val (l ++ [b]) = val l + b.toNat % 128 * 128 ^ l.length := by
  induction l with
  | nil => simp [val]
  | cons c r ih => simp only [List.cons_append, val, ih, List.length_cons, Nat.pow_succ]; rw [Nat.mul_add, Nat.add_assoc]; congr 2; rw [Nat.mul_comm (128 ^ r.length) 128, Nat.mul_left_comm]
theorem val_lt (l : List UInt8) : val l < 128 ^ l.length := by
  induction l with
  | nil => simp [val]
  | cons c r ih => simp only [val, List.length_cons, Nat.pow_succ]; have := Nat.mod_lt c.toNat (show 0 < 128 by omega); omega
theorem ofNat_toNat (b : UInt8) : UInt8.ofNat b.toNat = b := by simp
/-- Bytes that are right are put just so. -/
theorem putF_val (cs : List UInt8) (b : UInt8) (hb : b.toNat < 128) : ∀ (f : Nat), cs.length ≤ f → (∀ c ∈ cs, 128 ≤ c.toNat) → (b.toNat ≠ 0 ∨ cs = []) → putF f (val (cs ++ [b])) = cs ++ [b] := by
  induction cs with
  | nil =>
    intro f _ _ _
    have e : val ([] ++ [b]) = b.toNat := by simp [val]; omega
    rw [e, putF_small _ _ (by omega), ofNat_toNat]; rfl
  | cons c r ih =>
    intro f hf hc h0
    have h0' : b.toNat ≠ 0 := by simpa using h0
    cases f with
    | zero => simp at hf
    | succ f =>
      have hcc : 128 ≤ c.toNat := hc c (by simp)
      have hc2 := c.toNat_lt
      have hpos : 0 < val (r ++ [b]) := by
        rw [val_snoc]
        have : 0 < 128 ^ r.length := Nat.pow_pos (by omega)
        have h1 : b.toNat % 128 = b.toNat := Nat.mod_eq_of_lt hb
        rw [h1]
        have := Nat.mul_pos (Nat.pos_of_ne_zero h0') this
        omega
      have e : val ((c :: r) ++ [b]) = c.toNat % 128 + 128 * val (r ++ [b]) := rfl
      rw [e, putF_great _ _ (by omega)]
      have e1 : (c.toNat % 128 + 128 * val (r ++ [b])) % 128 = c.toNat % 128 := by omega
      have e2 : (c.toNat % 128 + 128 * val (r ++ [b])) / 128 = val (r ++ [b]) := by omega
      rw [e1, e2, ih f (by simpa using hf) (fun x hx => hc x (by simp [hx])) (.inl h0')]
      have e3 : 128 + c.toNat % 128 = c.toNat := by omega
      rw [e3, ofNat_toNat]; rfl
/-- The last byte that is put is not nought, but for the number nought. -/
theorem putF_last (f : Nat) : ∀ (n : Nat), n < 128 ^ (f + 1) → 0 < n → ∃ pre b, putF f n = pre ++ [b] ∧ b.toNat ≠ 0 := by
  induction f with
  | zero => intro n h1 h2; refine ⟨[], UInt8.ofNat n, rfl, ?_⟩; rw [toNat_byte _ (by simp at h1; omega)]; omega
  | succ f ih =>
    intro n h1 h2
    by_cases h : n ≤ 127
    · rw [putF_small _ _ h]; refine ⟨[], UInt8.ofNat n, rfl, ?_⟩; rw [toNat_byte _ (by omega)]; omega
    · obtain ⟨pre, b, e, hb⟩ := ih (n / 128) (by rw [Nat.div_lt_iff_lt_mul (by omega)]; rw [Nat.pow_succ] at h1; exact h1) (by omega)
      rw [putF_great _ _ h, e]
      exact ⟨_ :: pre, b, rfl, hb⟩
theorem putF_nought (cs : List UInt8) (b : UInt8) (h0 : b.toNat = 0) (hne : cs ≠ []) (f : Nat) (hf : cs.length ≤ f) : putF f (val (cs ++ [b])) ≠ cs ++ [b] := by
  intro e
  have hv : val (cs ++ [b]) < 128 ^ (f + 1) := by
    have h1 := val_lt (cs ++ [b])
    have h2 : 128 ^ (cs ++ [b]).length ≤ 128 ^ (f + 1) := Nat.pow_le_pow_right (by omega) (by simpa using hf)
    omega
  rcases Nat.eq_zero_or_pos (val (cs ++ [b])) with hz | hp
  · rw [hz, putF_small _ _ (by omega)] at e
    have := congrArg List.length e
    simp at this
    exact hne this
  · obtain ⟨pre, b', e', hb'⟩ := putF_last f _ hv hp
    rw [e] at e'
    have := List.append_inj_right' e' rfl
    simp at this
    subst this
    exact hb' h0
end Go.Proofs.YtikdkijggejnfaaGreatDoor.Mth
namespace Go.Proofs.YtikdkijggejnfaaGreatDoor.Mth

theorem getF_was_put (f : Nat) : ∀ (l pre : List UInt8) (n j m c : Nat), pre.length = j → j + f = 5 → (∀ x ∈ pre, 128 ≤ x.toNat) → n = val pre → getF f l n (128 ^ j) j = some (m, c) → put m = pre ++ l.take (c - j) := by
  induction f with
  | zero => intro l pre n j m c _ _ _ _ h; simp [getF] at h
  | succ f ih =>
    intro l pre n j m c hl hj hp hn h
    cases l with
    | nil => simp [getF] at h
    | cons b r =>
      by_cases hb : 128 ≤ b.toNat
      · rw [getF_more _ _ _ _ _ _ hb] at h
        have hc := (getF_bound f _ _ _ _ _ _ h).2.1
        have := ih r (pre ++ [b]) (n + b.toNat % 128 * 128 ^ j) (j + 1) m c (by simp; omega) (by omega) (by
          intro x hx
          rcases List.mem_append.1 hx with hx | hx
          · exact hp x hx
          · simp at hx; subst hx; exact hb) (by rw [val_snoc, hl, hn]) (by rw [Nat.pow_succ]; exact h)
        rw [this]
        obtain ⟨d, hd⟩ : ∃ d, c - j = d + 1 := ⟨c - j - 1, by omega⟩
        have hd2 : c - (j + 1) = d := by omega
        rw [hd, hd2]; simp
      · by_cases hx : 4000000000 < n + b.toNat * 128 ^ j ∨ (b.toNat = 0 ∧ 0 < j)
        · rw [getF_bad _ _ _ _ _ _ hb hx] at h; cases h
        · rw [getF_hit _ _ _ _ _ _ hb hx] at h
          simp only [Option.some.injEq, Prod.mk.injEq] at h
          obtain ⟨h1, h2⟩ := h
          have e : m = val (pre ++ [b]) := by rw [val_snoc, hl, ← hn, Nat.mod_eq_of_lt (by omega)]; exact h1.symm
          have e2 : c - j = 1 := by omega
          rw [e, e2]
          have := putF_val pre b (by omega) 5 (by omega) hp (by
            by_cases hz : b.toNat = 0
            · right
              have : j = 0 := by omega
              exact List.length_eq_zero_iff.1 (by omega)
            · exact .inl hz)
          unfold put; rw [this]; simp
theorem get_was_put (l : List UInt8) (i m c : Nat) (h : get l i = some (m, c)) : put m = (l.drop i).take c := by
  have := getF_was_put 5 (l.drop i) [] 0 0 m c rfl rfl (by simp) rfl (by rw [Nat.pow_zero]; exact h)
  simpa using this
theorem getF_put (g : Nat) : ∀ (v f n u j : Nat) (y : List UInt8), v < 128 ^ (g + 1) → v < 128 ^ f → 0 < f → (v ≠ 0 ∨ j = 0) → n + v * u ≤ 4000000000 → getF f (putF g v ++ y) n u j = some (n + v * u, j + (putF g v).length) := by
  induction g with
  | zero =>
    intro v f n u j y hv _ hf hz hb
    obtain ⟨f', rfl⟩ : ∃ f', f = f' + 1 := ⟨f - 1, by omega⟩
    have hv' : v ≤ 127 := by simp at hv; omega
    have e : (UInt8.ofNat v).toNat = v := toNat_byte _ (by omega)
    rw [putF_small _ _ hv', List.singleton_append, getF_hit _ _ _ _ _ _ (by rw [e]; omega) (by rw [e]; omega), e]
    simp
  | succ g ih =>
    intro v f n u j y hv hvf hf hz hb
    obtain ⟨f', rfl⟩ : ∃ f', f = f' + 1 := ⟨f - 1, by omega⟩
    by_cases hs : v ≤ 127
    · have e : (UInt8.ofNat v).toNat = v := toNat_byte _ (by omega)
      rw [putF_small _ _ hs, List.singleton_append, getF_hit _ _ _ _ _ _ (by rw [e]; omega) (by rw [e]; omega), e]
      simp
    · have e : (UInt8.ofNat (128 + v % 128)).toNat = 128 + v % 128 := toNat_byte _ (by omega)
      have hm : (128 + v % 128) % 128 = v % 128 := by omega
      have hmul : v % 128 * u + v / 128 * (u * 128) = v * u := by
        have h1 : v = 128 * (v / 128) + v % 128 := by omega
        conv => rhs; rw [h1]
        rw [Nat.add_mul, Nat.mul_comm u 128, ← Nat.mul_assoc, Nat.mul_comm (v / 128) 128]; omega
      have hf' : 0 < f' := by
        rcases Nat.eq_zero_or_pos f' with h | h
        · subst h; simp at hvf; omega
        · exact h
      rw [putF_great _ _ hs, List.cons_append, getF_more _ _ _ _ _ _ (by rw [e]; omega), e, hm]
      rw [ih (v / 128) f' (n + v % 128 * u) (u * 128) (j + 1) y (by rw [Nat.div_lt_iff_lt_mul (by omega)]; rw [Nat.pow_succ] at hv; exact hv) (by rw [Nat.div_lt_iff_lt_mul (by omega)]; rw [Nat.pow_succ] at hvf; exact hvf) hf' (.inl (by omega)) (by omega)]
      simp only [List.length_cons, Option.some.injEq, Prod.mk.injEq]
      omega
end Go.Proofs.YtikdkijggejnfaaGreatDoor.Mth
namespace Go.Proofs.YtikdkijggejnfaaGreatDoor
open Go.RowKit

theorem hide {p : Prop} (h : p) : Hid p := h
theorem unhide {p : Prop} (h : Hid p) : p := h
theorem ret_int {k : IntKind} {a b : Int} (h : a = b) : Ending.returned (.int k a) = .returned (.int k b) := by rw [h]
theorem ret_bool {a b : Bool} (h : a = b) : Ending.returned (.bool a) = .returned (.bool b) := by rw [h]
theorem ret_string {a b : ByteArray} (h : a = b) : Ending.returned (.string a) = .returned (.string b) := by rw [h]
theorem size_toList (s : ByteArray) : s.data.toList.length = s.size := by simp
theorem not_empty (s : ByteArray) (h : 0 < s.size) : s.toList.isEmpty = false := by
  rw [ByteArray.toList_eq, List.isEmpty_eq_false_iff, ← List.length_pos_iff, size_toList]; exact h
theorem eq_empty (s : ByteArray) (h : s.size = 0) : s = ByteArray.empty := by
  apply ByteArray.ext; apply Array.eq_empty_of_size_eq_zero; exact h
/-- Behind a call that makes memory alone: old cells and old marks read as before. -/
theorem bcell {W w1 : World} (hb : Below W.heap.size W w1) : (∀ b o, b < W.heap.size → w1.cell? ⟨b, o, none⟩ = W.cell? ⟨b, o, none⟩) ∧ (∀ b o, b < W.heap.size → w1.frozen? ⟨b, o, none⟩ = W.frozen? ⟨b, o, none⟩) :=
  ⟨fun b o h => hb.cell (p := ⟨b, o, none⟩) h, fun b o h => hb.frozen (p := ⟨b, o, none⟩) h⟩
end Go.Proofs.YtikdkijggejnfaaGreatDoor
namespace Go.Proofs.YtikdkijggejnfaaGreatDoor
open Go.RowKit

/-- The error that the program makes of a place. -/
theorem noNumberAt (i : Int) (w : World) : Calls Tryz.prog 107 #[.int .i64 i] w fun e w' => e = .returned (.iface 145 (.agg #[.iface 123 (.agg #[.int .i64 i])])) ∧ w = w' := by
  go_enter Tryz.func107, Tryz.ntmps107
  go_wp2
  go_ret
  exact ⟨rfl, rfl⟩

/-- What numAt hands back. -/
def numRes (o : Option (Nat × Nat)) (i : Int) : Value :=
  match o with
  | none => .tuple #[.int .i64 0, .int .i64 0, .iface 145 (.agg #[.iface 123 (.agg #[.int .i64 i])])]
  | some (n, c) => .tuple #[.int .i64 n, .int .i64 (i + c), .nilIface]

theorem numAt_neg (s : ByteArray) (i : Int) (w : World) (h : i < 0) : Calls Tryz.prog 125 #[.string s, .int .i64 i] w fun e w' => e = .returned (numRes none i) ∧ w = w' := by
  go_enter Tryz.func125, Tryz.ntmps125
  go_wp2_with (go_at_call 107; refine (noNumberAt _ _).mono ?_; rintro e w' ⟨rfl, rfl⟩)
  go_ret3
  exact ⟨rfl, rfl⟩

/-- Where the loop that reads stands: the unit goes with the count of bytes. -/
def unitAt (j u : Nat) : Prop := (j = 0 ∧ u = 1) ∨ (j = 1 ∧ u = 128) ∨ (j = 2 ∧ u = 16384) ∨ (j = 3 ∧ u = 2097152) ∨ (j = 4 ∧ u = 268435456) ∨ (j = 5 ∧ u = 34359738368)

theorem res_some {G : Option (Nat × Nat)} {i a b : Int} {n c : Nat} (hG : G = some (n, c)) (ha : a = n) (hb : b = i + c) : Ending.returned (.tuple #[.int .i64 a, .int .i64 b, .nilIface]) = .returned (numRes G i) := by
  subst hG; subst ha; subst hb; rfl
theorem res_none {G : Option (Nat × Nat)} {i : Int} (hG : G = none) : Ending.returned (.tuple #[.int .i64 0, .int .i64 0, .iface 145 (.agg #[.iface 123 (.agg #[.int .i64 i])])]) = .returned (numRes G i) := by
  subst hG; rfl

theorem unit_le {j u : Nat} (h : unitAt j u) : 1 ≤ u ∧ (j < 5 → u ≤ 268435456) ∧ (j < 5 → unitAt (j + 1) (u * 128)) ∧ (¬ j < 5 → j = 5 ∧ 4000000000 < u) := by
  unfold unitAt at *
  rcases h with ⟨rfl, rfl⟩ | ⟨rfl, rfl⟩ | ⟨rfl, rfl⟩ | ⟨rfl, rfl⟩ | ⟨rfl, rfl⟩ | ⟨rfl, rfl⟩ <;> simp
theorem part_le (b v : Nat) : 0 ≤ (b : Int) % 128 * (v : Int) ∧ (b : Int) % 128 * (v : Int) ≤ 127 * (v : Int) := by
  have h1 : 0 ≤ (b : Int) % 128 := by omega
  have h2 : (b : Int) % 128 ≤ 127 := by omega
  exact ⟨Int.mul_nonneg h1 (by omega), Int.mul_le_mul_of_nonneg_right h2 (by omega)⟩

theorem part_eq (b v : Nat) (hb : ¬ 128 ≤ b) : (b : Int) % 128 * (v : Int) = ((b * v : Nat) : Int) := by
  rw [Int.emod_eq_of_lt (by omega) (by omega)]; simp
theorem part_big (m b v : Nat) (hb : ¬ 128 ≤ b) (h : (4000000000 : Int) < (m : Int) + (b : Int) % 128 * (v : Int)) : 4000000000 < m + b * v := by
  rw [part_eq b v hb] at h; generalize b * v = x at *; omega
theorem part_small (m b v : Nat) (hb : ¬ 128 ≤ b) (h : ¬ (4000000000 : Int) < (m : Int) + (b : Int) % 128 * (v : Int)) : m + b * v ≤ 4000000000 := by
  rw [part_eq b v hb] at h; generalize b * v = x at *; omega
theorem part_next (m b v : Nat) (h : m < v) : m + b % 128 * v < v * 128 := by
  have h1 : b % 128 ≤ 127 := by omega
  have h2 := Nat.mul_le_mul_right v h1
  omega
theorem part_val (m b v : Nat) (hb : ¬ 128 ≤ b) : (m : Int) + (b : Int) % 128 * (v : Int) = ((m + b * v : Nat) : Int) := by
  rw [part_eq b v hb]; generalize b * v = x; omega
theorem part_nought (m b v : Nat) (hb : (b : Int) ≤ 0) : (m : Int) = ((m + b * v : Nat) : Int) := by
  have : b = 0 := by omega
  subst this; simp

set_option maxRecDepth 100000 in
set_option maxHeartbeats 4000000 in
theorem numAt (s : ByteArray) (i : Nat) (w : World) (hs : s.size ≤ maxLen) : Calls Tryz.prog 125 #[.string s, .int .i64 i] w fun e w' => e = .returned (numRes (Mth.get s.data.toList i) i) ∧ w = w' := by
  unfold maxLen at hs
  have h0 : decide ((i : Int) < 0) = false := by simp
  go_enter Tryz.func125, Tryz.ntmps125
  go_wp2
  go_loop [7, 8, 9] (fun n u a => ∃ j m v k : Nat, unitAt j v ∧ m < v ∧ n = .int .i64 m ∧ u = .int .i64 v ∧ a = .int .i64 k ∧ k = i + j ∧ Mth.getF (5 - j) (s.data.toList.drop k) m v j = Mth.get s.data.toList i) (fun _ _ a => s.size - (intOf a).toNat)
  case atStart => exact ⟨0, 0, 1, i, .inl ⟨rfl, rfl⟩, by omega, rfl, rfl, rfl, rfl, rfl⟩
  case round =>
    obtain ⟨j, m, v, k, hu, hm, rfl, rfl, rfl, hk, hget⟩ := hrel
    have HG := hide hget
    have HK := hide hk
    clear hget hk
    obtain ⟨hv1, hv2, hu2, hv5⟩ := unit_le hu
    by_cases hlt : k < s.size
    · by_cases hj : j < 5
      · have hc : s[k].toNat < 256 := s[k].toNat_lt
        have hv2' := hv2 hj
        have HU := hide (hu2 hj)
        clear hv2 hu2 hv5 hu
        obtain ⟨hp0, hp1⟩ := part_le s[k].toNat v
        by_cases hb : 128 ≤ s[k].toNat
        · have HR := hide (Mth.get_more s k _ m _ _ hlt hj hb (unhide HG))
          clear HG
          go_wp2
          go_round
          case rel => exact ⟨_, _, _, k + 1, unhide HU, part_next m _ v hm, by go_num, by go_num, by go_num, by have := unhide HK; omega, unhide HR⟩
          case measure => simp [intOf]; omega
        · by_cases hbig : (4000000000 : Int) < (m : Int) + (s[k].toNat : Int) % 128 * (v : Int)
          · have HR := hide (Mth.get_bad s k _ m _ _ hlt hj hb (.inl (part_big m _ v hb hbig)) (unhide HG))
            clear HG
            go_wp2_with (go_at_call 107; refine (noNumberAt _ _).mono ?_; rintro e w' ⟨rfl, rfl⟩)
            go_ret3
            exact ⟨res_none (unhide HR), rfl⟩
          · by_cases hz : (s[k].toNat : Int) ≤ 0
            · by_cases hj0 : 0 < j
              · have HR := hide (Mth.get_bad s k _ m _ _ hlt hj hb (.inr ⟨by omega, hj0⟩) (unhide HG))
                have hik : i < k := by have := unhide HK; omega
                clear HG
                go_wp2_with (go_at_call 107; refine (noNumberAt _ _).mono ?_; rintro e w' ⟨rfl, rfl⟩)
                go_ret3
                exact ⟨res_none (unhide HR), rfl⟩
              · have HR := hide (Mth.get_hit s k _ m _ _ hlt hj hb (part_small m _ v hb hbig) (.inr (by omega)) (unhide HG))
                have hik : k ≤ i := by have := unhide HK; omega
                clear HG
                go_wp2
                go_ret3
                exact ⟨res_some (unhide HR) (part_nought m _ v hz) (by have := unhide HK; omega), rfl⟩
            · have HR := hide (Mth.get_hit s k _ m _ _ hlt hj hb (part_small m _ v hb hbig) (.inl (by omega)) (unhide HG))
              have hz' : 0 < (s[k].toNat : Int) := by omega
              clear HG
              go_wp2
              go_ret3
              exact ⟨res_some (unhide HR) (part_val m _ v hb) (by have := unhide HK; omega), rfl⟩
      · obtain ⟨rfl, hbigu⟩ := hv5 hj
        have HR := hide (Mth.get_full _ _ _ _ (unhide HG))
        clear hv2 hu2 hv5 hu
        go_wp2_with (go_at_call 107; refine (noNumberAt _ _).mono ?_; rintro e w' ⟨rfl, rfl⟩)
        go_ret3
        exact ⟨res_none (unhide HR), rfl⟩
    · have HR := hide (Mth.get_end s k _ m _ _ hlt (unhide HG))
      clear hv2 hu2 hv5 hu
      go_wp2_with (go_at_call 107; refine (noNumberAt _ _).mono ?_; rintro e w' ⟨rfl, rfl⟩)
      go_ret3
      exact ⟨res_none (unhide HR), rfl⟩
end Go.Proofs.YtikdkijggejnfaaGreatDoor
namespace Go.Proofs.YtikdkijggejnfaaGreatDoor
open Go.RowKit

/-- A byte as a cell's value. -/
def bv (c : UInt8) : Value := .int .u8 (c.toNat : Int)

/-- 'string(b)' of a row of the call's own. -/
theorem conv_owned {P : Program} {w : World} {base : Nat} {e : TypeId} {v : Value} {l : List UInt8} (src dst : TypeId) (hs : P.underlying src = some (.slice e)) (he : P.underlying e = some (.int .u8)) (hd : P.underlying dst = some .string)
    (h : w.ownsRow base e 1 v l.length (l.map bv)) : (convert src dst v).run P w = .ok (.string ⟨l.toArray⟩) w := by
  rcases h.2 with ⟨rfl, hn⟩ | ⟨g, cap, cur, rfl, _⟩
  · rw [run_convert_bytes_string w src dst e none 0 0 hs he hd]
    have : l = [] := List.length_eq_zero_iff.1 hn
    subst this
    rfl
  · apply run_convert_bytes_back w src dst e _ cap l hs he hd
    intro j hj
    exact h.cells rfl j (bv l[j]) (by simp [hj])

/-- A byte more in a row of the call's own. -/
theorem own_snoc {w : World} {base : Nat} {e : TypeId} {v : Value} {l : List UInt8} {z : Int} (b : UInt8) (hz : z = b.toNat) (h : w.ownsRow base e 1 v (l.length + 1) (l.map bv ++ [.int .u8 z])) :
    w.ownsRow base e 1 v (l ++ [b]).length ((l ++ [b]).map bv) := by
  subst hz
  have e1 : (l ++ [b]).map bv = l.map bv ++ [.int .u8 (b.toNat : Int)] := by simp [bv]
  rw [e1]; simpa using h
/-- Below stays so behind an append to a row of the call's own. -/
theorem below_append {w wr w1 : World} {e : TypeId} {v : Value} {n : Nat} {xs : List Value} {o : Obj} (hb : Below w.heap.size w wr) (hown : wr.ownsRow w.heap.size e 1 v n xs) (hg : (wr.alloc o).grownBy w1 v.ownBlock) : Below w.heap.size w w1 :=
  (hb.alloc (by have := hb.size; omega) o).grown hg (by have := hb.size; simp; omega) (fun k hk => (hown.lt k hk).1)
end Go.Proofs.YtikdkijggejnfaaGreatDoor
namespace Go.Proofs.YtikdkijggejnfaaGreatDoor
open Go.RowKit

theorem l01In_yes (x a b : Int) (w : World) (h1 : a ≤ x) (h2 : x ≤ b) : Calls Tryz.prog 72 #[.int .i64 x, .int .i64 a, .int .i64 b] w fun e w' => e = .returned (.bool true) ∧ w = w' := by
  go_enter Tryz.func72, Tryz.ntmps72
  go_wp2
  go_ret
  exact ⟨rfl, rfl⟩
theorem l01In_low (x a b : Int) (w : World) (h1 : x < a) : Calls Tryz.prog 72 #[.int .i64 x, .int .i64 a, .int .i64 b] w fun e w' => e = .returned (.bool false) ∧ w = w' := by
  have h2 : ¬ a ≤ x := by omega
  go_enter Tryz.func72, Tryz.ntmps72
  go_wp2
  go_ret
  exact ⟨rfl, rfl⟩
theorem l01In_high (x a b : Int) (w : World) (h1 : a ≤ x) (h3 : b < x) : Calls Tryz.prog 72 #[.int .i64 x, .int .i64 a, .int .i64 b] w fun e w' => e = .returned (.bool false) ∧ w = w' := by
  have h2 : ¬ x ≤ b := by omega
  go_enter Tryz.func72, Tryz.ntmps72
  go_wp2
  go_ret
  exact ⟨rfl, rfl⟩
theorem l01In_no (x a b : Int) (w : World) (h : x < a ∨ b < x) : Calls Tryz.prog 72 #[.int .i64 x, .int .i64 a, .int .i64 b] w fun e w' => e = .returned (.bool false) ∧ w = w' := by
  by_cases h1 : x < a
  · exact l01In_low x a b w h1
  · exact l01In_high x a b w (by omega) (by omega)
end Go.Proofs.YtikdkijggejnfaaGreatDoor
