/-
  Plain facts, without the program: the bytes of a number (least first, 128 added to each but the last), the two sums of a text's bytes, what a key is.
-/
namespace Go.Proofs.Ytmflajfddjnmhaa.Mth

/-- A number's bytes, by fuel. -/
def putF : Nat → Nat → List UInt8
  | 0, n => [UInt8.ofNat n]
  | f + 1, n => if n ≤ 127 then [UInt8.ofNat n] else UInt8.ofNat (128 + n % 128) :: putF f (n / 128)
/-- A number's bytes (up to 4000000000: five of them at the most). -/
def put (n : Nat) : List UInt8 := putF 5 n

theorem putF_small (f n : Nat) (h : n ≤ 127) : putF f n = [UInt8.ofNat n] := by
  cases f with
  | zero => rfl
  | succ f => simp [putF, h]
theorem putF_great (f n : Nat) (h : ¬ n ≤ 127) : putF (f + 1) n = UInt8.ofNat (128 + n % 128) :: putF f (n / 128) := by
  simp [putF, h]
theorem putF_length (f n : Nat) : (putF f n).length ≤ f + 1 := by
  induction f generalizing n with
  | zero => simp [putF]
  | succ f ih =>
    by_cases h : n ≤ 127
    · rw [putF_small _ _ h]; simp
    · rw [putF_great _ _ h]; have := ih (n / 128); simp; omega
theorem putF_pos (f n : Nat) : 0 < (putF f n).length := by
  cases f with
  | zero => simp [putF]
  | succ f =>
    by_cases h : n ≤ 127
    · rw [putF_small _ _ h]; simp
    · rw [putF_great _ _ h]; simp
theorem toNat_byte (n : Nat) (h : n < 256) : (UInt8.ofNat n).toNat = n := by
  simp [UInt8.toNat_ofNat']; omega

/-- One round of the loop that puts a number's bytes. -/
theorem put_round (n f cur : Nat) (pre : List UInt8) (hcur : cur < 128 ^ (f + 1)) (hbig : ¬ cur ≤ 127) (hpf : pre.length + f = 5) (h : pre ++ putF f cur = put n) :
    ∃ f', f = f' + 1 ∧ cur / 128 < 128 ^ (f' + 1) ∧ (pre ++ [UInt8.ofNat (128 + cur % 128)]).length + f' = 5 ∧ (pre ++ [UInt8.ofNat (128 + cur % 128)]) ++ putF f' (cur / 128) = put n := by
  cases f with
  | zero => simp at hcur; omega
  | succ f' =>
    refine ⟨f', rfl, ?_, by simp; omega, ?_⟩
    · rw [Nat.div_lt_iff_lt_mul (by omega)]; rw [Nat.pow_succ] at hcur; exact hcur
    · rw [putF_great _ _ hbig] at h
      rw [← h]; simp
theorem put_end (n f cur : Nat) (pre : List UInt8) (hs : cur ≤ 127) (h : pre ++ putF f cur = put n) : pre ++ [UInt8.ofNat cur] = put n := by
  rw [putF_small _ _ hs] at h; exact h
theorem put_length (n : Nat) : (put n).length ≤ 6 := putF_length 5 n
theorem put_pos (n : Nat) : 0 < (put n).length := putF_pos 5 n

/-- One byte taken into the two sums. -/
def sumStep (p : Nat × Nat) (c : UInt8) : Nat × Nat := ((p.1 + c.toNat) % 65521, (p.2 + (p.1 + c.toNat) % 65521) % 65521)
def sums (l : List UInt8) : Nat × Nat := l.foldl sumStep (1, 0)
theorem sums_snoc (l : List UInt8) (c : UInt8) : sums (l ++ [c]) = sumStep (sums l) c := by simp [sums]
theorem sums_lt (l : List UInt8) : (sums l).1 < 65521 ∧ (sums l).2 < 65521 := by
  rcases List.eq_nil_or_concat l with rfl | ⟨r, c, rfl⟩
  · simp [sums]
  · rw [List.concat_eq_append, sums_snoc]
    exact ⟨Nat.mod_lt _ (by omega), Nat.mod_lt _ (by omega)⟩
theorem take_snoc (s : ByteArray) (k : Nat) (h : k < s.size) : s.data.toList.take (k + 1) = s.data.toList.take k ++ [s[k]] := by
  rw [List.take_succ_eq_append_getElem (by simpa using h)]; rfl
theorem take_all (s : ByteArray) (k : Nat) (h : ¬ k < s.size) : s.data.toList.take k = s.data.toList := by
  apply List.take_of_length_le
  simp only [Array.length_toList]
  show s.size ≤ k
  omega

/-- Is this byte a small letter or a digit? -/
def keyByte (c : UInt8) : Bool := decide (97 ≤ (c.toNat : Int) ∧ (c.toNat : Int) ≤ 122) || decide (48 ≤ (c.toNat : Int) ∧ (c.toNat : Int) ≤ 57)
theorem keyByte_yes (c : UInt8) (h : (97 ≤ (c.toNat : Int) ∧ (c.toNat : Int) ≤ 122) ∨ (48 ≤ (c.toNat : Int) ∧ (c.toNat : Int) ≤ 57)) : keyByte c = true := by
  unfold keyByte; simp; omega
theorem keyByte_no (c : UInt8) (h : (c.toNat : Int) < 48 ∨ (57 < (c.toNat : Int) ∧ (c.toNat : Int) < 97) ∨ 122 < (c.toNat : Int)) : keyByte c = false := by
  unfold keyByte; simp; omega
theorem byte_cases (c : UInt8) : ((97 ≤ (c.toNat : Int) ∧ (c.toNat : Int) ≤ 122) ∨ (48 ≤ (c.toNat : Int) ∧ (c.toNat : Int) ≤ 57)) ∨ ((c.toNat : Int) < 48 ∨ (57 < (c.toNat : Int) ∧ (c.toNat : Int) < 97) ∨ 122 < (c.toNat : Int)) := by omega
/-- Is this text a key? -/
def keyOk (l : List UInt8) : Bool := l.all keyByte && decide (1 ≤ l.length ∧ l.length ≤ 10)
theorem all_snoc (l : List UInt8) (c : UInt8) : (l ++ [c]).all keyByte = (l.all keyByte && keyByte c) := by simp
theorem keyOk_bad (l : List UInt8) (k : Nat) (h : (l.take k).all keyByte = false) : keyOk l = false := by
  have : l.all keyByte = false := by
    rw [List.all_eq_false] at h ⊢
    obtain ⟨x, hx, hp⟩ := h
    exact ⟨x, List.mem_of_mem_take hx, hp⟩
  simp [keyOk, this]
theorem keyOk_all (l : List UInt8) (h : l.all keyByte = true) : keyOk l = decide (1 ≤ l.length ∧ l.length ≤ 10) := by simp [keyOk, h]
theorem keyOk_len (l : List UInt8) (h : ¬ (1 ≤ l.length ∧ l.length ≤ 10)) : keyOk l = false := by simp [keyOk]; intro _; omega
end Go.Proofs.Ytmflajfddjnmhaa.Mth
