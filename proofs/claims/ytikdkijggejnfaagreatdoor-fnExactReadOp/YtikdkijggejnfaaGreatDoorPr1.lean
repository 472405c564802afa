/- Parts. -/
import Derived.Test.YtikdkijggejnfaaGreatDoorRows
import Derived.WalkKit
import Derived.WalkSpells
import Derived.ShutString
import Derived.Deep.RegionHeld
namespace Go.Proofs.YtikdkijggejnfaaGreatDoor.Mth

/-- A number's bytes, by fuel. -/
def putF : Nat → Nat → List UInt8
  | 0, n => [UInt8.ofNat n]
  | f + 1, n => if n ≤ 127 then [UInt8.ofNat n] else UInt8.ofNat (128 + n % 128) :: putF f (n / 128)
/-- A number's bytes (up to 4000000000: five of them at the most). -/
def put (n : Nat) : List UInt8 := putF 5 n

theorem toNat_byte (n : Nat) (h : n < 256) : (UInt8.ofNat n).toNat = n := by
  simp [UInt8.toNat_ofNat']; omega

theorem take_snoc (s : ByteArray) (k : Nat) (h : k < s.size) : s.data.toList.take (k + 1) = s.data.toList.take k ++ [s[k]] := by
  rw [List.take_succ_eq_append_getElem (by simpa using h)]; rfl
theorem take_all (s : ByteArray) (k : Nat) (h : ¬ k < s.size) : s.data.toList.take k = s.data.toList := by
  apply List.take_of_length_le
  simp only [Array.length_toList]
  show s.size ≤ k
  omega

/-- Is this byte a small letter or a digit? -/
def keyByte (c : UInt8) : Bool := decide (97 ≤ (c.toNat : Int) ∧ (c.toNat : Int) ≤ 122) || decide (48 ≤ (c.toNat : Int) ∧ (c.toNat : Int) ≤ 57)
theorem keyByte_yes (c : UInt8) (h : (97 ≤ (c.toNat : Int) ∧ (c.toNat : Int) ≤ 122) ∨ (48 ≤ (c.toNat : Int) ∧ (c.toNat : Int) ≤ 57)) : keyByte c = true := by
  unfold keyByte; simp; omega
theorem keyByte_no (c : UInt8) (h : (c.toNat : Int) < 48 ∨ (57 < (c.toNat : Int) ∧ (c.toNat : Int) < 97) ∨ 122 < (c.toNat : Int)) : keyByte c = false := by
  unfold keyByte; simp; omega
theorem byte_cases (c : UInt8) : ((97 ≤ (c.toNat : Int) ∧ (c.toNat : Int) ≤ 122) ∨ (48 ≤ (c.toNat : Int) ∧ (c.toNat : Int) ≤ 57)) ∨ ((c.toNat : Int) < 48 ∨ (57 < (c.toNat : Int) ∧ (c.toNat : Int) < 97) ∨ 122 < (c.toNat : Int)) := by omega
/-- Is this text a key? -/
def keyOk (l : List UInt8) : Bool := l.all keyByte && decide (1 ≤ l.length ∧ l.length ≤ 10)
theorem all_snoc (l : List UInt8) (c : UInt8) : (l ++ [c]).all keyByte = (l.all keyByte && keyByte c) := by simp
theorem keyOk_bad (l : List UInt8) (k : Nat) (h : (l.take k).all keyByte = false) : keyOk l = false := by
  have : l.all keyByte = false := by
    rw [List.all_eq_false] at h ⊢
    obtain ⟨x, hx, hp⟩ := h
    exact ⟨x, List.mem_of_mem_take hx, hp⟩
  simp [keyOk, this]
theorem keyOk_all (l : List UInt8) (h : l.all keyByte = true) : keyOk l = decide (1 ≤ l.length ∧ l.length ≤ 10) := by simp [keyOk, h]
theorem keyOk_len (l : List UInt8) (h : ¬ (1 ≤ l.length ∧ l.length ≤ 10)) : keyOk l = false := by simp [keyOk]; intro _; omega
end Go.Proofs.YtikdkijggejnfaaGreatDoor.Mth
namespace Go.Proofs.YtikdkijggejnfaaGreatDoor
open Go.RowKit

theorem hide {p : Prop} (h : p) : Hid p := h
theorem unhide {p : Prop} (h : Hid p) : p := h
theorem ret_int {k : IntKind} {a b : Int} (h : a = b) : Ending.returned (.int k a) = .returned (.int k b) := by rw [h]
theorem ret_bool {a b : Bool} (h : a = b) : Ending.returned (.bool a) = .returned (.bool b) := by rw [h]
theorem ret_string {a b : ByteArray} (h : a = b) : Ending.returned (.string a) = .returned (.string b) := by rw [h]
theorem size_toList (s : ByteArray) : s.data.toList.length = s.size := by simp
theorem not_empty (s : ByteArray) (h : 0 < s.size) : s.toList.isEmpty = false := by
  rw [ByteArray.toList_eq, List.isEmpty_eq_false_iff, ← List.length_pos_iff, size_toList]; exact h
theorem eq_empty (s : ByteArray) (h : s.size = 0) : s = ByteArray.empty := by
  apply ByteArray.ext; apply Array.eq_empty_of_size_eq_zero; exact h
end Go.Proofs.YtikdkijggejnfaaGreatDoor
namespace Go.Proofs.YtikdkijggejnfaaGreatDoor
open Go.RowKit

theorem l01In_yes (x a b : Int) (w : World) (h1 : a ≤ x) (h2 : x ≤ b) : Calls Tryz.prog 72 #[.int .i64 x, .int .i64 a, .int .i64 b] w fun e w' => e = .returned (.bool true) ∧ w = w' := by
  go_enter Tryz.func72, Tryz.ntmps72
  go_wp2
  go_ret
  exact ⟨rfl, rfl⟩
theorem l01In_low (x a b : Int) (w : World) (h1 : x < a) : Calls Tryz.prog 72 #[.int .i64 x, .int .i64 a, .int .i64 b] w fun e w' => e = .returned (.bool false) ∧ w = w' := by
  have h2 : ¬ a ≤ x := by omega
  go_enter Tryz.func72, Tryz.ntmps72
  go_wp2
  go_ret
  exact ⟨rfl, rfl⟩
theorem l01In_high (x a b : Int) (w : World) (h1 : a ≤ x) (h3 : b < x) : Calls Tryz.prog 72 #[.int .i64 x, .int .i64 a, .int .i64 b] w fun e w' => e = .returned (.bool false) ∧ w = w' := by
  have h2 : ¬ x ≤ b := by omega
  go_enter Tryz.func72, Tryz.ntmps72
  go_wp2
  go_ret
  exact ⟨rfl, rfl⟩
theorem l01In_no (x a b : Int) (w : World) (h : x < a ∨ b < x) : Calls Tryz.prog 72 #[.int .i64 x, .int .i64 a, .int .i64 b] w fun e w' => e = .returned (.bool false) ∧ w = w' := by
  by_cases h1 : x < a
  · exact l01In_low x a b w h1
  · exact l01In_high x a b w (by omega) (by omega)
end Go.Proofs.YtikdkijggejnfaaGreatDoor
namespace Go.Proofs.YtikdkijggejnfaaGreatDoor
open Go.RowKit


set_option maxRecDepth 100000 in
set_option maxHeartbeats 1000000 in
theorem specKeyOk (s : ByteArray) (w : World) (hs : s.size ≤ maxLen) :
    Calls Tryz.prog 76 #[.string s] w fun e w' => e = .returned (.bool (Mth.keyOk s.data.toList)) ∧ w = w' := by
  unfold maxLen at hs
  go_enter Tryz.func76, Tryz.ntmps76
  go_wp2
  go_loop [3] (fun i => ∃ k : Nat, k ≤ s.size ∧ i = .int .i64 k ∧ (s.data.toList.take k).all Mth.keyByte = true) (fun i => s.size - (intOf i).toNat)
  case atStart => exact ⟨0, Nat.zero_le _, rfl, rfl⟩
  case round =>
    obtain ⟨k, hk, rfl, hall⟩ := hrel
    have HA := hide hall
    clear hall
    by_cases hlt : k < s.size
    · have HS : Hid ((s.data.toList.take (k + 1)).all Mth.keyByte = ((s.data.toList.take k).all Mth.keyByte && Mth.keyByte s[k])) := by rw [Mth.take_snoc s k hlt]; exact Mth.all_snoc _ _
      have hc : s[k].toNat < 256 := s[k].toNat_lt
      rcases Mth.byte_cases s[k] with h | h
      · have HK := hide (Mth.keyByte_yes _ h)
        rcases h with ⟨h1, h2⟩ | ⟨h1, h2⟩
        all_goals
          go_wp2_with (go_at_call 72; first | (refine (l01In_yes _ _ _ _ ?_ ?_).mono ?_; omega; omega; rintro e w' ⟨rfl, rfl⟩) | (refine (l01In_no _ _ _ _ ?_).mono ?_; omega; rintro e w' ⟨rfl, rfl⟩))
          go_round
          case rel => exact ⟨k + 1, by omega, by go_num, by rw [unhide HS, unhide HA, unhide HK]; rfl⟩
          case measure => simp [intOf]; omega
      · have HK := hide (Mth.keyByte_no _ h)
        have HF : Hid (Mth.keyOk s.data.toList = false) := Mth.keyOk_bad _ (k + 1) (by rw [unhide HS, unhide HA, unhide HK]; rfl)
        rcases h with h1 | ⟨h1, h2⟩ | h1
        all_goals
          go_wp2_with (go_at_call 72; first | (refine (l01In_yes _ _ _ _ ?_ ?_).mono ?_; omega; omega; rintro e w' ⟨rfl, rfl⟩) | (refine (l01In_no _ _ _ _ ?_).mono ?_; omega; rintro e w' ⟨rfl, rfl⟩))
          go_ret
          exact ⟨ret_bool (unhide HF).symm, rfl⟩
    · rw [Mth.take_all s k hlt] at HA
      have HF : Hid (Mth.keyOk s.data.toList = decide (1 ≤ s.data.toList.length ∧ s.data.toList.length ≤ 10)) := Mth.keyOk_all _ (unhide HA)
      rw [size_toList s] at HF
      by_cases hin : (1 : Int) ≤ (s.size : Int) ∧ (s.size : Int) ≤ 10
      · obtain ⟨hi1, hi2⟩ := hin
        go_wp2_with (go_at_call 72; first | (refine (l01In_yes _ _ _ _ ?_ ?_).mono ?_; omega; omega; rintro e w' ⟨rfl, rfl⟩) | (refine (l01In_no _ _ _ _ ?_).mono ?_; omega; rintro e w' ⟨rfl, rfl⟩))
        go_ret
        exact ⟨ret_bool (by rw [unhide HF]; simp; omega), rfl⟩
      · go_wp2_with (go_at_call 72; first | (refine (l01In_yes _ _ _ _ ?_ ?_).mono ?_; omega; omega; rintro e w' ⟨rfl, rfl⟩) | (refine (l01In_no _ _ _ _ ?_).mono ?_; omega; rintro e w' ⟨rfl, rfl⟩))
        go_ret
        exact ⟨ret_bool (by rw [unhide HF]; simp; omega), rfl⟩

theorem small_yes (n : Int) (w : World) (h1 : 97 ≤ n) (h2 : n ≤ 122) : Calls Tryz.prog 97 #[.int .u8 n] w fun e w' => e = .returned (.bool true) ∧ w = w' := by
  go_enter Tryz.func97, Tryz.ntmps97
  go_wp2
  go_ret
  exact ⟨rfl, rfl⟩
theorem small_no (n : Int) (w : World) (h : n < 97 ∨ 122 < n) : Calls Tryz.prog 97 #[.int .u8 n] w fun e w' => e = .returned (.bool false) ∧ w = w' := by
  by_cases h1 : 97 ≤ n
  · have h2 : ¬ n ≤ 122 := by omega
    clear h
    go_enter Tryz.func97, Tryz.ntmps97
    go_wp2
    go_ret
    exact ⟨rfl, rfl⟩
  · clear h
    go_enter Tryz.func97, Tryz.ntmps97
    go_wp2
    go_ret
    exact ⟨rfl, rfl⟩
theorem digit_yes (n : Int) (w : World) (h1 : 48 ≤ n) (h2 : n ≤ 57) : Calls Tryz.prog 98 #[.int .u8 n] w fun e w' => e = .returned (.bool true) ∧ w = w' := by
  go_enter Tryz.func98, Tryz.ntmps98
  go_wp2
  go_ret
  exact ⟨rfl, rfl⟩
theorem digit_no (n : Int) (w : World) (h : n < 48 ∨ 57 < n) : Calls Tryz.prog 98 #[.int .u8 n] w fun e w' => e = .returned (.bool false) ∧ w = w' := by
  by_cases h1 : 48 ≤ n
  · have h2 : ¬ n ≤ 57 := by omega
    clear h
    go_enter Tryz.func98, Tryz.ntmps98
    go_wp2
    go_ret
    exact ⟨rfl, rfl⟩
  · clear h
    go_enter Tryz.func98, Tryz.ntmps98
    go_wp2
    go_ret
    exact ⟨rfl, rfl⟩
end Go.Proofs.YtikdkijggejnfaaGreatDoor
namespace Go.Proofs.YtikdkijggejnfaaGreatDoor
open Go.RowKit

set_option maxRecDepth 100000 in
set_option maxHeartbeats 1000000 in
theorem implKeyOk (s : ByteArray) (w : World) :
    Calls Tryz.prog 75 #[.string s] w fun e w' => e = .returned (.bool (Mth.keyOk s.data.toList)) ∧ w = w' := by
  by_cases hlen : (1 : Int) ≤ (s.size : Int) ∧ (s.size : Int) ≤ 10
  · obtain ⟨hs1, hs2⟩ := hlen
    have hne : s.toList.isEmpty = false := not_empty s (by omega)
    have h10 : decide (10 < (s.size : Int)) = false := by simp; omega
    go_enter Tryz.func75, Tryz.ntmps75
    go_wp2
    go_loop [13] (fun i => ∃ k : Nat, k ≤ s.size ∧ i = .int .i64 k ∧ (s.data.toList.take k).all Mth.keyByte = true) (fun i => s.size - (intOf i).toNat)
    case atStart => exact ⟨0, Nat.zero_le _, rfl, rfl⟩
    case round =>
      obtain ⟨k, hk, rfl, hall⟩ := hrel
      have HA := hide hall
      clear hall
      by_cases hlt : k < s.size
      · have HS : Hid ((s.data.toList.take (k + 1)).all Mth.keyByte = ((s.data.toList.take k).all Mth.keyByte && Mth.keyByte s[k])) := by rw [Mth.take_snoc s k hlt]; exact Mth.all_snoc _ _
        have hc : s[k].toNat < 256 := s[k].toNat_lt
        rcases Mth.byte_cases s[k] with h | h
        · have HK := hide (Mth.keyByte_yes _ h)
          rcases h with ⟨h1, h2⟩ | ⟨h1, h2⟩
          all_goals
            go_wp2_with (first | (go_at_call 97; first | (refine (small_yes _ _ ?_ ?_).mono ?_; omega; omega; rintro e w' ⟨rfl, rfl⟩) | (refine (small_no _ _ ?_).mono ?_; omega; rintro e w' ⟨rfl, rfl⟩)) | (go_at_call 98; first | (refine (digit_yes _ _ ?_ ?_).mono ?_; omega; omega; rintro e w' ⟨rfl, rfl⟩) | (refine (digit_no _ _ ?_).mono ?_; omega; rintro e w' ⟨rfl, rfl⟩)))
            go_round
            case rel => exact ⟨k + 1, by omega, by go_num, by rw [unhide HS, unhide HA, unhide HK]; rfl⟩
            case measure => simp [intOf]; omega
        · have HK := hide (Mth.keyByte_no _ h)
          have HF : Hid (Mth.keyOk s.data.toList = false) := Mth.keyOk_bad _ (k + 1) (by rw [unhide HS, unhide HA, unhide HK]; rfl)
          rcases h with h1 | ⟨h1, h2⟩ | h1
          all_goals
            go_wp2_with (first | (go_at_call 97; first | (refine (small_yes _ _ ?_ ?_).mono ?_; omega; omega; rintro e w' ⟨rfl, rfl⟩) | (refine (small_no _ _ ?_).mono ?_; omega; rintro e w' ⟨rfl, rfl⟩)) | (go_at_call 98; first | (refine (digit_yes _ _ ?_ ?_).mono ?_; omega; omega; rintro e w' ⟨rfl, rfl⟩) | (refine (digit_no _ _ ?_).mono ?_; omega; rintro e w' ⟨rfl, rfl⟩)))
            go_ret
            exact ⟨ret_bool (unhide HF).symm, rfl⟩
      · rw [Mth.take_all s k hlt] at HA
        have HF : Hid (Mth.keyOk s.data.toList = decide (1 ≤ s.data.toList.length ∧ s.data.toList.length ≤ 10)) := Mth.keyOk_all _ (unhide HA)
        rw [size_toList s] at HF
        go_wp2
        go_ret
        exact ⟨ret_bool (by rw [unhide HF]; simp; omega), rfl⟩
  · have HF : Hid (Mth.keyOk s.data.toList = false) := Mth.keyOk_len _ (by rw [size_toList]; omega)
    by_cases h0 : s.size = 0
    · have he : s = ByteArray.empty := eq_empty s h0
      subst he
      go_enter Tryz.func75, Tryz.ntmps75
      go_wp2
      go_ret
      exact ⟨ret_bool (unhide HF).symm, rfl⟩
    · have hne : s.toList.isEmpty = false := not_empty s (by omega)
      have h10 : 10 < (s.size : Int) := by omega
      go_enter Tryz.func75, Tryz.ntmps75
      go_wp2
      go_ret
      exact ⟨ret_bool (unhide HF).symm, rfl⟩
end Go.Proofs.YtikdkijggejnfaaGreatDoor
namespace Go.Proofs.YtikdkijggejnfaaGreatDoor
namespace Mth

/-- A message: kind, from, to, id, low, key, n. -/
structure Mg where
  K : Int
  F : Int
  T : Int
  I : Int
  L : Int
  k : ByteArray
  N : Int
abbrev mgv (m : Mg) : Value := .agg #[.int .i64 m.K, .int .i64 m.F, .int .i64 m.T, .int .i64 m.I, .int .i64 m.L, .string m.k, .int .i64 m.N]
def ndB (n : Int) : Bool := decide (0 ≤ n ∧ n ≤ 29)
def smB (n : Int) : Bool := decide (1 ≤ n ∧ n ≤ 1000000000)
def rtB (f t : Int) : Bool := ndB f && ndB t && decide (f ≠ t)
def mgOk (m : Mg) : Bool :=
  rtB m.F m.T &&
    (if m.K = 0 then keyOk m.k.data.toList && smB m.N && decide (m.I = 0) && decide (m.L = 0)
     else if m.K = 1 then keyOk m.k.data.toList && smB m.N && smB m.I && decide (1 ≤ m.L ∧ m.L ≤ m.I)
     else if m.K = 2 then smB m.I && decide (m.k.size = 0) && decide (m.N = 0) && decide (m.L = 0)
     else false)
end Mth
open Go.RowKit
open Mth

theorem wp_at {P : Program} {Q : Exit → Act → World → Prop} {c : Code} {a : Act} {W : World} (h : ∀ W', W' = W → Code.wp P c Q a W') : Code.wp P c Q a W := h W rfl
theorem below_one (w : World) (o : Obj) : Below w.heap.size w (w.alloc o) := (Below.refl _ _).alloc (Nat.le_refl _) _
theorem ret_false {p : Prop} [Decidable p] (h : ¬ p) : Ending.returned (.bool false) = .returned (.bool (decide p)) := by rw [decide_eq_false h]
theorem ret_dec {p q : Prop} [Decidable p] [Decidable q] (h : p ↔ q) : Ending.returned (.bool (decide p)) = .returned (.bool (decide q)) := by rw [decide_eq_decide.2 h]

theorem l01InR (x a b : Int) (r : Bool) (w : World) (h : decide (a ≤ x ∧ x ≤ b) = r) : Calls Tryz.prog 72 #[.int .i64 x, .int .i64 a, .int .i64 b] w fun e w' => e = .returned (.bool r) ∧ w = w' := by
  subst h
  by_cases h : a ≤ x ∧ x ≤ b
  · rw [decide_eq_true h]; exact l01In_yes x a b w h.1 h.2
  · rw [decide_eq_false h]; exact l01In_no x a b w (by omega)
theorem l04Node (n : Int) (r : Bool) (w : World) (h : ndB n = r) : Calls Tryz.prog 96 #[.int .i64 n] w fun e w' => e = .returned (.bool r) ∧ w = w' := by
  go_enter Tryz.func96, Tryz.ntmps96
  go_wp2_with (go_at_call 72; refine (l01InR _ _ _ r _ h).mono ?_; rintro e w1 ⟨rfl, rfl⟩)
  go_ret
  exact ⟨rfl, rfl⟩
theorem l04Some (n : Int) (r : Bool) (w : World) (h : smB n = r) : Calls Tryz.prog 77 #[.int .i64 n] w fun e w' => e = .returned (.bool r) ∧ w = w' := by
  go_enter Tryz.func77, Tryz.ntmps77
  go_wp2_with (go_at_call 72; refine (l01InR _ _ _ r _ h).mono ?_; rintro e w1 ⟨rfl, rfl⟩)
  go_ret
  exact ⟨rfl, rfl⟩
theorem isNode (n : Int) (r : Bool) (w : World) (h : ndB n = r) : Calls Tryz.prog 168 #[.int .i64 n] w fun e w' => e = .returned (.bool r) ∧ w = w' := by
  subst h
  by_cases h0 : 0 ≤ n
  · go_enter Tryz.func168, Tryz.ntmps168
    go_wp2
    go_ret
    exact ⟨ret_dec (by omega), rfl⟩
  · go_enter Tryz.func168, Tryz.ntmps168
    go_wp2
    go_ret
    exact ⟨ret_false (by omega), rfl⟩
theorem isSomeAmount (n : Int) (r : Bool) (w : World) (h : smB n = r) : Calls Tryz.prog 74 #[.int .i64 n] w fun e w' => e = .returned (.bool r) ∧ w = w' := by
  subst h
  by_cases h0 : 1 ≤ n
  · go_enter Tryz.func74, Tryz.ntmps74
    go_wp2
    go_ret
    exact ⟨ret_dec (by omega), rfl⟩
  · go_enter Tryz.func74, Tryz.ntmps74
    go_wp2
    go_ret
    exact ⟨ret_false (by omega), rfl⟩
theorem implKeyR (s : ByteArray) (b : Bool) (w : World) (h : keyOk s.data.toList = b) : Calls Tryz.prog 75 #[.string s] w fun e w' => e = .returned (.bool b) ∧ w = w' := by
  rw [← h]
  exact implKeyOk s w
theorem specKeyB (s : ByteArray) (b : Bool) (w : World) (hs : s.size ≤ maxLen) (h : keyOk s.data.toList = b) : Calls Tryz.prog 76 #[.string s] w fun e w' => e = .returned (.bool b) ∧ w = w' := by
  rw [← h]
  exact specKeyOk s w hs
end Go.Proofs.YtikdkijggejnfaaGreatDoor
namespace Go.Proofs.YtikdkijggejnfaaGreatDoor
open Go.RowKit
open Mth

namespace Mth
/-- An operation: kind, number, key, amount, message. -/
structure Op5 where
  K : Int
  no : Int
  k : ByteArray
  n : Int
  m : Mg
def zmB (m : Mg) : Bool := decide (m.K = 0 ∧ m.F = 0 ∧ m.T = 0 ∧ m.I = 0 ∧ m.L = 0 ∧ m.k.toList = [] ∧ m.N = 0)
def opOk (o : Op5) : Bool :=
  if o.K = 0 ∨ o.K = 3 ∨ o.K = 4 then keyOk o.k.data.toList && smB o.n && decide (o.no = 0) && zmB o.m
  else if o.K = 1 then keyOk o.k.data.toList && smB o.n && smB o.no && zmB o.m
  else if o.K = 2 then decide (o.k.toList = []) && decide (o.n = 0) && smB o.no && zmB o.m
  else if o.K = 5 then decide (o.k.toList = []) && decide (o.n = 0) && decide (o.no = 0) && zmB o.m
  else if o.K = 6 then decide (o.k.toList = []) && decide (o.n = 0) && decide (o.no = 0) && mgOk o.m
  else false
end Mth
abbrev opw (o : Op5) : Value := .agg #[.int .i64 o.K, .int .i64 o.no, .string o.k, .int .i64 o.n, .int .i64 o.m.K, .int .i64 o.m.F, .int .i64 o.m.T, .int .i64 o.m.I, .int .i64 o.m.L, .string o.m.k, .int .i64 o.m.N]
end Go.Proofs.YtikdkijggejnfaaGreatDoor
