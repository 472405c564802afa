/-
  The draws of chapter 1, the rest: texts to be summed, decimal texts, numbers, words, keys: of bounded sizes, whatever they are.
-/
import Derived.Test.YthjpjamihlopeaaDoorDrawTexts
import Derived.Test.YthjpjamihlopeaaDoorDecS
namespace Go.Proofs.YthjpjamihlopeaaDoor
open Go.RowKit

set_option maxRecDepth 100000 in
set_option maxHeartbeats 1000000 in
theorem drawCheckSum (a : Option Addr) (len cap : Nat) (w : World) (hcode : CodeOk w a len) : Calls Tryd.prog 18 #[.slice a len cap] w fun e w' => ∃ t : ByteArray, e = .returned (.string t) ∧ t.size ≤ 2000 ∧ Below w.heap.size w w' := by
  have HC := hide hcode
  clear hcode
  go_enter Tryd.func18, Tryd.ntmps18
  go_wp2_with fail
  refine (l01New a len cap _ (unhide HC).1 (unhide HC).2).mono ?_
  rintro e w1 ⟨rfl, hc1, hb1⟩
  have HC1 := hide hc1
  clear hc1
  go_wp2_with fail
  refine (l01Below _ 40 _ (unhide HC1) (by omega) (by omega)).mono ?_
  rintro e w3 ⟨x, rfl, hx0, hx1, hc3, hk3⟩
  have HC3 := hide hc3
  clear hc3
  go_wp2_with fail
  refine (l01BytesI _ x _ (unhide HC3) hx0 (by omega)).mono ?_
  rintro e w4 ⟨u, rfl, hu, hc4, hk4⟩
  have hu' : u.size ≤ 2000 := by omega
  clear hc4 hu
  go_wp2
  go_ret
  exact ⟨_, rfl, hu', below_then_keeps hb1 (hk3.trans hk4)⟩

def decChoices : List ByteArray := [⟨#[]⟩, ⟨#[45, 49]⟩, ⟨#[48, 48]⟩, ⟨#[48, 49]⟩, ⟨#[49, 120]⟩, ⟨#[57, 57, 57, 57, 57, 57, 57, 57, 57]⟩, ⟨#[49, 48, 48, 48, 48, 48, 48, 48, 48, 48]⟩]
theorem small_of {xs : List ByteArray} {n : Nat} (h : xs.all (fun t => t.size ≤ n) = true) {x : ByteArray} (hx : x ∈ xs) : x.size ≤ n := by
  have := List.all_eq_true.1 h x hx
  simpa using this

set_option maxRecDepth 100000 in
set_option maxHeartbeats 1000000 in
theorem drawReadDec (a : Option Addr) (len cap : Nat) (w : World) (hcode : CodeOk w a len) : Calls Tryd.prog 19 #[.slice a len cap] w fun e w' => ∃ t : ByteArray, e = .returned (.string t) ∧ t.size ≤ 2000 ∧ Below w.heap.size w w' := by
  have HC := hide hcode
  clear hcode
  go_enter Tryd.func19, Tryd.ntmps19
  go_wp2_with fail
  refine (l01New a len cap _ (unhide HC).1 (unhide HC).2).mono ?_
  rintro e w1 ⟨rfl, hc1, hb1⟩
  have HC1 := hide hc1
  clear hc1
  go_wp2_with fail
  refine (l01Once _ 3 _ (unhide HC1) (by omega) (by omega)).mono ?_
  rintro e w2 ⟨b, rfl, hc2, hk2⟩
  have HC2 := hide hc2
  clear hc2
  cases b
  · go_wp2_with fail
    refine (l01Below _ 100000 _ (unhide HC2) (by omega) (by omega)).mono ?_
    rintro e w3 ⟨x, rfl, hx0, hx1, hc3, hk3⟩
    clear hc3
    go_wp2_with fail
    refine (specDec x _ (by omega) (by omega)).mono ?_
    rintro e w4 ⟨rfl, rfl⟩
    have hz : (Lib.itoa x).length ≤ 21 := Lib.itoa_length_le x (by omega) (by omega)
    go_wp2
    go_ret
    exact ⟨_, rfl, by rw [size_of_list]; omega, below_then_keeps hb1 (hk2.trans hk3)⟩
  · go_wp2_with fail
    refine (l01Pick _ w2.heap.size 7 decChoices _ (cur_new (unhide HC2) _) (by have := (unhide HC2).lt; omega) (by decide) (by decide) (fun i hi => lit_strs w2 decChoices _ i hi) (by simp)).mono ?_
    rintro e w3 ⟨x, rfl, hx, hc3, hk3⟩
    have HX := hide (small_of (n := 2000) (by decide) hx)
    clear hc3 hx
    go_wp2
    go_ret
    exact ⟨_, rfl, unhide HX, below_then_keeps hb1 ((hk2.trans (keeps_new _)).trans hk3)⟩

set_option maxRecDepth 100000 in
set_option maxHeartbeats 1000000 in
theorem drawDecText (a : Option Addr) (len cap : Nat) (w : World) (hcode : CodeOk w a len) : Calls Tryd.prog 21 #[.slice a len cap] w fun e w' => ∃ z : Int, e = .returned (.int .i64 z) ∧ -9223372036854775808 ≤ z ∧ z ≤ 9223372036854775807 ∧ Below w.heap.size w w' := by
  have HC := hide hcode
  clear hcode
  go_enter Tryd.func21, Tryd.ntmps21
  go_wp2_with fail
  refine (l01New a len cap _ (unhide HC).1 (unhide HC).2).mono ?_
  rintro e w1 ⟨rfl, hc1, hb1⟩
  have HC1 := hide hc1
  clear hc1
  go_wp2_with fail
  refine (l01Below _ 100000 _ (unhide HC1) (by omega) (by omega)).mono ?_
  rintro e w2 ⟨x, rfl, hx0, hx1, hc2, hk2⟩
  have HC2 := hide hc2
  clear hc2
  go_wp2_with fail
  refine (l01PickInt _ w2.heap.size 6 [0, -1, 10, 9223372036854775807, -9223372036854775808, x] _ (cur_new (unhide HC2) _) (by have := (unhide HC2).lt; omega) (by simp) (by simp) (fun i hi => lit_ints w2 [0, -1, 10, 9223372036854775807, -9223372036854775808, x] _ i hi) (by simp)).mono ?_
  rintro e w3 ⟨z, rfl, hz, hc3, hk3⟩
  have HZ := hide (show -9223372036854775808 ≤ z ∧ z ≤ 9223372036854775807 by
    simp only [List.mem_cons, List.not_mem_nil, or_false] at hz
    omega)
  clear hc3 hz
  go_wp2
  go_ret
  exact ⟨_, rfl, (unhide HZ).1, (unhide HZ).2, below_then_keeps hb1 ((hk2.trans (keeps_new _)).trans hk3)⟩

def keyBad : List ByteArray := [⟨#[]⟩, ⟨#[65]⟩, ⟨#[48, 49, 50, 51, 52, 53, 54, 55, 56, 57]⟩, ⟨#[48, 49, 50, 51, 52, 53, 54, 55, 56, 57, 48]⟩, ⟨#[97, 32, 98]⟩]
def keyGood : List ByteArray := [⟨#[97]⟩, ⟨#[98]⟩, ⟨#[107, 49]⟩]

set_option maxRecDepth 100000 in
set_option maxHeartbeats 1000000 in
theorem l01Key (c : Nat) (w : World) (hc : Cur w c) : Calls Tryd.prog 47 #[.pointer (some ⟨c, 0, none⟩)] w fun e w' => ∃ t : ByteArray, e = .returned (.string t) ∧ t.size ≤ 20 ∧ Cur w' c ∧ Keeps c w w' := by
  have HC := hide hc
  clear hc
  go_enter Tryd.func47, Tryd.ntmps47
  go_wp2_with fail
  refine (l01Once c 16 _ (unhide HC) (by omega) (by omega)).mono ?_
  rintro e w1 ⟨b, rfl, hc1, hk1⟩
  have HC1 := hide hc1
  clear hc1
  cases b
  · go_wp2_with fail
    refine (l01Pick c w1.heap.size 3 keyGood _ (cur_new (unhide HC1) _) (by have := (unhide HC1).lt; omega) (by decide) (by decide) (fun i hi => lit_strs w1 keyGood _ i hi) (by simp)).mono ?_
    rintro e w2 ⟨x, rfl, hx, hc2, hk2⟩
    have HX := hide (small_of (n := 20) (by decide) hx)
    have HC2 := hide hc2
    clear hc2 hx
    go_wp2
    go_ret
    exact ⟨_, rfl, unhide HX, unhide HC2, (hk1.trans (keeps_new _)).trans hk2⟩
  · go_wp2_with fail
    refine (l01Pick c w1.heap.size 5 keyBad _ (cur_new (unhide HC1) _) (by have := (unhide HC1).lt; omega) (by decide) (by decide) (fun i hi => lit_strs w1 keyBad _ i hi) (by simp)).mono ?_
    rintro e w2 ⟨x, rfl, hx, hc2, hk2⟩
    have HX := hide (small_of (n := 20) (by decide) hx)
    have HC2 := hide hc2
    clear hc2 hx
    go_wp2
    go_ret
    exact ⟨_, rfl, unhide HX, unhide HC2, (hk1.trans (keeps_new _)).trans hk2⟩

set_option maxRecDepth 100000 in
set_option maxHeartbeats 1000000 in
theorem drawKeyOk (a : Option Addr) (len cap : Nat) (w : World) (hcode : CodeOk w a len) : Calls Tryd.prog 23 #[.slice a len cap] w fun e w' => ∃ t : ByteArray, e = .returned (.string t) ∧ t.size ≤ 20 ∧ Below w.heap.size w w' := by
  have HC := hide hcode
  clear hcode
  go_enter Tryd.func23, Tryd.ntmps23
  go_wp2_with fail
  refine (l01New a len cap _ (unhide HC).1 (unhide HC).2).mono ?_
  rintro e w1 ⟨rfl, hc1, hb1⟩
  have HC1 := hide hc1
  clear hc1
  go_wp2_with fail
  refine (l01Key _ _ (unhide HC1)).mono ?_
  rintro e w2 ⟨t, rfl, ht, hc2, hk2⟩
  clear hc2
  go_wp2
  go_ret
  exact ⟨_, rfl, ht, below_then_keeps hb1 hk2⟩

def wordChoices : List ByteArray := [⟨#[97]⟩, ⟨#[32]⟩, ⟨#[98, 99]⟩, ⟨#[32]⟩, ⟨#[]⟩]

set_option maxRecDepth 100000 in
set_option maxHeartbeats 1000000 in
theorem drawWords (a : Option Addr) (len cap : Nat) (w : World) (hcode : CodeOk w a len) : Calls Tryd.prog 22 #[.slice a len cap] w fun e w' => ∃ t : ByteArray, e = .returned (.string t) ∧ t.size ≤ 2000 ∧ Below w.heap.size w w' := by
  have HC := hide hcode
  clear hcode
  go_enter Tryd.func22, Tryd.ntmps22
  go_wp2_with fail
  refine (l01New a len cap _ (unhide HC).1 (unhide HC).2).mono ?_
  rintro e w1 ⟨rfl, hc1, hb1⟩
  have HC1 := hide hc1
  clear hc1
  go_wp2_with fail
  refine (l01Below _ 6 _ (unhide HC1) (by omega) (by omega)).mono ?_
  rintro e w2 ⟨x, rfl, hx0, hx1, hc2, hk2⟩
  have HC2 := hide hc2
  have HK2 := hide hk2
  clear hc2 hk2
  obtain ⟨n, rfl⟩ := Int.eq_ofNat_of_zero_le hx0
  have hn : n < 6 := by omega
  clear hx0 hx1
  go_wp2_with fail
  go_loopw [4, 6] (fun o i wr => ∃ (j : Nat) (t : ByteArray), j ≤ n ∧ i = .int .i64 j ∧ o = .string t ∧ t.size ≤ 2 * j ∧ Cur wr w.heap.size ∧ Keeps w.heap.size w1 wr) (fun _ i _ => n - (intOf i).toNat)
  case atStart => exact ⟨0, _, Nat.zero_le _, rfl, rfl, by decide, unhide HC2, unhide HK2⟩
  case round =>
    obtain ⟨j, t, hj, rfl, rfl, ht, hcr, hkr⟩ := hrel
    have HCR := hide hcr
    have HKR := hide hkr
    clear hcr hkr
    by_cases hlt : j < n
    · go_wp2_with fail
      refine (l01Pick _ wr.heap.size 5 wordChoices _ (cur_new (unhide HCR) _) (by have := (unhide HCR).lt; omega) (by decide) (by decide) (fun i hi => lit_strs wr wordChoices _ i hi) (by simp)).mono ?_
      rintro e w3 ⟨y, rfl, hy, hc3, hk3⟩
      have hy2 : y.size ≤ 2 := small_of (n := 2) (by decide) hy
      have HC3 := hide hc3
      have HK3 := hide (((unhide HKR).trans (keeps_new _)).trans hk3)
      clear hc3 hk3 hy
      go_wp2
      go_roundw
      case rel => exact ⟨j + 1, t ++ y, by omega, by go_num, rfl, by rw [ByteArray.size_append]; omega, unhide HC3, unhide HK3⟩
      case measure => simp [intOf]; omega
    · go_wp2
      go_ret
      exact ⟨_, rfl, by omega, below_then_keeps hb1 (unhide HKR)⟩
end Go.Proofs.YthjpjamihlopeaaDoor
