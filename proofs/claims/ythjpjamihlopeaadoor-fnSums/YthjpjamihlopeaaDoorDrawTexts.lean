/-
  The draws of chapter 1, further: a text with a number in it, a text, a text with a text in it.
-/
import Derived.Test.YthjpjamihlopeaaDoorDrawNums
namespace Go.Proofs.YthjpjamihlopeaaDoor
open Go.RowKit

theorem size1 (b : UInt8) : (ByteArray.mk #[b]).size = 1 := rfl
theorem l01BytesI (c : Nat) (n : Int) (w : World) (hc : Cur w c) (h0 : 0 ≤ n) (hm : n ≤ 2000) :
    Calls Tryd.prog 38 #[.pointer (some ⟨c, 0, none⟩), .int .i64 n] w fun e w' => ∃ t : ByteArray, e = .returned (.string t) ∧ (t.size : Int) = n ∧ Cur w' c ∧ Keeps c w w' := by
  obtain ⟨m, rfl⟩ := Int.eq_ofNat_of_zero_le h0
  exact (l01Bytes c m w hc (by omega)).mono fun e w' ⟨t, he, hz, hc', hk⟩ => ⟨t, he, by omega, hc', hk⟩
theorem specPutNumAny (z : Int) (w : World) : Calls Tryd.prog 16 #[.int .i64 z] w fun e w' => ∃ t : ByteArray, e = .returned (.string t) ∧ t.size ≤ 6 ∧ Below w.heap.size w w' := by
  by_cases h : 0 ≤ z ∧ z ≤ 4000000000
  · exact (specPutNumI z w h.1 h.2).mono fun e w' ⟨he, hb⟩ => ⟨_, he, by rw [size_of_list]; exact Mth.put_length _, hb⟩
  · exact (specPutNum_none z w (by omega)).mono fun e w' ⟨he, hb⟩ => ⟨_, he, by decide, hb ▸ Below.refl _ _⟩
theorem specPutTextAny (s : ByteArray) (w : World) (hs : s.size ≤ 1000) : Calls Tryd.prog 17 #[.string s] w fun e w' => ∃ t : ByteArray, e = .returned (.string t) ∧ t.size ≤ 6 + s.size ∧ Below w.heap.size w w' :=
  (specPutText s w hs).mono fun e w' ⟨he, hb⟩ => ⟨_, he, by unfold putText; rw [size_of_list, List.length_append, size_toList]; have := Mth.put_length s.size; omega, hb⟩

set_option maxRecDepth 100000 in
set_option maxHeartbeats 1000000 in
theorem drawGetNum (a : Option Addr) (len cap : Nat) (w : World) (hcode : CodeOk w a len) : Calls Tryd.prog 8 #[.slice a len cap] w fun e w' => ∃ (t : ByteArray) (i : Int), e = .returned (.tuple #[.string t, .int .i64 i]) ∧ t.size ≤ 2000 ∧ -1 ≤ i ∧ i ≤ 9 ∧ Below w.heap.size w w' := by
  have HC := hide hcode
  clear hcode
  go_enter Tryd.func8, Tryd.ntmps8
  go_wp2_with fail
  refine (l01New a len cap _ (unhide HC).1 (unhide HC).2).mono ?_
  rintro e w1 ⟨rfl, hc1, hb1⟩
  have HC1 := hide hc1
  clear hc1
  go_wp2_with fail
  refine (l01Num _ _ (unhide HC1)).mono ?_
  rintro e w2 ⟨z, rfl, hz0, hz1, hc2, hk2⟩
  have HC2 := hide hc2
  clear hc2 hz0 hz1
  go_wp2_with fail
  refine (specPutNumAny z _).mono ?_
  rintro e w3 ⟨t, rfl, ht, hb3⟩
  have HC3 := hide ((unhide HC2).keep_below hb3)
  have hk3 : Keeps w.heap.size w2 w3 := Keeps.of_below hb3
  go_wp2_with fail
  refine (l01Once _ 3 _ (unhide HC3) (by omega) (by omega)).mono ?_
  rintro e w4 ⟨b, rfl, hc4, hk4⟩
  have HC4 := hide hc4
  clear hc4
  cases b
  · go_wp2
    go_ret2
    refine ⟨_, _, rfl, ?_, by omega, by omega, below_then_keeps hb1 ((hk2.trans hk3).trans hk4)⟩
    rw [ByteArray.size_append, ByteArray.size_append, size1, size1]; omega
  · go_wp2_with fail
    refine (l01Below _ 7 _ (unhide HC4) (by omega) (by omega)).mono ?_
    rintro e w5 ⟨x, rfl, hx0, hx1, hc5, hk5⟩
    have HC5 := hide hc5
    clear hc5
    go_wp2_with fail
    refine (l01BytesI _ x _ (unhide HC5) hx0 (by omega)).mono ?_
    rintro e w6 ⟨u, rfl, hu, hc6, hk6⟩
    have HC6 := hide hc6
    have hu' : u.size ≤ 2000 := by omega
    clear hc6 hu
    go_wp2_with fail
    refine (l01PickInt _ w6.heap.size 4 [0, 1, -1, 9] _ (cur_new (unhide HC6) _) (by have := (unhide HC6).lt; omega) (by decide) (by decide) (fun i hi => lit_ints w6 [0, 1, -1, 9] _ i hi) (by simp)).mono ?_
    rintro e w7 ⟨i, rfl, hi, hc7, hk7⟩
    have HZ := hide (show -1 ≤ i ∧ i ≤ 9 by
      simp only [List.mem_cons, List.not_mem_nil, or_false] at hi
      omega)
    clear hc7 hi
    go_wp2
    go_ret2
    exact ⟨_, _, rfl, hu', (unhide HZ).1, (unhide HZ).2, below_then_keeps hb1 ((((((hk2.trans hk3).trans hk4).trans hk5).trans hk6).trans (keeps_new _)).trans hk7)⟩

set_option maxRecDepth 100000 in
set_option maxHeartbeats 1000000 in
theorem drawPutText (a : Option Addr) (len cap : Nat) (w : World) (hcode : CodeOk w a len) : Calls Tryd.prog 11 #[.slice a len cap] w fun e w' => ∃ t : ByteArray, e = .returned (.string t) ∧ t.size ≤ 2000 ∧ Below w.heap.size w w' := by
  have HC := hide hcode
  clear hcode
  go_enter Tryd.func11, Tryd.ntmps11
  go_wp2_with fail
  refine (l01New a len cap _ (unhide HC).1 (unhide HC).2).mono ?_
  rintro e w1 ⟨rfl, hc1, hb1⟩
  have HC1 := hide hc1
  clear hc1
  go_wp2_with fail
  refine (l01Once _ 20 _ (unhide HC1) (by omega) (by omega)).mono ?_
  rintro e w2 ⟨b, rfl, hc2, hk2⟩
  have HC2 := hide hc2
  clear hc2
  cases b
  · go_wp2_with fail
    refine (l01Below _ 20 _ (unhide HC2) (by omega) (by omega)).mono ?_
    rintro e w3 ⟨x, rfl, hx0, hx1, hc3, hk3⟩
    have HC3 := hide hc3
    clear hc3
    go_wp2_with fail
    refine (l01BytesI _ x _ (unhide HC3) hx0 (by omega)).mono ?_
    rintro e w4 ⟨u, rfl, hu, hc4, hk4⟩
    have hu' : u.size ≤ 2000 := by omega
    clear hc4 hu
    go_wp2
    go_ret
    exact ⟨_, rfl, hu', below_then_keeps hb1 ((hk2.trans hk3).trans hk4)⟩
  · go_wp2_with fail
    refine (l01Below _ 2 _ (unhide HC2) (by omega) (by omega)).mono ?_
    rintro e w3 ⟨x, rfl, hx0, hx1, hc3, hk3⟩
    have HC3 := hide hc3
    clear hc3
    go_wp2_with fail
    refine (l01BytesI _ (1000 + x) _ (unhide HC3) (by omega) (by omega)).mono ?_
    rintro e w4 ⟨u, rfl, hu, hc4, hk4⟩
    have hu' : u.size ≤ 2000 := by omega
    clear hc4 hu
    go_wp2
    go_ret
    exact ⟨_, rfl, hu', below_then_keeps hb1 ((hk2.trans hk3).trans hk4)⟩

set_option maxRecDepth 100000 in
set_option maxHeartbeats 1000000 in
theorem drawGetText (a : Option Addr) (len cap : Nat) (w : World) (hcode : CodeOk w a len) : Calls Tryd.prog 13 #[.slice a len cap] w fun e w' => ∃ (t : ByteArray) (i : Int), e = .returned (.tuple #[.string t, .int .i64 i]) ∧ t.size ≤ 2000 ∧ -1 ≤ i ∧ i ≤ 9 ∧ Below w.heap.size w w' := by
  have HC := hide hcode
  clear hcode
  go_enter Tryd.func13, Tryd.ntmps13
  go_wp2_with fail
  refine (l01New a len cap _ (unhide HC).1 (unhide HC).2).mono ?_
  rintro e w1 ⟨rfl, hc1, hb1⟩
  have HC1 := hide hc1
  clear hc1
  go_wp2_with fail
  refine (l01Below _ 6 _ (unhide HC1) (by omega) (by omega)).mono ?_
  rintro e w2 ⟨x, rfl, hx0, hx1, hc2, hk2⟩
  have HC2 := hide hc2
  clear hc2
  go_wp2_with fail
  refine (l01BytesI _ x _ (unhide HC2) hx0 (by omega)).mono ?_
  rintro e w3 ⟨u, rfl, hu, hc3, hk3⟩
  have HC3 := hide hc3
  have hu' : u.size ≤ 6 := by omega
  clear hc3 hu
  go_wp2_with fail
  refine (specPutTextAny u _ (by omega)).mono ?_
  rintro e w4 ⟨t, rfl, ht, hb4⟩
  have HC4 := hide ((unhide HC3).keep_below hb4)
  have hk4 : Keeps w.heap.size w3 w4 := Keeps.of_below hb4
  have ht' : t.size ≤ 12 := by omega
  go_wp2_with fail
  refine (l01Once _ 3 _ (unhide HC4) (by omega) (by omega)).mono ?_
  rintro e w5 ⟨b, rfl, hc5, hk5⟩
  have HC5 := hide hc5
  clear hc5
  generalize hS : (ByteArray.mk #[120] ++ t ++ ByteArray.mk #[121]) = S
  have hSs : S.size ≤ 20 := by rw [← hS, ByteArray.size_append, ByteArray.size_append, size1, size1]; omega
  have HSS := hide hS
  clear hS
  cases b
  · go_wp2_with fail
    refine (l01PickInt _ w5.heap.size 5 [1, 1, 0, 2, -1] _ (cur_new (unhide HC5) _) (by have := (unhide HC5).lt; omega) (by decide) (by decide) (fun i hi => lit_ints w5 [1, 1, 0, 2, -1] _ i hi) (by simp)).mono ?_
    rintro e w6 ⟨i, rfl, hi, hc6, hk6⟩
    have HZ := hide (show -1 ≤ i ∧ i ≤ 9 by
      simp only [List.mem_cons, List.not_mem_nil, or_false] at hi
      omega)
    clear hc6 hi
    go_wp2
    go_ret2
    exact ⟨_, _, rfl, by omega, (unhide HZ).1, (unhide HZ).2, below_then_keeps hb1 (((((hk2.trans hk3).trans hk4).trans hk5).trans (keeps_new _)).trans hk6)⟩
  · go_wp2_with fail
    refine (l01Below _ _ _ (unhide HC5) (by omega) (by omega)).mono ?_
    rintro e w6 ⟨y, rfl, hy0, hy1, hc6, hk6⟩
    have hy2 : y ≤ (S.size : Int) := by omega
    clear hc6
    go_wp2
    go_ret2
    refine ⟨_, _, rfl, ?_, by omega, by omega, below_then_keeps hb1 ((((hk2.trans hk3).trans hk4).trans hk5).trans hk6)⟩
    rw [ByteArray.size_extract]; omega
end Go.Proofs.YthjpjamihlopeaaDoor
