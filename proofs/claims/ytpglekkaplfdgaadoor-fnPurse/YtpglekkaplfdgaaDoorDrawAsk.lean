/-
  What is drawn for the laws on purses: a list of them, a key, a number.
-/
import Derived.Test.YtpglekkaplfdgaaDoorDrawPurses
namespace Go.Proofs.YtpglekkaplfdgaaDoor
open Go.RowKit
open Mth

theorem bigNo (a : Option Addr) (len cap : Nat) (w : World) (h : len ≤ 1048576) : Calls Tryd.prog 9 #[.slice a len cap] w fun e w' => e = .returned (.bool false) ∧ w = w' := by
  go_enter Tryd.func9, Tryd.ntmps9
  go_wp2
  go_ret
  exact ⟨by simp; omega, rfl⟩
theorem bigYes (a : Option Addr) (len cap : Nat) (w : World) (h : 1048576 < len) : Calls Tryd.prog 9 #[.slice a len cap] w fun e w' => e = .returned (.bool true) ∧ w = w' := by
  go_enter Tryd.func9, Tryd.ntmps9
  go_wp2
  go_ret
  exact ⟨by simp; omega, rfl⟩
abbrev keyBad : List ByteArray := [⟨#[]⟩, ⟨#[65]⟩, ⟨#[48, 49, 50, 51, 52, 53, 54, 55, 56, 57]⟩, ⟨#[48, 49, 50, 51, 52, 53, 54, 55, 56, 57, 48]⟩, ⟨#[97, 32, 98]⟩]
theorem keyBad_size : ∀ x ∈ keyBad, x.size ≤ 20 := by decide

set_option maxRecDepth 100000 in
set_option maxHeartbeats 1000000 in
theorem l01Key (c : Nat) (w : World) (hc : Cur w c) : Calls Tryd.prog 47 #[.pointer (some ⟨c, 0, none⟩)] w fun e w' => ∃ t : ByteArray, e = .returned (.string t) ∧ t.size ≤ 20 ∧ Cur w' c ∧ Keeps c w w' := by
  have HC := hide hc
  clear hc
  go_enter Tryd.func47, Tryd.ntmps47
  go_wp2_with fail
  refine (l01Once c 16 _ (unhide HC) (by omega) (by omega)).mono ?_
  rintro e w1 ⟨b, rfl, hc1, hk1⟩
  have HC1 := hide hc1
  clear hc1
  cases b
  · go_wp2_with fail
    refine (l01Pick c w1.heap.size 3 puKeys _ (cur_new (unhide HC1) _) (by have := (unhide HC1).lt; omega) (by decide) (by decide) (fun i hi => lit_strs w1 puKeys _ i hi) (by simp)).mono ?_
    rintro e w2 ⟨x, rfl, hx, hc2, hk2⟩
    have HX := hide (puKeys_size x hx)
    have HC2 := hide hc2
    clear hc2 hx
    go_wp2
    go_ret
    exact ⟨_, rfl, Nat.le_trans (unhide HX) (by omega), unhide HC2, (hk1.trans (keeps_new _)).trans hk2⟩
  · go_wp2_with fail
    refine (l01Pick c w1.heap.size 5 keyBad _ (cur_new (unhide HC1) _) (by have := (unhide HC1).lt; omega) (by decide) (by decide) (fun i hi => lit_strs w1 keyBad _ i hi) (by simp)).mono ?_
    rintro e w2 ⟨x, rfl, hx, hc2, hk2⟩
    have HX := hide (keyBad_size x hx)
    have HC2 := hide hc2
    clear hc2 hx
    go_wp2
    go_ret
    exact ⟨_, rfl, unhide HX, unhide HC2, (hk1.trans (keeps_new _)).trans hk2⟩

/-- What is drawn. -/
def DrawsP (w : World) (e : Ending) (w' : World) : Prop := ∃ (g cap : Nat) (l : List Pu) (key : ByteArray) (n : Int), e = .returned (.tuple #[.slice (some ⟨g, 0, none⟩) l.length cap, .string key, .int .i64 n]) ∧ l.length ≤ 30 ∧ l.length ≤ cap ∧ (∀ p ∈ l, p.k.size ≤ 100) ∧ key.size ≤ 20 ∧ PursesAt w' (some ⟨g, 0, none⟩) l ∧ Below w.heap.size w w'
abbrev askNs : List Int := [1, 3, 5, 20, 0, -1, 1000000000, 1000000001, -9223372036854775808]

set_option maxRecDepth 100000 in
set_option maxHeartbeats 2000000 in
theorem l03Asked (a : Option Addr) (len cap : Nat) (w : World) (hcode : CodeOk w a len) : Calls Tryd.prog 33 #[.slice a len cap] w (DrawsP w) := by
  have HN := hide (l01New a len cap w hcode.1 hcode.2)
  unfold DrawsP
  clear hcode
  go_enter Tryd.func33, Tryd.ntmps33
  go_wp2_with fail
  refine (unhide HN).mono ?_
  rintro e w1 ⟨rfl, hc1, hb1⟩
  have HC1 := hide hc1
  have HB1 := hide hb1
  clear hc1 hb1 HN
  go_wp2_with fail
  refine (l03Purses _ _ (unhide HC1)).mono ?_
  rintro e w2 ⟨v, l, rfl, hl, hPR⟩
  obtain ⟨g, cp, rfl, hcp, _, _, _⟩ := hPR.form
  have HP2 := hide hPR
  clear hPR
  go_wp2_with fail
  refine (l01Key _ _ (unhide HP2).cur).mono ?_
  rintro e w3 ⟨key, rfl, hkey, hc3, hk3⟩
  have HP3 := hide ((unhide HP2).draw hc3 hk3)
  clear hc3 hk3 HP2
  go_wp2_with fail
  refine (l01PickInt w.heap.size w3.heap.size 9 askNs _ (cur_new (unhide HP3).cur _) (by have := (unhide HP3).cur.lt; omega) (by decide) (by decide) (fun i hi => lit_ints w3 askNs _ i hi) (by simp)).mono ?_
  rintro e w4 ⟨n, rfl, _, hc4, hk4⟩
  have HP4 := hide (((unhide HP3).grow (below_one' w3 _)).draw hc4 hk4)
  clear hc4 hk4 HP3
  go_wp2_with fail
  exact bodyPost_ret (v := .tuple #[.slice (some ⟨g, 0, none⟩) l.length cp, .string key, .int .i64 n]) (by simp [results, Tryd.results33, go_sem]) rfl ⟨g, cp, l, key, n, rfl, hl, hcp, (unhide HP4).keys, hkey, (unhide HP4).form_at, below_then_keeps (unhide HB1) (unhide HP4).keeps⟩

set_option maxRecDepth 100000 in
set_option maxHeartbeats 1000000 in
theorem drawSpend (a : Option Addr) (len cap : Nat) (w : World) (hcode : CodeOk w a len) : Calls Tryd.prog 10 #[.slice a len cap] w (DrawsP w) := by
  have H := hide (l03Asked a len cap w hcode)
  unfold DrawsP at *
  clear hcode
  go_enter Tryd.func10, Tryd.ntmps10
  go_wp2_with fail
  refine (unhide H).mono ?_
  rintro e w1 ⟨g, cp, l, key, n, rfl, h1, h2, h3, h4, h5, h6⟩
  have HS := hide (show l.length ≤ 30 ∧ l.length ≤ cp ∧ (∀ p ∈ l, p.k.size ≤ 100) ∧ key.size ≤ 20 ∧ PursesAt w1 (some ⟨g, 0, none⟩) l ∧ Below w.heap.size w w1 from ⟨h1, h2, h3, h4, h5, h6⟩)
  clear h1 h2 h3 h4 h5 h6
  go_wp2_with fail
  exact bodyPost_ret (v := .tuple #[.slice (some ⟨g, 0, none⟩) l.length cp, .string key, .int .i64 n]) (by simp [results, Tryd.results10, go_sem]) rfl ⟨g, cp, l, key, n, rfl, unhide HS⟩
end Go.Proofs.YtpglekkaplfdgaaDoor
