/-
  What the program's Fill comes to, in plain numbers.
-/
import Derived.Test.YthjpjamihlopeaaBkKind
import Derived.Deep.QuietTactic
import Derived.BigQuiet
namespace Go.Proofs.Ythjpjamihlopeaa
open Go.RowKit
open Mth

set_option maxRecDepth 100000 in
set_option maxHeartbeats 1000000 in
theorem canBeAt (b : Bk) (n : Int) (w : World) : Calls Try.prog 39 #[bkv b, .int .i64 n] w fun e w' => e = .returned (.bool (decide (b.Can n))) ∧ Below w.heap.size w w' := by
  obtain ⟨S, R, P, H, T, L⟩ := b
  have K0 := hide (kind_zero (b := ⟨S, R, P, H, T, L⟩))
  have K1 := hide (show Bk.Ok ⟨S, R, P, H, T, L⟩ → kindOf ⟨S, R, P, H, T, L⟩ ≠ 0 by
    intro h
    unfold kindOf
    rw [if_pos h]
    split
    · split <;> omega
    · omega)
  have HK := hide (fun w1 => kind ⟨S, R, P, H, T, L⟩ w1)
  generalize kindOf ⟨S, R, P, H, T, L⟩ = k at *
  by_cases h0 : Bk.Ok ⟨S, R, P, H, T, L⟩
  · have h1 : (k != 0) = true := by have := unhide K1 h0; simpa using this
    have HO := hide h0
    clear h0
    by_cases h2 : L ≤ n
    · go_enter Try.func39, Try.ntmps39
      go_wp2_with (go_at_call 42; refine (unhide HK _).mono ?_; rintro e w1 ⟨rfl, hb1⟩; obtain ⟨c0, c1, c2, c3, c4, c5, cf, cs, cb⟩ := bk6 hb1; clear hb1)
      go_ret
      exact ⟨ret_dec (p := n ≤ 1000000000) (q := Bk.Can ⟨S, R, P, H, T, L⟩ n) ⟨fun h => ⟨unhide HO, h2, h⟩, fun h => h.2.2⟩, cb⟩
    · go_enter Try.func39, Try.ntmps39
      go_wp2_with (go_at_call 42; refine (unhide HK _).mono ?_; rintro e w1 ⟨rfl, hb1⟩; obtain ⟨c0, c1, c2, c3, c4, c5, cf, cs, cb⟩ := bk6 hb1; clear hb1)
      go_ret
      exact ⟨ret_false (fun h => absurd h.2.1 (by dsimp only; omega)), cb⟩
  · have h1 := unhide K0 h0
    subst h1
    have HO := hide h0
    clear h0
    go_enter Try.func39, Try.ntmps39
    go_wp2_with (go_at_call 42; refine (unhide HK _).mono ?_; rintro e w1 ⟨rfl, hb1⟩; obtain ⟨c0, c1, c2, c3, c4, c5, cf, cs, cb⟩ := bk6 hb1; clear hb1)
    go_ret
    exact ⟨ret_false (fun h => unhide HO h.1), cb⟩

set_option maxRecDepth 100000 in
set_option maxHeartbeats 1000000 in
theorem filled (b : Bk) (n : Int) (w : World) (h : b.Can n) : Calls Try.prog 40 #[bkv b, .int .i64 n] w fun e w' => e = .returned (bkv (b.fill n)) ∧ Below w.heap.size w w' := by
  have h1 := rate_bound h
  have h2 := parts_bound h
  have h3 := div_bound (b.parts n) b.P h2.1 h.1.2.2.2.2.1
  obtain ⟨S, R, P, H, T, L⟩ := b
  have hF : Hid (Bk.fill ⟨S, R, P, H, T, L⟩ n = if S ≤ H + (R * (n - L) + T) / P then ⟨S, R, P, S, 0, n⟩ else ⟨S, R, P, H + (R * (n - L) + T) / P, (R * (n - L) + T) % P, n⟩) := rfl
  unfold Bk.Can Bk.Ok at h
  unfold Bk.parts at *
  dsimp only at *
  have h2' := hide h2
  have h3' := hide h3
  clear h2 h3
  go_enter Try.func40, Try.ntmps40
  go_wp2_with fail
  have h2 := unhide h2'
  have h3 := unhide h3'
  clear h2' h3'
  have e1 : T + R * (n - L) = R * (n - L) + T := by omega
  rw [e1]
  generalize R * (n - L) + T = Y at *
  have hP0 : P ≠ 0 := by omega
  have hdv : Y.tdiv P = Y / P := Int.tdiv_eq_ediv_of_nonneg h2.1
  have hdm : Y.tmod P = Y % P := Int.tmod_eq_emod_of_nonneg h2.1
  by_cases hS : S ≤ H + Y / P
  · have HF := hide ((unhide hF).trans (if_pos hS))
    clear hF
    go_region
    all_goals
      go_wp2_with fail
      refine bodyPost_ret (v := .agg #[.int .i64 S, .int .i64 R, .int .i64 P, .int .i64 S, .int .i64 0, .int .i64 n]) (by simp [results, Try.results40, go_sem]) rfl ⟨by rw [unhide HF], ?_⟩
      exact (((Below.refl _ _).alloc (Nat.le_refl _) _).alloc (by simp) _).drew
  · have HF := hide ((unhide hF).trans (if_neg hS))
    clear hF
    go_region
    all_goals
      go_wp2_with fail
      refine bodyPost_ret (v := .agg #[.int .i64 S, .int .i64 R, .int .i64 P, .int .i64 (H + Y / P), .int .i64 (Y % P), .int .i64 n]) (by simp [results, Try.results40, go_sem]) rfl ⟨by rw [unhide HF], ?_⟩
      exact (((Below.refl _ _).alloc (Nat.le_refl _) _).alloc (by simp) _).drew

set_option maxRecDepth 100000 in
set_option maxHeartbeats 1000000 in
theorem implFill (b : Bk) (n : Int) (w : World) : Calls Try.prog 12 #[bkv b, .int .i64 n] w fun e w' => e = .returned (bkv (b.fillAny n)) ∧ Below w.heap.size w w' := by
  by_cases hc : b.Can n
  · have HF := hide (show b.fillAny n = b.fill n from if_pos hc)
    have g1 : decide (b.Can n) = true := decide_eq_true hc
    have HC := hide hc
    clear hc
    obtain ⟨S, R, P, H, T, L⟩ := b
    go_enter Try.func12, Try.ntmps12
    go_wp2_with fail
    refine (canBeAt ⟨S, R, P, H, T, L⟩ n _).mono ?_
    rintro e w1 ⟨rfl, hb1⟩
    obtain ⟨hA, hB, hz, hbw⟩ := two_blocks hb1
    obtain ⟨⟨c0, c1, c2, c3, c4, c5⟩, _⟩ := six_at hA
    clear hb1 hA
    go_wp2_with fail
    refine (filled ⟨S, R, P, H, T, L⟩ n _ (unhide HC)).mono ?_
    rintro e w2 ⟨rfl, hb2⟩
    have hB2 := hide ((hb2.block _ hz).trans hB)
    obtain ⟨⟨d0, d1, d2, d3, d4, d5⟩, f0, f1, f2, f3, f4, f5⟩ := six_at (unhide hB2)
    have hbw2 := hbw.trans (hb2.mono hbw.size)
    clear hb2 hB hbw c0 c1 c2 c3 c4 c5
    generalize Bk.fill ⟨S, R, P, H, T, L⟩ n = b' at *
    obtain ⟨S', R', P', H', T', L'⟩ := b'
    go_wp2_with fail
    refine bodyPost_at (fun W' hW' => ?_)
    obtain ⟨⟨r0, r1, r2, r3, r4, r5⟩, _⟩ := six_at (show W'.heap[w.heap.size + 1]? = some (.cells #[.int .i64 S', .int .i64 R', .int .i64 P', .int .i64 H', .int .i64 T', .int .i64 L'] 25 (0, 0)) by rw [hW']; exact six_set (unhide hB2))
    have hbb : Below w.heap.size w W' := by rw [hW']; exact six_below hbw2 (by omega)
    refine bodyPost_ret (v := .agg #[.int .i64 S', .int .i64 R', .int .i64 P', .int .i64 H', .int .i64 T', .int .i64 L']) (by simp [results, Try.results12, go_sem, r0, r1, r2, r3, r4, r5]) rfl ⟨by rw [unhide HF], hbb⟩
  · have HF := hide (show b.fillAny n = b from if_neg hc)
    have g1 : decide (b.Can n) = false := decide_eq_false hc
    clear hc
    obtain ⟨S, R, P, H, T, L⟩ := b
    go_enter Try.func12, Try.ntmps12
    go_wp2_with fail
    refine (canBeAt ⟨S, R, P, H, T, L⟩ n _).mono ?_
    rintro e w1 ⟨rfl, hb1⟩
    obtain ⟨hA, hB, hz, hbw⟩ := two_blocks hb1
    obtain ⟨⟨c0, c1, c2, c3, c4, c5⟩, _⟩ := six_at hA
    obtain ⟨⟨d0, d1, d2, d3, d4, d5⟩, f0, f1, f2, f3, f4, f5⟩ := six_at hB
    have hB2 := hide hB
    clear hb1 hA hB
    go_wp2_with fail
    refine bodyPost_at (fun W' hW' => ?_)
    obtain ⟨⟨r0, r1, r2, r3, r4, r5⟩, _⟩ := six_at (show W'.heap[w.heap.size + 1]? = some (.cells #[.int .i64 S, .int .i64 R, .int .i64 P, .int .i64 H, .int .i64 T, .int .i64 L] 25 (0, 0)) by rw [hW']; exact six_set (unhide hB2))
    have hbb : Below w.heap.size w W' := by rw [hW']; exact six_below hbw (by omega)
    refine bodyPost_ret (v := .agg #[.int .i64 S, .int .i64 R, .int .i64 P, .int .i64 H, .int .i64 T, .int .i64 L]) (by simp [results, Try.results12, go_sem, r0, r1, r2, r3, r4, r5]) rfl ⟨by rw [unhide HF], hbb⟩
end Go.Proofs.Ythjpjamihlopeaa
