/-
  What the program's small functions on demand, and its DemandOk, come to, in plain numbers.
-/
import Derived.Test.YtmflajfddjnmhaaDmS
namespace Go.Proofs.Ytmflajfddjnmhaa
open Go.RowKit
open Mth

theorem isAmountD (n : Int) (w : World) : Calls Try.prog 33 #[.int .i64 n] w fun e w' => e = .returned (.bool (decide (Inn n 0 1000000000))) ∧ w = w' := by
  by_cases h1 : 0 ≤ n
  · go_enter Try.func33, Try.ntmps33
    go_wp2
    go_ret
    exact ⟨dm_dec ⟨fun h => ⟨h1, h⟩, fun h => h.2⟩, rfl⟩
  · go_enter Try.func33, Try.ntmps33
    go_wp2
    go_ret
    exact ⟨dm_false (fun h => by have := h.1; omega), rfl⟩
/-- What is at most a bound. -/
def mostOf (n b : Int) : Int := if n > b then b else n
theorem atMostI (n b : Int) (w : World) : Calls Try.prog 34 #[.int .i64 n, .int .i64 b] w fun e w' => e = .returned (.int .i64 (mostOf n b)) ∧ w = w' := by
  by_cases h : n > b
  · have HM := hide (show mostOf n b = b from if_pos h)
    have g : decide (b < n) = true := decide_eq_true h
    go_enter Try.func34, Try.ntmps34
    go_wp2
    go_ret
    exact ⟨dm_int (unhide HM).symm, rfl⟩
  · have HM := hide (show mostOf n b = n from if_neg h)
    have g : decide (b < n) = false := decide_eq_false h
    go_enter Try.func34, Try.ntmps34
    go_wp2
    go_ret
    exact ⟨dm_int (unhide HM).symm, rfl⟩
theorem atMostM (n : Int) (w : World) : Calls Try.prog 34 #[.int .i64 n, .int .i64 1000000000] w fun e w' => e = .returned (.int .i64 (most n)) ∧ w = w' := atMostI n 1000000000 w
theorem excessI (n o : Int) (w : World) (hn : Inn n (-1) 1000000000) (ho : Inn o (-1) 1000000000) : Calls Try.prog 36 #[.int .i64 n, .int .i64 o] w fun e w' => e = .returned (.int .i64 (if n < o then 0 else n - o)) ∧ w = w' := by
  obtain ⟨n0, n1⟩ := hn
  obtain ⟨o0, o1⟩ := ho
  have H := hide (fun w1 => atMostI o n w1)
  have HM := hide (show n - mostOf o n = if n < o then 0 else n - o by unfold mostOf; (repeat' split) <;> omega)
  have hm : -1 ≤ mostOf o n ∧ mostOf o n ≤ 1000000000 := by unfold mostOf; split <;> omega
  generalize (if n < o then 0 else n - o) = r at *
  generalize mostOf o n = x at *
  go_enter Try.func36, Try.ntmps36
  go_wp2_with (go_at_call 34; refine (unhide H _).mono ?_; rintro e w2 ⟨rfl, rfl⟩)
  go_ret
  exact ⟨dm_int (unhide HM), rfl⟩

/-- The next average. -/
def Mth.Dm.next (d : Dm) : Int := if d.C = 0 then 16 * d.O else d.A - d.A / 16 + d.O
set_option maxRecDepth 100000 in
theorem nextAvg (d : Dm) (hd : d.Ok) (w : World) : Calls Try.prog 35 #[dmv d] w fun e w' => e = .returned (.int .i64 d.next) ∧ Below w.heap.size w w' := by
  obtain ⟨A, C, O⟩ := d
  obtain ⟨⟨a0, a1⟩, ⟨c0, c1⟩, o0, o1⟩ := hd
  dsimp only at *
  by_cases h : C = 0
  · subst h
    have HF := hide (show Dm.next ⟨A, 0, O⟩ = 16 * O from if_pos rfl)
    generalize Dm.next ⟨A, 0, O⟩ = r at *
    have HB := hide (fun o => dm_one w o)
    go_enter Try.func35, Try.ntmps35
    go_wp2
    go_ret
    exact ⟨dm_int (unhide HF).symm, unhide HB _⟩
  · have g : (C == 0) = false := by simp [h]
    have HF := hide (show Dm.next ⟨A, C, O⟩ = A - A / 16 + O from if_neg h)
    generalize Dm.next ⟨A, C, O⟩ = r at *
    have HB := hide (fun o => dm_one w o)
    clear h
    go_enter Try.func35, Try.ntmps35
    go_wp2
    go_ret
    exact ⟨dm_int (unhide HF).symm, unhide HB _⟩

set_option maxRecDepth 100000 in
set_option maxHeartbeats 2000000 in
theorem implDemandOk (d : Dm) (w : World) : Calls Try.prog 25 #[dmv d] w fun e w' => e = .returned (.bool (decide d.Ok)) ∧ Below w.heap.size w w' := by
  obtain ⟨A, C, O⟩ := d
  have HB := hide (fun o => dm_one w o)
  have HD := hide (show Dm.Ok ⟨A, C, O⟩ ↔ Inn A 0 16000000000 ∧ Inn C 0 1000000000 ∧ Inn O 0 1000000000 from Iff.rfl)
  by_cases h0 : 0 ≤ A
  · by_cases h1 : A ≤ 16000000000
    · by_cases h2 : Inn C 0 1000000000
      · have g2 := decide_eq_true h2
        have H1 := hide (show Inn A 0 16000000000 from ⟨h0, h1⟩)
        have H2 := hide h2
        clear h2
        go_enter Try.func25, Try.ntmps25
        go_wp2_with (go_at_call 33; refine (isAmountD _ _).mono ?_; rintro e w1 ⟨rfl, rfl⟩)
        go_ret
        exact ⟨dm_dec ⟨fun h => (unhide HD).2 ⟨unhide H1, unhide H2, h⟩, fun h => ((unhide HD).1 h).2.2⟩, unhide HB _⟩
      · have g2 := decide_eq_false h2
        have H2 := hide h2
        clear h2
        go_enter Try.func25, Try.ntmps25
        go_wp2_with (go_at_call 33; refine (isAmountD _ _).mono ?_; rintro e w1 ⟨rfl, rfl⟩)
        go_ret
        exact ⟨dm_false (fun h => unhide H2 ((unhide HD).1 h).2.1), unhide HB _⟩
    · have H1 := hide h1
      have g1 := decide_eq_false h1
      go_enter Try.func25, Try.ntmps25
      go_wp2_with (go_at_call 33; refine (isAmountD _ _).mono ?_; rintro e w1 ⟨rfl, rfl⟩)
      go_ret
      exact ⟨dm_false (fun h => by have := ((unhide HD).1 h).1.2; have := unhide H1; omega), unhide HB _⟩
  · have H1 := hide h0
    have g1 := decide_eq_false h0
    go_enter Try.func25, Try.ntmps25
    go_wp2_with (go_at_call 33; refine (isAmountD _ _).mono ?_; rintro e w1 ⟨rfl, rfl⟩)
    go_ret
    exact ⟨dm_false (fun h => by have := ((unhide HD).1 h).1.1; have := unhide H1; omega), unhide HB _⟩
end Go.Proofs.Ytmflajfddjnmhaa
