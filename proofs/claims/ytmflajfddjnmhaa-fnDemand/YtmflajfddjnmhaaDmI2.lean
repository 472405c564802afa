/-
  What the program's Forecast, Lack and Surplus come to, in plain numbers.
-/
import Derived.Test.YtmflajfddjnmhaaDmI
namespace Go.Proofs.Ytmflajfddjnmhaa
open Go.RowKit
open Go.WideShapes
open Mth

set_option maxRecDepth 100000 in
set_option maxHeartbeats 2000000 in
theorem implForecast (d : Dm) (t : Int) (w : World) : Calls Try.prog 21 #[dmv d, .int .i64 t] w fun e w' => e = .returned (.int .i64 (d.fore t)) ∧ Below w.heap.size w w' := by
  have HK := hide (fun w1 => implDemandOk d w1)
  by_cases h0 : d.Ok
  · have g0 : decide d.Ok = true := decide_eq_true h0
    rw [g0] at HK
    by_cases h1 : Inn t 0 1000
    · have t0 := h1.1
      have t1 := h1.2
      have HF := hide (show d.fore t = most ((d.A * t + 15) / 16) from if_pos ⟨h0, h1⟩)
      have hm := dm_mul h0 h1
      clear h0 h1 g0
      obtain ⟨A, C, O⟩ := d
      dsimp only at *
      generalize Dm.fore ⟨A, C, O⟩ t = r at *
      go_enter Try.func21, Try.ntmps21
      go_wp2_with fail
      refine (unhide HK _).mono ?_
      rintro e w1 ⟨rfl, hb1⟩
      obtain ⟨hA, hz, hbw⟩ := dm_blk hb1
      obtain ⟨⟨c0, c1, c2⟩, k0, k1, k2⟩ := dm_at hA
      clear hb1 hA
      go_wp2_with (go_at_call 34; refine (atMostM _ _).mono ?_; rintro e w2 ⟨rfl, rfl⟩)
      go_ret
      exact ⟨dm_int (by rw [unhide HF, show A * t + 16 - 1 = A * t + 15 by omega]), hbw⟩
    · by_cases h2 : t < 0
      · have HF := hide (show d.fore t = -1 from if_neg (fun h => h1 h.2))
        clear h0 g0 h1
        obtain ⟨A, C, O⟩ := d
        generalize Dm.fore ⟨A, C, O⟩ t = r at *
        go_enter Try.func21, Try.ntmps21
        go_wp2_with fail
        refine (unhide HK _).mono ?_
        rintro e w1 ⟨rfl, hb1⟩
        obtain ⟨hA, hz, hbw⟩ := dm_blk hb1
        clear hb1 hA
        go_wp2_with (go_at_call 34; refine (atMostM _ _).mono ?_; rintro e w2 ⟨rfl, rfl⟩)
        go_ret
        exact ⟨dm_int (unhide HF).symm, hbw⟩
      · have h3 : 1000 < t := by unfold Inn at h1; omega
        have HF := hide (show d.fore t = -1 from if_neg (fun h => h1 h.2))
        clear h0 g0 h1
        obtain ⟨A, C, O⟩ := d
        generalize Dm.fore ⟨A, C, O⟩ t = r at *
        go_enter Try.func21, Try.ntmps21
        go_wp2_with fail
        refine (unhide HK _).mono ?_
        rintro e w1 ⟨rfl, hb1⟩
        obtain ⟨hA, hz, hbw⟩ := dm_blk hb1
        clear hb1 hA
        go_wp2_with (go_at_call 34; refine (atMostM _ _).mono ?_; rintro e w2 ⟨rfl, rfl⟩)
        go_ret
        exact ⟨dm_int (unhide HF).symm, hbw⟩
  · have g0 : decide d.Ok = false := decide_eq_false h0
    rw [g0] at HK
    have HF := hide (show d.fore t = -1 from if_neg (fun h => h0 h.1))
    clear h0 g0
    obtain ⟨A, C, O⟩ := d
    generalize Dm.fore ⟨A, C, O⟩ t = r at *
    go_enter Try.func21, Try.ntmps21
    go_wp2_with fail
    refine (unhide HK _).mono ?_
    rintro e w1 ⟨rfl, hb1⟩
    obtain ⟨hA, hz, hbw⟩ := dm_blk hb1
    clear hb1 hA
    go_wp2_with (go_at_call 34; refine (atMostM _ _).mono ?_; rintro e w2 ⟨rfl, rfl⟩)
    go_ret
    exact ⟨dm_int (unhide HF).symm, hbw⟩
set_option maxRecDepth 100000 in
set_option maxHeartbeats 4000000 in
theorem implLack (d : Dm) (f l h : Int) (w : World) : Calls Try.prog 16 #[dmv d, .int .i64 f, .int .i64 l, .int .i64 h] w fun e w' => e = .returned (.int .i64 (d.lack f l h)) ∧ Below w.heap.size w w' := by
  have H1 := hide (fun w1 => implForecast d l w1)
  have H2 := hide (fun w1 => implForecast d h w1)
  have hb1 := fore_bound d l
  have hb2 := fore_bound d h
  have hr : d.lack f l h = if d.fore l < 0 ∨ d.fore h < 0 ∨ h < l ∨ ¬ Inn f 0 1000000000 then -1 else if d.fore l ≤ f ∨ d.fore h < f then 0 else d.fore h - f := rfl
  have HR := hide hr
  clear hr
  generalize d.lack f l h = r at *
  generalize d.fore l = a at *
  generalize d.fore h = b at *
  obtain ⟨A, C, O⟩ := d
  go_enter Try.func16, Try.ntmps16
  go_upto_region 1 with fail
  refine dmi_wp (fun W hW => ?_)
  have hA : W.heap[w.heap.size]? = some (dmo ⟨A, C, O⟩) := by rw [hW]; exact heap_alloc_new w _
  have HW : Hid (Below w.heap.size w W) := by rw [hW]; exact dm_one w _
  clear hW
  have HA := hide hA
  obtain ⟨⟨c0, c1, c2⟩, _⟩ := dm_at hA
  clear hA
  dsimp only at c0 c1 c2
  go_region_held (fun w' => w'.cell? ⟨w.heap.size, 0, none⟩ = some (.int .i64 A) ∧ w'.cell? ⟨w.heap.size, 1, none⟩ = some (.int .i64 C) ∧ w'.cell? ⟨w.heap.size, 2, none⟩ = some (.int .i64 O)) (go_keep)
    (first
      | (go_at_call_of 21 l; refine (unhide H1 _).mono ?_; rintro e w4 ⟨rfl, hb4⟩; have HA4 := hide (dm_step (unhide HA) (dmi_undrew hb4)); have HW4 := hide ((unhide HW).trans ((dmi_undrew hb4).mono (unhide HW).size)); clear hb4; obtain ⟨⟨i0, i1, i2⟩, _⟩ := dm_at (unhide HA4))
      | (go_at_call_of 21 h; refine (unhide H2 _).mono ?_; rintro e w5 ⟨rfl, hb5⟩; have HA5 := hide (dm_step (unhide HA4) hb5); have HW5 := hide ((unhide HW4).trans (hb5.mono (unhide HW4).size)); clear hb5; obtain ⟨⟨j0, j1, j2⟩, _⟩ := dm_at (unhide HA5)))
  all_goals
    clear H1 H2 c0 c1 c2 i0 i1 i2 j0 j1 j2 HA HA4 HA5 HW HW4
    by_cases q1 : a < 0
    · have HF := hide (show r = -1 by rw [unhide HR]; exact if_pos (.inl q1))
      go_wp2_with (go_at_call 33; refine (isAmountD _ _).mono ?_; rintro e w6 ⟨rfl, rfl⟩)
      go_ret
      exact ⟨dm_int (unhide HF).symm, unhide HW5⟩
    by_cases q2 : b < 0
    · have HF := hide (show r = -1 by rw [unhide HR]; exact if_pos (.inr (.inl q2)))
      go_wp2_with (go_at_call 33; refine (isAmountD _ _).mono ?_; rintro e w6 ⟨rfl, rfl⟩)
      go_ret
      exact ⟨dm_int (unhide HF).symm, unhide HW5⟩
    by_cases q4 : ¬ Inn f 0 1000000000
    · have HF := hide (show r = -1 by rw [unhide HR]; exact if_pos (.inr (.inr (.inr q4))))
      have g4 := decide_eq_false q4
      go_wp2_with (go_at_call 33; refine (isAmountD _ _).mono ?_; rintro e w6 ⟨rfl, rfl⟩)
      go_ret
      exact ⟨dm_int (unhide HF).symm, unhide HW5⟩
    have q5 := Decidable.not_not.1 q4
    have g4 := decide_eq_true q5
    obtain ⟨n0, n1⟩ := q5
    by_cases q3 : h < l
    · have HF := hide (show r = -1 by rw [unhide HR]; exact if_pos (.inr (.inr (.inl q3))))
      go_wp2_with (go_at_call 33; refine (isAmountD _ _).mono ?_; rintro e w6 ⟨rfl, rfl⟩)
      go_ret
      exact ⟨dm_int (unhide HF).symm, unhide HW5⟩
    have hr := (unhide HR).trans (if_neg (by rintro (x | x | x | x) <;> first | exact q1 x | exact q2 x | exact q3 x | exact q4 x))
    clear q4 HR
    have HR := hide hr
    clear hr
    by_cases q6 : a ≤ f
    · have HF := hide (show r = 0 by rw [unhide HR]; exact if_pos (.inl q6))
      go_wp2_with (go_at_call 33; refine (isAmountD _ _).mono ?_; rintro e w6 ⟨rfl, rfl⟩)
      go_ret
      exact ⟨dm_int (unhide HF).symm, unhide HW5⟩
    have HF := hide (show r = if b < f then 0 else b - f by rw [unhide HR]; by_cases q7 : b < f; rw [if_pos (.inr q7), if_pos q7]; rw [if_neg (by rintro (x | x) <;> first | exact q6 x | exact q7 x), if_neg q7])
    have HX := hide (fun w1 => excessI b f w1 ⟨hb2.1, hb2.2⟩ ⟨by omega, n1⟩)
    generalize (if b < f then 0 else b - f) = y at *
    go_wp2_with (first | (go_at_call 33; refine (isAmountD _ _).mono ?_; rintro e w6 ⟨rfl, rfl⟩) | (go_at_call 36; refine (unhide HX _).mono ?_; rintro e w7 ⟨rfl, rfl⟩))
    go_ret
    exact ⟨dm_int (unhide HF).symm, unhide HW5⟩

set_option maxRecDepth 100000 in
set_option maxHeartbeats 4000000 in
theorem implSurplus (d : Dm) (f h : Int) (w : World) : Calls Try.prog 18 #[dmv d, .int .i64 f, .int .i64 h] w fun e w' => e = .returned (.int .i64 (d.over f h)) ∧ Below w.heap.size w w' := by
  have H2 := hide (fun w1 => implForecast d h w1)
  have hb2 := fore_bound d h
  have hr : d.over f h = if d.fore h < 0 ∨ ¬ Inn f 0 1000000000 then -1 else if f < d.fore h then 0 else f - d.fore h := rfl
  have HR := hide hr
  clear hr
  generalize d.over f h = r at *
  generalize d.fore h = b at *
  obtain ⟨A, C, O⟩ := d
  go_enter Try.func18, Try.ntmps18
  go_wp2_with fail
  refine (unhide H2 _).mono ?_
  rintro e w1 ⟨rfl, hb1⟩
  obtain ⟨hA, hz, hbw⟩ := dm_blk hb1
  have HW := hide hbw
  clear hb1 hA hbw
  by_cases q1 : b < 0
  · have HF := hide (show r = -1 by rw [unhide HR]; exact if_pos (.inl q1))
    go_wp2_with (go_at_call 33; refine (isAmountD _ _).mono ?_; rintro e w6 ⟨rfl, rfl⟩)
    go_ret
    exact ⟨dm_int (unhide HF).symm, unhide HW⟩
  by_cases q4 : ¬ Inn f 0 1000000000
  · have HF := hide (show r = -1 by rw [unhide HR]; exact if_pos (.inr q4))
    have g4 := decide_eq_false q4
    go_wp2_with (go_at_call 33; refine (isAmountD _ _).mono ?_; rintro e w6 ⟨rfl, rfl⟩)
    go_ret
    exact ⟨dm_int (unhide HF).symm, unhide HW⟩
  have q5 := Decidable.not_not.1 q4
  have g4 := decide_eq_true q5
  obtain ⟨n0, n1⟩ := q5
  have hr := (unhide HR).trans (if_neg (by rintro (x | x) <;> first | exact q1 x | exact q4 x))
  clear q4 HR
  have HR := hide hr
  clear hr
  have HX := hide (fun w1 => excessI f b w1 ⟨by omega, n1⟩ ⟨hb2.1, hb2.2⟩)
  generalize (if f < b then 0 else f - b) = y at *
  go_wp2_with (first | (go_at_call 33; refine (isAmountD _ _).mono ?_; rintro e w6 ⟨rfl, rfl⟩) | (go_at_call 36; refine (unhide HX _).mono ?_; rintro e w7 ⟨rfl, rfl⟩))
  go_ret
  exact ⟨dm_int (unhide HR).symm, unhide HW⟩
end Go.Proofs.Ytmflajfddjnmhaa
