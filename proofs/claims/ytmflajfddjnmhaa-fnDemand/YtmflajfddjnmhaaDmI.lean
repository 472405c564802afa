/-
  What the program's functions on demand come to, in plain numbers.
-/
import Derived.Test.YtmflajfddjnmhaaDmS3
import Derived.Test.YtmflajfddjnmhaaDmI0
import Derived.Deep.DeepCutAuto
import Derived.Deep.RegionHeld
namespace Go.Proofs.Ytmflajfddjnmhaa
open Go.RowKit
open Mth

theorem dmi_wp {P : Program} {c : Code} {Q : Exit → Act → World → Prop} {a : Act} {W : World} (h : ∀ W', W' = W → Code.wp P c Q a W') : Code.wp P c Q a W := h W rfl
theorem dmi_undrew {w w' : World} (h : Below w.drew.heap.size w.drew w') : Below w.heap.size w w' := ⟨h.os, h.tape, h.output, h.size, h.block⟩

set_option maxRecDepth 100000 in
set_option maxHeartbeats 2000000 in
theorem implDemandAsk (d : Dm) (n : Int) (w : World) : Calls Try.prog 12 #[dmv d, .int .i64 n] w fun e w' => e = .returned (dmv (d.ask n)) ∧ Below w.heap.size w w' := by
  have HK := hide (fun w1 => implDemandOk d w1)
  by_cases h0 : d.Ok
  · have g0 : decide d.Ok = true := decide_eq_true h0
    rw [g0] at HK
    by_cases h1 : Inn n 0 1000000000
    · have g1 : decide (Inn n 0 1000000000) = true := decide_eq_true h1
      have HF := hide (show d.ask n = ⟨d.A, d.C, most (d.O + n)⟩ from if_pos ⟨h0, h1⟩)
      obtain ⟨A, C, O⟩ := d
      obtain ⟨_, _, o0, o1⟩ := h0
      obtain ⟨n0, n1⟩ := h1
      dsimp only at *
      generalize Dm.ask ⟨A, C, O⟩ n = r at *
      go_enter Try.func12, Try.ntmps12
      go_wp2_with fail
      refine (unhide HK _).mono ?_
      rintro e w1 ⟨rfl, hb1⟩
      obtain ⟨hA, hB, hz, hbw⟩ := dm_two hb1
      obtain ⟨⟨c0, c1, c2⟩, k0, k1, k2⟩ := dm_at hA
      obtain ⟨⟨d0, d1, d2⟩, f0, f1, f2⟩ := dm_at hB
      have HB := hide hB
      clear hb1 hA hB
      go_wp2_with (first | (go_at_call 33; refine (isAmountD _ _).mono ?_; rintro e w2 ⟨rfl, rfl⟩) | (go_at_call 34; refine (atMostM _ _).mono ?_; rintro e w2 ⟨rfl, rfl⟩))
      refine dm_post (fun W' hW' => ?_)
      obtain ⟨⟨r0, r1, r2⟩, _⟩ := dm_at (show W'.heap[w.heap.size + 1]? = some (.cells #[.int .i64 A, .int .i64 C, .int .i64 (most (O + n))] 25 (0, 0)) by rw [hW']; exact dm_all (dm_other (unhide HB) (by omega)))
      have hbb : Below w.heap.size w W' := by rw [hW']; exact dm_below (hbw.setCell (Nat.le_refl _) _) (by omega)
      refine bodyPost_ret (v := .agg #[.int .i64 A, .int .i64 C, .int .i64 (most (O + n))]) (by simp [results, Try.results12, go_sem, r0, r1, r2]) rfl ⟨by rw [unhide HF], hbb⟩
    · have g1 : decide (Inn n 0 1000000000) = false := decide_eq_false h1
      have HF := hide (show d.ask n = d from if_neg (fun h => h1 h.2))
      clear h0 h1 g0
      obtain ⟨A, C, O⟩ := d
      generalize Dm.ask ⟨A, C, O⟩ n = r at *
      go_enter Try.func12, Try.ntmps12
      go_wp2_with fail
      refine (unhide HK _).mono ?_
      rintro e w1 ⟨rfl, hb1⟩
      obtain ⟨hA, hB, hz, hbw⟩ := dm_two hb1
      obtain ⟨⟨c0, c1, c2⟩, k0, k1, k2⟩ := dm_at hA
      obtain ⟨⟨d0, d1, d2⟩, f0, f1, f2⟩ := dm_at hB
      have HB := hide hB
      clear hb1 hA hB
      go_wp2_with (first | (go_at_call 33; refine (isAmountD _ _).mono ?_; rintro e w2 ⟨rfl, rfl⟩) | (go_at_call 34; refine (atMostM _ _).mono ?_; rintro e w2 ⟨rfl, rfl⟩))
      refine dm_post (fun W' hW' => ?_)
      obtain ⟨⟨r0, r1, r2⟩, _⟩ := dm_at (show W'.heap[w.heap.size + 1]? = some (.cells #[.int .i64 A, .int .i64 C, .int .i64 O] 25 (0, 0)) by rw [hW']; exact dm_all (unhide HB))
      have hbb : Below w.heap.size w W' := by rw [hW']; exact dm_below hbw (by omega)
      refine bodyPost_ret (v := .agg #[.int .i64 A, .int .i64 C, .int .i64 O]) (by simp [results, Try.results12, go_sem, r0, r1, r2]) rfl ⟨by rw [unhide HF], hbb⟩
  · have g0 : decide d.Ok = false := decide_eq_false h0
    rw [g0] at HK
    have HF := hide (show d.ask n = d from if_neg (fun h => h0 h.1))
    clear h0 g0
    obtain ⟨A, C, O⟩ := d
    generalize Dm.ask ⟨A, C, O⟩ n = r at *
    go_enter Try.func12, Try.ntmps12
    go_wp2_with fail
    refine (unhide HK _).mono ?_
    rintro e w1 ⟨rfl, hb1⟩
    obtain ⟨hA, hB, hz, hbw⟩ := dm_two hb1
    obtain ⟨⟨c0, c1, c2⟩, k0, k1, k2⟩ := dm_at hA
    obtain ⟨⟨d0, d1, d2⟩, f0, f1, f2⟩ := dm_at hB
    have HB := hide hB
    clear hb1 hA hB
    go_wp2_with (first | (go_at_call 33; refine (isAmountD _ _).mono ?_; rintro e w2 ⟨rfl, rfl⟩) | (go_at_call 34; refine (atMostM _ _).mono ?_; rintro e w2 ⟨rfl, rfl⟩))
    refine dm_post (fun W' hW' => ?_)
    obtain ⟨⟨r0, r1, r2⟩, _⟩ := dm_at (show W'.heap[w.heap.size + 1]? = some (.cells #[.int .i64 A, .int .i64 C, .int .i64 O] 25 (0, 0)) by rw [hW']; exact dm_all (unhide HB))
    have hbb : Below w.heap.size w W' := by rw [hW']; exact dm_below hbw (by omega)
    refine bodyPost_ret (v := .agg #[.int .i64 A, .int .i64 C, .int .i64 O]) (by simp [results, Try.results12, go_sem, r0, r1, r2]) rfl ⟨by rw [unhide HF], hbb⟩

set_option maxRecDepth 100000 in
set_option maxHeartbeats 2000000 in
theorem implDemandTick (d : Dm) (w : World) : Calls Try.prog 13 #[dmv d] w fun e w' => e = .returned (dmv d.tick) ∧ Below w.heap.size w w' := by
  have HK := hide (fun w1 => implDemandOk d w1)
  by_cases h0 : d.Ok
  · have g0 : decide d.Ok = true := decide_eq_true h0
    rw [g0] at HK
    have HN := hide (fun w1 => nextAvg d h0 w1)
    have HF := hide (show d.tick = ⟨d.next, most (d.C + 1), 0⟩ from if_pos h0)
    generalize d.next = q at *
    have hC := h0.2.1
    unfold Inn at hC
    clear h0 g0
    generalize d.tick = r at *
    obtain ⟨A, C, O⟩ := d
    dsimp only at *
    have HWR : Hid (IntKind.i64.wrap (C + 1) = C + 1) := hide (IntWalk.i64_in _ ⟨by omega, by omega⟩)
    go_enter Try.func13, Try.ntmps13
    go_wp2_with fail
    refine (unhide HK _).mono ?_
    rintro e w1 ⟨rfl, hb1⟩
    obtain ⟨hA, hB, hz, hbw⟩ := dm_two hb1
    have HA := hide hA
    have HB := hide hB
    have HW := hide hbw
    clear hb1 hA hB hbw
    obtain ⟨⟨c0, c1, c2⟩, _⟩ := dm_at (unhide HA)
    go_upto_region 3 with fail
    have hwr := unhide HWR
    have hne1 : w.heap.size ≠ w.heap.size + 1 := by omega
    have hne2 : w.heap.size + 1 ≠ w.heap.size := by omega
    go_region_held (fun w' => w'.cell? ⟨w.heap.size, 0, none⟩ = some (.int .i64 A) ∧ w'.cell? ⟨w.heap.size, 1, none⟩ = some (.int .i64 C) ∧ w'.cell? ⟨w.heap.size, 2, none⟩ = some (.int .i64 O)) (go_keep)
      (first
        | (go_at_call 35; refine (unhide HN _).mono ?_; rintro e w4 ⟨rfl, hb4⟩; have HA4 := hide (dm_step (unhide HA) (dmi_undrew hb4)); have HB4 := hide (dm_step (unhide HB) (dmi_undrew hb4)); have HW4 := hide ((unhide HW).trans ((dmi_undrew hb4).mono (unhide HW).size)); clear hb4; obtain ⟨⟨i0, i1, i2⟩, _⟩ := dm_at (unhide HA4); obtain ⟨⟨d0, d1, d2⟩, f0, f1, f2⟩ := dm_at (unhide HB4))
        | (go_at_call 34; refine (atMostM _ _).mono ?_; rintro e w5 ⟨rfl, rfl⟩))
    all_goals
      go_wp2_with fail
      refine dm_post (fun W' hW' => ?_)
      obtain ⟨⟨r0, r1, r2⟩, _⟩ := dm_at (show W'.heap[w.heap.size + 1]? = some (.cells #[.int .i64 q, .int .i64 (most (C + 1)), .int .i64 0] 25 (0, 0)) by rw [hW']; exact dm_all (unhide HB4))
      have hbb : Below w.heap.size w W' := by rw [hW']; exact dm_below (unhide HW4) (by omega)
      refine bodyPost_ret (v := .agg #[.int .i64 q, .int .i64 (most (C + 1)), .int .i64 0]) (by simp [results, Try.results13, go_sem, r0, r1, r2]) rfl ⟨by rw [unhide HF], hbb⟩
  · have g0 : decide d.Ok = false := decide_eq_false h0
    rw [g0] at HK
    have HF := hide (show d.tick = d from if_neg h0)
    clear h0 g0
    obtain ⟨A, C, O⟩ := d
    generalize Dm.tick ⟨A, C, O⟩ = r at *
    go_enter Try.func13, Try.ntmps13
    go_wp2_with fail
    refine (unhide HK _).mono ?_
    rintro e w1 ⟨rfl, hb1⟩
    obtain ⟨hA, hB, hz, hbw⟩ := dm_two hb1
    obtain ⟨⟨c0, c1, c2⟩, k0, k1, k2⟩ := dm_at hA
    obtain ⟨⟨d0, d1, d2⟩, f0, f1, f2⟩ := dm_at hB
    have HB := hide hB
    clear hb1 hA hB
    go_wp2_with fail
    refine dm_post (fun W' hW' => ?_)
    obtain ⟨⟨r0, r1, r2⟩, _⟩ := dm_at (show W'.heap[w.heap.size + 1]? = some (.cells #[.int .i64 A, .int .i64 C, .int .i64 O] 25 (0, 0)) by rw [hW']; exact dm_all (unhide HB))
    have hbb : Below w.heap.size w W' := by rw [hW']; exact dm_below hbw (by omega)
    refine bodyPost_ret (v := .agg #[.int .i64 A, .int .i64 C, .int .i64 O]) (by simp [results, Try.results13, go_sem, r0, r1, r2]) rfl ⟨by rw [unhide HF], hbb⟩
end Go.Proofs.Ytmflajfddjnmhaa
