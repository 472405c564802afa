/-
  What the model's DemandAsk and DemandTick come to, in plain numbers.
-/
import Derived.Test.YtmflajfddjnmhaaDmS
namespace Go.Proofs.Ytmflajfddjnmhaa
open Go.RowKit
open Mth

abbrev dmo (d : Dm) : Obj := .cells #[.int .i64 d.A, .int .i64 d.C, .int .i64 d.O] 25 (0, 0)
/-- A block of three cells, all written over. -/
theorem dm_all {w : World} {g : Nat} {a0 a1 a2 b0 b1 b2 : Value} {t : TypeId} (h : w.heap[g]? = some (.cells #[a0, a1, a2] t (0, 0))) :
    (((w.setCell ⟨g, 0, none⟩ b0).setCell ⟨g, 1, none⟩ b1).setCell ⟨g, 2, none⟩ b2).heap[g]? = some (.cells #[b0, b1, b2] t (0, 0)) :=
  dm_set (dm_set (dm_set h 0 b0) 1 b1) 2 b2
theorem dm_below {a w : World} {B g : Nat} {b0 b1 b2 : Value} (h : Below B a w) (hg : B ≤ g) :
    Below B a (((w.setCell ⟨g, 0, none⟩ b0).setCell ⟨g, 1, none⟩ b1).setCell ⟨g, 2, none⟩ b2) :=
  ((h.setCell (p := ⟨g, 0, none⟩) hg b0).setCell (p := ⟨g, 1, none⟩) hg b1).setCell (p := ⟨g, 2, none⟩) hg b2
theorem dm_other {w : World} {g g' i : Nat} {a : Value} {o : Option Obj} (h : w.heap[g']? = o) (hne : g' ≠ g) : (w.setCell ⟨g, i, none⟩ a).heap[g']? = o := by
  rw [Below.heap_setCell _ _ _ _ hne, h]

set_option maxRecDepth 100000 in
set_option maxHeartbeats 2000000 in
theorem specDemandAsk (d : Dm) (n : Int) (w : World) : Calls Try.prog 19 #[dmv d, .int .i64 n] w fun e w' => e = .returned (dmv (d.ask n)) ∧ Below w.heap.size w w' := by
  have HK := hide (fun w1 => specDemandOk d w1)
  by_cases h0 : d.Ok
  · have g0 : decide d.Ok = true := decide_eq_true h0
    rw [g0] at HK
    by_cases h1 : Inn n 0 1000000000
    · have g1 : decide (Inn n 0 1000000000) = true := decide_eq_true h1
      have HF := hide (show d.ask n = ⟨d.A, d.C, most (d.O + n)⟩ from if_pos ⟨h0, h1⟩)
      obtain ⟨A, C, O⟩ := d
      obtain ⟨_, _, o0, o1⟩ := h0
      obtain ⟨n0, n1⟩ := h1
      dsimp only at *
      generalize Dm.ask ⟨A, C, O⟩ n = r at *
      go_enter Try.func19, Try.ntmps19
      go_wp2_with fail
      refine (unhide HK _).mono ?_
      rintro e w1 ⟨rfl, hb1⟩
      obtain ⟨hA, hB, hz, hbw⟩ := dm_two hb1
      obtain ⟨⟨c0, c1, c2⟩, k0, k1, k2⟩ := dm_at hA
      obtain ⟨⟨d0, d1, d2⟩, f0, f1, f2⟩ := dm_at hB
      have HB := hide hB
      clear hb1 hA hB
      go_wp2_with (first | (go_at_call 37; refine (l01Amount _ _).mono ?_; rintro e w2 ⟨rfl, rfl⟩) | (go_at_call 38; refine (l11Most _ _).mono ?_; rintro e w2 ⟨rfl, rfl⟩))
      refine dm_post (fun W' hW' => ?_)
      obtain ⟨⟨r0, r1, r2⟩, _⟩ := dm_at (show W'.heap[w.heap.size + 1]? = some (.cells #[.int .i64 A, .int .i64 C, .int .i64 (most (O + n))] 25 (0, 0)) by rw [hW']; exact dm_all (dm_other (unhide HB) (by omega)))
      have hbb : Below w.heap.size w W' := by rw [hW']; exact dm_below (hbw.setCell (Nat.le_refl _) _) (by omega)
      refine bodyPost_ret (v := .agg #[.int .i64 A, .int .i64 C, .int .i64 (most (O + n))]) (by simp [results, Try.results19, go_sem, r0, r1, r2]) rfl ⟨by rw [unhide HF], hbb⟩
    · have g1 : decide (Inn n 0 1000000000) = false := decide_eq_false h1
      have HF := hide (show d.ask n = d from if_neg (fun h => h1 h.2))
      clear h0 h1 g0
      obtain ⟨A, C, O⟩ := d
      generalize Dm.ask ⟨A, C, O⟩ n = r at *
      go_enter Try.func19, Try.ntmps19
      go_wp2_with fail
      refine (unhide HK _).mono ?_
      rintro e w1 ⟨rfl, hb1⟩
      obtain ⟨hA, hB, hz, hbw⟩ := dm_two hb1
      obtain ⟨⟨c0, c1, c2⟩, k0, k1, k2⟩ := dm_at hA
      obtain ⟨⟨d0, d1, d2⟩, f0, f1, f2⟩ := dm_at hB
      have HB := hide hB
      clear hb1 hA hB
      go_wp2_with (first | (go_at_call 37; refine (l01Amount _ _).mono ?_; rintro e w2 ⟨rfl, rfl⟩) | (go_at_call 38; refine (l11Most _ _).mono ?_; rintro e w2 ⟨rfl, rfl⟩))
      refine dm_post (fun W' hW' => ?_)
      obtain ⟨⟨r0, r1, r2⟩, _⟩ := dm_at (show W'.heap[w.heap.size + 1]? = some (.cells #[.int .i64 A, .int .i64 C, .int .i64 O] 25 (0, 0)) by rw [hW']; exact dm_all (unhide HB))
      have hbb : Below w.heap.size w W' := by rw [hW']; exact dm_below hbw (by omega)
      refine bodyPost_ret (v := .agg #[.int .i64 A, .int .i64 C, .int .i64 O]) (by simp [results, Try.results19, go_sem, r0, r1, r2]) rfl ⟨by rw [unhide HF], hbb⟩
  · have g0 : decide d.Ok = false := decide_eq_false h0
    rw [g0] at HK
    have HF := hide (show d.ask n = d from if_neg (fun h => h0 h.1))
    clear h0 g0
    obtain ⟨A, C, O⟩ := d
    generalize Dm.ask ⟨A, C, O⟩ n = r at *
    go_enter Try.func19, Try.ntmps19
    go_wp2_with fail
    refine (unhide HK _).mono ?_
    rintro e w1 ⟨rfl, hb1⟩
    obtain ⟨hA, hB, hz, hbw⟩ := dm_two hb1
    obtain ⟨⟨c0, c1, c2⟩, k0, k1, k2⟩ := dm_at hA
    obtain ⟨⟨d0, d1, d2⟩, f0, f1, f2⟩ := dm_at hB
    have HB := hide hB
    clear hb1 hA hB
    go_wp2_with (first | (go_at_call 37; refine (l01Amount _ _).mono ?_; rintro e w2 ⟨rfl, rfl⟩) | (go_at_call 38; refine (l11Most _ _).mono ?_; rintro e w2 ⟨rfl, rfl⟩))
    refine dm_post (fun W' hW' => ?_)
    obtain ⟨⟨r0, r1, r2⟩, _⟩ := dm_at (show W'.heap[w.heap.size + 1]? = some (.cells #[.int .i64 A, .int .i64 C, .int .i64 O] 25 (0, 0)) by rw [hW']; exact dm_all (unhide HB))
    have hbb : Below w.heap.size w W' := by rw [hW']; exact dm_below hbw (by omega)
    refine bodyPost_ret (v := .agg #[.int .i64 A, .int .i64 C, .int .i64 O]) (by simp [results, Try.results19, go_sem, r0, r1, r2]) rfl ⟨by rw [unhide HF], hbb⟩

set_option maxRecDepth 100000 in
set_option maxHeartbeats 2000000 in
theorem specDemandTick (d : Dm) (w : World) : Calls Try.prog 20 #[dmv d] w fun e w' => e = .returned (dmv d.tick) ∧ Below w.heap.size w w' := by
  have HK := hide (fun w1 => specDemandOk d w1)
  by_cases h0 : d.Ok
  · have g0 : decide d.Ok = true := decide_eq_true h0
    rw [g0] at HK
    have hf : d.tick = ⟨if d.C = 0 then 16 * d.O else d.A - d.A / 16 + d.O, most (d.C + 1), 0⟩ := if_pos h0
    obtain ⟨A, C, O⟩ := d
    obtain ⟨⟨a0, a1⟩, ⟨p0, p1⟩, o0, o1⟩ := h0
    dsimp only at *
    generalize Dm.tick ⟨A, C, O⟩ = r at *
    clear g0
    by_cases h1 : C = 0
    · rw [if_pos h1] at hf
      have HF := hide hf
      clear hf
      have g1 : (C == 0) = true := by simp [h1]
      clear h1
      go_enter Try.func20, Try.ntmps20
      go_wp2_with fail
      refine (unhide HK _).mono ?_
      rintro e w1 ⟨rfl, hb1⟩
      obtain ⟨hA, hB, hz, hbw⟩ := dm_two hb1
      obtain ⟨⟨c0, c1, c2⟩, k0, k1, k2⟩ := dm_at hA
      obtain ⟨⟨d0, d1, d2⟩, f0, f1, f2⟩ := dm_at hB
      have HB := hide hB
      clear hb1 hA hB
      go_wp2_with (first | (go_at_call 37; refine (l01Amount _ _).mono ?_; rintro e w2 ⟨rfl, rfl⟩) | (go_at_call 38; refine (l11Most _ _).mono ?_; rintro e w2 ⟨rfl, rfl⟩))
      refine dm_post (fun W' hW' => ?_)
      obtain ⟨⟨r0, r1, r2⟩, _⟩ := dm_at (show W'.heap[w.heap.size + 1]? = some (.cells #[.int .i64 (16 * O), .int .i64 (most (C + 1)), .int .i64 0] 25 (0, 0)) by rw [hW']; exact dm_all (dm_other (dm_other (dm_other (unhide HB) (by omega)) (by omega)) (by omega)))
      have hbb : Below w.heap.size w W' := by rw [hW']; exact dm_below (((hbw.setCell (Nat.le_refl _) _).setCell (Nat.le_refl _) _).setCell (Nat.le_refl _) _) (by omega)
      refine bodyPost_ret (v := .agg #[.int .i64 (16 * O), .int .i64 (most (C + 1)), .int .i64 0]) (by simp [results, Try.results20, go_sem, r0, r1, r2]) rfl ⟨by rw [unhide HF], hbb⟩
    · rw [if_neg h1] at hf
      have HF := hide hf
      clear hf
      have g1 : (C == 0) = false := by simp [h1]
      clear h1
      go_enter Try.func20, Try.ntmps20
      go_wp2_with fail
      refine (unhide HK _).mono ?_
      rintro e w1 ⟨rfl, hb1⟩
      obtain ⟨hA, hB, hz, hbw⟩ := dm_two hb1
      obtain ⟨⟨c0, c1, c2⟩, k0, k1, k2⟩ := dm_at hA
      obtain ⟨⟨d0, d1, d2⟩, f0, f1, f2⟩ := dm_at hB
      have HB := hide hB
      clear hb1 hA hB
      go_wp2_with (first | (go_at_call 37; refine (l01Amount _ _).mono ?_; rintro e w2 ⟨rfl, rfl⟩) | (go_at_call 38; refine (l11Most _ _).mono ?_; rintro e w2 ⟨rfl, rfl⟩))
      refine dm_post (fun W' hW' => ?_)
      obtain ⟨⟨r0, r1, r2⟩, _⟩ := dm_at (show W'.heap[w.heap.size + 1]? = some (.cells #[.int .i64 (A - A / 16 + O), .int .i64 (most (C + 1)), .int .i64 0] 25 (0, 0)) by rw [hW']; exact dm_all (dm_other (dm_other (dm_other (unhide HB) (by omega)) (by omega)) (by omega)))
      have hbb : Below w.heap.size w W' := by rw [hW']; exact dm_below (((hbw.setCell (Nat.le_refl _) _).setCell (Nat.le_refl _) _).setCell (Nat.le_refl _) _) (by omega)
      refine bodyPost_ret (v := .agg #[.int .i64 (A - A / 16 + O), .int .i64 (most (C + 1)), .int .i64 0]) (by simp [results, Try.results20, go_sem, r0, r1, r2]) rfl ⟨by rw [unhide HF], hbb⟩
  · have g0 : decide d.Ok = false := decide_eq_false h0
    rw [g0] at HK
    have HF := hide (show d.tick = d from if_neg h0)
    clear h0 g0
    obtain ⟨A, C, O⟩ := d
    generalize Dm.tick ⟨A, C, O⟩ = r at *
    go_enter Try.func20, Try.ntmps20
    go_wp2_with fail
    refine (unhide HK _).mono ?_
    rintro e w1 ⟨rfl, hb1⟩
    obtain ⟨hA, hB, hz, hbw⟩ := dm_two hb1
    obtain ⟨⟨c0, c1, c2⟩, k0, k1, k2⟩ := dm_at hA
    obtain ⟨⟨d0, d1, d2⟩, f0, f1, f2⟩ := dm_at hB
    have HB := hide hB
    clear hb1 hA hB
    go_wp2_with (first | (go_at_call 37; refine (l01Amount _ _).mono ?_; rintro e w2 ⟨rfl, rfl⟩) | (go_at_call 38; refine (l11Most _ _).mono ?_; rintro e w2 ⟨rfl, rfl⟩))
    refine dm_post (fun W' hW' => ?_)
    obtain ⟨⟨r0, r1, r2⟩, _⟩ := dm_at (show W'.heap[w.heap.size + 1]? = some (.cells #[.int .i64 A, .int .i64 C, .int .i64 O] 25 (0, 0)) by rw [hW']; exact dm_all (unhide HB))
    have hbb : Below w.heap.size w W' := by rw [hW']; exact dm_below hbw (by omega)
    refine bodyPost_ret (v := .agg #[.int .i64 A, .int .i64 C, .int .i64 O]) (by simp [results, Try.results20, go_sem, r0, r1, r2]) rfl ⟨by rw [unhide HF], hbb⟩
end Go.Proofs.Ytmflajfddjnmhaa
