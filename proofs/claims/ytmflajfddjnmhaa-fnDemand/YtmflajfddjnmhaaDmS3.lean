/-
  What the model's Forecast, Lack and Surplus come to, in plain numbers; the laws' own helpers on demand.
-/
import Derived.Test.YtmflajfddjnmhaaDmS2
import Derived.ProofKit
namespace Go.Proofs.Ytmflajfddjnmhaa
open Go.RowKit
open Go.WideShapes
open Mth

/-- One block laid, behind calls that make memory alone. -/
theorem dm_blk {w w1 : World} {A : Obj} (hb : Below (w.alloc A).heap.size (w.alloc A) w1) : w1.heap[w.heap.size]? = some A ∧ w.heap.size < w1.heap.size ∧ Below w.heap.size w w1 := by
  have hz := hb.size
  have hs : (w.alloc A).heap.size = w.heap.size + 1 := by simp
  refine ⟨?_, by omega, ((Below.refl _ _).alloc (Nat.le_refl _) _).trans (hb.mono (by omega))⟩
  rw [hb.block _ (by omega)]
  exact heap_alloc_new w A

set_option maxRecDepth 100000 in
set_option maxHeartbeats 2000000 in
theorem specForecast (d : Dm) (t : Int) (w : World) : Calls Try.prog 22 #[dmv d, .int .i64 t] w fun e w' => e = .returned (.int .i64 (d.fore t)) ∧ Below w.heap.size w w' := by
  have HK := hide (fun w1 => specDemandOk d w1)
  by_cases h0 : d.Ok
  · have g0 : decide d.Ok = true := decide_eq_true h0
    rw [g0] at HK
    by_cases h1 : Inn t 0 1000
    · have g1 : decide (Inn t 0 1000) = true := decide_eq_true h1
      have HF := hide (show d.fore t = most ((d.A * t + 15) / 16) from if_pos ⟨h0, h1⟩)
      have hm := dm_mul h0 h1
      clear h0 h1 g0
      obtain ⟨A, C, O⟩ := d
      dsimp only at *
      generalize Dm.fore ⟨A, C, O⟩ t = r at *
      go_enter Try.func22, Try.ntmps22
      go_wp2_with fail
      refine (unhide HK _).mono ?_
      rintro e w1 ⟨rfl, hb1⟩
      obtain ⟨hA, hz, hbw⟩ := dm_blk hb1
      obtain ⟨⟨c0, c1, c2⟩, k0, k1, k2⟩ := dm_at hA
      clear hb1 hA
      go_wp2_with (first | (go_at_call 39; refine (l01InB _ _ _ _).mono ?_; rintro e w2 ⟨rfl, rfl⟩) | (go_at_call 38; refine (l11Most _ _).mono ?_; rintro e w2 ⟨rfl, rfl⟩))
      go_ret
      exact ⟨dm_int (unhide HF).symm, hbw⟩
    · have g1 : decide (Inn t 0 1000) = false := decide_eq_false h1
      have HF := hide (show d.fore t = -1 from if_neg (fun h => h1 h.2))
      clear h0 h1 g0
      obtain ⟨A, C, O⟩ := d
      generalize Dm.fore ⟨A, C, O⟩ t = r at *
      go_enter Try.func22, Try.ntmps22
      go_wp2_with fail
      refine (unhide HK _).mono ?_
      rintro e w1 ⟨rfl, hb1⟩
      obtain ⟨hA, hz, hbw⟩ := dm_blk hb1
      clear hb1 hA
      go_wp2_with (first | (go_at_call 39; refine (l01InB _ _ _ _).mono ?_; rintro e w2 ⟨rfl, rfl⟩) | (go_at_call 38; refine (l11Most _ _).mono ?_; rintro e w2 ⟨rfl, rfl⟩))
      go_ret
      exact ⟨dm_int (unhide HF).symm, hbw⟩
  · have g0 : decide d.Ok = false := decide_eq_false h0
    rw [g0] at HK
    have HF := hide (show d.fore t = -1 from if_neg (fun h => h0 h.1))
    clear h0 g0
    obtain ⟨A, C, O⟩ := d
    generalize Dm.fore ⟨A, C, O⟩ t = r at *
    go_enter Try.func22, Try.ntmps22
    go_wp2_with fail
    refine (unhide HK _).mono ?_
    rintro e w1 ⟨rfl, hb1⟩
    obtain ⟨hA, hz, hbw⟩ := dm_blk hb1
    clear hb1 hA
    go_wp2_with (first | (go_at_call 39; refine (l01InB _ _ _ _).mono ?_; rintro e w2 ⟨rfl, rfl⟩) | (go_at_call 38; refine (l11Most _ _).mono ?_; rintro e w2 ⟨rfl, rfl⟩))
    go_ret
    exact ⟨dm_int (unhide HF).symm, hbw⟩
end Go.Proofs.Ytmflajfddjnmhaa
