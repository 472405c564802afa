/-
  The program's shifted: a purse with amounts more or fewer.
-/
import Derived.Test.YtdlhlfndobbocaaDoorPuI3
import Derived.Test.YtdlhlfndobbocaaDoorPmErr
import Derived.Test.YtdlhlfndobbocaaDoorPmKey
import Derived.Deep.DeepCutAuto
namespace Go.Proofs.YtdlhlfndobbocaaDoor
open Go.RowKit
open Mth

namespace Mth
/-- A purse with amounts more or fewer. -/
def shiftP (p : Pu) (dm df ds n : Int) : Pu := ⟨p.k, p.m + dm * n, p.f + df * n, p.s + ds * n⟩
end Mth
abbrev shv (dm df ds : Int) : Value := .agg #[.int .i64 dm, .int .i64 df, .int .i64 ds]

theorem three_blocks {w w1 : World} {A B C : Obj} (hb : Below (((w.alloc A).alloc B).alloc C).heap.size (((w.alloc A).alloc B).alloc C) w1) :
    w1.heap[w.heap.size]? = some A ∧ w1.heap[w.heap.size + 1 + 1]? = some C ∧ Below w.heap.size w w1 := by
  have hs : (((w.alloc A).alloc B).alloc C).heap.size = w.heap.size + 1 + 1 + 1 := by simp
  refine ⟨?_, ?_, ((((Below.refl _ _).alloc (Nat.le_refl _) _).alloc (by simp) _).alloc (by simp; omega) _).trans (hb.mono (by omega))⟩
  · rw [hb.block _ (by omega), Below.heap_alloc _ _ _ (by simp; omega), Below.heap_alloc _ _ _ (by simp)]
    exact heap_alloc_new w A
  · rw [hb.block _ (by omega)]
    have h := heap_alloc_new ((w.alloc A).alloc B) C
    rwa [show ((w.alloc A).alloc B).heap.size = w.heap.size + 1 + 1 by simp] at h

set_option maxRecDepth 100000 in
set_option maxHeartbeats 4000000 in
theorem implShift_ok (p : Pu) (dm df ds n : Int) (w : World) (hp : puOk p = true) (h1 : -1000000000 ≤ dm * n ∧ dm * n ≤ 1000000000) (h2 : -1000000000 ≤ df * n ∧ df * n ≤ 1000000000) (h3 : -1000000000 ≤ ds * n ∧ ds * n ≤ 1000000000)
    (hf : 0 ≤ p.f + df * n) (hs : 0 ≤ p.s + ds * n) (hok : puOk (shiftP p dm df ds n) = true) :
    Calls Tryd.prog 73 #[puv p, shv dm df ds, .int .i64 n] w fun e w' => e = .returned (.tuple #[puv (shiftP p dm df ds n), .nilIface]) ∧ Below w.heap.size w w' := by
  have HO := hide (fun w1 => implPuOkB (shiftP p dm df ds n) true w1 hok)
  obtain ⟨pk, pm, pf, ps⟩ := p
  unfold puOk at hp
  simp only [Bool.and_eq_true] at hp
  obtain ⟨⟨⟨⟨_, a1⟩, a2⟩, a3⟩, a4⟩ := hp
  have b1 : 0 ≤ pm ∧ pm ≤ 1000000000 := of_decide_eq_true a1
  have b2 : 0 ≤ pf ∧ pf ≤ 1000000000 := of_decide_eq_true a2
  have b3 : 0 ≤ ps ∧ ps ≤ 1000000000 := of_decide_eq_true a3
  obtain ⟨a10, a11⟩ := b1
  obtain ⟨a20, a21⟩ := b2
  obtain ⟨a30, a31⟩ := b3
  obtain ⟨h10, h11⟩ := h1
  obtain ⟨h20, h21⟩ := h2
  obtain ⟨h30, h31⟩ := h3
  clear a1 a2 a3 a4
  dsimp only at hf hs
  clear hok
  go_enter Tryd.func73, Tryd.ntmps73
  go_wp2_with fail
  refine (unhide HO _).mono ?_
  rintro e w1 ⟨rfl, hb1⟩
  obtain ⟨hA, hC, hbel⟩ := three_blocks hb1
  have HC := hide hC
  have HBL := hide hbel
  obtain ⟨⟨p0, p1, p2, p3⟩, _⟩ := four_at hA
  obtain ⟨⟨r0, r1, r2, r3⟩, s0, s1, s2, s3⟩ := four_at hC
  clear hb1 hA hC hbel
  go_wp2_with fail
  clear r0 r1 r2 r3
  refine Fo.bodyPost_at (fun W' hW' => ?_)
  obtain ⟨⟨r0, r1, r2, r3⟩, _⟩ := four_at (show W'.heap[w.heap.size + 1 + 1]? = some (.cells #[.string pk, .int .i64 (pm + dm * n), .int .i64 (pf + df * n), .int .i64 (ps + ds * n)] 32 (0, 0)) by rw [hW']; exact Fo.four_set (unhide HC))
  have hbb : Below w.heap.size w W' := by rw [hW']; exact Fo.four_below (unhide HBL) (by omega)
  exact bodyPost_ret (v := .tuple #[.agg #[.string pk, .int .i64 (pm + dm * n), .int .i64 (pf + df * n), .int .i64 (ps + ds * n)], .nilIface]) (by simp [results, Tryd.results73, go_sem, r0, r1, r2, r3]) rfl ⟨rfl, hbb⟩

set_option maxRecDepth 100000 in
set_option maxHeartbeats 4000000 in
theorem implShift_beyond (p : Pu) (dm df ds n : Int) (E : Nat → Addr) (w : World) (hp : puOk p = true) (h1 : -1000000000 ≤ dm * n ∧ dm * n ≤ 1000000000) (h2 : -1000000000 ≤ df * n ∧ df * n ≤ 1000000000) (h3 : -1000000000 ≤ ds * n ∧ ds * n ≤ 1000000000)
    (hf : 0 ≤ p.f + df * n) (hs : 0 ≤ p.s + ds * n) (hok : puOk (shiftP p dm df ds n) = false) (he : Errs w E) :
    Calls Tryd.prog 73 #[puv p, shv dm df ds, .int .i64 n] w fun e w' => e = .returned (.tuple #[puv ⟨⟨#[]⟩, 0, 0, 0⟩, errV (E 4)]) ∧ Below w.heap.size w w' := by
  have HO := hide (fun w1 => implPuOkB (shiftP p dm df ds n) false w1 hok)
  have HE := hide he
  obtain ⟨pk, pm, pf, ps⟩ := p
  unfold puOk at hp
  simp only [Bool.and_eq_true] at hp
  obtain ⟨⟨⟨⟨_, a1⟩, a2⟩, a3⟩, a4⟩ := hp
  have b1 : 0 ≤ pm ∧ pm ≤ 1000000000 := of_decide_eq_true a1
  have b2 : 0 ≤ pf ∧ pf ≤ 1000000000 := of_decide_eq_true a2
  have b3 : 0 ≤ ps ∧ ps ≤ 1000000000 := of_decide_eq_true a3
  obtain ⟨a10, a11⟩ := b1
  obtain ⟨a20, a21⟩ := b2
  obtain ⟨a30, a31⟩ := b3
  obtain ⟨h10, h11⟩ := h1
  obtain ⟨h20, h21⟩ := h2
  obtain ⟨h30, h31⟩ := h3
  clear a1 a2 a3 a4
  dsimp only at hf hs
  clear hok he
  go_enter Tryd.func73, Tryd.ntmps73
  go_wp2_with fail
  refine (unhide HO _).mono ?_
  rintro e w1 ⟨rfl, hb1⟩
  obtain ⟨hA, hC, hbel⟩ := three_blocks hb1
  have HC := hide hC
  have HBL := hide hbel
  have ve := ((unhide HE).below hbel).var 4 (by omega)
  have hsz := (show w.heap.size + 1 + 1 < w1.heap.size from Fo.lt_of_blk hC)
  have hve : 4 < w.heap.size := World.block_lt_of_cell? _ _ ((unhide HE).var 4 (by omega))
  obtain ⟨⟨r0, r1, r2, r3⟩, s0, s1, s2, s3⟩ := four_at hC
  clear hb1 hA hC hbel
  go_wp2_with fail
  go_region
  all_goals
    go_wp2_with fail
    refine Fo.bodyPost_at (fun W' hW' => ?_)
    obtain ⟨⟨t0, t1, t2, t3⟩, _⟩ := four_at (show W'.heap[w.heap.size + 1 + 1]? = some (.cells #[.string ⟨#[]⟩, .int .i64 0, .int .i64 0, .int .i64 0] 32 (0, 0)) by rw [hW']; exact Fo.four_set (w := w1.drew) (unhide HC))
    have hbb : Below w.heap.size w W' := by rw [hW']; exact Fo.four_below (w := w1.drew) ((unhide HBL).trans ⟨rfl, rfl, rfl, Nat.le_refl _, fun _ _ => rfl⟩) (by omega)
    exact bodyPost_ret (v := .tuple #[.agg #[.string ⟨#[]⟩, .int .i64 0, .int .i64 0, .int .i64 0], errV (E 4)]) (by simp [results, Tryd.results73, go_sem, t0, t1, t2, t3]) rfl ⟨rfl, hbb⟩

set_option maxRecDepth 100000 in
set_option maxHeartbeats 4000000 in
theorem implShift_fewer (p : Pu) (dm df ds n : Int) (E : Nat → Addr) (w : World) (hp : puOk p = true) (h1 : -1000000000 ≤ dm * n ∧ dm * n ≤ 1000000000) (h2 : -1000000000 ≤ df * n ∧ df * n ≤ 1000000000) (h3 : -1000000000 ≤ ds * n ∧ ds * n ≤ 1000000000)
    (hf : p.f + df * n < 0 ∨ 0 ≤ p.f + df * n ∧ p.s + ds * n < 0) (he : Errs w E) :
    Calls Tryd.prog 73 #[puv p, shv dm df ds, .int .i64 n] w fun e w' => e = .returned (.tuple #[puv ⟨⟨#[]⟩, 0, 0, 0⟩, errV (E 3)]) ∧ Below w.heap.size w w' := by
  have HE := hide he
  have hve : 3 < w.heap.size := World.block_lt_of_cell? _ _ (he.var 3 (by omega))
  obtain ⟨pk, pm, pf, ps⟩ := p
  unfold puOk at hp
  simp only [Bool.and_eq_true] at hp
  obtain ⟨⟨⟨⟨_, a1⟩, a2⟩, a3⟩, a4⟩ := hp
  have b1 : 0 ≤ pm ∧ pm ≤ 1000000000 := of_decide_eq_true a1
  have b2 : 0 ≤ pf ∧ pf ≤ 1000000000 := of_decide_eq_true a2
  have b3 : 0 ≤ ps ∧ ps ≤ 1000000000 := of_decide_eq_true a3
  obtain ⟨a10, a11⟩ := b1
  obtain ⟨a20, a21⟩ := b2
  obtain ⟨a30, a31⟩ := b3
  obtain ⟨h10, h11⟩ := h1
  obtain ⟨h20, h21⟩ := h2
  obtain ⟨h30, h31⟩ := h3
  clear a1 a2 a3 a4
  dsimp only at hf
  clear he
  rcases hf with hf | ⟨hf, hs⟩
  all_goals
    go_enter Tryd.func73, Tryd.ntmps73
    go_upto_region 5 with fail
    refine Fo.wp_at (fun V hV => ?_)
    obtain ⟨_, hC, hbel⟩ := three_blocks (w := w) (w1 := V) (by rw [hV]; exact Below.refl _ _)
    have HC := hide hC
    have HBL := hide hbel
    have vv := ((unhide HE).below hbel).var 3 (by omega)
    have hsz := (show w.heap.size + 1 + 1 < V.heap.size from Fo.lt_of_blk hC)
    obtain ⟨⟨r0, r1, r2, r3⟩, s0, s1, s2, s3⟩ := four_at hC
    clear hC hbel hV
    go_region
    all_goals
      go_wp2_with fail
      refine Fo.bodyPost_at (fun W' hW' => ?_)
      obtain ⟨⟨t0, t1, t2, t3⟩, _⟩ := four_at (show W'.heap[w.heap.size + 1 + 1]? = some (.cells #[.string ⟨#[]⟩, .int .i64 0, .int .i64 0, .int .i64 0] 32 (0, 0)) by rw [hW']; exact Fo.four_set (w := V.drew) (unhide HC))
      have hbb : Below w.heap.size w W' := by rw [hW']; exact Fo.four_below (w := V.drew) ((unhide HBL).trans ⟨rfl, rfl, rfl, Nat.le_refl _, fun _ _ => rfl⟩) (by omega)
      exact bodyPost_ret (v := .tuple #[.agg #[.string ⟨#[]⟩, .int .i64 0, .int .i64 0, .int .i64 0], errV (E 3)]) (by simp [results, Tryd.results73, go_sem, t0, t1, t2, t3]) rfl ⟨rfl, hbb⟩
end Go.Proofs.YtdlhlfndobbocaaDoor
