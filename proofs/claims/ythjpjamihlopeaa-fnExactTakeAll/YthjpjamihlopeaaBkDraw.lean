/-
  The draws of chapter 2: a bucket, right or wrong in some way, with bounded numbers.
-/
import Derived.Test.YthjpjamihlopeaaDrawBase
import Derived.Test.YthjpjamihlopeaaBkTake
namespace Go.Proofs.Ythjpjamihlopeaa
open Go.RowKit
open Mth

/-- What every drawn bucket keeps to. -/
def Drawn (b : Bk) : Prop := 0 ≤ b.S ∧ b.S ≤ 1000000000 ∧ 0 ≤ b.R ∧ b.R ≤ 1000000000 ∧ 0 ≤ b.P ∧ b.P ≤ 1000001 ∧ -1 ≤ b.H ∧ b.H ≤ 1000000001 ∧ -1 ≤ b.T ∧ b.T ≤ 1000001 ∧ -1 ≤ b.L ∧ b.L ≤ 1000000001
theorem blk_keeps {w w' : World} {g c : Nat} {o : Obj} (h : w.heap[g]? = some o) (hk : Keeps c w w') (hne : g ≠ c) : w'.heap[g]? = some o := by
  rw [hk.block g (blk_lt h) hne]; exact h
theorem pick_first (w : World) (o : Obj) (zs : List Int) (t : TypeId) (i : Nat) (hi : i < zs.length) : ((w.alloc o).alloc (.cells (zs.map (Value.int .i64)).toArray t)).cell? ⟨w.heap.size + 1, i, none⟩ = some (.int .i64 zs[i]) := by
  have h := lit_ints (w.alloc o) zs t i hi
  rwa [show (w.alloc o).heap.size = w.heap.size + 1 by simp] at h
theorem bl_keeps {w : World} {c g i : Nat} {v : Value} (h : w.heap.size ≤ g) : Keeps c w w → ∀ w', Keeps c w w' → Keeps c w (w'.setCell ⟨g, i, none⟩ v) := fun _ w' hk =>
  ⟨hk.os, hk.tape, hk.output, by simp [World.setCell]; exact hk.size, fun k hkl hne => (Below.heap_setCell _ _ _ _ (by dsimp only; omega)).trans (hk.block k hkl hne)⟩

/-- The six cells of a bucket. -/
abbrev bko (b : Bk) : Obj := .cells #[.int .i64 b.S, .int .i64 b.R, .int .i64 b.P, .int .i64 b.H, .int .i64 b.T, .int .i64 b.L] 25 (0, 0)
abbrev bk0 : Obj := .cells #[.int .i64 0, .int .i64 0, .int .i64 0, .int .i64 0, .int .i64 0, .int .i64 0] 25 (0, 0)

/-- Where the walk of a bucket's draw stands: the cursor, the result's block, the bucket's own block. -/
structure Mid (w : World) (c g : Nat) (b : Bk) (w' : World) : Prop where
  cur : Cur w' c
  keeps : Keeps c w w'
  res : w'.heap[w.heap.size]? = some bk0
  own : w'.heap[g]? = some (bko b)
  beyond : w.heap.size < g
  cbelow : c < w.heap.size
theorem Mid.step {w w1 w2 : World} {c g : Nat} {b : Bk} (h : Mid w c g b w1) (hc : Cur w2 c) (hk : Keeps c w1 w2) : Mid w c g b w2 :=
  ⟨hc, h.keeps.trans hk, blk_keeps h.res hk (by have := h.cbelow; omega), blk_keeps h.own hk (by have := h.beyond; have := h.cbelow; omega), h.beyond, h.cbelow⟩
theorem Mid.set {w w1 : World} {c g i : Nat} {b b' : Bk} {v : Value} (h : Mid w c g b w1) (he : ((bko b) : Obj) = bko b → (w1.setCell ⟨g, i, none⟩ v).heap[g]? = some (bko b')) : Mid w c g b' (w1.setCell ⟨g, i, none⟩ v) := by
  have hg := h.beyond
  have hcb := h.cbelow
  refine ⟨?_, bl_keeps (by omega) (Keeps.refl c w) w1 h.keeps, ?_, he rfl, h.beyond, h.cbelow⟩
  · exact h.cur.below (B := g) ((Below.refl _ _).setCell (p := ⟨g, i, none⟩) (Nat.le_refl _) _) (by omega)
  · exact one_other h.res (by omega)
theorem Mid.alloc {w w1 : World} {c g : Nat} {b : Bk} (h : Mid w c g b w1) (o : Obj) : Mid w c g b (w1.alloc o) := h.step (cur_new h.cur o) (keeps_new o)

/-- The bucket handed back. -/
theorem Mid.done {w w1 : World} {c g : Nat} {b : Bk} (h : Mid w c g b w1) {W' : World} (hW : W' = ((((((w1.setCell ⟨w.heap.size, 0, none⟩ (.int .i64 b.S)).setCell ⟨w.heap.size, 1, none⟩ (.int .i64 b.R)).setCell ⟨w.heap.size, 2, none⟩ (.int .i64 b.P)).setCell ⟨w.heap.size, 3, none⟩ (.int .i64 b.H)).setCell ⟨w.heap.size, 4, none⟩ (.int .i64 b.T)).setCell ⟨w.heap.size, 5, none⟩ (.int .i64 b.L))) :
    W'.heap[w.heap.size]? = some (bko b) ∧ Cur W' c ∧ Keeps c w W' := by
  subst hW
  refine ⟨six_set h.res, h.cur.below (B := w.heap.size) (six_below (Below.refl _ _) (Nat.le_refl _)) h.cbelow, ?_⟩
  have k0 := Keeps.refl c w
  exact bl_keeps (Nat.le_refl _) k0 _ (bl_keeps (Nat.le_refl _) k0 _ (bl_keeps (Nat.le_refl _) k0 _ (bl_keeps (Nat.le_refl _) k0 _ (bl_keeps (Nat.le_refl _) k0 _ (bl_keeps (Nat.le_refl _) k0 _ h.keeps)))))

set_option maxRecDepth 100000 in
set_option maxHeartbeats 4000000 in
theorem l02Bucket (c : Nat) (w : World) (hc : Cur w c) : Calls Try.prog 36 #[.pointer (some ⟨c, 0, none⟩)] w fun e w' => ∃ b : Bk, e = .returned (bkv b) ∧ Drawn b ∧ Cur w' c ∧ Keeps c w w' := by
  have hcl := hc.lt
  have HC := hide hc
  clear hc
  go_enter Try.func36, Try.ntmps36
  go_wp2_with fail
  refine (l01PickInt c (w.heap.size + 1) 5 [10, 5, 100, 0, 1000000000] _ (cur_new (cur_new (unhide HC) _) _) (by omega) (by decide) (by decide) (fun i hi => pick_first w _ [10, 5, 100, 0, 1000000000] _ i hi) (by simp)).mono ?_
  rintro e w1 ⟨S, rfl, hS, hc1, hk1⟩
  have hS' : 0 ≤ S ∧ S ≤ 1000000000 := by
    simp only [List.mem_cons, List.not_mem_nil, or_false] at hS
    omega
  have HR1 := hide (blk_keeps ((Below.heap_alloc _ _ _ (by simp)).trans (heap_alloc_new w bk0)) hk1 (by omega))
  have HK1 := hide (((keeps_new (c := c) _).trans (keeps_new _)).trans hk1)
  have HC1 := hide hc1
  clear hS hc1 hk1
  go_wp2_with fail
  refine (l01PickInt c w1.heap.size 5 [1, 3, 7, 0, 1000000000] _ (cur_new (unhide HC1) _) (by have := (unhide HC1).lt; omega) (by decide) (by decide) (fun i hi => lit_ints w1 [1, 3, 7, 0, 1000000000] _ i hi) (by simp)).mono ?_
  rintro e w2 ⟨R, rfl, hR, hc2, hk2⟩
  have hR' : 0 ≤ R ∧ R ≤ 1000000000 := by
    simp only [List.mem_cons, List.not_mem_nil, or_false] at hR
    omega
  have HR2 := hide (blk_keeps (unhide HR1) ((keeps_new (c := c) _).trans hk2) (by omega))
  have HK2 := hide ((unhide HK1).trans ((keeps_new (c := c) _).trans hk2))
  have HC2 := hide hc2
  clear hR hc2 hk2 HR1 HK1 HC1
  go_wp2_with fail
  refine (l01PickInt c w2.heap.size 4 [1, 2, 5, 1000000] _ (cur_new (unhide HC2) _) (by have := (unhide HC2).lt; omega) (by decide) (by decide) (fun i hi => lit_ints w2 [1, 2, 5, 1000000] _ i hi) (by simp)).mono ?_
  rintro e w3 ⟨P, rfl, hP, hc3, hk3⟩
  have hP' : 1 ≤ P ∧ P ≤ 1000000 := by
    simp only [List.mem_cons, List.not_mem_nil, or_false] at hP
    omega
  have HR3 := hide (blk_keeps (unhide HR2) ((keeps_new (c := c) _).trans hk3) (by omega))
  have HK3 := hide ((unhide HK2).trans ((keeps_new (c := c) _).trans hk3))
  have HC3 := hide hc3
  clear hP hc3 hk3 HR2 HK2 HC2
  go_wp2_with fail
  refine (l01Below c 50 _ (unhide HC3) (by omega) (by omega)).mono ?_
  rintro e w4 ⟨L, rfl, hL0, hL1, hc4, hk4⟩
  have HR4 := hide (blk_keeps (unhide HR3) hk4 (by omega))
  have HK4 := hide ((unhide HK3).trans hk4)
  have HC4 := hide hc4
  clear hc4 hk4 HR3 HK3 HC3
  go_upto_region 2 with fail
  refine wp_at (fun W5 hW5 => ?_)
  have HM : Hid (Mid w c w4.heap.size ⟨S, R, P, 0, 0, L⟩ W5) := by
    have hl4 : w.heap.size < w4.heap.size := blk_lt (unhide HR4)
    subst hW5
    exact ⟨cur_new (unhide HC4) _, (unhide HK4).trans (keeps_new _), blk_keeps (c := c) (unhide HR4) (keeps_new _) (by omega), heap_alloc_new w4 _, hl4, hcl⟩
  have hlg : w.heap.size < w4.heap.size := (unhide HM).beyond
  clear hW5 HR4 HK4 HC4
  generalize w4.heap.size = g at *
  obtain ⟨⟨c0, c1, c2, c3, c4, c5⟩, k0, k1, k2, k3, k4, k5⟩ := six_at (unhide HM).own
  dsimp only at c0 c1 c2 c3 c4 c5
  go_wp2_with fail
  refine (l01Below c (S + 1) _ (unhide HM).cur (by omega) (by omega)).mono ?_
  rintro e w6 ⟨H, rfl, hH0, hH1, hc6, hk6⟩
  have HM6 := hide ((unhide HM).step hc6 hk6)
  clear c0 c1 c2 c3 c4 c5 k0 k1 k2 k3 k4 k5 hc6 hk6 HM
  obtain ⟨⟨c0, c1, c2, c3, c4, c5⟩, k0, k1, k2, k3, k4, k5⟩ := six_at (unhide HM6).own
  dsimp only at c0 c1 c2 c3 c4 c5
  go_upto_region 3 with fail
  refine wp_at (fun W7 hW7 => ?_)
  have HM7 : Hid (Mid w c g ⟨S, R, P, H, 0, L⟩ W7) := by
    subst hW7
    exact (unhide HM6).set (fun _ => blk_set (unhide HM6).own 3 _)
  clear c0 c1 c2 c3 c4 c5 k0 k1 k2 k3 k4 k5 hW7 HM6
  obtain ⟨⟨c0, c1, c2, c3, c4, c5⟩, k0, k1, k2, k3, k4, k5⟩ := six_at (unhide HM7).own
  dsimp only at c0 c1 c2 c3 c4 c5
  by_cases hHS : H < S
  case' pos =>
    go_wp2_with fail
    refine (l01Below c P _ (unhide HM7).cur (by omega) (by omega)).mono ?_
    rintro e w8 ⟨T, rfl, hT0, hT1, hc8, hk8⟩
    have HM8 := hide ((unhide HM7).step hc8 hk8)
    clear c0 c1 c2 c3 c4 c5 k0 k1 k2 k3 k4 k5 hc8 hk8 HM7
    obtain ⟨⟨c0, c1, c2, c3, c4, c5⟩, k0, k1, k2, k3, k4, k5⟩ := six_at (unhide HM8).own
    dsimp only at c0 c1 c2 c3 c4 c5
    go_upto_region 5 with fail
    refine wp_at (fun W9 hW9 => ?_)
    have HM9 : Hid (Mid w c g ⟨S, R, P, H, T, L⟩ W9) := by
      subst hW9
      exact (unhide HM8).set (fun _ => blk_set (unhide HM8).own 4 _)
    clear c0 c1 c2 c3 c4 c5 k0 k1 k2 k3 k4 k5 hW9 HM8
  case' neg =>
    go_upto_region 5 with fail
    refine wp_at (fun W9 hW9 => ?_)
    obtain ⟨T, hT⟩ : ∃ T : Int, T = 0 := ⟨0, rfl⟩
    have hT0 : 0 ≤ T := by omega
    have hT1 : T < P := by omega
    have HM9 : Hid (Mid w c g ⟨S, R, P, H, T, L⟩ W9) := by
      rw [hT, hW9]
      exact unhide HM7
    clear c0 c1 c2 c3 c4 c5 k0 k1 k2 k3 k4 k5 hW9 HM7 hT
  all_goals
    obtain ⟨⟨c0, c1, c2, c3, c4, c5⟩, k0, k1, k2, k3, k4, k5⟩ := six_at (unhide HM9).own
    dsimp only at c0 c1 c2 c3 c4 c5
    go_wp2_with fail
    refine (l01Below c 14 _ (unhide HM9).cur (by omega) (by omega)).mono ?_
    rintro e wa ⟨x, rfl, hx0, hx1, hca, hka⟩
    have HMA := hide ((unhide HM9).step hca hka)
    clear c0 c1 c2 c3 c4 c5 k0 k1 k2 k3 k4 k5 hca hka HM9
    obtain ⟨⟨c0, c1, c2, c3, c4, c5⟩, k0, k1, k2, k3, k4, k5⟩ := six_at (unhide HMA).own
    dsimp only at c0 c1 c2 c3 c4 c5
    obtain ⟨⟨d0, d1, d2, d3, d4, d5⟩, f0, f1, f2, f3, f4, f5⟩ := six_at (unhide HMA).res
    have hga := blk_lt (unhide HMA).own
    by_cases x0 : x = 0
    · subst x0
      go_wp2_with fail
      refine (l01PickInt c wa.heap.size 2 [-1, S + 1] _ (cur_new (unhide HMA).cur _) (by have := (unhide HMA).cur.lt; omega) (by simp) (by simp) (fun i hi => lit_ints wa [-1, S + 1] _ i hi) (by simp)).mono ?_
      rintro e wb ⟨z, rfl, hz, hcb, hkb⟩
      have hz' : -1 ≤ z ∧ z ≤ 1000000001 := by
        simp only [List.mem_cons, List.not_mem_nil, or_false] at hz
        omega
      have HMB := hide ((unhide HMA).step hcb ((keeps_new (c := c) _).trans hkb))
      clear hz hcb hkb HMA
      clear c0 c1 c2 c3 c4 c5 k0 k1 k2 k3 k4 k5 d0 d1 d2 d3 d4 d5 f0 f1 f2 f3 f4 f5 hga
      obtain ⟨⟨c0, c1, c2, c3, c4, c5⟩, k0, k1, k2, k3, k4, k5⟩ := six_at (unhide HMB).own
      dsimp only at c0 c1 c2 c3 c4 c5
      go_upto_region 14 with fail
      refine wp_at (fun WC hWC => ?_)
      have HMC : Hid (Mid w c g ⟨S, R, P, z, T, L⟩ WC) := by
        subst hWC
        exact (unhide HMB).set (fun _ => blk_set (unhide HMB).own 3 _)
      clear c0 c1 c2 c3 c4 c5 k0 k1 k2 k3 k4 k5 hWC HMB
      obtain ⟨⟨c0, c1, c2, c3, c4, c5⟩, k0, k1, k2, k3, k4, k5⟩ := six_at (unhide HMC).own
      dsimp only at c0 c1 c2 c3 c4 c5
      obtain ⟨⟨d0, d1, d2, d3, d4, d5⟩, f0, f1, f2, f3, f4, f5⟩ := six_at (unhide HMC).res
      go_wp2_with fail
      refine bodyPost_at (fun W' hW' => ?_)
      obtain ⟨hblk, hcd, hkd⟩ := (unhide HMC).done hW'
      obtain ⟨⟨r0, r1, r2, r3, r4, r5⟩, _⟩ := six_at hblk
      dsimp only at r0 r1 r2 r3 r4 r5
      refine bodyPost_ret (v := .agg #[.int .i64 S, .int .i64 R, .int .i64 P, .int .i64 z, .int .i64 T, .int .i64 L]) (by simp [results, Try.results36, go_sem, r0, r1, r2, r3, r4, r5]) rfl ⟨⟨S, R, P, z, T, L⟩, rfl, ?_, hcd, hkd⟩
      unfold Drawn
      dsimp only
      omega
    by_cases x1 : x = 1
    · subst x1
      go_wp2_with fail
      refine (l01PickInt c wa.heap.size 3 [-1, P, 1] _ (cur_new (unhide HMA).cur _) (by have := (unhide HMA).cur.lt; omega) (by simp) (by simp) (fun i hi => lit_ints wa [-1, P, 1] _ i hi) (by simp)).mono ?_
      rintro e wb ⟨z, rfl, hz, hcb, hkb⟩
      have hz' : -1 ≤ z ∧ z ≤ 1000001 := by
        simp only [List.mem_cons, List.not_mem_nil, or_false] at hz
        omega
      have HMB := hide ((unhide HMA).step hcb ((keeps_new (c := c) _).trans hkb))
      clear hz hcb hkb HMA
      clear c0 c1 c2 c3 c4 c5 k0 k1 k2 k3 k4 k5 d0 d1 d2 d3 d4 d5 f0 f1 f2 f3 f4 f5 hga
      obtain ⟨⟨c0, c1, c2, c3, c4, c5⟩, k0, k1, k2, k3, k4, k5⟩ := six_at (unhide HMB).own
      dsimp only at c0 c1 c2 c3 c4 c5
      go_upto_region 14 with fail
      refine wp_at (fun WC hWC => ?_)
      have HMC : Hid (Mid w c g ⟨S, R, P, H, z, L⟩ WC) := by
        subst hWC
        exact (unhide HMB).set (fun _ => blk_set (unhide HMB).own 4 _)
      clear c0 c1 c2 c3 c4 c5 k0 k1 k2 k3 k4 k5 hWC HMB
      obtain ⟨⟨c0, c1, c2, c3, c4, c5⟩, k0, k1, k2, k3, k4, k5⟩ := six_at (unhide HMC).own
      dsimp only at c0 c1 c2 c3 c4 c5
      obtain ⟨⟨d0, d1, d2, d3, d4, d5⟩, f0, f1, f2, f3, f4, f5⟩ := six_at (unhide HMC).res
      go_wp2_with fail
      refine bodyPost_at (fun W' hW' => ?_)
      obtain ⟨hblk, hcd, hkd⟩ := (unhide HMC).done hW'
      obtain ⟨⟨r0, r1, r2, r3, r4, r5⟩, _⟩ := six_at hblk
      dsimp only at r0 r1 r2 r3 r4 r5
      refine bodyPost_ret (v := .agg #[.int .i64 S, .int .i64 R, .int .i64 P, .int .i64 H, .int .i64 z, .int .i64 L]) (by simp [results, Try.results36, go_sem, r0, r1, r2, r3, r4, r5]) rfl ⟨⟨S, R, P, H, z, L⟩, rfl, ?_, hcd, hkd⟩
      unfold Drawn
      dsimp only
      omega
    by_cases x2 : x = 2
    · subst x2
      go_wp2_with fail
      refine (l01PickInt c wa.heap.size 2 [0, 1000001] _ (cur_new (unhide HMA).cur _) (by have := (unhide HMA).cur.lt; omega) (by simp) (by simp) (fun i hi => lit_ints wa [0, 1000001] _ i hi) (by simp)).mono ?_
      rintro e wb ⟨z, rfl, hz, hcb, hkb⟩
      have hz' : 0 ≤ z ∧ z ≤ 1000001 := by
        simp only [List.mem_cons, List.not_mem_nil, or_false] at hz
        omega
      have HMB := hide ((unhide HMA).step hcb ((keeps_new (c := c) _).trans hkb))
      clear hz hcb hkb HMA
      clear c0 c1 c2 c3 c4 c5 k0 k1 k2 k3 k4 k5 d0 d1 d2 d3 d4 d5 f0 f1 f2 f3 f4 f5 hga
      obtain ⟨⟨c0, c1, c2, c3, c4, c5⟩, k0, k1, k2, k3, k4, k5⟩ := six_at (unhide HMB).own
      dsimp only at c0 c1 c2 c3 c4 c5
      go_upto_region 14 with fail
      refine wp_at (fun WC hWC => ?_)
      have HMC : Hid (Mid w c g ⟨S, R, z, H, T, L⟩ WC) := by
        subst hWC
        exact (unhide HMB).set (fun _ => blk_set (unhide HMB).own 2 _)
      clear c0 c1 c2 c3 c4 c5 k0 k1 k2 k3 k4 k5 hWC HMB
      obtain ⟨⟨c0, c1, c2, c3, c4, c5⟩, k0, k1, k2, k3, k4, k5⟩ := six_at (unhide HMC).own
      dsimp only at c0 c1 c2 c3 c4 c5
      obtain ⟨⟨d0, d1, d2, d3, d4, d5⟩, f0, f1, f2, f3, f4, f5⟩ := six_at (unhide HMC).res
      go_wp2_with fail
      refine bodyPost_at (fun W' hW' => ?_)
      obtain ⟨hblk, hcd, hkd⟩ := (unhide HMC).done hW'
      obtain ⟨⟨r0, r1, r2, r3, r4, r5⟩, _⟩ := six_at hblk
      dsimp only at r0 r1 r2 r3 r4 r5
      refine bodyPost_ret (v := .agg #[.int .i64 S, .int .i64 R, .int .i64 z, .int .i64 H, .int .i64 T, .int .i64 L]) (by simp [results, Try.results36, go_sem, r0, r1, r2, r3, r4, r5]) rfl ⟨⟨S, R, z, H, T, L⟩, rfl, ?_, hcd, hkd⟩
      unfold Drawn
      dsimp only
      omega
    by_cases x3 : x = 3
    · subst x3
      go_wp2_with fail
      refine (l01PickInt c wa.heap.size 2 [-1, 1000000001] _ (cur_new (unhide HMA).cur _) (by have := (unhide HMA).cur.lt; omega) (by simp) (by simp) (fun i hi => lit_ints wa [-1, 1000000001] _ i hi) (by simp)).mono ?_
      rintro e wb ⟨z, rfl, hz, hcb, hkb⟩
      have hz' : -1 ≤ z ∧ z ≤ 1000000001 := by
        simp only [List.mem_cons, List.not_mem_nil, or_false] at hz
        omega
      have HMB := hide ((unhide HMA).step hcb ((keeps_new (c := c) _).trans hkb))
      clear hz hcb hkb HMA
      clear c0 c1 c2 c3 c4 c5 k0 k1 k2 k3 k4 k5 d0 d1 d2 d3 d4 d5 f0 f1 f2 f3 f4 f5 hga
      obtain ⟨⟨c0, c1, c2, c3, c4, c5⟩, k0, k1, k2, k3, k4, k5⟩ := six_at (unhide HMB).own
      dsimp only at c0 c1 c2 c3 c4 c5
      go_upto_region 14 with fail
      refine wp_at (fun WC hWC => ?_)
      have HMC : Hid (Mid w c g ⟨S, R, P, H, T, z⟩ WC) := by
        subst hWC
        exact (unhide HMB).set (fun _ => blk_set (unhide HMB).own 5 _)
      clear c0 c1 c2 c3 c4 c5 k0 k1 k2 k3 k4 k5 hWC HMB
      obtain ⟨⟨c0, c1, c2, c3, c4, c5⟩, k0, k1, k2, k3, k4, k5⟩ := six_at (unhide HMC).own
      dsimp only at c0 c1 c2 c3 c4 c5
      obtain ⟨⟨d0, d1, d2, d3, d4, d5⟩, f0, f1, f2, f3, f4, f5⟩ := six_at (unhide HMC).res
      go_wp2_with fail
      refine bodyPost_at (fun W' hW' => ?_)
      obtain ⟨hblk, hcd, hkd⟩ := (unhide HMC).done hW'
      obtain ⟨⟨r0, r1, r2, r3, r4, r5⟩, _⟩ := six_at hblk
      dsimp only at r0 r1 r2 r3 r4 r5
      refine bodyPost_ret (v := .agg #[.int .i64 S, .int .i64 R, .int .i64 P, .int .i64 H, .int .i64 T, .int .i64 z]) (by simp [results, Try.results36, go_sem, r0, r1, r2, r3, r4, r5]) rfl ⟨⟨S, R, P, H, T, z⟩, rfl, ?_, hcd, hkd⟩
      unfold Drawn
      dsimp only
      omega
    · have e0 : (x == 0) = false := by simp [x0]
      have e1 : (x == 1) = false := by simp [x1]
      have e2 : (x == 2) = false := by simp [x2]
      have e3 : (x == 3) = false := by simp [x3]
      clear c0 c1 c2 c3 c4 c5 k0 k1 k2 k3 k4 k5 d0 d1 d2 d3 d4 d5 f0 f1 f2 f3 f4 f5 hga
      obtain ⟨⟨c0, c1, c2, c3, c4, c5⟩, k0, k1, k2, k3, k4, k5⟩ := six_at (unhide HMA).own
      dsimp only at c0 c1 c2 c3 c4 c5
      obtain ⟨⟨d0, d1, d2, d3, d4, d5⟩, f0, f1, f2, f3, f4, f5⟩ := six_at (unhide HMA).res
      go_wp2_with fail
      refine bodyPost_at (fun W' hW' => ?_)
      obtain ⟨hblk, hcd, hkd⟩ := (unhide HMA).done hW'
      obtain ⟨⟨r0, r1, r2, r3, r4, r5⟩, _⟩ := six_at hblk
      dsimp only at r0 r1 r2 r3 r4 r5
      refine bodyPost_ret (v := .agg #[.int .i64 S, .int .i64 R, .int .i64 P, .int .i64 H, .int .i64 T, .int .i64 L]) (by simp [results, Try.results36, go_sem, r0, r1, r2, r3, r4, r5]) rfl ⟨⟨S, R, P, H, T, L⟩, rfl, ?_, hcd, hkd⟩
      unfold Drawn
      dsimp only
      omega
end Go.Proofs.Ythjpjamihlopeaa
