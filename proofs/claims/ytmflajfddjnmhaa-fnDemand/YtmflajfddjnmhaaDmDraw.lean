/-
  The draws of chapter 11: a demand, whatever it is.
-/
import Derived.Test.YtmflajfddjnmhaaDrawBase
import Derived.Test.YtmflajfddjnmhaaDmS4
namespace Go.Proofs.Ytmflajfddjnmhaa
open Go.RowKit
open Mth

theorem dm_keeps {w w' : World} {g c : Nat} {o : Obj} (h : w.heap[g]? = some o) (hk : Keeps c w w') (hne : g ≠ c) : w'.heap[g]? = some o := by
  rw [hk.block g (dm_lt h) hne]; exact h
theorem dm_ks {w : World} {c g i : Nat} {v : Value} (h : w.heap.size ≤ g) (w' : World) (hk : Keeps c w w') : Keeps c w (w'.setCell ⟨g, i, none⟩ v) :=
  ⟨hk.os, hk.tape, hk.output, by simp [World.setCell]; exact hk.size, fun k hkl hne => (Below.heap_setCell _ _ _ _ (by dsimp only; omega)).trans (hk.block k hkl hne)⟩

/-- Where the walk of a demand's draw stands: the cursor, the result's block, the demand's own block. -/
structure DMid (w : World) (c g : Nat) (d : Dm) (w' : World) : Prop where
  cur : Cur w' c
  keeps : Keeps c w w'
  res : w'.heap[w.heap.size]? = some (dmo ⟨0, 0, 0⟩)
  own : w'.heap[g]? = some (dmo d)
  beyond : w.heap.size < g
  cbelow : c < w.heap.size
theorem DMid.step {w w1 w2 : World} {c g : Nat} {d : Dm} (h : DMid w c g d w1) (hc : Cur w2 c) (hk : Keeps c w1 w2) : DMid w c g d w2 :=
  ⟨hc, h.keeps.trans hk, dm_keeps h.res hk (by have := h.cbelow; omega), dm_keeps h.own hk (by have := h.beyond; have := h.cbelow; omega), h.beyond, h.cbelow⟩
theorem DMid.drew {w w1 : World} {c g : Nat} {d : Dm} (h : DMid w c g d w1) : DMid w c g d w1.drew := ⟨h.cur, ⟨h.keeps.os, h.keeps.tape, h.keeps.output, h.keeps.size, h.keeps.block⟩, h.res, h.own, h.beyond, h.cbelow⟩
theorem DMid.below {w w1 w2 : World} {c g : Nat} {d : Dm} (h : DMid w c g d w1) (hb : Below w1.heap.size w1 w2) : DMid w c g d w2 := h.step (h.cur.keep_below hb) (Keeps.of_below hb)
theorem DMid.set {w w1 : World} {c g i : Nat} {d d' : Dm} {v : Value} (h : DMid w c g d w1) (he : (w1.setCell ⟨g, i, none⟩ v).heap[g]? = some (dmo d')) : DMid w c g d' (w1.setCell ⟨g, i, none⟩ v) := by
  have hg := h.beyond
  have hcb := h.cbelow
  refine ⟨?_, dm_ks (by omega) w1 h.keeps, ?_, he, h.beyond, h.cbelow⟩
  · exact h.cur.below (B := g) ((Below.refl _ _).setCell (p := ⟨g, i, none⟩) (Nat.le_refl _) _) (by omega)
  · exact dm_other h.res (by omega)
theorem DMid.all {w w1 : World} {c g : Nat} {d d' : Dm} (h : DMid w c g d w1) : DMid w c g d' (((w1.setCell ⟨g, 0, none⟩ (.int .i64 d'.A)).setCell ⟨g, 1, none⟩ (.int .i64 d'.C)).setCell ⟨g, 2, none⟩ (.int .i64 d'.O)) :=
  ((h.set (d' := ⟨d'.A, d.C, d.O⟩) (dm_set h.own 0 _)).set (d' := ⟨d'.A, d'.C, d.O⟩) (dm_set (dm_set h.own 0 _) 1 _)).set (dm_set (dm_set (dm_set h.own 0 _) 1 _) 2 _)
/-- The demand handed back. -/
theorem DMid.done {w w1 : World} {c g : Nat} {d : Dm} (h : DMid w c g d w1) {W' : World} (hW : W' = ((w1.setCell ⟨w.heap.size, 0, none⟩ (.int .i64 d.A)).setCell ⟨w.heap.size, 1, none⟩ (.int .i64 d.C)).setCell ⟨w.heap.size, 2, none⟩ (.int .i64 d.O)) :
    W'.heap[w.heap.size]? = some (dmo d) ∧ Cur W' c ∧ Keeps c w W' := by
  subst hW
  refine ⟨dm_all h.res, h.cur.below (B := w.heap.size) (dm_below (Below.refl _ _) (Nat.le_refl _)) h.cbelow, ?_⟩
  exact dm_ks (Nat.le_refl _) _ (dm_ks (Nat.le_refl _) _ (dm_ks (Nat.le_refl _) _ h.keeps))

set_option maxRecDepth 100000 in
set_option maxHeartbeats 4000000 in
theorem l11Demand (c : Nat) (w : World) (hc : Cur w c) : Calls Try.prog 31 #[.pointer (some ⟨c, 0, none⟩)] w fun e w' => ∃ d : Dm, e = .returned (dmv d) ∧ Cur w' c ∧ Keeps c w w' := by
  have hcl := hc.lt
  have HC := hide hc
  clear hc
  go_enter Try.func31, Try.ntmps31
  go_wp2_with fail
  have HM0 : Hid (DMid w c (w.heap.size + 1) ⟨0, 0, 0⟩ ((w.alloc (dmo ⟨0, 0, 0⟩)).alloc (dmo ⟨0, 0, 0⟩))) := by
    refine ⟨cur_new (cur_new (unhide HC) _) _, (keeps_new _).trans (keeps_new _), ?_, ?_, by omega, hcl⟩
    · exact (Below.heap_alloc _ _ _ (by simp)).trans (heap_alloc_new w _)
    · have h := heap_alloc_new (w.alloc (dmo ⟨0, 0, 0⟩)) (dmo ⟨0, 0, 0⟩)
      rwa [show (w.alloc (dmo ⟨0, 0, 0⟩)).heap.size = w.heap.size + 1 by simp] at h
  refine (l01Below c 6 _ (unhide HM0).cur (by omega) (by omega)).mono ?_
  rintro e w1 ⟨n, rfl, n0, n1, hc1, hk1⟩
  have HM1 := hide ((unhide HM0).step hc1 hk1)
  clear hc1 hk1 HM0 HC
  obtain ⟨nn, rfl⟩ := Int.eq_ofNat_of_zero_le n0
  go_wp2_with fail
  go_loopw [5] (fun i wr => ∃ (k : Nat) (d : Dm), k ≤ nn ∧ i = .int .i64 k ∧ DMid w c (w.heap.size + 1) d wr) (fun i _ => nn - (intOf i).toNat)
  case atStart => exact ⟨0, _, Nat.zero_le _, rfl, unhide HM1⟩
  case round =>
    obtain ⟨k, d, hk, rfl, hM⟩ := hrel
    have HM := hide hM
    clear hM HM1
    obtain ⟨A, C, O⟩ := d
    by_cases hlt : k < nn
    · obtain ⟨⟨c0, c1, c2⟩, k0, k1, k2⟩ := dm_at (unhide HM).own
      dsimp only at c0 c1 c2
      go_upto_region 6 with fail
      go_region_with (first
        | (go_at_call 40; refine (l01Below c 50 _ (unhide HM).drew.cur (by omega) (by omega)).mono ?_; rintro e w4 ⟨x, rfl, x0, x1, hc4, hk4⟩; have HM4 := hide ((unhide HM).drew.step hc4 hk4); clear hc4 hk4; obtain ⟨⟨i0, i1, i2⟩, ik0, ik1, ik2⟩ := dm_at (unhide HM4).own; dsimp only at i0 i1 i2)
        | (go_at_call 19; refine (specDemandAsk ⟨A, C, O⟩ x _).mono ?_; rintro e w5 ⟨he, hb5⟩; generalize Dm.ask ⟨A, C, O⟩ x = d5 at he; obtain ⟨A5, C5, O5⟩ := d5; subst he; have HM5 := hide ((unhide HM4).below hb5); clear hb5; obtain ⟨⟨j0, j1, j2⟩, jk0, jk1, jk2⟩ := dm_at (unhide HM5).own; dsimp only at j0 j1 j2))
      all_goals
        go_upto_region 7 with fail
        refine dm_wp (fun W6 hW6 => ?_)
        have HM6 : Hid (DMid w c (w.heap.size + 1) ⟨A5, C5, O5⟩ W6) := by rw [hW6]; exact (unhide HM5).all (d' := ⟨A5, C5, O5⟩)
        clear hW6 HM HM4 HM5 c0 c1 c2 k0 k1 k2 i0 i1 i2 ik0 ik1 ik2 j0 j1 j2 jk0 jk1 jk2
        go_wp2_with fail
        refine (l01Once c 2 _ (unhide HM6).cur (by omega) (by omega)).mono ?_
        rintro e w7 ⟨b, rfl, hc7, hk7⟩
        have HM7 := hide ((unhide HM6).step hc7 hk7)
        clear hc7 hk7 HM6
        cases b
        · go_wp2_with fail
          go_roundw
          case rel => exact ⟨k + 1, _, by omega, by go_num, unhide HM7⟩
          case measure => simp [intOf]; omega
        · obtain ⟨⟨c0, c1, c2⟩, k0, k1, k2⟩ := dm_at (unhide HM7).own
          dsimp only at c0 c1 c2
          go_wp2_with fail
          refine (specDemandTick ⟨A5, C5, O5⟩ _).mono ?_
          rintro e w8 ⟨he, hb8⟩
          generalize Dm.tick ⟨A5, C5, O5⟩ = d8 at he
          obtain ⟨A8, C8, O8⟩ := d8
          subst he
          have HM8 := hide ((unhide HM7).below hb8)
          clear hb8 c0 c1 c2 k0 k1 k2 HM7
          obtain ⟨⟨c0, c1, c2⟩, k0, k1, k2⟩ := dm_at (unhide HM8).own
          dsimp only at c0 c1 c2
          go_wp2_with fail
          go_roundw
          case rel => exact ⟨k + 1, ⟨A8, C8, O8⟩, by omega, by go_num, (unhide HM8).all (d' := ⟨A8, C8, O8⟩)⟩
          case measure => simp [intOf]; omega
    · have hke : k = nn := by omega
      subst hke
      have hnlt : decide ((k : Int) < (k : Int)) = false := by simp
      go_wp2_with fail
      refine (l01Below c 14 _ (unhide HM).cur (by omega) (by omega)).mono ?_
      rintro e w9 ⟨x, rfl, x0', x1', hc9, hk9⟩
      have HM9 := hide ((unhide HM).step hc9 hk9)
      clear hc9 hk9 HM hlt
      by_cases x0 : x = 0
      · subst x0
        go_wp2_with fail
        refine (l01PickInt c w9.heap.size 4 [-1, 16000000000, 16000000001, 15] _ (cur_new (unhide HM9).cur _) (by have := (unhide HM9).cur.lt; omega) (by simp) (by simp) (fun i hi => lit_ints w9 [-1, 16000000000, 16000000001, 15] _ i hi) (by simp)).mono ?_
        rintro e wb ⟨z, rfl, hz, hcb, hkb⟩
        have HMB := hide ((unhide HM9).step hcb ((keeps_new (c := c) _).trans hkb))
        clear hz hcb hkb HM9
        obtain ⟨⟨c0, c1, c2⟩, k0, k1, k2⟩ := dm_at (unhide HMB).own
        dsimp only at c0 c1 c2
        go_upto_region 16 with fail
        refine dm_wp (fun WC hWC => ?_)
        have HMC : Hid (DMid w c (w.heap.size + 1) ⟨z, C, O⟩ WC) := by
          subst hWC
          exact (unhide HMB).set (dm_set (unhide HMB).own 0 _)
        clear c0 c1 c2 k0 k1 k2 hWC HMB
        obtain ⟨⟨c0, c1, c2⟩, k0, k1, k2⟩ := dm_at (unhide HMC).own
        obtain ⟨⟨d0, d1, d2⟩, f0, f1, f2⟩ := dm_at (unhide HMC).res
        dsimp only at c0 c1 c2 d0 d1 d2
        go_wp2_with fail
        refine dm_post (fun W' hW' => ?_)
        obtain ⟨hblk, hcd, hkd⟩ := (unhide HMC).done hW'
        obtain ⟨⟨r0, r1, r2⟩, _⟩ := dm_at hblk
        dsimp only at r0 r1 r2
        refine bodyPost_ret (v := .agg #[.int .i64 z, .int .i64 C, .int .i64 O]) (by simp [results, Try.results31, go_sem, r0, r1, r2]) rfl ⟨⟨z, C, O⟩, rfl, hcd, hkd⟩
      by_cases x1 : x = 1
      · subst x1
        go_wp2_with fail
        refine (l01PickInt c w9.heap.size 3 [-1, 1000000000, 1000000001] _ (cur_new (unhide HM9).cur _) (by have := (unhide HM9).cur.lt; omega) (by simp) (by simp) (fun i hi => lit_ints w9 [-1, 1000000000, 1000000001] _ i hi) (by simp)).mono ?_
        rintro e wb ⟨z, rfl, hz, hcb, hkb⟩
        have HMB := hide ((unhide HM9).step hcb ((keeps_new (c := c) _).trans hkb))
        clear hz hcb hkb HM9
        obtain ⟨⟨c0, c1, c2⟩, k0, k1, k2⟩ := dm_at (unhide HMB).own
        dsimp only at c0 c1 c2
        go_upto_region 16 with fail
        refine dm_wp (fun WC hWC => ?_)
        have HMC : Hid (DMid w c (w.heap.size + 1) ⟨A, C, z⟩ WC) := by
          subst hWC
          exact (unhide HMB).set (dm_set (unhide HMB).own 2 _)
        clear c0 c1 c2 k0 k1 k2 hWC HMB
        obtain ⟨⟨c0, c1, c2⟩, k0, k1, k2⟩ := dm_at (unhide HMC).own
        obtain ⟨⟨d0, d1, d2⟩, f0, f1, f2⟩ := dm_at (unhide HMC).res
        dsimp only at c0 c1 c2 d0 d1 d2
        go_wp2_with fail
        refine dm_post (fun W' hW' => ?_)
        obtain ⟨hblk, hcd, hkd⟩ := (unhide HMC).done hW'
        obtain ⟨⟨r0, r1, r2⟩, _⟩ := dm_at hblk
        dsimp only at r0 r1 r2
        refine bodyPost_ret (v := .agg #[.int .i64 A, .int .i64 C, .int .i64 z]) (by simp [results, Try.results31, go_sem, r0, r1, r2]) rfl ⟨⟨A, C, z⟩, rfl, hcd, hkd⟩
      by_cases x2 : x = 2
      · subst x2
        go_wp2_with fail
        refine (l01PickInt c w9.heap.size 3 [-1, 1000000000, 1000000001] _ (cur_new (unhide HM9).cur _) (by have := (unhide HM9).cur.lt; omega) (by simp) (by simp) (fun i hi => lit_ints w9 [-1, 1000000000, 1000000001] _ i hi) (by simp)).mono ?_
        rintro e wb ⟨z, rfl, hz, hcb, hkb⟩
        have HMB := hide ((unhide HM9).step hcb ((keeps_new (c := c) _).trans hkb))
        clear hz hcb hkb HM9
        obtain ⟨⟨c0, c1, c2⟩, k0, k1, k2⟩ := dm_at (unhide HMB).own
        dsimp only at c0 c1 c2
        go_upto_region 16 with fail
        refine dm_wp (fun WC hWC => ?_)
        have HMC : Hid (DMid w c (w.heap.size + 1) ⟨A, z, O⟩ WC) := by
          subst hWC
          exact (unhide HMB).set (dm_set (unhide HMB).own 1 _)
        clear c0 c1 c2 k0 k1 k2 hWC HMB
        obtain ⟨⟨c0, c1, c2⟩, k0, k1, k2⟩ := dm_at (unhide HMC).own
        obtain ⟨⟨d0, d1, d2⟩, f0, f1, f2⟩ := dm_at (unhide HMC).res
        dsimp only at c0 c1 c2 d0 d1 d2
        go_wp2_with fail
        refine dm_post (fun W' hW' => ?_)
        obtain ⟨hblk, hcd, hkd⟩ := (unhide HMC).done hW'
        obtain ⟨⟨r0, r1, r2⟩, _⟩ := dm_at hblk
        dsimp only at r0 r1 r2
        refine bodyPost_ret (v := .agg #[.int .i64 A, .int .i64 z, .int .i64 O]) (by simp [results, Try.results31, go_sem, r0, r1, r2]) rfl ⟨⟨A, z, O⟩, rfl, hcd, hkd⟩
      have e0 : (x == 0) = false := by simp [x0]
      have e1 : (x == 1) = false := by simp [x1]
      have e2 : (x == 2) = false := by simp [x2]
      have HMC := HM9
      clear HM9
      obtain ⟨⟨c0, c1, c2⟩, k0, k1, k2⟩ := dm_at (unhide HMC).own
      obtain ⟨⟨d0, d1, d2⟩, f0, f1, f2⟩ := dm_at (unhide HMC).res
      dsimp only at c0 c1 c2 d0 d1 d2
      go_wp2_with fail
      refine dm_post (fun W' hW' => ?_)
      obtain ⟨hblk, hcd, hkd⟩ := (unhide HMC).done hW'
      obtain ⟨⟨r0, r1, r2⟩, _⟩ := dm_at hblk
      dsimp only at r0 r1 r2
      refine bodyPost_ret (v := .agg #[.int .i64 A, .int .i64 C, .int .i64 O]) (by simp [results, Try.results31, go_sem, r0, r1, r2]) rfl ⟨⟨A, C, O⟩, rfl, hcd, hkd⟩
end Go.Proofs.Ytmflajfddjnmhaa
