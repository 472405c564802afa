/-
  What the draws of chapter 2 share, and the draw for Fill.
-/
import Derived.Test.YthjpjamihlopeaaBkDraw
import Derived.Deep.RegionHeld
namespace Go.Proofs.Ythjpjamihlopeaa
open Go.RowKit
open Mth

theorem alloc_size (w : World) (o : Obj) : (w.alloc o).heap.size = w.heap.size + 1 := by simp
theorem l01NewC (a : Option Addr) (len cap : Nat) (w : World) (o : Obj) (h : CodeOk w a len) : Calls Try.prog 35 #[.slice a len cap] (w.alloc o) fun e w' => e = .returned (.pointer (some ⟨w.heap.size + 1, 0, none⟩)) ∧ Cur w' (w.heap.size + 1) ∧ w'.heap[w.heap.size]? = some o ∧ Below w.heap.size w w' := by
  have h1 := h.below (below_one w o)
  refine (l01New a len cap _ h1.1 h1.2).mono ?_
  rintro e w' ⟨rfl, hc, hb⟩
  rw [alloc_size] at hc hb ⊢
  have hb' : Below (w.alloc o).heap.size (w.alloc o) w' := by rw [alloc_size]; exact hb
  exact ⟨rfl, hc, blk_step (heap_alloc_new w o) hb', (below_one w o).trans (hb.mono (by omega))⟩

/-- Where the walk of a draw stands: the result's block, the cursor, the bucket's own block. -/
structure DMid (w : World) (o : Obj) (g : Nat) (b : Bk) (w' : World) : Prop where
  res : w'.heap[w.heap.size]? = some o
  cur : Cur w' (w.heap.size + 1)
  below : Below w.heap.size w w'
  own : w'.heap[g]? = some (bko b)
  beyond : w.heap.size + 1 < g
theorem DMid.step {w w1 w2 : World} {o : Obj} {g : Nat} {b : Bk} (h : DMid w o g b w1) (hc : Cur w2 (w.heap.size + 1)) (hk : Keeps (w.heap.size + 1) w1 w2) : DMid w o g b w2 :=
  ⟨blk_keeps h.res hk (by omega), hc, h.below.trans (hk.below (B := w.heap.size) (by omega) h.below.size), blk_keeps h.own hk (by have := h.beyond; omega), h.beyond⟩
theorem DMid.make {w w1 : World} {o : Obj} {b : Bk} (hr : w1.heap[w.heap.size]? = some o) (hc : Cur w1 (w.heap.size + 1)) (hb : Below w.heap.size w w1) : DMid w o w1.heap.size b (w1.alloc (bko b)) := by
  have hl := hc.lt
  exact ⟨blk_keeps (c := w.heap.size + 1) hr (keeps_new _) (by omega), cur_new hc _, hb.alloc hb.size _, heap_alloc_new w1 _, hl⟩

theorem _root_.Go.RowKit.Keeps_of_drew {c : Nat} {w w' : World} (h : Keeps c w.drew w') : Keeps c w w' := ⟨h.os, h.tape, h.output, h.size, h.block⟩
/-- The bucket handed back beside something else. -/
theorem DMid.done {w w1 : World} {g : Nat} {b : Bk} (h : DMid w bk0 g b w1) {W' : World} (hW : W' = ((((((w1.setCell ⟨w.heap.size, 0, none⟩ (.int .i64 b.S)).setCell ⟨w.heap.size, 1, none⟩ (.int .i64 b.R)).setCell ⟨w.heap.size, 2, none⟩ (.int .i64 b.P)).setCell ⟨w.heap.size, 3, none⟩ (.int .i64 b.H)).setCell ⟨w.heap.size, 4, none⟩ (.int .i64 b.T)).setCell ⟨w.heap.size, 5, none⟩ (.int .i64 b.L))) :
    W'.heap[w.heap.size]? = some (bko b) ∧ Below w.heap.size w W' := by
  subst hW
  exact ⟨six_set h.res, six_below h.below (Nat.le_refl _)⟩

set_option maxRecDepth 100000 in
set_option maxHeartbeats 2000000 in
theorem drawFill (a : Option Addr) (len cap : Nat) (w : World) (hcode : CodeOk w a len) : Calls Try.prog 11 #[.slice a len cap] w fun e w' => ∃ (b : Bk) (n : Int), e = .returned (.tuple #[bkv b, .int .i64 n]) ∧ Below w.heap.size w w' := by
  have HC := hide hcode
  clear hcode
  go_enter Try.func11, Try.ntmps11
  go_wp2_with fail
  refine (l01NewC a len cap w _ (unhide HC)).mono ?_
  rintro e w1 ⟨rfl, hc1, hr1, hb1⟩
  go_wp2_with fail
  refine (l02Bucket _ _ hc1).mono ?_
  rintro e w2 ⟨b, rfl, hd, hc2, hk2⟩
  have HR2 := hide (blk_keeps hr1 hk2 (by omega))
  have HB2 := hide (hb1.trans (hk2.below (B := w.heap.size) (by omega) hb1.size))
  have HD := hide hd
  have HC2 := hide hc2
  clear hr1 hb1 hc1 hc2 hk2
  obtain ⟨S, R, P, H, T, L⟩ := b
  unfold Drawn at hd
  dsimp only at hd
  go_upto_region 3 with fail
  refine wp_at (fun W3 hW3 => ?_)
  have HM : Hid (DMid w bk0 w2.heap.size ⟨S, R, P, H, T, L⟩ W3) := by
    subst hW3
    exact DMid.make (unhide HR2) (unhide HC2) (unhide HB2)
  clear hW3 HR2 HC2 HB2
  have hbg := (unhide HM).beyond
  generalize w2.heap.size = g at *
  obtain ⟨⟨c0, c1, c2, c3, c4, c5⟩, _⟩ := six_at (unhide HM).own
  dsimp only at c0 c1 c2 c3 c4 c5
  have hne1 : w.heap.size ≠ g := by omega
  have hne2 : g ≠ w.heap.size := by omega
  go_region_held (fun w' => w'.cell? ⟨g, 0, none⟩ = some (.int .i64 S) ∧ w'.cell? ⟨g, 1, none⟩ = some (.int .i64 R) ∧ w'.cell? ⟨g, 2, none⟩ = some (.int .i64 P) ∧ w'.cell? ⟨g, 3, none⟩ = some (.int .i64 H) ∧ w'.cell? ⟨g, 4, none⟩ = some (.int .i64 T) ∧ w'.cell? ⟨g, 5, none⟩ = some (.int .i64 L)) (go_keep)
    (first
      | (go_at_call 38; refine (l01Below _ 40 _ ?_ (by omega) (by omega)).mono ?_; exact (unhide HM).cur; rintro e w4 ⟨x, rfl, hx0, hx1, hc4, hk4⟩; have HM4 := hide ((unhide HM).step hc4 (Keeps_of_drew hk4)); clear hc4 hk4; obtain ⟨⟨a0, a1, a2, a3, a4, a5⟩, _⟩ := six_at (unhide HM4).own; dsimp only at a0 a1 a2 a3 a4 a5)
      | (go_at_call 37; refine (l01PickInt _ w4.heap.size 5 [L, IntKind.i64.wrap (L + x), IntKind.i64.wrap (L - 1), 1000000000, 1000000001] _ (cur_new (unhide HM4).cur _) (by have := (unhide HM4).cur.lt; omega) (by simp) (by simp) (fun i hi => lit_ints w4 [L, IntKind.i64.wrap (L + x), IntKind.i64.wrap (L - 1), 1000000000, 1000000001] _ i hi) (by simp)).mono ?_; rintro e w5 ⟨z, rfl, _, hc5, hk5⟩; have HM5 := hide ((unhide HM4).step hc5 ((keeps_new _).trans hk5)); clear hc5 hk5; obtain ⟨⟨b0, b1, b2, b3, b4, b5⟩, _⟩ := six_at (unhide HM5).own; dsimp only at b0 b1 b2 b3 b4 b5; obtain ⟨⟨d0, d1, d2, d3, d4, d5⟩, f0, f1, f2, f3, f4, f5⟩ := six_at (unhide HM5).res))
  all_goals
    go_wp2_with fail
    refine bodyPost_at (fun W' hW' => ?_)
    obtain ⟨hblk, hbl⟩ := (unhide HM5).done hW'
    obtain ⟨⟨r0, r1, r2, r3, r4, r5⟩, _⟩ := six_at hblk
    dsimp only at r0 r1 r2 r3 r4 r5
    refine bodyPost_ret (v := .tuple #[.agg #[.int .i64 S, .int .i64 R, .int .i64 P, .int .i64 H, .int .i64 T, .int .i64 L], .int .i64 z]) (by simp [results, Try.results11, go_sem, r0, r1, r2, r3, r4, r5]) rfl ⟨⟨S, R, P, H, T, L⟩, z, rfl, hbl⟩

end Go.Proofs.Ythjpjamihlopeaa
