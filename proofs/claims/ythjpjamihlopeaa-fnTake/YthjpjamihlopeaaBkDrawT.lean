/-
  The draw of chapter 2 for Take.
-/
import Derived.Test.YthjpjamihlopeaaBkDrawF
namespace Go.Proofs.Ythjpjamihlopeaa
open Go.RowKit
open Mth

set_option maxRecDepth 100000 in
set_option maxHeartbeats 2000000 in
theorem drawTake (a : Option Addr) (len cap : Nat) (w : World) (hcode : CodeOk w a len) : Calls Try.prog 20 #[.slice a len cap] w fun e w' => ∃ (b : Bk) (n m : Int), e = .returned (.tuple #[bkv b, .int .i64 n, .int .i64 m]) ∧ Below w.heap.size w w' := by
  have HC := hide hcode
  clear hcode
  go_enter Try.func20, Try.ntmps20
  go_wp2_with fail
  refine (l01NewC a len cap w _ (unhide HC)).mono ?_
  rintro e w1 ⟨rfl, hc1, hr1, hb1⟩
  go_wp2_with fail
  refine (l02Bucket _ _ hc1).mono ?_
  rintro e w2 ⟨b, rfl, hd, hc2, hk2⟩
  have HR2 := hide (blk_keeps hr1 hk2 (by omega))
  have HB2 := hide (hb1.trans (hk2.below (B := w.heap.size) (by omega) hb1.size))
  have HD := hide hd
  have HC2 := hide hc2
  clear hr1 hb1 hc1 hc2 hk2
  obtain ⟨S, R, P, H, T, L⟩ := b
  unfold Drawn at hd
  dsimp only at hd
  go_upto_region 3 with fail
  refine wp_at (fun W3 hW3 => ?_)
  have HM : Hid (DMid w bk0 w2.heap.size ⟨S, R, P, H, T, L⟩ W3) := by
    subst hW3
    exact DMid.make (unhide HR2) (unhide HC2) (unhide HB2)
  clear hW3 HR2 HC2 HB2
  have hbg := (unhide HM).beyond
  generalize w2.heap.size = g at *
  obtain ⟨⟨c0, c1, c2, c3, c4, c5⟩, _⟩ := six_at (unhide HM).own
  dsimp only at c0 c1 c2 c3 c4 c5
  have hne1 : w.heap.size ≠ g := by omega
  have hne2 : g ≠ w.heap.size := by omega
  have hcd : Cur W3.drew (w.heap.size + 1) := (unhide HM).cur
  go_region_held (fun w' => w'.cell? ⟨g, 0, none⟩ = some (.int .i64 S) ∧ w'.cell? ⟨g, 1, none⟩ = some (.int .i64 R) ∧ w'.cell? ⟨g, 2, none⟩ = some (.int .i64 P) ∧ w'.cell? ⟨g, 3, none⟩ = some (.int .i64 H) ∧ w'.cell? ⟨g, 4, none⟩ = some (.int .i64 T) ∧ w'.cell? ⟨g, 5, none⟩ = some (.int .i64 L)) (go_keep)
    (first
      | (go_at_call 38; refine (l01Below _ 20 _ ?_ (by omega) (by omega)).mono ?_; with_reducible_and_instances exact hcd; rintro e w4 ⟨x, rfl, hx0, hx1, hc4, hk4⟩; have HM4 := hide ((unhide HM).step hc4 (Keeps_of_drew hk4)); clear hc4 hk4; obtain ⟨⟨a0, a1, a2, a3, a4, a5⟩, _⟩ := six_at (unhide HM4).own; dsimp only at a0 a1 a2 a3 a4 a5)
      | (go_at_call 38; refine (l01Below _ 20 _ ?_ (by omega) (by omega)).mono ?_; exact cur_new (w := W3) (unhide HM).cur _; rintro e w4 ⟨x, rfl, hx0, hx1, hc4, hk4⟩; have HM4 := hide ((unhide HM).step hc4 ((keeps_new _).trans (Keeps_of_drew hk4))); have HL4 := hide (fun i (hi : i < ([0, 1, 3, S, IntKind.i64.wrap (S + 1), -1] : List Int).length) => ((World.cell?_of_block (hk4.block W3.heap.size (by show W3.heap.size < (W3.alloc _).heap.size; simp) (by have := (unhide HM).cur.lt; omega))).trans (lit_ints W3 [0, 1, 3, S, IntKind.i64.wrap (S + 1), -1] _ i hi))); have hz4 : W3.heap.size < w4.heap.size := Nat.lt_of_lt_of_le (by show W3.heap.size < (W3.alloc _).heap.size; simp) hk4.size; clear hc4 hk4; obtain ⟨⟨a0, a1, a2, a3, a4, a5⟩, _⟩ := six_at (unhide HM4).own; dsimp only at a0 a1 a2 a3 a4 a5)
      | (go_at_call_of 37 (w4.heap.size); refine (l01PickInt _ w4.heap.size 6 [0, 1, 3, S, IntKind.i64.wrap (S + 1), -1] _ (cur_new (unhide HM4).cur _) (by have := (unhide HM4).cur.lt; omega) (by simp) (by simp) (fun i hi => lit_ints w4 [0, 1, 3, S, IntKind.i64.wrap (S + 1), -1] _ i hi) (by simp)).mono ?_; rintro e w5 ⟨z, rfl, _, hc5, hk5⟩; have HM5 := hide ((unhide HM4).step hc5 ((keeps_new _).trans hk5)); clear hc5 hk5; obtain ⟨⟨b0, b1, b2, b3, b4, b5⟩, _⟩ := six_at (unhide HM5).own; dsimp only at b0 b1 b2 b3 b4 b5; obtain ⟨⟨d0, d1, d2, d3, d4, d5⟩, f0, f1, f2, f3, f4, f5⟩ := six_at (unhide HM5).res)
      | (go_at_call_of 37 (W3.heap.size); refine (l01PickInt _ W3.heap.size 6 [0, 1, 3, S, IntKind.i64.wrap (S + 1), -1] w4 (unhide HM4).cur (by have := (unhide HM).cur.lt; omega) (by simp) (by simp) (unhide HL4) hz4).mono ?_; rintro e w5 ⟨z, rfl, _, hc5, hk5⟩; have HM5 := hide ((unhide HM4).step hc5 hk5); clear hc5 hk5; obtain ⟨⟨b0, b1, b2, b3, b4, b5⟩, _⟩ := six_at (unhide HM5).own; dsimp only at b0 b1 b2 b3 b4 b5; obtain ⟨⟨d0, d1, d2, d3, d4, d5⟩, f0, f1, f2, f3, f4, f5⟩ := six_at (unhide HM5).res))
  all_goals
    go_wp2_with fail
    refine bodyPost_at (fun W' hW' => ?_)
    obtain ⟨hblk, hbl⟩ := (unhide HM5).done hW'
    obtain ⟨⟨r0, r1, r2, r3, r4, r5⟩, _⟩ := six_at hblk
    dsimp only at r0 r1 r2 r3 r4 r5
    refine bodyPost_ret (v := .tuple #[.agg #[.int .i64 S, .int .i64 R, .int .i64 P, .int .i64 H, .int .i64 T, .int .i64 L], .int .i64 (IntKind.i64.wrap (IntKind.i64.wrap (L + x) - 1)), .int .i64 z]) (by simp [results, Try.results20, go_sem, r0, r1, r2, r3, r4, r5]) rfl ⟨⟨S, R, P, H, T, L⟩, _, z, rfl, hbl⟩
end Go.Proofs.Ythjpjamihlopeaa
