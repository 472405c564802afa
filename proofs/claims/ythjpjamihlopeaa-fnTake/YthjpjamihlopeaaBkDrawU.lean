/-
  The draw of chapter 2 for Until.
-/
import Derived.Test.YthjpjamihlopeaaBkDrawF
namespace Go.Proofs.Ythjpjamihlopeaa
open Go.RowKit
open Mth

set_option maxRecDepth 100000 in
set_option maxHeartbeats 2000000 in
theorem drawUntil (a : Option Addr) (len cap : Nat) (w : World) (hcode : CodeOk w a len) : Calls Try.prog 23 #[.slice a len cap] w fun e w' => ∃ (b : Bk) (n : Int), e = .returned (.tuple #[bkv b, .int .i64 n]) ∧ Below w.heap.size w w' := by
  have HC := hide hcode
  clear hcode
  go_enter Try.func23, Try.ntmps23
  go_wp2_with fail
  refine (l01NewC a len cap w _ (unhide HC)).mono ?_
  rintro e w1 ⟨rfl, hc1, hr1, hb1⟩
  go_wp2_with fail
  refine (l02Bucket _ _ hc1).mono ?_
  rintro e w2 ⟨b, rfl, hd, hc2, hk2⟩
  have HR2 := hide (blk_keeps hr1 hk2 (by omega))
  have HB2 := hide (hb1.trans (hk2.below (B := w.heap.size) (by omega) hb1.size))
  have HD := hide hd
  have HC2 := hide hc2
  clear hr1 hb1 hc1 hc2 hk2
  obtain ⟨S, R, P, H, T, L⟩ := b
  unfold Drawn at hd
  dsimp only at hd
  go_upto_region 3 with fail
  refine wp_at (fun W3 hW3 => ?_)
  have HM : Hid (DMid w bk0 w2.heap.size ⟨S, R, P, H, T, L⟩ W3) := by
    subst hW3
    exact DMid.make (unhide HR2) (unhide HC2) (unhide HB2)
  clear hW3 HR2 HC2 HB2
  have hbg := (unhide HM).beyond
  generalize w2.heap.size = g at *
  obtain ⟨⟨c0, c1, c2, c3, c4, c5⟩, _⟩ := six_at (unhide HM).own
  dsimp only at c0 c1 c2 c3 c4 c5
  have hne1 : w.heap.size ≠ g := by omega
  have hne2 : g ≠ w.heap.size := by omega
  go_region_held (fun w' => w'.cell? ⟨g, 0, none⟩ = some (.int .i64 S) ∧ w'.cell? ⟨g, 1, none⟩ = some (.int .i64 R) ∧ w'.cell? ⟨g, 2, none⟩ = some (.int .i64 P) ∧ w'.cell? ⟨g, 3, none⟩ = some (.int .i64 H) ∧ w'.cell? ⟨g, 4, none⟩ = some (.int .i64 T) ∧ w'.cell? ⟨g, 5, none⟩ = some (.int .i64 L)) (go_keep)
    (first | (go_at_call 37; refine (l01PickInt _ W3.heap.size 8 [0, 1, 5, S, IntKind.i64.wrap (S + 1), -1, H, IntKind.i64.wrap (H + 1)] _ ?_ (by have := (unhide HM).cur.lt; omega) (by simp) (by simp) (fun i hi => lit_ints W3.drew [0, 1, 5, S, IntKind.i64.wrap (S + 1), -1, H, IntKind.i64.wrap (H + 1)] _ i hi) (by simp)).mono ?_; exact cur_new (w := W3.drew) (unhide HM).cur _; rintro e w5 ⟨z, rfl, _, hc5, hk5⟩; have HM5 := hide ((unhide HM).step hc5 (Keeps_of_drew ((keeps_new (w := W3.drew) _).trans hk5))); clear hc5 hk5; obtain ⟨⟨b0, b1, b2, b3, b4, b5⟩, _⟩ := six_at (unhide HM5).own; dsimp only at b0 b1 b2 b3 b4 b5; obtain ⟨⟨d0, d1, d2, d3, d4, d5⟩, f0, f1, f2, f3, f4, f5⟩ := six_at (unhide HM5).res))
  all_goals
    go_wp2_with fail
    refine bodyPost_at (fun W' hW' => ?_)
    obtain ⟨hblk, hbl⟩ := (unhide HM5).done hW'
    obtain ⟨⟨r0, r1, r2, r3, r4, r5⟩, _⟩ := six_at hblk
    dsimp only at r0 r1 r2 r3 r4 r5
    refine bodyPost_ret (v := .tuple #[.agg #[.int .i64 S, .int .i64 R, .int .i64 P, .int .i64 H, .int .i64 T, .int .i64 L], .int .i64 z]) (by simp [results, Try.results23, go_sem, r0, r1, r2, r3, r4, r5]) rfl ⟨⟨S, R, P, H, T, L⟩, z, rfl, hbl⟩

end Go.Proofs.Ythjpjamihlopeaa
