/-
  The law FnFill: it returns true at every code.
-/
import Derived.Test.YthjpjamihlopeaaBkDrawF
import Derived.Test.YthjpjamihlopeaaBkMath2
import Derived.Test.YthjpjamihlopeaaLawHelp
import Derived.Test.YthjpjamihlopeaaCodeRow
namespace Go.Proofs.Ythjpjamihlopeaa
open Go.RowKit
open Mth

theorem below_of_drew {w w' : World} (h : Below w.drew.heap.size w.drew w') : Below w.heap.size w w' := ⟨h.os, h.tape, h.output, h.size, h.block⟩

/-- The tick in between that the law takes. -/
theorem mid_eq (x L n : Int) (hx0 : 0 ≤ x) (hx1 : x ≤ 255) (hL : 0 ≤ L) (h1 : L ≤ n) (h2 : n ≤ 1000000000) :
    ∃ m, IntKind.i64.wrap (L + IntKind.i64.wrap ((IntKind.i64.wrap (x * IntKind.i64.wrap (n - L))).tdiv 256)) = m ∧ L ≤ m ∧ m ≤ n := by
  have e1 : IntKind.i64.wrap (n - L) = n - L := IntWalk.i64_in _ ⟨by omega, by omega⟩
  have p0 : 0 ≤ x * (n - L) := Int.mul_nonneg hx0 (by omega)
  have p1 : x * (n - L) ≤ 255 * (n - L) := Int.mul_le_mul_of_nonneg_right hx1 (by omega)
  have e2 : IntKind.i64.wrap (x * (n - L)) = x * (n - L) := IntWalk.i64_in _ ⟨by omega, by omega⟩
  have e3 : (x * (n - L)).tdiv 256 = x * (n - L) / 256 := Int.tdiv_eq_ediv_of_nonneg p0
  rw [e1, e2, e3]
  generalize x * (n - L) = y at *
  rw [IntWalk.i64_in (y / 256) ⟨by omega, by omega⟩, IntWalk.i64_in _ ⟨by omega, by omega⟩]
  exact ⟨_, rfl, by omega, by omega⟩

set_option maxRecDepth 100000 in
set_option maxHeartbeats 4000000 in
theorem fnFill_go (a : Option Addr) (len cap : Nat) (w : World) (hcode : CodeOk w a len) : Calls Try.prog 3 #[.slice a len cap] w fun e w' => e = .returned (.bool true) ∧ Below w.heap.size w w' := by
  have hl := hcode.1
  have HC := hide hcode
  clear hcode
  go_enter Try.func3, Try.ntmps3
  go_wp2_with fail
  refine (bigNo a len cap _ hl).mono ?_
  rintro e w0 ⟨rfl, rfl⟩
  go_wp2_with fail
  refine (drawFill a len cap _ (unhide HC)).mono ?_
  rintro e w1 ⟨b, n, rfl, hb1⟩
  have HI := hide (fun w1 => implFill b n w1)
  have HS := hide (fun w1 => specFill b n w1)
  have HO := hide (fun w1 => implBucketOk b w1)
  have HP := hide (fun w1 => specBucketOk b w1)
  have HC0 := hide (show ¬ b.Can n → b.fillAny n = b from fun h => if_neg h)
  have HC1 := hide (show b.Can n → b.fillAny n = b.fill n from fun h => if_pos h)
  obtain ⟨F, hF⟩ : ∃ F, b.fillAny n = F := ⟨_, rfl⟩
  rw [hF] at HI HS HC0 HC1
  clear hF
  obtain ⟨d, hd⟩ : ∃ d, decide b.Ok = d := ⟨_, rfl⟩
  rw [hd] at HO HP
  have HD := hide hd
  clear hd
  obtain ⟨S, R, P, H, T, L⟩ := b
  obtain ⟨S', R', P', H', T', L'⟩ := F
  go_wp2_with fail
  refine (unhide HI _).mono ?_
  rintro e w2 ⟨rfl, hb2⟩
  have hB2 := hide (blk_step (heap_alloc_new w1 _) hb2)
  have hbw2 := (hb1.alloc hb1.size _).trans (hb2.mono (by have := hb1.size; simp; omega))
  clear hb2
  go_upto_region 5 with fail
  refine wp_at (fun W3 hW3 => ?_)
  have HB3 : Hid (W3.heap[w1.heap.size]? = some (bko ⟨S, R, P, H, T, L⟩)) := by
    subst hW3
    exact (Below.heap_alloc _ _ _ (blk_lt (unhide hB2))).trans (unhide hB2)
  have HF3 : Hid (W3.heap[w2.heap.size]? = some (bko ⟨S', R', P', H', T', L'⟩)) := by
    subst hW3
    exact heap_alloc_new w2 _
  have HW3 : Hid (Below w.heap.size w W3) := by
    subst hW3
    exact hbw2.alloc hbw2.size _
  have hne : w1.heap.size < w2.heap.size := blk_lt (unhide hB2)
  have hg1 : w.heap.size ≤ w1.heap.size := hb1.size
  clear hW3 hB2 hbw2 hb1
  generalize w1.heap.size = gb at *
  generalize w2.heap.size = gf at *
  obtain ⟨⟨c0, c1, c2, c3, c4, c5⟩, _⟩ := six_at (unhide HB3)
  obtain ⟨⟨d0, d1, d2, d3, d4, d5⟩, _⟩ := six_at (unhide HF3)
  dsimp only at c0 c1 c2 c3 c4 c5 d0 d1 d2 d3 d4 d5
  go_region_held (fun w' => (w'.cell? ⟨gb, 0, none⟩ = some (.int .i64 S) ∧ w'.cell? ⟨gb, 1, none⟩ = some (.int .i64 R) ∧ w'.cell? ⟨gb, 2, none⟩ = some (.int .i64 P) ∧ w'.cell? ⟨gb, 3, none⟩ = some (.int .i64 H) ∧ w'.cell? ⟨gb, 4, none⟩ = some (.int .i64 T) ∧ w'.cell? ⟨gb, 5, none⟩ = some (.int .i64 L)) ∧
      w'.cell? ⟨gf, 0, none⟩ = some (.int .i64 S') ∧ w'.cell? ⟨gf, 1, none⟩ = some (.int .i64 R') ∧ w'.cell? ⟨gf, 2, none⟩ = some (.int .i64 P') ∧ w'.cell? ⟨gf, 3, none⟩ = some (.int .i64 H') ∧ w'.cell? ⟨gf, 4, none⟩ = some (.int .i64 T') ∧ w'.cell? ⟨gf, 5, none⟩ = some (.int .i64 L')) (go_keep)
    (first
      | (go_at_call 13; refine (unhide HS _).mono ?_; rintro e w4 ⟨rfl, hb4⟩; have HB4 := hide (blk_step (unhide HB3) (below_of_drew hb4)); have HF4 := hide (blk_step (unhide HF3) (below_of_drew hb4)); have HW4 := hide ((unhide HW3).trans ((below_of_drew hb4).mono (unhide HW3).size)); clear hb4; obtain ⟨⟨i0, i1, i2, i3, i4, i5⟩, _⟩ := six_at (unhide HB4); obtain ⟨⟨j0, j1, j2, j3, j4, j5⟩, _⟩ := six_at (unhide HF4); dsimp only at i0 i1 i2 i3 i4 i5 j0 j1 j2 j3 j4 j5)
      | (go_at_call 14; refine (unhide HO _).mono ?_; rintro e w5 ⟨rfl, hb5⟩; have HB5 := hide (blk_step (unhide HB4) hb5); have HF5 := hide (blk_step (unhide HF4) hb5); have HW5 := hide ((unhide HW4).trans (hb5.mono (unhide HW4).size)); clear hb5; obtain ⟨⟨k0, k1, k2, k3, k4, k5⟩, _⟩ := six_at (unhide HB5); obtain ⟨⟨l0, l1, l2, l3, l4, l5⟩, _⟩ := six_at (unhide HF5); dsimp only at k0 k1 k2 k3 k4 k5 l0 l1 l2 l3 l4 l5)
      | (go_at_call 15; refine (unhide HP _).mono ?_; rintro e w6 ⟨rfl, hb6⟩; have HB6 := hide (blk_step (unhide HB5) hb6); have HF6 := hide (blk_step (unhide HF5) hb6); have HW6 := hide ((unhide HW5).trans (hb6.mono (unhide HW5).size)); clear hb6; obtain ⟨⟨m0, m1, m2, m3, m4, m5⟩, _⟩ := six_at (unhide HB6); obtain ⟨⟨n0, n1, n2, n3, n4, n5⟩, _⟩ := six_at (unhide HF6); dsimp only at m0 m1 m2 m3 m4 m5 n0 n1 n2 n3 n4 n5))
  all_goals
    go_upto_region 7 with fail
    clear c0 c1 c2 c3 c4 c5 d0 d1 d2 d3 d4 d5 i0 i1 i2 i3 i4 i5 j0 j1 j2 j3 j4 j5 k0 k1 k2 k3 k4 k5 l0 l1 l2 l3 l4 l5 HB3 HF3 HW3 HB4 HF4 HW4 HB5 HF5 HW5 HI HS
    by_cases hcan : Bk.Can ⟨S, R, P, H, T, L⟩ n
    · have hFe := unhide HC1 hcan
      have hd1 : d = true := by rw [← unhide HD]; exact decide_eq_true hcan.1
      subst hd1
      have HCN := hide hcan
      have hO := hcan.1
      unfold Bk.Ok at hO
      have hL1 := hcan.2.1
      have hL2 := hcan.2.2
      dsimp only at hO hL1 hL2
      have HFE := hide hFe
      clear hcan hFe
      go_wp2_with fail
      refine (unhide HP _).mono ?_
      rintro e w7 ⟨rfl, hb7⟩
      have HB7 := hide (blk_step (unhide HB6) hb7)
      have HF7 := hide (blk_step (unhide HF6) hb7)
      have HW7 := hide ((unhide HW6).trans (hb7.mono (unhide HW6).size))
      clear hb7 m0 m1 m2 m3 m4 m5 n0 n1 n2 n3 n4 n5 HB6 HF6 HW6
      obtain ⟨⟨c0, c1, c2, c3, c4, c5⟩, _⟩ := six_at (unhide HB7)
      obtain ⟨⟨d0, d1, d2, d3, d4, d5⟩, _⟩ := six_at (unhide HF7)
      dsimp only at c0 c1 c2 c3 c4 c5 d0 d1 d2 d3 d4 d5
      go_wp2_with fail
      obtain ⟨x, hx0, hx1, hat⟩ := atX a len cap 3 w7 ((unhide HC).below (unhide HW7)) (by omega)
      have HAT := hide hat
      clear hat
      go_region_held (fun w' => w'.cell? ⟨gb, 5, none⟩ = some (.int .i64 L)) (go_keep)
        (first
          | (go_at_call 16; refine (unhide HAT _ ?_).mono ?_; rfl; rintro e w8 ⟨rfl, rfl⟩))
      all_goals
        go_upto_region 10 with fail
        obtain ⟨m, hm, hm1, hm2⟩ := mid_eq x L n hx0 hx1 (by omega) hL1 hL2
        rw [hm]
        refine wp_at (fun W8 hW8 => ?_)
        have HB8 : Hid (W8.heap[gb]? = some (bko ⟨S, R, P, H, T, L⟩)) := by rw [hW8]; exact unhide HB7
        have HF8 : Hid (W8.heap[gf]? = some (bko ⟨S', R', P', H', T', L'⟩)) := by rw [hW8]; exact unhide HF7
        have HW8 : Hid (Below w.heap.size w W8) := by rw [hW8]; exact (unhide HW7).drew
        have hcan := unhide HCN
        have hmid := mid_can hcan hm1 hm2
        have hHH : H ≤ H' := by have h := fill_more hcan; rw [← unhide HFE] at h; exact h
        have hok := fill_ok hcan
        rw [← unhide HFE] at hok
        have hLn : (L' == n) = true := by have h := hok.2; simpa using h
        have HI1 := hide (fun w1 => implFill ⟨S, R, P, H, T, L⟩ m w1)
        rw [show Bk.fillAny ⟨S, R, P, H, T, L⟩ m = Bk.fill ⟨S, R, P, H, T, L⟩ m from if_pos hmid.1] at HI1
        have HI2 := hide (fun w1 => implFill (Bk.fill ⟨S, R, P, H, T, L⟩ m) n w1)
        rw [show (Bk.fill ⟨S, R, P, H, T, L⟩ m).fillAny n = ⟨S', R', P', H', T', L'⟩ from (if_pos hmid.2).trans ((fill_fill hcan hm1 hm2).trans (unhide HFE).symm)] at HI2
        have HO2 := hide (fun w1 => implBucketOk ⟨S', R', P', H', T', L'⟩ w1)
        rw [show decide (Bk.Ok ⟨S', R', P', H', T', L'⟩) = true from decide_eq_true hok.1] at HO2
        clear hcan hmid hok hm hW8 HB7 HF7 HW7 HCN HFE HC0 HC1 HD HO HP HAT c0 c1 c2 c3 c4 c5 d0 d1 d2 d3 d4 d5
        generalize Bk.fill ⟨S, R, P, H, T, L⟩ m = M at *
        obtain ⟨S1, R1, P1, H1, T1, L1⟩ := M
        obtain ⟨⟨c0, c1, c2, c3, c4, c5⟩, _⟩ := six_at (unhide HB8)
        obtain ⟨⟨d0, d1, d2, d3, d4, d5⟩, _⟩ := six_at (unhide HF8)
        dsimp only at c0 c1 c2 c3 c4 c5 d0 d1 d2 d3 d4 d5
        go_region_held (fun w' => (w'.cell? ⟨gb, 0, none⟩ = some (.int .i64 S) ∧ w'.cell? ⟨gb, 1, none⟩ = some (.int .i64 R) ∧ w'.cell? ⟨gb, 2, none⟩ = some (.int .i64 P) ∧ w'.cell? ⟨gb, 3, none⟩ = some (.int .i64 H) ∧ w'.cell? ⟨gb, 4, none⟩ = some (.int .i64 T) ∧ w'.cell? ⟨gb, 5, none⟩ = some (.int .i64 L)) ∧
            w'.cell? ⟨gf, 0, none⟩ = some (.int .i64 S') ∧ w'.cell? ⟨gf, 1, none⟩ = some (.int .i64 R') ∧ w'.cell? ⟨gf, 2, none⟩ = some (.int .i64 P') ∧ w'.cell? ⟨gf, 3, none⟩ = some (.int .i64 H') ∧ w'.cell? ⟨gf, 4, none⟩ = some (.int .i64 T') ∧ w'.cell? ⟨gf, 5, none⟩ = some (.int .i64 L')) (go_keep)
          (first
            | (go_at_call_of 12 m; refine (unhide HI1 _).mono ?_; rintro e wa ⟨rfl, hba⟩; have HBa := hide (blk_step (unhide HB8) (below_of_drew hba)); have HFa := hide (blk_step (unhide HF8) (below_of_drew hba)); have HWa := hide ((unhide HW8).trans ((below_of_drew hba).mono (unhide HW8).size)); clear hba; obtain ⟨⟨i0, i1, i2, i3, i4, i5⟩, _⟩ := six_at (unhide HBa); obtain ⟨⟨j0, j1, j2, j3, j4, j5⟩, _⟩ := six_at (unhide HFa); dsimp only at i0 i1 i2 i3 i4 i5 j0 j1 j2 j3 j4 j5)
            | (go_at_call_of 12 n; refine (unhide HI2 _).mono ?_; rintro e wb ⟨rfl, hbb⟩; have HBb := hide (blk_step (unhide HBa) hbb); have HFb := hide (blk_step (unhide HFa) hbb); have HWb := hide ((unhide HWa).trans (hbb.mono (unhide HWa).size)); clear hbb; obtain ⟨⟨k0, k1, k2, k3, k4, k5⟩, _⟩ := six_at (unhide HBb); obtain ⟨⟨l0, l1, l2, l3, l4, l5⟩, _⟩ := six_at (unhide HFb); dsimp only at k0 k1 k2 k3 k4 k5 l0 l1 l2 l3 l4 l5)
            | (go_at_call 14; refine (unhide HO2 _).mono ?_; rintro e wd ⟨rfl, hbd⟩; have HBd := hide (blk_step (unhide HBb) hbd); have HFd := hide (blk_step (unhide HFb) hbd); have HWd := hide ((unhide HWb).trans (hbd.mono (unhide HWb).size)); clear hbd; obtain ⟨⟨m0, m1, m2, m3, m4, m5⟩, _⟩ := six_at (unhide HBd); obtain ⟨⟨n0, n1, n2, n3, n4, n5⟩, _⟩ := six_at (unhide HFd); dsimp only at m0 m1 m2 m3 m4 m5 n0 n1 n2 n3 n4 n5))
        all_goals
          go_wp2_with fail
          go_ret
          exact ⟨by simp, unhide HWd⟩
    · have hFe := unhide HC0 hcan
      injection hFe with e1 e2 e3 e4 e5 e6
      subst e1 e2 e3 e4 e5 e6
      by_cases hOk : d = true
      · subst hOk
        have hok : Bk.Ok ⟨S', R', P', H', T', L'⟩ := of_decide_eq_true (unhide HD)
        have hcn : ¬ (L' ≤ n ∧ n ≤ 1000000000) := fun h => hcan ⟨hok, h⟩
        clear hok hcan HC0 HC1
        by_cases hnL : n < L'
        · go_wp2_with (first | (go_at_call 15; refine (unhide HP _).mono ?_; rintro e w7 ⟨rfl, hb7⟩; have HB7 := hide (blk_step (unhide HB6) hb7); have HF7 := hide (blk_step (unhide HF6) hb7); have HW7 := hide ((unhide HW6).trans (hb7.mono (unhide HW6).size)); clear hb7 m0 m1 m2 m3 m4 m5 n0 n1 n2 n3 n4 n5 HB6 HF6 HW6; obtain ⟨⟨c0, c1, c2, c3, c4, c5⟩, _⟩ := six_at (unhide HB7); obtain ⟨⟨d0, d1, d2, d3, d4, d5⟩, _⟩ := six_at (unhide HF7); dsimp only at c0 c1 c2 c3 c4 c5 d0 d1 d2 d3 d4 d5))
          go_ret
          exact ⟨rfl, unhide HW7⟩
        · have hnM : 1000000000 < n := by omega
          go_wp2_with (first | (go_at_call 15; refine (unhide HP _).mono ?_; rintro e w7 ⟨rfl, hb7⟩; have HB7 := hide (blk_step (unhide HB6) hb7); have HF7 := hide (blk_step (unhide HF6) hb7); have HW7 := hide ((unhide HW6).trans (hb7.mono (unhide HW6).size)); clear hb7 m0 m1 m2 m3 m4 m5 n0 n1 n2 n3 n4 n5 HB6 HF6 HW6; obtain ⟨⟨c0, c1, c2, c3, c4, c5⟩, _⟩ := six_at (unhide HB7); obtain ⟨⟨d0, d1, d2, d3, d4, d5⟩, _⟩ := six_at (unhide HF7); dsimp only at c0 c1 c2 c3 c4 c5 d0 d1 d2 d3 d4 d5))
          go_ret
          exact ⟨rfl, unhide HW7⟩
      · have hd0 : d = false := by simpa using hOk
        subst hd0
        clear hOk hcan HC0 HC1
        go_wp2_with (first | (go_at_call 15; refine (unhide HP _).mono ?_; rintro e w7 ⟨rfl, hb7⟩; have HB7 := hide (blk_step (unhide HB6) hb7); have HF7 := hide (blk_step (unhide HF6) hb7); have HW7 := hide ((unhide HW6).trans (hb7.mono (unhide HW6).size)); clear hb7 m0 m1 m2 m3 m4 m5 n0 n1 n2 n3 n4 n5 HB6 HF6 HW6; obtain ⟨⟨c0, c1, c2, c3, c4, c5⟩, _⟩ := six_at (unhide HB7); obtain ⟨⟨d0, d1, d2, d3, d4, d5⟩, _⟩ := six_at (unhide HF7); dsimp only at c0 c1 c2 c3 c4 c5 d0 d1 d2 d3 d4 d5))
        go_ret
        exact ⟨rfl, unhide HW7⟩

theorem fnFill_all (a : Option Addr) (len cap : Nat) (zs : List Int) (w : World) (hz : IsRow .u8 w a len cap zs) :
    Calls Try.prog 3 #[.slice a len cap] w fun e w' => e = .returned (.bool true) ∧ Below w.heap.size w w' := by
  by_cases hl : len ≤ 1048576
  · exact fnFill_go a len cap w (code_ok hz hl)
  · have hl' : 1048576 < len := by omega
    clear hz
    go_enter Try.func3, Try.ntmps3
    go_wp2_with (go_at_call 10; refine (bigYes a len cap _ hl').mono ?_; rintro e w0 ⟨rfl, rfl⟩)
    go_ret
    exact ⟨rfl, Below.refl _ _⟩
end Go.Proofs.Ythjpjamihlopeaa
