/-
  The law FnTake: it returns true at every code.
-/
import Derived.Test.YthjpjamihlopeaaBkDrawA
import Derived.Test.YthjpjamihlopeaaBkDrawT
import Derived.Test.YthjpjamihlopeaaBkDrawU
import Derived.Test.YthjpjamihlopeaaBkMath3
import Derived.Test.YthjpjamihlopeaaLawHelp
import Derived.Test.YthjpjamihlopeaaCodeRow
import Derived.Deep.QuietTactic
namespace Go.Proofs.Ythjpjamihlopeaa
open Go.RowKit
open Mth

/-- Where the walk of the law stands: the buckets that lie in memory, the asks, the rows of answers. -/
structure FMid (w : World) (bs : List (Nat × Bk)) (ks : List (Option Addr × List (Int × Int))) (rs : List (Option Addr × List Bool)) (wr : World) : Prop where
  below : Below w.heap.size w wr
  bks : ∀ p ∈ bs, wr.heap[p.1]? = some (bko p.2)
  asks : ∀ p ∈ ks, AsksAt wr p.1 p.2
  rows : ∀ p ∈ rs, RowB wr p.1 p.2
theorem FMid.start {w wr : World} (h : Below w.heap.size w wr) : FMid w [] [] [] wr := ⟨h, fun p hp => by simp at hp, fun p hp => by simp at hp, fun p hp => by simp at hp⟩
theorem FMid.step {w wr w' : World} {bs : List (Nat × Bk)} {ks : List (Option Addr × List (Int × Int))} {rs : List (Option Addr × List Bool)} (h : FMid w bs ks rs wr) (hb : Below wr.heap.size wr w') : FMid w bs ks rs w' :=
  ⟨h.below.trans (hb.mono h.below.size), fun p hp => blk_step (h.bks p hp) hb, fun p hp => (h.asks p hp).below hb, fun p hp => (h.rows p hp).below hb⟩
theorem FMid.bk {w wr : World} {bs : List (Nat × Bk)} {ks : List (Option Addr × List (Int × Int))} {rs : List (Option Addr × List Bool)} (h : FMid w bs ks rs wr) (b : Bk) : FMid w ((wr.heap.size, b) :: bs) ks rs (wr.alloc (bko b)) := by
  have h1 := h.step (below_one wr (bko b))
  refine ⟨h1.below, fun p hp => ?_, h1.asks, h1.rows⟩
  rcases List.mem_cons.1 hp with rfl | hp
  · exact heap_alloc_new wr _
  · exact h1.bks p hp
theorem FMid.addAsks {w wr : World} {bs : List (Nat × Bk)} {ks : List (Option Addr × List (Int × Int))} {rs : List (Option Addr × List Bool)} (h : FMid w bs ks rs wr) {a : Option Addr} {l : List (Int × Int)} (ha : AsksAt wr a l) : FMid w bs ((a, l) :: ks) rs wr :=
  ⟨h.below, h.bks, fun p hp => by exact (List.mem_cons.1 hp).elim (fun e => by subst e; exact ha) (h.asks p), h.rows⟩
theorem FMid.addRow {w wr : World} {bs : List (Nat × Bk)} {ks : List (Option Addr × List (Int × Int))} {rs : List (Option Addr × List Bool)} (h : FMid w bs ks rs wr) {a : Option Addr} {l : List Bool} (ha : RowB wr a l) : FMid w bs ks ((a, l) :: rs) wr :=
  ⟨h.below, h.bks, h.asks, fun p hp => by exact (List.mem_cons.1 hp).elim (fun e => by subst e; exact ha) (h.rows p)⟩

theorem below_draws' (w : World) (q : Nat) : Below w.heap.size w (w.drewN q) := ⟨rfl, rfl, rfl, Nat.le_refl _, fun _ _ => rfl⟩
theorem sumK_bound {l : List (Int × Int)} (h : ∀ p ∈ l, 0 ≤ p.2 ∧ p.2 < 6) (oks : List Bool) : ∀ k, k ≤ l.length → 0 ≤ sumK l oks k ∧ sumK l oks k ≤ 6 * k := by
  intro k
  induction k with
  | zero => intro _; simp [sumK]
  | succ k ih =>
    intro hk
    have h1 := ih (by omega)
    have h2 := h (l.getD k (0, 0)) (by rw [List.getD_eq_getElem?_getD, List.getElem?_eq_getElem (by omega)]; exact List.getElem_mem _)
    unfold sumK
    split <;> omega
theorem sumK_true {l : List (Int × Int)} {oks : List Bool} {k : Nat} (h1 : k < oks.length) (h2 : k < l.length) (h : oks[k] = true) : sumK l oks (k + 1) = sumK l oks k + l[k].2 := by
  have e1 : oks.getD k false = true := by rw [List.getD_eq_getElem?_getD, List.getElem?_eq_getElem h1]; exact h
  have e2 : l.getD k (0, 0) = l[k] := by rw [List.getD_eq_getElem?_getD, List.getElem?_eq_getElem h2]; rfl
  show sumK l oks k + _ = _
  rw [e1, e2, if_pos rfl]
theorem sumK_false {l : List (Int × Int)} {oks : List Bool} {k : Nat} (h1 : k < oks.length) (h : oks[k] = false) : sumK l oks (k + 1) = sumK l oks k := by
  have e1 : oks.getD k false = false := by rw [List.getD_eq_getElem?_getD, List.getElem?_eq_getElem h1]; exact h
  show sumK l oks k + _ = _
  rw [e1]
  simp

set_option maxRecDepth 100000 in
set_option maxHeartbeats 8000000 in
theorem fnTake_go (a : Option Addr) (len cap : Nat) (w : World) (hcode : CodeOk w a len) : Calls Try.prog 4 #[.slice a len cap] w fun e w' => e = .returned (.bool true) ∧ Below w.heap.size w w' := by
  have hl := hcode.1
  have HC := hide hcode
  clear hcode
  go_enter Try.func4, Try.ntmps4
  go_wp2_with fail
  refine (bigNo a len cap _ hl).mono ?_
  rintro e w0 ⟨rfl, rfl⟩
  go_wp2_with fail
  refine (drawTakeAll a len cap _ (unhide HC)).mono ?_
  rintro e w1 ⟨b, l, v, rfl, hl1, hall, hrow, hb1⟩
  obtain ⟨aa, ac, rfl, hasks⟩ := asks_own hrow
  obtain ⟨S, R, P, H, T, L⟩ := b
  have HAL := hide hall
  have HST := hide (fun (h : Bk.Ok ⟨S, R, P, H, T, L⟩) => stretch ⟨S, R, P, H, T, L⟩ l h)
  have HFEW := hide (fun (h : l.length ≤ 300) => takesU_few (b := ⟨S, R, P, H, T, L⟩) h)
  have HMANY := hide (fun (h : ¬ l.length ≤ 300) => takesU_many (b := ⟨S, R, P, H, T, L⟩) h)
  have HOKB := hide (fun w1 => specBucketOk ⟨S, R, P, H, T, L⟩ w1)
  clear hall hrow
  go_upto_region 4 with fail
  refine wp_at (fun W1 hW1 => ?_)
  have HM1 : Hid (FMid w [(w1.heap.size, ⟨S, R, P, H, T, L⟩)] [(aa, l)] [] W1) := by
    subst hW1
    exact ((FMid.start hb1).addAsks hasks).bk _
  clear hW1 hasks hb1
  generalize w1.heap.size = gb at *
  obtain ⟨⟨b0, b1, b2, b3, b4, b5⟩, _⟩ := six_at ((unhide HM1).bks (gb, ⟨S, R, P, H, T, L⟩) (by simp))
  try dsimp only at b0 b1 b2 b3 b4 b5
  obtain ⟨CO, hCO⟩ : ∃ CO, Bk.takesU ⟨S, R, P, H, T, L⟩ l = CO := ⟨_, rfl⟩
  have HTI := hide (fun w1 (h : AsksAt w1 aa l) => implTakeAllU ⟨S, R, P, H, T, L⟩ aa ac l w1 h)
  have HTS := hide (fun w1 (h : AsksAt w1 aa l) => specTakeAllU ⟨S, R, P, H, T, L⟩ aa ac l w1 h)
  rw [hCO] at HTI HTS HFEW HMANY
  clear hCO
  obtain ⟨⟨C0, C1, C2, C3, C4, C5⟩, oks⟩ := CO
  dsimp only at HTI HTS
  go_wp2_with fail
  refine (unhide HTI _ ((unhide HM1).asks (aa, l) (by simp))).mono ?_
  rintro e w2 ⟨la, lc, rfl, hR, hb2⟩
  clear b0 b1 b2 b3 b4 b5
  go_upto_region 5 with fail
  refine wp_at (fun W2 hW2 => ?_)
  have HM2 : Hid (FMid w [(w2.heap.size, ⟨C0, C1, C2, C3, C4, C5⟩), (gb, ⟨S, R, P, H, T, L⟩)] [(aa, l)] [(la, oks)] W2) := by
    subst hW2
    exact (((unhide HM1).step hb2).addRow hR).bk _
  clear hW2 hb2 hR HM1 HTI
  generalize w2.heap.size = gc at *
  obtain ⟨⟨b0, b1, b2, b3, b4, b5⟩, _⟩ := six_at ((unhide HM2).bks (gb, ⟨S, R, P, H, T, L⟩) (by simp))
  try dsimp only at b0 b1 b2 b3 b4 b5
  go_wp2_with fail
  refine (unhide HTS _ ((unhide HM2).asks (aa, l) (by simp))).mono ?_
  rintro e w3 ⟨ma, mc, rfl, hR, hb3⟩
  clear b0 b1 b2 b3 b4 b5
  go_upto_region 6 with fail
  refine wp_at (fun W3 hW3 => ?_)
  have HM3 : Hid (FMid w [(w3.heap.size, ⟨C0, C1, C2, C3, C4, C5⟩), (gc, ⟨C0, C1, C2, C3, C4, C5⟩), (gb, ⟨S, R, P, H, T, L⟩)] [(aa, l)] [(ma, oks), (la, oks)] W3) := by
    subst hW3
    exact (((unhide HM2).step hb3).addRow hR).bk _
  clear hW3 hb3 hR HM2 HTS
  generalize w3.heap.size = gw at *
  go_wp2_with fail
  refine (drawTake a len cap _ ((unhide HC).below (unhide HM3).below)).mono ?_
  rintro e w4 ⟨x, nw, n, rfl, hb4⟩
  have HYI := hide (fun w1 => implTake x nw n w1)
  have HYS := hide (fun w1 => specTake x nw n w1)
  generalize x.take nw n = YO at *
  obtain ⟨⟨Y0, Y1, Y2, Y3, Y4, Y5⟩, ok⟩ := YO
  obtain ⟨X0, X1, X2, X3, X4, X5⟩ := x
  dsimp only at HYI HYS
  go_upto_region 7 with fail
  refine wp_at (fun W4 hW4 => ?_)
  have HM4 : Hid (FMid w [(w4.heap.size, ⟨X0, X1, X2, X3, X4, X5⟩), (gw, ⟨C0, C1, C2, C3, C4, C5⟩), (gc, ⟨C0, C1, C2, C3, C4, C5⟩), (gb, ⟨S, R, P, H, T, L⟩)] [(aa, l)] [(ma, oks), (la, oks)] W4) := by
    subst hW4
    exact ((unhide HM3).step hb4).bk _
  clear hW4 hb4 HM3
  generalize w4.heap.size = gx at *
  obtain ⟨⟨x0, x1, x2, x3, x4, x5⟩, _⟩ := six_at ((unhide HM4).bks (gx, ⟨X0, X1, X2, X3, X4, X5⟩) (by simp))
  try dsimp only at x0 x1 x2 x3 x4 x5
  go_wp2_with fail
  refine (unhide HYI _).mono ?_
  rintro e w5 ⟨rfl, hb5⟩
  clear x0 x1 x2 x3 x4 x5
  go_upto_region 8 with fail
  refine wp_at (fun W5 hW5 => ?_)
  have HM5 : Hid (FMid w [(w5.heap.size, ⟨Y0, Y1, Y2, Y3, Y4, Y5⟩), (gx, ⟨X0, X1, X2, X3, X4, X5⟩), (gw, ⟨C0, C1, C2, C3, C4, C5⟩), (gc, ⟨C0, C1, C2, C3, C4, C5⟩), (gb, ⟨S, R, P, H, T, L⟩)] [(aa, l)] [(ma, oks), (la, oks)] W5) := by
    subst hW5
    exact ((unhide HM4).step hb5).bk _
  clear hW5 hb5 HM4 HYI
  generalize w5.heap.size = gy at *
  obtain ⟨⟨x0, x1, x2, x3, x4, x5⟩, _⟩ := six_at ((unhide HM5).bks (gx, ⟨X0, X1, X2, X3, X4, X5⟩) (by simp))
  try dsimp only at x0 x1 x2 x3 x4 x5
  go_wp2_with fail
  refine (unhide HYS _).mono ?_
  rintro e w6 ⟨rfl, hb6⟩
  clear x0 x1 x2 x3 x4 x5
  go_upto_region 9 with fail
  refine wp_at (fun W6 hW6 => ?_)
  have HM6 : Hid (FMid w [(w6.heap.size, ⟨Y0, Y1, Y2, Y3, Y4, Y5⟩), (gy, ⟨Y0, Y1, Y2, Y3, Y4, Y5⟩), (gx, ⟨X0, X1, X2, X3, X4, X5⟩), (gw, ⟨C0, C1, C2, C3, C4, C5⟩), (gc, ⟨C0, C1, C2, C3, C4, C5⟩), (gb, ⟨S, R, P, H, T, L⟩)] [(aa, l)] [(ma, oks), (la, oks)] W6) := by
    subst hW6
    exact ((unhide HM5).step hb6).bk _
  clear hW6 hb6 HM5 HYS
  generalize w6.heap.size = gz at *
  go_wp2_with fail
  refine (drawUntil a len cap _ ((unhide HC).below (unhide HM6).below)).mono ?_
  rintro e w7 ⟨d, m, rfl, hb7⟩
  have HUI := hide (fun w1 => implUntil d m w1)
  have HUS := hide (fun w1 => specUntil d m w1)
  have HTD := hide (fun n w1 => implTake d n m w1)
  have HW0 := hide (fun (h : 0 ≤ d.wait m) => wait_cases h)
  have HW1 := hide (fun (h : 0 ≤ d.wait m) (h2 : d.L + d.wait m ≤ 1000000000) => wait_enough h h2)
  have HW2 := hide (fun (h : 0 < d.wait m) (h2 : d.L + d.wait m ≤ 1000000000) => wait_early h h2)
  have HW3 := hide (fun (ho : d.Ok) (h1 : d.H < m) (h2 : m ≤ d.S) (h3 : 0 < d.R) => ticks_bound ho h1 h2 h3)
  generalize d.wait m = wt at *
  obtain ⟨D0, D1, D2, D3, D4, D5⟩ := d
  go_upto_region 10 with fail
  refine wp_at (fun W7 hW7 => ?_)
  have HM7 : Hid (FMid w [(w7.heap.size, ⟨D0, D1, D2, D3, D4, D5⟩), (gz, ⟨Y0, Y1, Y2, Y3, Y4, Y5⟩), (gy, ⟨Y0, Y1, Y2, Y3, Y4, Y5⟩), (gx, ⟨X0, X1, X2, X3, X4, X5⟩), (gw, ⟨C0, C1, C2, C3, C4, C5⟩), (gc, ⟨C0, C1, C2, C3, C4, C5⟩), (gb, ⟨S, R, P, H, T, L⟩)] [(aa, l)] [(ma, oks), (la, oks)] W7) := by
    subst hW7
    exact ((unhide HM6).step hb7).bk _
  clear hW7 hb7 HM6
  generalize w7.heap.size = gd at *
  obtain ⟨⟨d0, d1, d2, d3, d4, d5⟩, _⟩ := six_at ((unhide HM7).bks (gd, ⟨D0, D1, D2, D3, D4, D5⟩) (by simp))
  try dsimp only at d0 d1 d2 d3 d4 d5
  go_wp2_with fail
  refine (unhide HUI _).mono ?_
  rintro e w8 ⟨rfl, hb8⟩
  have HM8 := hide ((unhide HM7).step hb8)
  clear hb8 HM7 HUI
  clear d0 d1 d2 d3 d4 d5
  obtain ⟨⟨c0, c1, c2, c3, c4, c5⟩, _⟩ := six_at ((unhide HM8).bks (gc, ⟨C0, C1, C2, C3, C4, C5⟩) (by simp))
  try dsimp only at c0 c1 c2 c3 c4 c5
  obtain ⟨⟨v0, v1, v2, v3, v4, v5⟩, _⟩ := six_at ((unhide HM8).bks (gw, ⟨C0, C1, C2, C3, C4, C5⟩) (by simp))
  try dsimp only at v0 v1 v2 v3 v4 v5
  obtain ⟨⟨y0, y1, y2, y3, y4, y5⟩, _⟩ := six_at ((unhide HM8).bks (gy, ⟨Y0, Y1, Y2, Y3, Y4, Y5⟩) (by simp))
  try dsimp only at y0 y1 y2 y3 y4 y5
  obtain ⟨⟨z0, z1, z2, z3, z4, z5⟩, _⟩ := six_at ((unhide HM8).bks (gz, ⟨Y0, Y1, Y2, Y3, Y4, Y5⟩) (by simp))
  try dsimp only at z0 z1 z2 z3 z4 z5
  obtain ⟨⟨d0, d1, d2, d3, d4, d5⟩, _⟩ := six_at ((unhide HM8).bks (gd, ⟨D0, D1, D2, D3, D4, D5⟩) (by simp))
  try dsimp only at d0 d1 d2 d3 d4 d5
  go_wp2_with fail
  refine (unhide HUS _).mono ?_
  rintro e w9 ⟨rfl, hb9⟩
  have HM9 := hide ((unhide HM8).step hb9)
  clear hb9 HM8 HUS
  clear c0 c1 c2 c3 c4 c5 v0 v1 v2 v3 v4 v5 y0 y1 y2 y3 y4 y5 z0 z1 z2 z3 z4 z5 d0 d1 d2 d3 d4 d5
  have hcase : oks.length ≤ l.length ∧ (oks.length = 0 ∨ Bk.takes ⟨S, R, P, H, T, L⟩ l = (⟨C0, C1, C2, C3, C4, C5⟩, oks)) := by
    by_cases h : l.length ≤ 300
    · have e := (unhide HFEW h).symm
      have e2 := takes_len ⟨S, R, P, H, T, L⟩ l
      rw [e] at e2
      dsimp only at e2
      exact ⟨by omega, .inr e⟩
    · have e := unhide HMANY h
      injection e with _ e2
      subst e2
      exact ⟨by simp, .inl rfl⟩
  have HCS := hide hcase.2
  have hol := hcase.1
  clear hcase HFEW HMANY
  go_wp2_with fail
  go_loopw [19, 20] (fun s i wr => ∃ k q : Nat, k ≤ oks.length ∧ i = .int .i64 k ∧ s = .int .i64 (sumK l oks k) ∧ wr = w9.drewN q) (fun _ i _ => oks.length - (intOf i).toNat)
  case atStart => exact ⟨0, 0, Nat.zero_le _, rfl, rfl, rfl⟩
  case round =>
    obtain ⟨k, q, hk, rfl, rfl, rfl⟩ := hrel
    have hsb := sumK_bound (unhide HAL) oks k (by omega)
    by_cases hlt : k < oks.length
    · have hkl : k < l.length := by omega
      obtain ⟨g1, rfl, hg1, r1⟩ := (unhide HM9).rows (la, oks) (by simp) k hlt
      obtain ⟨g2, rfl, hg2, r2⟩ := (unhide HM9).rows (ma, oks) (by simp) k hlt
      obtain ⟨g3, off, rfl, hg3, r3, r4⟩ := (unhide HM9).asks (aa, l) (by simp) k hkl
      dsimp only at r1 r2 r3 r4
      have hak := (unhide HAL) l[k] (List.getElem_mem hkl)
      have ST := hide (fun h => sumK_true hlt hkl h)
      have SF := hide (fun h => sumK_false (l := l) hlt h)
      generalize oks[k] = okk at *
      generalize l[k].2 = nn at *
      generalize l[k].1 = tt at *
      cases okk
      · have SF' := hide (unhide SF rfl)
        clear ST SF
        go_wp2_with fail
        go_quiet (fail)
        go_wp2
        go_roundw
        case rel => exact ⟨k + 1, _, by omega, by go_num, by rw [unhide SF'], rfl⟩
        case measure => simp [intOf]; omega
      · have ST' := hide (unhide ST rfl)
        clear ST SF
        go_wp2_with fail
        go_quiet (fail)
        go_wp2
        go_roundw
        case rel => exact ⟨k + 1, _, by omega, by go_num, by rw [unhide ST'], rfl⟩
        case measure => simp [intOf]; omega
    · have hke : k = oks.length := by omega
      subst hke
      have hnlt : decide ((oks.length : Int) < (oks.length : Int)) = false := by simp
      go_upto_region 21 with fail
      refine wp_at (fun W10 hW10 => ?_)
      have HM10 := hide ((unhide HM9).step (below_draws' w9 q))
      rw [← hW10] at HM10
      clear hW10 HM9
      obtain ⟨⟨b0, b1, b2, b3, b4, b5⟩, _⟩ := six_at ((unhide HM10).bks (gb, ⟨S, R, P, H, T, L⟩) (by simp))
      try dsimp only at b0 b1 b2 b3 b4 b5
      obtain ⟨⟨c0, c1, c2, c3, c4, c5⟩, _⟩ := six_at ((unhide HM10).bks (gc, ⟨C0, C1, C2, C3, C4, C5⟩) (by simp))
      try dsimp only at c0 c1 c2 c3 c4 c5
      obtain ⟨sm, hsm⟩ : ∃ sm, sumK l oks oks.length = sm := ⟨_, rfl⟩
      rw [hsm] at hsb
      rw [hsm]
      have HSM := hide hsm
      clear hsm
      go_wp2_with fail
      refine (unhide HOKB _).mono ?_
      rintro e w11 ⟨rfl, hb11⟩
      have HM11 := hide ((unhide HM10).step hb11)
      clear hb11 HM10 b0 b1 b2 b3 b4 b5 c0 c1 c2 c3 c4 c5
      obtain ⟨⟨b0, b1, b2, b3, b4, b5⟩, _⟩ := six_at ((unhide HM11).bks (gb, ⟨S, R, P, H, T, L⟩) (by simp))
      try dsimp only at b0 b1 b2 b3 b4 b5
      obtain ⟨⟨c0, c1, c2, c3, c4, c5⟩, _⟩ := six_at ((unhide HM11).bks (gc, ⟨C0, C1, C2, C3, C4, C5⟩) (by simp))
      try dsimp only at c0 c1 c2 c3 c4 c5
      by_cases hok : Bk.Ok ⟨S, R, P, H, T, L⟩
      case' neg =>
        have g0 : decide (Bk.Ok ⟨S, R, P, H, T, L⟩) = false := decide_eq_false hok
        clear hok HST HCS
        go_upto_region 23 with fail
      case' pos =>
        have g0 : decide (Bk.Ok ⟨S, R, P, H, T, L⟩) = true := decide_eq_true hok
        by_cases hz : oks.length = 0
        case' pos =>
          have g1 : decide (0 < (oks.length : Int)) = false := decide_eq_false (by omega)
          clear hok HST HCS
          go_upto_region 23 with fail
        case' neg =>
          have g1 : decide (0 < (oks.length : Int)) = true := decide_eq_true (by omega)
          have hst := unhide HST hok l.length (Nat.le_refl _)
          have htk := (unhide HCS).resolve_left hz
          have hlk := takes_len ⟨S, R, P, H, T, L⟩ l
          rw [List.take_length, htk] at hst
          rw [htk] at hlk
          dsimp only at hst hlk
          rw [← hlk, unhide HSM] at hst
          obtain ⟨hcok, hcS, hcR, hcP, hcL, hin⟩ := hst
          unfold Bk.Ok at hcok hok
          dsimp only at hcok hok
          have p1 : 0 ≤ R * (C5 - L) := Int.mul_nonneg (by omega) (by omega)
          have p2 : R * (C5 - L) ≤ 1000000000 * (C5 - L) := Int.mul_le_mul_of_nonneg_right (by omega) (by omega)
          have e1 : (C5 - L) * R = R * (C5 - L) := Int.mul_comm _ _
          have e2 : (sm + C3 - H) * P = (sm + C3) * P - H * P := Int.sub_mul _ _ _
          have p3 : H * P ≤ H * 1000000 := Int.mul_le_mul_of_nonneg_left (by omega) (by omega)
          have p4 : 0 ≤ (sm + C3) * P := Int.mul_nonneg (by omega) (by omega)
          have q1 : (sm + C3 - H) * P ≤ (C5 - L) * R + T := by omega
          have q2 : 0 ≤ (C5 - L) * R ∧ (C5 - L) * R ≤ 1000000000000000000 := by omega
          have q3 : -1000000000000000 ≤ (sm + C3 - H) * P ∧ (sm + C3 - H) * P ≤ 1000000000001000000 := by omega
          have q4 : sm ≤ 2000 := by omega
          clear hin htk hlk p1 p2 p3 p4 e1 e2 hcL HST HCS HSM
          go_upto_region 23 with fail
      all_goals
        refine wp_at (fun W12 hW12 => ?_)
        have HM12 := HM11
        rw [← hW12] at HM12
        clear hW12 HM11 HOKB HAL b0 b1 b2 b3 b4 b5 c0 c1 c2 c3 c4 c5
        obtain ⟨⟨d0, d1, d2, d3, d4, d5⟩, _⟩ := six_at ((unhide HM12).bks (gd, ⟨D0, D1, D2, D3, D4, D5⟩) (by simp))
        try dsimp only at d0 d1 d2 d3 d4 d5
        by_cases h1 : wt < 0
        · go_wp2_with fail
          go_ret
          exact ⟨rfl, (unhide HM12).below⟩
        have h1' : 0 ≤ wt := by omega
        obtain ⟨hdo, hm0, hmS, hcs⟩ := unhide HW0 h1'
        have hwb : wt ≤ 1000002000000000 := by
          rcases hcs with ⟨_, h⟩ | ⟨ha, hb, h⟩
          · omega
          · have := (unhide HW3 hdo ha hmS hb).2.2.2
            omega
        clear hcs HW3
        unfold Bk.Ok at hdo
        dsimp only at hdo
        by_cases h2 : 1000000000 < D5 + wt
        · go_wp2_with fail
          go_ret
          exact ⟨rfl, (unhide HM12).below⟩
        have hen := unhide HW1 h1' (by first | omega | (dsimp only; omega))
        try dsimp only at hen
        have HT1 := hide (fun w1 => unhide HTD (D5 + wt) w1)
        rw [hen] at HT1
        generalize (Bk.take ⟨D0, D1, D2, D3, D4, D5⟩ (D5 + wt) m).1 = q1 at HT1
        obtain ⟨u0, u1, u2', u3, u4, u5⟩ := q1
        try dsimp only at HT1
        clear hen
        go_wp2_with fail
        refine (unhide HT1 _).mono ?_
        rintro e w13 ⟨rfl, hb13⟩
        have HM13 := hide ((unhide HM12).step hb13)
        clear hb13 HM12 HT1 d0 d1 d2 d3 d4 d5
        obtain ⟨⟨d0, d1, d2, d3, d4, d5⟩, _⟩ := six_at ((unhide HM13).bks (gd, ⟨D0, D1, D2, D3, D4, D5⟩) (by simp))
        try dsimp only at d0 d1 d2 d3 d4 d5
        by_cases h3 : wt = 0
        · have h3' : decide (0 < wt) = false := decide_eq_false (by omega)
          clear h3
          go_wp2_with fail
          go_ret
          exact ⟨rfl, (unhide HM13).below.alloc (unhide HM13).below.size _⟩
        · have h3' : decide (0 < wt) = true := decide_eq_true (by omega)
          have hzd := blk_lt ((unhide HM13).bks (gd, ⟨D0, D1, D2, D3, D4, D5⟩) (by simp))
          try dsimp only at hzd
          have her := unhide HW2 (by omega) (by first | omega | (dsimp only; omega))
          try dsimp only at her
          have HT2 := hide (fun w1 => unhide HTD (D5 + wt - 1) w1)
          rw [her] at HT2
          generalize (Bk.take ⟨D0, D1, D2, D3, D4, D5⟩ (D5 + wt - 1) m).1 = q2 at HT2
          obtain ⟨v0, v1, v2, v3, v4, v5⟩ := q2
          try dsimp only at HT2
          clear her
          go_wp2_with fail
          refine (unhide HT2 _).mono ?_
          rintro e w14 ⟨rfl, hb14⟩
          have HM14 := hide (((unhide HM13).step (below_one w13 _)).step hb14)
          clear hb14 HM13 HT2
          go_wp2_with fail
          go_ret
          first
            | exact ⟨rfl, (unhide HM14).below⟩
            | exact ⟨rfl, (unhide HM14).below.alloc (unhide HM14).below.size _⟩

set_option maxRecDepth 100000 in
theorem fnTake_all (a : Option Addr) (len cap : Nat) (zs : List Int) (w : World) (hz : IsRow .u8 w a len cap zs) :
    Calls Try.prog 4 #[.slice a len cap] w fun e w' => e = .returned (.bool true) ∧ Below w.heap.size w w' := by
  by_cases hl : len ≤ 1048576
  · exact fnTake_go a len cap w (code_ok hz hl)
  · have hl' : 1048576 < len := by omega
    clear hz
    go_enter Try.func4, Try.ntmps4
    go_wp2_with (go_at_call 10; refine (bigYes a len cap _ hl').mono ?_; rintro e w0 ⟨rfl, rfl⟩)
    go_ret
    exact ⟨rfl, Below.refl _ _⟩
end Go.Proofs.Ythjpjamihlopeaa
