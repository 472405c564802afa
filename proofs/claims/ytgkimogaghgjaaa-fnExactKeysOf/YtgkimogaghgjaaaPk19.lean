/- Parts. -/
import Derived.Test.YtgkimogaghgjaaaPk18
import Derived.Test.YtgkimogaghgjaaaPk3
import Derived.Test.YtgkimogaghgjaaaPk10
namespace Go.Proofs.Ytgkimogaghgjaaa
open Go.RowKit
open Mth

set_option maxRecDepth 100000 in
set_option maxHeartbeats 4000000 in
theorem eqKeeperS (a b : Option Addr) (ca cb : Nat) (l m : List KpI) (hlm : l.map (fun x => x.1) = m.map (fun x => x.1)) (w : World) (hl : l.length ≤ 1048600) (hks : ∀ p ∈ l, KpSz p.1 1048576) (ha : KpsAt w a l) (hb : KpsAt w b m) :
    Calls Try.prog 29 #[.slice a l.length ca, .slice b l.length cb] w fun e w' => e = .returned (.bool true) ∧ Below w.heap.size w w' := by
  have hml : m.length = l.length := by have := congrArg List.length hlm; simpa using this.symm
  have HML := hide hml
  have HLM := hide hlm
  have HA := hide ha
  have HB := hide hb
  clear ha hb hlm hml
  go_enter Try.func29, Try.ntmps29
  go_wp2_with fail
  go_loopw [5] (fun i wr => ∃ k : Nat, k ≤ l.length ∧ i = .int .i64 k ∧ Below w.heap.size w wr) (fun i _ => l.length - (intOf i).toNat)
  case atStart => exact ⟨0, Nat.zero_le _, rfl, Below.refl _ _⟩
  case round =>
    obtain ⟨k, hk, rfl, hbel⟩ := hrel
    have HBL := hide hbel
    clear hbel
    by_cases hlt : k < l.length
    · have hlt2 : k < m.length := by rw [unhide HML]; exact hlt
      obtain ⟨g1, o1, rfl, hg1, hr1⟩ := ((unhide HA).below (unhide HBL)).range k hlt
      obtain ⟨g2, o2, rfl, hg2, hr2⟩ := ((unhide HB).below (unhide HBL)).range k hlt2
      have hkk := hks l[k] (List.getElem_mem hlt)
      have hat := ((unhide HA).below (unhide HBL)).each l[k] (List.getElem_mem hlt)
      have hbt := ((unhide HB).below (unhide HBL)).each m[k] (List.getElem_mem hlt2)
      have hxy : l[k].1 = m[k].1 := by
        have h := congrArg (fun z => z[k]?) (unhide HLM)
        simpa [hlt, hlt2] using h
      generalize l[k] = pu at *
      generalize m[k] = pv at *
      have HEQ := hide (fun w1 (h : Ge wr w1) => eqKeeperV pu pv hxy w1 hkk (hat.below h) (hbt.below h))
      have HR1 := hide hr1
      have HR2 := hide hr2
      have HI1 : Hid ((Try.prog.info? 63).map (·.size) = some (encK pu).length) := infoKI
      have HI2 : Hid ((Try.prog.info? 63).map (·.size) = some (encK pv).length) := infoKI
      clear hkk hat hbt hxy hr1 hr2 hlt2
      generalize encK pu = V1 at HEQ HR1 HI1
      generalize encK pv = V2 at HEQ HR2 HI2
      go_upto_region 6 with fail
      refine wp_region_mix (by kernel_rfl) ?_
      show wpMix _ _ _ _ 10 (Array.replicate 10 false) _ _
      refine wpMix_take 0 rfl (by kernel_rfl) (by kernel_rfl) (by kernel_rfl) (fun _ _ _ _ h => h) (fun K hK => ?_)
      go_simp
      first
        | (refine hK _ ?_; clear hK K)
        | (apply Exists.intro
           refine ⟨fun _ => ?_, hK _ ?_⟩
           (fail)
           clear hK K)
      refine wpMix_take 1 rfl (by kernel_rfl) (by kernel_rfl) (by kernel_rfl) (fun _ _ _ _ h => h) (fun K hK => ?_)
      go_simp
      first
        | (refine hK _ ?_; clear hK K)
        | (apply Exists.intro
           refine ⟨fun _ => ?_, hK _ ?_⟩
           (fail)
           clear hK K)
      refine wpMix_take 2 rfl (by kernel_rfl) (by kernel_rfl) (by kernel_rfl) (fun _ _ _ _ h => h) (fun K hK => ?_)
      go_simp
      first
        | (refine hK _ ?_; clear hK K)
        | (apply Exists.intro
           refine ⟨fun _ => ?_, hK _ ?_⟩
           (fail)
           clear hK K)
      refine wpMix_mid 3 rfl (by kernel_rfl) (by kernel_rfl) (by kernel_rfl) (fun _ _ _ _ h => h) (by rfl) 63 _ rfl g1 (o1 + k * 22) (by first | rfl | simp [Act.eval, Act.put]) V1 _ (unhide HR1) hg1 Try.underlying63 rfl (unhide HI1) ?_
      go_simp
      refine wpMix_take 4 rfl (by kernel_rfl) (by kernel_rfl) (by kernel_rfl) (fun _ _ _ _ h => h) (fun K hK => ?_)
      go_simp
      first
        | (refine hK _ ?_; clear hK K)
        | (apply Exists.intro
           refine ⟨fun _ => ?_, hK _ ?_⟩
           (fail)
           clear hK K)
      refine wpMix_take 5 rfl (by kernel_rfl) (by kernel_rfl) (by kernel_rfl) (fun _ _ _ _ h => h) (fun K hK => ?_)
      go_simp
      first
        | (refine hK _ ?_; clear hK K)
        | (apply Exists.intro
           refine ⟨fun _ => ?_, hK _ ?_⟩
           (fail)
           clear hK K)
      refine wpMix_take 6 rfl (by kernel_rfl) (by kernel_rfl) (by kernel_rfl) (fun _ _ _ _ h => h) (fun K hK => ?_)
      go_simp
      first
        | (refine hK _ ?_; clear hK K)
        | (apply Exists.intro
           refine ⟨fun _ => ?_, hK _ ?_⟩
           (fail)
           clear hK K)
      refine wpMix_mid 7 rfl (by kernel_rfl) (by kernel_rfl) (by kernel_rfl) (fun _ _ _ _ h => h) (by rfl) 63 _ rfl g2 (o2 + k * 22) (by first | rfl | simp [Act.eval, Act.put]) V2 _ (unhide HR2) hg2 Try.underlying63 rfl (unhide HI2) ?_
      go_simp
      refine wpMix_one 8 rfl (by kernel_rfl) (by rfl) (fun x hx => ?_)
      go_simp
      refine (unhide HEQ x hx).mono ?_
      rintro e y ⟨rfl, hby⟩
      refine ⟨hby, ?_⟩
      have HBY := hide (Ge.trans hx hby)
      clear hx hby
      refine wpMix_take 9 rfl (by kernel_rfl) (by kernel_rfl) (by kernel_rfl) (fun _ _ _ _ h => h) (fun K hK => ?_)
      go_simp
      first
        | (refine hK _ ?_; clear hK K)
        | (apply Exists.intro
           refine ⟨fun _ => ?_, hK _ ?_⟩
           (fail)
           clear hK K)
      refine wpMix_done (by kernel_rfl) (fun z hz => ?_)
      have HBL5 := hide ((unhide HBL).trans ((Ge.trans (unhide HBY) hz).mono (unhide HBL).size))
      clear hz HBY HEQ HR1 HR2 HI1 HI2
      go_simp
      go_wp2_with fail
      go_roundw
      case rel => exact ⟨k + 1, by omega, by go_num, unhide HBL5⟩
      case measure => simp [intOf]; omega
    · have hke : k = l.length := by omega
      subst hke
      have hnlt : decide ((l.length : Int) < (l.length : Int)) = false := by simp
      go_wp2_with fail
      go_ret
      exact ⟨rfl, unhide HBL⟩

structure Wd where
  up : List Int
  ks : List Kp
  net : List ByteArray
  told : List Td
  back : List Gv
structure WA where
  u : Option Addr
  uc : Nat
  k : Option Addr
  kc : Nat
  L : List KpI
  n : Option Addr
  nc : Nat
  t : Option Addr
  tc : Nat
  b : Option Addr
  bc : Nat
abbrev wdc (W : Wd) (A : WA) : Array Value := #[.slice A.u W.up.length A.uc, .slice A.k W.ks.length A.kc, .slice A.n W.net.length A.nc, .slice A.t W.told.length A.tc, .slice A.b W.back.length A.bc]
abbrev wdv (W : Wd) (A : WA) : Value := .agg (wdc W A)
structure WdAt (w : World) (A : WA) (W : Wd) : Prop where
  up : IntsAt w A.u W.up
  ke : A.L.map (fun x => x.1) = W.ks
  ks : KpsAt w A.k A.L
  net : StrsAt w A.n W.net
  told : GR.At encTd 13 w A.t W.told
  back : GR.At encGv 2 w A.b W.back
theorem WdAt.below {w w' : World} {A : WA} {W : Wd} (h : WdAt w A W) (hb : Below w.heap.size w w') : WdAt w' A W := ⟨GR.At.below h.up hb, h.ke, h.ks.below hb, GR.At.below h.net hb, GR.At.below h.told hb, GR.At.below h.back hb⟩
theorem WdAt.len {w : World} {A : WA} {W : Wd} (h : WdAt w A W) : A.L.length = W.ks.length := by rw [← h.ke, List.length_map]
structure WdSz (W : Wd) (z : Nat) : Prop where
  u : W.up.length ≤ z
  k : W.ks.length ≤ z
  kk : ∀ x ∈ W.ks, KpSz x z
  n : W.net.length ≤ z
  nk : ∀ x ∈ W.net, x.size ≤ z
  t : W.told.length ≤ z
  tk : ∀ p ∈ W.told, p.n.o.k.size ≤ z ∧ p.n.o.m.k.size ≤ z
  b : W.back.length ≤ z
theorem WdSz.row {w : World} {A : WA} {W : Wd} {z : Nat} (h : WdSz W z) (ha : WdAt w A W) : ∀ p ∈ A.L, KpSz p.1 z := fun p hp => h.kk _ (by rw [← ha.ke]; exact List.mem_map.2 ⟨p, hp, rfl⟩)
theorem at5 {w : World} {g : Nat} {v0 v1 v2 v3 v4 : Value} {t : TypeId} (h : w.heap[g]? = some (.cells #[v0, v1, v2, v3, v4] t (0, 0))) : w.cell? ⟨g, 0, none⟩ = some v0 ∧ w.cell? ⟨g, 1, none⟩ = some v1 ∧ w.cell? ⟨g, 2, none⟩ = some v2 ∧ w.cell? ⟨g, 3, none⟩ = some v3 ∧ w.cell? ⟨g, 4, none⟩ = some v4 := by
  have hc : ∀ i, w.cell? ⟨g, i, none⟩ = #[v0, v1, v2, v3, v4][i]? := fun i => cell_of_row w g i _ t (0, 0) h
  exact ⟨hc 0, hc 1, hc 2, hc 3, hc 4⟩
set_option maxRecDepth 100000 in
set_option maxHeartbeats 4000000 in
theorem szWorld (W : Wd) (A : WA) (w : World) (hz : WdSz W maxLen) (ha : WdAt w A W) :
    Calls Try.prog 5 #[wdv W A, .int .i64 1048576] w fun e w' => ∃ r : Int, e = .returned (.int .i64 r) ∧ (r = -1 ∨ 0 ≤ r ∧ r ≤ 1048576 ∧ WdSz W 1048576) ∧ Below w.heap.size w w' := by
  have H1 := hide (fun w1 => szTree A.u A.uc W.up 1048576 w1 (by omega) (by omega) hz.u)
  have H2 : Hid (∀ z w1, Below w.heap.size w w1 → 0 ≤ z → z ≤ 1048576 → Calls Try.prog 17 #[.slice A.k W.ks.length A.kc, .int .i64 z] w1 fun e w' => ∃ r : Int, e = .returned (.int .i64 r) ∧ (r = -1 ∨ 0 ≤ r ∧ r ≤ 1048576 ∧ W.ks.length ≤ 1048576 ∧ ∀ p ∈ W.ks, KpSz p 1048576) ∧ Below w1.heap.size w1 w') := fun z w1 h h0 h1 => by
    have hx := szKeeperS A.k A.kc A.L z w1 h0 h1 (by rw [ha.len]; exact hz.k) (hz.row ha) (ha.below h).ks
    rw [ha.len] at hx
    refine hx.mono ?_
    rintro e w2 ⟨r, he, hc, hb⟩
    refine ⟨r, he, hc.imp id (fun ⟨a, b, c, d⟩ => ⟨a, b, c, fun p hp => ?_⟩), hb⟩
    rw [← ha.ke] at hp
    obtain ⟨x, hx, rfl⟩ := List.mem_map.1 hp
    exact d x hx
  have H3 := hide (fun z w1 (hb : Below w.heap.size w w1) (h0 : 0 ≤ z) (h1 : z ≤ 1048576) => szStringS A.n A.nc W.net z w1 h0 h1 hz.n hz.nk (ha.below hb).net)
  have H4 := hide (fun z w1 (hb : Below w.heap.size w w1) (h0 : 0 ≤ z) (h1 : z ≤ 1048576) => szToldSW A.t A.tc W.told z w1 h0 h1 hz.t hz.tk (ha.below hb).told)
  have H5 := hide (fun z w1 (h0 : 0 ≤ z) (h1 : z ≤ 1048576) => szGivenSW A.b A.bc W.back.length z w1 h0 h1 hz.b)
  have HQ : Hid (W.up.length ≤ 1048576 → (W.ks.length ≤ 1048576 ∧ ∀ p ∈ W.ks, KpSz p 1048576) → (W.net.length ≤ 1048576 ∧ ∀ p ∈ W.net, p.size ≤ 1048576) → (W.told.length ≤ 1048576 ∧ ∀ p ∈ W.told, p.n.o.k.size ≤ 1048576 ∧ p.n.o.m.k.size ≤ 1048576) → W.back.length ≤ 1048576 → WdSz W 1048576) := fun a b c d e => ⟨a, b.1, b.2, c.1, c.2, d.1, d.2, e⟩
  have HB0 := hide (heap_alloc_new w (.cells (wdc W A) 30))
  have HL0 := hide (below_one w (.cells (wdc W A) 30))
  have hbl := hz.b
  unfold maxLen at hbl
  clear ha hz
  generalize WdSz W 1048576 = WZ at *
  obtain ⟨up, ks, net, td, bk⟩ := W
  obtain ⟨u, uc, k, kc, L, n, nc, t, tc, b, bc⟩ := A
  dsimp only at H1 H2 H3 H4 H5 HQ HB0 HL0 hbl ⊢
  obtain ⟨c0, c1, c2, c3, c4⟩ := at5 (unhide HB0)
  go_enter Try.func5, Try.ntmps5
  go_wp2_with fail
  refine (unhide H1 _).mono ?_
  by_cases hup : (up.length : Int) ≤ 1048576
  case' neg =>
    rw [if_neg hup]
    rintro e w1 ⟨rfl, hb⟩
    have HL1 := hide ((unhide HL0).trans (hb.mono (unhide HL0).size))
    clear hb c0 c1 c2 c3 c4 HB0 HL0
    go_wp2_with fail
    go_ret
    exact ⟨-1, rfl, .inl rfl, unhide HL1⟩
  rw [if_pos hup]
  rintro e w1 ⟨rfl, hb⟩
  have HB1 := hide (obj_step (unhide HB0) hb)
  have HL1 := hide ((unhide HL0).trans (hb.mono (unhide HL0).size))
  clear hb c0 c1 c2 c3 c4 HB0 HL0
  generalize hz1 : (1048576 - (up.length : Int)) = z1
  have q0 : 0 ≤ z1 := by omega
  have q1 : z1 ≤ 1048576 := by omega
  have q2 : decide (z1 < 0) = false := decide_eq_false (by omega)
  have HUP := hide (show up.length ≤ 1048576 by omega)
  clear hz1 hup
  obtain ⟨c0, c1, c2, c3, c4⟩ := at5 (unhide HB1)
  go_wp2_with fail
  refine (unhide H2 _ _ (unhide HL1) q0 q1).mono ?_
  rintro e w2 ⟨z2, rfl, hcase, hb⟩
  have HB2 := hide (obj_step (unhide HB1) hb)
  have HL2 := hide ((unhide HL1).trans (hb.mono (unhide HL1).size))
  clear hb c0 c1 c2 c3 c4 HB1 HL1
  rcases hcase with rfl | ⟨p0, p1, p2⟩
  case' inl =>
    go_wp2_with fail
    go_ret
    exact ⟨-1, rfl, .inl rfl, unhide HL2⟩
  have K2 := hide p2
  have q3 : decide (z2 < 0) = false := decide_eq_false (by omega)
  have g2 : 0 ≤ z2 := p0
  have e2 : z2 ≤ 1048576 := by omega
  clear p0 p1 p2
  obtain ⟨c0, c1, c2, c3, c4⟩ := at5 (unhide HB2)
  go_wp2_with fail
  refine (unhide H3 _ _ (unhide HL2) g2 e2).mono ?_
  rintro e w3 ⟨z3, rfl, hcase, hb⟩
  have HB3 := hide (obj_step (unhide HB2) hb)
  have HL3 := hide ((unhide HL2).trans (hb.mono (unhide HL2).size))
  clear hb c0 c1 c2 c3 c4 HB2 HL2
  rcases hcase with rfl | ⟨p0, p1, p2⟩
  case' inl =>
    go_wp2_with fail
    go_ret
    exact ⟨-1, rfl, .inl rfl, unhide HL3⟩
  have K3 := hide p2
  have q4 : decide (z3 < 0) = false := decide_eq_false (by omega)
  have g3 : 0 ≤ z3 := p0
  have e3 : z3 ≤ 1048576 := by omega
  clear p0 p1 p2
  obtain ⟨c0, c1, c2, c3, c4⟩ := at5 (unhide HB3)
  go_wp2_with fail
  refine (unhide H4 _ _ (unhide HL3) g3 e3).mono ?_
  rintro e w4 ⟨z4, rfl, hcase, hb⟩
  have HB4 := hide (obj_step (unhide HB3) hb)
  have HL4 := hide ((unhide HL3).trans (hb.mono (unhide HL3).size))
  clear hb c0 c1 c2 c3 c4 HB3 HL3
  rcases hcase with rfl | ⟨p0, p1, p2⟩
  case' inl =>
    go_wp2_with fail
    go_ret
    exact ⟨-1, rfl, .inl rfl, unhide HL4⟩
  have K4 := hide p2
  have q5 : decide (z4 < 0) = false := decide_eq_false (by omega)
  have g4 : 0 ≤ z4 := p0
  have e4 : z4 ≤ 1048576 := by omega
  clear p0 p1 p2
  obtain ⟨c0, c1, c2, c3, c4⟩ := at5 (unhide HB4)
  go_wp2_with fail
  refine (unhide H5 _ _ g4 e4).mono ?_
  rintro e w5 ⟨rfl, rfl⟩
  by_cases hbb : (bk.length : Int) ≤ z4
  case' neg =>
    rw [if_neg hbb]
    clear c0 c1 c2 c3 c4
    go_wp2_with fail
    go_ret
    exact ⟨-1, rfl, .inl rfl, unhide HL4⟩
  rw [if_pos hbb]
  have q6 : decide (z4 - (bk.length : Int) < 0) = false := decide_eq_false (by omega)
  clear c0 c1 c2 c3 c4
  go_wp2_with fail
  go_ret
  exact ⟨z4 - bk.length, rfl, .inr ⟨by omega, by omega, unhide HQ (unhide HUP) (unhide K2) (unhide K3) (unhide K4) (by omega)⟩, unhide HL4⟩
set_option maxRecDepth 100000 in
set_option maxHeartbeats 4000000 in
theorem eqWorld (W : Wd) (A B : WA) (w : World) (hz : WdSz W 1048576) (ha : WdAt w A W) (hb : WdAt w B W) :
    Calls Try.prog 9 #[wdv W A, wdv W B] w fun e w' => e = .returned (.bool true) ∧ Below w.heap.size w w' := by
  have H1 := hide (fun w1 (h : Below w.heap.size w w1) => eqTree A.u B.u A.uc B.uc W.up w1 (by have := hz.u; omega) (ha.below h).up (hb.below h).up)
  have H2 : Hid (∀ w1, Below w.heap.size w w1 → Calls Try.prog 29 #[.slice A.k W.ks.length A.kc, .slice B.k W.ks.length B.kc] w1 fun e w' => e = .returned (.bool true) ∧ Below w1.heap.size w1 w') := fun w1 h => by
    have hx := eqKeeperS A.k B.k A.kc B.kc A.L B.L (ha.ke.trans hb.ke.symm) w1 (by rw [ha.len]; have := hz.k; omega) (hz.row ha) (ha.below h).ks (hb.below h).ks
    rw [ha.len] at hx
    exact hx
  have H3 := hide (fun w1 (h : Below w.heap.size w w1) => eqStringSW A.n B.n A.nc B.nc W.net w1 (by have := hz.n; omega) (ha.below h).net (hb.below h).net)
  have H4 := hide (fun w1 (h : Below w.heap.size w w1) => eqToldSW A.t B.t A.tc B.tc W.told w1 (by have := hz.t; omega) (ha.below h).told (hb.below h).told)
  have H5 := hide (fun w1 (h : Below w.heap.size w w1) => eqGivenSW A.b B.b A.bc B.bc W.back w1 (by have := hz.b; omega) (ha.below h).back (hb.below h).back)
  have hS : (w.alloc (.cells (wdc W A) 38)).heap.size = w.heap.size + 1 := by simp
  have hA0 := obj_step (heap_alloc_new w (.cells (wdc W A) 38)) (below_one (w.alloc (.cells (wdc W A) 38)) (.cells (wdc W B) 38))
  have hB0 := heap_alloc_new (w.alloc (.cells (wdc W A) 38)) (.cells (wdc W B) 38)
  rw [hS] at hB0
  have HA0 := hide hA0
  have HB0 := hide hB0
  have HL0 := hide ((below_one w (.cells (wdc W A) 38)).trans ((below_one (w.alloc (.cells (wdc W A) 38)) (.cells (wdc W B) 38)).mono (by simp)))
  clear ha hb hz hS hA0 hB0
  obtain ⟨up, ks, net, td, bk⟩ := W
  obtain ⟨u, uc, k, kc, L, n, nc, t, tc, b, bc⟩ := A
  obtain ⟨u2, uc2, k2, kc2, L2, n2, nc2, t2, tc2, b2, bc2⟩ := B
  dsimp only at H1 H2 H3 H4 H5 HA0 HB0 HL0 ⊢
  go_enter Try.func9, Try.ntmps9
  obtain ⟨c0, c1, c2, c3, c4⟩ := at5 (unhide HA0)
  obtain ⟨d0, d1, d2, d3, d4⟩ := at5 (unhide HB0)
  go_wp2_with fail
  refine (unhide H1 _ (unhide HL0)).mono ?_
  rintro e w1 ⟨rfl, hb⟩
  have HA1 := hide (obj_step (unhide HA0) hb)
  have HB1 := hide (obj_step (unhide HB0) hb)
  have HL1 := hide ((unhide HL0).trans (hb.mono (unhide HL0).size))
  clear hb c0 c1 c2 c3 c4 d0 d1 d2 d3 d4 HA0 HB0 HL0
  obtain ⟨c0, c1, c2, c3, c4⟩ := at5 (unhide HA1)
  obtain ⟨d0, d1, d2, d3, d4⟩ := at5 (unhide HB1)
  go_wp2_with fail
  refine (unhide H2 _ (unhide HL1)).mono ?_
  rintro e w2 ⟨rfl, hb⟩
  have HA2 := hide (obj_step (unhide HA1) hb)
  have HB2 := hide (obj_step (unhide HB1) hb)
  have HL2 := hide ((unhide HL1).trans (hb.mono (unhide HL1).size))
  clear hb c0 c1 c2 c3 c4 d0 d1 d2 d3 d4 HA1 HB1 HL1
  obtain ⟨c0, c1, c2, c3, c4⟩ := at5 (unhide HA2)
  obtain ⟨d0, d1, d2, d3, d4⟩ := at5 (unhide HB2)
  go_wp2_with fail
  refine (unhide H3 _ (unhide HL2)).mono ?_
  rintro e w3 ⟨rfl, hb⟩
  have HA3 := hide (obj_step (unhide HA2) hb)
  have HB3 := hide (obj_step (unhide HB2) hb)
  have HL3 := hide ((unhide HL2).trans (hb.mono (unhide HL2).size))
  clear hb c0 c1 c2 c3 c4 d0 d1 d2 d3 d4 HA2 HB2 HL2
  obtain ⟨c0, c1, c2, c3, c4⟩ := at5 (unhide HA3)
  obtain ⟨d0, d1, d2, d3, d4⟩ := at5 (unhide HB3)
  go_wp2_with fail
  refine (unhide H4 _ (unhide HL3)).mono ?_
  rintro e w4 ⟨rfl, hb⟩
  have HA4 := hide (obj_step (unhide HA3) hb)
  have HB4 := hide (obj_step (unhide HB3) hb)
  have HL4 := hide ((unhide HL3).trans (hb.mono (unhide HL3).size))
  clear hb c0 c1 c2 c3 c4 d0 d1 d2 d3 d4 HA3 HB3 HL3
  obtain ⟨c0, c1, c2, c3, c4⟩ := at5 (unhide HA4)
  obtain ⟨d0, d1, d2, d3, d4⟩ := at5 (unhide HB4)
  go_wp2_with fail
  refine (unhide H5 _ (unhide HL4)).mono ?_
  rintro e w5 ⟨rfl, hb⟩
  have HA5 := hide (obj_step (unhide HA4) hb)
  have HB5 := hide (obj_step (unhide HB4) hb)
  have HL5 := hide ((unhide HL4).trans (hb.mono (unhide HL4).size))
  clear hb c0 c1 c2 c3 c4 d0 d1 d2 d3 d4 HA4 HB4 HL4
  go_wp2_with fail
  go_ret
  exact ⟨rfl, unhide HL5⟩
end Go.Proofs.Ytgkimogaghgjaaa
