/- Parts. -/
import Derived.Test.YtgkimogaghgjaaaPk25
import Derived.Test.YtgkimogaghgjaaaPk20
import Derived.Test.YtgkimogaghgjaaaPk23
import Derived.Test.YtgkimogaghgjaaaPk24
import Derived.Test.YtgkimogaghgjaaaPk18
import Derived.Deep.Cut
namespace Go.Proofs.Ytgkimogaghgjaaa
open Go.RowKit
open Mth

theorem KpsR.le {g : Nat} {w : World} {M : List KpI} {r : Nat → Nat} (h : KpsR g w M r) : ∀ a b, a ≤ b → b ≤ M.length → r a ≤ r b := fun a b hab hbl => by
  induction b with
  | zero => rw [Nat.le_zero.1 hab]; exact Nat.le_refl _
  | succ b ih =>
    rcases Nat.lt_or_eq_of_le hab with h' | h'
    · exact Nat.le_trans (ih (by omega) (by omega)) (h.up b (by omega))
    · rw [h']; exact Nat.le_refl _
theorem KpsR.scr {g : Nat} {w w' : World} {M : List KpI} {r : Nat → Nat} {T : Nat → Prop} (h : KpsR g w M r) (hs : Scr T w w') (hT : ∀ b, T b → b ≤ g) : KpsR g w' M r := by
  refine ⟨h.r0, h.up, Nat.le_trans h.hi hs.size, fun j hj => ?_⟩
  obtain ⟨S, g1, g2, hk⟩ := h.kp j hj
  exact ⟨S, g1, g2, hk.scr hs (fun b hb => .inl (by have := hT b hb; have := h.r0; have := h.le 0 j (by omega) (by omega); omega))⟩
theorem Scr.blk {α : Type} {enc : α → List Value} {t : TypeId} {T : Nat → Prop} {w w' : World} {g : Nat} {l : List α} (hs : Scr T w w') (h : GR.Blk enc t w g l) (hT : ¬ T g) : GR.Blk enc t w' g l := hs.obj h hT
set_option maxRecDepth 100000 in
set_option maxHeartbeats 4000000 in
theorem scrWorld (lo hi : Nat) (X : Wd) (A : WA) (r : Nat → Nat) (w : World) (hz : WdSz X 1048576) (ha : WdAt w A X) (hs : WdS lo hi w A X r) :
    Calls Try.prog 13 #[wdv X A, .int .i64 1] w fun e w' => ∃ z : Int, e = .returned (.int .i64 z) ∧ 0 ≤ z ∧ Scr (fun b => lo ≤ b ∧ b < hi) w w' := by
  obtain ⟨u, k, n, t, b, e1, e2, e3, e4, e5, h1, h2, h3, h4, h5, h6, q1, q2, q3, q4, q5, q6⟩ := hs.ex
  have hln := ha.len
  have hzr := hz.row ha
  have u1 := GR.Blk.lt h1
  have u2 := GR.Blk.lt h2
  have u4 := GR.Blk.lt h4
  have u5 := GR.Blk.lt h5
  have u6 := GR.Blk.lt h6
  have hkr : k < r A.L.length := Nat.lt_of_lt_of_le h3.r0 (h3.le 0 _ (by omega) (Nat.le_refl _))
  obtain ⟨T, hT⟩ : ∃ T : Nat → Prop, (fun b => lo ≤ b ∧ b < hi) = T := ⟨_, rfl⟩
  have HT1 := hide (show ∀ x, x = u → T x from fun x e => by rw [← hT]; exact ⟨by omega, by omega⟩)
  have HT2 := hide (show ∀ x, x = k ∨ r 0 ≤ x ∧ x < r A.L.length → T x from fun x e => by rw [← hT]; have := h3.r0; rcases e with e | e <;> exact ⟨by omega, by omega⟩)
  have HT3 := hide (show ∀ x, x = n → T x from fun x e => by rw [← hT]; exact ⟨by omega, by omega⟩)
  have HT4 := hide (show ∀ x, x = t → T x from fun x e => by rw [← hT]; exact ⟨by omega, by omega⟩)
  have HT5 := hide (show ∀ x, x = b → T x from fun x e => by rw [← hT]; exact ⟨by omega, by omega⟩)
  rw [hT]
  have H1 := hide (fun (s : Int) W (hs0 : 0 < s) (hs1 : s ≤ 6917529027641081856) (hb : intBlk W u X.up) => scrTree (fun x => x = u) (some ⟨u, 0, none⟩) A.uc X.up s W hs0 hs1 (by have := hz.u; omega) (Wr.of_blk encNum_length hb rfl))
  have H2 : Hid (∀ (s : Int) W, 0 < s → s ≤ 100000000 → GR.Blk encK 63 W k A.L → KpsR k W A.L r → Calls Try.prog 36 #[.slice (some ⟨k, 0, none⟩) X.ks.length A.kc, .int .i64 s] W fun e w' => ∃ z : Int, e = .returned (.int .i64 z) ∧ s ≤ z ∧ z ≤ s + A.L.length * 2300000000000 ∧ Scr (fun b => b = k ∨ r 0 ≤ b ∧ b < r A.L.length) W w') := fun s W hs0 hs1 hb hr => by
    have hx := scrKeeperS k A.kc A.L r s W hs0 hs1 (by rw [hln]; exact hz.k) hzr hr.r0 hr.up hb hr.kp
    rw [hln] at hx ⊢
    exact hx
  have H3 := hide (fun (s : Int) W (hs0 : 0 < s) (hs1 : s ≤ 5764607523034234880) (hb : strBlkS W n X.net) => scrStringB (fun x => x = n) (some ⟨n, 0, none⟩) X.net.length A.nc s W hs0 hs1 (by have := hz.n; omega) (Wr.of_blk encStr_length hb rfl))
  have H4 := hide (fun (s : Int) W (hs0 : 0 < s) (hs1 : s ≤ 5764607523034234880) (hb : GR.Blk encTd 112 W t X.told) => scrToldB (fun x => x = t) (some ⟨t, 0, none⟩) X.told.length A.tc s W hs0 hs1 (by have := hz.t; omega) (Wr.of_blk encTd_length hb rfl))
  have H5 := hide (fun (s : Int) W (hs0 : 0 < s) (hs1 : s ≤ 5764607523034234880) (hb : GR.Blk encGv 115 W b X.back) => scrGivenB (fun x => x = b) (some ⟨b, 0, none⟩) X.back.length A.bc s W hs0 hs1 (by have := hz.b; omega) (Wr.of_blk encGv_length hb rfl))
  have hkl : A.L.length ≤ 1048576 := by rw [hln]; exact hz.k
  have hul := hz.u
  have HB0 := hide (heap_alloc_new w (.cells #[.slice A.u X.up.length A.uc, .slice A.k X.ks.length A.kc, .slice A.n X.net.length A.nc, .slice A.t X.told.length A.tc, .slice A.b X.back.length A.bc] 38))
  have HL0 := hide (below_one w (.cells #[.slice A.u X.up.length A.uc, .slice A.k X.ks.length A.kc, .slice A.n X.net.length A.nc, .slice A.t X.told.length A.tc, .slice A.b X.back.length A.bc] 38))
  have HE := hide (show ¬ (fun x => x = u) w.heap.size ∧ ¬ (fun x => x = k ∨ r 0 ≤ x ∧ x < r A.L.length) w.heap.size ∧ ¬ (fun x => x = n) w.heap.size ∧ ¬ (fun x => x = t) w.heap.size ∧ ¬ (fun x => x = b) w.heap.size from ⟨by dsimp only; omega, by dsimp only; omega, by dsimp only; omega, by dsimp only; omega, by dsimp only; omega⟩)
  rw [e1, e2, e3, e4, e5] at HB0 HL0
  have HG1 := hide h1
  have HG2 := hide h2
  have HG3 := hide h3
  have HG4 := hide h4
  have HG5 := hide h5
  have HG6 := hide h6
  have HV := hide (show wdv X A = .agg #[.slice (some ⟨u, 0, none⟩) X.up.length A.uc, .slice (some ⟨k, 0, none⟩) X.ks.length A.kc, .slice (some ⟨n, 0, none⟩) X.net.length A.nc, .slice (some ⟨t, 0, none⟩) X.told.length A.tc, .slice (some ⟨b, 0, none⟩) X.back.length A.bc] by unfold wdv wdc; rw [e1, e2, e3, e4, e5])
  rw [unhide HV]
  have HNE := hide (show k ≠ u ∧ n ≠ u ∧ t ≠ u ∧ b ≠ u ∧ n ≠ k ∧ t ≠ k ∧ b ≠ k ∧ t ≠ n ∧ b ≠ n ∧ b ≠ t ∧ r A.L.length ≤ n ∧ u ≤ k ∧ r 0 ≤ r A.L.length ∧ n < t ∧ t < b from ⟨by omega, by omega, by omega, by omega, by omega, by omega, by omega, by omega, by omega, by omega, by omega, by omega, h3.le 0 _ (by omega) (Nat.le_refl _), q4, q5⟩)
  clear hT hs ha hz hzr h1 h2 h3 h4 h5 h6 e1 e2 e3 e4 e5 hln HV u1 u2 u4 u5 u6 q1 q2 q3 q4 q5 q6 hkr
  generalize A.L = M at *
  generalize A.uc = uc at *
  generalize A.kc = kc at *
  generalize A.nc = nc at *
  generalize A.tc = tc at *
  generalize A.bc = bc at *
  obtain ⟨up, ks, net, td, bk⟩ := X
  dsimp only at H1 H2 H3 H4 H5 HB0 HL0 HG1 HG4 HG5 HG6 hul ⊢
  obtain ⟨c0, c1, c2, c3, c4⟩ := at5 (unhide HB0)
  go_enter Try.func13, Try.ntmps13
  go_wp2_with fail
  refine (unhide H1 _ _ (by omega) (by omega) (GR.Blk.stepW (unhide HG1) (unhide HL0))).mono ?_
  rintro e w1 ⟨rfl, hs⟩
  have HS1 := hide ((Scr.of_below (S := T) (unhide HL0)).trans (hs.mono (unhide HT1)))
  have HB1 := hide (hs.obj (unhide HB0) (unhide HE).1)
  have K2 := hide (hs.blk (GR.Blk.stepW (unhide HG2) (unhide HL0)) (unhide HNE).1)
  have K3 := hide (((unhide HG3).below (unhide HL0)).scr hs (fun b hb => by rw [hb]; exact (unhide HNE).2.2.2.2.2.2.2.2.2.2.2.1))
  have K4 := hide (hs.blk (GR.Blk.stepW (unhide HG4) (unhide HL0)) (unhide HNE).2.1)
  have K5 := hide (hs.blk (GR.Blk.stepW (unhide HG5) (unhide HL0)) (unhide HNE).2.2.1)
  have K6 := hide (hs.blk (GR.Blk.stepW (unhide HG6) (unhide HL0)) (unhide HNE).2.2.2.1)
  clear hs c0 c1 c2 c3 c4 HB0 HL0 HG1 HG2 HG3 HG4 HG5 HG6 H1
  obtain ⟨z1, hz1⟩ : ∃ z1 : Int, 1 + (up.length : Int) = z1 := ⟨_, rfl⟩
  rw [hz1]
  have p1 : 0 < z1 ∧ z1 ≤ 1048577 := by omega
  clear hz1
  obtain ⟨c0, c1, c2, c3, c4⟩ := at5 (unhide HB1)
  go_wp2_with fail
  refine (unhide H2 _ _ (by omega) (by omega) (unhide K2) (unhide K3)).mono ?_
  rintro e w2 ⟨z2, rfl, hlo, hhi, hs⟩
  have p2 : 0 < z2 ∧ z2 ≤ 2411724900000000000 := by omega
  have HS2 := hide ((unhide HS1).trans (hs.mono (unhide HT2)))
  have HB2 := hide (hs.obj (unhide HB1) (unhide HE).2.1)
  have L4 := hide (hs.blk (unhide K4) (fun h => by have q := unhide HNE; omega))
  have L5 := hide (hs.blk (unhide K5) (fun h => by have q := unhide HNE; omega))
  have L6 := hide (hs.blk (unhide K6) (fun h => by have q := unhide HNE; omega))
  clear hs hlo hhi c0 c1 c2 c3 c4 HB1 HS1 K2 K3 K4 K5 K6 H2
  obtain ⟨c0, c1, c2, c3, c4⟩ := at5 (unhide HB2)
  go_wp2_with fail
  refine (unhide H3 _ _ (by omega) (by omega) (unhide L4)).mono ?_
  rintro e w3 ⟨z3, rfl, hlo, hhi, hs⟩
  have p3 : 0 < z3 ∧ z3 ≤ 2411724900100000000 := by omega
  have HS3 := hide ((unhide HS2).trans (hs.mono (unhide HT3)))
  have HB3 := hide (hs.obj (unhide HB2) (unhide HE).2.2.1)
  have M5 := hide (hs.blk (unhide L5) (fun h => by have q := unhide HNE; omega))
  have M6 := hide (hs.blk (unhide L6) (fun h => by have q := unhide HNE; omega))
  clear hs hlo hhi c0 c1 c2 c3 c4 HB2 HS2 L4 L5 L6 H3
  obtain ⟨c0, c1, c2, c3, c4⟩ := at5 (unhide HB3)
  go_wp2_with fail
  refine (unhide H4 _ _ (by omega) (by omega) (unhide M5)).mono ?_
  rintro e w4 ⟨z4, rfl, hlo, hhi, hs⟩
  have p4 : 0 < z4 ∧ z4 ≤ 2411724900200000000 := by omega
  have HS4 := hide ((unhide HS3).trans (hs.mono (unhide HT4)))
  have HB4 := hide (hs.obj (unhide HB3) (unhide HE).2.2.2.1)
  have N6 := hide (hs.blk (unhide M6) (fun h => by have q := unhide HNE; omega))
  clear hs hlo hhi c0 c1 c2 c3 c4 HB3 HS3 M5 M6 H4
  obtain ⟨c0, c1, c2, c3, c4⟩ := at5 (unhide HB4)
  go_wp2_with fail
  refine (unhide H5 _ _ (by omega) (by omega) (unhide N6)).mono ?_
  rintro e w5 ⟨z5, rfl, hlo, hhi, hs⟩
  have HS5 := hide ((unhide HS4).trans (hs.mono (unhide HT5)))
  have p5 : 0 ≤ z5 := by omega
  clear hs hlo hhi c0 c1 c2 c3 c4 HB4 HS4 N6 H5
  go_wp2_with fail
  go_ret
  exact ⟨z5, rfl, p5, unhide HS5⟩

theorem infoWI2 : (Try.prog.info? 38).map (·.size) = some 5 := by kernel_rfl
theorem infoWL2 : (Try.prog.info? 30).map (·.size) = some 5 := by kernel_rfl
theorem StrsAt.under {w w' : World} {a : Option Addr} {l : List ByteArray} {T : Nat → Prop} {hi : Nat} (h : StrsAt w a l) (hs : Scr T w w') (hl : 0 < l.length → ∀ g off, a = some ⟨g, off, none⟩ → g < hi) (hT : ∀ b, T b → hi ≤ b) : StrsAt w' a l := fun i hi' => by
  obtain ⟨g, off, e, hg, hc⟩ := h i hi'
  have hb := hs.block g hg (fun hx => by have := hT g hx; have := hl (by omega) g off e; omega)
  exact ⟨g, off, e, Nat.lt_of_lt_of_le hg hs.size, fun j hj => (World.cell?_of_block (w := w) (a := ⟨g, off + (i * 1 + j), none⟩) hb).trans (hc j hj)⟩
theorem StrsAt.keepsL {w w' : World} {a : Option Addr} {l : List ByteArray} {F : List Nat} (h : StrsAt w a l) (hk : KeepsL F w w') (hl : 0 < l.length → ∀ g off, a = some ⟨g, off, none⟩ → g ∉ F) : StrsAt w' a l := fun i hi' => by
  obtain ⟨g, off, e, hg, hc⟩ := h i hi'
  have hb := hk.block g hg (hl (by omega) g off e)
  exact ⟨g, off, e, Nat.lt_of_lt_of_le hg hk.size, fun j hj => (World.cell?_of_block (w := w) (a := ⟨g, off + (i * 1 + j), none⟩) hb).trans (hc j hj)⟩
theorem StrsAt.lt {w : World} {a : Option Addr} {l : List ByteArray} (h : StrsAt w a l) (hl : 0 < l.length) : ∀ g off, a = some ⟨g, off, none⟩ → g < w.heap.size := fun g off e => by
  obtain ⟨g', off', e', hg, _⟩ := h 0 hl
  rw [e] at e'
  cases e'
  exact hg
theorem GR.W.scr {α : Type} {enc : α → List Value} {sz : Nat} {w w' : World} {a : Option Addr} {g : Nat} {l : List α} {T : Nat → Prop} (h : GR.W enc sz w a g l) (hs : Scr T w w') (hT : 0 < l.length → ¬ T g) : GR.W enc sz w' a g l := fun i hi => by
  obtain ⟨e, hg, hc⟩ := h i hi
  have hb := hs.block g hg (hT (by omega))
  exact ⟨e, Nat.lt_of_lt_of_le hg hs.size, fun j hj => ⟨(World.cell?_of_block (w := w) (a := ⟨g, i * sz + j, none⟩) hb).trans (hc j hj).1, (World.frozen?_of_block (w := w) (a := ⟨g, i * sz + j, none⟩) hb).trans (hc j hj).2⟩⟩
set_option maxRecDepth 100000 in
set_option maxHeartbeats 4000000 in
theorem fnExactKeysOf_walk (X : Wd) (A : WA) (hz : WdSz X maxLen) (w : World) (ha : WdAt w A X) :
    Calls Try.prog 4 #[wdv X A] w fun e w' => e = .returned (.bool true) ∧ Below w.heap.size w w' := by
  have HP0 := hide (heap_alloc_new w (.cells (wdc X A) 30))
  have HL0 := hide (below_one w (.cells (wdc X A) 30))
  have HSZ := hide (fun w1 (h : Below w.heap.size w w1) => szWorld X A w1 hz (ha.below h))
  have HTO := hide (fun (hz2 : WdSz X 1048576) w1 (h : Below w.heap.size w w1) => toWorld X A w1 hz2 (ha.below h))
  have HSP := hide (fun (hz2 : WdSz X 1048576) (B : WA) w1 (h : WdAt w1 B X) => specKeysOf X B w1 hz2 h)
  have HIM := hide (fun (hz2 : WdSz X 1048576) (B : WA) w1 (h : WdAt w1 B X) => implKeysOf X B w1 hz2 h)
  have HEQ := hide (fun (hz2 : WdSz X 1048576) (B C : WA) w1 (h : WdAt w1 B X) (h' : WdAt w1 C X) => eqWorld X B C w1 hz2 h h')
  have HMK := hide (fun (hz2 : WdSz X 1048576) (lo hi : Nat) (B : WA) (r : Nat → Nat) w1 (h : WdAt w1 B X) (h' : WdS lo hi w1 B X r) => scrWorld lo hi X B r w1 hz2 h h')
  clear ha hz
  obtain ⟨up, ks, net, td, bk⟩ := X
  obtain ⟨u, uc, k, kc, L, n, nc, t, tc, b, bc⟩ := A
  obtain ⟨c0, c1, c2, c3, c4⟩ := at5 (unhide HP0)
  go_enter Try.func4, Try.ntmps4
  go_wp2_with fail
  refine (unhide HSZ _ (unhide HL0)).mono ?_
  rintro e w1 ⟨r0, rfl, hr, hb⟩
  have HP1 := hide (obj_step (unhide HP0) hb)
  have HL1 := hide ((unhide HL0).trans (hb.mono (unhide HL0).size))
  clear hb c0 c1 c2 c3 c4 HP0 HL0 HSZ
  rcases hr with rfl | ⟨hr0, hr1, hz2⟩
  case' inl =>
    go_wp2_with fail
    go_ret
    exact ⟨rfl, unhide HL1⟩
  have hrn : decide (r0 < 0) = false := decide_eq_false (by omega)
  have HT2 := hide (unhide HTO hz2)
  have HS2 := hide (unhide HSP hz2)
  have HI2 := hide (unhide HIM hz2)
  have HE2 := hide (unhide HEQ hz2)
  have HM2 := hide (unhide HMK hz2)
  clear HTO HSP HIM HEQ HMK hz2
  obtain ⟨c0, c1, c2, c3, c4⟩ := at5 (unhide HP1)
  go_wp2_with fail
  refine (unhide HT2 _ (unhide HL1)).mono ?_
  rintro e w2 ⟨B2, rfl, hat, _, hb⟩
  have HP2 := hide (obj_step (unhide HP1) hb)
  have HL2 := hide ((unhide HL1).trans (hb.mono (unhide HL1).size))
  have HA2 := hide hat
  clear hb hat c0 c1 c2 c3 c4 HP1 HL1
  go_wp2_with fail
  refine (unhide HS2 _ _ (unhide HA2)).mono ?_
  rintro e w3 ⟨wa, wcp, K, rfl, hst, hasc, hmem, hKl, hb⟩
  have HP3 := hide (obj_step (unhide HP2) hb)
  have HL3 := hide ((unhide HL2).trans (hb.mono (unhide HL2).size))
  have HK3 := hide hst
  have HASC := hide hasc
  have HMEM := hide hmem
  clear hb hst hasc hmem HP2 HL2 HA2 HS2
  obtain ⟨c0, c1, c2, c3, c4⟩ := at5 (unhide HP3)
  go_wp2_with fail
  refine (unhide HT2 _ (unhide HL3)).mono ?_
  rintro e w4 ⟨B4, rfl, hat, ⟨r, hws⟩, hb⟩
  have HP4 := hide (obj_step (unhide HP3) hb)
  have HL4 := hide ((unhide HL3).trans (hb.mono (unhide HL3).size))
  have HA4 := hide hat
  have HW4 := hide hws
  have HK4 := hide (GR.At.below (unhide HK3) hb)
  have h34 : w3.heap.size ≤ w4.heap.size := hb.size
  have HKL : Hid (0 < K.length → ∀ g off, wa = some ⟨g, off, none⟩ → g < w3.heap.size) := fun h => StrsAt.lt (unhide HK3) h
  have hw3 : w.heap.size < w3.heap.size := obj_lt (unhide HP3)
  clear hb hat hws c0 c1 c2 c3 c4 HP3 HK3
  clear HL3
  go_upto_region 7 with fail
  refine wp_at (fun W5 hW => ?_)
  have hb : Below w4.heap.size w4 W5 := by rw [hW]; exact below_one w4 _
  have HX5 : Hid (W5.heap[w4.heap.size]? = some (.cells (wdc ⟨up, ks, net, td, bk⟩ B4) 38 (0, 0))) := by rw [hW]; exact heap_alloc_new w4 _
  have HP5 := hide (obj_step (unhide HP4) hb)
  have HL5 := hide ((unhide HL4).trans (hb.mono (unhide HL4).size))
  have HA5 := hide ((unhide HA4).below hb)
  have HW5 := hide ((unhide HW4).below hb)
  have HK5 := hide (GR.At.below (unhide HK4) hb)
  have h45 : w4.heap.size < W5.heap.size := by rw [hW]; simp
  clear hb hW HP4 HL4 HA4 HW4 HK4
  obtain ⟨x0, x1, x2, x3, x4⟩ := at5 (unhide HX5)
  go_wp2_with fail
  refine (unhide HI2 _ _ (unhide HA5)).mono ?_
  rintro e w6 ⟨ga, gcp, K2, rfl, hgo, hasc2, hmem2, _, hb⟩
  obtain rfl : K2 = K := asc_unique _ _ hasc2 (unhide HASC) (fun x => (hmem2 x).trans (unhide HMEM x).symm)
  obtain ⟨ga', gc', g0, hve, hgw, hgl, _⟩ := GR.W.of_own encStr_length hgo
  simp only [Value.slice.injEq] at hve
  obtain ⟨rfl, _, rfl⟩ := hve
  have HP6 := hide (obj_step (unhide HP5) hb)
  have HX6 := hide (obj_step (unhide HX5) hb)
  have HL6 := hide ((unhide HL5).trans (hb.mono (unhide HL5).size))
  have HA6 := hide ((unhide HA5).below hb)
  have HW6 := hide ((unhide HW5).below hb)
  have HK6 := hide (GR.At.below (unhide HK5) hb)
  have HG6 := hide hgw
  have HGL := hide (show 0 < K2.length → W5.heap.size ≤ g0 from fun h => (hgl g0 (fp_mem h)).1)
  clear hb x0 x1 x2 x3 x4 HP5 HX5 HL5 HA5 HW5 HK5 hgo hasc2 hmem2 hgw hgl
  go_wp2_with fail
  refine (eqStringSW _ _ _ _ K2 _ (by omega) (unhide HG6).at (unhide HK6)).mono ?_
  rintro e w7 ⟨rfl, hb⟩
  have HP7 := hide (obj_step (unhide HP6) hb)
  have HX7 := hide (obj_step (unhide HX6) hb)
  have HL7 := hide ((unhide HL6).trans (hb.mono (unhide HL6).size))
  have HA7 := hide ((unhide HA6).below hb)
  have HW7 := hide ((unhide HW6).below hb)
  have HK7 := hide (GR.At.below (unhide HK6) hb)
  have HG7 := hide ((unhide HG6).below hb)
  clear hb HP6 HX6 HL6 HA6 HW6 HK6 HG6
  have hxl := obj_lt (unhide HX7)
  have hpl := obj_lt (unhide HP7)
  have HRX : Hid (w7.rangeAt w4.heap.size 0 (wdc ⟨up, ks, net, td, bk⟩ B4).toList) := range_blk (unhide HX7)
  have HRP : Hid (w7.rangeAt w.heap.size 0 (wdc ⟨up, ks, net, td, bk⟩ ⟨u, uc, k, kc, L, n, nc, t, tc, b, bc⟩).toList) := range_blk (unhide HP7)
  have HI1 : Hid ((Try.prog.info? 38).map (·.size) = some (wdc ⟨up, ks, net, td, bk⟩ B4).toList.length) := infoWI2
  have HI3 : Hid ((Try.prog.info? 30).map (·.size) = some (wdc ⟨up, ks, net, td, bk⟩ ⟨u, uc, k, kc, L, n, nc, t, tc, b, bc⟩).toList.length) := infoWL2
  have HTT : Hid (∀ w1, Below w.heap.size w w1 → Calls Try.prog 7 #[.agg (wdc ⟨up, ks, net, td, bk⟩ ⟨u, uc, k, kc, L, n, nc, t, tc, b, bc⟩).toList.toArray] w1 fun e w' => ∃ V : List Value, e = .returned (.agg V.toArray) ∧ (∀ w2, Ge w' w2 → Ge w7 w2 → Calls Try.prog 9 #[.agg (wdc ⟨up, ks, net, td, bk⟩ B4).toList.toArray, .agg V.toArray] w2 fun e w3 => e = .returned (.bool true) ∧ Below w2.heap.size w2 w3) ∧ Below w1.heap.size w1 w') := fun w1 h => (unhide HT2 w1 h).mono (by
    rintro e w' ⟨C, rfl, hC, _, hb⟩
    exact ⟨(wdc ⟨up, ks, net, td, bk⟩ C).toList, rfl, fun w2 h1 h2 => unhide HE2 B4 C w2 ((unhide HA7).below h2) (hC.below h1), hb⟩)
  clear HE2
  generalize (wdc ⟨up, ks, net, td, bk⟩ B4).toList = V1 at HRX HI1 HTT
  generalize (wdc ⟨up, ks, net, td, bk⟩ ⟨u, uc, k, kc, L, n, nc, t, tc, b, bc⟩).toList = V2 at HRP HI3 HTT
  go_upto_region 10 with fail
  go_cut [31] from 27 (fun tv wx => tv = .bool false ∧ Ge w7 wx)
  case first =>
    refine wp_region_mix (by kernel_rfl) ?_
    show wpMix _ _ _ _ 5 (Array.replicate 5 false) _ _
    refine wpMix_mid 0 rfl (by kernel_rfl) (by kernel_rfl) (by kernel_rfl) (fun _ _ _ _ h => h) (by rfl) 38 _ rfl w4.heap.size 0 (by first | rfl | simp [Act.eval, Act.put]) V1 _ (unhide HRX) hxl Try.underlying38 rfl (unhide HI1) ?_
    go_simp
    refine wpMix_mid 1 rfl (by kernel_rfl) (by kernel_rfl) (by kernel_rfl) (fun _ _ _ _ h => h) (by rfl) 30 _ rfl w.heap.size 0 (by first | rfl | simp [Act.eval, Act.put]) V2 _ (unhide HRP) hpl Try.underlying30 rfl (unhide HI3) ?_
    go_simp
    refine wpMix_one 2 rfl (by kernel_rfl) (by rfl) (fun x hx => ?_)
    go_simp
    refine (unhide HTT x ((unhide HL7).trans (hx.mono (unhide HL7).size))).mono ?_
    rintro e y ⟨V, rfl, hv, hby⟩
    refine ⟨hby, ?_⟩
    have HV := hide hv
    have HXY := hide (Ge.trans hx hby)
    clear hv hx hby
    refine wpMix_one 3 rfl (by kernel_rfl) (by rfl) (fun x hx => ?_)
    go_simp
    refine (unhide HV x hx (Ge.trans (unhide HXY) hx)).mono ?_
    rintro e y2 ⟨rfl, hby⟩
    refine ⟨hby, ?_⟩
    have HXZ := hide (Ge.trans (Ge.trans (unhide HXY) hx) hby)
    clear hx hby
    refine wpMix_take 4 rfl (by kernel_rfl) (by kernel_rfl) (by kernel_rfl) (fun _ _ _ _ h => h) (fun K hK => ?_)
    go_simp
    first
      | (refine hK _ ?_; clear hK K)
      | (apply Exists.intro
         refine ⟨fun _ => ?_, hK _ ?_⟩
         (fail)
         clear hK K)
    refine wpMix_done (by kernel_rfl) (fun z hz => ?_)
    have HZ := hide (Ge.trans (unhide HXZ) hz)
    clear hz HXZ HXY HV
    go_simp
    go_wp2_with fail
    go_meet
    case rel => exact ⟨rfl, unhide HZ⟩
  case rest =>
    obtain ⟨rfl, hb⟩ := hcut
    have HP8 := hide (obj_step (unhide HP7) hb)
    have HX8 := hide (obj_step (unhide HX7) hb)
    have HL8 := hide ((unhide HL7).trans (hb.mono (unhide HL7).size))
    have HA8 := hide ((unhide HA7).below hb)
    have HW8 := hide ((unhide HW7).below hb)
    have HK8 := hide (GR.At.below (unhide HK7) hb)
    have HG8 := hide ((unhide HG7).below hb)
    clear hb hxl hpl HRX HRP HI1 HI3 HTT HP7 HX7 HL7 HA7 HW7 HK7 HG7
    obtain ⟨x0, x1, x2, x3, x4⟩ := at5 (unhide HX8)
    go_wp2_with fail
    refine (unhide HM2 _ _ _ _ _ (unhide HA8) (unhide HW8)).mono ?_
    rintro e w9 ⟨z, rfl, hz0, hs⟩
    have hzn : decide (z < 0) = false := decide_eq_false (by omega)
    have HP9 := hide (hs.obj (unhide HP8) (fun h => by omega))
    have HL9 := hide ((unhide HL8).trans (hs.under (B := w.heap.size) (fun x hx => by omega) (unhide HL8).size))
    have HK9 := hide (StrsAt.under (hi := w3.heap.size) (unhide HK8) hs (unhide HKL) (fun x hx => hx.1))
    have HG9 := hide (GR.W.scr (unhide HG8) hs (fun h hx => by have := unhide HGL h; omega))
    clear hs hz0 x0 x1 x2 x3 x4 HP8 HX8 HL8 HA8 HW8 HK8 HG8 HM2
    go_wp2_with fail
    refine (eqStringSW _ _ _ _ K2 _ (by omega) (unhide HG9).at (unhide HK9)).mono ?_
    rintro e w10 ⟨rfl, hb⟩
    have HP10 := hide (obj_step (unhide HP9) hb)
    have HL10 := hide ((unhide HL9).trans (hb.mono (unhide HL9).size))
    have HK10 := hide (GR.At.below (unhide HK9) hb)
    have HG10 := hide ((unhide HG9).below hb)
    clear hb HP9 HL9 HK9 HG9
    go_wp2_with fail
    refine (markStrW _ g0 _ 1 K2 _ (by omega) (by omega) (unhide HG10)).mono ?_
    rintro e w11 ⟨rfl, hgw, hk⟩
    have HP11 := hide (hk.obj (unhide HP10) (fun hx => by have h := of_fp hx; have := unhide HGL h.2; omega))
    have HL11 := hide ((unhide HL10).trans (hk.below (B := w.heap.size) (fun x hx => by have h := of_fp hx; have := unhide HGL h.2; omega) (unhide HL10).size))
    have HK11 := hide (StrsAt.keepsL (unhide HK10) hk (fun h g off e hx => by have h1 := unhide HKL h g off e; have h2 := of_fp hx; have := unhide HGL h; omega))
    have HG11 := hide hgw
    clear hgw hk HP10 HL10 HK10 HG10
    obtain ⟨q0, hq0⟩ : ∃ q0 : Nat, 1 + K2.length = q0 := ⟨_, rfl⟩
    have HH := hide (fun w1 (h : GR.W encStr 1 w1 ga g0 (marks 1 K2.length)) => heldStrW ga g0 gcp 1 K2.length w1 (by omega) (by omega) h)
    rw [hq0] at HH ⊢
    have hqn : decide ((q0 : Int) < 0) = false := decide_eq_false (by omega)
    have hqq : decide ((q0 : Int) = (q0 : Int)) = true := by simp
    clear hq0
    go_wp2_with fail
    refine (unhide HH _ (unhide HG11)).mono ?_
    rintro e w12 ⟨rfl, hb⟩
    have HP12 := hide (obj_step (unhide HP11) hb)
    have HL12 := hide ((unhide HL11).trans (hb.mono (unhide HL11).size))
    have HK12 := hide (GR.At.below (unhide HK11) hb)
    have HG12 := hide ((unhide HG11).below hb)
    clear hb HP11 HL11 HK11 HG11
    obtain ⟨c0, c1, c2, c3, c4⟩ := at5 (unhide HP12)
    go_wp2_with fail
    refine (unhide HT2 _ (unhide HL12)).mono ?_
    rintro e w13 ⟨B13, rfl, hat, _, hb⟩
    have HL13 := hide ((unhide HL12).trans (hb.mono (unhide HL12).size))
    have HA13 := hide hat
    have HK13 := hide (GR.At.below (unhide HK12) hb)
    have HG13 := hide ((unhide HG12).below hb)
    clear hb hat c0 c1 c2 c3 c4 HP12 HL12 HK12 HG12 HT2
    go_wp2_with fail
    refine (unhide HI2 _ _ (unhide HA13)).mono ?_
    rintro e w14 ⟨ha, hcp, K3, rfl, hgo, hasc3, hmem3, _, hb⟩
    obtain rfl : K3 = K2 := asc_unique _ _ hasc3 (unhide HASC) (fun x => (hmem3 x).trans (unhide HMEM x).symm)
    obtain ⟨ha', hc', h0, hve, hhw, _, _⟩ := GR.W.of_own encStr_length hgo
    simp only [Value.slice.injEq] at hve
    obtain ⟨rfl, _, rfl⟩ := hve
    have HL14 := hide ((unhide HL13).trans (hb.mono (unhide HL13).size))
    have HK14 := hide (GR.At.below (unhide HK13) hb)
    have HG14 := hide ((unhide HG13).below hb)
    have HH14 := hide hhw
    clear hb hgo hasc3 hmem3 hhw HL13 HK13 HG13 HA13 HI2
    go_wp2_with fail
    refine (eqStringSW _ _ _ _ K3 _ (by omega) (unhide HH14).at (unhide HK14)).mono ?_
    rintro e w15 ⟨rfl, hb⟩
    have HL15 := hide ((unhide HL14).trans (hb.mono (unhide HL14).size))
    have HG15 := hide ((unhide HG14).below hb)
    clear hb HL14 HK14 HG14 HH14
    go_wp2_with fail
    refine (unhide HH _ (unhide HG15)).mono ?_
    rintro e w16 ⟨rfl, hb⟩
    have HL16 := hide ((unhide HL15).trans (hb.mono (unhide HL15).size))
    clear hb HL15 HG15
    go_wp2_with fail
    go_ret
    exact ⟨rfl, unhide HL16⟩
end Go.Proofs.Ytgkimogaghgjaaa
