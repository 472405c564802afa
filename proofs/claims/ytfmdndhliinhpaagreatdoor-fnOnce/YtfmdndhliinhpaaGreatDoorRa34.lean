/- Parts. -/
import Derived.Test.YtfmdndhliinhpaaGreatDoorRa33
namespace Go.Proofs.YtfmdndhliinhpaaGreatDoor
open Go.RowKit
open Mth

abbrev opA (o : iK) : Array Value := #[.int .i64 o.K, .int .i64 o.no, .string o.k, .int .i64 o.n, .int .i64 o.m.K, .int .i64 o.m.F, .int .i64 o.m.T, .int .i64 o.m.I, .int .i64 o.m.L, .string o.m.k, .int .i64 o.m.N]
/-- While an operation is drawn: the cursor, the result's block, the operation's own. -/
structure Hw (w : World) (c g : Nat) (o : iK) (W : World) : Prop where
  cur : rO W c
  keep : Keeps c w W
  clt : c < w.heap.size
  glt : w.heap.size < g
  res : W.heap[w.heap.size]? = some (.cells #[.int .i64 0, .int .i64 0, .string ⟨#[]⟩, .int .i64 0, .int .i64 0, .int .i64 0, .int .i64 0, .int .i64 0, .int .i64 0, .string ⟨#[]⟩, .int .i64 0] 34 (0, 0))
  own : W.heap[g]? = some (.cells (opA o) 34 (0, 0))
theorem Hw.draw {w W W' : World} {c g : Nat} {o : iK} (h : Hw w c g o W) (hc : rO W' c) (hk : Keeps c W W') : Hw w c g o W' := by
  have h1 := fH h.res
  have h2 := fH h.own
  have h3 := h.clt
  have h4 := h.glt
  exact ⟨hc, h.keep.trans hk, h.clt, h.glt, by rw [hk.block _ h1 (by omega)]; exact h.res, by rw [hk.block _ h2 (by omega)]; exact h.own⟩
theorem Hw.new {w W : World} {c g : Nat} {o : iK} (h : Hw w c g o W) (x : Obj) : Hw w c g o (W.alloc x) := h.draw (gZ h.cur x) (ku x)
/-- What is written at the operation's block, or behind it. -/
theorem Hw.far {w W W' : World} {c g : Nat} {o o' : iK} (h : Hw w c g o W) (hb : Below g W W') (e : W'.heap[g]? = some (.cells (opA o') 34 (0, 0))) : Hw w c g o' W' := by
  have h3 := h.clt
  have h4 := h.glt
  have hk := h.keep
  exact ⟨h.cur.below hb (by omega), ⟨hb.os.trans hk.os, hb.tape.trans hk.tape, hb.output.trans hk.output, Nat.le_trans hk.size hb.size, fun k k1 k2 => (hb.block k (by omega)).trans (hk.block k k1 k2)⟩, h.clt, h.glt, (hb.block _ h4).trans h.res, e⟩
theorem aep {w : World} {c : Nat} {cs : Array Value} {t : TypeId} (h : w.heap[c]? = some (.cells cs t (0, 0))) (i : Nat) (v : Value) : (w.setCell ⟨c, i, none⟩ v).heap[c]? = some (.cells (cs.setIfInBounds i v) t (0, 0)) := by
  unfold World.setCell
  simp only [Array.getElem?_modify]
  rw [if_pos trivial, h]
  rfl
theorem Hw.put {w W : World} {c g : Nat} {o o' : iK} (h : Hw w c g o W) (i : Nat) (v : Value) (e : (opA o).setIfInBounds i v = opA o') : Hw w c g o' (W.setCell ⟨g, i, none⟩ v) :=
  h.far ((Below.refl g W).setCell (p := ⟨g, i, none⟩) (Nat.le_refl g) v) (by rw [← e]; exact aep h.own i v)
theorem Hw.at {w W V : World} {c g : Nat} {o : iK} (h : Hw w c g o W) (e : V = W) : Hw w c g o V := by rw [e]; exact h
def Gc : List ByteArray := [⟨#[97]⟩, ⟨#[98]⟩]
theorem JY : ∀ x ∈ Gc, x.size ≤ 20 := by decide

set_option maxRecDepth 100000 in
set_option maxHeartbeats 8000000 in
theorem ar1 (c : Nat) (w : World) (hc : rO w c) : Calls Tryz.prog 12 #[.pointer (some ⟨c, 0, none⟩)] w fun e w' => ∃ o : iK, e = .returned (jY o) ∧ o.k.size ≤ 20 ∧ o.m.k.size ≤ 20 ∧ rO w' c ∧ Keeps c w w' := by
  have hcl := hc.lt
  have HC := hide hc
  clear hc
  go_enter Tryz.func12, Tryz.ntmps12
  go_wp2_with fail
  generalize UZ : w.alloc (.cells #[.int .i64 0, .int .i64 0, .string ⟨#[]⟩, .int .i64 0, .int .i64 0, .int .i64 0, .int .i64 0, .int .i64 0, .int .i64 0, .string ⟨#[]⟩, .int .i64 0] 34) = wa at *
  have U9 : wa.heap.size = w.heap.size + 1 := by rw [← UZ]; simp
  have Pe := hide (show rO wa c by rw [← UZ]; exact gZ (ah HC) _)
  have Zg := hide (show Keeps c w wa by rw [← UZ]; exact ku _)
  have oI := hide (show wa.heap[w.heap.size]? = some (.cells #[.int .i64 0, .int .i64 0, .string ⟨#[]⟩, .int .i64 0, .int .i64 0, .int .i64 0, .int .i64 0, .int .i64 0, .int .i64 0, .string ⟨#[]⟩, .int .i64 0] 34 (0, 0)) by rw [← UZ]; exact heap_alloc_new w _)
  clear UZ HC
  have xR := hide (Yz c (w.heap.size + 1) 2 Gc _ (gZ (ah Pe) (.cells (Gc.map Value.string).toArray 9)) (by omega) (by decide) (by decide) (fun i hi => by rw [← U9]; exact Vw wa Gc _ i hi) (by simp; omega))
  refine (ah xR).mono ?_
  clear xR
  rintro e w1 ⟨key, rfl, hkey, hc1, hk1⟩
  have hks := JY key hkey
  have za := hide hc1
  have Zf := hide (((ah Zg).trans (ku _)).trans hk1)
  have HR1 := hide (show w1.heap[w.heap.size]? = some (.cells #[.int .i64 0, .int .i64 0, .string ⟨#[]⟩, .int .i64 0, .int .i64 0, .int .i64 0, .int .i64 0, .int .i64 0, .int .i64 0, .string ⟨#[]⟩, .int .i64 0] 34 (0, 0)) by rw [hk1.block _ (by simp; omega) (by omega), Below.heap_alloc _ _ _ (by omega)]; exact ah oI)
  clear hc1 hk1 Pe Zg oI hkey
  go_wp2_with fail
  refine (gT c 9 _ (ah za) (by omega) (by omega)).mono ?_
  rintro e w2 ⟨y, rfl, hy0, hy1, hc2, hk2⟩
  have oH := hide hc2
  have EY := hide ((ah Zf).trans hk2)
  have HR2 := hide (show w2.heap[w.heap.size]? = some (.cells #[.int .i64 0, .int .i64 0, .string ⟨#[]⟩, .int .i64 0, .int .i64 0, .int .i64 0, .int .i64 0, .int .i64 0, .int .i64 0, .string ⟨#[]⟩, .int .i64 0] 34 (0, 0)) by rw [hk2.block _ (fH (ah HR1)) (by omega)]; exact ah HR1)
  have hr2 := fH (ah HR2)
  clear hc2 hk2 za Zf HR1
  go_upto_region 4 with fail
  refine wp_at (fun V0 hV => ?_)
  have HS := hide (show Hw w c w2.heap.size ⟨0, 0, ⟨#[]⟩, 0, ⟨0, 0, 0, 0, 0, ⟨#[]⟩, 0⟩⟩ V0 by
    rw [hV]
    refine ⟨gZ (ah oH) _, (ah EY).trans (ku _), hcl, hr2, ?_, heap_alloc_new w2 _⟩
    rw [Below.heap_alloc _ _ _ hr2]
    exact ah HR2)
  clear hV oH EY HR2 hr2 U9
  have hn0 : 0 ≤ 1 + y := by omega
  have hn1 : 1 + y ≤ 9 := by omega
  generalize w2.heap.size = g at *
  go_wp2_with fail
  refine (gT c 10 _ (ah HS).cur (by omega) (by omega)).mono ?_
  rintro e wz ⟨z, rfl, hz0, hz1, hcx, hkx⟩
  have mW := hide ((ah HS).draw hcx hkx)
  clear hcx hkx HS
  go_upto_block 0 with fail
  go_cut [5] (fun p wx => p = .pointer (some ⟨g, 0, none⟩) ∧ ∃ o : iK, Hw w c g o wx ∧ o.k.size ≤ 20 ∧ o.m.k.size ≤ 20)
  case first =>
    have hzc : z = 0 ∨ z = 1 ∨ z = 2 ∨ z = 3 ∨ z = 4 ∨ z = 5 ∨ z = 6 ∨ z = 7 ∨ z = 8 ∨ z = 9 := by omega
    rcases hzc with rfl | rfl | rfl | rfl | rfl | rfl | rfl | rfl | rfl | rfl
    · clear hz0 hz1

      obtain ⟨⟨c0, c1, c2, c3, c4, c5, c6, c7, c8, c9, c10⟩, f0, f1, f2, f3, f4, f5, f6, f7, f8, f9, f10⟩ := bX (ah mW).own
      have hzg := fH (ah mW).own
      go_wp2_with fail
      go_meet
      case rel => exact ⟨rfl, ⟨0, 0, key, (1 + y), ⟨0, 0, 0, 0, 0, ⟨#[]⟩, 0⟩⟩, (ah mW).far (o' := ⟨0, 0, key, (1 + y), ⟨0, 0, 0, 0, 0, ⟨#[]⟩, 0⟩⟩) (dV (Below.refl _ _) (Nat.le_refl _)) (iy (ah mW).own), by dsimp only; first | exact hks | decide, by dsimp only; first | exact hks | decide⟩
    · exact aqD
    · exact aqD
    · open akt in exact ZL
    · clear hz0 hz1

      obtain ⟨⟨c0, c1, c2, c3, c4, c5, c6, c7, c8, c9, c10⟩, f0, f1, f2, f3, f4, f5, f6, f7, f8, f9, f10⟩ := bX (ah mW).own
      have hzg := fH (ah mW).own
      go_wp2_with fail
      go_meet
      case rel => exact ⟨rfl, ⟨3, 0, key, (1 + y), ⟨0, 0, 0, 0, 0, ⟨#[]⟩, 0⟩⟩, (ah mW).far (o' := ⟨3, 0, key, (1 + y), ⟨0, 0, 0, 0, 0, ⟨#[]⟩, 0⟩⟩) (dV (Below.refl _ _) (Nat.le_refl _)) (iy (ah mW).own), by dsimp only; first | exact hks | decide, by dsimp only; first | exact hks | decide⟩
    · clear hz0 hz1

      obtain ⟨⟨c0, c1, c2, c3, c4, c5, c6, c7, c8, c9, c10⟩, f0, f1, f2, f3, f4, f5, f6, f7, f8, f9, f10⟩ := bX (ah mW).own
      have hzg := fH (ah mW).own
      go_wp2_with fail
      go_meet
      case rel => exact ⟨rfl, ⟨4, 0, key, (1 + y), ⟨0, 0, 0, 0, 0, ⟨#[]⟩, 0⟩⟩, (ah mW).far (o' := ⟨4, 0, key, (1 + y), ⟨0, 0, 0, 0, 0, ⟨#[]⟩, 0⟩⟩) (dV (Below.refl _ _) (Nat.le_refl _)) (iy (ah mW).own), by dsimp only; first | exact hks | decide, by dsimp only; first | exact hks | decide⟩
    · clear hz0 hz1

      obtain ⟨⟨c0, c1, c2, c3, c4, c5, c6, c7, c8, c9, c10⟩, f0, f1, f2, f3, f4, f5, f6, f7, f8, f9, f10⟩ := bX (ah mW).own
      have hzg := fH (ah mW).own
      go_wp2_with fail
      go_meet
      case rel => exact ⟨rfl, ⟨5, 0, ⟨#[]⟩, 0, ⟨0, 0, 0, 0, 0, ⟨#[]⟩, 0⟩⟩, (ah mW).far (o' := ⟨5, 0, ⟨#[]⟩, 0, ⟨0, 0, 0, 0, 0, ⟨#[]⟩, 0⟩⟩) (dV (Below.refl _ _) (Nat.le_refl _)) (iy (ah mW).own), by dsimp only; first | exact hks | decide, by dsimp only; first | exact hks | decide⟩
    · clear hz0 hz1
      go_wp2_with fail
      refine (gT c 9 _ (ah mW).cur (by omega) (by omega)).mono ?_
      open aoT in exact abk
    · clear hz0 hz1
      go_wp2_with fail
      refine (iA c wz.heap.size 4 [2, 3, 2, 0] _ (gZ (ah mW).cur _) (by have := (ah mW).cur.lt; omega) (by simp) (by simp) (fun i hi => jh wz [2, 3, 2, 0] _ i hi) (by simp)).mono ?_
      open ahH in exact XL
    · clear hz0 hz1
      go_wp2_with fail
      refine (iA c wz.heap.size 3 [2, 3, 0] _ (gZ (ah mW).cur _) (by have := (ah mW).cur.lt; omega) (by simp) (by simp) (fun i hi => jh wz [2, 3, 0] _ i hi) (by simp)).mono ?_
      rintro e wf ⟨f, rfl, hin, hcx, hkx⟩
      have HS2 := hide (((ah mW).new _).draw hcx hkx)
      clear hcx hkx hin mW
      go_wp2_with fail
      refine (gT c 4 _ (ah HS2).cur (by omega) (by omega)).mono ?_
      rintro e wp ⟨p, rfl, hp0, hp1, hcx, hkx⟩
      have IC := hide ((ah HS2).draw hcx hkx)
      clear hcx hkx HS2
      obtain ⟨⟨c0, c1, c2, c3, c4, c5, c6, c7, c8, c9, c10⟩, f0, f1, f2, f3, f4, f5, f6, f7, f8, f9, f10⟩ := bX (ah IC).own
      have hzg := fH (ah IC).own
      go_wp2_with fail
      go_meet
      case rel => exact ⟨rfl, ⟨6, 0, ⟨#[]⟩, 0, ⟨2, f, 1, (1 + p), 0, ⟨#[]⟩, 0⟩⟩, (ah IC).far (o' := ⟨6, 0, ⟨#[]⟩, 0, ⟨2, f, 1, (1 + p), 0, ⟨#[]⟩, 0⟩⟩) (dV (Below.refl _ _) (Nat.le_refl _)) (iy (ah IC).own), by dsimp only; first | exact hks | decide, by dsimp only; first | exact hks | decide⟩
  case rest =>
  obtain ⟨rfl, ⟨K, no, k, n, ⟨mK, mF, mT, mI, mL, mk, mN⟩⟩, hst, gs, gm⟩ := hcut
  dsimp only at gs gm
  clear mW hz0 hz1 hy0 hy1 hn0 hn1 hks
  have HS := hide hst
  clear hst
  go_wp2_with fail
  refine (gT c 30 _ (ah HS).cur (by omega) (by omega)).mono ?_
  rintro e wz2 ⟨z2, rfl, Qk, Ql, hcx, hkx⟩
  have mW := hide ((ah HS).draw hcx hkx)
  clear hcx hkx HS
  go_upto_block 1 with fail
  go_cut [5] (fun p wx => p = .pointer (some ⟨g, 0, none⟩) ∧ ∃ o : iK, Hw w c g o wx ∧ o.k.size ≤ 20 ∧ o.m.k.size ≤ 20)
  case first =>
    have hzc : z2 = 0 ∨ z2 = 1 ∨ z2 = 2 ∨ z2 = 3 ∨ 4 ≤ z2 := by omega
    rcases hzc with rfl | rfl | rfl | rfl | h4
    · clear Qk Ql
      go_wp2_with fail
      refine (iA c wz2.heap.size 3 [-1, 7, 2] _ (gZ (ah mW).cur _) (by have := (ah mW).cur.lt; omega) (by simp) (by simp) (fun i hi => jh wz2 [-1, 7, 2] _ i hi) (by simp)).mono ?_
      open ahG in exact XL
    · clear Qk Ql
      go_wp2_with fail
      refine (iA c wz2.heap.size 2 [0, 1000000001] _ (gZ (ah mW).cur _) (by have := (ah mW).cur.lt; omega) (by simp) (by simp) (fun i hi => jh wz2 [0, 1000000001] _ i hi) (by simp)).mono ?_
      open ahF in exact XL
    · clear Qk Ql

      obtain ⟨⟨c0, c1, c2, c3, c4, c5, c6, c7, c8, c9, c10⟩, f0, f1, f2, f3, f4, f5, f6, f7, f8, f9, f10⟩ := bX (ah mW).own
      have hzg := fH (ah mW).own
      go_wp2_with fail
      go_meet
      case rel => exact ⟨rfl, ⟨K, no, k, n, ⟨mK, 9, mT, mI, mL, mk, mN⟩⟩, (ah mW).put 5 (.int .i64 9) rfl, gs, gm⟩
    · clear Qk Ql
      go_wp2_with fail
      refine (iA c wz2.heap.size 3 [0, 1000000001, 1000000000] _ (gZ (ah mW).cur _) (by have := (ah mW).cur.lt; omega) (by simp) (by simp) (fun i hi => jh wz2 [0, 1000000001, 1000000000] _ i hi) (by simp)).mono ?_
      open ahE in exact XL
    · have q0 : (z2 == 0) = false := by simp; omega
      have q1 : (z2 == 1) = false := by simp; omega
      have q2 : (z2 == 2) = false := by simp; omega
      have q3 : (z2 == 3) = false := by simp; omega
      clear Qk Ql
      go_wp2_with fail
      go_meet
      case rel => exact ⟨rfl, ⟨K, no, k, n, ⟨mK, mF, mT, mI, mL, mk, mN⟩⟩, ah mW, gs, gm⟩
  case rest =>
  obtain ⟨rfl, o, hst, gs', gm'⟩ := hcut
  clear mW Qk Ql gs gm
  obtain ⟨K, no, k, n, ⟨mK, mF, mT, mI, mL, mk, mN⟩⟩ := o
  have HS := hide hst
  clear hst
  have hown : wc.heap[g]? = some (.cells #[.int .i64 K, .int .i64 no, .string k, .int .i64 n, .int .i64 mK, .int .i64 mF, .int .i64 mT, .int .i64 mI, .int .i64 mL, .string mk, .int .i64 mN] 34 (0, 0)) := (ah HS).own
  obtain ⟨⟨q0, q1, q2, q3, q4, q5, q6, q7, q8, q9, q10⟩, zz⟩ := bX hown
  clear zz hown
  dsimp only at gs' gm'
  have hzg := fH (ah HS).own
  have hzr := fH (ah HS).res
  have hgl := (ah HS).glt
  obtain ⟨⟨d0, d1, d2, d3, d4, d5, d6, d7, d8, d9, d10⟩, f0, f1, f2, f3, f4, f5, f6, f7, f8, f9, f10⟩ := bX (ah HS).res
  go_wp2_with fail
  refine Fw (fun W' hW' => ?_)
  obtain ⟨⟨r0, r1, r2, r3, r4, r5, r6, r7, r8, r9, r10⟩, _⟩ := bX (show W'.heap[w.heap.size]? = some (.cells (opA ⟨K, no, k, n, ⟨mK, mF, mT, mI, mL, mk, mN⟩⟩) 34 (0, 0)) by rw [hW']; exact iy (ah HS).res)
  have hkk : Keeps c w W' := by
    rw [hW']
    have h := (ah HS).keep
    have hb := dV (b0 := .int .i64 K) (b1 := .int .i64 no) (b2 := .string k) (b3 := .int .i64 n) (b4 := .int .i64 mK) (b5 := .int .i64 mF) (b6 := .int .i64 mT) (b7 := .int .i64 mI) (b8 := .int .i64 mL) (b9 := .string mk) (b10 := .int .i64 mN) (Below.refl w.heap.size wc) (Nat.le_refl w.heap.size)
    exact ⟨hb.os.trans h.os, hb.tape.trans h.tape, hb.output.trans h.output, Nat.le_trans h.size hb.size, fun j j1 j2 => (hb.block j j1).trans (h.block j j1 j2)⟩
  have hcc : rO W' c := by
    rw [hW']
    exact (ah HS).cur.below (dV (Below.refl w.heap.size wc) (Nat.le_refl w.heap.size)) hcl
  exact bodyPost_ret (v := jY ⟨K, no, k, n, ⟨mK, mF, mT, mI, mL, mk, mN⟩⟩) (by simp [results, Tryz.results12, go_sem, r0, r1, r2, r3, r4, r5, r6, r7, r8, r9, r10]) rfl ⟨⟨K, no, k, n, ⟨mK, mF, mT, mI, mL, mk, mN⟩⟩, rfl, gs', gm', hcc, hkk⟩

/-- What asa gives: a node in rows of its own. -/
def NA (w : World) (R : Nd × Bool) (e : Ending) (w' : World) : Prop := ∃ A', e = .returned (.tuple #[fU R.1 A', .bool R.2]) ∧ (∃ gk gs I c, Lf w' A' R.1 gk gs I c ∧ ∀ x, x < w.heap.size → c x = 0) ∧ Below w.heap.size w w' ∧ A'.p = none ∧ A'.cp = 0
theorem RM.zero {w : World} {B : Nat} : ∃ gk gs I c, Lf w ⟨none, none, none, none, none, 0, 0, 0, 0, 0⟩ gG gk gs I c ∧ ∀ x, x < B → c x = 0 :=
  ⟨0, 0, fun _ => 0, fun _ => 0, ⟨GR.W.nil, GR.at_nil _ _, World.ownsRow_nil _ _ _ _, ⟨⟨[], GR.W.nil, rfl, fun i hi => by simp [gG] at hi⟩, fun h => by simp [gG] at h⟩, World.ownsRow_nil _ _ _ _, fun x hx => by simp [gG, fp] at hx, fun g hg => by simp at hg, fun x hx => by simp [Value.ownBlock] at hx, fun x hx => by simp [gG, fp] at hx, fun x hx => by simp [gG, nT] at hx, fun x hx => by simp [Value.ownBlock] at hx, by simp [gG, nT]⟩, fun _ _ => rfl⟩
theorem RM.fresh {w : World} {B B2 : Nat} {id par : Int} {kv v : Value} {kids fs : List Int} (hk : w.ownsRow B 3 1 kv kids.length (GR.flat aP kids)) (hkl : ∀ x, kv.ownBlock = some x → x < B2) (hs : w.ownsRow B2 57 3 v fs.length (GR.flat dD (fs.map lW))) (hB : B ≤ B2) :
    ∃ A, Value.agg (Rl id par kv v) = fU (bE id par kids fs) A ∧ (A.p = none ∧ A.cp = 0) ∧ ∃ gk gs I c, Lf w A (bE id par kids fs) gk gs I c ∧ ∀ x, x < B → c x = 0 := by
  obtain ⟨a1, c1, g1, rfl, hW1, hr1, ho1⟩ := GR.W.of_own aN hk
  have h' : w.ownsRow B2 57 3 v (fs.map lW).length (GR.flat dD (fs.map lW)) := by rw [List.length_map]; exact hs
  obtain ⟨a2, c2, g2, e, hW2, hr2, ho2⟩ := GR.W.of_own bC h'
  rw [List.length_map] at e
  subst e
  have hfe : ∀ x, x ∈ fp g2 fs → x ∈ fp g2 (fs.map lW) := fun x hx => by have := fD hx; rw [this.1]; exact dz (by simpa using this.2)
  have hno : ∀ x, x ∈ fp g1 kids → x ∉ fp g2 fs := fun x hx hx2 => by
    have h1 := hkl x (ho1 x hx)
    have h2 := (hr2 x (hfe x hx2)).1
    omega
  have hsq : lJ w a2 g2 (fun _ => 0) (bE id par kids fs).seen := by
    refine ⟨⟨fs.map lW, hW2, by simp [bE], fun i hi => ?_⟩, fun hp => ?_⟩
    · have hi' : i < fs.length := by simpa [bE] using hi
      refine ⟨none, 0, by simp [hi', lW, bE], ?_⟩
      have e0 : ((bE id par kids fs).seen[i]).ids = [] := by simp [bE]
      rw [e0]
      exact ⟨GR.W.nil, fun _ => rfl, fun h => absurd rfl h⟩
    · have hp' : 0 < fs.length := by simpa [bE] using hp
      have hx := ho2 g2 (dz (by simpa using hp'))
      rcases h'.2 with ⟨_, hn⟩ | ⟨g', cap, cur, hv, _, hgg, _⟩
      · rw [List.length_map] at hn
        omega
      · rw [List.length_map] at hv
        rw [hv] at hx
        have e3 : g' = g2 := by simpa [Value.ownBlock] using hx
        rw [e3] at hgg
        exact ⟨cur, hgg⟩
  refine ⟨⟨a1, none, none, a2, none, c1, 0, 0, c2, 0⟩, by simp [Rl, fU, fO, bE], ⟨rfl, rfl⟩, g1, g2, fun _ => 0, fun x => if x ∈ fp g1 kids then 1 else if x ∈ fp g2 fs then 4 else 0, ⟨hW1, GR.at_nil _ _, World.ownsRow_nil _ _ _ _, hsq, World.ownsRow_nil _ _ _ _, fun x hx => if_pos hx, fun g hg => by simp at hg, fun x hx => by simp [Value.ownBlock] at hx, fun x hx => ?_, fun x hx => ?_, fun x hx => by simp [Value.ownBlock] at hx, ?_⟩, fun x hx => ?_⟩
  · rw [Bl (l' := fs) (by simp [bE])] at hx
    show (if _ then _ else _) = 4
    rw [if_neg (fun h => hno x h hx), if_pos hx]
  · simp only [bE] at hx
    rw [Ao] at hx
    simp at hx
  · simp only [bE]
    rw [Ao]
    exact List.nodup_nil
  · show (if _ then _ else _) = 0
    rw [if_neg (fun h => by have := (hr1 x h).1; omega), if_neg (fun h => by have := (hr2 x (hfe x h)).1; omega)]
set_option maxRecDepth 100000 in
set_option maxHeartbeats 4000000 in
theorem GL (id par : Int) (a : Option Addr) (cap : Nat) (kids : List Int) (w : World) (hl : kids.length ≤ 1048576) (hcap : a = none → cap = 0) (ha : dM w a kids) :
    Calls Tryz.prog 26 #[.int .i64 id, .int .i64 par, .slice a kids.length cap] w (NA w (zV id par kids)) := by
  obtain ⟨i0, hi, hz0, hz1, hz2⟩ := info_parts BD
  obtain ⟨j0, hj, hy0, hy1, hy2⟩ := info_parts qA
  have HA := hide ha
  have HRB := hide (heap_alloc_new w (.cells iV 30))
  clear ha
  obtain ⟨RN, hRN⟩ : ∃ R, zV id par kids = R := ⟨_, rfl⟩
  rw [hRN]
  have HRN := hide hRN
  clear hRN
  unfold NA
  go_enter Tryz.func26, Tryz.ntmps26
  go_upto_region 1 with fail
  refine wp_at (fun W0 hW0 => ?_)
  have HR0 : Hid (W0.heap[w.heap.size]? = some (.cells iV 30 (0, 0))) := by rw [hW0]; exact ah HRB
  have HB0 : Hid (Below w.heap.size w W0) := by rw [hW0]; exact ay w _
  have asx : Hid (W0.heap.size = w.heap.size + 1) := by rw [hW0]; exact hide (by simp)
  clear hW0 HRB
  have hlit : (W0.alloc (.cells #[] 3)).ownsRow W0.heap.size 3 1 (.slice (some ⟨W0.heap.size, 0, none⟩) 0 0) 0 [] := World.ownsRow_lit (base := W0.heap.size) (e := 3) (size := 1) W0 #[] 0 (Nat.le_refl _) (by decide) rfl
  go_cut [8] (fun p8 wx => ∃ (nb : Nat) (ka : Option Addr) (kc : Nat), p8 = .pointer (some ⟨nb, 0, none⟩) ∧ wx.heap[nb]? = some (.cells (Rl id par (.slice ka kids.length kc) (.slice none 0 0)) 30 (0, 0)) ∧ wx.ownsRow W0.heap.size 3 1 (.slice ka kids.length kc) kids.length (GR.flat aP kids) ∧ (∀ x, (Value.slice ka kids.length kc).ownBlock = some x → x < nb) ∧ W0.heap.size < nb ∧ Below W0.heap.size W0 wx)
  case first =>
    cases a with
    | none =>
      have hl0 : kids = [] := GR.none_nil (ah HA)
      subst hl0
      have hc0 := hcap rfl
      subst hc0
      go_wp2_with (at_builtin; refine wpList_append_own_none rfl _ _ 24 rfl W0.heap.size 3 j0 1 Tryz.underlying24 hj _ 0 [] rfl hlit rfl ?_)
      go_meet
      case rel =>
        refine ⟨W0.heap.size + 1, some ⟨W0.heap.size, 0, none⟩, 0, rfl, ?_, ?_, ?_, by omega, (ay W0 _).alloc (by simp) _⟩
        · have h := heap_alloc_new (W0.alloc (.cells #[] 3)) (.cells (Rl id par (.slice (some ⟨W0.heap.size, 0, none⟩) 0 0) (.slice none 0 0)) 30)
          rwa [show (W0.alloc (.cells #[] 3)).heap.size = W0.heap.size + 1 by simp] at h
        · exact hlit.alloc _
        · intro x hx
          have : x = W0.heap.size := by simpa [Value.ownBlock] using hx.symm
          omega
    | some x =>
      have HN := hide (GR.At.news aN (by omega) (GR.At.below (ah HA) ((ah HB0).trans ((ay W0 (.cells #[] 3)).mono (ah HB0).size))))
      go_wp2_with (at_builtin; refine wpList_append_own _ rfl _ _ 24 rfl W0.heap.size 3 j0 (.int .i64 0) 1 8 Tryz.underlying24 hj hy0 hy1 hy2 rfl (by decide) _ 0 [] rfl hlit x kids.length cap (GR.flat aP kids) rfl ?c0 ?c1 ?c2 ?c3 ?c4 ?c5 ?_)
      case c0 => exact GR.flat_length aP 1 aN kids
      case c1 => exact ah HN
      case c2 => exact GR.flat_oneCell Bf kids
      case c3 => unfold maxLen; omega
      case c4 => omega
      case c5 => simp
      intro v' w1 hown' hgrow _
      have ho : w1.ownsRow W0.heap.size 3 1 v' kids.length (GR.flat aP kids) := by simpa using hown'
      have hb : Below W0.heap.size W0 w1 := (ay W0 _).grown hgrow (by simp) (fun k hk => by cases hk; exact Nat.le_refl _)
      have hs1 : W0.heap.size + 1 ≤ w1.heap.size := by have := hgrow.size; simpa using this
      obtain ⟨ka, kc, rfl, _⟩ := GR.own_at (enc := aP) (sz := 1) aN ho
      have HO := hide ho
      have HB := hide hb
      clear hown' hgrow ho hb hlit
      go_wp2_with fail
      go_meet
      case rel => exact ⟨w1.heap.size, ka, kc, rfl, heap_alloc_new _ _, (ah HO).alloc _, fun x hx => ((ah HO).lt x hx).2, by omega, (ah HB).alloc (ah HB).size _⟩
  case rest =>
    obtain ⟨nb, ka, kc, rfl, hnb, hko, hkl, awf, hb0⟩ := hcut
    have auG := ah asx
    have Ah := hide (GR.own_lower (b' := w.heap.size + 1) hko (by omega))
    have HKL := hide hkl
    have HR3 := hide (au (ah HR0) hb0)
    have HB3 := hide ((ah HB0).trans (hb0.mono (ah HB0).size))
    have WE := hide (show NN wc wc nb id par (.slice ka kids.length kc) (.slice none 0 0) [] from ⟨aC.refl _ _, hnb, World.ownsRow_nil _ _ _ _, aA hnb⟩)
    have awt : nb < wc.heap.size := aA hnb
    have awk : w.heap.size < nb := by omega
    clear auG
    have HFS : Hid ((dx (bE id par kids []) = true → zV id par kids = (bE id par kids (kX (bE id par kids []) 30), true) ∧ dJ (bE id par kids (kX (bE id par kids []) 30)) = true) ∧ (dx (bE id par kids []) = false → zV id par kids = (gG, false) ∧ dJ (bE id par kids (kX (bE id par kids []) 30)) = false)) := ⟨fun h => ⟨YE h (JW h), ael id par kids _ h (JW h)⟩, fun h => ⟨aek h, aem id par kids _ h⟩⟩
    rw [ah HRN] at HFS
    have HNS := hide (JV (bE id par kids []))
    have HNL : Hid (∀ k, (kX (bE id par kids []) k).length ≤ k) := fun k => by
      have h := List.length_filter_le (dH (bE id par kids [])) (upTo k)
      unfold kX
      simpa [upTo] using h
    have Ee : Hid (kX (bE id par kids []) 0 = []) := rfl
    have Hq : Hid (∀ fs A W x, dM W A.k kids → Calls Tryz.prog 24 #[fU (bE id par kids fs) A, .int .i64 x] W fun e w' => e = .returned (.bool (dH (bE id par kids []) x)) ∧ Below W.heap.size W w') := fun fs A W x h => xE (bE id par kids fs) A x W (by show kids.length ≤ 1048600; omega) h
    generalize dx (bE id par kids []) = PB at *
    generalize dH (bE id par kids []) = NB at *
    generalize kX (bE id par kids []) = NU at *
    clear hnb hko hkl hb0 HR0 HB0 hlit
    go_wp2_with fail
    go_loopw [9] (fun i wr => ∃ (k : Nat) (v : Value), k ≤ 30 ∧ i = .int .i64 k ∧ NN wc wr nb id par (.slice ka kids.length kc) v (NU k)) (fun i _ => 30 - (intOf i).toNat)
    case atStart => exact ⟨0, .slice none 0 0, Nat.zero_le _, rfl, by rw [ah Ee]; exact ah WE⟩
    case round =>
      obtain ⟨k, v, hk, rfl, hN⟩ := hrel
      have HN := hide hN
      have Hr : Hid (wr.ownsRow (w.heap.size + 1) 3 1 (.slice ka kids.length kc) kids.length (GR.flat aP kids)) := (ah Ah).kept (row := some nb) ⟨hN.keep.os, hN.keep.tape, hN.keep.output, hN.keep.size, fun j hj hjn => hN.keep.block j hj (fun e => hjn (by rw [tN e]))⟩ (by
        cases hv : (Value.slice ka kids.length kc).ownBlock with
        | none => exact .inl rfl
        | some j => exact .inr (fun e => by have := ah HKL j hv; injection e with e; omega))
      obtain ⟨va, vc, hv, _⟩ := GR.own_at (enc := dD) (sz := 3) (l := (NU k).map lW) bC (by rw [List.length_map]; exact hN.own)
      rw [List.length_map] at hv
      subst hv
      obtain ⟨A4, WU, Yh⟩ := M7 (id := id) (par := par) (ah Hr) hN.own
      have ae9 := hide (ah HNL k)
      by_cases hlt : k < 30
      · have HNC := hide (ah Hq (NU k) A4 wr (k : Int) Yh.k)
        rw [← WU] at HNC
        have hSU := ah HNS k
        obtain ⟨c0, c1, c2, c3, c4, c5, c6, c7, c8⟩ := nine hN.blk
        clear WU Yh hN
        have HSU := hide hSU
        clear hSU
        go_wp2_with fail
        refine (ah HNC).mono ?_
        rintro e w4 ⟨rfl, hb4⟩
        have Pk := hide ((ah HN).step hb4)
        clear hb4 c0 c1 c2 c3 c4 c5 c6 c7 c8 HNC HN Hr
        obtain ⟨c0, c1, c2, c3, c4, c5, c6, c7, c8⟩ := nine (ah Pk).blk
        have hkw := (ah Pk).keep.size
        cases Ym : NB (k : Int)
        · have HE := hide (show NU (k + 1) = NU k by rw [ah HSU, if_neg (by rw [Ym]; simp)])
          clear Ym HSU
          go_wp2_with fail
          go_roundw
          case rel => exact ⟨k + 1, .slice va (NU k).length vc, by omega, by go_num, by rw [ah HE]; exact ah Pk⟩
          case measure => simp [intOf]; omega
        · have HE := hide (show NU (k + 1) = NU k ++ [(k : Int)] by rw [ah HSU, if_pos (by rw [Ym])])
          clear Ym HSU
          have hown := (ah Pk).own
          have hf6 := aj (ah Pk).blk 6
          have Mt : (NU k).length ≤ 30 := Nat.le_trans (ah ae9) hk
          go_wp2_with (at_builtin; refine wpList_append_own _ rfl _ _ 27 rfl wc.heap.size 57 i0 (.agg #[.int .i64 0, .int .i64 0, .slice none 0 0]) 3 40 Tryz.underlying27 hi hz0 hz1 hz2 rfl (by decide) _ _ _ rfl (hown.alloc _) ⟨w4.heap.size, 0, none⟩ 1 1 (dD (lW (k : Int))) rfl rfl ?c1 ?c2 ?c3 ?c4 ?c5 ?_)
          case c1 => exact World.news_of_block (heap_alloc_new w4 _)
          case c2 => exact aes _
          case c3 => unfold maxLen; omega
          case c4 => omega
          case c5 => simp; omega
          intro v' w5 hown' hgrow _
          obtain ⟨va2, vc2, hv, _⟩ := GR.own_at (enc := dD) (sz := 3) (l := (NU k ++ [(k : Int)]).map lW) bC (by
            have e2 : GR.flat dD ((NU k ++ [(k : Int)]).map lW) = GR.flat dD ((NU k).map lW) ++ dD (lW (k : Int)) := by rw [List.map_append, GR.flat_append]; simp [GR.flat]
            rw [e2, List.length_map, List.length_append]
            exact hown')
          rw [List.length_map, List.length_append] at hv
          have hv' : v' = .slice va2 ((NU k).length + 1) vc2 := hv
          clear hv
          subst hv'
          have HA5 := hide ((ah Pk).app (k : Int) hown' hgrow)
          have hb5 : w5.heap[nb]? = some (.cells (Rl id par (.slice ka kids.length kc) (.slice va (NU k).length vc)) 30 (0, 0)) := by
            rw [hgrow.block nb (by simp; omega) (fun e => by have := (hown.lt _ e.symm).1; omega), Below.heap_alloc _ _ _ (by omega)]
            exact (ah Pk).blk
          obtain ⟨e0, e1, e2, e3, e4, e5, e6, e7, e8⟩ := nine hb5
          have g6 := aj hb5 6
          clear hown' hgrow hb5 hown c0 c1 c2 c3 c4 c5 c6 c7 c8 hf6
          go_wp2_with fail
          go_roundw
          case rel => exact ⟨k + 1, .slice va2 ((NU k).length + 1) vc2, by omega, by go_num, by rw [ah HE]; exact ah HA5⟩
          case measure => simp [intOf]; omega
      · obtain rfl : k = 30 := by omega
        have HR4 : Hid (wr.heap[w.heap.size]? = some (.cells iV 30 (0, 0))) := hN.keep.obj (ah HR3) (by simp; omega)
        have kC : Hid (Below w.heap.size w wr) := (ah HB3).trans (hN.keep.below (fun x hx => by have := tN hx; omega) (ah HB3).size)
        have mg := hide (vH (bE id par kids (NU 30)) A4 wr (aew (by omega) (by have := ah ae9; omega)) Yh)
        rw [← WU] at mg
        obtain ⟨hY, hX⟩ := ah HFS
        have HY := hide hY
        have HX := hide hX
        obtain ⟨c0, c1, c2, c3, c4, c5, c6, c7, c8⟩ := nine hN.blk
        clear hN WU Yh hY hX HFS
        generalize dJ (bE id par kids (NU 30)) = OK at *
        generalize NU 30 = F at *
        go_wp2_with fail
        refine (ah mg).mono ?_
        rintro e w5 ⟨rfl, hb5⟩
        have HN5 := hide ((ah HN).step hb5)
        have xQ := hide (GR.own_below (ah Hr) hb5)
        have N8 := hide (au (ah HR4) hb5)
        have jd := hide ((ah kC).trans (hb5.mono (ah kC).size))
        clear hb5 c0 c1 c2 c3 c4 c5 c6 c7 c8 mg
        obtain ⟨c0, c1, c2, c3, c4, c5, c6, c7, c8⟩ := nine (ah HN5).blk
        obtain ⟨r0, r1, r2, r3, r4, r5, r6, r7, r8⟩ := nine (ah N8)
        have f0 := aj (ah N8) 0
        have f1 := aj (ah N8) 1
        have f2 := aj (ah N8) 2
        have f3 := aj (ah N8) 3
        have f4 := aj (ah N8) 4
        have f5 := aj (ah N8) 5
        have f6 := aj (ah N8) 6
        have f7 := aj (ah N8) 7
        have f8 := aj (ah N8) 8
        cases hPB : PB
        · obtain ⟨e1, e2⟩ := ah HX hPB
          open amy in exact aax
        · obtain ⟨e1, e2⟩ := ah HY hPB
          open amx in exact aax
def uD (b:Nat) (c:Nat→Nat):Nat→Nat:=fun x=>if x < b then 0 else if c x=0 then 9 else if 6 < c x then 9 else c x
theorem Us (b:Nat) (c:Nat→Nat):∀x,6 < uD b c x→uD b c x=9:=fun x hx=>by
 unfold uD at *;by_cases h1:x < b
 ·rw [if_pos h1] at hx;omega
 ·rw [if_neg h1] at hx ⊢;by_cases h2:c x=0
  ·rw [if_pos h2]
  ·rw [if_neg h2] at hx ⊢;by_cases h3:6 < c x
   ·rw [if_pos h3]
   ·rw [if_neg h3] at hx;omega
theorem PW {b x:Nat} {c:Nat→Nat} (h:b≤x) (h0:c x=0):uD b c x=9:=by
 unfold uD;rw [if_neg (by omega),if_pos h0]
theorem lQ {b B x k:Nat} {c:Nat→Nat} (hlo:∀x,x < B→c x=0) (hb:b≤B) (h:c x=k) (h1:0 < k) (h6:k≤6):uD b c x=k:=by
 unfold uD;rw [if_neg (fun hx=>by have:=hlo x (by omega);omega),if_neg (by omega),if_neg (by omega)];exact h
theorem NO.flat {w:World} {B b:Nat} {n:Nd} {A:bQ} {G:aX} {c:Nat→Nat} (h:NO w B n A G c) (hb:b≤B):NO w b n A G (uD b c):=
 ⟨h.k,h.p,iQ h.o hb,h.s,iQ h.r hb,fun x hx=>if_pos hx,fun x hx=>lQ h.lo hb (h.ck x hx) (by omega) (by omega),fun x hx=>lQ h.lo hb (h.cp x hx) (by omega) (by omega),fun x hx=>lQ h.lo hb (h.co x hx) (by omega) (by omega),fun x hx=>lQ h.lo hb (h.c4 x hx) (by omega) (by omega),fun x hx=>lQ h.lo hb (h.ci x hx) (by omega) (by omega),fun x hx=>lQ h.lo hb (h.cr x hx) (by omega) (by omega),h.ni⟩
theorem NQ.flat {w:World} {B b:Nat} {n:Nd} {A:bQ} {G:aX} {c:Nat→Nat} (h:NQ w B n A G c) (hb:b≤B):NQ w b n A G (uD b c):=⟨h.toNO.flat hb,h.sq⟩
theorem I9 {c:Nat→Nat} {w X Y:World} (hX:Below w.heap.size w X) (hb:Below 0 X Y) (hap:Apart c X Y) (hc:∀x,x < w.heap.size+3→c x=9):Below w.heap.size w Y:=
 ⟨hb.os.trans hX.os,hb.tape.trans hX.tape,hb.output.trans hX.output,Nat.le_trans hX.size hb.size,fun x hx=>(hap x (by have:=hX.size;omega) (by rw [hc x (by omega)];omega)).trans (hX.block x hx)⟩
theorem zD.out {c:Nat→Nat} {w X Y W' W'':World} (h:zD w W' W'') (hk:aC [w.heap.size+2] Y W') (hX:w.heap.size+2 < X.heap.size) (hc:∀x,x < w.heap.size+3→c x=9):Out c X Y W'':=by
 obtain⟨F,hk2,hF⟩:=h;refine⟨(w.heap.size+2)::F,(hk.mono (fun x hx=>by simp at hx;simp[hx])).trans (hk2.mono (fun x hx=>by simp[hx])),fun y hy=>?_⟩;rcases List.mem_cons.1 hy with h1|h1
 ·rw [h1];exact⟨hX,by rw [hc _ (by omega)];omega⟩
 ·have:=hF y h1;exact⟨by omega,by rw [hc _ (by omega)];omega⟩
theorem zD.out0 {c:Nat→Nat} {w W' W'':World} (h:zD w W' W'') (hc:∀x,x < w.heap.size+3→c x=9):Out c w W' W'':=by
 obtain⟨F,hk2,hF⟩:=h;exact⟨F,hk2,fun y hy=>⟨hF y hy,by rw [hc _ (by have:=hF y hy;omega)];omega⟩⟩
set_option maxHeartbeats 8000000
set_option maxRecDepth 100000
theorem Gt (n:Nd) (A:bQ) (K no:Int) (k:ByteArray) (nn mK mF mT mI mL:Int) (mk:ByteArray) (mN:Int) (w:World) (hz:eF n 1048576) (hk:k.size≤1048576) (hmk:mk.size≤1048576) (hok:dJ n=true) (hop:cZ ⟨K,no,k,nn,⟨mK,mF,mT,mI,mL,mk,mN⟩⟩=true) (hK:K=1) (ha:dQ w A n):Calls Tryz.prog 30 #[fU n A,.agg #[.int .i64 K,.int .i64 no,.string k,.int .i64 nn,.int .i64 mK,.int .i64 mF,.int .i64 mT,.int .i64 mI,.int .i64 mL,.string mk,.int .i64 mN]] w (jU w ((bV n no k nn).1,[],(bV n no k nn).2)):=by
 subst hK;open ahu in exact yt
theorem Nj (n:Nd) (A:bQ) (K no:Int) (k:ByteArray) (nn mK mF mT mI mL:Int) (mk:ByteArray) (mN:Int) (w:World) (hz:eF n 1048576) (hk:k.size≤1048576) (hmk:mk.size≤1048576) (hok:dJ n=true) (hop:cZ ⟨K,no,k,nn,⟨mK,mF,mT,mI,mL,mk,mN⟩⟩=true) (hK:K=2) (ha:dQ w A n):Calls Tryz.prog 30 #[fU n A,.agg #[.int .i64 K,.int .i64 no,.string k,.int .i64 nn,.int .i64 mK,.int .i64 mF,.int .i64 mT,.int .i64 mI,.int .i64 mL,.string mk,.int .i64 mN]] w (jU w ((aI n no).1,[],(aI n no).2)):=by
 subst hK;open aht in exact yt
set_option maxHeartbeats 8000000
theorem Kh (n:Nd) (A:bQ) (K no:Int) (k:ByteArray) (nn mK mF mT mI mL:Int) (mk:ByteArray) (mN:Int) (w:World) (hz:eF n 1048576) (hk:k.size≤1048576) (hmk:mk.size≤1048576) (hok:dJ n=true) (hop:cZ ⟨K,no,k,nn,⟨mK,mF,mT,mI,mL,mk,mN⟩⟩=true) (hK:K=4) (hpar:n.par≠ -1) (ha:dQ w A n):Calls Tryz.prog 30 #[fU n A,.agg #[.int .i64 K,.int .i64 no,.string k,.int .i64 nn,.int .i64 mK,.int .i64 mF,.int .i64 mT,.int .i64 mI,.int .i64 mL,.string mk,.int .i64 mN]] w (jU w ((eu n n.par k nn).1,(eu n n.par k nn).2.1,if (eu n n.par k nn).2.2=true then 0 else 1)):=by
 subst hK;open ahv in exact yt
end Go.Proofs.YtfmdndhliinhpaaGreatDoor
