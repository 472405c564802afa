/- Parts. -/
import Derived.Test.YtikdkijggejnfaaGreatDoorPj19
import Derived.Test.YtikdkijggejnfaaGreatDoorPj1
import Derived.Defers
import Derived.Recover
namespace Go.Proofs.YtikdkijggejnfaaGreatDoor
open Go.RowKit
open Mth

/-- While an operation is read: the reader, the result's block, the operation's block. -/
structure OS (w0 W : World) (g o : Nat) (s : ByteArray) (i : Int) (cs : Array Value) : Prop where
  rd : RdAt W g s i
  res : W.heap[w0.heap.size]? = some (.cells #[.int .i64 0, .int .i64 0, .string ⟨#[]⟩, .int .i64 0, .int .i64 0, .int .i64 0, .int .i64 0, .int .i64 0, .int .i64 0, .string ⟨#[]⟩, .int .i64 0] 25 (0, 0))
  op : W.heap[o]? = some (.cells cs 25 (0, 0))
  keep : Keep1 g w0 W
  lo : w0.heap.size < o
theorem OS.step {w0 W w' : World} {g o : Nat} {s : ByteArray} {i j : Int} {cs : Array Value} (h : OS w0 W g o s i cs) (hr : RdAt w' g s j) (hk : Keep1 g W w') (hg : g < w0.heap.size) : OS w0 w' g o s j cs :=
  ⟨hr, hk.obj h.res (by omega), hk.obj h.op (by have := h.lo; omega), h.keep.trans hk, h.lo⟩
theorem OS.below {w0 W w' : World} {g o : Nat} {s : ByteArray} {i : Int} {cs : Array Value} (h : OS w0 W g o s i cs) (hb : Below W.heap.size W w') (hg : g < w0.heap.size) : OS w0 w' g o s i cs :=
  h.step (blk_step h.rd hb) (Keep1.of_below hb) hg
theorem Keep1.setNew {g h i : Nat} {w0 w : World} {v : Value} (k : Keep1 g w0 w) (hh : w0.heap.size ≤ h) : Keep1 g w0 (w.setCell ⟨h, i, none⟩ v) :=
  ⟨k.os, k.tape, k.output, by have := k.size; simpa [World.setCell] using this, fun x hx hg => by
    have hne : x ≠ h := by omega
    rw [Below.heap_setCell _ _ _ _ hne]
    exact k.block x hx hg⟩
theorem OS.set {w0 W : World} {g o : Nat} {s : ByteArray} {i : Int} {cs : Array Value} (h : OS w0 W g o s i cs) (hg : g < w0.heap.size) (k : Nat) (v : Value) : OS w0 (W.setCell ⟨o, k, none⟩ v) g o s i (cs.setIfInBounds k v) := by
  have hlo := h.lo
  exact ⟨one_other h.rd (by omega), one_other h.res (by omega), blk_set h.op k v, h.keep.setNew (by omega), hlo⟩
theorem OS.tail {w0 W : World} {g o : Nat} {s : ByteArray} {i : Int} {a0 a1 a2 a3 a4 a5 a6 a7 a8 a9 a10 b4 b5 b6 b7 b8 b9 b10 : Value} (h : OS w0 W g o s i #[a0, a1, a2, a3, a4, a5, a6, a7, a8, a9, a10]) (hg : g < w0.heap.size) : OS w0 (((((((W.setCell ⟨o, 4, none⟩ b4).setCell ⟨o, 5, none⟩ b5).setCell ⟨o, 6, none⟩ b6).setCell ⟨o, 7, none⟩ b7).setCell ⟨o, 8, none⟩ b8).setCell ⟨o, 9, none⟩ b9).setCell ⟨o, 10, none⟩ b10) g o s i #[a0, a1, a2, a3, b4, b5, b6, b7, b8, b9, b10] := by
  have h4 : OS w0 (W.setCell ⟨o, 4, none⟩ b4) g o s i #[a0, a1, a2, a3, b4, a5, a6, a7, a8, a9, a10] := h.set hg 4 b4
  have h5 : OS w0 ((W.setCell ⟨o, 4, none⟩ b4).setCell ⟨o, 5, none⟩ b5) g o s i #[a0, a1, a2, a3, b4, b5, a6, a7, a8, a9, a10] := h4.set hg 5 b5
  have h6 : OS w0 (((W.setCell ⟨o, 4, none⟩ b4).setCell ⟨o, 5, none⟩ b5).setCell ⟨o, 6, none⟩ b6) g o s i #[a0, a1, a2, a3, b4, b5, b6, a7, a8, a9, a10] := h5.set hg 6 b6
  have h7 : OS w0 ((((W.setCell ⟨o, 4, none⟩ b4).setCell ⟨o, 5, none⟩ b5).setCell ⟨o, 6, none⟩ b6).setCell ⟨o, 7, none⟩ b7) g o s i #[a0, a1, a2, a3, b4, b5, b6, b7, a8, a9, a10] := h6.set hg 7 b7
  have h8 : OS w0 (((((W.setCell ⟨o, 4, none⟩ b4).setCell ⟨o, 5, none⟩ b5).setCell ⟨o, 6, none⟩ b6).setCell ⟨o, 7, none⟩ b7).setCell ⟨o, 8, none⟩ b8) g o s i #[a0, a1, a2, a3, b4, b5, b6, b7, b8, a9, a10] := h7.set hg 8 b8
  have h9 : OS w0 ((((((W.setCell ⟨o, 4, none⟩ b4).setCell ⟨o, 5, none⟩ b5).setCell ⟨o, 6, none⟩ b6).setCell ⟨o, 7, none⟩ b7).setCell ⟨o, 8, none⟩ b8).setCell ⟨o, 9, none⟩ b9) g o s i #[a0, a1, a2, a3, b4, b5, b6, b7, b8, b9, a10] := h8.set hg 9 b9
  have h10 : OS w0 (((((((W.setCell ⟨o, 4, none⟩ b4).setCell ⟨o, 5, none⟩ b5).setCell ⟨o, 6, none⟩ b6).setCell ⟨o, 7, none⟩ b7).setCell ⟨o, 8, none⟩ b8).setCell ⟨o, 9, none⟩ b9).setCell ⟨o, 10, none⟩ b10) g o s i #[a0, a1, a2, a3, b4, b5, b6, b7, b8, b9, b10] := h9.set hg 10 b10
  exact h10
theorem Handle.keep1 {g : Nat} {w w' : World} (h : Handle w) (hk : Keep1 g w w') (hg : g < w.heap.size) (hge : g ≠ 0) : Handle w' := hnd_keep h hk hg hge

set_option maxRecDepth 100000 in
set_option maxHeartbeats 8000000 in
theorem rdOp (g : Nat) (s : ByteArray) (w : World) (hs : s.size ≤ maxLen) (hg : g < w.heap.size) (hge : g ≠ 0) (h : RdAt w g s 0) (hH : Handle w) : Calls Tryz.prog 70 #[.pointer (some ⟨g, 0, none⟩)] w fun e w' => (gopB s = true ∧ e = .returned (opw (opC s)) ∨ gopB s = false ∧ ∃ p, e = pnc p) ∧ Keep1 g w w' := by
  by_cases h0 : s.size = 0
  · have HK := hide (fun w1 h => rdKind_no g s w1 h h0)
    have H := hide (blk_step h (below_one w (.cells #[.int .i64 0, .int .i64 0, .string ⟨#[]⟩, .int .i64 0, .int .i64 0, .int .i64 0, .int .i64 0, .int .i64 0, .int .i64 0, .string ⟨#[]⟩, .int .i64 0] 25)))
    have hno : gopB s = false := by unfold gopB; rw [decide_eq_false (by omega)]; rfl
    have HNO := hide hno
    clear h hH hno
    generalize gopB s = OK at *
    go_enter Tryz.func70, Tryz.ntmps70
    go_wp2_with fail
    refine (unhide HK _ (unhide H)).mono ?_
    rintro e w1 ⟨rfl, hb1⟩
    have HB := hide (Keep1.of_below (g := g) ((below_one w _).trans (hb1.mono (by simp))))
    clear hb1
    go_wp2_with fail
    exact ⟨rfl, .inr ⟨unhide HNO, _, rfl⟩, unhide HB⟩
  have h1 : 0 < s.size := by omega
  have HK := hide (fun w1 h => rdKind_yes g s w1 h h1)
  have HN1y := hide (fun w1 h hh hE => rdNum_yes g s 1 w1 hs h hh hE)
  have HN1n := hide (fun w1 h hh hE => rdNum_no g s 1 w1 hs h hh hE)
  have HT1y := hide (fun w1 h hh hE => rdText_yes g s (rdE s 1) w1 hs h hh hE)
  have HT1n := hide (fun w1 h hh hE => rdText_no g s (rdE s 1) w1 hs h hh hE)
  have HN2y : Hid (∀ w1 : World, RdAt w1 g s (rtE s (rdE s 1)) → Handle w1 → 0 ≤ opX s → Calls Tryz.prog 92 #[.pointer (some ⟨g, 0, none⟩)] w1 fun e w' => e = .returned (.int .i64 (rdN s (rtE s (rdE s 1)))) ∧ RdAt w' g s (opX s) ∧ Keep1 g w1 w') := fun w1 h hh hE => rdNum_yes g s (rtE s (rdE s 1)) w1 hs h hh hE
  have HN2n : Hid (∀ w1 : World, RdAt w1 g s (rtE s (rdE s 1)) → Handle w1 → opX s < 0 → Calls Tryz.prog 92 #[.pointer (some ⟨g, 0, none⟩)] w1 fun e w' => e = pnc (rtE s (rdE s 1)) ∧ Below w1.heap.size w1 w') := fun w1 h hh hE => rdNum_no g s (rtE s (rdE s 1)) w1 hs h hh hE
  have HM : Hid (∀ w1 : World, g < w1.heap.size → RdAt w1 g s (opX s) → Handle w1 → Calls Tryz.prog 94 #[.pointer (some ⟨g, 0, none⟩)] w1 fun e w' => ((0 ≤ opE s ∧ bodyB s = true) ∧ e = .returned (mgv (getMg (opB s))) ∧ RdAt w' g s (opE s) ∨ ¬ (0 ≤ opE s ∧ bodyB s = true) ∧ ∃ p, e = pnc p) ∧ Keep1 g w1 w') := by
    intro w1 hg1 h2 h3
    by_cases hE : 0 ≤ opE s
    · by_cases hb : (opB s).size = 0
      · refine (rdMsg_nil g s (opX s) w1 hs hg1 h2 h3 hE hb).mono ?_
        rintro e w' ⟨he, hr, hk⟩
        exact ⟨.inl ⟨⟨hE, by unfold bodyB; rw [decide_eq_true hb]; rfl⟩, he, hr⟩, hk⟩
      · cases ho : getOk (opB s)
        · refine (rdMsg_bad g s (opX s) w1 hs hg1 hge h2 h3 hE (by have : (opB s).size ≠ 0 := hb; unfold opB at this; omega) ho).mono ?_
          rintro e w' ⟨he, hk⟩
          exact ⟨.inr ⟨(fun hx => by have h9 := hx.2; unfold bodyB at h9; rw [decide_eq_false hb, ho] at h9; cases h9), he⟩, hk⟩
        · refine (rdMsg_ok g s (opX s) w1 hs hg1 hge h2 h3 hE (by have : (opB s).size ≠ 0 := hb; unfold opB at this; omega) ho).mono ?_
          rintro e w' ⟨he, hr, hk⟩
          exact ⟨.inl ⟨⟨hE, by unfold bodyB; rw [ho]; simp⟩, he, hr⟩, hk⟩
    · refine (rdMsg_cut g s (opX s) w1 hs h2 h3 (by have : ¬ 0 ≤ opE s := hE; unfold opE at this; omega)).mono ?_
      rintro e w' ⟨he, hk⟩
      exact ⟨.inr ⟨fun hx => hE hx.1, he⟩, hk⟩
  have HOK := hide (fun w1 => implOpOkW (opC s) w1)
  have HF := hide (fun w1 h => rdFail g s (opE s) w1 h)
  have HG : Hid (gopB s = true ↔ opE s = s.size ∧ bodyB s = true ∧ opOk (opC s) = true) := by
    show gopB s = true ↔ _
    unfold gopB
    rw [decide_eq_true h1]
    simp [and_assoc]
  have HX : Hid (0 ≤ opE s → 0 ≤ opX s ∧ 0 ≤ rtE s (rdE s 1) ∧ 0 ≤ rdE s 1) := fun hE => by
    have g3 : 0 ≤ opX s := (text_piece (s := s) (i := opX s) hE).1
    have g2 := (num_piece (s := s) (i := rtE s (rdE s 1)) g3).1
    exact ⟨g3, g2, (text_piece (s := s) (i := rdE s 1) g2).1⟩
  have hC : opC s = ⟨s[0].toNat, rdN s 1, rtS s (rdE s 1), rdN s (rtE s (rdE s 1)), getMg (opB s)⟩ := by unfold opC; rw [head_at h1]
  rw [hC] at HOK HG ⊢
  have HNO : Hid (¬ (0 ≤ opE s ∧ bodyB s = true) → gopB s = false) := fun hx => by
    rw [Bool.eq_false_iff]
    intro hy
    have := (unhide HG).1 hy
    exact hx ⟨by omega, this.2.1⟩
  have HH := hide hH
  have H := hide (blk_step h (below_one w (.cells #[.int .i64 0, .int .i64 0, .string ⟨#[]⟩, .int .i64 0, .int .i64 0, .int .i64 0, .int .i64 0, .int .i64 0, .int .i64 0, .string ⟨#[]⟩, .int .i64 0] 25)))
  clear h hH hC h0
  generalize gopB s = OK at *
  generalize getMg (opB s) = m at *
  generalize bodyB s = BO at *
  generalize opB s = B at *
  generalize opE s = E at *
  generalize opX s = X at *
  generalize rdN s (rtE s (rdE s 1)) = N2 at *
  generalize rtE s (rdE s 1) = E2 at *
  generalize rtS s (rdE s 1) = TX at *
  generalize rdN s 1 = N1 at *
  generalize rdE s 1 = E1 at *
  obtain ⟨mK, mF, mT, mI, mL, mk, mN⟩ := m
  have HH0 := hide (fun W (k : Keep1 g w W) => (unhide HH).keep1 k hg hge)
  go_enter Tryz.func70, Tryz.ntmps70
  go_wp2_with fail
  refine (unhide HK _ (unhide H)).mono ?_
  rintro e w1 ⟨rfl, hr1, hk1⟩
  have HR1 := hide (hk1.obj (heap_alloc_new w _) (show w.heap.size ≠ g by omega))
  have HK1 := hide ((Keep1.of_below (below_one w _)).trans hk1)
  have HA1 := hide hr1
  have hz1 : w.heap.size < w1.heap.size := blk_lt (unhide HR1)
  clear hr1 hk1 HK H
  go_upto_region 2 with fail
  refine wp_at (fun V2 hV => ?_)
  have HS : Hid (OS w V2 g w1.heap.size s 1 #[.int .i64 (s[0].toNat : Int), .int .i64 0, .string ⟨#[]⟩, .int .i64 0, .int .i64 0, .int .i64 0, .int .i64 0, .int .i64 0, .int .i64 0, .string ⟨#[]⟩, .int .i64 0]) := by
    rw [hV]
    exact ⟨blk_step (unhide HA1) (below_one w1 _), blk_step (unhide HR1) (below_one w1 _), heap_alloc_new w1 _, (unhide HK1).trans (Keep1.of_below (below_one w1 _)), hz1⟩
  clear hV HR1 HK1 HA1
  generalize w1.heap.size = o at *
  clear w1

  by_cases hE0 : 0 ≤ E1
  case' neg =>
    have hno : OK = false := unhide HNO (fun hx => hE0 (by have := unhide HX hx.1; omega))
    have HNN := hide (unhide HN1n V2 (unhide HS).rd (unhide HH0 _ (unhide HS).keep) (by omega))
    clear hE0
    go_wp2_with fail
    refine (unhide HNN).mono ?_
    rintro e w9 ⟨rfl, hb9⟩
    have HKK := hide ((unhide HS).keep.trans (Keep1.of_below hb9))
    clear hb9
    go_wp2_with fail
    exact ⟨rfl, .inr ⟨hno, _, rfl⟩, unhide HKK⟩
  have HNY := hide (unhide HN1y V2 (unhide HS).rd (unhide HH0 _ (unhide HS).keep) hE0)
  go_wp2_with fail
  refine (unhide HNY).mono ?_
  rintro e u0 ⟨rfl, hr, hk⟩
  have HT := hide ((unhide HS).step hr hk hg)
  clear hr hk HNY HS
  have hz0 := blk_lt (unhide HT).op
  obtain ⟨⟨c0, c1, c2, c3, c4, c5, c6, c7, c8, c9, c10⟩, f0, f1, f2, f3, f4, f5, f6, f7, f8, f9, f10⟩ := eleven_at (unhide HT).op
  go_upto_region 3 with fail
  refine wp_at (fun V3 hV => ?_)
  have HS : Hid (OS w V3 g o s E1 #[.int .i64 (s[0].toNat : Int), .int .i64 N1, .string ⟨#[]⟩, .int .i64 0, .int .i64 0, .int .i64 0, .int .i64 0, .int .i64 0, .int .i64 0, .string ⟨#[]⟩, .int .i64 0]) := by rw [hV]; exact (unhide HT).set hg 1 (.int .i64 N1)
  clear hV HT hz0 c0 c1 c2 c3 c4 c5 c6 c7 c8 c9 c10 f0 f1 f2 f3 f4 f5 f6 f7 f8 f9 f10 u0 V2
  by_cases hE1 : 0 ≤ E2
  case' neg =>
    have hno : OK = false := unhide HNO (fun hx => hE1 (by have := unhide HX hx.1; omega))
    have HNN := hide (unhide HT1n V3 (unhide HS).rd (unhide HH0 _ (unhide HS).keep) (by omega))
    clear hE1
    go_wp2_with fail
    refine (unhide HNN).mono ?_
    rintro e w9 ⟨rfl, hb9⟩
    have HKK := hide ((unhide HS).keep.trans (Keep1.of_below hb9))
    clear hb9
    go_wp2_with fail
    exact ⟨rfl, .inr ⟨hno, _, rfl⟩, unhide HKK⟩
  have HNY := hide (unhide HT1y V3 (unhide HS).rd (unhide HH0 _ (unhide HS).keep) hE1)
  go_wp2_with fail
  refine (unhide HNY).mono ?_
  rintro e u1 ⟨rfl, hr, hk⟩
  have HT := hide ((unhide HS).step hr hk hg)
  clear hr hk HNY HS
  have hz1 := blk_lt (unhide HT).op
  obtain ⟨⟨c0, c1, c2, c3, c4, c5, c6, c7, c8, c9, c10⟩, f0, f1, f2, f3, f4, f5, f6, f7, f8, f9, f10⟩ := eleven_at (unhide HT).op
  go_upto_region 4 with fail
  refine wp_at (fun V4 hV => ?_)
  have HS : Hid (OS w V4 g o s E2 #[.int .i64 (s[0].toNat : Int), .int .i64 N1, .string TX, .int .i64 0, .int .i64 0, .int .i64 0, .int .i64 0, .int .i64 0, .int .i64 0, .string ⟨#[]⟩, .int .i64 0]) := by rw [hV]; exact (unhide HT).set hg 2 (.string TX)
  clear hV HT hz1 c0 c1 c2 c3 c4 c5 c6 c7 c8 c9 c10 f0 f1 f2 f3 f4 f5 f6 f7 f8 f9 f10 u1 V3
  by_cases hE2 : 0 ≤ X
  case' neg =>
    have hno : OK = false := unhide HNO (fun hx => hE2 (by have := unhide HX hx.1; omega))
    have HNN := hide (unhide HN2n V4 (unhide HS).rd (unhide HH0 _ (unhide HS).keep) (by omega))
    clear hE2
    go_wp2_with fail
    refine (unhide HNN).mono ?_
    rintro e w9 ⟨rfl, hb9⟩
    have HKK := hide ((unhide HS).keep.trans (Keep1.of_below hb9))
    clear hb9
    go_wp2_with fail
    exact ⟨rfl, .inr ⟨hno, _, rfl⟩, unhide HKK⟩
  have HNY := hide (unhide HN2y V4 (unhide HS).rd (unhide HH0 _ (unhide HS).keep) hE2)
  go_wp2_with fail
  refine (unhide HNY).mono ?_
  rintro e u2 ⟨rfl, hr, hk⟩
  have HT := hide ((unhide HS).step hr hk hg)
  clear hr hk HNY HS
  have hz2 := blk_lt (unhide HT).op
  obtain ⟨⟨c0, c1, c2, c3, c4, c5, c6, c7, c8, c9, c10⟩, f0, f1, f2, f3, f4, f5, f6, f7, f8, f9, f10⟩ := eleven_at (unhide HT).op
  go_upto_region 5 with fail
  refine wp_at (fun V5 hV => ?_)
  have HS : Hid (OS w V5 g o s X #[.int .i64 (s[0].toNat : Int), .int .i64 N1, .string TX, .int .i64 N2, .int .i64 0, .int .i64 0, .int .i64 0, .int .i64 0, .int .i64 0, .string ⟨#[]⟩, .int .i64 0]) := by rw [hV]; exact (unhide HT).set hg 3 (.int .i64 N2)
  clear hV HT hz2 c0 c1 c2 c3 c4 c5 c6 c7 c8 c9 c10 f0 f1 f2 f3 f4 f5 f6 f7 f8 f9 f10 u2 V4
  have hgl : g < V5.heap.size := Nat.lt_of_lt_of_le hg (unhide HS).keep.size
  have HMM := hide (unhide HM V5 hgl (unhide HS).rd (unhide HH0 _ (unhide HS).keep))
  go_wp2_with fail
  refine (unhide HMM).mono ?_
  rintro e w6 ⟨hcase, hk⟩
  have HK6 := hide hk
  clear hk HMM
  rcases hcase with ⟨hyes, rfl, hr⟩ | ⟨hnot, p, rfl⟩
  case' inr =>
    have hno := unhide HNO hnot
    have HKK := hide ((unhide HS).keep.trans (unhide HK6))
    clear hnot
    go_wp2_with fail
    exact ⟨rfl, .inr ⟨hno, _, rfl⟩, unhide HKK⟩
  have HT := hide ((unhide HS).step hr (unhide HK6) hg)
  have HYE := hide hyes
  clear hr HK6 HS hyes hgl
  have hz6 := blk_lt (unhide HT).op
  obtain ⟨⟨c0, c1, c2, c3, c4, c5, c6, c7, c8, c9, c10⟩, f0, f1, f2, f3, f4, f5, f6, f7, f8, f9, f10⟩ := eleven_at (unhide HT).op
  go_upto_region 6 with fail
  refine wp_at (fun V6 hV => ?_)
  have HS : Hid (OS w V6 g o s E #[.int .i64 (s[0].toNat : Int), .int .i64 N1, .string TX, .int .i64 N2, .int .i64 mK, .int .i64 mF, .int .i64 mT, .int .i64 mI, .int .i64 mL, .string mk, .int .i64 mN]) := by rw [hV]; exact (unhide HT).tail hg
  clear hV HT hz6 c0 c1 c2 c3 c4 c5 c6 c7 c8 c9 c10 f0 f1 f2 f3 f4 f5 f6 f7 f8 f9 f10 w6 V5
  obtain ⟨e0, e1, _, _⟩ := (unhide HS).rd.two
  obtain ⟨⟨c0, c1, c2, c3, c4, c5, c6, c7, c8, c9, c10⟩, f0, f1, f2, f3, f4, f5, f6, f7, f8, f9, f10⟩ := eleven_at (unhide HS).op
  have hoV := blk_lt (unhide HS).op
  have hgV := blk_lt (unhide HS).rd
  clear f0 f1 f2 f3 f4 f5 f6 f7 f8 f9 f10
  by_cases hEs : E = s.size
  case' neg =>
    have hno : OK = false := by rw [Bool.eq_false_iff]; intro hy; exact hEs ((unhide HG).1 hy).1
    have hq : (E == (s.size : Int)) = false := by simpa using hEs
    have hq2 : (E != (s.size : Int)) = true := by simpa using hEs
    clear c0 c1 c2 c3 c4 c5 c6 c7 c8 c9 c10
    refine wp_region_quiet_lit (by kernel_rfl) (by kernel_rfl) ?_
    repeat (any_goals (first | go_big_quiet_step (fail) | quiet_step (fail)))
    refine wpQuiet_nil ?_
    intro _ hw'
    obtain ⟨nq, hw''⟩ := hw'
    subst hw''
    go_wp2_with fail
    refine (unhide HF _ (blk_step (unhide HS).rd (drewN_belowR V6 _))).mono ?_
    rintro e w9 ⟨rfl, rfl⟩
    go_wp2_with fail
    exact ⟨rfl, .inr ⟨hno, _, rfl⟩, (unhide HS).keep.trans (Keep1.of_below (drewN_belowR V6 _))⟩
  have hq : (E == (s.size : Int)) = true := by simpa using hEs
  have hq2 : (E != (s.size : Int)) = false := by simpa using hEs
  have HES := hide hEs
  clear hEs
  have x0 := cell_regrown e0
  have x1 := cell_regrown e1
  have y0 := cell_regrown c0
  have y1 := cell_regrown c1
  have y2 := cell_regrown c2
  have y3 := cell_regrown c3
  have y4 := cell_regrown c4
  have y5 := cell_regrown c5
  have y6 := cell_regrown c6
  have y7 := cell_regrown c7
  have y8 := cell_regrown c8
  have y9 := cell_regrown c9
  have y10 := cell_regrown c10
  clear e0 e1 c0 c1 c2 c3 c4 c5 c6 c7 c8 c9 c10
  generalize opOk ⟨s[0].toNat, N1, TX, N2, ⟨mK, mF, mT, mI, mL, mk, mN⟩⟩ = bo at *
  refine wp_region_mix (by kernel_rfl) ?_
  show wpMix _ _ _ _ 15 (Array.replicate 15 false) _ _
  refine wpMix_take 0 rfl (by kernel_rfl) (by kernel_rfl) (by kernel_rfl) (fun _ _ _ _ h => h) (fun K hK => ?_)
  go_simp
  first
    | (refine hK _ ?_; clear hK K)
    | (apply Exists.intro
       refine ⟨fun _ => ?_, hK _ ?_⟩
       (fail)
       clear hK K)
  refine wpMix_take 1 rfl (by kernel_rfl) (by kernel_rfl) (by kernel_rfl) (fun _ _ _ _ h => h) (fun K hK => ?_)
  go_simp
  first
    | (refine hK _ ?_; clear hK K)
    | (apply Exists.intro
       refine ⟨fun _ => ?_, hK _ ?_⟩
       (fail)
       clear hK K)
  refine wpMix_take 2 rfl (by kernel_rfl) (by kernel_rfl) (by kernel_rfl) (fun _ _ _ _ h => h) (fun K hK => ?_)
  go_simp
  first
    | (refine hK _ ?_; clear hK K)
    | (apply Exists.intro
       refine ⟨fun _ => ?_, hK _ ?_⟩
       (fail)
       clear hK K)
  refine wpMix_take 3 rfl (by kernel_rfl) (by kernel_rfl) (by kernel_rfl) (fun _ _ _ _ h => h) (fun K hK => ?_)
  go_simp
  first
    | (refine hK _ ?_; clear hK K)
    | (apply Exists.intro
       refine ⟨fun _ => ?_, hK _ ?_⟩
       (fail)
       clear hK K)
  refine wpMix_take 4 rfl (by kernel_rfl) (by kernel_rfl) (by kernel_rfl) (fun _ _ _ _ h => h) (fun K hK => ?_)
  go_simp
  first
    | (refine hK _ ?_; clear hK K)
    | (apply Exists.intro
       refine ⟨fun _ => ?_, hK _ ?_⟩
       (fail)
       clear hK K)
  refine wpMix_take 5 rfl (by kernel_rfl) (by kernel_rfl) (by kernel_rfl) (fun _ _ _ _ h => h) (fun K hK => ?_)
  go_simp
  first
    | (refine hK _ ?_; clear hK K)
    | (apply Exists.intro
       refine ⟨fun _ => ?_, hK _ ?_⟩
       (fail)
       clear hK K)
  refine wpMix_take 6 rfl (by kernel_rfl) (by kernel_rfl) (by kernel_rfl) (fun _ _ _ _ h => h) (fun K hK => ?_)
  go_simp
  first
    | (refine hK _ ?_; clear hK K)
    | (apply Exists.intro
       refine ⟨fun _ => ?_, hK _ ?_⟩
       (fail)
       clear hK K)
  refine wpMix_take 7 rfl (by kernel_rfl) (by kernel_rfl) (by kernel_rfl) (fun _ _ _ _ h => h) (fun K hK => ?_)
  go_simp
  first
    | (refine hK _ ?_; clear hK K)
    | (apply Exists.intro
       refine ⟨fun _ => ?_, hK _ ?_⟩
       (fail)
       clear hK K)
  refine wpMix_take 8 rfl (by kernel_rfl) (by kernel_rfl) (by kernel_rfl) (fun _ _ _ _ h => h) (fun K hK => ?_)
  go_simp
  first
    | (refine hK _ ?_; clear hK K)
    | (apply Exists.intro
       refine ⟨fun _ => ?_, hK _ ?_⟩
       (fail)
       clear hK K)
  refine wpMix_take 9 rfl (by kernel_rfl) (by kernel_rfl) (by kernel_rfl) (fun _ _ _ _ h => h) (fun K hK => ?_)
  go_simp
  first
    | (refine hK _ ?_; clear hK K)
    | (apply Exists.intro
       refine ⟨fun _ => ?_, hK _ ?_⟩
       (fail)
       clear hK K)
  refine wpMix_take 10 rfl (by kernel_rfl) (by kernel_rfl) (by kernel_rfl) (fun _ _ _ _ h => h) (fun K hK => ?_)
  go_simp
  first
    | (refine hK _ ?_; clear hK K)
    | (apply Exists.intro
       refine ⟨fun _ => ?_, hK _ ?_⟩
       (fail)
       clear hK K)
  refine wpMix_take 11 rfl (by kernel_rfl) (by kernel_rfl) (by kernel_rfl) (fun _ _ _ _ h => h) (fun K hK => ?_)
  go_simp
  first
    | (refine hK _ ?_; clear hK K)
    | (apply Exists.intro
       refine ⟨fun _ => ?_, hK _ ?_⟩
       (fail)
       clear hK K)
  refine wpMix_take 12 rfl (by kernel_rfl) (by kernel_rfl) (by kernel_rfl) (fun _ _ _ _ h => h) (fun K hK => ?_)
  go_simp
  first
    | (refine hK _ ?_; clear hK K)
    | (apply Exists.intro
       refine ⟨fun _ => ?_, hK _ ?_⟩
       (exact unhide HOK _)
       clear hK K)
  refine wpMix_take 13 rfl (by kernel_rfl) (by kernel_rfl) (by kernel_rfl) (fun _ _ _ _ h => h) (fun K hK => ?_)
  go_simp
  first
    | (refine hK _ ?_; clear hK K)
    | (apply Exists.intro
       refine ⟨fun _ => ?_, hK _ ?_⟩
       (fail)
       clear hK K)
  refine wpMix_take 14 rfl (by kernel_rfl) (by kernel_rfl) (by kernel_rfl) (fun _ _ _ _ h => h) (fun K hK => ?_)
  go_simp
  first
    | (refine hK _ ?_; clear hK K)
    | (apply Exists.intro
       refine ⟨fun _ => ?_, hK _ ?_⟩
       (fail)
       clear hK K)
  refine wpMix_done (by kernel_rfl) (fun z hz => ?_)
  have HSZ := hide ((unhide HS).below hz hg)
  clear hz x0 x1 y0 y1 y2 y3 y4 y5 y6 y7 y8 y9 y10 HS HOK
  go_simp
  cases hbo : bo
  · have hno : OK = false := by rw [Bool.eq_false_iff]; intro hy; have := ((unhide HG).1 hy).2.2; rw [hbo] at this; cases this
    subst hbo
    go_wp2_with fail
    refine (unhide HF _ (unhide HSZ).rd).mono ?_
    rintro e w9 ⟨rfl, rfl⟩
    go_wp2_with fail
    exact ⟨rfl, .inr ⟨hno, _, rfl⟩, (unhide HSZ).keep⟩
  · have hyes : OK = true := (unhide HG).2 ⟨unhide HES, (unhide HYE).2, hbo⟩
    subst hbo
    have HYES := hide hyes
    clear hyes
    have hzo := blk_lt (unhide HSZ).op
    have hlo := (unhide HSZ).lo
    obtain ⟨⟨c0, c1, c2, c3, c4, c5, c6, c7, c8, c9, c10⟩, _⟩ := eleven_at (unhide HSZ).op
    obtain ⟨⟨d0, d1, d2, d3, d4, d5, d6, d7, d8, d9, d10⟩, f0, f1, f2, f3, f4, f5, f6, f7, f8, f9, f10⟩ := eleven_at (unhide HSZ).res
    go_wp2_with fail
    refine bodyPost_atE (fun W' hW' => ?_)
    obtain ⟨⟨r0, r1, r2, r3, r4, r5, r6, r7, r8, r9, r10⟩, _⟩ := eleven_at (show W'.heap[w.heap.size]? = some (.cells #[.int .i64 (s[0].toNat : Int), .int .i64 N1, .string TX, .int .i64 N2, .int .i64 mK, .int .i64 mF, .int .i64 mT, .int .i64 mI, .int .i64 mL, .string mk, .int .i64 mN] 25 (0, 0)) by rw [hW']; exact eleven_set (unhide HSZ).res)
    have hKK : Keep1 g w W' := by
      rw [hW']
      exact ((((((((((((unhide HSZ).keep.setNew (Nat.le_refl _)).setNew (Nat.le_refl _)).setNew (Nat.le_refl _)).setNew (Nat.le_refl _)).setNew (Nat.le_refl _)).setNew (Nat.le_refl _)).setNew (Nat.le_refl _)).setNew (Nat.le_refl _)).setNew (Nat.le_refl _)).setNew (Nat.le_refl _)).setNew (Nat.le_refl _))
    exact bodyPost_ret (v := .agg #[.int .i64 (s[0].toNat : Int), .int .i64 N1, .string TX, .int .i64 N2, .int .i64 mK, .int .i64 mF, .int .i64 mT, .int .i64 mI, .int .i64 mL, .string mk, .int .i64 mN]) (by simp [results, Tryz.results70, go_sem, r0, r1, r2, r3, r4, r5, r6, r7, r8, r9, r10]) rfl ⟨.inl ⟨unhide HYES, rfl⟩, hKK⟩

set_option maxRecDepth 100000 in
set_option maxHeartbeats 2000000 in
theorem opIn (s : ByteArray) (w : World) (hs : s.size ≤ maxLen) (hH : Handle w) : Calls Tryz.prog 45 #[.string s] w fun e w' => (gopB s = true ∧ e = .returned (opw (opC s)) ∨ gopB s = false ∧ ∃ p, e = pnc p) ∧ Below w.heap.size w w' := by
  obtain ⟨hP, hR, hB⟩ := allocsE2 w (.cells #[.int .i64 0, .int .i64 0, .string ⟨#[]⟩, .int .i64 0, .int .i64 0, .int .i64 0, .int .i64 0, .int .i64 0, .int .i64 0, .string ⟨#[]⟩, .int .i64 0] 25) (.cells #[.string s, .int .i64 0] 90)
  have hlt : 0 < w.heap.size := by
    rcases Nat.lt_or_ge 0 w.heap.size with h' | h'
    · exact h'
    · have h := hH
      unfold Handle World.cell? at h
      rw [Array.getElem?_eq_none h'] at h
      cases h
  have HO := hide (rdOp (w.heap.size + 1) s _ hs (by simp) (by omega) hR (hH.below hB))
  have HP := hide hP
  have HB := hide hB
  clear hP hR hB hs hH hlt
  generalize opC s = oc at *
  obtain ⟨K, no, k, n, ⟨mK, mF, mT, mI, mL, mk, mN⟩⟩ := oc
  go_enter Tryz.func45, Tryz.ntmps45
  go_wp2_with fail
  refine (unhide HO).mono ?_
  rintro e w1 ⟨hcase, hk⟩
  have HR1 := hide (hk.obj (unhide HP) (by omega))
  have HB1 := hide (hk.below (unhide HB) (by omega) (unhide HB).size)
  clear hk HO HP HB
  rcases hcase with ⟨hyes, rfl⟩ | ⟨hno, p, rfl⟩
  · obtain ⟨⟨d0, d1, d2, d3, d4, d5, d6, d7, d8, d9, d10⟩, f0, f1, f2, f3, f4, f5, f6, f7, f8, f9, f10⟩ := eleven_at (unhide HR1)
    go_wp2_with fail
    refine bodyPost_atE (fun W' hW' => ?_)
    obtain ⟨⟨r0, r1, r2, r3, r4, r5, r6, r7, r8, r9, r10⟩, _⟩ := eleven_at (show W'.heap[w.heap.size]? = some (.cells #[.int .i64 K, .int .i64 no, .string k, .int .i64 n, .int .i64 mK, .int .i64 mF, .int .i64 mT, .int .i64 mI, .int .i64 mL, .string mk, .int .i64 mN] 25 (0, 0)) by rw [hW']; exact eleven_set (unhide HR1))
    have hbb : Below w.heap.size w W' := by rw [hW']; exact eleven_set_below (unhide HB1) (Nat.le_refl _)
    exact bodyPost_ret (v := .agg #[.int .i64 K, .int .i64 no, .string k, .int .i64 n, .int .i64 mK, .int .i64 mF, .int .i64 mT, .int .i64 mI, .int .i64 mL, .string mk, .int .i64 mN]) (by simp [results, Tryz.results45, go_sem, r0, r1, r2, r3, r4, r5, r6, r7, r8, r9, r10]) rfl ⟨.inl ⟨hyes, rfl⟩, hbb⟩
  · go_wp2_with fail
    exact ⟨rfl, .inr ⟨hno, _, rfl⟩, unhide HB1⟩

set_option maxRecDepth 100000 in
theorem catch_idle (w : World) : CallsD Tryz.prog 66 #[] .returning w fun e u' w' => e = .returned (.tuple #[]) ∧ u' = .returning ∧ w = w' := by
  refine callsD_of_wpS Tryz.func66 rfl fun c₀ cs hu => ?_
  apply wpS_seq
  apply wpS_region
  simp [wpOpsS, go_sem, recoverD, hu, Tryz.ntmps66, Exit.thenS]
  refine wpS_of_wp ?_
  show Code.wp _ _ _ { tmps := #[.nilIface, undef, undef, .nilIface, undef, undef, undef, undef, undef, undef, undef, undef, undef, undef], defers := [] } _
  have hnil : ∀ W : World, (binOp BinOp.eql 20 .nilIface .nilIface).run Tryz.prog W = .ok (.bool true) W := fun _ => by kernel_rfl
  go_wp2_with fail
  cases c₀
  simp_all [bodyPostS, results, Tryz.results66]
set_option maxRecDepth 100000 in
theorem catch_pnc (p : Int) (older : List PanicEntry) (w : World) : CallsD Tryz.prog 66 #[] (.panicking ({ v := .iface 83 (.agg #[.int .i64 p]), recovered := false } :: older)) w fun e u' w' => e = .returned (.tuple #[]) ∧ u' = .panicking ({ v := .iface 83 (.agg #[.int .i64 p]), recovered := true } :: older) ∧ Below w.heap.size w w' := by
  refine callsD_of_wpS Tryz.func66 rfl fun c₀ cs hu => ?_
  apply wpS_seq
  apply wpS_region
  simp [wpOpsS, go_sem, recoverD, hu, Tryz.ntmps66, Exit.thenS]
  refine wpS_of_wp ?_
  show Code.wp _ _ _ { tmps := #[.iface 83 (.agg #[.int .i64 p]), undef, undef, .iface 83 (.agg #[.int .i64 p]), undef, undef, undef, undef, undef, undef, undef, undef, undef, undef], defers := [] } _
  have hnil : ∀ W : World, (binOp BinOp.eql 20 (.iface 83 (.agg #[.int .i64 p])) .nilIface).run Tryz.prog W = .ok (.bool false) W := fun _ => by kernel_rfl
  have has : ∀ W : World, (Instr.typeAssert (.iface 83 (.agg #[.int .i64 p])) 20 83 true).run Tryz.prog W = .ok (.tuple #[.agg #[.int .i64 p], .bool true]) W := fun _ => by kernel_rfl
  go_wp2_with fail
  have hb : Below w.heap.size w (w.alloc (.cells #[.int .i64 p] 83)) := (Below.refl _ _).alloc (Nat.le_refl _) _
  cases c₀
  simp_all [bodyPostS, results, Tryz.results66]
end Go.Proofs.YtikdkijggejnfaaGreatDoor
