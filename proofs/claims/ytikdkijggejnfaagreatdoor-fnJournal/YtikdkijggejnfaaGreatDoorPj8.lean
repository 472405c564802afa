/- Parts. -/
import Derived.Test.YtikdkijggejnfaaGreatDoorPj4
import Derived.Test.YtikdkijggejnfaaGreatDoorPj6
import Derived.Test.YtikdkijggejnfaaGreatDoorPj7
namespace Go.Proofs.YtikdkijggejnfaaGreatDoor
open Go.RowKit

theorem seven_at {w : World} {g : Nat} {a0 a1 a2 a3 a4 a5 a6 : Value} {t : TypeId} (h : w.heap[g]? = some (.cells #[a0, a1, a2, a3, a4, a5, a6] t (0, 0))) :
    (w.cell? ⟨g, 0, none⟩ = some a0 ∧ w.cell? ⟨g, 1, none⟩ = some a1 ∧ w.cell? ⟨g, 2, none⟩ = some a2 ∧ w.cell? ⟨g, 3, none⟩ = some a3 ∧ w.cell? ⟨g, 4, none⟩ = some a4 ∧ w.cell? ⟨g, 5, none⟩ = some a5 ∧ w.cell? ⟨g, 6, none⟩ = some a6) ∧
      (w.frozen? ⟨g, 0, none⟩ = false ∧ w.frozen? ⟨g, 1, none⟩ = false ∧ w.frozen? ⟨g, 2, none⟩ = false ∧ w.frozen? ⟨g, 3, none⟩ = false ∧ w.frozen? ⟨g, 4, none⟩ = false ∧ w.frozen? ⟨g, 5, none⟩ = false ∧ w.frozen? ⟨g, 6, none⟩ = false) := by
  have hf : ∀ i, w.frozen? ⟨g, i, none⟩ = false := fun i => by unfold World.frozen?; rw [h]; simp
  exact ⟨cells7 h, hf 0, hf 1, hf 2, hf 3, hf 4, hf 5, hf 6⟩
theorem blk_set {w : World} {c : Nat} {cs : Array Value} {t : TypeId} (h : w.heap[c]? = some (.cells cs t (0, 0))) (i : Nat) (v : Value) : (w.setCell ⟨c, i, none⟩ v).heap[c]? = some (.cells (cs.setIfInBounds i v) t (0, 0)) := by
  unfold World.setCell
  simp only [Array.getElem?_modify]
  rw [if_pos trivial, h]
  rfl
theorem one_other {w : World} {g g' i : Nat} {v : Value} {o : Option Obj} (h : w.heap[g']? = o) (hne : g' ≠ g) : (w.setCell ⟨g, i, none⟩ v).heap[g']? = o := by rw [Below.heap_setCell _ _ _ _ hne, h]
theorem seven_set {w : World} {g : Nat} {a0 a1 a2 a3 a4 a5 a6 b0 b1 b2 b3 b4 b5 b6 : Value} {t : TypeId} (h : w.heap[g]? = some (.cells #[a0, a1, a2, a3, a4, a5, a6] t (0, 0))) :
    (((((((w.setCell ⟨g, 0, none⟩ b0).setCell ⟨g, 1, none⟩ b1).setCell ⟨g, 2, none⟩ b2).setCell ⟨g, 3, none⟩ b3).setCell ⟨g, 4, none⟩ b4).setCell ⟨g, 5, none⟩ b5).setCell ⟨g, 6, none⟩ b6).heap[g]? = some (.cells #[b0, b1, b2, b3, b4, b5, b6] t (0, 0)) := by
  have h0 : (w.setCell ⟨g, 0, none⟩ b0).heap[g]? = some (.cells #[b0, a1, a2, a3, a4, a5, a6] t (0, 0)) := blk_set h 0 b0
  have h1 : ((w.setCell ⟨g, 0, none⟩ b0).setCell ⟨g, 1, none⟩ b1).heap[g]? = some (.cells #[b0, b1, a2, a3, a4, a5, a6] t (0, 0)) := blk_set h0 1 b1
  have h2 : (((w.setCell ⟨g, 0, none⟩ b0).setCell ⟨g, 1, none⟩ b1).setCell ⟨g, 2, none⟩ b2).heap[g]? = some (.cells #[b0, b1, b2, a3, a4, a5, a6] t (0, 0)) := blk_set h1 2 b2
  have h3 : ((((w.setCell ⟨g, 0, none⟩ b0).setCell ⟨g, 1, none⟩ b1).setCell ⟨g, 2, none⟩ b2).setCell ⟨g, 3, none⟩ b3).heap[g]? = some (.cells #[b0, b1, b2, b3, a4, a5, a6] t (0, 0)) := blk_set h2 3 b3
  have h4 : (((((w.setCell ⟨g, 0, none⟩ b0).setCell ⟨g, 1, none⟩ b1).setCell ⟨g, 2, none⟩ b2).setCell ⟨g, 3, none⟩ b3).setCell ⟨g, 4, none⟩ b4).heap[g]? = some (.cells #[b0, b1, b2, b3, b4, a5, a6] t (0, 0)) := blk_set h3 4 b4
  have h5 : ((((((w.setCell ⟨g, 0, none⟩ b0).setCell ⟨g, 1, none⟩ b1).setCell ⟨g, 2, none⟩ b2).setCell ⟨g, 3, none⟩ b3).setCell ⟨g, 4, none⟩ b4).setCell ⟨g, 5, none⟩ b5).heap[g]? = some (.cells #[b0, b1, b2, b3, b4, b5, a6] t (0, 0)) := blk_set h4 5 b5
  have h6 : (((((((w.setCell ⟨g, 0, none⟩ b0).setCell ⟨g, 1, none⟩ b1).setCell ⟨g, 2, none⟩ b2).setCell ⟨g, 3, none⟩ b3).setCell ⟨g, 4, none⟩ b4).setCell ⟨g, 5, none⟩ b5).setCell ⟨g, 6, none⟩ b6).heap[g]? = some (.cells #[b0, b1, b2, b3, b4, b5, b6] t (0, 0)) := blk_set h5 6 b6
  exact h6
theorem seven_below {a w : World} {B g : Nat} {b0 b1 b2 b3 b4 b5 b6 : Value} (h : Below B a w) (hg : B ≤ g) :
    Below B a (((((((w.setCell ⟨g, 0, none⟩ b0).setCell ⟨g, 1, none⟩ b1).setCell ⟨g, 2, none⟩ b2).setCell ⟨g, 3, none⟩ b3).setCell ⟨g, 4, none⟩ b4).setCell ⟨g, 5, none⟩ b5).setCell ⟨g, 6, none⟩ b6) :=
  ((((((h.setCell (p := ⟨g, 0, none⟩) hg b0).setCell (p := ⟨g, 1, none⟩) hg b1).setCell (p := ⟨g, 2, none⟩) hg b2).setCell (p := ⟨g, 3, none⟩) hg b3).setCell (p := ⟨g, 4, none⟩) hg b4).setCell (p := ⟨g, 5, none⟩) hg b5).setCell (p := ⟨g, 6, none⟩) hg b6
theorem bodyPost_at {P : Program} {fn : Func} {Q : Ending → World → Prop} {x : Exit} {act : Act} {W : World} (h : ∀ W', W' = W → bodyPost P fn Q x act W') : bodyPost P fn Q x act W := h W rfl
open Mth

theorem implRd (s : ByteArray) (i : Int) (hs : s.size ≤ maxLen) (w : World) (hH : Handle w) : Calls Tryz.prog 111 #[.string s, .int .i64 i] w fun e w' => e = .returned (.tuple #[.int .i64 (rdN s i), .int .i64 (rdE s i)]) ∧ Below w.heap.size w w' := by
  have h := implGetNumI s i w hs hH
  rw [getRes_two] at h
  exact h
theorem implRt (s : ByteArray) (i : Int) (hs : s.size ≤ maxLen) (w : World) (hH : Handle w) : Calls Tryz.prog 89 #[.string s, .int .i64 i] w fun e w' => e = .returned (.tuple #[.string (rtS s i), .int .i64 (rtE s i)]) ∧ Below w.heap.size w w' := by
  have h := implGetText s i w hs hH
  rw [textRes_two] at h
  exact h
set_option maxRecDepth 100000 in
set_option maxHeartbeats 2000000 in
theorem implGetMsg_nil (w : World) : Calls Tryz.prog 113 #[.string ByteArray.empty] w fun e w' => e = .returned (.tuple #[.agg #[.int .i64 0, .int .i64 0, .int .i64 0, .int .i64 0, .int .i64 0, .string ⟨#[]⟩, .int .i64 0], .bool false]) ∧ Below w.heap.size w w' := by
  go_enter Tryz.func113, Tryz.ntmps113
  go_wp2_with fail
  exact bodyPost_ret (v := .tuple #[.agg #[.int .i64 0, .int .i64 0, .int .i64 0, .int .i64 0, .int .i64 0, .string ⟨#[]⟩, .int .i64 0], .bool false]) (by simp [results, Tryz.results113, go_sem]) rfl ⟨rfl, below_one w _⟩

set_option maxRecDepth 100000 in
set_option maxHeartbeats 4000000 in
theorem implGetMsg_some (s : ByteArray) (hs : s.size ≤ maxLen) (h0 : 0 < s.size) (w : World) (hH : Handle w) : Calls Tryz.prog 113 #[.string s] w fun e w' => e = .returned (getV s) ∧ Below w.heap.size w w' := by
  have HG1 := hide (fun w1 h => implRd s (posN s 0) hs w1 h)
  have HG2 := hide (fun w1 h => implRd s (posN s 1) hs w1 h)
  have HG3 := hide (fun w1 h => implRd s (posN s 2) hs w1 h)
  have HG4 := hide (fun w1 h => implRd s (posN s 3) hs w1 h)
  have HG5 := hide (fun w1 h => implRt s (posN s 4) hs w1 h)
  have HG6 := hide (fun w1 h => implRd s (rtE s (posN s 4)) hs w1 h)
  have e1 : rdE s (posN s 0) = posN s 1 := rfl
  have e2 : rdE s (posN s 1) = posN s 2 := rfl
  have e3 : rdE s (posN s 2) = posN s 3 := rfl
  have e4 : rdE s (posN s 3) = posN s 4 := rfl
  have ez : posN s 0 = 1 := rfl
  rw [e1] at HG1
  rw [e2] at HG2
  rw [e3] at HG3
  rw [e4] at HG4
  have HP := hide (fun w1 => implMsgOk (cand s) w1)
  have HO := hide (show getOk s = (decide (candE s = s.size) && mgOk (cand s)) by unfold getOk; rw [decide_eq_true h0]; rfl)
  have hcand : cand s = ⟨s[0].toNat, rdN s (posN s 0), rdN s (posN s 1), rdN s (posN s 2), rdN s (posN s 3), rtS s (posN s 4), rdN s (rtE s (posN s 4))⟩ := by unfold cand; rw [head_at h0]; rfl
  have HM := hide (show getOk s = true → getV s = .tuple #[mgv (cand s), .bool true] from fun h => by unfold getV getMg; rw [h, if_pos rfl])
  have HZ := hide (show getOk s = false → getV s = .tuple #[.agg #[.int .i64 0, .int .i64 0, .int .i64 0, .int .i64 0, .int .i64 0, .string ⟨#[]⟩, .int .i64 0], .bool false] from getV_no)
  have hE : candE s = rdE s (rtE s (posN s 4)) := rfl
  rw [hE] at HO
  rw [hcand] at HP HM HO
  clear hcand hE e1 e2 e3 e4
  have hne := not_empty s h0
  have hi0 : (0 : Int) < (s.size : Int) := by omega
  have hb0 : s[0].toNat < 256 := s[0].toNat_lt
  have hw64 : wrap64 (s[0].toNat : Int) = (s[0].toNat : Int) := IntWalk.wrap64_in _ ⟨by omega, by omega⟩
  generalize getV s = RES at *
  generalize getOk s = OK at *
  generalize rdN s (posN s 0) = N1 at *
  generalize rdN s (posN s 1) = N2 at *
  generalize rdN s (posN s 2) = N3 at *
  generalize rdN s (posN s 3) = N4 at *
  generalize rdN s (rtE s (posN s 4)) = N5 at *
  generalize rtS s (posN s 4) = TX at *
  generalize rdE s (rtE s (posN s 4)) = E6 at *
  generalize rtE s (posN s 4) = E5 at *
  generalize posN s 4 = E4 at *
  generalize posN s 3 = E3 at *
  generalize posN s 2 = E2 at *
  generalize posN s 1 = E1 at *
  rw [ez] at HG1
  clear ez hs
  unfold maxLen at *
  have HH := hide hH
  clear hH
  go_enter Tryz.func113, Tryz.ntmps113
  go_upto_region 4 with fail
  refine wp_at (fun V0 hV => ?_)
  have hM0 : V0.heap[w.heap.size + 1]? = some (.cells #[.int .i64 (s[0].toNat : Int), .int .i64 0, .int .i64 0, .int .i64 0, .int .i64 0, .string ⟨#[]⟩, .int .i64 0] 23 (0, 0)) := by
    rw [hV]
    have h := heap_alloc_new (w.alloc (.cells #[.int .i64 0, .int .i64 0, .int .i64 0, .int .i64 0, .int .i64 0, .string ⟨#[]⟩, .int .i64 0] 23)) (.cells #[.int .i64 (s[0].toNat : Int), .int .i64 0, .int .i64 0, .int .i64 0, .int .i64 0, .string ⟨#[]⟩, .int .i64 0] 23)
    rwa [show (w.alloc (.cells #[.int .i64 0, .int .i64 0, .int .i64 0, .int .i64 0, .int .i64 0, .string ⟨#[]⟩, .int .i64 0] 23)).heap.size = w.heap.size + 1 by simp] at h
  have hR0 : V0.heap[w.heap.size]? = some (.cells #[.int .i64 0, .int .i64 0, .int .i64 0, .int .i64 0, .int .i64 0, .string ⟨#[]⟩, .int .i64 0] 23 (0, 0)) := by rw [hV, Below.heap_alloc _ _ _ (by simp)]; exact heap_alloc_new w _
  have hB0 : Below w.heap.size w V0 := by rw [hV]; exact ((Below.refl _ _).alloc (Nat.le_refl _) _).alloc (by simp) _
  clear hV hw64 hb0
  have HM0 := hide hM0
  have HR0 := hide hR0
  have HB0 := hide hB0
  clear hM0 hR0 hB0
  go_wp2_with fail
  refine (unhide HG1 _ ((unhide HH).below (unhide HB0))).mono ?_
  rintro e x1 ⟨rfl, hb1⟩
  have gM1 := blk_step (unhide HM0) hb1
  have gR1 := blk_step (unhide HR0) hb1
  have gB1 := (unhide HB0).trans (hb1.mono (unhide HB0).size)
  obtain ⟨⟨c0, c1, c2, c3, c4, c5, c6⟩, f0, f1, f2, f3, f4, f5, f6⟩ := seven_at gM1
  have hz1 := blk_lt gM1
  have GM1 := hide gM1
  have GR1 := hide gR1
  have GB1 := hide gB1
  clear hb1 HM0 HR0 HB0 gM1 gR1 gB1 HG1
  go_upto_region 5 with fail
  refine wp_at (fun V1 hV => ?_)
  have hM1 : V1.heap[w.heap.size + 1]? = some (.cells #[.int .i64 (s[0].toNat : Int), .int .i64 N1, .int .i64 0, .int .i64 0, .int .i64 0, .string ⟨#[]⟩, .int .i64 0] 23 (0, 0)) := by rw [hV]; exact blk_set (unhide GM1) 1 (.int .i64 N1)
  have hR1 : V1.heap[w.heap.size]? = some (.cells #[.int .i64 0, .int .i64 0, .int .i64 0, .int .i64 0, .int .i64 0, .string ⟨#[]⟩, .int .i64 0] 23 (0, 0)) := by rw [hV]; exact one_other (unhide GR1) (by omega)
  have hB1 : Below w.heap.size w V1 := by rw [hV]; exact (unhide GB1).setCell (p := ⟨w.heap.size + 1, 1, none⟩) (Nat.le_succ _) (.int .i64 N1)
  clear hV GM1 GR1 GB1 c0 c1 c2 c3 c4 c5 c6 f0 f1 f2 f3 f4 f5 f6 hz1
  have HM1 := hide hM1
  have HR1 := hide hR1
  have HB1 := hide hB1
  clear hM1 hR1 hB1
  go_wp2_with fail
  refine (unhide HG2 _ ((unhide HH).below (unhide HB1))).mono ?_
  rintro e x2 ⟨rfl, hb2⟩
  have gM2 := blk_step (unhide HM1) hb2
  have gR2 := blk_step (unhide HR1) hb2
  have gB2 := (unhide HB1).trans (hb2.mono (unhide HB1).size)
  obtain ⟨⟨c0, c1, c2, c3, c4, c5, c6⟩, f0, f1, f2, f3, f4, f5, f6⟩ := seven_at gM2
  have hz2 := blk_lt gM2
  have GM2 := hide gM2
  have GR2 := hide gR2
  have GB2 := hide gB2
  clear hb2 HM1 HR1 HB1 gM2 gR2 gB2 HG2
  go_upto_region 6 with fail
  refine wp_at (fun V2 hV => ?_)
  have hM2 : V2.heap[w.heap.size + 1]? = some (.cells #[.int .i64 (s[0].toNat : Int), .int .i64 N1, .int .i64 N2, .int .i64 0, .int .i64 0, .string ⟨#[]⟩, .int .i64 0] 23 (0, 0)) := by rw [hV]; exact blk_set (unhide GM2) 2 (.int .i64 N2)
  have hR2 : V2.heap[w.heap.size]? = some (.cells #[.int .i64 0, .int .i64 0, .int .i64 0, .int .i64 0, .int .i64 0, .string ⟨#[]⟩, .int .i64 0] 23 (0, 0)) := by rw [hV]; exact one_other (unhide GR2) (by omega)
  have hB2 : Below w.heap.size w V2 := by rw [hV]; exact (unhide GB2).setCell (p := ⟨w.heap.size + 1, 2, none⟩) (Nat.le_succ _) (.int .i64 N2)
  clear hV GM2 GR2 GB2 c0 c1 c2 c3 c4 c5 c6 f0 f1 f2 f3 f4 f5 f6 hz2
  have HM2 := hide hM2
  have HR2 := hide hR2
  have HB2 := hide hB2
  clear hM2 hR2 hB2
  go_wp2_with fail
  refine (unhide HG3 _ ((unhide HH).below (unhide HB2))).mono ?_
  rintro e x3 ⟨rfl, hb3⟩
  have gM3 := blk_step (unhide HM2) hb3
  have gR3 := blk_step (unhide HR2) hb3
  have gB3 := (unhide HB2).trans (hb3.mono (unhide HB2).size)
  obtain ⟨⟨c0, c1, c2, c3, c4, c5, c6⟩, f0, f1, f2, f3, f4, f5, f6⟩ := seven_at gM3
  have hz3 := blk_lt gM3
  have GM3 := hide gM3
  have GR3 := hide gR3
  have GB3 := hide gB3
  clear hb3 HM2 HR2 HB2 gM3 gR3 gB3 HG3
  go_upto_region 7 with fail
  refine wp_at (fun V3 hV => ?_)
  have hM3 : V3.heap[w.heap.size + 1]? = some (.cells #[.int .i64 (s[0].toNat : Int), .int .i64 N1, .int .i64 N2, .int .i64 N3, .int .i64 0, .string ⟨#[]⟩, .int .i64 0] 23 (0, 0)) := by rw [hV]; exact blk_set (unhide GM3) 3 (.int .i64 N3)
  have hR3 : V3.heap[w.heap.size]? = some (.cells #[.int .i64 0, .int .i64 0, .int .i64 0, .int .i64 0, .int .i64 0, .string ⟨#[]⟩, .int .i64 0] 23 (0, 0)) := by rw [hV]; exact one_other (unhide GR3) (by omega)
  have hB3 : Below w.heap.size w V3 := by rw [hV]; exact (unhide GB3).setCell (p := ⟨w.heap.size + 1, 3, none⟩) (Nat.le_succ _) (.int .i64 N3)
  clear hV GM3 GR3 GB3 c0 c1 c2 c3 c4 c5 c6 f0 f1 f2 f3 f4 f5 f6 hz3
  have HM3 := hide hM3
  have HR3 := hide hR3
  have HB3 := hide hB3
  clear hM3 hR3 hB3
  go_wp2_with fail
  refine (unhide HG4 _ ((unhide HH).below (unhide HB3))).mono ?_
  rintro e x4 ⟨rfl, hb4⟩
  have gM4 := blk_step (unhide HM3) hb4
  have gR4 := blk_step (unhide HR3) hb4
  have gB4 := (unhide HB3).trans (hb4.mono (unhide HB3).size)
  obtain ⟨⟨c0, c1, c2, c3, c4, c5, c6⟩, f0, f1, f2, f3, f4, f5, f6⟩ := seven_at gM4
  have hz4 := blk_lt gM4
  have GM4 := hide gM4
  have GR4 := hide gR4
  have GB4 := hide gB4
  clear hb4 HM3 HR3 HB3 gM4 gR4 gB4 HG4
  go_upto_region 8 with fail
  refine wp_at (fun V4 hV => ?_)
  have hM4 : V4.heap[w.heap.size + 1]? = some (.cells #[.int .i64 (s[0].toNat : Int), .int .i64 N1, .int .i64 N2, .int .i64 N3, .int .i64 N4, .string ⟨#[]⟩, .int .i64 0] 23 (0, 0)) := by rw [hV]; exact blk_set (unhide GM4) 4 (.int .i64 N4)
  have hR4 : V4.heap[w.heap.size]? = some (.cells #[.int .i64 0, .int .i64 0, .int .i64 0, .int .i64 0, .int .i64 0, .string ⟨#[]⟩, .int .i64 0] 23 (0, 0)) := by rw [hV]; exact one_other (unhide GR4) (by omega)
  have hB4 : Below w.heap.size w V4 := by rw [hV]; exact (unhide GB4).setCell (p := ⟨w.heap.size + 1, 4, none⟩) (Nat.le_succ _) (.int .i64 N4)
  clear hV GM4 GR4 GB4 c0 c1 c2 c3 c4 c5 c6 f0 f1 f2 f3 f4 f5 f6 hz4
  have HM4 := hide hM4
  have HR4 := hide hR4
  have HB4 := hide hB4
  clear hM4 hR4 hB4
  go_wp2_with fail
  refine (unhide HG5 _ ((unhide HH).below (unhide HB4))).mono ?_
  rintro e x5 ⟨rfl, hb5⟩
  have gM5 := blk_step (unhide HM4) hb5
  have gR5 := blk_step (unhide HR4) hb5
  have gB5 := (unhide HB4).trans (hb5.mono (unhide HB4).size)
  obtain ⟨⟨c0, c1, c2, c3, c4, c5, c6⟩, f0, f1, f2, f3, f4, f5, f6⟩ := seven_at gM5
  have hz5 := blk_lt gM5
  have GM5 := hide gM5
  have GR5 := hide gR5
  have GB5 := hide gB5
  clear hb5 HM4 HR4 HB4 gM5 gR5 gB5 HG5
  go_upto_region 9 with fail
  refine wp_at (fun V5 hV => ?_)
  have hM5 : V5.heap[w.heap.size + 1]? = some (.cells #[.int .i64 (s[0].toNat : Int), .int .i64 N1, .int .i64 N2, .int .i64 N3, .int .i64 N4, .string TX, .int .i64 0] 23 (0, 0)) := by rw [hV]; exact blk_set (unhide GM5) 5 (.string TX)
  have hR5 : V5.heap[w.heap.size]? = some (.cells #[.int .i64 0, .int .i64 0, .int .i64 0, .int .i64 0, .int .i64 0, .string ⟨#[]⟩, .int .i64 0] 23 (0, 0)) := by rw [hV]; exact one_other (unhide GR5) (by omega)
  have hB5 : Below w.heap.size w V5 := by rw [hV]; exact (unhide GB5).setCell (p := ⟨w.heap.size + 1, 5, none⟩) (Nat.le_succ _) (.string TX)
  clear hV GM5 GR5 GB5 c0 c1 c2 c3 c4 c5 c6 f0 f1 f2 f3 f4 f5 f6 hz5
  have HM5 := hide hM5
  have HR5 := hide hR5
  have HB5 := hide hB5
  clear hM5 hR5 hB5
  go_wp2_with fail
  refine (unhide HG6 _ ((unhide HH).below (unhide HB5))).mono ?_
  rintro e x6 ⟨rfl, hb6⟩
  have gM6 := blk_step (unhide HM5) hb6
  have gR6 := blk_step (unhide HR5) hb6
  have gB6 := (unhide HB5).trans (hb6.mono (unhide HB5).size)
  obtain ⟨⟨c0, c1, c2, c3, c4, c5, c6⟩, f0, f1, f2, f3, f4, f5, f6⟩ := seven_at gM6
  have hz6 := blk_lt gM6
  have GM6 := hide gM6
  have GR6 := hide gR6
  have GB6 := hide gB6
  clear hb6 HM5 HR5 HB5 gM6 gR6 gB6 HG6
  go_upto_region 10 with fail
  refine wp_at (fun V6 hV => ?_)
  have hM6 : V6.heap[w.heap.size + 1]? = some (.cells #[.int .i64 (s[0].toNat : Int), .int .i64 N1, .int .i64 N2, .int .i64 N3, .int .i64 N4, .string TX, .int .i64 N5] 23 (0, 0)) := by rw [hV]; exact blk_set (unhide GM6) 6 (.int .i64 N5)
  have hR6 : V6.heap[w.heap.size]? = some (.cells #[.int .i64 0, .int .i64 0, .int .i64 0, .int .i64 0, .int .i64 0, .string ⟨#[]⟩, .int .i64 0] 23 (0, 0)) := by rw [hV]; exact one_other (unhide GR6) (by omega)
  have hB6 : Below w.heap.size w V6 := by rw [hV]; exact (unhide GB6).setCell (p := ⟨w.heap.size + 1, 6, none⟩) (Nat.le_succ _) (.int .i64 N5)
  clear hV GM6 GR6 GB6 c0 c1 c2 c3 c4 c5 c6 f0 f1 f2 f3 f4 f5 f6 hz6
  have hzM := blk_lt hM6
  have hzR := blk_lt hR6
  by_cases hE : E6 = (s.size : Int)
  case' neg =>
    have hO : OK = false := by rw [unhide HO, decide_eq_false hE]; rfl
    have hRes := hide (unhide HZ hO)
    have hq : (E6 != (s.size : Int)) = true := by simpa using hE
    obtain ⟨⟨d0, d1, d2, d3, d4, d5, d6⟩, f0, f1, f2, f3, f4, f5, f6⟩ := seven_at hR6
    have HR := hide hR6
    have HB := hide hB6
    have HE := hide hE
    clear hO HO HZ HM HP hM6 hR6 hB6 hE
    go_wp2_with fail
    refine bodyPost_at (fun W' hW' => ?_)
    obtain ⟨⟨r0, r1, r2, r3, r4, r5, r6⟩, _⟩ := seven_at (show W'.heap[w.heap.size]? = some (.cells #[.int .i64 0, .int .i64 0, .int .i64 0, .int .i64 0, .int .i64 0, .string ⟨#[]⟩, .int .i64 0] 23 (0, 0)) by rw [hW']; exact seven_set (unhide HR))
    have hbb : Below w.heap.size w W' := by rw [hW']; exact seven_below (unhide HB) (Nat.le_refl _)
    exact bodyPost_ret (v := .tuple #[.agg #[.int .i64 0, .int .i64 0, .int .i64 0, .int .i64 0, .int .i64 0, .string ⟨#[]⟩, .int .i64 0], .bool false]) (by simp [results, Tryz.results113, go_sem, r0, r1, r2, r3, r4, r5, r6]) rfl ⟨by rw [unhide hRes], hbb⟩
  have hq : (E6 != (s.size : Int)) = false := by simpa using hE
  obtain ⟨q0, q1, q2, q3, q4, q5, q6⟩ := cells7 hM6
  have HR := hide hR6
  have HB := hide hB6
  have HMB := hide hM6
  have HE := hide hE
  clear hR6 hB6 hM6 hE
  go_wp2_with fail
  refine (unhide HP _).mono ?_
  rintro e w5 ⟨rfl, hb5⟩
  have hR5 := blk_step (unhide HR) hb5
  have hM5 := blk_step (unhide HMB) hb5
  have hB5 := (unhide HB).trans (hb5.mono (unhide HB).size)
  have hzM5 := blk_lt hM5
  have hzR5 := blk_lt hR5
  obtain ⟨⟨d0, d1, d2, d3, d4, d5, d6⟩, f0, f1, f2, f3, f4, f5, f6⟩ := seven_at hR5
  have HR5 := hide hR5
  have HB5 := hide hB5
  clear hb5 HR HMB HB q0 q1 q2 q3 q4 q5 q6 HP hzM hzR
  cases hp : mgOk ⟨s[0].toNat, N1, N2, N3, N4, TX, N5⟩
  case' false =>
    have hO : OK = false := by rw [unhide HO, hp]; simp
    have hRes := hide (unhide HZ hO)
    clear hO HO HZ HM hM5 hR5 hB5 hp
    go_wp2_with fail
    refine bodyPost_at (fun W' hW' => ?_)
    obtain ⟨⟨r0, r1, r2, r3, r4, r5, r6⟩, _⟩ := seven_at (show W'.heap[w.heap.size]? = some (.cells #[.int .i64 0, .int .i64 0, .int .i64 0, .int .i64 0, .int .i64 0, .string ⟨#[]⟩, .int .i64 0] 23 (0, 0)) by rw [hW']; exact seven_set (unhide HR5))
    have hbb : Below w.heap.size w W' := by rw [hW']; exact seven_below (unhide HB5) (Nat.le_refl _)
    exact bodyPost_ret (v := .tuple #[.agg #[.int .i64 0, .int .i64 0, .int .i64 0, .int .i64 0, .int .i64 0, .string ⟨#[]⟩, .int .i64 0], .bool false]) (by simp [results, Tryz.results113, go_sem, r0, r1, r2, r3, r4, r5, r6]) rfl ⟨by rw [unhide hRes], hbb⟩
  have hO : OK = true := by rw [unhide HO, decide_eq_true (unhide HE), hp]; rfl
  have hRes := hide (unhide HM hO)
  obtain ⟨q0, q1, q2, q3, q4, q5, q6⟩ := cells7 hM5
  clear hO HO HZ HM hM5 hR5 hB5 hp
  go_wp2_with fail
  refine bodyPost_at (fun W' hW' => ?_)
  obtain ⟨⟨r0, r1, r2, r3, r4, r5, r6⟩, _⟩ := seven_at (show W'.heap[w.heap.size]? = some (.cells #[.int .i64 (s[0].toNat : Int), .int .i64 N1, .int .i64 N2, .int .i64 N3, .int .i64 N4, .string TX, .int .i64 N5] 23 (0, 0)) by rw [hW']; exact seven_set (unhide HR5))
  have hbb : Below w.heap.size w W' := by rw [hW']; exact seven_below (unhide HB5) (Nat.le_refl _)
  exact bodyPost_ret (v := .tuple #[.agg #[.int .i64 (s[0].toNat : Int), .int .i64 N1, .int .i64 N2, .int .i64 N3, .int .i64 N4, .string TX, .int .i64 N5], .bool true]) (by simp [results, Tryz.results113, go_sem, r0, r1, r2, r3, r4, r5, r6]) rfl ⟨by rw [unhide hRes], hbb⟩

theorem implGetMsg (s : ByteArray) (hs : s.size ≤ maxLen) (w : World) (hH : Handle w) : Calls Tryz.prog 113 #[.string s] w fun e w' => e = .returned (getV s) ∧ Below w.heap.size w w' := by
  by_cases h0 : s.size = 0
  · obtain rfl := eq_empty s h0
    rw [getV_no (show getOk ByteArray.empty = false by unfold getOk; simp)]
    exact implGetMsg_nil w
  · exact implGetMsg_some s hs (by omega) w hH
end Go.Proofs.YtikdkijggejnfaaGreatDoor
