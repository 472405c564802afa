/- Parts. -/
import Derived.Test.YtikdkijggejnfaaGreatDoorPr10
import Derived.Test.YtikdkijggejnfaaGreatDoorPr13
namespace Go.Proofs.YtikdkijggejnfaaGreatDoor
open Go.RowKit
open Mth

theorem wordsAt (s : ByteArray) (N : Nat) (W : World) (hs : s.size ≤ 1048576) (hM : MaxLenIs W) (hn : (words s).length = N) :
    Calls Tryz.prog 27 #[.string s] W fun e w' => e = .returned (.slice (some ⟨W.heap.size, 0, none⟩) N N) ∧ (∀ i (hi : i < (words s).length), w'.cell? ⟨W.heap.size, i, none⟩ = some (.string (words s)[i])) ∧ W.heap.size < w'.heap.size ∧ Below W.heap.size W w' :=
  (implWords s W hs hM).mono fun e w' ⟨he, hb, hw⟩ => ⟨by rw [he, hn], fun i hi => hb.cell i hi, hb.lt, hw⟩
theorem below_new (w : World) (o : Obj) : Below w.heap.size w (w.alloc o).drew := let h := below_one w o; ⟨h.os, h.tape, h.output, h.size, h.block⟩
theorem ro_set {w : World} {c : Nat} {cs : Array Value} {t : TypeId} (h : w.heap[c]? = some (.cells cs t (0, 0))) (i : Nat) (v : Value) : (w.setCell ⟨c, i, none⟩ v).heap[c]? = some (.cells (cs.setIfInBounds i v) t (0, 0)) := by
  unfold World.setCell
  simp only [Array.getElem?_modify]
  rw [if_pos trivial, h]
  rfl
theorem cell_other {w : World} {a p : Addr} {v : Value} (h : p.block ≠ a.block) : (w.setCell a v).cell? p = w.cell? p := by
  unfold World.cell?
  rw [Below.heap_setCell _ _ _ _ h]
theorem roI_yes {s x0 : ByteArray} {r : List ByteArray} (hx : words s = x0 :: r) (h : decide (0 ≤ kindB x0) = true ∧ opTx (opI (kI x0) r) = s) : roI s = (opI (kI x0) r, true) := by
  have h0 := of_decide_eq_true h.1
  have hk : kI x0 = kindB x0 := by unfold kI; rw [if_pos h0]
  rw [hk] at h ⊢
  unfold roI
  rw [if_pos (by rw [hx]; exact ⟨h0, h.2⟩), hx]
  rfl
theorem roI_no {s x0 : ByteArray} {r : List ByteArray} (hx : words s = x0 :: r) (h : decide (0 ≤ kindB x0) = true ∧ ¬ opTx (opI (kI x0) r) = s) : roI s = (⟨0, 0, ByteArray.empty, 0, zMg⟩, false) := by
  have h0 := of_decide_eq_true h.1
  have hk : kI x0 = kindB x0 := by unfold kI; rw [if_pos h0]
  rw [hk] at h
  unfold roI
  rw [if_neg (by rw [hx]; exact fun q => h.2 q.2)]
theorem roI_un {s x0 : ByteArray} {r : List ByteArray} (hx : words s = x0 :: r) (h : decide (0 ≤ kindB x0) = false) : roI s = (⟨0, 0, ByteArray.empty, 0, zMg⟩, false) := by
  unfold roI
  rw [if_neg (by rw [hx]; exact fun q => (of_decide_eq_false h) q.1)]

set_option maxRecDepth 100000 in
set_option maxHeartbeats 4000000 in
theorem implReadOp_k1n1 (s x0 : ByteArray) (w : World) (hs : s.size ≤ 1048576) (hx : words s = [x0]) (hk : kI x0 = 1) (hM : MaxLenIs w) (_hH : Handle w) (hT : Tens w) :
    Calls Tryz.prog 6 #[.string s] w fun e w' => e = .returned (.tuple #[opw (roI s).1, .bool (roI s).2]) ∧ Below w.heap.size w w' := by
  have hn : (words s).length = 1 := by rw [hx]; rfl
  have HW := hide (fun W (hb : Below w.heap.size w W) => wordsAt s 1 W hs (hM.below hb) hn)
  rw [hx] at HW
  have hO : opI (kI x0) ([]) = ⟨kI x0, 0, ByteArray.empty, 0, zMg⟩ := by
    rw [hk]
    simp [opI]
  have HY := hide (fun h => roI_yes hx (r := []) h)
  have HZ := hide (fun h => roI_no hx (r := []) h)
  have HU := hide (fun h => roI_un hx (r := []) h)
  rw [hO] at HY HZ
  have HOT : Hid (∀ w1 : World, Tens w1 → Calls Tryz.prog 19 #[.agg #[.int .i64 (kI x0), .int .i64 0, .string ⟨#[]⟩, .int .i64 0, .int .i64 0, .int .i64 0, .int .i64 0, .int .i64 0, .int .i64 0, .string ⟨#[]⟩, .int .i64 0]] w1 fun e w' => e = .returned (.string (opTx ⟨kI x0, 0, ByteArray.empty, 0, zMg⟩)) ∧ Below w1.heap.size w1 w') := fun w1 h => implOpText ⟨kI x0, 0, ByteArray.empty, 0, zMg⟩ w1 h
  have HK := hide (fun w1 => implKind x0 w1)
  have HTT := hide hT
  clear hO hT hM _hH hx hs
  rw [hk] at HY HZ HOT HK
  clear hk
  generalize opTx ⟨1, 0, ByteArray.empty, 0, zMg⟩ = TX at *
  generalize decide (0 ≤ kindB x0) = kn at *
  generalize roI s = RES at *
  go_enter Tryz.func6, Tryz.ntmps6
  go_wp2_with fail
  refine (unhide HW _ (below_one w _)).mono ?_
  rintro e w1 ⟨rfl, hc1, hgl, hb1⟩
  have HR1 := hide (blk_step (heap_alloc_new w _) hb1)
  have HB1 := hide ((below_one w _).trans (hb1.mono (by simp)))
  have c0 := hc1 0 (by simp)
  simp only [List.getElem_cons_zero, World.size_alloc] at c0 hgl
  clear hc1 hb1 HW
  go_wp2_with (go_at_call 28; refine (unhide HK _).mono ?_; rintro e w' ⟨rfl, rfl⟩)
  go_region
  go_upto_region 4 with fail
  refine wp_at (fun V hV => ?_)
  have hbn : Below w1.heap.size w1 V := by rw [hV]; exact below_new w1 _
  have HM := hide (show V.heap[w1.heap.size]? = some (.cells #[.int .i64 1, .int .i64 0, .string ⟨#[]⟩, .int .i64 0, .int .i64 0, .int .i64 0, .int .i64 0, .int .i64 0, .int .i64 0, .string ⟨#[]⟩, .int .i64 0] 25 (0, 0)) by rw [hV]; exact heap_alloc_new w1 _)
  have HR := hide (blk_step (unhide HR1) hbn)
  have HB := hide ((unhide HB1).trans (hbn.mono (unhide HB1).size))
  have hgm : w1.heap.size < V.heap.size := blk_lt (unhide HM)
  clear hV hbn HR1 HB1 c0
  go_upto_region 8 with fail
  have hzR := blk_lt (unhide HR)
  obtain ⟨⟨d0, d1, d2, d3, d4, d5, d6, d7, d8, d9, d10⟩, f0, f1, f2, f3, f4, f5, f6, f7, f8, f9, f10⟩ := eleven_at (unhide HR)
  obtain ⟨⟨q0, q1, q2, q3, q4, q5, q6, q7, q8, q9, q10⟩, _⟩ := eleven_at (unhide HM)
  cases kn
  case' false =>
    have hRes := hide (unhide HU (by simp))
    clear HU HY HZ HOT HM q0 q1 q2 q3 q4 q5 q6 q7 q8 q9 q10
    go_wp2_with fail
    refine bodyPost_atE (fun W' hW' => ?_)
    obtain ⟨⟨r0, r1, r2, r3, r4, r5, r6, r7, r8, r9, r10⟩, _⟩ := eleven_at (show W'.heap[w.heap.size]? = some (.cells #[.int .i64 0, .int .i64 0, .string ⟨#[]⟩, .int .i64 0, .int .i64 0, .int .i64 0, .int .i64 0, .int .i64 0, .int .i64 0, .string ⟨#[]⟩, .int .i64 0] 25 (0, 0)) by rw [hW']; exact eleven_set (unhide HR))
    have hbb : Below w.heap.size w W' := by rw [hW']; exact eleven_set_below (unhide HB) (Nat.le_refl _)
    exact bodyPost_ret (v := .tuple #[.agg #[.int .i64 0, .int .i64 0, .string ⟨#[]⟩, .int .i64 0, .int .i64 0, .int .i64 0, .int .i64 0, .int .i64 0, .int .i64 0, .string ⟨#[]⟩, .int .i64 0], .bool false]) (by simp [results, Tryz.results6, go_sem, r0, r1, r2, r3, r4, r5, r6, r7, r8, r9, r10]) rfl ⟨by rw [unhide hRes]; rfl, hbb⟩
  clear d0 d1 d2 d3 d4 d5 d6 d7 d8 d9 d10 f0 f1 f2 f3 f4 f5 f6 f7 f8 f9 f10
  go_wp2_with fail
  refine (unhide HOT _ ((unhide HTT).below (unhide HB))).mono ?_
  rintro e w7 ⟨rfl, hb7⟩
  have HR7 := hide (blk_step (unhide HR) hb7)
  have HM7 := hide (blk_step (unhide HM) hb7)
  have HB7 := hide ((unhide HB).trans (hb7.mono (unhide HB).size))
  clear hb7 HR HM HB q0 q1 q2 q3 q4 q5 q6 q7 q8 q9 q10 HOT hzR hgm
  have HR := HR7
  have HB := HB7
  clear HR7 HB7
  have hzR := blk_lt (unhide HR)
  have hzM := blk_lt (unhide HM7)
  obtain ⟨⟨d0, d1, d2, d3, d4, d5, d6, d7, d8, d9, d10⟩, f0, f1, f2, f3, f4, f5, f6, f7, f8, f9, f10⟩ := eleven_at (unhide HR)
  by_cases hp : TX = s
  case' neg =>
    have hRes := hide (unhide HZ ⟨by simp, hp⟩)
    have hq := str_ne hp
    clear HU HY HZ HM7 hp
    go_wp2_with fail
    refine bodyPost_atE (fun W' hW' => ?_)
    obtain ⟨⟨r0, r1, r2, r3, r4, r5, r6, r7, r8, r9, r10⟩, _⟩ := eleven_at (show W'.heap[w.heap.size]? = some (.cells #[.int .i64 0, .int .i64 0, .string ⟨#[]⟩, .int .i64 0, .int .i64 0, .int .i64 0, .int .i64 0, .int .i64 0, .int .i64 0, .string ⟨#[]⟩, .int .i64 0] 25 (0, 0)) by rw [hW']; exact eleven_set (unhide HR))
    have hbb : Below w.heap.size w W' := by rw [hW']; exact eleven_set_below (unhide HB) (Nat.le_refl _)
    exact bodyPost_ret (v := .tuple #[.agg #[.int .i64 0, .int .i64 0, .string ⟨#[]⟩, .int .i64 0, .int .i64 0, .int .i64 0, .int .i64 0, .int .i64 0, .int .i64 0, .string ⟨#[]⟩, .int .i64 0], .bool false]) (by simp [results, Tryz.results6, go_sem, r0, r1, r2, r3, r4, r5, r6, r7, r8, r9, r10]) rfl ⟨by rw [unhide hRes]; rfl, hbb⟩
  have hRes := hide (unhide HY ⟨by simp, hp⟩)
  have hq : (TX.toList == s.toList) = true := by rw [hp]; simp
  obtain ⟨⟨q0, q1, q2, q3, q4, q5, q6, q7, q8, q9, q10⟩, _⟩ := eleven_at (unhide HM7)
  clear HU HY HZ hp
  go_wp2_with fail
  refine bodyPost_atE (fun W' hW' => ?_)
  obtain ⟨⟨r0, r1, r2, r3, r4, r5, r6, r7, r8, r9, r10⟩, _⟩ := eleven_at (show W'.heap[w.heap.size]? = some (.cells #[.int .i64 1, .int .i64 0, .string ⟨#[]⟩, .int .i64 0, .int .i64 0, .int .i64 0, .int .i64 0, .int .i64 0, .int .i64 0, .string ⟨#[]⟩, .int .i64 0] 25 (0, 0)) by rw [hW']; exact eleven_set (unhide HR))
  have hbb : Below w.heap.size w W' := by rw [hW']; exact eleven_set_below (unhide HB) (Nat.le_refl _)
  exact bodyPost_ret (v := .tuple #[.agg #[.int .i64 1, .int .i64 0, .string ⟨#[]⟩, .int .i64 0, .int .i64 0, .int .i64 0, .int .i64 0, .int .i64 0, .int .i64 0, .string ⟨#[]⟩, .int .i64 0], .bool true]) (by simp [results, Tryz.results6, go_sem, r0, r1, r2, r3, r4, r5, r6, r7, r8, r9, r10]) rfl ⟨by rw [unhide hRes]; rfl, hbb⟩
set_option maxRecDepth 100000 in
set_option maxHeartbeats 4000000 in
theorem implReadOp_k1n2 (s x0 : ByteArray) (a : ByteArray) (w : World) (hs : s.size ≤ 1048576) (hx : words s = [x0, a]) (hk : kI x0 = 1) (hM : MaxLenIs w) (hH : Handle w) (hT : Tens w) :
    Calls Tryz.prog 6 #[.string s] w fun e w' => e = .returned (.tuple #[opw (roI s).1, .bool (roI s).2]) ∧ Below w.heap.size w w' := by
  have hn : (words s).length = 2 := by rw [hx]; rfl
  have HW := hide (fun W (hb : Below w.heap.size w W) => wordsAt s 2 W hs (hM.below hb) hn)
  rw [hx] at HW
  have hzNA := words_size s a (by rw [hx]; simp)
  have HNA := hide (fun W (hb : Below w.heap.size w W) => implAmount a W (by unfold maxLen; omega) (hH.below hb) (hT.below hb))
  have hO : opI (kI x0) ([a]) = ⟨kI x0, numB a, ByteArray.empty, 0, zMg⟩ := by
    rw [hk]
    simp [opI]
  have HY := hide (fun h => roI_yes hx (r := [a]) h)
  have HZ := hide (fun h => roI_no hx (r := [a]) h)
  have HU := hide (fun h => roI_un hx (r := [a]) h)
  rw [hO] at HY HZ
  have HOT : Hid (∀ w1 : World, Tens w1 → Calls Tryz.prog 19 #[.agg #[.int .i64 (kI x0), .int .i64 (numB a), .string ⟨#[]⟩, .int .i64 0, .int .i64 0, .int .i64 0, .int .i64 0, .int .i64 0, .int .i64 0, .string ⟨#[]⟩, .int .i64 0]] w1 fun e w' => e = .returned (.string (opTx ⟨kI x0, numB a, ByteArray.empty, 0, zMg⟩)) ∧ Below w1.heap.size w1 w') := fun w1 h => implOpText ⟨kI x0, numB a, ByteArray.empty, 0, zMg⟩ w1 h
  have HK := hide (fun w1 => implKind x0 w1)
  have HTT := hide hT
  clear hO hT hM hH hx hs
  rw [hk] at HY HZ HOT HK
  clear hk
  generalize numB a = na at *
  generalize opTx ⟨1, na, ByteArray.empty, 0, zMg⟩ = TX at *
  generalize decide (0 ≤ kindB x0) = kn at *
  generalize roI s = RES at *
  go_enter Tryz.func6, Tryz.ntmps6
  go_wp2_with fail
  refine (unhide HW _ (below_one w _)).mono ?_
  rintro e w1 ⟨rfl, hc1, hgl, hb1⟩
  have HR1 := hide (blk_step (heap_alloc_new w _) hb1)
  have HB1 := hide ((below_one w _).trans (hb1.mono (by simp)))
  have c0 := hc1 0 (by simp)
  have c1 := hc1 1 (by simp)
  simp only [List.getElem_cons_zero, List.getElem_cons_succ, World.size_alloc] at c0 c1 hgl
  clear hc1 hb1 HW
  go_wp2_with (go_at_call 28; refine (unhide HK _).mono ?_; rintro e w' ⟨rfl, rfl⟩)
  go_region
  go_upto_region 4 with fail
  refine wp_at (fun V hV => ?_)
  have hbn : Below w1.heap.size w1 V := by rw [hV]; exact below_new w1 _
  have HM := hide (show V.heap[w1.heap.size]? = some (.cells #[.int .i64 1, .int .i64 0, .string ⟨#[]⟩, .int .i64 0, .int .i64 0, .int .i64 0, .int .i64 0, .int .i64 0, .int .i64 0, .string ⟨#[]⟩, .int .i64 0] 25 (0, 0)) by rw [hV]; exact heap_alloc_new w1 _)
  have HR := hide (blk_step (unhide HR1) hbn)
  have HB := hide ((unhide HB1).trans (hbn.mono (unhide HB1).size))
  have hgm : w1.heap.size < V.heap.size := blk_lt (unhide HM)
  have v1 : V.cell? ⟨w.heap.size + 1, 1, none⟩ = some (.string a) := (hbn.cell (p := ⟨w.heap.size + 1, 1, none⟩) hgl).trans c1
  clear hV hbn HR1 HB1 c0 c1
  go_upto_region 5 with fail
  have y1 := cell_regrown v1
  clear v1
  have HBG := hide (fun p : Regrown => (unhide HB).trans ((below_regrown V p.d p.os).mono (unhide HB).size))
  refine wp_region_anyG (by kernel_rfl) ?_
  show wpAnyG _ _ _ _ 9 (Array.replicate 9 false) _ _
  refine wpAnyG_pure 4 rfl (by kernel_rfl) (by kernel_rfl) (by kernel_rfl) (fun _ _ _ _ h => h) (fun K hK => ?_)
  go_simp
  first
    | (refine hK _ ?_; clear hK K)
    | (apply Exists.intro
       refine ⟨fun _ => rfl, hK _ ?_⟩
       clear hK K)
  refine wpAnyG_pure 5 rfl (by kernel_rfl) (by kernel_rfl) (by kernel_rfl) (fun _ _ _ _ h => h) (fun K hK => ?_)
  go_simp
  first
    | (refine hK _ ?_; clear hK K)
    | (apply Exists.intro
       refine ⟨fun _ => rfl, hK _ ?_⟩
       clear hK K)
  refine wpAnyG_mixE 7 ?_
  refine wpMixE_take 0 20 rfl (by kernel_rfl) (by kernel_rfl) (by kernel_rfl) (by kernel_rfl) (by kernel_rfl) (fun _ _ _ _ h => h) (fun K hK => ?_)
  go_simp
  first
    | (refine hK _ ?_; clear hK K)
    | (apply Exists.intro
       refine ⟨fun _ => ?_, hK _ ?_⟩
       (fail)
       clear hK K)
  refine wpMixE_take 1 20 rfl (by kernel_rfl) (by kernel_rfl) (by kernel_rfl) (by kernel_rfl) (by kernel_rfl) (fun _ _ _ _ h => h) (fun K hK => ?_)
  go_simp
  first
    | (refine hK _ ?_; clear hK K)
    | (apply Exists.intro
       refine ⟨fun _ => ?_, hK _ ?_⟩
       (fail)
       clear hK K)
  refine wpMixE_take 2 20 rfl (by kernel_rfl) (by kernel_rfl) (by kernel_rfl) (by kernel_rfl) (by kernel_rfl) (fun _ _ _ _ h => h) (fun K hK => ?_)
  go_simp
  first
    | (refine hK _ ?_; clear hK K)
    | (apply Exists.intro
       refine ⟨fun _ => ?_, hK _ ?_⟩
       (fail)
       clear hK K)
  refine wpMixE_take 3 20 rfl (by kernel_rfl) (by kernel_rfl) (by kernel_rfl) (by kernel_rfl) (by kernel_rfl) (fun _ _ _ _ h => h) (fun K hK => ?_)
  go_simp
  first
    | (refine hK _ ?_; clear hK K)
    | (apply Exists.intro
       refine ⟨fun _ => ?_, hK _ ?_⟩
       (exact unhide HNA _ (unhide HBG _))
       clear hK K)
  refine wpMixE_take 6 20 rfl (by kernel_rfl) (by kernel_rfl) (by kernel_rfl) (by kernel_rfl) (by kernel_rfl) (fun _ _ _ _ h => h) (fun K hK => ?_)
  go_simp
  first
    | (refine hK _ ?_; clear hK K)
    | (apply Exists.intro
       refine ⟨fun _ => ?_, hK _ ?_⟩
       (fail)
       clear hK K)
  refine wpMixE_leave (by kernel_rfl) (fun X hX => ?_)
  have HM2 := hide (blk_step (unhide HM) hX)
  have HR2 := hide (blk_step (unhide HR) hX)
  have HB2 := hide ((unhide HB).trans (hX.mono (unhide HB).size))
  have hgx := hX.size
  clear hX y1 HBG HM HR HB 
  obtain ⟨⟨g0, e1, g2⟩, g3, f1, g4⟩ := eleven_at (unhide HM2)
  clear g0 g2 g3 g4
  refine wpAny_one 7 rfl (by kernel_rfl) (by rfl) ?_
  go_simp
  refine wpAny_one 8 rfl (by kernel_rfl) (by rfl) ?_
  go_simp
  refine wpAny_done (by kernel_rfl) ?_
  go_simp
  go_upto_region 8 with fail
  refine wp_at (fun V2 hV2 => ?_)
  have HM := hide (show V2.heap[w1.heap.size]? = some (.cells #[.int .i64 1, .int .i64 na, .string ⟨#[]⟩, .int .i64 0, .int .i64 0, .int .i64 0, .int .i64 0, .int .i64 0, .int .i64 0, .string ⟨#[]⟩, .int .i64 0] 25 (0, 0)) by rw [hV2]; exact ro_set (unhide HM2) 1 _)
  have HR := hide (show V2.heap[w.heap.size]? = some (.cells #[.int .i64 0, .int .i64 0, .string ⟨#[]⟩, .int .i64 0, .int .i64 0, .int .i64 0, .int .i64 0, .int .i64 0, .int .i64 0, .string ⟨#[]⟩, .int .i64 0] 25 (0, 0)) by rw [hV2]; exact (Below.heap_setCell _ _ _ _ (by show w.heap.size ≠ w1.heap.size; omega)).trans (unhide HR2))
  have HB := hide (show Below w.heap.size w V2 by rw [hV2]; exact (unhide HB2).setCell (by show w.heap.size ≤ w1.heap.size; omega) _)
  clear e1 f1
  have hgm2 : w1.heap.size < V2.heap.size := blk_lt (unhide HM)
  clear hV2 HM2 HR2 HB2 hgx hgm 
  clear V X
  generalize V2 = V at *
  have hgm := hgm2
  clear hgm2
  have hzR := blk_lt (unhide HR)
  obtain ⟨⟨d0, d1, d2, d3, d4, d5, d6, d7, d8, d9, d10⟩, f0, f1, f2, f3, f4, f5, f6, f7, f8, f9, f10⟩ := eleven_at (unhide HR)
  obtain ⟨⟨q0, q1, q2, q3, q4, q5, q6, q7, q8, q9, q10⟩, _⟩ := eleven_at (unhide HM)
  cases kn
  case' false =>
    have hRes := hide (unhide HU (by simp))
    clear HU HY HZ HOT HM q0 q1 q2 q3 q4 q5 q6 q7 q8 q9 q10
    go_wp2_with fail
    refine bodyPost_atE (fun W' hW' => ?_)
    obtain ⟨⟨r0, r1, r2, r3, r4, r5, r6, r7, r8, r9, r10⟩, _⟩ := eleven_at (show W'.heap[w.heap.size]? = some (.cells #[.int .i64 0, .int .i64 0, .string ⟨#[]⟩, .int .i64 0, .int .i64 0, .int .i64 0, .int .i64 0, .int .i64 0, .int .i64 0, .string ⟨#[]⟩, .int .i64 0] 25 (0, 0)) by rw [hW']; exact eleven_set (unhide HR))
    have hbb : Below w.heap.size w W' := by rw [hW']; exact eleven_set_below (unhide HB) (Nat.le_refl _)
    exact bodyPost_ret (v := .tuple #[.agg #[.int .i64 0, .int .i64 0, .string ⟨#[]⟩, .int .i64 0, .int .i64 0, .int .i64 0, .int .i64 0, .int .i64 0, .int .i64 0, .string ⟨#[]⟩, .int .i64 0], .bool false]) (by simp [results, Tryz.results6, go_sem, r0, r1, r2, r3, r4, r5, r6, r7, r8, r9, r10]) rfl ⟨by rw [unhide hRes]; rfl, hbb⟩
  clear d0 d1 d2 d3 d4 d5 d6 d7 d8 d9 d10 f0 f1 f2 f3 f4 f5 f6 f7 f8 f9 f10
  go_wp2_with fail
  refine (unhide HOT _ ((unhide HTT).below (unhide HB))).mono ?_
  rintro e w7 ⟨rfl, hb7⟩
  have HR7 := hide (blk_step (unhide HR) hb7)
  have HM7 := hide (blk_step (unhide HM) hb7)
  have HB7 := hide ((unhide HB).trans (hb7.mono (unhide HB).size))
  clear hb7 HR HM HB q0 q1 q2 q3 q4 q5 q6 q7 q8 q9 q10 HOT hzR hgm
  have HR := HR7
  have HB := HB7
  clear HR7 HB7
  have hzR := blk_lt (unhide HR)
  have hzM := blk_lt (unhide HM7)
  obtain ⟨⟨d0, d1, d2, d3, d4, d5, d6, d7, d8, d9, d10⟩, f0, f1, f2, f3, f4, f5, f6, f7, f8, f9, f10⟩ := eleven_at (unhide HR)
  by_cases hp : TX = s
  case' neg =>
    have hRes := hide (unhide HZ ⟨by simp, hp⟩)
    have hq := str_ne hp
    clear HU HY HZ HM7 hp
    go_wp2_with fail
    refine bodyPost_atE (fun W' hW' => ?_)
    obtain ⟨⟨r0, r1, r2, r3, r4, r5, r6, r7, r8, r9, r10⟩, _⟩ := eleven_at (show W'.heap[w.heap.size]? = some (.cells #[.int .i64 0, .int .i64 0, .string ⟨#[]⟩, .int .i64 0, .int .i64 0, .int .i64 0, .int .i64 0, .int .i64 0, .int .i64 0, .string ⟨#[]⟩, .int .i64 0] 25 (0, 0)) by rw [hW']; exact eleven_set (unhide HR))
    have hbb : Below w.heap.size w W' := by rw [hW']; exact eleven_set_below (unhide HB) (Nat.le_refl _)
    exact bodyPost_ret (v := .tuple #[.agg #[.int .i64 0, .int .i64 0, .string ⟨#[]⟩, .int .i64 0, .int .i64 0, .int .i64 0, .int .i64 0, .int .i64 0, .int .i64 0, .string ⟨#[]⟩, .int .i64 0], .bool false]) (by simp [results, Tryz.results6, go_sem, r0, r1, r2, r3, r4, r5, r6, r7, r8, r9, r10]) rfl ⟨by rw [unhide hRes]; rfl, hbb⟩
  have hRes := hide (unhide HY ⟨by simp, hp⟩)
  have hq : (TX.toList == s.toList) = true := by rw [hp]; simp
  obtain ⟨⟨q0, q1, q2, q3, q4, q5, q6, q7, q8, q9, q10⟩, _⟩ := eleven_at (unhide HM7)
  clear HU HY HZ hp
  go_wp2_with fail
  refine bodyPost_atE (fun W' hW' => ?_)
  obtain ⟨⟨r0, r1, r2, r3, r4, r5, r6, r7, r8, r9, r10⟩, _⟩ := eleven_at (show W'.heap[w.heap.size]? = some (.cells #[.int .i64 1, .int .i64 na, .string ⟨#[]⟩, .int .i64 0, .int .i64 0, .int .i64 0, .int .i64 0, .int .i64 0, .int .i64 0, .string ⟨#[]⟩, .int .i64 0] 25 (0, 0)) by rw [hW']; exact eleven_set (unhide HR))
  have hbb : Below w.heap.size w W' := by rw [hW']; exact eleven_set_below (unhide HB) (Nat.le_refl _)
  exact bodyPost_ret (v := .tuple #[.agg #[.int .i64 1, .int .i64 na, .string ⟨#[]⟩, .int .i64 0, .int .i64 0, .int .i64 0, .int .i64 0, .int .i64 0, .int .i64 0, .string ⟨#[]⟩, .int .i64 0], .bool true]) (by simp [results, Tryz.results6, go_sem, r0, r1, r2, r3, r4, r5, r6, r7, r8, r9, r10]) rfl ⟨by rw [unhide hRes]; rfl, hbb⟩
set_option maxRecDepth 100000 in
set_option maxHeartbeats 4000000 in
theorem implReadOp_k1n3 (s x0 : ByteArray) (a : ByteArray) (b : ByteArray) (w : World) (hs : s.size ≤ 1048576) (hx : words s = [x0, a, b]) (hk : kI x0 = 1) (hM : MaxLenIs w) (hH : Handle w) (hT : Tens w) :
    Calls Tryz.prog 6 #[.string s] w fun e w' => e = .returned (.tuple #[opw (roI s).1, .bool (roI s).2]) ∧ Below w.heap.size w w' := by
  have hn : (words s).length = 3 := by rw [hx]; rfl
  have HW := hide (fun W (hb : Below w.heap.size w W) => wordsAt s 3 W hs (hM.below hb) hn)
  rw [hx] at HW
  have hzNA := words_size s a (by rw [hx]; simp)
  have HNA := hide (fun W (hb : Below w.heap.size w W) => implAmount a W (by unfold maxLen; omega) (hH.below hb) (hT.below hb))
  have hO : opI (kI x0) ([a, b]) = ⟨kI x0, numB a, ByteArray.empty, 0, zMg⟩ := by
    rw [hk]
    simp [opI]
  have HY := hide (fun h => roI_yes hx (r := [a, b]) h)
  have HZ := hide (fun h => roI_no hx (r := [a, b]) h)
  have HU := hide (fun h => roI_un hx (r := [a, b]) h)
  rw [hO] at HY HZ
  have HOT : Hid (∀ w1 : World, Tens w1 → Calls Tryz.prog 19 #[.agg #[.int .i64 (kI x0), .int .i64 (numB a), .string ⟨#[]⟩, .int .i64 0, .int .i64 0, .int .i64 0, .int .i64 0, .int .i64 0, .int .i64 0, .string ⟨#[]⟩, .int .i64 0]] w1 fun e w' => e = .returned (.string (opTx ⟨kI x0, numB a, ByteArray.empty, 0, zMg⟩)) ∧ Below w1.heap.size w1 w') := fun w1 h => implOpText ⟨kI x0, numB a, ByteArray.empty, 0, zMg⟩ w1 h
  have HK := hide (fun w1 => implKind x0 w1)
  have HTT := hide hT
  clear hO hT hM hH hx hs
  rw [hk] at HY HZ HOT HK
  clear hk
  generalize numB a = na at *
  generalize opTx ⟨1, na, ByteArray.empty, 0, zMg⟩ = TX at *
  generalize decide (0 ≤ kindB x0) = kn at *
  generalize roI s = RES at *
  go_enter Tryz.func6, Tryz.ntmps6
  go_wp2_with fail
  refine (unhide HW _ (below_one w _)).mono ?_
  rintro e w1 ⟨rfl, hc1, hgl, hb1⟩
  have HR1 := hide (blk_step (heap_alloc_new w _) hb1)
  have HB1 := hide ((below_one w _).trans (hb1.mono (by simp)))
  have c0 := hc1 0 (by simp)
  have c1 := hc1 1 (by simp)
  have c2 := hc1 2 (by simp)
  simp only [List.getElem_cons_zero, List.getElem_cons_succ, World.size_alloc] at c0 c1 c2 hgl
  clear hc1 hb1 HW
  go_wp2_with (go_at_call 28; refine (unhide HK _).mono ?_; rintro e w' ⟨rfl, rfl⟩)
  go_region
  go_upto_region 4 with fail
  refine wp_at (fun V hV => ?_)
  have hbn : Below w1.heap.size w1 V := by rw [hV]; exact below_new w1 _
  have HM := hide (show V.heap[w1.heap.size]? = some (.cells #[.int .i64 1, .int .i64 0, .string ⟨#[]⟩, .int .i64 0, .int .i64 0, .int .i64 0, .int .i64 0, .int .i64 0, .int .i64 0, .string ⟨#[]⟩, .int .i64 0] 25 (0, 0)) by rw [hV]; exact heap_alloc_new w1 _)
  have HR := hide (blk_step (unhide HR1) hbn)
  have HB := hide ((unhide HB1).trans (hbn.mono (unhide HB1).size))
  have hgm : w1.heap.size < V.heap.size := blk_lt (unhide HM)
  have v1 : V.cell? ⟨w.heap.size + 1, 1, none⟩ = some (.string a) := (hbn.cell (p := ⟨w.heap.size + 1, 1, none⟩) hgl).trans c1
  have v2 : V.cell? ⟨w.heap.size + 1, 2, none⟩ = some (.string b) := (hbn.cell (p := ⟨w.heap.size + 1, 2, none⟩) hgl).trans c2
  clear hV hbn HR1 HB1 c0 c1 c2
  go_upto_region 5 with fail
  have y1 := cell_regrown v1
  clear v1
  have HBG := hide (fun p : Regrown => (unhide HB).trans ((below_regrown V p.d p.os).mono (unhide HB).size))
  refine wp_region_anyG (by kernel_rfl) ?_
  show wpAnyG _ _ _ _ 9 (Array.replicate 9 false) _ _
  refine wpAnyG_pure 4 rfl (by kernel_rfl) (by kernel_rfl) (by kernel_rfl) (fun _ _ _ _ h => h) (fun K hK => ?_)
  go_simp
  first
    | (refine hK _ ?_; clear hK K)
    | (apply Exists.intro
       refine ⟨fun _ => rfl, hK _ ?_⟩
       clear hK K)
  refine wpAnyG_pure 5 rfl (by kernel_rfl) (by kernel_rfl) (by kernel_rfl) (fun _ _ _ _ h => h) (fun K hK => ?_)
  go_simp
  first
    | (refine hK _ ?_; clear hK K)
    | (apply Exists.intro
       refine ⟨fun _ => rfl, hK _ ?_⟩
       clear hK K)
  refine wpAnyG_mixE 7 ?_
  refine wpMixE_take 0 20 rfl (by kernel_rfl) (by kernel_rfl) (by kernel_rfl) (by kernel_rfl) (by kernel_rfl) (fun _ _ _ _ h => h) (fun K hK => ?_)
  go_simp
  first
    | (refine hK _ ?_; clear hK K)
    | (apply Exists.intro
       refine ⟨fun _ => ?_, hK _ ?_⟩
       (fail)
       clear hK K)
  refine wpMixE_take 1 20 rfl (by kernel_rfl) (by kernel_rfl) (by kernel_rfl) (by kernel_rfl) (by kernel_rfl) (fun _ _ _ _ h => h) (fun K hK => ?_)
  go_simp
  first
    | (refine hK _ ?_; clear hK K)
    | (apply Exists.intro
       refine ⟨fun _ => ?_, hK _ ?_⟩
       (fail)
       clear hK K)
  refine wpMixE_take 2 20 rfl (by kernel_rfl) (by kernel_rfl) (by kernel_rfl) (by kernel_rfl) (by kernel_rfl) (fun _ _ _ _ h => h) (fun K hK => ?_)
  go_simp
  first
    | (refine hK _ ?_; clear hK K)
    | (apply Exists.intro
       refine ⟨fun _ => ?_, hK _ ?_⟩
       (fail)
       clear hK K)
  refine wpMixE_take 3 20 rfl (by kernel_rfl) (by kernel_rfl) (by kernel_rfl) (by kernel_rfl) (by kernel_rfl) (fun _ _ _ _ h => h) (fun K hK => ?_)
  go_simp
  first
    | (refine hK _ ?_; clear hK K)
    | (apply Exists.intro
       refine ⟨fun _ => ?_, hK _ ?_⟩
       (exact unhide HNA _ (unhide HBG _))
       clear hK K)
  refine wpMixE_take 6 20 rfl (by kernel_rfl) (by kernel_rfl) (by kernel_rfl) (by kernel_rfl) (by kernel_rfl) (fun _ _ _ _ h => h) (fun K hK => ?_)
  go_simp
  first
    | (refine hK _ ?_; clear hK K)
    | (apply Exists.intro
       refine ⟨fun _ => ?_, hK _ ?_⟩
       (fail)
       clear hK K)
  refine wpMixE_leave (by kernel_rfl) (fun X hX => ?_)
  have HM2 := hide (blk_step (unhide HM) hX)
  have HR2 := hide (blk_step (unhide HR) hX)
  have HB2 := hide ((unhide HB).trans (hX.mono (unhide HB).size))
  have hgx := hX.size
  have x2 := (hX.cell (p := ⟨w.heap.size + 1, 2, none⟩) (show w.heap.size + 1 < V.heap.size by omega)).trans v2
  clear hX y1 HBG HM HR HB v2
  obtain ⟨⟨g0, e1, g2⟩, g3, f1, g4⟩ := eleven_at (unhide HM2)
  clear g0 g2 g3 g4
  refine wpAny_one 7 rfl (by kernel_rfl) (by rfl) ?_
  go_simp
  refine wpAny_one 8 rfl (by kernel_rfl) (by rfl) ?_
  go_simp
  refine wpAny_done (by kernel_rfl) ?_
  go_simp
  go_upto_region 8 with fail
  refine wp_at (fun V2 hV2 => ?_)
  have HM := hide (show V2.heap[w1.heap.size]? = some (.cells #[.int .i64 1, .int .i64 na, .string ⟨#[]⟩, .int .i64 0, .int .i64 0, .int .i64 0, .int .i64 0, .int .i64 0, .int .i64 0, .string ⟨#[]⟩, .int .i64 0] 25 (0, 0)) by rw [hV2]; exact ro_set (unhide HM2) 1 _)
  have HR := hide (show V2.heap[w.heap.size]? = some (.cells #[.int .i64 0, .int .i64 0, .string ⟨#[]⟩, .int .i64 0, .int .i64 0, .int .i64 0, .int .i64 0, .int .i64 0, .int .i64 0, .string ⟨#[]⟩, .int .i64 0] 25 (0, 0)) by rw [hV2]; exact (Below.heap_setCell _ _ _ _ (by show w.heap.size ≠ w1.heap.size; omega)).trans (unhide HR2))
  have HB := hide (show Below w.heap.size w V2 by rw [hV2]; exact (unhide HB2).setCell (by show w.heap.size ≤ w1.heap.size; omega) _)
  clear e1 f1
  have v2 : V2.cell? ⟨w.heap.size + 1, 2, none⟩ = some (.string b) := by rw [hV2]; exact (cell_other (by show w.heap.size + 1 ≠ w1.heap.size; omega)).trans x2
  have hgm2 : w1.heap.size < V2.heap.size := blk_lt (unhide HM)
  clear hV2 HM2 HR2 HB2 hgx hgm x2
  clear V X
  generalize V2 = V at *
  have hgm := hgm2
  clear hgm2
  have hzR := blk_lt (unhide HR)
  obtain ⟨⟨d0, d1, d2, d3, d4, d5, d6, d7, d8, d9, d10⟩, f0, f1, f2, f3, f4, f5, f6, f7, f8, f9, f10⟩ := eleven_at (unhide HR)
  obtain ⟨⟨q0, q1, q2, q3, q4, q5, q6, q7, q8, q9, q10⟩, _⟩ := eleven_at (unhide HM)
  cases kn
  case' false =>
    have hRes := hide (unhide HU (by simp))
    clear HU HY HZ HOT HM q0 q1 q2 q3 q4 q5 q6 q7 q8 q9 q10
    go_wp2_with fail
    refine bodyPost_atE (fun W' hW' => ?_)
    obtain ⟨⟨r0, r1, r2, r3, r4, r5, r6, r7, r8, r9, r10⟩, _⟩ := eleven_at (show W'.heap[w.heap.size]? = some (.cells #[.int .i64 0, .int .i64 0, .string ⟨#[]⟩, .int .i64 0, .int .i64 0, .int .i64 0, .int .i64 0, .int .i64 0, .int .i64 0, .string ⟨#[]⟩, .int .i64 0] 25 (0, 0)) by rw [hW']; exact eleven_set (unhide HR))
    have hbb : Below w.heap.size w W' := by rw [hW']; exact eleven_set_below (unhide HB) (Nat.le_refl _)
    exact bodyPost_ret (v := .tuple #[.agg #[.int .i64 0, .int .i64 0, .string ⟨#[]⟩, .int .i64 0, .int .i64 0, .int .i64 0, .int .i64 0, .int .i64 0, .int .i64 0, .string ⟨#[]⟩, .int .i64 0], .bool false]) (by simp [results, Tryz.results6, go_sem, r0, r1, r2, r3, r4, r5, r6, r7, r8, r9, r10]) rfl ⟨by rw [unhide hRes]; rfl, hbb⟩
  clear d0 d1 d2 d3 d4 d5 d6 d7 d8 d9 d10 f0 f1 f2 f3 f4 f5 f6 f7 f8 f9 f10
  go_wp2_with fail
  refine (unhide HOT _ ((unhide HTT).below (unhide HB))).mono ?_
  rintro e w7 ⟨rfl, hb7⟩
  have HR7 := hide (blk_step (unhide HR) hb7)
  have HM7 := hide (blk_step (unhide HM) hb7)
  have HB7 := hide ((unhide HB).trans (hb7.mono (unhide HB).size))
  clear hb7 HR HM HB q0 q1 q2 q3 q4 q5 q6 q7 q8 q9 q10 HOT hzR hgm
  have HR := HR7
  have HB := HB7
  clear HR7 HB7
  have hzR := blk_lt (unhide HR)
  have hzM := blk_lt (unhide HM7)
  obtain ⟨⟨d0, d1, d2, d3, d4, d5, d6, d7, d8, d9, d10⟩, f0, f1, f2, f3, f4, f5, f6, f7, f8, f9, f10⟩ := eleven_at (unhide HR)
  by_cases hp : TX = s
  case' neg =>
    have hRes := hide (unhide HZ ⟨by simp, hp⟩)
    have hq := str_ne hp
    clear HU HY HZ HM7 hp
    go_wp2_with fail
    refine bodyPost_atE (fun W' hW' => ?_)
    obtain ⟨⟨r0, r1, r2, r3, r4, r5, r6, r7, r8, r9, r10⟩, _⟩ := eleven_at (show W'.heap[w.heap.size]? = some (.cells #[.int .i64 0, .int .i64 0, .string ⟨#[]⟩, .int .i64 0, .int .i64 0, .int .i64 0, .int .i64 0, .int .i64 0, .int .i64 0, .string ⟨#[]⟩, .int .i64 0] 25 (0, 0)) by rw [hW']; exact eleven_set (unhide HR))
    have hbb : Below w.heap.size w W' := by rw [hW']; exact eleven_set_below (unhide HB) (Nat.le_refl _)
    exact bodyPost_ret (v := .tuple #[.agg #[.int .i64 0, .int .i64 0, .string ⟨#[]⟩, .int .i64 0, .int .i64 0, .int .i64 0, .int .i64 0, .int .i64 0, .int .i64 0, .string ⟨#[]⟩, .int .i64 0], .bool false]) (by simp [results, Tryz.results6, go_sem, r0, r1, r2, r3, r4, r5, r6, r7, r8, r9, r10]) rfl ⟨by rw [unhide hRes]; rfl, hbb⟩
  have hRes := hide (unhide HY ⟨by simp, hp⟩)
  have hq : (TX.toList == s.toList) = true := by rw [hp]; simp
  obtain ⟨⟨q0, q1, q2, q3, q4, q5, q6, q7, q8, q9, q10⟩, _⟩ := eleven_at (unhide HM7)
  clear HU HY HZ hp
  go_wp2_with fail
  refine bodyPost_atE (fun W' hW' => ?_)
  obtain ⟨⟨r0, r1, r2, r3, r4, r5, r6, r7, r8, r9, r10⟩, _⟩ := eleven_at (show W'.heap[w.heap.size]? = some (.cells #[.int .i64 1, .int .i64 na, .string ⟨#[]⟩, .int .i64 0, .int .i64 0, .int .i64 0, .int .i64 0, .int .i64 0, .int .i64 0, .string ⟨#[]⟩, .int .i64 0] 25 (0, 0)) by rw [hW']; exact eleven_set (unhide HR))
  have hbb : Below w.heap.size w W' := by rw [hW']; exact eleven_set_below (unhide HB) (Nat.le_refl _)
  exact bodyPost_ret (v := .tuple #[.agg #[.int .i64 1, .int .i64 na, .string ⟨#[]⟩, .int .i64 0, .int .i64 0, .int .i64 0, .int .i64 0, .int .i64 0, .int .i64 0, .string ⟨#[]⟩, .int .i64 0], .bool true]) (by simp [results, Tryz.results6, go_sem, r0, r1, r2, r3, r4, r5, r6, r7, r8, r9, r10]) rfl ⟨by rw [unhide hRes]; rfl, hbb⟩
set_option maxRecDepth 100000 in
set_option maxHeartbeats 4000000 in
theorem implReadOp_k1n4 (s x0 : ByteArray) (a : ByteArray) (b : ByteArray) (c : ByteArray) (w : World) (hs : s.size ≤ 1048576) (hx : words s = [x0, a, b, c]) (hk : kI x0 = 1) (hM : MaxLenIs w) (hH : Handle w) (hT : Tens w) :
    Calls Tryz.prog 6 #[.string s] w fun e w' => e = .returned (.tuple #[opw (roI s).1, .bool (roI s).2]) ∧ Below w.heap.size w w' := by
  have hn : (words s).length = 4 := by rw [hx]; rfl
  have HW := hide (fun W (hb : Below w.heap.size w W) => wordsAt s 4 W hs (hM.below hb) hn)
  rw [hx] at HW
  have hzNA := words_size s a (by rw [hx]; simp)
  have HNA := hide (fun W (hb : Below w.heap.size w W) => implAmount a W (by unfold maxLen; omega) (hH.below hb) (hT.below hb))
  have hzNB := words_size s c (by rw [hx]; simp)
  have HNB := hide (fun W (hb : Below w.heap.size w W) => implAmount c W (by unfold maxLen; omega) (hH.below hb) (hT.below hb))
  have hO : opI (kI x0) ([a, b, c]) = ⟨kI x0, numB a, b, numB c, zMg⟩ := by
    rw [hk]
    simp [opI]
  have HY := hide (fun h => roI_yes hx (r := [a, b, c]) h)
  have HZ := hide (fun h => roI_no hx (r := [a, b, c]) h)
  have HU := hide (fun h => roI_un hx (r := [a, b, c]) h)
  rw [hO] at HY HZ
  have HOT : Hid (∀ w1 : World, Tens w1 → Calls Tryz.prog 19 #[.agg #[.int .i64 (kI x0), .int .i64 (numB a), .string b, .int .i64 (numB c), .int .i64 0, .int .i64 0, .int .i64 0, .int .i64 0, .int .i64 0, .string ⟨#[]⟩, .int .i64 0]] w1 fun e w' => e = .returned (.string (opTx ⟨kI x0, numB a, b, numB c, zMg⟩)) ∧ Below w1.heap.size w1 w') := fun w1 h => implOpText ⟨kI x0, numB a, b, numB c, zMg⟩ w1 h
  have HK := hide (fun w1 => implKind x0 w1)
  have HTT := hide hT
  clear hO hT hM hH hx hs
  rw [hk] at HY HZ HOT HK
  clear hk
  generalize numB a = na at *
  generalize numB c = nb at *
  generalize opTx ⟨1, na, b, nb, zMg⟩ = TX at *
  generalize decide (0 ≤ kindB x0) = kn at *
  generalize roI s = RES at *
  go_enter Tryz.func6, Tryz.ntmps6
  go_wp2_with fail
  refine (unhide HW _ (below_one w _)).mono ?_
  rintro e w1 ⟨rfl, hc1, hgl, hb1⟩
  have HR1 := hide (blk_step (heap_alloc_new w _) hb1)
  have HB1 := hide ((below_one w _).trans (hb1.mono (by simp)))
  have c0 := hc1 0 (by simp)
  have c1 := hc1 1 (by simp)
  have c2 := hc1 2 (by simp)
  have c3 := hc1 3 (by simp)
  simp only [List.getElem_cons_zero, List.getElem_cons_succ, World.size_alloc] at c0 c1 c2 c3 hgl
  clear hc1 hb1 HW
  go_wp2_with (go_at_call 28; refine (unhide HK _).mono ?_; rintro e w' ⟨rfl, rfl⟩)
  go_region
  go_upto_region 4 with fail
  refine wp_at (fun V hV => ?_)
  have hbn : Below w1.heap.size w1 V := by rw [hV]; exact below_new w1 _
  have HM := hide (show V.heap[w1.heap.size]? = some (.cells #[.int .i64 1, .int .i64 0, .string ⟨#[]⟩, .int .i64 0, .int .i64 0, .int .i64 0, .int .i64 0, .int .i64 0, .int .i64 0, .string ⟨#[]⟩, .int .i64 0] 25 (0, 0)) by rw [hV]; exact heap_alloc_new w1 _)
  have HR := hide (blk_step (unhide HR1) hbn)
  have HB := hide ((unhide HB1).trans (hbn.mono (unhide HB1).size))
  have hgm : w1.heap.size < V.heap.size := blk_lt (unhide HM)
  have v1 : V.cell? ⟨w.heap.size + 1, 1, none⟩ = some (.string a) := (hbn.cell (p := ⟨w.heap.size + 1, 1, none⟩) hgl).trans c1
  have v2 : V.cell? ⟨w.heap.size + 1, 2, none⟩ = some (.string b) := (hbn.cell (p := ⟨w.heap.size + 1, 2, none⟩) hgl).trans c2
  have v3 : V.cell? ⟨w.heap.size + 1, 3, none⟩ = some (.string c) := (hbn.cell (p := ⟨w.heap.size + 1, 3, none⟩) hgl).trans c3
  clear hV hbn HR1 HB1 c0 c1 c2 c3
  go_upto_region 5 with fail
  have y1 := cell_regrown v1
  clear v1
  have HBG := hide (fun p : Regrown => (unhide HB).trans ((below_regrown V p.d p.os).mono (unhide HB).size))
  refine wp_region_anyG (by kernel_rfl) ?_
  show wpAnyG _ _ _ _ 9 (Array.replicate 9 false) _ _
  refine wpAnyG_pure 4 rfl (by kernel_rfl) (by kernel_rfl) (by kernel_rfl) (fun _ _ _ _ h => h) (fun K hK => ?_)
  go_simp
  first
    | (refine hK _ ?_; clear hK K)
    | (apply Exists.intro
       refine ⟨fun _ => rfl, hK _ ?_⟩
       clear hK K)
  refine wpAnyG_pure 5 rfl (by kernel_rfl) (by kernel_rfl) (by kernel_rfl) (fun _ _ _ _ h => h) (fun K hK => ?_)
  go_simp
  first
    | (refine hK _ ?_; clear hK K)
    | (apply Exists.intro
       refine ⟨fun _ => rfl, hK _ ?_⟩
       clear hK K)
  refine wpAnyG_mixE 7 ?_
  refine wpMixE_take 0 20 rfl (by kernel_rfl) (by kernel_rfl) (by kernel_rfl) (by kernel_rfl) (by kernel_rfl) (fun _ _ _ _ h => h) (fun K hK => ?_)
  go_simp
  first
    | (refine hK _ ?_; clear hK K)
    | (apply Exists.intro
       refine ⟨fun _ => ?_, hK _ ?_⟩
       (fail)
       clear hK K)
  refine wpMixE_take 1 20 rfl (by kernel_rfl) (by kernel_rfl) (by kernel_rfl) (by kernel_rfl) (by kernel_rfl) (fun _ _ _ _ h => h) (fun K hK => ?_)
  go_simp
  first
    | (refine hK _ ?_; clear hK K)
    | (apply Exists.intro
       refine ⟨fun _ => ?_, hK _ ?_⟩
       (fail)
       clear hK K)
  refine wpMixE_take 2 20 rfl (by kernel_rfl) (by kernel_rfl) (by kernel_rfl) (by kernel_rfl) (by kernel_rfl) (fun _ _ _ _ h => h) (fun K hK => ?_)
  go_simp
  first
    | (refine hK _ ?_; clear hK K)
    | (apply Exists.intro
       refine ⟨fun _ => ?_, hK _ ?_⟩
       (fail)
       clear hK K)
  refine wpMixE_take 3 20 rfl (by kernel_rfl) (by kernel_rfl) (by kernel_rfl) (by kernel_rfl) (by kernel_rfl) (fun _ _ _ _ h => h) (fun K hK => ?_)
  go_simp
  first
    | (refine hK _ ?_; clear hK K)
    | (apply Exists.intro
       refine ⟨fun _ => ?_, hK _ ?_⟩
       (exact unhide HNA _ (unhide HBG _))
       clear hK K)
  refine wpMixE_take 6 20 rfl (by kernel_rfl) (by kernel_rfl) (by kernel_rfl) (by kernel_rfl) (by kernel_rfl) (fun _ _ _ _ h => h) (fun K hK => ?_)
  go_simp
  first
    | (refine hK _ ?_; clear hK K)
    | (apply Exists.intro
       refine ⟨fun _ => ?_, hK _ ?_⟩
       (fail)
       clear hK K)
  refine wpMixE_leave (by kernel_rfl) (fun X hX => ?_)
  have HM2 := hide (blk_step (unhide HM) hX)
  have HR2 := hide (blk_step (unhide HR) hX)
  have HB2 := hide ((unhide HB).trans (hX.mono (unhide HB).size))
  have hgx := hX.size
  have x2 := (hX.cell (p := ⟨w.heap.size + 1, 2, none⟩) (show w.heap.size + 1 < V.heap.size by omega)).trans v2
  have x3 := (hX.cell (p := ⟨w.heap.size + 1, 3, none⟩) (show w.heap.size + 1 < V.heap.size by omega)).trans v3
  clear hX y1 HBG HM HR HB v2 v3
  obtain ⟨⟨g0, e1, g2⟩, g3, f1, g4⟩ := eleven_at (unhide HM2)
  clear g0 g2 g3 g4
  refine wpAny_one 7 rfl (by kernel_rfl) (by rfl) ?_
  go_simp
  refine wpAny_one 8 rfl (by kernel_rfl) (by rfl) ?_
  go_simp
  refine wpAny_done (by kernel_rfl) ?_
  go_simp
  go_upto_region 7 with fail
  refine wp_at (fun V2 hV2 => ?_)
  have HM := hide (show V2.heap[w1.heap.size]? = some (.cells #[.int .i64 1, .int .i64 na, .string ⟨#[]⟩, .int .i64 0, .int .i64 0, .int .i64 0, .int .i64 0, .int .i64 0, .int .i64 0, .string ⟨#[]⟩, .int .i64 0] 25 (0, 0)) by rw [hV2]; exact ro_set (unhide HM2) 1 _)
  have HR := hide (show V2.heap[w.heap.size]? = some (.cells #[.int .i64 0, .int .i64 0, .string ⟨#[]⟩, .int .i64 0, .int .i64 0, .int .i64 0, .int .i64 0, .int .i64 0, .int .i64 0, .string ⟨#[]⟩, .int .i64 0] 25 (0, 0)) by rw [hV2]; exact (Below.heap_setCell _ _ _ _ (by show w.heap.size ≠ w1.heap.size; omega)).trans (unhide HR2))
  have HB := hide (show Below w.heap.size w V2 by rw [hV2]; exact (unhide HB2).setCell (by show w.heap.size ≤ w1.heap.size; omega) _)
  clear e1 f1
  have v2 : V2.cell? ⟨w.heap.size + 1, 2, none⟩ = some (.string b) := by rw [hV2]; exact (cell_other (by show w.heap.size + 1 ≠ w1.heap.size; omega)).trans x2
  have v3 : V2.cell? ⟨w.heap.size + 1, 3, none⟩ = some (.string c) := by rw [hV2]; exact (cell_other (by show w.heap.size + 1 ≠ w1.heap.size; omega)).trans x3
  have hgm2 : w1.heap.size < V2.heap.size := blk_lt (unhide HM)
  clear hV2 HM2 HR2 HB2 hgx hgm x2 x3
  clear V X
  generalize V2 = V at *
  have hgm := hgm2
  clear hgm2
  have y1 := cell_regrown v2
  have y2 := cell_regrown v3
  clear v2 v3
  have HBG := hide (fun p : Regrown => (unhide HB).trans ((below_regrown V p.d p.os).mono (unhide HB).size))
  refine wp_region_mixE 8 (by kernel_rfl) ?_
  show wpMixE _ _ _ _ _ 11 (Array.replicate 11 false) _ _
  refine wpMixE_take 0 20 rfl (by kernel_rfl) (by kernel_rfl) (by kernel_rfl) (by kernel_rfl) (by kernel_rfl) (fun _ _ _ _ h => h) (fun K hK => ?_)
  go_simp
  first
    | (refine hK _ ?_; clear hK K)
    | (apply Exists.intro
       refine ⟨fun _ => ?_, hK _ ?_⟩
       (fail)
       clear hK K)
  refine wpMixE_take 1 20 rfl (by kernel_rfl) (by kernel_rfl) (by kernel_rfl) (by kernel_rfl) (by kernel_rfl) (fun _ _ _ _ h => h) (fun K hK => ?_)
  go_simp
  first
    | (refine hK _ ?_; clear hK K)
    | (apply Exists.intro
       refine ⟨fun _ => ?_, hK _ ?_⟩
       (fail)
       clear hK K)
  refine wpMixE_take 2 20 rfl (by kernel_rfl) (by kernel_rfl) (by kernel_rfl) (by kernel_rfl) (by kernel_rfl) (fun _ _ _ _ h => h) (fun K hK => ?_)
  go_simp
  first
    | (refine hK _ ?_; clear hK K)
    | (apply Exists.intro
       refine ⟨fun _ => ?_, hK _ ?_⟩
       (fail)
       clear hK K)
  refine wpMixE_take 3 20 rfl (by kernel_rfl) (by kernel_rfl) (by kernel_rfl) (by kernel_rfl) (by kernel_rfl) (fun _ _ _ _ h => h) (fun K hK => ?_)
  go_simp
  first
    | (refine hK _ ?_; clear hK K)
    | (apply Exists.intro
       refine ⟨fun _ => ?_, hK _ ?_⟩
       (fail)
       clear hK K)
  refine wpMixE_take 4 20 rfl (by kernel_rfl) (by kernel_rfl) (by kernel_rfl) (by kernel_rfl) (by kernel_rfl) (fun _ _ _ _ h => h) (fun K hK => ?_)
  go_simp
  first
    | (refine hK _ ?_; clear hK K)
    | (apply Exists.intro
       refine ⟨fun _ => ?_, hK _ ?_⟩
       (fail)
       clear hK K)
  refine wpMixE_take 5 20 rfl (by kernel_rfl) (by kernel_rfl) (by kernel_rfl) (by kernel_rfl) (by kernel_rfl) (fun _ _ _ _ h => h) (fun K hK => ?_)
  go_simp
  first
    | (refine hK _ ?_; clear hK K)
    | (apply Exists.intro
       refine ⟨fun _ => ?_, hK _ ?_⟩
       (fail)
       clear hK K)
  refine wpMixE_take 6 20 rfl (by kernel_rfl) (by kernel_rfl) (by kernel_rfl) (by kernel_rfl) (by kernel_rfl) (fun _ _ _ _ h => h) (fun K hK => ?_)
  go_simp
  first
    | (refine hK _ ?_; clear hK K)
    | (apply Exists.intro
       refine ⟨fun _ => ?_, hK _ ?_⟩
       (exact unhide HNB _ (unhide HBG _))
       clear hK K)
  refine wpMixE_take 7 20 rfl (by kernel_rfl) (by kernel_rfl) (by kernel_rfl) (by kernel_rfl) (by kernel_rfl) (fun _ _ _ _ h => h) (fun K hK => ?_)
  go_simp
  first
    | (refine hK _ ?_; clear hK K)
    | (apply Exists.intro
       refine ⟨fun _ => ?_, hK _ ?_⟩
       (fail)
       clear hK K)
  refine wpMixE_leave (by kernel_rfl) (fun X hX => ?_)
  have HM2 := hide (blk_step (unhide HM) hX)
  have HR2 := hide (blk_step (unhide HR) hX)
  have HB2 := hide ((unhide HB).trans (hX.mono (unhide HB).size))
  have hgx := hX.size
  clear hX y1 y2 HBG HM HR HB
  obtain ⟨⟨g0, g1, e2, e3, g2⟩, g3, g5, f2, f3, g4⟩ := eleven_at (unhide HM2)
  clear g0 g1 g2 g3 g4 g5
  refine wpAny_one 8 rfl (by kernel_rfl) (by rfl) ?_
  go_simp
  refine wpAny_one 9 rfl (by kernel_rfl) (by rfl) ?_
  go_simp
  refine wpAny_one 10 rfl (by kernel_rfl) (by rfl) ?_
  go_simp
  refine wpAny_done (by kernel_rfl) ?_
  go_simp
  go_upto_region 8 with fail
  refine wp_at (fun V2 hV2 => ?_)
  have HM := hide (show V2.heap[w1.heap.size]? = some (.cells #[.int .i64 1, .int .i64 na, .string b, .int .i64 nb, .int .i64 0, .int .i64 0, .int .i64 0, .int .i64 0, .int .i64 0, .string ⟨#[]⟩, .int .i64 0] 25 (0, 0)) by rw [hV2]; exact ro_set (ro_set (unhide HM2) 2 _) 3 _)
  have HR := hide (show V2.heap[w.heap.size]? = some (.cells #[.int .i64 0, .int .i64 0, .string ⟨#[]⟩, .int .i64 0, .int .i64 0, .int .i64 0, .int .i64 0, .int .i64 0, .int .i64 0, .string ⟨#[]⟩, .int .i64 0] 25 (0, 0)) by rw [hV2]; exact (Below.heap_setCell _ _ _ _ (by show w.heap.size ≠ w1.heap.size; omega)).trans ((Below.heap_setCell _ _ _ _ (by show w.heap.size ≠ w1.heap.size; omega)).trans (unhide HR2)))
  have HB := hide (show Below w.heap.size w V2 by rw [hV2]; exact ((unhide HB2).setCell (by show w.heap.size ≤ w1.heap.size; omega) _).setCell (by show w.heap.size ≤ w1.heap.size; omega) _)
  have hgm2 : w1.heap.size < V2.heap.size := blk_lt (unhide HM)
  clear hV2 HM2 HR2 HB2 hgx hgm e2 e3 f2 f3
  clear V X
  generalize V2 = V at *
  have hgm := hgm2
  clear hgm2
  have hzR := blk_lt (unhide HR)
  obtain ⟨⟨d0, d1, d2, d3, d4, d5, d6, d7, d8, d9, d10⟩, f0, f1, f2, f3, f4, f5, f6, f7, f8, f9, f10⟩ := eleven_at (unhide HR)
  obtain ⟨⟨q0, q1, q2, q3, q4, q5, q6, q7, q8, q9, q10⟩, _⟩ := eleven_at (unhide HM)
  cases kn
  case' false =>
    have hRes := hide (unhide HU (by simp))
    clear HU HY HZ HOT HM q0 q1 q2 q3 q4 q5 q6 q7 q8 q9 q10
    go_wp2_with fail
    refine bodyPost_atE (fun W' hW' => ?_)
    obtain ⟨⟨r0, r1, r2, r3, r4, r5, r6, r7, r8, r9, r10⟩, _⟩ := eleven_at (show W'.heap[w.heap.size]? = some (.cells #[.int .i64 0, .int .i64 0, .string ⟨#[]⟩, .int .i64 0, .int .i64 0, .int .i64 0, .int .i64 0, .int .i64 0, .int .i64 0, .string ⟨#[]⟩, .int .i64 0] 25 (0, 0)) by rw [hW']; exact eleven_set (unhide HR))
    have hbb : Below w.heap.size w W' := by rw [hW']; exact eleven_set_below (unhide HB) (Nat.le_refl _)
    exact bodyPost_ret (v := .tuple #[.agg #[.int .i64 0, .int .i64 0, .string ⟨#[]⟩, .int .i64 0, .int .i64 0, .int .i64 0, .int .i64 0, .int .i64 0, .int .i64 0, .string ⟨#[]⟩, .int .i64 0], .bool false]) (by simp [results, Tryz.results6, go_sem, r0, r1, r2, r3, r4, r5, r6, r7, r8, r9, r10]) rfl ⟨by rw [unhide hRes]; rfl, hbb⟩
  clear d0 d1 d2 d3 d4 d5 d6 d7 d8 d9 d10 f0 f1 f2 f3 f4 f5 f6 f7 f8 f9 f10
  go_wp2_with fail
  refine (unhide HOT _ ((unhide HTT).below (unhide HB))).mono ?_
  rintro e w7 ⟨rfl, hb7⟩
  have HR7 := hide (blk_step (unhide HR) hb7)
  have HM7 := hide (blk_step (unhide HM) hb7)
  have HB7 := hide ((unhide HB).trans (hb7.mono (unhide HB).size))
  clear hb7 HR HM HB q0 q1 q2 q3 q4 q5 q6 q7 q8 q9 q10 HOT hzR hgm
  have HR := HR7
  have HB := HB7
  clear HR7 HB7
  have hzR := blk_lt (unhide HR)
  have hzM := blk_lt (unhide HM7)
  obtain ⟨⟨d0, d1, d2, d3, d4, d5, d6, d7, d8, d9, d10⟩, f0, f1, f2, f3, f4, f5, f6, f7, f8, f9, f10⟩ := eleven_at (unhide HR)
  by_cases hp : TX = s
  case' neg =>
    have hRes := hide (unhide HZ ⟨by simp, hp⟩)
    have hq := str_ne hp
    clear HU HY HZ HM7 hp
    go_wp2_with fail
    refine bodyPost_atE (fun W' hW' => ?_)
    obtain ⟨⟨r0, r1, r2, r3, r4, r5, r6, r7, r8, r9, r10⟩, _⟩ := eleven_at (show W'.heap[w.heap.size]? = some (.cells #[.int .i64 0, .int .i64 0, .string ⟨#[]⟩, .int .i64 0, .int .i64 0, .int .i64 0, .int .i64 0, .int .i64 0, .int .i64 0, .string ⟨#[]⟩, .int .i64 0] 25 (0, 0)) by rw [hW']; exact eleven_set (unhide HR))
    have hbb : Below w.heap.size w W' := by rw [hW']; exact eleven_set_below (unhide HB) (Nat.le_refl _)
    exact bodyPost_ret (v := .tuple #[.agg #[.int .i64 0, .int .i64 0, .string ⟨#[]⟩, .int .i64 0, .int .i64 0, .int .i64 0, .int .i64 0, .int .i64 0, .int .i64 0, .string ⟨#[]⟩, .int .i64 0], .bool false]) (by simp [results, Tryz.results6, go_sem, r0, r1, r2, r3, r4, r5, r6, r7, r8, r9, r10]) rfl ⟨by rw [unhide hRes]; rfl, hbb⟩
  have hRes := hide (unhide HY ⟨by simp, hp⟩)
  have hq : (TX.toList == s.toList) = true := by rw [hp]; simp
  obtain ⟨⟨q0, q1, q2, q3, q4, q5, q6, q7, q8, q9, q10⟩, _⟩ := eleven_at (unhide HM7)
  clear HU HY HZ hp
  go_wp2_with fail
  refine bodyPost_atE (fun W' hW' => ?_)
  obtain ⟨⟨r0, r1, r2, r3, r4, r5, r6, r7, r8, r9, r10⟩, _⟩ := eleven_at (show W'.heap[w.heap.size]? = some (.cells #[.int .i64 1, .int .i64 na, .string b, .int .i64 nb, .int .i64 0, .int .i64 0, .int .i64 0, .int .i64 0, .int .i64 0, .string ⟨#[]⟩, .int .i64 0] 25 (0, 0)) by rw [hW']; exact eleven_set (unhide HR))
  have hbb : Below w.heap.size w W' := by rw [hW']; exact eleven_set_below (unhide HB) (Nat.le_refl _)
  exact bodyPost_ret (v := .tuple #[.agg #[.int .i64 1, .int .i64 na, .string b, .int .i64 nb, .int .i64 0, .int .i64 0, .int .i64 0, .int .i64 0, .int .i64 0, .string ⟨#[]⟩, .int .i64 0], .bool true]) (by simp [results, Tryz.results6, go_sem, r0, r1, r2, r3, r4, r5, r6, r7, r8, r9, r10]) rfl ⟨by rw [unhide hRes]; rfl, hbb⟩
set_option maxRecDepth 100000 in
set_option maxHeartbeats 4000000 in
theorem implReadOp_k1n5 (s x0 : ByteArray) (a : ByteArray) (b : ByteArray) (c : ByteArray) (d : ByteArray) (t : List ByteArray) (w : World) (hs : s.size ≤ 1048576) (hx : words s = x0 :: a :: b :: c :: d :: t) (hk : kI x0 = 1) (hM : MaxLenIs w) (hH : Handle w) (hT : Tens w) :
    Calls Tryz.prog 6 #[.string s] w fun e w' => e = .returned (.tuple #[opw (roI s).1, .bool (roI s).2]) ∧ Below w.heap.size w w' := by
  obtain ⟨n, hn⟩ : ∃ n, (words s).length = n := ⟨_, rfl⟩
  have hn5 : 5 ≤ n := by rw [← hn, hx]; simp
  have hnm : n ≤ 1048577 := by rw [← hn]; exact words_max s hs
  have hi1 : (1 : Int) ≤ ((n - 1 : Nat) : Int) := by omega
  have hi2 : ¬ n = 2 := by omega
  have HW := hide (fun W (hb : Below w.heap.size w W) => wordsAt s n W hs (hM.below hb) hn)
  rw [hx] at HW
  have hzNA := words_size s a (by rw [hx]; simp)
  have HNA := hide (fun W (hb : Below w.heap.size w W) => implAmount a W (by unfold maxLen; omega) (hH.below hb) (hT.below hb))
  have hO : opI (kI x0) (a :: b :: c :: d :: t) = ⟨kI x0, numB a, ByteArray.empty, 0, zMg⟩ := by
    rw [hk]
    simp [opI]
  have HY := hide (fun h => roI_yes hx (r := a :: b :: c :: d :: t) h)
  have HZ := hide (fun h => roI_no hx (r := a :: b :: c :: d :: t) h)
  have HU := hide (fun h => roI_un hx (r := a :: b :: c :: d :: t) h)
  rw [hO] at HY HZ
  have HOT : Hid (∀ w1 : World, Tens w1 → Calls Tryz.prog 19 #[.agg #[.int .i64 (kI x0), .int .i64 (numB a), .string ⟨#[]⟩, .int .i64 0, .int .i64 0, .int .i64 0, .int .i64 0, .int .i64 0, .int .i64 0, .string ⟨#[]⟩, .int .i64 0]] w1 fun e w' => e = .returned (.string (opTx ⟨kI x0, numB a, ByteArray.empty, 0, zMg⟩)) ∧ Below w1.heap.size w1 w') := fun w1 h => implOpText ⟨kI x0, numB a, ByteArray.empty, 0, zMg⟩ w1 h
  have HK := hide (fun w1 => implKind x0 w1)
  have HTT := hide hT
  clear hO hT hM hH hx hs
  rw [hk] at HY HZ HOT HK
  clear hk
  generalize numB a = na at *
  generalize opTx ⟨1, na, ByteArray.empty, 0, zMg⟩ = TX at *
  generalize decide (0 ≤ kindB x0) = kn at *
  generalize roI s = RES at *
  go_enter Tryz.func6, Tryz.ntmps6
  go_wp2_with fail
  refine (unhide HW _ (below_one w _)).mono ?_
  rintro e w1 ⟨rfl, hc1, hgl, hb1⟩
  have HR1 := hide (blk_step (heap_alloc_new w _) hb1)
  have HB1 := hide ((below_one w _).trans (hb1.mono (by simp)))
  have c0 := hc1 0 (by simp)
  have c1 := hc1 1 (by simp)
  have c2 := hc1 2 (by simp)
  have c3 := hc1 3 (by simp)
  have c4 := hc1 4 (by simp)
  simp only [List.getElem_cons_zero, List.getElem_cons_succ, World.size_alloc] at c0 c1 c2 c3 c4 hgl
  clear hc1 hb1 HW
  go_wp2_with (go_at_call 28; refine (unhide HK _).mono ?_; rintro e w' ⟨rfl, rfl⟩)
  go_region
  go_upto_region 4 with fail
  refine wp_at (fun V hV => ?_)
  have hbn : Below w1.heap.size w1 V := by rw [hV]; exact below_new w1 _
  have HM := hide (show V.heap[w1.heap.size]? = some (.cells #[.int .i64 1, .int .i64 0, .string ⟨#[]⟩, .int .i64 0, .int .i64 0, .int .i64 0, .int .i64 0, .int .i64 0, .int .i64 0, .string ⟨#[]⟩, .int .i64 0] 25 (0, 0)) by rw [hV]; exact heap_alloc_new w1 _)
  have HR := hide (blk_step (unhide HR1) hbn)
  have HB := hide ((unhide HB1).trans (hbn.mono (unhide HB1).size))
  have hgm : w1.heap.size < V.heap.size := blk_lt (unhide HM)
  have v1 : V.cell? ⟨w.heap.size + 1, 1, none⟩ = some (.string a) := (hbn.cell (p := ⟨w.heap.size + 1, 1, none⟩) hgl).trans c1
  have v2 : V.cell? ⟨w.heap.size + 1, 2, none⟩ = some (.string b) := (hbn.cell (p := ⟨w.heap.size + 1, 2, none⟩) hgl).trans c2
  have v3 : V.cell? ⟨w.heap.size + 1, 3, none⟩ = some (.string c) := (hbn.cell (p := ⟨w.heap.size + 1, 3, none⟩) hgl).trans c3
  have v4 : V.cell? ⟨w.heap.size + 1, 4, none⟩ = some (.string d) := (hbn.cell (p := ⟨w.heap.size + 1, 4, none⟩) hgl).trans c4
  clear hV hbn HR1 HB1 c0 c1 c2 c3 c4
  go_upto_region 5 with fail
  have y1 := cell_regrown v1
  clear v1
  have HBG := hide (fun p : Regrown => (unhide HB).trans ((below_regrown V p.d p.os).mono (unhide HB).size))
  refine wp_region_anyG (by kernel_rfl) ?_
  show wpAnyG _ _ _ _ 9 (Array.replicate 9 false) _ _
  refine wpAnyG_pure 4 rfl (by kernel_rfl) (by kernel_rfl) (by kernel_rfl) (fun _ _ _ _ h => h) (fun K hK => ?_)
  go_simp
  first
    | (refine hK _ ?_; clear hK K)
    | (apply Exists.intro
       refine ⟨fun _ => rfl, hK _ ?_⟩
       clear hK K)
  refine wpAnyG_pure 5 rfl (by kernel_rfl) (by kernel_rfl) (by kernel_rfl) (fun _ _ _ _ h => h) (fun K hK => ?_)
  go_simp
  first
    | (refine hK _ ?_; clear hK K)
    | (apply Exists.intro
       refine ⟨fun _ => rfl, hK _ ?_⟩
       clear hK K)
  refine wpAnyG_mixE 7 ?_
  refine wpMixE_take 0 20 rfl (by kernel_rfl) (by kernel_rfl) (by kernel_rfl) (by kernel_rfl) (by kernel_rfl) (fun _ _ _ _ h => h) (fun K hK => ?_)
  go_simp
  first
    | (refine hK _ ?_; clear hK K)
    | (apply Exists.intro
       refine ⟨fun _ => ?_, hK _ ?_⟩
       (fail)
       clear hK K)
  refine wpMixE_take 1 20 rfl (by kernel_rfl) (by kernel_rfl) (by kernel_rfl) (by kernel_rfl) (by kernel_rfl) (fun _ _ _ _ h => h) (fun K hK => ?_)
  go_simp
  first
    | (refine hK _ ?_; clear hK K)
    | (apply Exists.intro
       refine ⟨fun _ => ?_, hK _ ?_⟩
       (fail)
       clear hK K)
  refine wpMixE_take 2 20 rfl (by kernel_rfl) (by kernel_rfl) (by kernel_rfl) (by kernel_rfl) (by kernel_rfl) (fun _ _ _ _ h => h) (fun K hK => ?_)
  go_simp
  first
    | (refine hK _ ?_; clear hK K)
    | (apply Exists.intro
       refine ⟨fun _ => ?_, hK _ ?_⟩
       (fail)
       clear hK K)
  refine wpMixE_take 3 20 rfl (by kernel_rfl) (by kernel_rfl) (by kernel_rfl) (by kernel_rfl) (by kernel_rfl) (fun _ _ _ _ h => h) (fun K hK => ?_)
  go_simp
  first
    | (refine hK _ ?_; clear hK K)
    | (apply Exists.intro
       refine ⟨fun _ => ?_, hK _ ?_⟩
       (exact unhide HNA _ (unhide HBG _))
       clear hK K)
  refine wpMixE_take 6 20 rfl (by kernel_rfl) (by kernel_rfl) (by kernel_rfl) (by kernel_rfl) (by kernel_rfl) (fun _ _ _ _ h => h) (fun K hK => ?_)
  go_simp
  first
    | (refine hK _ ?_; clear hK K)
    | (apply Exists.intro
       refine ⟨fun _ => ?_, hK _ ?_⟩
       (fail)
       clear hK K)
  refine wpMixE_leave (by kernel_rfl) (fun X hX => ?_)
  have HM2 := hide (blk_step (unhide HM) hX)
  have HR2 := hide (blk_step (unhide HR) hX)
  have HB2 := hide ((unhide HB).trans (hX.mono (unhide HB).size))
  have hgx := hX.size
  have x2 := (hX.cell (p := ⟨w.heap.size + 1, 2, none⟩) (show w.heap.size + 1 < V.heap.size by omega)).trans v2
  have x3 := (hX.cell (p := ⟨w.heap.size + 1, 3, none⟩) (show w.heap.size + 1 < V.heap.size by omega)).trans v3
  have x4 := (hX.cell (p := ⟨w.heap.size + 1, 4, none⟩) (show w.heap.size + 1 < V.heap.size by omega)).trans v4
  clear hX y1 HBG HM HR HB v2 v3 v4
  obtain ⟨⟨g0, e1, g2⟩, g3, f1, g4⟩ := eleven_at (unhide HM2)
  clear g0 g2 g3 g4
  refine wpAny_one 7 rfl (by kernel_rfl) (by rfl) ?_
  go_simp
  refine wpAny_one 8 rfl (by kernel_rfl) (by rfl) ?_
  go_simp
  refine wpAny_done (by kernel_rfl) ?_
  go_simp
  go_upto_region 8 with fail
  refine wp_at (fun V2 hV2 => ?_)
  have HM := hide (show V2.heap[w1.heap.size]? = some (.cells #[.int .i64 1, .int .i64 na, .string ⟨#[]⟩, .int .i64 0, .int .i64 0, .int .i64 0, .int .i64 0, .int .i64 0, .int .i64 0, .string ⟨#[]⟩, .int .i64 0] 25 (0, 0)) by rw [hV2]; exact ro_set (unhide HM2) 1 _)
  have HR := hide (show V2.heap[w.heap.size]? = some (.cells #[.int .i64 0, .int .i64 0, .string ⟨#[]⟩, .int .i64 0, .int .i64 0, .int .i64 0, .int .i64 0, .int .i64 0, .int .i64 0, .string ⟨#[]⟩, .int .i64 0] 25 (0, 0)) by rw [hV2]; exact (Below.heap_setCell _ _ _ _ (by show w.heap.size ≠ w1.heap.size; omega)).trans (unhide HR2))
  have HB := hide (show Below w.heap.size w V2 by rw [hV2]; exact (unhide HB2).setCell (by show w.heap.size ≤ w1.heap.size; omega) _)
  clear e1 f1
  have v2 : V2.cell? ⟨w.heap.size + 1, 2, none⟩ = some (.string b) := by rw [hV2]; exact (cell_other (by show w.heap.size + 1 ≠ w1.heap.size; omega)).trans x2
  have v3 : V2.cell? ⟨w.heap.size + 1, 3, none⟩ = some (.string c) := by rw [hV2]; exact (cell_other (by show w.heap.size + 1 ≠ w1.heap.size; omega)).trans x3
  have v4 : V2.cell? ⟨w.heap.size + 1, 4, none⟩ = some (.string d) := by rw [hV2]; exact (cell_other (by show w.heap.size + 1 ≠ w1.heap.size; omega)).trans x4
  have hgm2 : w1.heap.size < V2.heap.size := blk_lt (unhide HM)
  clear hV2 HM2 HR2 HB2 hgx hgm x2 x3 x4
  clear V X
  generalize V2 = V at *
  have hgm := hgm2
  clear hgm2
  have hzR := blk_lt (unhide HR)
  obtain ⟨⟨d0, d1, d2, d3, d4, d5, d6, d7, d8, d9, d10⟩, f0, f1, f2, f3, f4, f5, f6, f7, f8, f9, f10⟩ := eleven_at (unhide HR)
  obtain ⟨⟨q0, q1, q2, q3, q4, q5, q6, q7, q8, q9, q10⟩, _⟩ := eleven_at (unhide HM)
  cases kn
  case' false =>
    have hRes := hide (unhide HU (by simp))
    clear HU HY HZ HOT HM q0 q1 q2 q3 q4 q5 q6 q7 q8 q9 q10
    go_wp2_with fail
    refine bodyPost_atE (fun W' hW' => ?_)
    obtain ⟨⟨r0, r1, r2, r3, r4, r5, r6, r7, r8, r9, r10⟩, _⟩ := eleven_at (show W'.heap[w.heap.size]? = some (.cells #[.int .i64 0, .int .i64 0, .string ⟨#[]⟩, .int .i64 0, .int .i64 0, .int .i64 0, .int .i64 0, .int .i64 0, .int .i64 0, .string ⟨#[]⟩, .int .i64 0] 25 (0, 0)) by rw [hW']; exact eleven_set (unhide HR))
    have hbb : Below w.heap.size w W' := by rw [hW']; exact eleven_set_below (unhide HB) (Nat.le_refl _)
    exact bodyPost_ret (v := .tuple #[.agg #[.int .i64 0, .int .i64 0, .string ⟨#[]⟩, .int .i64 0, .int .i64 0, .int .i64 0, .int .i64 0, .int .i64 0, .int .i64 0, .string ⟨#[]⟩, .int .i64 0], .bool false]) (by simp [results, Tryz.results6, go_sem, r0, r1, r2, r3, r4, r5, r6, r7, r8, r9, r10]) rfl ⟨by rw [unhide hRes]; rfl, hbb⟩
  clear d0 d1 d2 d3 d4 d5 d6 d7 d8 d9 d10 f0 f1 f2 f3 f4 f5 f6 f7 f8 f9 f10
  go_wp2_with fail
  refine (unhide HOT _ ((unhide HTT).below (unhide HB))).mono ?_
  rintro e w7 ⟨rfl, hb7⟩
  have HR7 := hide (blk_step (unhide HR) hb7)
  have HM7 := hide (blk_step (unhide HM) hb7)
  have HB7 := hide ((unhide HB).trans (hb7.mono (unhide HB).size))
  clear hb7 HR HM HB q0 q1 q2 q3 q4 q5 q6 q7 q8 q9 q10 HOT hzR hgm
  have HR := HR7
  have HB := HB7
  clear HR7 HB7
  have hzR := blk_lt (unhide HR)
  have hzM := blk_lt (unhide HM7)
  obtain ⟨⟨d0, d1, d2, d3, d4, d5, d6, d7, d8, d9, d10⟩, f0, f1, f2, f3, f4, f5, f6, f7, f8, f9, f10⟩ := eleven_at (unhide HR)
  by_cases hp : TX = s
  case' neg =>
    have hRes := hide (unhide HZ ⟨by simp, hp⟩)
    have hq := str_ne hp
    clear HU HY HZ HM7 hp
    go_wp2_with fail
    refine bodyPost_atE (fun W' hW' => ?_)
    obtain ⟨⟨r0, r1, r2, r3, r4, r5, r6, r7, r8, r9, r10⟩, _⟩ := eleven_at (show W'.heap[w.heap.size]? = some (.cells #[.int .i64 0, .int .i64 0, .string ⟨#[]⟩, .int .i64 0, .int .i64 0, .int .i64 0, .int .i64 0, .int .i64 0, .int .i64 0, .string ⟨#[]⟩, .int .i64 0] 25 (0, 0)) by rw [hW']; exact eleven_set (unhide HR))
    have hbb : Below w.heap.size w W' := by rw [hW']; exact eleven_set_below (unhide HB) (Nat.le_refl _)
    exact bodyPost_ret (v := .tuple #[.agg #[.int .i64 0, .int .i64 0, .string ⟨#[]⟩, .int .i64 0, .int .i64 0, .int .i64 0, .int .i64 0, .int .i64 0, .int .i64 0, .string ⟨#[]⟩, .int .i64 0], .bool false]) (by simp [results, Tryz.results6, go_sem, r0, r1, r2, r3, r4, r5, r6, r7, r8, r9, r10]) rfl ⟨by rw [unhide hRes]; rfl, hbb⟩
  have hRes := hide (unhide HY ⟨by simp, hp⟩)
  have hq : (TX.toList == s.toList) = true := by rw [hp]; simp
  obtain ⟨⟨q0, q1, q2, q3, q4, q5, q6, q7, q8, q9, q10⟩, _⟩ := eleven_at (unhide HM7)
  clear HU HY HZ hp
  go_wp2_with fail
  refine bodyPost_atE (fun W' hW' => ?_)
  obtain ⟨⟨r0, r1, r2, r3, r4, r5, r6, r7, r8, r9, r10⟩, _⟩ := eleven_at (show W'.heap[w.heap.size]? = some (.cells #[.int .i64 1, .int .i64 na, .string ⟨#[]⟩, .int .i64 0, .int .i64 0, .int .i64 0, .int .i64 0, .int .i64 0, .int .i64 0, .string ⟨#[]⟩, .int .i64 0] 25 (0, 0)) by rw [hW']; exact eleven_set (unhide HR))
  have hbb : Below w.heap.size w W' := by rw [hW']; exact eleven_set_below (unhide HB) (Nat.le_refl _)
  exact bodyPost_ret (v := .tuple #[.agg #[.int .i64 1, .int .i64 na, .string ⟨#[]⟩, .int .i64 0, .int .i64 0, .int .i64 0, .int .i64 0, .int .i64 0, .int .i64 0, .string ⟨#[]⟩, .int .i64 0], .bool true]) (by simp [results, Tryz.results6, go_sem, r0, r1, r2, r3, r4, r5, r6, r7, r8, r9, r10]) rfl ⟨by rw [unhide hRes]; rfl, hbb⟩
set_option maxRecDepth 100000 in
set_option maxHeartbeats 4000000 in
theorem implReadOp_k2n1 (s x0 : ByteArray) (w : World) (hs : s.size ≤ 1048576) (hx : words s = [x0]) (hk : kI x0 = 2) (hM : MaxLenIs w) (_hH : Handle w) (hT : Tens w) :
    Calls Tryz.prog 6 #[.string s] w fun e w' => e = .returned (.tuple #[opw (roI s).1, .bool (roI s).2]) ∧ Below w.heap.size w w' := by
  have hn : (words s).length = 1 := by rw [hx]; rfl
  have HW := hide (fun W (hb : Below w.heap.size w W) => wordsAt s 1 W hs (hM.below hb) hn)
  rw [hx] at HW
  have hO : opI (kI x0) ([]) = ⟨kI x0, 0, ByteArray.empty, 0, zMg⟩ := by
    rw [hk]
    simp [opI]
  have HY := hide (fun h => roI_yes hx (r := []) h)
  have HZ := hide (fun h => roI_no hx (r := []) h)
  have HU := hide (fun h => roI_un hx (r := []) h)
  rw [hO] at HY HZ
  have HOT : Hid (∀ w1 : World, Tens w1 → Calls Tryz.prog 19 #[.agg #[.int .i64 (kI x0), .int .i64 0, .string ⟨#[]⟩, .int .i64 0, .int .i64 0, .int .i64 0, .int .i64 0, .int .i64 0, .int .i64 0, .string ⟨#[]⟩, .int .i64 0]] w1 fun e w' => e = .returned (.string (opTx ⟨kI x0, 0, ByteArray.empty, 0, zMg⟩)) ∧ Below w1.heap.size w1 w') := fun w1 h => implOpText ⟨kI x0, 0, ByteArray.empty, 0, zMg⟩ w1 h
  have HK := hide (fun w1 => implKind x0 w1)
  have HTT := hide hT
  clear hO hT hM _hH hx hs
  rw [hk] at HY HZ HOT HK
  clear hk
  generalize opTx ⟨2, 0, ByteArray.empty, 0, zMg⟩ = TX at *
  generalize decide (0 ≤ kindB x0) = kn at *
  generalize roI s = RES at *
  go_enter Tryz.func6, Tryz.ntmps6
  go_wp2_with fail
  refine (unhide HW _ (below_one w _)).mono ?_
  rintro e w1 ⟨rfl, hc1, hgl, hb1⟩
  have HR1 := hide (blk_step (heap_alloc_new w _) hb1)
  have HB1 := hide ((below_one w _).trans (hb1.mono (by simp)))
  have c0 := hc1 0 (by simp)
  simp only [List.getElem_cons_zero, World.size_alloc] at c0 hgl
  clear hc1 hb1 HW
  go_wp2_with (go_at_call 28; refine (unhide HK _).mono ?_; rintro e w' ⟨rfl, rfl⟩)
  go_region
  go_upto_region 4 with fail
  refine wp_at (fun V hV => ?_)
  have hbn : Below w1.heap.size w1 V := by rw [hV]; exact below_new w1 _
  have HM := hide (show V.heap[w1.heap.size]? = some (.cells #[.int .i64 2, .int .i64 0, .string ⟨#[]⟩, .int .i64 0, .int .i64 0, .int .i64 0, .int .i64 0, .int .i64 0, .int .i64 0, .string ⟨#[]⟩, .int .i64 0] 25 (0, 0)) by rw [hV]; exact heap_alloc_new w1 _)
  have HR := hide (blk_step (unhide HR1) hbn)
  have HB := hide ((unhide HB1).trans (hbn.mono (unhide HB1).size))
  have hgm : w1.heap.size < V.heap.size := blk_lt (unhide HM)
  clear hV hbn HR1 HB1 c0
  go_upto_region 8 with fail
  have hzR := blk_lt (unhide HR)
  obtain ⟨⟨d0, d1, d2, d3, d4, d5, d6, d7, d8, d9, d10⟩, f0, f1, f2, f3, f4, f5, f6, f7, f8, f9, f10⟩ := eleven_at (unhide HR)
  obtain ⟨⟨q0, q1, q2, q3, q4, q5, q6, q7, q8, q9, q10⟩, _⟩ := eleven_at (unhide HM)
  cases kn
  case' false =>
    have hRes := hide (unhide HU (by simp))
    clear HU HY HZ HOT HM q0 q1 q2 q3 q4 q5 q6 q7 q8 q9 q10
    go_wp2_with fail
    refine bodyPost_atE (fun W' hW' => ?_)
    obtain ⟨⟨r0, r1, r2, r3, r4, r5, r6, r7, r8, r9, r10⟩, _⟩ := eleven_at (show W'.heap[w.heap.size]? = some (.cells #[.int .i64 0, .int .i64 0, .string ⟨#[]⟩, .int .i64 0, .int .i64 0, .int .i64 0, .int .i64 0, .int .i64 0, .int .i64 0, .string ⟨#[]⟩, .int .i64 0] 25 (0, 0)) by rw [hW']; exact eleven_set (unhide HR))
    have hbb : Below w.heap.size w W' := by rw [hW']; exact eleven_set_below (unhide HB) (Nat.le_refl _)
    exact bodyPost_ret (v := .tuple #[.agg #[.int .i64 0, .int .i64 0, .string ⟨#[]⟩, .int .i64 0, .int .i64 0, .int .i64 0, .int .i64 0, .int .i64 0, .int .i64 0, .string ⟨#[]⟩, .int .i64 0], .bool false]) (by simp [results, Tryz.results6, go_sem, r0, r1, r2, r3, r4, r5, r6, r7, r8, r9, r10]) rfl ⟨by rw [unhide hRes]; rfl, hbb⟩
  clear d0 d1 d2 d3 d4 d5 d6 d7 d8 d9 d10 f0 f1 f2 f3 f4 f5 f6 f7 f8 f9 f10
  go_wp2_with fail
  refine (unhide HOT _ ((unhide HTT).below (unhide HB))).mono ?_
  rintro e w7 ⟨rfl, hb7⟩
  have HR7 := hide (blk_step (unhide HR) hb7)
  have HM7 := hide (blk_step (unhide HM) hb7)
  have HB7 := hide ((unhide HB).trans (hb7.mono (unhide HB).size))
  clear hb7 HR HM HB q0 q1 q2 q3 q4 q5 q6 q7 q8 q9 q10 HOT hzR hgm
  have HR := HR7
  have HB := HB7
  clear HR7 HB7
  have hzR := blk_lt (unhide HR)
  have hzM := blk_lt (unhide HM7)
  obtain ⟨⟨d0, d1, d2, d3, d4, d5, d6, d7, d8, d9, d10⟩, f0, f1, f2, f3, f4, f5, f6, f7, f8, f9, f10⟩ := eleven_at (unhide HR)
  by_cases hp : TX = s
  case' neg =>
    have hRes := hide (unhide HZ ⟨by simp, hp⟩)
    have hq := str_ne hp
    clear HU HY HZ HM7 hp
    go_wp2_with fail
    refine bodyPost_atE (fun W' hW' => ?_)
    obtain ⟨⟨r0, r1, r2, r3, r4, r5, r6, r7, r8, r9, r10⟩, _⟩ := eleven_at (show W'.heap[w.heap.size]? = some (.cells #[.int .i64 0, .int .i64 0, .string ⟨#[]⟩, .int .i64 0, .int .i64 0, .int .i64 0, .int .i64 0, .int .i64 0, .int .i64 0, .string ⟨#[]⟩, .int .i64 0] 25 (0, 0)) by rw [hW']; exact eleven_set (unhide HR))
    have hbb : Below w.heap.size w W' := by rw [hW']; exact eleven_set_below (unhide HB) (Nat.le_refl _)
    exact bodyPost_ret (v := .tuple #[.agg #[.int .i64 0, .int .i64 0, .string ⟨#[]⟩, .int .i64 0, .int .i64 0, .int .i64 0, .int .i64 0, .int .i64 0, .int .i64 0, .string ⟨#[]⟩, .int .i64 0], .bool false]) (by simp [results, Tryz.results6, go_sem, r0, r1, r2, r3, r4, r5, r6, r7, r8, r9, r10]) rfl ⟨by rw [unhide hRes]; rfl, hbb⟩
  have hRes := hide (unhide HY ⟨by simp, hp⟩)
  have hq : (TX.toList == s.toList) = true := by rw [hp]; simp
  obtain ⟨⟨q0, q1, q2, q3, q4, q5, q6, q7, q8, q9, q10⟩, _⟩ := eleven_at (unhide HM7)
  clear HU HY HZ hp
  go_wp2_with fail
  refine bodyPost_atE (fun W' hW' => ?_)
  obtain ⟨⟨r0, r1, r2, r3, r4, r5, r6, r7, r8, r9, r10⟩, _⟩ := eleven_at (show W'.heap[w.heap.size]? = some (.cells #[.int .i64 2, .int .i64 0, .string ⟨#[]⟩, .int .i64 0, .int .i64 0, .int .i64 0, .int .i64 0, .int .i64 0, .int .i64 0, .string ⟨#[]⟩, .int .i64 0] 25 (0, 0)) by rw [hW']; exact eleven_set (unhide HR))
  have hbb : Below w.heap.size w W' := by rw [hW']; exact eleven_set_below (unhide HB) (Nat.le_refl _)
  exact bodyPost_ret (v := .tuple #[.agg #[.int .i64 2, .int .i64 0, .string ⟨#[]⟩, .int .i64 0, .int .i64 0, .int .i64 0, .int .i64 0, .int .i64 0, .int .i64 0, .string ⟨#[]⟩, .int .i64 0], .bool true]) (by simp [results, Tryz.results6, go_sem, r0, r1, r2, r3, r4, r5, r6, r7, r8, r9, r10]) rfl ⟨by rw [unhide hRes]; rfl, hbb⟩
set_option maxRecDepth 100000 in
set_option maxHeartbeats 4000000 in
theorem implReadOp_k2n2 (s x0 : ByteArray) (a : ByteArray) (w : World) (hs : s.size ≤ 1048576) (hx : words s = [x0, a]) (hk : kI x0 = 2) (hM : MaxLenIs w) (hH : Handle w) (hT : Tens w) :
    Calls Tryz.prog 6 #[.string s] w fun e w' => e = .returned (.tuple #[opw (roI s).1, .bool (roI s).2]) ∧ Below w.heap.size w w' := by
  have hn : (words s).length = 2 := by rw [hx]; rfl
  have HW := hide (fun W (hb : Below w.heap.size w W) => wordsAt s 2 W hs (hM.below hb) hn)
  rw [hx] at HW
  have hzNA := words_size s a (by rw [hx]; simp)
  have HNA := hide (fun W (hb : Below w.heap.size w W) => implAmount a W (by unfold maxLen; omega) (hH.below hb) (hT.below hb))
  have hO : opI (kI x0) ([a]) = ⟨kI x0, numB a, ByteArray.empty, 0, zMg⟩ := by
    rw [hk]
    simp [opI]
  have HY := hide (fun h => roI_yes hx (r := [a]) h)
  have HZ := hide (fun h => roI_no hx (r := [a]) h)
  have HU := hide (fun h => roI_un hx (r := [a]) h)
  rw [hO] at HY HZ
  have HOT : Hid (∀ w1 : World, Tens w1 → Calls Tryz.prog 19 #[.agg #[.int .i64 (kI x0), .int .i64 (numB a), .string ⟨#[]⟩, .int .i64 0, .int .i64 0, .int .i64 0, .int .i64 0, .int .i64 0, .int .i64 0, .string ⟨#[]⟩, .int .i64 0]] w1 fun e w' => e = .returned (.string (opTx ⟨kI x0, numB a, ByteArray.empty, 0, zMg⟩)) ∧ Below w1.heap.size w1 w') := fun w1 h => implOpText ⟨kI x0, numB a, ByteArray.empty, 0, zMg⟩ w1 h
  have HK := hide (fun w1 => implKind x0 w1)
  have HTT := hide hT
  clear hO hT hM hH hx hs
  rw [hk] at HY HZ HOT HK
  clear hk
  generalize numB a = na at *
  generalize opTx ⟨2, na, ByteArray.empty, 0, zMg⟩ = TX at *
  generalize decide (0 ≤ kindB x0) = kn at *
  generalize roI s = RES at *
  go_enter Tryz.func6, Tryz.ntmps6
  go_wp2_with fail
  refine (unhide HW _ (below_one w _)).mono ?_
  rintro e w1 ⟨rfl, hc1, hgl, hb1⟩
  have HR1 := hide (blk_step (heap_alloc_new w _) hb1)
  have HB1 := hide ((below_one w _).trans (hb1.mono (by simp)))
  have c0 := hc1 0 (by simp)
  have c1 := hc1 1 (by simp)
  simp only [List.getElem_cons_zero, List.getElem_cons_succ, World.size_alloc] at c0 c1 hgl
  clear hc1 hb1 HW
  go_wp2_with (go_at_call 28; refine (unhide HK _).mono ?_; rintro e w' ⟨rfl, rfl⟩)
  go_region
  go_upto_region 4 with fail
  refine wp_at (fun V hV => ?_)
  have hbn : Below w1.heap.size w1 V := by rw [hV]; exact below_new w1 _
  have HM := hide (show V.heap[w1.heap.size]? = some (.cells #[.int .i64 2, .int .i64 0, .string ⟨#[]⟩, .int .i64 0, .int .i64 0, .int .i64 0, .int .i64 0, .int .i64 0, .int .i64 0, .string ⟨#[]⟩, .int .i64 0] 25 (0, 0)) by rw [hV]; exact heap_alloc_new w1 _)
  have HR := hide (blk_step (unhide HR1) hbn)
  have HB := hide ((unhide HB1).trans (hbn.mono (unhide HB1).size))
  have hgm : w1.heap.size < V.heap.size := blk_lt (unhide HM)
  have v1 : V.cell? ⟨w.heap.size + 1, 1, none⟩ = some (.string a) := (hbn.cell (p := ⟨w.heap.size + 1, 1, none⟩) hgl).trans c1
  clear hV hbn HR1 HB1 c0 c1
  go_upto_region 5 with fail
  have y1 := cell_regrown v1
  clear v1
  have HBG := hide (fun p : Regrown => (unhide HB).trans ((below_regrown V p.d p.os).mono (unhide HB).size))
  refine wp_region_anyG (by kernel_rfl) ?_
  show wpAnyG _ _ _ _ 9 (Array.replicate 9 false) _ _
  refine wpAnyG_pure 4 rfl (by kernel_rfl) (by kernel_rfl) (by kernel_rfl) (fun _ _ _ _ h => h) (fun K hK => ?_)
  go_simp
  first
    | (refine hK _ ?_; clear hK K)
    | (apply Exists.intro
       refine ⟨fun _ => rfl, hK _ ?_⟩
       clear hK K)
  refine wpAnyG_pure 5 rfl (by kernel_rfl) (by kernel_rfl) (by kernel_rfl) (fun _ _ _ _ h => h) (fun K hK => ?_)
  go_simp
  first
    | (refine hK _ ?_; clear hK K)
    | (apply Exists.intro
       refine ⟨fun _ => rfl, hK _ ?_⟩
       clear hK K)
  refine wpAnyG_mixE 7 ?_
  refine wpMixE_take 0 20 rfl (by kernel_rfl) (by kernel_rfl) (by kernel_rfl) (by kernel_rfl) (by kernel_rfl) (fun _ _ _ _ h => h) (fun K hK => ?_)
  go_simp
  first
    | (refine hK _ ?_; clear hK K)
    | (apply Exists.intro
       refine ⟨fun _ => ?_, hK _ ?_⟩
       (fail)
       clear hK K)
  refine wpMixE_take 1 20 rfl (by kernel_rfl) (by kernel_rfl) (by kernel_rfl) (by kernel_rfl) (by kernel_rfl) (fun _ _ _ _ h => h) (fun K hK => ?_)
  go_simp
  first
    | (refine hK _ ?_; clear hK K)
    | (apply Exists.intro
       refine ⟨fun _ => ?_, hK _ ?_⟩
       (fail)
       clear hK K)
  refine wpMixE_take 2 20 rfl (by kernel_rfl) (by kernel_rfl) (by kernel_rfl) (by kernel_rfl) (by kernel_rfl) (fun _ _ _ _ h => h) (fun K hK => ?_)
  go_simp
  first
    | (refine hK _ ?_; clear hK K)
    | (apply Exists.intro
       refine ⟨fun _ => ?_, hK _ ?_⟩
       (fail)
       clear hK K)
  refine wpMixE_take 3 20 rfl (by kernel_rfl) (by kernel_rfl) (by kernel_rfl) (by kernel_rfl) (by kernel_rfl) (fun _ _ _ _ h => h) (fun K hK => ?_)
  go_simp
  first
    | (refine hK _ ?_; clear hK K)
    | (apply Exists.intro
       refine ⟨fun _ => ?_, hK _ ?_⟩
       (exact unhide HNA _ (unhide HBG _))
       clear hK K)
  refine wpMixE_take 6 20 rfl (by kernel_rfl) (by kernel_rfl) (by kernel_rfl) (by kernel_rfl) (by kernel_rfl) (fun _ _ _ _ h => h) (fun K hK => ?_)
  go_simp
  first
    | (refine hK _ ?_; clear hK K)
    | (apply Exists.intro
       refine ⟨fun _ => ?_, hK _ ?_⟩
       (fail)
       clear hK K)
  refine wpMixE_leave (by kernel_rfl) (fun X hX => ?_)
  have HM2 := hide (blk_step (unhide HM) hX)
  have HR2 := hide (blk_step (unhide HR) hX)
  have HB2 := hide ((unhide HB).trans (hX.mono (unhide HB).size))
  have hgx := hX.size
  clear hX y1 HBG HM HR HB 
  obtain ⟨⟨g0, e1, g2⟩, g3, f1, g4⟩ := eleven_at (unhide HM2)
  clear g0 g2 g3 g4
  refine wpAny_one 7 rfl (by kernel_rfl) (by rfl) ?_
  go_simp
  refine wpAny_one 8 rfl (by kernel_rfl) (by rfl) ?_
  go_simp
  refine wpAny_done (by kernel_rfl) ?_
  go_simp
  go_upto_region 8 with fail
  refine wp_at (fun V2 hV2 => ?_)
  have HM := hide (show V2.heap[w1.heap.size]? = some (.cells #[.int .i64 2, .int .i64 na, .string ⟨#[]⟩, .int .i64 0, .int .i64 0, .int .i64 0, .int .i64 0, .int .i64 0, .int .i64 0, .string ⟨#[]⟩, .int .i64 0] 25 (0, 0)) by rw [hV2]; exact ro_set (unhide HM2) 1 _)
  have HR := hide (show V2.heap[w.heap.size]? = some (.cells #[.int .i64 0, .int .i64 0, .string ⟨#[]⟩, .int .i64 0, .int .i64 0, .int .i64 0, .int .i64 0, .int .i64 0, .int .i64 0, .string ⟨#[]⟩, .int .i64 0] 25 (0, 0)) by rw [hV2]; exact (Below.heap_setCell _ _ _ _ (by show w.heap.size ≠ w1.heap.size; omega)).trans (unhide HR2))
  have HB := hide (show Below w.heap.size w V2 by rw [hV2]; exact (unhide HB2).setCell (by show w.heap.size ≤ w1.heap.size; omega) _)
  clear e1 f1
  have hgm2 : w1.heap.size < V2.heap.size := blk_lt (unhide HM)
  clear hV2 HM2 HR2 HB2 hgx hgm 
  clear V X
  generalize V2 = V at *
  have hgm := hgm2
  clear hgm2
  have hzR := blk_lt (unhide HR)
  obtain ⟨⟨d0, d1, d2, d3, d4, d5, d6, d7, d8, d9, d10⟩, f0, f1, f2, f3, f4, f5, f6, f7, f8, f9, f10⟩ := eleven_at (unhide HR)
  obtain ⟨⟨q0, q1, q2, q3, q4, q5, q6, q7, q8, q9, q10⟩, _⟩ := eleven_at (unhide HM)
  cases kn
  case' false =>
    have hRes := hide (unhide HU (by simp))
    clear HU HY HZ HOT HM q0 q1 q2 q3 q4 q5 q6 q7 q8 q9 q10
    go_wp2_with fail
    refine bodyPost_atE (fun W' hW' => ?_)
    obtain ⟨⟨r0, r1, r2, r3, r4, r5, r6, r7, r8, r9, r10⟩, _⟩ := eleven_at (show W'.heap[w.heap.size]? = some (.cells #[.int .i64 0, .int .i64 0, .string ⟨#[]⟩, .int .i64 0, .int .i64 0, .int .i64 0, .int .i64 0, .int .i64 0, .int .i64 0, .string ⟨#[]⟩, .int .i64 0] 25 (0, 0)) by rw [hW']; exact eleven_set (unhide HR))
    have hbb : Below w.heap.size w W' := by rw [hW']; exact eleven_set_below (unhide HB) (Nat.le_refl _)
    exact bodyPost_ret (v := .tuple #[.agg #[.int .i64 0, .int .i64 0, .string ⟨#[]⟩, .int .i64 0, .int .i64 0, .int .i64 0, .int .i64 0, .int .i64 0, .int .i64 0, .string ⟨#[]⟩, .int .i64 0], .bool false]) (by simp [results, Tryz.results6, go_sem, r0, r1, r2, r3, r4, r5, r6, r7, r8, r9, r10]) rfl ⟨by rw [unhide hRes]; rfl, hbb⟩
  clear d0 d1 d2 d3 d4 d5 d6 d7 d8 d9 d10 f0 f1 f2 f3 f4 f5 f6 f7 f8 f9 f10
  go_wp2_with fail
  refine (unhide HOT _ ((unhide HTT).below (unhide HB))).mono ?_
  rintro e w7 ⟨rfl, hb7⟩
  have HR7 := hide (blk_step (unhide HR) hb7)
  have HM7 := hide (blk_step (unhide HM) hb7)
  have HB7 := hide ((unhide HB).trans (hb7.mono (unhide HB).size))
  clear hb7 HR HM HB q0 q1 q2 q3 q4 q5 q6 q7 q8 q9 q10 HOT hzR hgm
  have HR := HR7
  have HB := HB7
  clear HR7 HB7
  have hzR := blk_lt (unhide HR)
  have hzM := blk_lt (unhide HM7)
  obtain ⟨⟨d0, d1, d2, d3, d4, d5, d6, d7, d8, d9, d10⟩, f0, f1, f2, f3, f4, f5, f6, f7, f8, f9, f10⟩ := eleven_at (unhide HR)
  by_cases hp : TX = s
  case' neg =>
    have hRes := hide (unhide HZ ⟨by simp, hp⟩)
    have hq := str_ne hp
    clear HU HY HZ HM7 hp
    go_wp2_with fail
    refine bodyPost_atE (fun W' hW' => ?_)
    obtain ⟨⟨r0, r1, r2, r3, r4, r5, r6, r7, r8, r9, r10⟩, _⟩ := eleven_at (show W'.heap[w.heap.size]? = some (.cells #[.int .i64 0, .int .i64 0, .string ⟨#[]⟩, .int .i64 0, .int .i64 0, .int .i64 0, .int .i64 0, .int .i64 0, .int .i64 0, .string ⟨#[]⟩, .int .i64 0] 25 (0, 0)) by rw [hW']; exact eleven_set (unhide HR))
    have hbb : Below w.heap.size w W' := by rw [hW']; exact eleven_set_below (unhide HB) (Nat.le_refl _)
    exact bodyPost_ret (v := .tuple #[.agg #[.int .i64 0, .int .i64 0, .string ⟨#[]⟩, .int .i64 0, .int .i64 0, .int .i64 0, .int .i64 0, .int .i64 0, .int .i64 0, .string ⟨#[]⟩, .int .i64 0], .bool false]) (by simp [results, Tryz.results6, go_sem, r0, r1, r2, r3, r4, r5, r6, r7, r8, r9, r10]) rfl ⟨by rw [unhide hRes]; rfl, hbb⟩
  have hRes := hide (unhide HY ⟨by simp, hp⟩)
  have hq : (TX.toList == s.toList) = true := by rw [hp]; simp
  obtain ⟨⟨q0, q1, q2, q3, q4, q5, q6, q7, q8, q9, q10⟩, _⟩ := eleven_at (unhide HM7)
  clear HU HY HZ hp
  go_wp2_with fail
  refine bodyPost_atE (fun W' hW' => ?_)
  obtain ⟨⟨r0, r1, r2, r3, r4, r5, r6, r7, r8, r9, r10⟩, _⟩ := eleven_at (show W'.heap[w.heap.size]? = some (.cells #[.int .i64 2, .int .i64 na, .string ⟨#[]⟩, .int .i64 0, .int .i64 0, .int .i64 0, .int .i64 0, .int .i64 0, .int .i64 0, .string ⟨#[]⟩, .int .i64 0] 25 (0, 0)) by rw [hW']; exact eleven_set (unhide HR))
  have hbb : Below w.heap.size w W' := by rw [hW']; exact eleven_set_below (unhide HB) (Nat.le_refl _)
  exact bodyPost_ret (v := .tuple #[.agg #[.int .i64 2, .int .i64 na, .string ⟨#[]⟩, .int .i64 0, .int .i64 0, .int .i64 0, .int .i64 0, .int .i64 0, .int .i64 0, .string ⟨#[]⟩, .int .i64 0], .bool true]) (by simp [results, Tryz.results6, go_sem, r0, r1, r2, r3, r4, r5, r6, r7, r8, r9, r10]) rfl ⟨by rw [unhide hRes]; rfl, hbb⟩
set_option maxRecDepth 100000 in
set_option maxHeartbeats 4000000 in
theorem implReadOp_k2n3 (s x0 : ByteArray) (a : ByteArray) (b : ByteArray) (w : World) (hs : s.size ≤ 1048576) (hx : words s = [x0, a, b]) (hk : kI x0 = 2) (hM : MaxLenIs w) (hH : Handle w) (hT : Tens w) :
    Calls Tryz.prog 6 #[.string s] w fun e w' => e = .returned (.tuple #[opw (roI s).1, .bool (roI s).2]) ∧ Below w.heap.size w w' := by
  have hn : (words s).length = 3 := by rw [hx]; rfl
  have HW := hide (fun W (hb : Below w.heap.size w W) => wordsAt s 3 W hs (hM.below hb) hn)
  rw [hx] at HW
  have hzNA := words_size s a (by rw [hx]; simp)
  have HNA := hide (fun W (hb : Below w.heap.size w W) => implAmount a W (by unfold maxLen; omega) (hH.below hb) (hT.below hb))
  have hO : opI (kI x0) ([a, b]) = ⟨kI x0, numB a, ByteArray.empty, 0, zMg⟩ := by
    rw [hk]
    simp [opI]
  have HY := hide (fun h => roI_yes hx (r := [a, b]) h)
  have HZ := hide (fun h => roI_no hx (r := [a, b]) h)
  have HU := hide (fun h => roI_un hx (r := [a, b]) h)
  rw [hO] at HY HZ
  have HOT : Hid (∀ w1 : World, Tens w1 → Calls Tryz.prog 19 #[.agg #[.int .i64 (kI x0), .int .i64 (numB a), .string ⟨#[]⟩, .int .i64 0, .int .i64 0, .int .i64 0, .int .i64 0, .int .i64 0, .int .i64 0, .string ⟨#[]⟩, .int .i64 0]] w1 fun e w' => e = .returned (.string (opTx ⟨kI x0, numB a, ByteArray.empty, 0, zMg⟩)) ∧ Below w1.heap.size w1 w') := fun w1 h => implOpText ⟨kI x0, numB a, ByteArray.empty, 0, zMg⟩ w1 h
  have HK := hide (fun w1 => implKind x0 w1)
  have HTT := hide hT
  clear hO hT hM hH hx hs
  rw [hk] at HY HZ HOT HK
  clear hk
  generalize numB a = na at *
  generalize opTx ⟨2, na, ByteArray.empty, 0, zMg⟩ = TX at *
  generalize decide (0 ≤ kindB x0) = kn at *
  generalize roI s = RES at *
  go_enter Tryz.func6, Tryz.ntmps6
  go_wp2_with fail
  refine (unhide HW _ (below_one w _)).mono ?_
  rintro e w1 ⟨rfl, hc1, hgl, hb1⟩
  have HR1 := hide (blk_step (heap_alloc_new w _) hb1)
  have HB1 := hide ((below_one w _).trans (hb1.mono (by simp)))
  have c0 := hc1 0 (by simp)
  have c1 := hc1 1 (by simp)
  have c2 := hc1 2 (by simp)
  simp only [List.getElem_cons_zero, List.getElem_cons_succ, World.size_alloc] at c0 c1 c2 hgl
  clear hc1 hb1 HW
  go_wp2_with (go_at_call 28; refine (unhide HK _).mono ?_; rintro e w' ⟨rfl, rfl⟩)
  go_region
  go_upto_region 4 with fail
  refine wp_at (fun V hV => ?_)
  have hbn : Below w1.heap.size w1 V := by rw [hV]; exact below_new w1 _
  have HM := hide (show V.heap[w1.heap.size]? = some (.cells #[.int .i64 2, .int .i64 0, .string ⟨#[]⟩, .int .i64 0, .int .i64 0, .int .i64 0, .int .i64 0, .int .i64 0, .int .i64 0, .string ⟨#[]⟩, .int .i64 0] 25 (0, 0)) by rw [hV]; exact heap_alloc_new w1 _)
  have HR := hide (blk_step (unhide HR1) hbn)
  have HB := hide ((unhide HB1).trans (hbn.mono (unhide HB1).size))
  have hgm : w1.heap.size < V.heap.size := blk_lt (unhide HM)
  have v1 : V.cell? ⟨w.heap.size + 1, 1, none⟩ = some (.string a) := (hbn.cell (p := ⟨w.heap.size + 1, 1, none⟩) hgl).trans c1
  have v2 : V.cell? ⟨w.heap.size + 1, 2, none⟩ = some (.string b) := (hbn.cell (p := ⟨w.heap.size + 1, 2, none⟩) hgl).trans c2
  clear hV hbn HR1 HB1 c0 c1 c2
  go_upto_region 5 with fail
  have y1 := cell_regrown v1
  clear v1
  have HBG := hide (fun p : Regrown => (unhide HB).trans ((below_regrown V p.d p.os).mono (unhide HB).size))
  refine wp_region_anyG (by kernel_rfl) ?_
  show wpAnyG _ _ _ _ 9 (Array.replicate 9 false) _ _
  refine wpAnyG_pure 4 rfl (by kernel_rfl) (by kernel_rfl) (by kernel_rfl) (fun _ _ _ _ h => h) (fun K hK => ?_)
  go_simp
  first
    | (refine hK _ ?_; clear hK K)
    | (apply Exists.intro
       refine ⟨fun _ => rfl, hK _ ?_⟩
       clear hK K)
  refine wpAnyG_pure 5 rfl (by kernel_rfl) (by kernel_rfl) (by kernel_rfl) (fun _ _ _ _ h => h) (fun K hK => ?_)
  go_simp
  first
    | (refine hK _ ?_; clear hK K)
    | (apply Exists.intro
       refine ⟨fun _ => rfl, hK _ ?_⟩
       clear hK K)
  refine wpAnyG_mixE 7 ?_
  refine wpMixE_take 0 20 rfl (by kernel_rfl) (by kernel_rfl) (by kernel_rfl) (by kernel_rfl) (by kernel_rfl) (fun _ _ _ _ h => h) (fun K hK => ?_)
  go_simp
  first
    | (refine hK _ ?_; clear hK K)
    | (apply Exists.intro
       refine ⟨fun _ => ?_, hK _ ?_⟩
       (fail)
       clear hK K)
  refine wpMixE_take 1 20 rfl (by kernel_rfl) (by kernel_rfl) (by kernel_rfl) (by kernel_rfl) (by kernel_rfl) (fun _ _ _ _ h => h) (fun K hK => ?_)
  go_simp
  first
    | (refine hK _ ?_; clear hK K)
    | (apply Exists.intro
       refine ⟨fun _ => ?_, hK _ ?_⟩
       (fail)
       clear hK K)
  refine wpMixE_take 2 20 rfl (by kernel_rfl) (by kernel_rfl) (by kernel_rfl) (by kernel_rfl) (by kernel_rfl) (fun _ _ _ _ h => h) (fun K hK => ?_)
  go_simp
  first
    | (refine hK _ ?_; clear hK K)
    | (apply Exists.intro
       refine ⟨fun _ => ?_, hK _ ?_⟩
       (fail)
       clear hK K)
  refine wpMixE_take 3 20 rfl (by kernel_rfl) (by kernel_rfl) (by kernel_rfl) (by kernel_rfl) (by kernel_rfl) (fun _ _ _ _ h => h) (fun K hK => ?_)
  go_simp
  first
    | (refine hK _ ?_; clear hK K)
    | (apply Exists.intro
       refine ⟨fun _ => ?_, hK _ ?_⟩
       (exact unhide HNA _ (unhide HBG _))
       clear hK K)
  refine wpMixE_take 6 20 rfl (by kernel_rfl) (by kernel_rfl) (by kernel_rfl) (by kernel_rfl) (by kernel_rfl) (fun _ _ _ _ h => h) (fun K hK => ?_)
  go_simp
  first
    | (refine hK _ ?_; clear hK K)
    | (apply Exists.intro
       refine ⟨fun _ => ?_, hK _ ?_⟩
       (fail)
       clear hK K)
  refine wpMixE_leave (by kernel_rfl) (fun X hX => ?_)
  have HM2 := hide (blk_step (unhide HM) hX)
  have HR2 := hide (blk_step (unhide HR) hX)
  have HB2 := hide ((unhide HB).trans (hX.mono (unhide HB).size))
  have hgx := hX.size
  have x2 := (hX.cell (p := ⟨w.heap.size + 1, 2, none⟩) (show w.heap.size + 1 < V.heap.size by omega)).trans v2
  clear hX y1 HBG HM HR HB v2
  obtain ⟨⟨g0, e1, g2⟩, g3, f1, g4⟩ := eleven_at (unhide HM2)
  clear g0 g2 g3 g4
  refine wpAny_one 7 rfl (by kernel_rfl) (by rfl) ?_
  go_simp
  refine wpAny_one 8 rfl (by kernel_rfl) (by rfl) ?_
  go_simp
  refine wpAny_done (by kernel_rfl) ?_
  go_simp
  go_upto_region 8 with fail
  refine wp_at (fun V2 hV2 => ?_)
  have HM := hide (show V2.heap[w1.heap.size]? = some (.cells #[.int .i64 2, .int .i64 na, .string ⟨#[]⟩, .int .i64 0, .int .i64 0, .int .i64 0, .int .i64 0, .int .i64 0, .int .i64 0, .string ⟨#[]⟩, .int .i64 0] 25 (0, 0)) by rw [hV2]; exact ro_set (unhide HM2) 1 _)
  have HR := hide (show V2.heap[w.heap.size]? = some (.cells #[.int .i64 0, .int .i64 0, .string ⟨#[]⟩, .int .i64 0, .int .i64 0, .int .i64 0, .int .i64 0, .int .i64 0, .int .i64 0, .string ⟨#[]⟩, .int .i64 0] 25 (0, 0)) by rw [hV2]; exact (Below.heap_setCell _ _ _ _ (by show w.heap.size ≠ w1.heap.size; omega)).trans (unhide HR2))
  have HB := hide (show Below w.heap.size w V2 by rw [hV2]; exact (unhide HB2).setCell (by show w.heap.size ≤ w1.heap.size; omega) _)
  clear e1 f1
  have v2 : V2.cell? ⟨w.heap.size + 1, 2, none⟩ = some (.string b) := by rw [hV2]; exact (cell_other (by show w.heap.size + 1 ≠ w1.heap.size; omega)).trans x2
  have hgm2 : w1.heap.size < V2.heap.size := blk_lt (unhide HM)
  clear hV2 HM2 HR2 HB2 hgx hgm x2
  clear V X
  generalize V2 = V at *
  have hgm := hgm2
  clear hgm2
  have hzR := blk_lt (unhide HR)
  obtain ⟨⟨d0, d1, d2, d3, d4, d5, d6, d7, d8, d9, d10⟩, f0, f1, f2, f3, f4, f5, f6, f7, f8, f9, f10⟩ := eleven_at (unhide HR)
  obtain ⟨⟨q0, q1, q2, q3, q4, q5, q6, q7, q8, q9, q10⟩, _⟩ := eleven_at (unhide HM)
  cases kn
  case' false =>
    have hRes := hide (unhide HU (by simp))
    clear HU HY HZ HOT HM q0 q1 q2 q3 q4 q5 q6 q7 q8 q9 q10
    go_wp2_with fail
    refine bodyPost_atE (fun W' hW' => ?_)
    obtain ⟨⟨r0, r1, r2, r3, r4, r5, r6, r7, r8, r9, r10⟩, _⟩ := eleven_at (show W'.heap[w.heap.size]? = some (.cells #[.int .i64 0, .int .i64 0, .string ⟨#[]⟩, .int .i64 0, .int .i64 0, .int .i64 0, .int .i64 0, .int .i64 0, .int .i64 0, .string ⟨#[]⟩, .int .i64 0] 25 (0, 0)) by rw [hW']; exact eleven_set (unhide HR))
    have hbb : Below w.heap.size w W' := by rw [hW']; exact eleven_set_below (unhide HB) (Nat.le_refl _)
    exact bodyPost_ret (v := .tuple #[.agg #[.int .i64 0, .int .i64 0, .string ⟨#[]⟩, .int .i64 0, .int .i64 0, .int .i64 0, .int .i64 0, .int .i64 0, .int .i64 0, .string ⟨#[]⟩, .int .i64 0], .bool false]) (by simp [results, Tryz.results6, go_sem, r0, r1, r2, r3, r4, r5, r6, r7, r8, r9, r10]) rfl ⟨by rw [unhide hRes]; rfl, hbb⟩
  clear d0 d1 d2 d3 d4 d5 d6 d7 d8 d9 d10 f0 f1 f2 f3 f4 f5 f6 f7 f8 f9 f10
  go_wp2_with fail
  refine (unhide HOT _ ((unhide HTT).below (unhide HB))).mono ?_
  rintro e w7 ⟨rfl, hb7⟩
  have HR7 := hide (blk_step (unhide HR) hb7)
  have HM7 := hide (blk_step (unhide HM) hb7)
  have HB7 := hide ((unhide HB).trans (hb7.mono (unhide HB).size))
  clear hb7 HR HM HB q0 q1 q2 q3 q4 q5 q6 q7 q8 q9 q10 HOT hzR hgm
  have HR := HR7
  have HB := HB7
  clear HR7 HB7
  have hzR := blk_lt (unhide HR)
  have hzM := blk_lt (unhide HM7)
  obtain ⟨⟨d0, d1, d2, d3, d4, d5, d6, d7, d8, d9, d10⟩, f0, f1, f2, f3, f4, f5, f6, f7, f8, f9, f10⟩ := eleven_at (unhide HR)
  by_cases hp : TX = s
  case' neg =>
    have hRes := hide (unhide HZ ⟨by simp, hp⟩)
    have hq := str_ne hp
    clear HU HY HZ HM7 hp
    go_wp2_with fail
    refine bodyPost_atE (fun W' hW' => ?_)
    obtain ⟨⟨r0, r1, r2, r3, r4, r5, r6, r7, r8, r9, r10⟩, _⟩ := eleven_at (show W'.heap[w.heap.size]? = some (.cells #[.int .i64 0, .int .i64 0, .string ⟨#[]⟩, .int .i64 0, .int .i64 0, .int .i64 0, .int .i64 0, .int .i64 0, .int .i64 0, .string ⟨#[]⟩, .int .i64 0] 25 (0, 0)) by rw [hW']; exact eleven_set (unhide HR))
    have hbb : Below w.heap.size w W' := by rw [hW']; exact eleven_set_below (unhide HB) (Nat.le_refl _)
    exact bodyPost_ret (v := .tuple #[.agg #[.int .i64 0, .int .i64 0, .string ⟨#[]⟩, .int .i64 0, .int .i64 0, .int .i64 0, .int .i64 0, .int .i64 0, .int .i64 0, .string ⟨#[]⟩, .int .i64 0], .bool false]) (by simp [results, Tryz.results6, go_sem, r0, r1, r2, r3, r4, r5, r6, r7, r8, r9, r10]) rfl ⟨by rw [unhide hRes]; rfl, hbb⟩
  have hRes := hide (unhide HY ⟨by simp, hp⟩)
  have hq : (TX.toList == s.toList) = true := by rw [hp]; simp
  obtain ⟨⟨q0, q1, q2, q3, q4, q5, q6, q7, q8, q9, q10⟩, _⟩ := eleven_at (unhide HM7)
  clear HU HY HZ hp
  go_wp2_with fail
  refine bodyPost_atE (fun W' hW' => ?_)
  obtain ⟨⟨r0, r1, r2, r3, r4, r5, r6, r7, r8, r9, r10⟩, _⟩ := eleven_at (show W'.heap[w.heap.size]? = some (.cells #[.int .i64 2, .int .i64 na, .string ⟨#[]⟩, .int .i64 0, .int .i64 0, .int .i64 0, .int .i64 0, .int .i64 0, .int .i64 0, .string ⟨#[]⟩, .int .i64 0] 25 (0, 0)) by rw [hW']; exact eleven_set (unhide HR))
  have hbb : Below w.heap.size w W' := by rw [hW']; exact eleven_set_below (unhide HB) (Nat.le_refl _)
  exact bodyPost_ret (v := .tuple #[.agg #[.int .i64 2, .int .i64 na, .string ⟨#[]⟩, .int .i64 0, .int .i64 0, .int .i64 0, .int .i64 0, .int .i64 0, .int .i64 0, .string ⟨#[]⟩, .int .i64 0], .bool true]) (by simp [results, Tryz.results6, go_sem, r0, r1, r2, r3, r4, r5, r6, r7, r8, r9, r10]) rfl ⟨by rw [unhide hRes]; rfl, hbb⟩
set_option maxRecDepth 100000 in
set_option maxHeartbeats 4000000 in
theorem implReadOp_k2n4 (s x0 : ByteArray) (a : ByteArray) (b : ByteArray) (c : ByteArray) (w : World) (hs : s.size ≤ 1048576) (hx : words s = [x0, a, b, c]) (hk : kI x0 = 2) (hM : MaxLenIs w) (hH : Handle w) (hT : Tens w) :
    Calls Tryz.prog 6 #[.string s] w fun e w' => e = .returned (.tuple #[opw (roI s).1, .bool (roI s).2]) ∧ Below w.heap.size w w' := by
  have hn : (words s).length = 4 := by rw [hx]; rfl
  have HW := hide (fun W (hb : Below w.heap.size w W) => wordsAt s 4 W hs (hM.below hb) hn)
  rw [hx] at HW
  have hzNA := words_size s a (by rw [hx]; simp)
  have HNA := hide (fun W (hb : Below w.heap.size w W) => implAmount a W (by unfold maxLen; omega) (hH.below hb) (hT.below hb))
  have hzNB := words_size s c (by rw [hx]; simp)
  have HNB := hide (fun W (hb : Below w.heap.size w W) => implAmount c W (by unfold maxLen; omega) (hH.below hb) (hT.below hb))
  have hO : opI (kI x0) ([a, b, c]) = ⟨kI x0, numB a, b, numB c, zMg⟩ := by
    rw [hk]
    simp [opI]
  have HY := hide (fun h => roI_yes hx (r := [a, b, c]) h)
  have HZ := hide (fun h => roI_no hx (r := [a, b, c]) h)
  have HU := hide (fun h => roI_un hx (r := [a, b, c]) h)
  rw [hO] at HY HZ
  have HOT : Hid (∀ w1 : World, Tens w1 → Calls Tryz.prog 19 #[.agg #[.int .i64 (kI x0), .int .i64 (numB a), .string b, .int .i64 (numB c), .int .i64 0, .int .i64 0, .int .i64 0, .int .i64 0, .int .i64 0, .string ⟨#[]⟩, .int .i64 0]] w1 fun e w' => e = .returned (.string (opTx ⟨kI x0, numB a, b, numB c, zMg⟩)) ∧ Below w1.heap.size w1 w') := fun w1 h => implOpText ⟨kI x0, numB a, b, numB c, zMg⟩ w1 h
  have HK := hide (fun w1 => implKind x0 w1)
  have HTT := hide hT
  clear hO hT hM hH hx hs
  rw [hk] at HY HZ HOT HK
  clear hk
  generalize numB a = na at *
  generalize numB c = nb at *
  generalize opTx ⟨2, na, b, nb, zMg⟩ = TX at *
  generalize decide (0 ≤ kindB x0) = kn at *
  generalize roI s = RES at *
  go_enter Tryz.func6, Tryz.ntmps6
  go_wp2_with fail
  refine (unhide HW _ (below_one w _)).mono ?_
  rintro e w1 ⟨rfl, hc1, hgl, hb1⟩
  have HR1 := hide (blk_step (heap_alloc_new w _) hb1)
  have HB1 := hide ((below_one w _).trans (hb1.mono (by simp)))
  have c0 := hc1 0 (by simp)
  have c1 := hc1 1 (by simp)
  have c2 := hc1 2 (by simp)
  have c3 := hc1 3 (by simp)
  simp only [List.getElem_cons_zero, List.getElem_cons_succ, World.size_alloc] at c0 c1 c2 c3 hgl
  clear hc1 hb1 HW
  go_wp2_with (go_at_call 28; refine (unhide HK _).mono ?_; rintro e w' ⟨rfl, rfl⟩)
  go_region
  go_upto_region 4 with fail
  refine wp_at (fun V hV => ?_)
  have hbn : Below w1.heap.size w1 V := by rw [hV]; exact below_new w1 _
  have HM := hide (show V.heap[w1.heap.size]? = some (.cells #[.int .i64 2, .int .i64 0, .string ⟨#[]⟩, .int .i64 0, .int .i64 0, .int .i64 0, .int .i64 0, .int .i64 0, .int .i64 0, .string ⟨#[]⟩, .int .i64 0] 25 (0, 0)) by rw [hV]; exact heap_alloc_new w1 _)
  have HR := hide (blk_step (unhide HR1) hbn)
  have HB := hide ((unhide HB1).trans (hbn.mono (unhide HB1).size))
  have hgm : w1.heap.size < V.heap.size := blk_lt (unhide HM)
  have v1 : V.cell? ⟨w.heap.size + 1, 1, none⟩ = some (.string a) := (hbn.cell (p := ⟨w.heap.size + 1, 1, none⟩) hgl).trans c1
  have v2 : V.cell? ⟨w.heap.size + 1, 2, none⟩ = some (.string b) := (hbn.cell (p := ⟨w.heap.size + 1, 2, none⟩) hgl).trans c2
  have v3 : V.cell? ⟨w.heap.size + 1, 3, none⟩ = some (.string c) := (hbn.cell (p := ⟨w.heap.size + 1, 3, none⟩) hgl).trans c3
  clear hV hbn HR1 HB1 c0 c1 c2 c3
  go_upto_region 5 with fail
  have y1 := cell_regrown v1
  clear v1
  have HBG := hide (fun p : Regrown => (unhide HB).trans ((below_regrown V p.d p.os).mono (unhide HB).size))
  refine wp_region_anyG (by kernel_rfl) ?_
  show wpAnyG _ _ _ _ 9 (Array.replicate 9 false) _ _
  refine wpAnyG_pure 4 rfl (by kernel_rfl) (by kernel_rfl) (by kernel_rfl) (fun _ _ _ _ h => h) (fun K hK => ?_)
  go_simp
  first
    | (refine hK _ ?_; clear hK K)
    | (apply Exists.intro
       refine ⟨fun _ => rfl, hK _ ?_⟩
       clear hK K)
  refine wpAnyG_pure 5 rfl (by kernel_rfl) (by kernel_rfl) (by kernel_rfl) (fun _ _ _ _ h => h) (fun K hK => ?_)
  go_simp
  first
    | (refine hK _ ?_; clear hK K)
    | (apply Exists.intro
       refine ⟨fun _ => rfl, hK _ ?_⟩
       clear hK K)
  refine wpAnyG_mixE 7 ?_
  refine wpMixE_take 0 20 rfl (by kernel_rfl) (by kernel_rfl) (by kernel_rfl) (by kernel_rfl) (by kernel_rfl) (fun _ _ _ _ h => h) (fun K hK => ?_)
  go_simp
  first
    | (refine hK _ ?_; clear hK K)
    | (apply Exists.intro
       refine ⟨fun _ => ?_, hK _ ?_⟩
       (fail)
       clear hK K)
  refine wpMixE_take 1 20 rfl (by kernel_rfl) (by kernel_rfl) (by kernel_rfl) (by kernel_rfl) (by kernel_rfl) (fun _ _ _ _ h => h) (fun K hK => ?_)
  go_simp
  first
    | (refine hK _ ?_; clear hK K)
    | (apply Exists.intro
       refine ⟨fun _ => ?_, hK _ ?_⟩
       (fail)
       clear hK K)
  refine wpMixE_take 2 20 rfl (by kernel_rfl) (by kernel_rfl) (by kernel_rfl) (by kernel_rfl) (by kernel_rfl) (fun _ _ _ _ h => h) (fun K hK => ?_)
  go_simp
  first
    | (refine hK _ ?_; clear hK K)
    | (apply Exists.intro
       refine ⟨fun _ => ?_, hK _ ?_⟩
       (fail)
       clear hK K)
  refine wpMixE_take 3 20 rfl (by kernel_rfl) (by kernel_rfl) (by kernel_rfl) (by kernel_rfl) (by kernel_rfl) (fun _ _ _ _ h => h) (fun K hK => ?_)
  go_simp
  first
    | (refine hK _ ?_; clear hK K)
    | (apply Exists.intro
       refine ⟨fun _ => ?_, hK _ ?_⟩
       (exact unhide HNA _ (unhide HBG _))
       clear hK K)
  refine wpMixE_take 6 20 rfl (by kernel_rfl) (by kernel_rfl) (by kernel_rfl) (by kernel_rfl) (by kernel_rfl) (fun _ _ _ _ h => h) (fun K hK => ?_)
  go_simp
  first
    | (refine hK _ ?_; clear hK K)
    | (apply Exists.intro
       refine ⟨fun _ => ?_, hK _ ?_⟩
       (fail)
       clear hK K)
  refine wpMixE_leave (by kernel_rfl) (fun X hX => ?_)
  have HM2 := hide (blk_step (unhide HM) hX)
  have HR2 := hide (blk_step (unhide HR) hX)
  have HB2 := hide ((unhide HB).trans (hX.mono (unhide HB).size))
  have hgx := hX.size
  have x2 := (hX.cell (p := ⟨w.heap.size + 1, 2, none⟩) (show w.heap.size + 1 < V.heap.size by omega)).trans v2
  have x3 := (hX.cell (p := ⟨w.heap.size + 1, 3, none⟩) (show w.heap.size + 1 < V.heap.size by omega)).trans v3
  clear hX y1 HBG HM HR HB v2 v3
  obtain ⟨⟨g0, e1, g2⟩, g3, f1, g4⟩ := eleven_at (unhide HM2)
  clear g0 g2 g3 g4
  refine wpAny_one 7 rfl (by kernel_rfl) (by rfl) ?_
  go_simp
  refine wpAny_one 8 rfl (by kernel_rfl) (by rfl) ?_
  go_simp
  refine wpAny_done (by kernel_rfl) ?_
  go_simp
  go_upto_region 7 with fail
  refine wp_at (fun V2 hV2 => ?_)
  have HM := hide (show V2.heap[w1.heap.size]? = some (.cells #[.int .i64 2, .int .i64 na, .string ⟨#[]⟩, .int .i64 0, .int .i64 0, .int .i64 0, .int .i64 0, .int .i64 0, .int .i64 0, .string ⟨#[]⟩, .int .i64 0] 25 (0, 0)) by rw [hV2]; exact ro_set (unhide HM2) 1 _)
  have HR := hide (show V2.heap[w.heap.size]? = some (.cells #[.int .i64 0, .int .i64 0, .string ⟨#[]⟩, .int .i64 0, .int .i64 0, .int .i64 0, .int .i64 0, .int .i64 0, .int .i64 0, .string ⟨#[]⟩, .int .i64 0] 25 (0, 0)) by rw [hV2]; exact (Below.heap_setCell _ _ _ _ (by show w.heap.size ≠ w1.heap.size; omega)).trans (unhide HR2))
  have HB := hide (show Below w.heap.size w V2 by rw [hV2]; exact (unhide HB2).setCell (by show w.heap.size ≤ w1.heap.size; omega) _)
  clear e1 f1
  have v2 : V2.cell? ⟨w.heap.size + 1, 2, none⟩ = some (.string b) := by rw [hV2]; exact (cell_other (by show w.heap.size + 1 ≠ w1.heap.size; omega)).trans x2
  have v3 : V2.cell? ⟨w.heap.size + 1, 3, none⟩ = some (.string c) := by rw [hV2]; exact (cell_other (by show w.heap.size + 1 ≠ w1.heap.size; omega)).trans x3
  have hgm2 : w1.heap.size < V2.heap.size := blk_lt (unhide HM)
  clear hV2 HM2 HR2 HB2 hgx hgm x2 x3
  clear V X
  generalize V2 = V at *
  have hgm := hgm2
  clear hgm2
  have y1 := cell_regrown v2
  have y2 := cell_regrown v3
  clear v2 v3
  have HBG := hide (fun p : Regrown => (unhide HB).trans ((below_regrown V p.d p.os).mono (unhide HB).size))
  refine wp_region_mixE 8 (by kernel_rfl) ?_
  show wpMixE _ _ _ _ _ 11 (Array.replicate 11 false) _ _
  refine wpMixE_take 0 20 rfl (by kernel_rfl) (by kernel_rfl) (by kernel_rfl) (by kernel_rfl) (by kernel_rfl) (fun _ _ _ _ h => h) (fun K hK => ?_)
  go_simp
  first
    | (refine hK _ ?_; clear hK K)
    | (apply Exists.intro
       refine ⟨fun _ => ?_, hK _ ?_⟩
       (fail)
       clear hK K)
  refine wpMixE_take 1 20 rfl (by kernel_rfl) (by kernel_rfl) (by kernel_rfl) (by kernel_rfl) (by kernel_rfl) (fun _ _ _ _ h => h) (fun K hK => ?_)
  go_simp
  first
    | (refine hK _ ?_; clear hK K)
    | (apply Exists.intro
       refine ⟨fun _ => ?_, hK _ ?_⟩
       (fail)
       clear hK K)
  refine wpMixE_take 2 20 rfl (by kernel_rfl) (by kernel_rfl) (by kernel_rfl) (by kernel_rfl) (by kernel_rfl) (fun _ _ _ _ h => h) (fun K hK => ?_)
  go_simp
  first
    | (refine hK _ ?_; clear hK K)
    | (apply Exists.intro
       refine ⟨fun _ => ?_, hK _ ?_⟩
       (fail)
       clear hK K)
  refine wpMixE_take 3 20 rfl (by kernel_rfl) (by kernel_rfl) (by kernel_rfl) (by kernel_rfl) (by kernel_rfl) (fun _ _ _ _ h => h) (fun K hK => ?_)
  go_simp
  first
    | (refine hK _ ?_; clear hK K)
    | (apply Exists.intro
       refine ⟨fun _ => ?_, hK _ ?_⟩
       (fail)
       clear hK K)
  refine wpMixE_take 4 20 rfl (by kernel_rfl) (by kernel_rfl) (by kernel_rfl) (by kernel_rfl) (by kernel_rfl) (fun _ _ _ _ h => h) (fun K hK => ?_)
  go_simp
  first
    | (refine hK _ ?_; clear hK K)
    | (apply Exists.intro
       refine ⟨fun _ => ?_, hK _ ?_⟩
       (fail)
       clear hK K)
  refine wpMixE_take 5 20 rfl (by kernel_rfl) (by kernel_rfl) (by kernel_rfl) (by kernel_rfl) (by kernel_rfl) (fun _ _ _ _ h => h) (fun K hK => ?_)
  go_simp
  first
    | (refine hK _ ?_; clear hK K)
    | (apply Exists.intro
       refine ⟨fun _ => ?_, hK _ ?_⟩
       (fail)
       clear hK K)
  refine wpMixE_take 6 20 rfl (by kernel_rfl) (by kernel_rfl) (by kernel_rfl) (by kernel_rfl) (by kernel_rfl) (fun _ _ _ _ h => h) (fun K hK => ?_)
  go_simp
  first
    | (refine hK _ ?_; clear hK K)
    | (apply Exists.intro
       refine ⟨fun _ => ?_, hK _ ?_⟩
       (exact unhide HNB _ (unhide HBG _))
       clear hK K)
  refine wpMixE_take 7 20 rfl (by kernel_rfl) (by kernel_rfl) (by kernel_rfl) (by kernel_rfl) (by kernel_rfl) (fun _ _ _ _ h => h) (fun K hK => ?_)
  go_simp
  first
    | (refine hK _ ?_; clear hK K)
    | (apply Exists.intro
       refine ⟨fun _ => ?_, hK _ ?_⟩
       (fail)
       clear hK K)
  refine wpMixE_leave (by kernel_rfl) (fun X hX => ?_)
  have HM2 := hide (blk_step (unhide HM) hX)
  have HR2 := hide (blk_step (unhide HR) hX)
  have HB2 := hide ((unhide HB).trans (hX.mono (unhide HB).size))
  have hgx := hX.size
  clear hX y1 y2 HBG HM HR HB
  obtain ⟨⟨g0, g1, e2, e3, g2⟩, g3, g5, f2, f3, g4⟩ := eleven_at (unhide HM2)
  clear g0 g1 g2 g3 g4 g5
  refine wpAny_one 8 rfl (by kernel_rfl) (by rfl) ?_
  go_simp
  refine wpAny_one 9 rfl (by kernel_rfl) (by rfl) ?_
  go_simp
  refine wpAny_one 10 rfl (by kernel_rfl) (by rfl) ?_
  go_simp
  refine wpAny_done (by kernel_rfl) ?_
  go_simp
  go_upto_region 8 with fail
  refine wp_at (fun V2 hV2 => ?_)
  have HM := hide (show V2.heap[w1.heap.size]? = some (.cells #[.int .i64 2, .int .i64 na, .string b, .int .i64 nb, .int .i64 0, .int .i64 0, .int .i64 0, .int .i64 0, .int .i64 0, .string ⟨#[]⟩, .int .i64 0] 25 (0, 0)) by rw [hV2]; exact ro_set (ro_set (unhide HM2) 2 _) 3 _)
  have HR := hide (show V2.heap[w.heap.size]? = some (.cells #[.int .i64 0, .int .i64 0, .string ⟨#[]⟩, .int .i64 0, .int .i64 0, .int .i64 0, .int .i64 0, .int .i64 0, .int .i64 0, .string ⟨#[]⟩, .int .i64 0] 25 (0, 0)) by rw [hV2]; exact (Below.heap_setCell _ _ _ _ (by show w.heap.size ≠ w1.heap.size; omega)).trans ((Below.heap_setCell _ _ _ _ (by show w.heap.size ≠ w1.heap.size; omega)).trans (unhide HR2)))
  have HB := hide (show Below w.heap.size w V2 by rw [hV2]; exact ((unhide HB2).setCell (by show w.heap.size ≤ w1.heap.size; omega) _).setCell (by show w.heap.size ≤ w1.heap.size; omega) _)
  have hgm2 : w1.heap.size < V2.heap.size := blk_lt (unhide HM)
  clear hV2 HM2 HR2 HB2 hgx hgm e2 e3 f2 f3
  clear V X
  generalize V2 = V at *
  have hgm := hgm2
  clear hgm2
  have hzR := blk_lt (unhide HR)
  obtain ⟨⟨d0, d1, d2, d3, d4, d5, d6, d7, d8, d9, d10⟩, f0, f1, f2, f3, f4, f5, f6, f7, f8, f9, f10⟩ := eleven_at (unhide HR)
  obtain ⟨⟨q0, q1, q2, q3, q4, q5, q6, q7, q8, q9, q10⟩, _⟩ := eleven_at (unhide HM)
  cases kn
  case' false =>
    have hRes := hide (unhide HU (by simp))
    clear HU HY HZ HOT HM q0 q1 q2 q3 q4 q5 q6 q7 q8 q9 q10
    go_wp2_with fail
    refine bodyPost_atE (fun W' hW' => ?_)
    obtain ⟨⟨r0, r1, r2, r3, r4, r5, r6, r7, r8, r9, r10⟩, _⟩ := eleven_at (show W'.heap[w.heap.size]? = some (.cells #[.int .i64 0, .int .i64 0, .string ⟨#[]⟩, .int .i64 0, .int .i64 0, .int .i64 0, .int .i64 0, .int .i64 0, .int .i64 0, .string ⟨#[]⟩, .int .i64 0] 25 (0, 0)) by rw [hW']; exact eleven_set (unhide HR))
    have hbb : Below w.heap.size w W' := by rw [hW']; exact eleven_set_below (unhide HB) (Nat.le_refl _)
    exact bodyPost_ret (v := .tuple #[.agg #[.int .i64 0, .int .i64 0, .string ⟨#[]⟩, .int .i64 0, .int .i64 0, .int .i64 0, .int .i64 0, .int .i64 0, .int .i64 0, .string ⟨#[]⟩, .int .i64 0], .bool false]) (by simp [results, Tryz.results6, go_sem, r0, r1, r2, r3, r4, r5, r6, r7, r8, r9, r10]) rfl ⟨by rw [unhide hRes]; rfl, hbb⟩
  clear d0 d1 d2 d3 d4 d5 d6 d7 d8 d9 d10 f0 f1 f2 f3 f4 f5 f6 f7 f8 f9 f10
  go_wp2_with fail
  refine (unhide HOT _ ((unhide HTT).below (unhide HB))).mono ?_
  rintro e w7 ⟨rfl, hb7⟩
  have HR7 := hide (blk_step (unhide HR) hb7)
  have HM7 := hide (blk_step (unhide HM) hb7)
  have HB7 := hide ((unhide HB).trans (hb7.mono (unhide HB).size))
  clear hb7 HR HM HB q0 q1 q2 q3 q4 q5 q6 q7 q8 q9 q10 HOT hzR hgm
  have HR := HR7
  have HB := HB7
  clear HR7 HB7
  have hzR := blk_lt (unhide HR)
  have hzM := blk_lt (unhide HM7)
  obtain ⟨⟨d0, d1, d2, d3, d4, d5, d6, d7, d8, d9, d10⟩, f0, f1, f2, f3, f4, f5, f6, f7, f8, f9, f10⟩ := eleven_at (unhide HR)
  by_cases hp : TX = s
  case' neg =>
    have hRes := hide (unhide HZ ⟨by simp, hp⟩)
    have hq := str_ne hp
    clear HU HY HZ HM7 hp
    go_wp2_with fail
    refine bodyPost_atE (fun W' hW' => ?_)
    obtain ⟨⟨r0, r1, r2, r3, r4, r5, r6, r7, r8, r9, r10⟩, _⟩ := eleven_at (show W'.heap[w.heap.size]? = some (.cells #[.int .i64 0, .int .i64 0, .string ⟨#[]⟩, .int .i64 0, .int .i64 0, .int .i64 0, .int .i64 0, .int .i64 0, .int .i64 0, .string ⟨#[]⟩, .int .i64 0] 25 (0, 0)) by rw [hW']; exact eleven_set (unhide HR))
    have hbb : Below w.heap.size w W' := by rw [hW']; exact eleven_set_below (unhide HB) (Nat.le_refl _)
    exact bodyPost_ret (v := .tuple #[.agg #[.int .i64 0, .int .i64 0, .string ⟨#[]⟩, .int .i64 0, .int .i64 0, .int .i64 0, .int .i64 0, .int .i64 0, .int .i64 0, .string ⟨#[]⟩, .int .i64 0], .bool false]) (by simp [results, Tryz.results6, go_sem, r0, r1, r2, r3, r4, r5, r6, r7, r8, r9, r10]) rfl ⟨by rw [unhide hRes]; rfl, hbb⟩
  have hRes := hide (unhide HY ⟨by simp, hp⟩)
  have hq : (TX.toList == s.toList) = true := by rw [hp]; simp
  obtain ⟨⟨q0, q1, q2, q3, q4, q5, q6, q7, q8, q9, q10⟩, _⟩ := eleven_at (unhide HM7)
  clear HU HY HZ hp
  go_wp2_with fail
  refine bodyPost_atE (fun W' hW' => ?_)
  obtain ⟨⟨r0, r1, r2, r3, r4, r5, r6, r7, r8, r9, r10⟩, _⟩ := eleven_at (show W'.heap[w.heap.size]? = some (.cells #[.int .i64 2, .int .i64 na, .string b, .int .i64 nb, .int .i64 0, .int .i64 0, .int .i64 0, .int .i64 0, .int .i64 0, .string ⟨#[]⟩, .int .i64 0] 25 (0, 0)) by rw [hW']; exact eleven_set (unhide HR))
  have hbb : Below w.heap.size w W' := by rw [hW']; exact eleven_set_below (unhide HB) (Nat.le_refl _)
  exact bodyPost_ret (v := .tuple #[.agg #[.int .i64 2, .int .i64 na, .string b, .int .i64 nb, .int .i64 0, .int .i64 0, .int .i64 0, .int .i64 0, .int .i64 0, .string ⟨#[]⟩, .int .i64 0], .bool true]) (by simp [results, Tryz.results6, go_sem, r0, r1, r2, r3, r4, r5, r6, r7, r8, r9, r10]) rfl ⟨by rw [unhide hRes]; rfl, hbb⟩
set_option maxRecDepth 100000 in
set_option maxHeartbeats 4000000 in
theorem implReadOp_k2n5 (s x0 : ByteArray) (a : ByteArray) (b : ByteArray) (c : ByteArray) (d : ByteArray) (t : List ByteArray) (w : World) (hs : s.size ≤ 1048576) (hx : words s = x0 :: a :: b :: c :: d :: t) (hk : kI x0 = 2) (hM : MaxLenIs w) (hH : Handle w) (hT : Tens w) :
    Calls Tryz.prog 6 #[.string s] w fun e w' => e = .returned (.tuple #[opw (roI s).1, .bool (roI s).2]) ∧ Below w.heap.size w w' := by
  obtain ⟨n, hn⟩ : ∃ n, (words s).length = n := ⟨_, rfl⟩
  have hn5 : 5 ≤ n := by rw [← hn, hx]; simp
  have hnm : n ≤ 1048577 := by rw [← hn]; exact words_max s hs
  have hi1 : (1 : Int) ≤ ((n - 1 : Nat) : Int) := by omega
  have hi2 : ¬ n = 2 := by omega
  have HW := hide (fun W (hb : Below w.heap.size w W) => wordsAt s n W hs (hM.below hb) hn)
  rw [hx] at HW
  have hzNA := words_size s a (by rw [hx]; simp)
  have HNA := hide (fun W (hb : Below w.heap.size w W) => implAmount a W (by unfold maxLen; omega) (hH.below hb) (hT.below hb))
  have hO : opI (kI x0) (a :: b :: c :: d :: t) = ⟨kI x0, numB a, ByteArray.empty, 0, zMg⟩ := by
    rw [hk]
    simp [opI]
  have HY := hide (fun h => roI_yes hx (r := a :: b :: c :: d :: t) h)
  have HZ := hide (fun h => roI_no hx (r := a :: b :: c :: d :: t) h)
  have HU := hide (fun h => roI_un hx (r := a :: b :: c :: d :: t) h)
  rw [hO] at HY HZ
  have HOT : Hid (∀ w1 : World, Tens w1 → Calls Tryz.prog 19 #[.agg #[.int .i64 (kI x0), .int .i64 (numB a), .string ⟨#[]⟩, .int .i64 0, .int .i64 0, .int .i64 0, .int .i64 0, .int .i64 0, .int .i64 0, .string ⟨#[]⟩, .int .i64 0]] w1 fun e w' => e = .returned (.string (opTx ⟨kI x0, numB a, ByteArray.empty, 0, zMg⟩)) ∧ Below w1.heap.size w1 w') := fun w1 h => implOpText ⟨kI x0, numB a, ByteArray.empty, 0, zMg⟩ w1 h
  have HK := hide (fun w1 => implKind x0 w1)
  have HTT := hide hT
  clear hO hT hM hH hx hs
  rw [hk] at HY HZ HOT HK
  clear hk
  generalize numB a = na at *
  generalize opTx ⟨2, na, ByteArray.empty, 0, zMg⟩ = TX at *
  generalize decide (0 ≤ kindB x0) = kn at *
  generalize roI s = RES at *
  go_enter Tryz.func6, Tryz.ntmps6
  go_wp2_with fail
  refine (unhide HW _ (below_one w _)).mono ?_
  rintro e w1 ⟨rfl, hc1, hgl, hb1⟩
  have HR1 := hide (blk_step (heap_alloc_new w _) hb1)
  have HB1 := hide ((below_one w _).trans (hb1.mono (by simp)))
  have c0 := hc1 0 (by simp)
  have c1 := hc1 1 (by simp)
  have c2 := hc1 2 (by simp)
  have c3 := hc1 3 (by simp)
  have c4 := hc1 4 (by simp)
  simp only [List.getElem_cons_zero, List.getElem_cons_succ, World.size_alloc] at c0 c1 c2 c3 c4 hgl
  clear hc1 hb1 HW
  go_wp2_with (go_at_call 28; refine (unhide HK _).mono ?_; rintro e w' ⟨rfl, rfl⟩)
  go_region
  go_upto_region 4 with fail
  refine wp_at (fun V hV => ?_)
  have hbn : Below w1.heap.size w1 V := by rw [hV]; exact below_new w1 _
  have HM := hide (show V.heap[w1.heap.size]? = some (.cells #[.int .i64 2, .int .i64 0, .string ⟨#[]⟩, .int .i64 0, .int .i64 0, .int .i64 0, .int .i64 0, .int .i64 0, .int .i64 0, .string ⟨#[]⟩, .int .i64 0] 25 (0, 0)) by rw [hV]; exact heap_alloc_new w1 _)
  have HR := hide (blk_step (unhide HR1) hbn)
  have HB := hide ((unhide HB1).trans (hbn.mono (unhide HB1).size))
  have hgm : w1.heap.size < V.heap.size := blk_lt (unhide HM)
  have v1 : V.cell? ⟨w.heap.size + 1, 1, none⟩ = some (.string a) := (hbn.cell (p := ⟨w.heap.size + 1, 1, none⟩) hgl).trans c1
  have v2 : V.cell? ⟨w.heap.size + 1, 2, none⟩ = some (.string b) := (hbn.cell (p := ⟨w.heap.size + 1, 2, none⟩) hgl).trans c2
  have v3 : V.cell? ⟨w.heap.size + 1, 3, none⟩ = some (.string c) := (hbn.cell (p := ⟨w.heap.size + 1, 3, none⟩) hgl).trans c3
  have v4 : V.cell? ⟨w.heap.size + 1, 4, none⟩ = some (.string d) := (hbn.cell (p := ⟨w.heap.size + 1, 4, none⟩) hgl).trans c4
  clear hV hbn HR1 HB1 c0 c1 c2 c3 c4
  go_upto_region 5 with fail
  have y1 := cell_regrown v1
  clear v1
  have HBG := hide (fun p : Regrown => (unhide HB).trans ((below_regrown V p.d p.os).mono (unhide HB).size))
  refine wp_region_anyG (by kernel_rfl) ?_
  show wpAnyG _ _ _ _ 9 (Array.replicate 9 false) _ _
  refine wpAnyG_pure 4 rfl (by kernel_rfl) (by kernel_rfl) (by kernel_rfl) (fun _ _ _ _ h => h) (fun K hK => ?_)
  go_simp
  first
    | (refine hK _ ?_; clear hK K)
    | (apply Exists.intro
       refine ⟨fun _ => rfl, hK _ ?_⟩
       clear hK K)
  refine wpAnyG_pure 5 rfl (by kernel_rfl) (by kernel_rfl) (by kernel_rfl) (fun _ _ _ _ h => h) (fun K hK => ?_)
  go_simp
  first
    | (refine hK _ ?_; clear hK K)
    | (apply Exists.intro
       refine ⟨fun _ => rfl, hK _ ?_⟩
       clear hK K)
  refine wpAnyG_mixE 7 ?_
  refine wpMixE_take 0 20 rfl (by kernel_rfl) (by kernel_rfl) (by kernel_rfl) (by kernel_rfl) (by kernel_rfl) (fun _ _ _ _ h => h) (fun K hK => ?_)
  go_simp
  first
    | (refine hK _ ?_; clear hK K)
    | (apply Exists.intro
       refine ⟨fun _ => ?_, hK _ ?_⟩
       (fail)
       clear hK K)
  refine wpMixE_take 1 20 rfl (by kernel_rfl) (by kernel_rfl) (by kernel_rfl) (by kernel_rfl) (by kernel_rfl) (fun _ _ _ _ h => h) (fun K hK => ?_)
  go_simp
  first
    | (refine hK _ ?_; clear hK K)
    | (apply Exists.intro
       refine ⟨fun _ => ?_, hK _ ?_⟩
       (fail)
       clear hK K)
  refine wpMixE_take 2 20 rfl (by kernel_rfl) (by kernel_rfl) (by kernel_rfl) (by kernel_rfl) (by kernel_rfl) (fun _ _ _ _ h => h) (fun K hK => ?_)
  go_simp
  first
    | (refine hK _ ?_; clear hK K)
    | (apply Exists.intro
       refine ⟨fun _ => ?_, hK _ ?_⟩
       (fail)
       clear hK K)
  refine wpMixE_take 3 20 rfl (by kernel_rfl) (by kernel_rfl) (by kernel_rfl) (by kernel_rfl) (by kernel_rfl) (fun _ _ _ _ h => h) (fun K hK => ?_)
  go_simp
  first
    | (refine hK _ ?_; clear hK K)
    | (apply Exists.intro
       refine ⟨fun _ => ?_, hK _ ?_⟩
       (exact unhide HNA _ (unhide HBG _))
       clear hK K)
  refine wpMixE_take 6 20 rfl (by kernel_rfl) (by kernel_rfl) (by kernel_rfl) (by kernel_rfl) (by kernel_rfl) (fun _ _ _ _ h => h) (fun K hK => ?_)
  go_simp
  first
    | (refine hK _ ?_; clear hK K)
    | (apply Exists.intro
       refine ⟨fun _ => ?_, hK _ ?_⟩
       (fail)
       clear hK K)
  refine wpMixE_leave (by kernel_rfl) (fun X hX => ?_)
  have HM2 := hide (blk_step (unhide HM) hX)
  have HR2 := hide (blk_step (unhide HR) hX)
  have HB2 := hide ((unhide HB).trans (hX.mono (unhide HB).size))
  have hgx := hX.size
  have x2 := (hX.cell (p := ⟨w.heap.size + 1, 2, none⟩) (show w.heap.size + 1 < V.heap.size by omega)).trans v2
  have x3 := (hX.cell (p := ⟨w.heap.size + 1, 3, none⟩) (show w.heap.size + 1 < V.heap.size by omega)).trans v3
  have x4 := (hX.cell (p := ⟨w.heap.size + 1, 4, none⟩) (show w.heap.size + 1 < V.heap.size by omega)).trans v4
  clear hX y1 HBG HM HR HB v2 v3 v4
  obtain ⟨⟨g0, e1, g2⟩, g3, f1, g4⟩ := eleven_at (unhide HM2)
  clear g0 g2 g3 g4
  refine wpAny_one 7 rfl (by kernel_rfl) (by rfl) ?_
  go_simp
  refine wpAny_one 8 rfl (by kernel_rfl) (by rfl) ?_
  go_simp
  refine wpAny_done (by kernel_rfl) ?_
  go_simp
  go_upto_region 8 with fail
  refine wp_at (fun V2 hV2 => ?_)
  have HM := hide (show V2.heap[w1.heap.size]? = some (.cells #[.int .i64 2, .int .i64 na, .string ⟨#[]⟩, .int .i64 0, .int .i64 0, .int .i64 0, .int .i64 0, .int .i64 0, .int .i64 0, .string ⟨#[]⟩, .int .i64 0] 25 (0, 0)) by rw [hV2]; exact ro_set (unhide HM2) 1 _)
  have HR := hide (show V2.heap[w.heap.size]? = some (.cells #[.int .i64 0, .int .i64 0, .string ⟨#[]⟩, .int .i64 0, .int .i64 0, .int .i64 0, .int .i64 0, .int .i64 0, .int .i64 0, .string ⟨#[]⟩, .int .i64 0] 25 (0, 0)) by rw [hV2]; exact (Below.heap_setCell _ _ _ _ (by show w.heap.size ≠ w1.heap.size; omega)).trans (unhide HR2))
  have HB := hide (show Below w.heap.size w V2 by rw [hV2]; exact (unhide HB2).setCell (by show w.heap.size ≤ w1.heap.size; omega) _)
  clear e1 f1
  have v2 : V2.cell? ⟨w.heap.size + 1, 2, none⟩ = some (.string b) := by rw [hV2]; exact (cell_other (by show w.heap.size + 1 ≠ w1.heap.size; omega)).trans x2
  have v3 : V2.cell? ⟨w.heap.size + 1, 3, none⟩ = some (.string c) := by rw [hV2]; exact (cell_other (by show w.heap.size + 1 ≠ w1.heap.size; omega)).trans x3
  have v4 : V2.cell? ⟨w.heap.size + 1, 4, none⟩ = some (.string d) := by rw [hV2]; exact (cell_other (by show w.heap.size + 1 ≠ w1.heap.size; omega)).trans x4
  have hgm2 : w1.heap.size < V2.heap.size := blk_lt (unhide HM)
  clear hV2 HM2 HR2 HB2 hgx hgm x2 x3 x4
  clear V X
  generalize V2 = V at *
  have hgm := hgm2
  clear hgm2
  have hzR := blk_lt (unhide HR)
  obtain ⟨⟨d0, d1, d2, d3, d4, d5, d6, d7, d8, d9, d10⟩, f0, f1, f2, f3, f4, f5, f6, f7, f8, f9, f10⟩ := eleven_at (unhide HR)
  obtain ⟨⟨q0, q1, q2, q3, q4, q5, q6, q7, q8, q9, q10⟩, _⟩ := eleven_at (unhide HM)
  cases kn
  case' false =>
    have hRes := hide (unhide HU (by simp))
    clear HU HY HZ HOT HM q0 q1 q2 q3 q4 q5 q6 q7 q8 q9 q10
    go_wp2_with fail
    refine bodyPost_atE (fun W' hW' => ?_)
    obtain ⟨⟨r0, r1, r2, r3, r4, r5, r6, r7, r8, r9, r10⟩, _⟩ := eleven_at (show W'.heap[w.heap.size]? = some (.cells #[.int .i64 0, .int .i64 0, .string ⟨#[]⟩, .int .i64 0, .int .i64 0, .int .i64 0, .int .i64 0, .int .i64 0, .int .i64 0, .string ⟨#[]⟩, .int .i64 0] 25 (0, 0)) by rw [hW']; exact eleven_set (unhide HR))
    have hbb : Below w.heap.size w W' := by rw [hW']; exact eleven_set_below (unhide HB) (Nat.le_refl _)
    exact bodyPost_ret (v := .tuple #[.agg #[.int .i64 0, .int .i64 0, .string ⟨#[]⟩, .int .i64 0, .int .i64 0, .int .i64 0, .int .i64 0, .int .i64 0, .int .i64 0, .string ⟨#[]⟩, .int .i64 0], .bool false]) (by simp [results, Tryz.results6, go_sem, r0, r1, r2, r3, r4, r5, r6, r7, r8, r9, r10]) rfl ⟨by rw [unhide hRes]; rfl, hbb⟩
  clear d0 d1 d2 d3 d4 d5 d6 d7 d8 d9 d10 f0 f1 f2 f3 f4 f5 f6 f7 f8 f9 f10
  go_wp2_with fail
  refine (unhide HOT _ ((unhide HTT).below (unhide HB))).mono ?_
  rintro e w7 ⟨rfl, hb7⟩
  have HR7 := hide (blk_step (unhide HR) hb7)
  have HM7 := hide (blk_step (unhide HM) hb7)
  have HB7 := hide ((unhide HB).trans (hb7.mono (unhide HB).size))
  clear hb7 HR HM HB q0 q1 q2 q3 q4 q5 q6 q7 q8 q9 q10 HOT hzR hgm
  have HR := HR7
  have HB := HB7
  clear HR7 HB7
  have hzR := blk_lt (unhide HR)
  have hzM := blk_lt (unhide HM7)
  obtain ⟨⟨d0, d1, d2, d3, d4, d5, d6, d7, d8, d9, d10⟩, f0, f1, f2, f3, f4, f5, f6, f7, f8, f9, f10⟩ := eleven_at (unhide HR)
  by_cases hp : TX = s
  case' neg =>
    have hRes := hide (unhide HZ ⟨by simp, hp⟩)
    have hq := str_ne hp
    clear HU HY HZ HM7 hp
    go_wp2_with fail
    refine bodyPost_atE (fun W' hW' => ?_)
    obtain ⟨⟨r0, r1, r2, r3, r4, r5, r6, r7, r8, r9, r10⟩, _⟩ := eleven_at (show W'.heap[w.heap.size]? = some (.cells #[.int .i64 0, .int .i64 0, .string ⟨#[]⟩, .int .i64 0, .int .i64 0, .int .i64 0, .int .i64 0, .int .i64 0, .int .i64 0, .string ⟨#[]⟩, .int .i64 0] 25 (0, 0)) by rw [hW']; exact eleven_set (unhide HR))
    have hbb : Below w.heap.size w W' := by rw [hW']; exact eleven_set_below (unhide HB) (Nat.le_refl _)
    exact bodyPost_ret (v := .tuple #[.agg #[.int .i64 0, .int .i64 0, .string ⟨#[]⟩, .int .i64 0, .int .i64 0, .int .i64 0, .int .i64 0, .int .i64 0, .int .i64 0, .string ⟨#[]⟩, .int .i64 0], .bool false]) (by simp [results, Tryz.results6, go_sem, r0, r1, r2, r3, r4, r5, r6, r7, r8, r9, r10]) rfl ⟨by rw [unhide hRes]; rfl, hbb⟩
  have hRes := hide (unhide HY ⟨by simp, hp⟩)
  have hq : (TX.toList == s.toList) = true := by rw [hp]; simp
  obtain ⟨⟨q0, q1, q2, q3, q4, q5, q6, q7, q8, q9, q10⟩, _⟩ := eleven_at (unhide HM7)
  clear HU HY HZ hp
  go_wp2_with fail
  refine bodyPost_atE (fun W' hW' => ?_)
  obtain ⟨⟨r0, r1, r2, r3, r4, r5, r6, r7, r8, r9, r10⟩, _⟩ := eleven_at (show W'.heap[w.heap.size]? = some (.cells #[.int .i64 2, .int .i64 na, .string ⟨#[]⟩, .int .i64 0, .int .i64 0, .int .i64 0, .int .i64 0, .int .i64 0, .int .i64 0, .string ⟨#[]⟩, .int .i64 0] 25 (0, 0)) by rw [hW']; exact eleven_set (unhide HR))
  have hbb : Below w.heap.size w W' := by rw [hW']; exact eleven_set_below (unhide HB) (Nat.le_refl _)
  exact bodyPost_ret (v := .tuple #[.agg #[.int .i64 2, .int .i64 na, .string ⟨#[]⟩, .int .i64 0, .int .i64 0, .int .i64 0, .int .i64 0, .int .i64 0, .int .i64 0, .string ⟨#[]⟩, .int .i64 0], .bool true]) (by simp [results, Tryz.results6, go_sem, r0, r1, r2, r3, r4, r5, r6, r7, r8, r9, r10]) rfl ⟨by rw [unhide hRes]; rfl, hbb⟩
set_option maxRecDepth 100000 in
set_option maxHeartbeats 4000000 in
theorem implReadOp_kn1 (s x0 : ByteArray) (w : World) (hs : s.size ≤ 1048576) (hx : words s = [x0]) (hk1 : ¬ kI x0 = 1) (hk2 : ¬ kI x0 = 2) (hM : MaxLenIs w) (_hH : Handle w) (hT : Tens w) :
    Calls Tryz.prog 6 #[.string s] w fun e w' => e = .returned (.tuple #[opw (roI s).1, .bool (roI s).2]) ∧ Below w.heap.size w w' := by
  have hn : (words s).length = 1 := by rw [hx]; rfl
  have HW := hide (fun W (hb : Below w.heap.size w W) => wordsAt s 1 W hs (hM.below hb) hn)
  rw [hx] at HW
  have hO : opI (kI x0) ([]) = ⟨kI x0, 0, ByteArray.empty, 0, zMg⟩ := by
    simp [opI, hk1, hk2]
  have HY := hide (fun h => roI_yes hx (r := []) h)
  have HZ := hide (fun h => roI_no hx (r := []) h)
  have HU := hide (fun h => roI_un hx (r := []) h)
  rw [hO] at HY HZ
  have HOT : Hid (∀ w1 : World, Tens w1 → Calls Tryz.prog 19 #[.agg #[.int .i64 (kI x0), .int .i64 0, .string ⟨#[]⟩, .int .i64 0, .int .i64 0, .int .i64 0, .int .i64 0, .int .i64 0, .int .i64 0, .string ⟨#[]⟩, .int .i64 0]] w1 fun e w' => e = .returned (.string (opTx ⟨kI x0, 0, ByteArray.empty, 0, zMg⟩)) ∧ Below w1.heap.size w1 w') := fun w1 h => implOpText ⟨kI x0, 0, ByteArray.empty, 0, zMg⟩ w1 h
  have HK := hide (fun w1 => implKind x0 w1)
  have HTT := hide hT
  clear hO hT hM _hH hx hs
  generalize kI x0 = k at *
  generalize opTx ⟨k, 0, ByteArray.empty, 0, zMg⟩ = TX at *
  generalize decide (0 ≤ kindB x0) = kn at *
  generalize roI s = RES at *
  go_enter Tryz.func6, Tryz.ntmps6
  go_wp2_with fail
  refine (unhide HW _ (below_one w _)).mono ?_
  rintro e w1 ⟨rfl, hc1, hgl, hb1⟩
  have HR1 := hide (blk_step (heap_alloc_new w _) hb1)
  have HB1 := hide ((below_one w _).trans (hb1.mono (by simp)))
  have c0 := hc1 0 (by simp)
  simp only [List.getElem_cons_zero, World.size_alloc] at c0 hgl
  clear hc1 hb1 HW
  go_wp2_with (go_at_call 28; refine (unhide HK _).mono ?_; rintro e w' ⟨rfl, rfl⟩)
  go_region
  go_upto_region 4 with fail
  refine wp_at (fun V hV => ?_)
  have hbn : Below w1.heap.size w1 V := by rw [hV]; exact below_new w1 _
  have HM := hide (show V.heap[w1.heap.size]? = some (.cells #[.int .i64 k, .int .i64 0, .string ⟨#[]⟩, .int .i64 0, .int .i64 0, .int .i64 0, .int .i64 0, .int .i64 0, .int .i64 0, .string ⟨#[]⟩, .int .i64 0] 25 (0, 0)) by rw [hV]; exact heap_alloc_new w1 _)
  have HR := hide (blk_step (unhide HR1) hbn)
  have HB := hide ((unhide HB1).trans (hbn.mono (unhide HB1).size))
  have hgm : w1.heap.size < V.heap.size := blk_lt (unhide HM)
  clear hV hbn HR1 HB1 c0
  go_upto_region 8 with fail
  have hzR := blk_lt (unhide HR)
  obtain ⟨⟨d0, d1, d2, d3, d4, d5, d6, d7, d8, d9, d10⟩, f0, f1, f2, f3, f4, f5, f6, f7, f8, f9, f10⟩ := eleven_at (unhide HR)
  obtain ⟨⟨q0, q1, q2, q3, q4, q5, q6, q7, q8, q9, q10⟩, _⟩ := eleven_at (unhide HM)
  cases kn
  case' false =>
    have hRes := hide (unhide HU (by simp))
    clear HU HY HZ HOT HM q0 q1 q2 q3 q4 q5 q6 q7 q8 q9 q10
    go_wp2_with fail
    refine bodyPost_atE (fun W' hW' => ?_)
    obtain ⟨⟨r0, r1, r2, r3, r4, r5, r6, r7, r8, r9, r10⟩, _⟩ := eleven_at (show W'.heap[w.heap.size]? = some (.cells #[.int .i64 0, .int .i64 0, .string ⟨#[]⟩, .int .i64 0, .int .i64 0, .int .i64 0, .int .i64 0, .int .i64 0, .int .i64 0, .string ⟨#[]⟩, .int .i64 0] 25 (0, 0)) by rw [hW']; exact eleven_set (unhide HR))
    have hbb : Below w.heap.size w W' := by rw [hW']; exact eleven_set_below (unhide HB) (Nat.le_refl _)
    exact bodyPost_ret (v := .tuple #[.agg #[.int .i64 0, .int .i64 0, .string ⟨#[]⟩, .int .i64 0, .int .i64 0, .int .i64 0, .int .i64 0, .int .i64 0, .int .i64 0, .string ⟨#[]⟩, .int .i64 0], .bool false]) (by simp [results, Tryz.results6, go_sem, r0, r1, r2, r3, r4, r5, r6, r7, r8, r9, r10]) rfl ⟨by rw [unhide hRes]; rfl, hbb⟩
  clear d0 d1 d2 d3 d4 d5 d6 d7 d8 d9 d10 f0 f1 f2 f3 f4 f5 f6 f7 f8 f9 f10
  go_wp2_with fail
  refine (unhide HOT _ ((unhide HTT).below (unhide HB))).mono ?_
  rintro e w7 ⟨rfl, hb7⟩
  have HR7 := hide (blk_step (unhide HR) hb7)
  have HM7 := hide (blk_step (unhide HM) hb7)
  have HB7 := hide ((unhide HB).trans (hb7.mono (unhide HB).size))
  clear hb7 HR HM HB q0 q1 q2 q3 q4 q5 q6 q7 q8 q9 q10 HOT hzR hgm
  have HR := HR7
  have HB := HB7
  clear HR7 HB7
  have hzR := blk_lt (unhide HR)
  have hzM := blk_lt (unhide HM7)
  obtain ⟨⟨d0, d1, d2, d3, d4, d5, d6, d7, d8, d9, d10⟩, f0, f1, f2, f3, f4, f5, f6, f7, f8, f9, f10⟩ := eleven_at (unhide HR)
  by_cases hp : TX = s
  case' neg =>
    have hRes := hide (unhide HZ ⟨by simp, hp⟩)
    have hq := str_ne hp
    clear HU HY HZ HM7 hp
    go_wp2_with fail
    refine bodyPost_atE (fun W' hW' => ?_)
    obtain ⟨⟨r0, r1, r2, r3, r4, r5, r6, r7, r8, r9, r10⟩, _⟩ := eleven_at (show W'.heap[w.heap.size]? = some (.cells #[.int .i64 0, .int .i64 0, .string ⟨#[]⟩, .int .i64 0, .int .i64 0, .int .i64 0, .int .i64 0, .int .i64 0, .int .i64 0, .string ⟨#[]⟩, .int .i64 0] 25 (0, 0)) by rw [hW']; exact eleven_set (unhide HR))
    have hbb : Below w.heap.size w W' := by rw [hW']; exact eleven_set_below (unhide HB) (Nat.le_refl _)
    exact bodyPost_ret (v := .tuple #[.agg #[.int .i64 0, .int .i64 0, .string ⟨#[]⟩, .int .i64 0, .int .i64 0, .int .i64 0, .int .i64 0, .int .i64 0, .int .i64 0, .string ⟨#[]⟩, .int .i64 0], .bool false]) (by simp [results, Tryz.results6, go_sem, r0, r1, r2, r3, r4, r5, r6, r7, r8, r9, r10]) rfl ⟨by rw [unhide hRes]; rfl, hbb⟩
  have hRes := hide (unhide HY ⟨by simp, hp⟩)
  have hq : (TX.toList == s.toList) = true := by rw [hp]; simp
  obtain ⟨⟨q0, q1, q2, q3, q4, q5, q6, q7, q8, q9, q10⟩, _⟩ := eleven_at (unhide HM7)
  clear HU HY HZ hp
  go_wp2_with fail
  refine bodyPost_atE (fun W' hW' => ?_)
  obtain ⟨⟨r0, r1, r2, r3, r4, r5, r6, r7, r8, r9, r10⟩, _⟩ := eleven_at (show W'.heap[w.heap.size]? = some (.cells #[.int .i64 k, .int .i64 0, .string ⟨#[]⟩, .int .i64 0, .int .i64 0, .int .i64 0, .int .i64 0, .int .i64 0, .int .i64 0, .string ⟨#[]⟩, .int .i64 0] 25 (0, 0)) by rw [hW']; exact eleven_set (unhide HR))
  have hbb : Below w.heap.size w W' := by rw [hW']; exact eleven_set_below (unhide HB) (Nat.le_refl _)
  exact bodyPost_ret (v := .tuple #[.agg #[.int .i64 k, .int .i64 0, .string ⟨#[]⟩, .int .i64 0, .int .i64 0, .int .i64 0, .int .i64 0, .int .i64 0, .int .i64 0, .string ⟨#[]⟩, .int .i64 0], .bool true]) (by simp [results, Tryz.results6, go_sem, r0, r1, r2, r3, r4, r5, r6, r7, r8, r9, r10]) rfl ⟨by rw [unhide hRes]; rfl, hbb⟩
set_option maxRecDepth 100000 in
set_option maxHeartbeats 4000000 in
theorem implReadOp_kn2 (s x0 : ByteArray) (a : ByteArray) (w : World) (hs : s.size ≤ 1048576) (hx : words s = [x0, a]) (hk1 : ¬ kI x0 = 1) (hk2 : ¬ kI x0 = 2) (hM : MaxLenIs w) (_hH : Handle w) (hT : Tens w) :
    Calls Tryz.prog 6 #[.string s] w fun e w' => e = .returned (.tuple #[opw (roI s).1, .bool (roI s).2]) ∧ Below w.heap.size w w' := by
  have hn : (words s).length = 2 := by rw [hx]; rfl
  have HW := hide (fun W (hb : Below w.heap.size w W) => wordsAt s 2 W hs (hM.below hb) hn)
  rw [hx] at HW
  have hO : opI (kI x0) ([a]) = ⟨kI x0, 0, ByteArray.empty, 0, zMg⟩ := by
    simp [opI, hk1, hk2]
  have HY := hide (fun h => roI_yes hx (r := [a]) h)
  have HZ := hide (fun h => roI_no hx (r := [a]) h)
  have HU := hide (fun h => roI_un hx (r := [a]) h)
  rw [hO] at HY HZ
  have HOT : Hid (∀ w1 : World, Tens w1 → Calls Tryz.prog 19 #[.agg #[.int .i64 (kI x0), .int .i64 0, .string ⟨#[]⟩, .int .i64 0, .int .i64 0, .int .i64 0, .int .i64 0, .int .i64 0, .int .i64 0, .string ⟨#[]⟩, .int .i64 0]] w1 fun e w' => e = .returned (.string (opTx ⟨kI x0, 0, ByteArray.empty, 0, zMg⟩)) ∧ Below w1.heap.size w1 w') := fun w1 h => implOpText ⟨kI x0, 0, ByteArray.empty, 0, zMg⟩ w1 h
  have HK := hide (fun w1 => implKind x0 w1)
  have HTT := hide hT
  clear hO hT hM _hH hx hs
  generalize kI x0 = k at *
  generalize opTx ⟨k, 0, ByteArray.empty, 0, zMg⟩ = TX at *
  generalize decide (0 ≤ kindB x0) = kn at *
  generalize roI s = RES at *
  go_enter Tryz.func6, Tryz.ntmps6
  go_wp2_with fail
  refine (unhide HW _ (below_one w _)).mono ?_
  rintro e w1 ⟨rfl, hc1, hgl, hb1⟩
  have HR1 := hide (blk_step (heap_alloc_new w _) hb1)
  have HB1 := hide ((below_one w _).trans (hb1.mono (by simp)))
  have c0 := hc1 0 (by simp)
  have c1 := hc1 1 (by simp)
  simp only [List.getElem_cons_zero, List.getElem_cons_succ, World.size_alloc] at c0 c1 hgl
  clear hc1 hb1 HW
  go_wp2_with (go_at_call 28; refine (unhide HK _).mono ?_; rintro e w' ⟨rfl, rfl⟩)
  go_region
  go_upto_region 4 with fail
  refine wp_at (fun V hV => ?_)
  have hbn : Below w1.heap.size w1 V := by rw [hV]; exact below_new w1 _
  have HM := hide (show V.heap[w1.heap.size]? = some (.cells #[.int .i64 k, .int .i64 0, .string ⟨#[]⟩, .int .i64 0, .int .i64 0, .int .i64 0, .int .i64 0, .int .i64 0, .int .i64 0, .string ⟨#[]⟩, .int .i64 0] 25 (0, 0)) by rw [hV]; exact heap_alloc_new w1 _)
  have HR := hide (blk_step (unhide HR1) hbn)
  have HB := hide ((unhide HB1).trans (hbn.mono (unhide HB1).size))
  have hgm : w1.heap.size < V.heap.size := blk_lt (unhide HM)
  have v1 : V.cell? ⟨w.heap.size + 1, 1, none⟩ = some (.string a) := (hbn.cell (p := ⟨w.heap.size + 1, 1, none⟩) hgl).trans c1
  clear hV hbn HR1 HB1 c0 c1
  go_upto_region 8 with fail
  have hzR := blk_lt (unhide HR)
  obtain ⟨⟨d0, d1, d2, d3, d4, d5, d6, d7, d8, d9, d10⟩, f0, f1, f2, f3, f4, f5, f6, f7, f8, f9, f10⟩ := eleven_at (unhide HR)
  obtain ⟨⟨q0, q1, q2, q3, q4, q5, q6, q7, q8, q9, q10⟩, _⟩ := eleven_at (unhide HM)
  cases kn
  case' false =>
    have hRes := hide (unhide HU (by simp))
    clear HU HY HZ HOT HM q0 q1 q2 q3 q4 q5 q6 q7 q8 q9 q10
    go_wp2_with fail
    refine bodyPost_atE (fun W' hW' => ?_)
    obtain ⟨⟨r0, r1, r2, r3, r4, r5, r6, r7, r8, r9, r10⟩, _⟩ := eleven_at (show W'.heap[w.heap.size]? = some (.cells #[.int .i64 0, .int .i64 0, .string ⟨#[]⟩, .int .i64 0, .int .i64 0, .int .i64 0, .int .i64 0, .int .i64 0, .int .i64 0, .string ⟨#[]⟩, .int .i64 0] 25 (0, 0)) by rw [hW']; exact eleven_set (unhide HR))
    have hbb : Below w.heap.size w W' := by rw [hW']; exact eleven_set_below (unhide HB) (Nat.le_refl _)
    exact bodyPost_ret (v := .tuple #[.agg #[.int .i64 0, .int .i64 0, .string ⟨#[]⟩, .int .i64 0, .int .i64 0, .int .i64 0, .int .i64 0, .int .i64 0, .int .i64 0, .string ⟨#[]⟩, .int .i64 0], .bool false]) (by simp [results, Tryz.results6, go_sem, r0, r1, r2, r3, r4, r5, r6, r7, r8, r9, r10]) rfl ⟨by rw [unhide hRes]; rfl, hbb⟩
  clear d0 d1 d2 d3 d4 d5 d6 d7 d8 d9 d10 f0 f1 f2 f3 f4 f5 f6 f7 f8 f9 f10
  go_wp2_with fail
  refine (unhide HOT _ ((unhide HTT).below (unhide HB))).mono ?_
  rintro e w7 ⟨rfl, hb7⟩
  have HR7 := hide (blk_step (unhide HR) hb7)
  have HM7 := hide (blk_step (unhide HM) hb7)
  have HB7 := hide ((unhide HB).trans (hb7.mono (unhide HB).size))
  clear hb7 HR HM HB q0 q1 q2 q3 q4 q5 q6 q7 q8 q9 q10 HOT hzR hgm
  have HR := HR7
  have HB := HB7
  clear HR7 HB7
  have hzR := blk_lt (unhide HR)
  have hzM := blk_lt (unhide HM7)
  obtain ⟨⟨d0, d1, d2, d3, d4, d5, d6, d7, d8, d9, d10⟩, f0, f1, f2, f3, f4, f5, f6, f7, f8, f9, f10⟩ := eleven_at (unhide HR)
  by_cases hp : TX = s
  case' neg =>
    have hRes := hide (unhide HZ ⟨by simp, hp⟩)
    have hq := str_ne hp
    clear HU HY HZ HM7 hp
    go_wp2_with fail
    refine bodyPost_atE (fun W' hW' => ?_)
    obtain ⟨⟨r0, r1, r2, r3, r4, r5, r6, r7, r8, r9, r10⟩, _⟩ := eleven_at (show W'.heap[w.heap.size]? = some (.cells #[.int .i64 0, .int .i64 0, .string ⟨#[]⟩, .int .i64 0, .int .i64 0, .int .i64 0, .int .i64 0, .int .i64 0, .int .i64 0, .string ⟨#[]⟩, .int .i64 0] 25 (0, 0)) by rw [hW']; exact eleven_set (unhide HR))
    have hbb : Below w.heap.size w W' := by rw [hW']; exact eleven_set_below (unhide HB) (Nat.le_refl _)
    exact bodyPost_ret (v := .tuple #[.agg #[.int .i64 0, .int .i64 0, .string ⟨#[]⟩, .int .i64 0, .int .i64 0, .int .i64 0, .int .i64 0, .int .i64 0, .int .i64 0, .string ⟨#[]⟩, .int .i64 0], .bool false]) (by simp [results, Tryz.results6, go_sem, r0, r1, r2, r3, r4, r5, r6, r7, r8, r9, r10]) rfl ⟨by rw [unhide hRes]; rfl, hbb⟩
  have hRes := hide (unhide HY ⟨by simp, hp⟩)
  have hq : (TX.toList == s.toList) = true := by rw [hp]; simp
  obtain ⟨⟨q0, q1, q2, q3, q4, q5, q6, q7, q8, q9, q10⟩, _⟩ := eleven_at (unhide HM7)
  clear HU HY HZ hp
  go_wp2_with fail
  refine bodyPost_atE (fun W' hW' => ?_)
  obtain ⟨⟨r0, r1, r2, r3, r4, r5, r6, r7, r8, r9, r10⟩, _⟩ := eleven_at (show W'.heap[w.heap.size]? = some (.cells #[.int .i64 k, .int .i64 0, .string ⟨#[]⟩, .int .i64 0, .int .i64 0, .int .i64 0, .int .i64 0, .int .i64 0, .int .i64 0, .string ⟨#[]⟩, .int .i64 0] 25 (0, 0)) by rw [hW']; exact eleven_set (unhide HR))
  have hbb : Below w.heap.size w W' := by rw [hW']; exact eleven_set_below (unhide HB) (Nat.le_refl _)
  exact bodyPost_ret (v := .tuple #[.agg #[.int .i64 k, .int .i64 0, .string ⟨#[]⟩, .int .i64 0, .int .i64 0, .int .i64 0, .int .i64 0, .int .i64 0, .int .i64 0, .string ⟨#[]⟩, .int .i64 0], .bool true]) (by simp [results, Tryz.results6, go_sem, r0, r1, r2, r3, r4, r5, r6, r7, r8, r9, r10]) rfl ⟨by rw [unhide hRes]; rfl, hbb⟩
set_option maxRecDepth 100000 in
set_option maxHeartbeats 4000000 in
theorem implReadOp_kn3 (s x0 : ByteArray) (a : ByteArray) (b : ByteArray) (w : World) (hs : s.size ≤ 1048576) (hx : words s = [x0, a, b]) (hk1 : ¬ kI x0 = 1) (hk2 : ¬ kI x0 = 2) (hM : MaxLenIs w) (hH : Handle w) (hT : Tens w) :
    Calls Tryz.prog 6 #[.string s] w fun e w' => e = .returned (.tuple #[opw (roI s).1, .bool (roI s).2]) ∧ Below w.heap.size w w' := by
  have hn : (words s).length = 3 := by rw [hx]; rfl
  have HW := hide (fun W (hb : Below w.heap.size w W) => wordsAt s 3 W hs (hM.below hb) hn)
  rw [hx] at HW
  have hzNB := words_size s b (by rw [hx]; simp)
  have HNB := hide (fun W (hb : Below w.heap.size w W) => implAmount b W (by unfold maxLen; omega) (hH.below hb) (hT.below hb))
  have hO : opI (kI x0) ([a, b]) = ⟨kI x0, 0, a, numB b, zMg⟩ := by
    simp [opI, hk1, hk2]
  have HY := hide (fun h => roI_yes hx (r := [a, b]) h)
  have HZ := hide (fun h => roI_no hx (r := [a, b]) h)
  have HU := hide (fun h => roI_un hx (r := [a, b]) h)
  rw [hO] at HY HZ
  have HOT : Hid (∀ w1 : World, Tens w1 → Calls Tryz.prog 19 #[.agg #[.int .i64 (kI x0), .int .i64 0, .string a, .int .i64 (numB b), .int .i64 0, .int .i64 0, .int .i64 0, .int .i64 0, .int .i64 0, .string ⟨#[]⟩, .int .i64 0]] w1 fun e w' => e = .returned (.string (opTx ⟨kI x0, 0, a, numB b, zMg⟩)) ∧ Below w1.heap.size w1 w') := fun w1 h => implOpText ⟨kI x0, 0, a, numB b, zMg⟩ w1 h
  have HK := hide (fun w1 => implKind x0 w1)
  have HTT := hide hT
  clear hO hT hM hH hx hs
  generalize kI x0 = k at *
  generalize numB b = nb at *
  generalize opTx ⟨k, 0, a, nb, zMg⟩ = TX at *
  generalize decide (0 ≤ kindB x0) = kn at *
  generalize roI s = RES at *
  go_enter Tryz.func6, Tryz.ntmps6
  go_wp2_with fail
  refine (unhide HW _ (below_one w _)).mono ?_
  rintro e w1 ⟨rfl, hc1, hgl, hb1⟩
  have HR1 := hide (blk_step (heap_alloc_new w _) hb1)
  have HB1 := hide ((below_one w _).trans (hb1.mono (by simp)))
  have c0 := hc1 0 (by simp)
  have c1 := hc1 1 (by simp)
  have c2 := hc1 2 (by simp)
  simp only [List.getElem_cons_zero, List.getElem_cons_succ, World.size_alloc] at c0 c1 c2 hgl
  clear hc1 hb1 HW
  go_wp2_with (go_at_call 28; refine (unhide HK _).mono ?_; rintro e w' ⟨rfl, rfl⟩)
  go_region
  go_upto_region 4 with fail
  refine wp_at (fun V hV => ?_)
  have hbn : Below w1.heap.size w1 V := by rw [hV]; exact below_new w1 _
  have HM := hide (show V.heap[w1.heap.size]? = some (.cells #[.int .i64 k, .int .i64 0, .string ⟨#[]⟩, .int .i64 0, .int .i64 0, .int .i64 0, .int .i64 0, .int .i64 0, .int .i64 0, .string ⟨#[]⟩, .int .i64 0] 25 (0, 0)) by rw [hV]; exact heap_alloc_new w1 _)
  have HR := hide (blk_step (unhide HR1) hbn)
  have HB := hide ((unhide HB1).trans (hbn.mono (unhide HB1).size))
  have hgm : w1.heap.size < V.heap.size := blk_lt (unhide HM)
  have v1 : V.cell? ⟨w.heap.size + 1, 1, none⟩ = some (.string a) := (hbn.cell (p := ⟨w.heap.size + 1, 1, none⟩) hgl).trans c1
  have v2 : V.cell? ⟨w.heap.size + 1, 2, none⟩ = some (.string b) := (hbn.cell (p := ⟨w.heap.size + 1, 2, none⟩) hgl).trans c2
  clear hV hbn HR1 HB1 c0 c1 c2
  go_upto_region 7 with fail
  have y1 := cell_regrown v1
  have y2 := cell_regrown v2
  clear v1 v2
  have HBG := hide (fun p : Regrown => (unhide HB).trans ((below_regrown V p.d p.os).mono (unhide HB).size))
  refine wp_region_mixE 8 (by kernel_rfl) ?_
  show wpMixE _ _ _ _ _ 11 (Array.replicate 11 false) _ _
  refine wpMixE_take 0 20 rfl (by kernel_rfl) (by kernel_rfl) (by kernel_rfl) (by kernel_rfl) (by kernel_rfl) (fun _ _ _ _ h => h) (fun K hK => ?_)
  go_simp
  first
    | (refine hK _ ?_; clear hK K)
    | (apply Exists.intro
       refine ⟨fun _ => ?_, hK _ ?_⟩
       (fail)
       clear hK K)
  refine wpMixE_take 1 20 rfl (by kernel_rfl) (by kernel_rfl) (by kernel_rfl) (by kernel_rfl) (by kernel_rfl) (fun _ _ _ _ h => h) (fun K hK => ?_)
  go_simp
  first
    | (refine hK _ ?_; clear hK K)
    | (apply Exists.intro
       refine ⟨fun _ => ?_, hK _ ?_⟩
       (fail)
       clear hK K)
  refine wpMixE_take 2 20 rfl (by kernel_rfl) (by kernel_rfl) (by kernel_rfl) (by kernel_rfl) (by kernel_rfl) (fun _ _ _ _ h => h) (fun K hK => ?_)
  go_simp
  first
    | (refine hK _ ?_; clear hK K)
    | (apply Exists.intro
       refine ⟨fun _ => ?_, hK _ ?_⟩
       (fail)
       clear hK K)
  refine wpMixE_take 3 20 rfl (by kernel_rfl) (by kernel_rfl) (by kernel_rfl) (by kernel_rfl) (by kernel_rfl) (fun _ _ _ _ h => h) (fun K hK => ?_)
  go_simp
  first
    | (refine hK _ ?_; clear hK K)
    | (apply Exists.intro
       refine ⟨fun _ => ?_, hK _ ?_⟩
       (fail)
       clear hK K)
  refine wpMixE_take 4 20 rfl (by kernel_rfl) (by kernel_rfl) (by kernel_rfl) (by kernel_rfl) (by kernel_rfl) (fun _ _ _ _ h => h) (fun K hK => ?_)
  go_simp
  first
    | (refine hK _ ?_; clear hK K)
    | (apply Exists.intro
       refine ⟨fun _ => ?_, hK _ ?_⟩
       (fail)
       clear hK K)
  refine wpMixE_take 5 20 rfl (by kernel_rfl) (by kernel_rfl) (by kernel_rfl) (by kernel_rfl) (by kernel_rfl) (fun _ _ _ _ h => h) (fun K hK => ?_)
  go_simp
  first
    | (refine hK _ ?_; clear hK K)
    | (apply Exists.intro
       refine ⟨fun _ => ?_, hK _ ?_⟩
       (fail)
       clear hK K)
  refine wpMixE_take 6 20 rfl (by kernel_rfl) (by kernel_rfl) (by kernel_rfl) (by kernel_rfl) (by kernel_rfl) (fun _ _ _ _ h => h) (fun K hK => ?_)
  go_simp
  first
    | (refine hK _ ?_; clear hK K)
    | (apply Exists.intro
       refine ⟨fun _ => ?_, hK _ ?_⟩
       (exact unhide HNB _ (unhide HBG _))
       clear hK K)
  refine wpMixE_take 7 20 rfl (by kernel_rfl) (by kernel_rfl) (by kernel_rfl) (by kernel_rfl) (by kernel_rfl) (fun _ _ _ _ h => h) (fun K hK => ?_)
  go_simp
  first
    | (refine hK _ ?_; clear hK K)
    | (apply Exists.intro
       refine ⟨fun _ => ?_, hK _ ?_⟩
       (fail)
       clear hK K)
  refine wpMixE_leave (by kernel_rfl) (fun X hX => ?_)
  have HM2 := hide (blk_step (unhide HM) hX)
  have HR2 := hide (blk_step (unhide HR) hX)
  have HB2 := hide ((unhide HB).trans (hX.mono (unhide HB).size))
  have hgx := hX.size
  clear hX y1 y2 HBG HM HR HB
  obtain ⟨⟨g0, g1, e2, e3, g2⟩, g3, g5, f2, f3, g4⟩ := eleven_at (unhide HM2)
  clear g0 g1 g2 g3 g4 g5
  refine wpAny_one 8 rfl (by kernel_rfl) (by rfl) ?_
  go_simp
  refine wpAny_one 9 rfl (by kernel_rfl) (by rfl) ?_
  go_simp
  refine wpAny_one 10 rfl (by kernel_rfl) (by rfl) ?_
  go_simp
  refine wpAny_done (by kernel_rfl) ?_
  go_simp
  go_upto_region 8 with fail
  refine wp_at (fun V2 hV2 => ?_)
  have HM := hide (show V2.heap[w1.heap.size]? = some (.cells #[.int .i64 k, .int .i64 0, .string a, .int .i64 nb, .int .i64 0, .int .i64 0, .int .i64 0, .int .i64 0, .int .i64 0, .string ⟨#[]⟩, .int .i64 0] 25 (0, 0)) by rw [hV2]; exact ro_set (ro_set (unhide HM2) 2 _) 3 _)
  have HR := hide (show V2.heap[w.heap.size]? = some (.cells #[.int .i64 0, .int .i64 0, .string ⟨#[]⟩, .int .i64 0, .int .i64 0, .int .i64 0, .int .i64 0, .int .i64 0, .int .i64 0, .string ⟨#[]⟩, .int .i64 0] 25 (0, 0)) by rw [hV2]; exact (Below.heap_setCell _ _ _ _ (by show w.heap.size ≠ w1.heap.size; omega)).trans ((Below.heap_setCell _ _ _ _ (by show w.heap.size ≠ w1.heap.size; omega)).trans (unhide HR2)))
  have HB := hide (show Below w.heap.size w V2 by rw [hV2]; exact ((unhide HB2).setCell (by show w.heap.size ≤ w1.heap.size; omega) _).setCell (by show w.heap.size ≤ w1.heap.size; omega) _)
  have hgm2 : w1.heap.size < V2.heap.size := blk_lt (unhide HM)
  clear hV2 HM2 HR2 HB2 hgx hgm e2 e3 f2 f3
  clear V X
  generalize V2 = V at *
  have hgm := hgm2
  clear hgm2
  have hzR := blk_lt (unhide HR)
  obtain ⟨⟨d0, d1, d2, d3, d4, d5, d6, d7, d8, d9, d10⟩, f0, f1, f2, f3, f4, f5, f6, f7, f8, f9, f10⟩ := eleven_at (unhide HR)
  obtain ⟨⟨q0, q1, q2, q3, q4, q5, q6, q7, q8, q9, q10⟩, _⟩ := eleven_at (unhide HM)
  cases kn
  case' false =>
    have hRes := hide (unhide HU (by simp))
    clear HU HY HZ HOT HM q0 q1 q2 q3 q4 q5 q6 q7 q8 q9 q10
    go_wp2_with fail
    refine bodyPost_atE (fun W' hW' => ?_)
    obtain ⟨⟨r0, r1, r2, r3, r4, r5, r6, r7, r8, r9, r10⟩, _⟩ := eleven_at (show W'.heap[w.heap.size]? = some (.cells #[.int .i64 0, .int .i64 0, .string ⟨#[]⟩, .int .i64 0, .int .i64 0, .int .i64 0, .int .i64 0, .int .i64 0, .int .i64 0, .string ⟨#[]⟩, .int .i64 0] 25 (0, 0)) by rw [hW']; exact eleven_set (unhide HR))
    have hbb : Below w.heap.size w W' := by rw [hW']; exact eleven_set_below (unhide HB) (Nat.le_refl _)
    exact bodyPost_ret (v := .tuple #[.agg #[.int .i64 0, .int .i64 0, .string ⟨#[]⟩, .int .i64 0, .int .i64 0, .int .i64 0, .int .i64 0, .int .i64 0, .int .i64 0, .string ⟨#[]⟩, .int .i64 0], .bool false]) (by simp [results, Tryz.results6, go_sem, r0, r1, r2, r3, r4, r5, r6, r7, r8, r9, r10]) rfl ⟨by rw [unhide hRes]; rfl, hbb⟩
  clear d0 d1 d2 d3 d4 d5 d6 d7 d8 d9 d10 f0 f1 f2 f3 f4 f5 f6 f7 f8 f9 f10
  go_wp2_with fail
  refine (unhide HOT _ ((unhide HTT).below (unhide HB))).mono ?_
  rintro e w7 ⟨rfl, hb7⟩
  have HR7 := hide (blk_step (unhide HR) hb7)
  have HM7 := hide (blk_step (unhide HM) hb7)
  have HB7 := hide ((unhide HB).trans (hb7.mono (unhide HB).size))
  clear hb7 HR HM HB q0 q1 q2 q3 q4 q5 q6 q7 q8 q9 q10 HOT hzR hgm
  have HR := HR7
  have HB := HB7
  clear HR7 HB7
  have hzR := blk_lt (unhide HR)
  have hzM := blk_lt (unhide HM7)
  obtain ⟨⟨d0, d1, d2, d3, d4, d5, d6, d7, d8, d9, d10⟩, f0, f1, f2, f3, f4, f5, f6, f7, f8, f9, f10⟩ := eleven_at (unhide HR)
  by_cases hp : TX = s
  case' neg =>
    have hRes := hide (unhide HZ ⟨by simp, hp⟩)
    have hq := str_ne hp
    clear HU HY HZ HM7 hp
    go_wp2_with fail
    refine bodyPost_atE (fun W' hW' => ?_)
    obtain ⟨⟨r0, r1, r2, r3, r4, r5, r6, r7, r8, r9, r10⟩, _⟩ := eleven_at (show W'.heap[w.heap.size]? = some (.cells #[.int .i64 0, .int .i64 0, .string ⟨#[]⟩, .int .i64 0, .int .i64 0, .int .i64 0, .int .i64 0, .int .i64 0, .int .i64 0, .string ⟨#[]⟩, .int .i64 0] 25 (0, 0)) by rw [hW']; exact eleven_set (unhide HR))
    have hbb : Below w.heap.size w W' := by rw [hW']; exact eleven_set_below (unhide HB) (Nat.le_refl _)
    exact bodyPost_ret (v := .tuple #[.agg #[.int .i64 0, .int .i64 0, .string ⟨#[]⟩, .int .i64 0, .int .i64 0, .int .i64 0, .int .i64 0, .int .i64 0, .int .i64 0, .string ⟨#[]⟩, .int .i64 0], .bool false]) (by simp [results, Tryz.results6, go_sem, r0, r1, r2, r3, r4, r5, r6, r7, r8, r9, r10]) rfl ⟨by rw [unhide hRes]; rfl, hbb⟩
  have hRes := hide (unhide HY ⟨by simp, hp⟩)
  have hq : (TX.toList == s.toList) = true := by rw [hp]; simp
  obtain ⟨⟨q0, q1, q2, q3, q4, q5, q6, q7, q8, q9, q10⟩, _⟩ := eleven_at (unhide HM7)
  clear HU HY HZ hp
  go_wp2_with fail
  refine bodyPost_atE (fun W' hW' => ?_)
  obtain ⟨⟨r0, r1, r2, r3, r4, r5, r6, r7, r8, r9, r10⟩, _⟩ := eleven_at (show W'.heap[w.heap.size]? = some (.cells #[.int .i64 k, .int .i64 0, .string a, .int .i64 nb, .int .i64 0, .int .i64 0, .int .i64 0, .int .i64 0, .int .i64 0, .string ⟨#[]⟩, .int .i64 0] 25 (0, 0)) by rw [hW']; exact eleven_set (unhide HR))
  have hbb : Below w.heap.size w W' := by rw [hW']; exact eleven_set_below (unhide HB) (Nat.le_refl _)
  exact bodyPost_ret (v := .tuple #[.agg #[.int .i64 k, .int .i64 0, .string a, .int .i64 nb, .int .i64 0, .int .i64 0, .int .i64 0, .int .i64 0, .int .i64 0, .string ⟨#[]⟩, .int .i64 0], .bool true]) (by simp [results, Tryz.results6, go_sem, r0, r1, r2, r3, r4, r5, r6, r7, r8, r9, r10]) rfl ⟨by rw [unhide hRes]; rfl, hbb⟩
set_option maxRecDepth 100000 in
set_option maxHeartbeats 4000000 in
theorem implReadOp_kn4 (s x0 : ByteArray) (a : ByteArray) (b : ByteArray) (c : ByteArray) (t : List ByteArray) (w : World) (hs : s.size ≤ 1048576) (hx : words s = x0 :: a :: b :: c :: t) (hk1 : ¬ kI x0 = 1) (hk2 : ¬ kI x0 = 2) (hM : MaxLenIs w) (_hH : Handle w) (hT : Tens w) :
    Calls Tryz.prog 6 #[.string s] w fun e w' => e = .returned (.tuple #[opw (roI s).1, .bool (roI s).2]) ∧ Below w.heap.size w w' := by
  obtain ⟨n, hn⟩ : ∃ n, (words s).length = n := ⟨_, rfl⟩
  have hn5 : 4 ≤ n := by rw [← hn, hx]; simp
  have hnm : n ≤ 1048577 := by rw [← hn]; exact words_max s hs
  have hi1 : (1 : Int) ≤ ((n - 1 : Nat) : Int) := by omega
  have hi2 : ¬ n = 2 := by omega
  have HW := hide (fun W (hb : Below w.heap.size w W) => wordsAt s n W hs (hM.below hb) hn)
  rw [hx] at HW
  have hO : opI (kI x0) (a :: b :: c :: t) = ⟨kI x0, 0, ByteArray.empty, 0, zMg⟩ := by
    simp [opI, hk1, hk2]
  have HY := hide (fun h => roI_yes hx (r := a :: b :: c :: t) h)
  have HZ := hide (fun h => roI_no hx (r := a :: b :: c :: t) h)
  have HU := hide (fun h => roI_un hx (r := a :: b :: c :: t) h)
  rw [hO] at HY HZ
  have HOT : Hid (∀ w1 : World, Tens w1 → Calls Tryz.prog 19 #[.agg #[.int .i64 (kI x0), .int .i64 0, .string ⟨#[]⟩, .int .i64 0, .int .i64 0, .int .i64 0, .int .i64 0, .int .i64 0, .int .i64 0, .string ⟨#[]⟩, .int .i64 0]] w1 fun e w' => e = .returned (.string (opTx ⟨kI x0, 0, ByteArray.empty, 0, zMg⟩)) ∧ Below w1.heap.size w1 w') := fun w1 h => implOpText ⟨kI x0, 0, ByteArray.empty, 0, zMg⟩ w1 h
  have HK := hide (fun w1 => implKind x0 w1)
  have HTT := hide hT
  clear hO hT hM _hH hx hs
  generalize kI x0 = k at *
  generalize opTx ⟨k, 0, ByteArray.empty, 0, zMg⟩ = TX at *
  generalize decide (0 ≤ kindB x0) = kn at *
  generalize roI s = RES at *
  go_enter Tryz.func6, Tryz.ntmps6
  go_wp2_with fail
  refine (unhide HW _ (below_one w _)).mono ?_
  rintro e w1 ⟨rfl, hc1, hgl, hb1⟩
  have HR1 := hide (blk_step (heap_alloc_new w _) hb1)
  have HB1 := hide ((below_one w _).trans (hb1.mono (by simp)))
  have c0 := hc1 0 (by simp)
  have c1 := hc1 1 (by simp)
  have c2 := hc1 2 (by simp)
  have c3 := hc1 3 (by simp)
  simp only [List.getElem_cons_zero, List.getElem_cons_succ, World.size_alloc] at c0 c1 c2 c3 hgl
  clear hc1 hb1 HW
  go_wp2_with (go_at_call 28; refine (unhide HK _).mono ?_; rintro e w' ⟨rfl, rfl⟩)
  go_region
  go_upto_region 4 with fail
  refine wp_at (fun V hV => ?_)
  have hbn : Below w1.heap.size w1 V := by rw [hV]; exact below_new w1 _
  have HM := hide (show V.heap[w1.heap.size]? = some (.cells #[.int .i64 k, .int .i64 0, .string ⟨#[]⟩, .int .i64 0, .int .i64 0, .int .i64 0, .int .i64 0, .int .i64 0, .int .i64 0, .string ⟨#[]⟩, .int .i64 0] 25 (0, 0)) by rw [hV]; exact heap_alloc_new w1 _)
  have HR := hide (blk_step (unhide HR1) hbn)
  have HB := hide ((unhide HB1).trans (hbn.mono (unhide HB1).size))
  have hgm : w1.heap.size < V.heap.size := blk_lt (unhide HM)
  have v1 : V.cell? ⟨w.heap.size + 1, 1, none⟩ = some (.string a) := (hbn.cell (p := ⟨w.heap.size + 1, 1, none⟩) hgl).trans c1
  have v2 : V.cell? ⟨w.heap.size + 1, 2, none⟩ = some (.string b) := (hbn.cell (p := ⟨w.heap.size + 1, 2, none⟩) hgl).trans c2
  have v3 : V.cell? ⟨w.heap.size + 1, 3, none⟩ = some (.string c) := (hbn.cell (p := ⟨w.heap.size + 1, 3, none⟩) hgl).trans c3
  clear hV hbn HR1 HB1 c0 c1 c2 c3
  go_upto_region 8 with fail
  have hzR := blk_lt (unhide HR)
  obtain ⟨⟨d0, d1, d2, d3, d4, d5, d6, d7, d8, d9, d10⟩, f0, f1, f2, f3, f4, f5, f6, f7, f8, f9, f10⟩ := eleven_at (unhide HR)
  obtain ⟨⟨q0, q1, q2, q3, q4, q5, q6, q7, q8, q9, q10⟩, _⟩ := eleven_at (unhide HM)
  cases kn
  case' false =>
    have hRes := hide (unhide HU (by simp))
    clear HU HY HZ HOT HM q0 q1 q2 q3 q4 q5 q6 q7 q8 q9 q10
    go_wp2_with fail
    refine bodyPost_atE (fun W' hW' => ?_)
    obtain ⟨⟨r0, r1, r2, r3, r4, r5, r6, r7, r8, r9, r10⟩, _⟩ := eleven_at (show W'.heap[w.heap.size]? = some (.cells #[.int .i64 0, .int .i64 0, .string ⟨#[]⟩, .int .i64 0, .int .i64 0, .int .i64 0, .int .i64 0, .int .i64 0, .int .i64 0, .string ⟨#[]⟩, .int .i64 0] 25 (0, 0)) by rw [hW']; exact eleven_set (unhide HR))
    have hbb : Below w.heap.size w W' := by rw [hW']; exact eleven_set_below (unhide HB) (Nat.le_refl _)
    exact bodyPost_ret (v := .tuple #[.agg #[.int .i64 0, .int .i64 0, .string ⟨#[]⟩, .int .i64 0, .int .i64 0, .int .i64 0, .int .i64 0, .int .i64 0, .int .i64 0, .string ⟨#[]⟩, .int .i64 0], .bool false]) (by simp [results, Tryz.results6, go_sem, r0, r1, r2, r3, r4, r5, r6, r7, r8, r9, r10]) rfl ⟨by rw [unhide hRes]; rfl, hbb⟩
  clear d0 d1 d2 d3 d4 d5 d6 d7 d8 d9 d10 f0 f1 f2 f3 f4 f5 f6 f7 f8 f9 f10
  go_wp2_with fail
  refine (unhide HOT _ ((unhide HTT).below (unhide HB))).mono ?_
  rintro e w7 ⟨rfl, hb7⟩
  have HR7 := hide (blk_step (unhide HR) hb7)
  have HM7 := hide (blk_step (unhide HM) hb7)
  have HB7 := hide ((unhide HB).trans (hb7.mono (unhide HB).size))
  clear hb7 HR HM HB q0 q1 q2 q3 q4 q5 q6 q7 q8 q9 q10 HOT hzR hgm
  have HR := HR7
  have HB := HB7
  clear HR7 HB7
  have hzR := blk_lt (unhide HR)
  have hzM := blk_lt (unhide HM7)
  obtain ⟨⟨d0, d1, d2, d3, d4, d5, d6, d7, d8, d9, d10⟩, f0, f1, f2, f3, f4, f5, f6, f7, f8, f9, f10⟩ := eleven_at (unhide HR)
  by_cases hp : TX = s
  case' neg =>
    have hRes := hide (unhide HZ ⟨by simp, hp⟩)
    have hq := str_ne hp
    clear HU HY HZ HM7 hp
    go_wp2_with fail
    refine bodyPost_atE (fun W' hW' => ?_)
    obtain ⟨⟨r0, r1, r2, r3, r4, r5, r6, r7, r8, r9, r10⟩, _⟩ := eleven_at (show W'.heap[w.heap.size]? = some (.cells #[.int .i64 0, .int .i64 0, .string ⟨#[]⟩, .int .i64 0, .int .i64 0, .int .i64 0, .int .i64 0, .int .i64 0, .int .i64 0, .string ⟨#[]⟩, .int .i64 0] 25 (0, 0)) by rw [hW']; exact eleven_set (unhide HR))
    have hbb : Below w.heap.size w W' := by rw [hW']; exact eleven_set_below (unhide HB) (Nat.le_refl _)
    exact bodyPost_ret (v := .tuple #[.agg #[.int .i64 0, .int .i64 0, .string ⟨#[]⟩, .int .i64 0, .int .i64 0, .int .i64 0, .int .i64 0, .int .i64 0, .int .i64 0, .string ⟨#[]⟩, .int .i64 0], .bool false]) (by simp [results, Tryz.results6, go_sem, r0, r1, r2, r3, r4, r5, r6, r7, r8, r9, r10]) rfl ⟨by rw [unhide hRes]; rfl, hbb⟩
  have hRes := hide (unhide HY ⟨by simp, hp⟩)
  have hq : (TX.toList == s.toList) = true := by rw [hp]; simp
  obtain ⟨⟨q0, q1, q2, q3, q4, q5, q6, q7, q8, q9, q10⟩, _⟩ := eleven_at (unhide HM7)
  clear HU HY HZ hp
  go_wp2_with fail
  refine bodyPost_atE (fun W' hW' => ?_)
  obtain ⟨⟨r0, r1, r2, r3, r4, r5, r6, r7, r8, r9, r10⟩, _⟩ := eleven_at (show W'.heap[w.heap.size]? = some (.cells #[.int .i64 k, .int .i64 0, .string ⟨#[]⟩, .int .i64 0, .int .i64 0, .int .i64 0, .int .i64 0, .int .i64 0, .int .i64 0, .string ⟨#[]⟩, .int .i64 0] 25 (0, 0)) by rw [hW']; exact eleven_set (unhide HR))
  have hbb : Below w.heap.size w W' := by rw [hW']; exact eleven_set_below (unhide HB) (Nat.le_refl _)
  exact bodyPost_ret (v := .tuple #[.agg #[.int .i64 k, .int .i64 0, .string ⟨#[]⟩, .int .i64 0, .int .i64 0, .int .i64 0, .int .i64 0, .int .i64 0, .int .i64 0, .string ⟨#[]⟩, .int .i64 0], .bool true]) (by simp [results, Tryz.results6, go_sem, r0, r1, r2, r3, r4, r5, r6, r7, r8, r9, r10]) rfl ⟨by rw [unhide hRes]; rfl, hbb⟩
theorem implReadOp (s : ByteArray) (w : World) (hs : s.size ≤ 1048576) (hM : MaxLenIs w) (hH : Handle w) (hT : Tens w) :
    Calls Tryz.prog 6 #[.string s] w fun e w' => e = .returned (.tuple #[opw (roI s).1, .bool (roI s).2]) ∧ Below w.heap.size w w' := by
  have hp := words_pos s
  match hx : words s with
  | [] => rw [hx] at hp; simp at hp
  | x0 :: r =>
    by_cases h1 : kI x0 = 1
    · match r, hx with
      | [], hx => exact implReadOp_k1n1 s x0 w hs hx h1 hM hH hT
      | [a], hx => exact implReadOp_k1n2 s x0 a w hs hx h1 hM hH hT
      | [a, b], hx => exact implReadOp_k1n3 s x0 a b w hs hx h1 hM hH hT
      | [a, b, c], hx => exact implReadOp_k1n4 s x0 a b c w hs hx h1 hM hH hT
      | a :: b :: c :: d :: t, hx => exact implReadOp_k1n5 s x0 a b c d t w hs hx h1 hM hH hT
    by_cases h2 : kI x0 = 2
    · match r, hx with
      | [], hx => exact implReadOp_k2n1 s x0 w hs hx h2 hM hH hT
      | [a], hx => exact implReadOp_k2n2 s x0 a w hs hx h2 hM hH hT
      | [a, b], hx => exact implReadOp_k2n3 s x0 a b w hs hx h2 hM hH hT
      | [a, b, c], hx => exact implReadOp_k2n4 s x0 a b c w hs hx h2 hM hH hT
      | a :: b :: c :: d :: t, hx => exact implReadOp_k2n5 s x0 a b c d t w hs hx h2 hM hH hT
    · match r, hx with
      | [], hx => exact implReadOp_kn1 s x0 w hs hx h1 h2 hM hH hT
      | [a], hx => exact implReadOp_kn2 s x0 a w hs hx h1 h2 hM hH hT
      | [a, b], hx => exact implReadOp_kn3 s x0 a b w hs hx h1 h2 hM hH hT
      | a :: b :: c :: t, hx => exact implReadOp_kn4 s x0 a b c t w hs hx h1 h2 hM hH hT
end Go.Proofs.YtikdkijggejnfaaGreatDoor
