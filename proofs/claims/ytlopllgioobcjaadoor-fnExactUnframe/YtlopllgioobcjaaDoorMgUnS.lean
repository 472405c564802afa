/-
  The model's Unframe.
-/
import Derived.Test.YtlopllgioobcjaaDoorMgUnM
import Derived.Test.YtlopllgioobcjaaDoorMgGetS
namespace Go.Proofs.YtlopllgioobcjaaDoor
open Go.RowKit
open Mth

theorem getMg_key (s : ByteArray) : (getMg s).k.size ≤ 1000 := by
  unfold getMg
  split
  · exact rtS_size _ _
  · decide

set_option maxRecDepth 100000 in
set_option maxHeartbeats 2000000 in
theorem specUnframe_no (s : ByteArray) (hs : s.size ≤ maxLen) (w : World) (h : rtE s 4 < 0 ∨ (0 ≤ rtE s 4 ∧ getOk (rtS s 4) = false)) : Calls Tryd.prog 13 #[.string s] w fun e w' => e = .returned (.tuple #[.agg #[.int .i64 0, .int .i64 0, .int .i64 0, .int .i64 0, .int .i64 0, .string ⟨#[]⟩, .int .i64 0], .bool false]) ∧ Below w.heap.size w w' := by
  have HT := hide (fun w1 => specRt s 4 hs w1)
  have HG := hide (fun w1 => specGetMsg (rtS s 4) (Nat.le_trans (rtS_size s 4) (by unfold maxLen; omega)) w1)
  unfold getV at HG
  generalize rtE s 4 = E at *
  generalize getOk (rtS s 4) = OK at *
  generalize getMg (rtS s 4) = m at *
  generalize rtS s 4 = TX at *
  obtain ⟨K, F, T, I, L, k, N⟩ := m
  clear hs
  have HC := hide h
  clear h
  go_enter Tryd.func13, Tryd.ntmps13
  go_wp2_with fail
  refine (unhide HT _).mono ?_
  rintro e w1 ⟨rfl, hb1⟩
  have hR1 := blk_step (heap_alloc_new w _) hb1
  have hB1 := (below_one w _).trans (hb1.mono (by simp))
  clear hb1
  go_wp2_with fail
  refine (unhide HG _).mono ?_
  rintro e w2 ⟨rfl, hb2⟩
  have hR2 := blk_step hR1 hb2
  have hB2 := hB1.trans (hb2.mono hB1.size)
  have hz2 := blk_lt hR2
  have HR2 := hide hR2
  have HB2 := hide hB2
  clear hb2 hR1 hB1 hR2 hB2
  go_upto_region 3 with fail
  refine wp_at (fun V hV => ?_)
  have hM : V.heap[w2.heap.size]? = some (.cells #[.int .i64 K, .int .i64 F, .int .i64 T, .int .i64 I, .int .i64 L, .string k, .int .i64 N] 23 (0, 0)) := by rw [hV]; exact heap_alloc_new w2 _
  have hR : V.heap[w.heap.size]? = some (.cells #[.int .i64 0, .int .i64 0, .int .i64 0, .int .i64 0, .int .i64 0, .string ⟨#[]⟩, .int .i64 0] 23 (0, 0)) := by rw [hV, Below.heap_alloc _ _ _ hz2]; exact unhide HR2
  have hB : Below w.heap.size w V := by rw [hV]; exact (unhide HB2).alloc (unhide HB2).size _
  clear hV HR2 HB2
  have hzM := blk_lt hM
  have hzR := blk_lt hR
  have HR := hide hR
  have HB := hide hB
  have HMB := hide hM
  obtain ⟨⟨d0, d1, d2, d3, d4, d5, d6⟩, f0, f1, f2, f3, f4, f5, f6⟩ := seven_at hR
  clear hR hB hM HMB
  rcases unhide HC with hE | ⟨hE, rfl⟩
  · clear HC
    go_wp2_with fail
    refine bodyPost_at (fun W' hW' => ?_)
    obtain ⟨⟨r0, r1, r2, r3, r4, r5, r6⟩, _⟩ := seven_at (show W'.heap[w.heap.size]? = some (.cells #[.int .i64 0, .int .i64 0, .int .i64 0, .int .i64 0, .int .i64 0, .string ⟨#[]⟩, .int .i64 0] 23 (0, 0)) by rw [hW']; exact seven_set (unhide HR))
    have hbb : Below w.heap.size w W' := by rw [hW']; exact seven_below (unhide HB) (Nat.le_refl _)
    exact bodyPost_ret (v := .tuple #[.agg #[.int .i64 0, .int .i64 0, .int .i64 0, .int .i64 0, .int .i64 0, .string ⟨#[]⟩, .int .i64 0], .bool false]) (by simp [results, Tryd.results13, go_sem, r0, r1, r2, r3, r4, r5, r6]) rfl ⟨rfl, hbb⟩
  · have hE2 : ¬ (E < 0) := by omega
    clear HC
    go_wp2_with fail
    refine bodyPost_at (fun W' hW' => ?_)
    obtain ⟨⟨r0, r1, r2, r3, r4, r5, r6⟩, _⟩ := seven_at (show W'.heap[w.heap.size]? = some (.cells #[.int .i64 0, .int .i64 0, .int .i64 0, .int .i64 0, .int .i64 0, .string ⟨#[]⟩, .int .i64 0] 23 (0, 0)) by rw [hW']; exact seven_set (unhide HR))
    have hbb : Below w.heap.size w W' := by rw [hW']; exact seven_below (unhide HB) (Nat.le_refl _)
    exact bodyPost_ret (v := .tuple #[.agg #[.int .i64 0, .int .i64 0, .int .i64 0, .int .i64 0, .int .i64 0, .string ⟨#[]⟩, .int .i64 0], .bool false]) (by simp [results, Tryd.results13, go_sem, r0, r1, r2, r3, r4, r5, r6]) rfl ⟨rfl, hbb⟩

set_option maxRecDepth 100000 in
set_option maxHeartbeats 4000000 in
theorem specUnframe_yes (s : ByteArray) (hs : s.size ≤ maxLen) (w : World) (h : 0 ≤ rtE s 4) (ho : getOk (rtS s 4) = true) : Calls Tryd.prog 13 #[.string s] w fun e w' => e = .returned (unV s) ∧ Below w.heap.size w w' := by
  have HT := hide (fun w1 => specRt s 4 hs w1)
  have HG := hide (fun w1 => specGetMsg (rtS s 4) (Nat.le_trans (rtS_size s 4) (by unfold maxLen; omega)) w1)
  unfold getV at HG
  rw [ho] at HG
  have HF := hide (fun w1 => specFrame (getMg (rtS s 4)) w1 (Nat.le_trans (getMg_key _) (by unfold maxLen; omega)))
  have hu := (unOk_spec s).1
  rw [ho, decide_eq_true h] at hu
  have HO := hide hu
  have HU := hide (show unOk s = true → unV s = .tuple #[mgv (getMg (rtS s 4)), .bool true] from fun h => by rw [(unOk_spec s).2 h]; unfold unV unMg; rw [h, if_pos rfl])
  have HZ := hide (show unOk s = false → unV s = .tuple #[.agg #[.int .i64 0, .int .i64 0, .int .i64 0, .int .i64 0, .int .i64 0, .string ⟨#[]⟩, .int .i64 0], .bool false] from unV_no)
  generalize unV s = RES at *
  generalize unOk s = OK at *
  generalize rtE s 4 = E at *
  generalize frm (getMg (rtS s 4)) = fm at *
  generalize getMg (rtS s 4) = m at *
  clear ho hu
  generalize rtS s 4 = TX at *
  obtain ⟨K, F, T, I, L, k, N⟩ := m
  clear hs
  have hE2 : ¬ (E < 0) := by omega
  clear h
  go_enter Tryd.func13, Tryd.ntmps13
  go_wp2_with fail
  refine (unhide HT _).mono ?_
  rintro e w1 ⟨rfl, hb1⟩
  have hR1 := blk_step (heap_alloc_new w _) hb1
  have hB1 := (below_one w _).trans (hb1.mono (by simp))
  clear hb1
  go_wp2_with fail
  refine (unhide HG _).mono ?_
  rintro e w2 ⟨rfl, hb2⟩
  have hR2 := blk_step hR1 hb2
  have hB2 := hB1.trans (hb2.mono hB1.size)
  have hz2 := blk_lt hR2
  have HR2 := hide hR2
  have HB2 := hide hB2
  clear hb2 hR1 hB1 hR2 hB2
  go_upto_region 3 with fail
  refine wp_at (fun V hV => ?_)
  have hM : V.heap[w2.heap.size]? = some (.cells #[.int .i64 K, .int .i64 F, .int .i64 T, .int .i64 I, .int .i64 L, .string k, .int .i64 N] 23 (0, 0)) := by rw [hV]; exact heap_alloc_new w2 _
  have hR : V.heap[w.heap.size]? = some (.cells #[.int .i64 0, .int .i64 0, .int .i64 0, .int .i64 0, .int .i64 0, .string ⟨#[]⟩, .int .i64 0] 23 (0, 0)) := by rw [hV, Below.heap_alloc _ _ _ hz2]; exact unhide HR2
  have hB : Below w.heap.size w V := by rw [hV]; exact (unhide HB2).alloc (unhide HB2).size _
  clear hV HR2 HB2
  have hzM := blk_lt hM
  have hzR := blk_lt hR
  have HR := hide hR
  have HB := hide hB
  have HMB := hide hM
  obtain ⟨q0, q1, q2, q3, q4, q5, q6⟩ := cells7 hM
  clear hR hB hM
  go_wp2_with fail
  refine (unhide HF _).mono ?_
  rintro e w5 ⟨rfl, hb5⟩
  have hR5 := blk_step (unhide HR) hb5
  have hM5 := blk_step (unhide HMB) hb5
  have hB5 := (unhide HB).trans (hb5.mono (unhide HB).size)
  have hzM5 := blk_lt hM5
  have hzR5 := blk_lt hR5
  obtain ⟨⟨d0, d1, d2, d3, d4, d5, d6⟩, f0, f1, f2, f3, f4, f5, f6⟩ := seven_at hR5
  have HR5 := hide hR5
  have HB5 := hide hB5
  clear hb5 HR HMB HB q0 q1 q2 q3 q4 q5 q6 hzM hzR
  by_cases hp : fm = s
  case' neg =>
    have hO : OK = false := by rw [unhide HO, decide_eq_false hp]; rfl
    have hRes := hide (unhide HZ hO)
    have hq : (fm.toList == s.toList) = false := by
      rw [beq_eq_false_iff_ne]
      intro h
      rw [ByteArray.toList_eq, ByteArray.toList_eq] at h
      exact hp (ByteArray.ext (Array.ext' h))
    have HP := hide hp
    clear hO HO HZ HU hM5 hR5 hB5 hp
    go_wp2_with fail
    refine bodyPost_at (fun W' hW' => ?_)
    obtain ⟨⟨r0, r1, r2, r3, r4, r5, r6⟩, _⟩ := seven_at (show W'.heap[w.heap.size]? = some (.cells #[.int .i64 0, .int .i64 0, .int .i64 0, .int .i64 0, .int .i64 0, .string ⟨#[]⟩, .int .i64 0] 23 (0, 0)) by rw [hW']; exact seven_set (unhide HR5))
    have hbb : Below w.heap.size w W' := by rw [hW']; exact seven_below (unhide HB5) (Nat.le_refl _)
    exact bodyPost_ret (v := .tuple #[.agg #[.int .i64 0, .int .i64 0, .int .i64 0, .int .i64 0, .int .i64 0, .string ⟨#[]⟩, .int .i64 0], .bool false]) (by simp [results, Tryd.results13, go_sem, r0, r1, r2, r3, r4, r5, r6]) rfl ⟨by rw [unhide hRes], hbb⟩
  have hO : OK = true := by rw [unhide HO, decide_eq_true hp]; rfl
  have hRes := hide (unhide HU hO)
  have hq : (fm.toList == s.toList) = true := by rw [hp]; simp
  obtain ⟨q0, q1, q2, q3, q4, q5, q6⟩ := cells7 hM5
  have HP := hide hp
  clear hO HO HZ HU hM5 hR5 hB5 hp
  go_wp2_with fail
  refine bodyPost_at (fun W' hW' => ?_)
  obtain ⟨⟨r0, r1, r2, r3, r4, r5, r6⟩, _⟩ := seven_at (show W'.heap[w.heap.size]? = some (.cells #[.int .i64 K, .int .i64 F, .int .i64 T, .int .i64 I, .int .i64 L, .string k, .int .i64 N] 23 (0, 0)) by rw [hW']; exact seven_set (unhide HR5))
  have hbb : Below w.heap.size w W' := by rw [hW']; exact seven_below (unhide HB5) (Nat.le_refl _)
  exact bodyPost_ret (v := .tuple #[.agg #[.int .i64 K, .int .i64 F, .int .i64 T, .int .i64 I, .int .i64 L, .string k, .int .i64 N], .bool true]) (by simp [results, Tryd.results13, go_sem, r0, r1, r2, r3, r4, r5, r6]) rfl ⟨by rw [unhide hRes], hbb⟩

theorem specUnframe (s : ByteArray) (hs : s.size ≤ maxLen) (w : World) : Calls Tryd.prog 13 #[.string s] w fun e w' => e = .returned (unV s) ∧ Below w.heap.size w w' := by
  have hu := (unOk_spec s).1
  by_cases h : 0 ≤ rtE s 4
  · cases ho : getOk (rtS s 4)
    · rw [unV_no (by rw [hu, ho]; simp)]
      exact specUnframe_no s hs w (.inr ⟨h, ho⟩)
    · exact specUnframe_yes s hs w h ho
  · rw [unV_no (by rw [hu, decide_eq_false h]; rfl)]
    exact specUnframe_no s hs w (.inl (by omega))
end Go.Proofs.YtlopllgioobcjaaDoor
