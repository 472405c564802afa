/-
  The program's Unframe.
-/
import Derived.Test.YtlopllgioobcjaaDoorMgUnI
namespace Go.Proofs.YtlopllgioobcjaaDoor
open Go.RowKit
open Mth

theorem un_other {s : ByteArray} (h : ¬ frE s = s.size) : unOk s = false := by
  cases ho : unOk s with
  | false => rfl
  | true =>
    unfold unOk at ho
    simp only [Bool.and_eq_true, decide_eq_true_iff] at ho
    obtain ⟨⟨⟨⟨h1, h2⟩, h3⟩, h4⟩, _⟩ := ho
    exact absurd (by unfold frE; rw [if_pos ⟨h1, h2, h3⟩]; exact h4) h
theorem un_same {s : ByteArray} (h : frE s = s.size) : frT s = unT s ∧ unV s = getV (unT s) := by
  unfold frE at h
  split at h
  · rename_i hc
    have ht : frT s = unT s := by unfold frT; rw [if_pos hc]
    refine ⟨ht, ?_⟩
    have ho : unOk s = getOk (unT s) := by
      unfold unOk
      rw [decide_eq_true hc.1, decide_eq_true hc.2.1, decide_eq_true hc.2.2, decide_eq_true h]
      simp only [Bool.true_and]
    unfold unV getV unMg
    rw [ho]
    cases hg : getOk (unT s) with
    | true => rw [if_pos rfl]
    | false =>
      rw [if_neg (by simp)]
      unfold getMg
      rw [hg, if_neg (by simp)]
  · omega

set_option maxRecDepth 100000 in
set_option maxHeartbeats 2000000 in
theorem implUnframe (s : ByteArray) (hs : s.size ≤ maxLen) (w : World) (hH : Handle w) : Calls Tryd.prog 14 #[.string s] w fun e w' => e = .returned (unV s) ∧ Below w.heap.size w w' := by
  obtain ⟨cap, w1, hconv, hcap, hbytes, hlt, hbel⟩ := conv_bytes s (w.alloc (.cells #[.int .i64 0, .int .i64 0, .int .i64 0, .int .i64 0, .int .i64 0, .string ⟨#[]⟩, .int .i64 0] 23))
  rw [show (w.alloc (.cells #[.int .i64 0, .int .i64 0, .int .i64 0, .int .i64 0, .int .i64 0, .string ⟨#[]⟩, .int .i64 0] 23)).heap.size = w.heap.size + 1 by simp] at hconv hbytes hlt hbel
  have hB1 : Below w.heap.size w w1 := (below_one w (.cells #[.int .i64 0, .int .i64 0, .int .i64 0, .int .i64 0, .int .i64 0, .string ⟨#[]⟩, .int .i64 0] 23)).trans (hbel.mono (by omega))
  have hR1 : w1.heap[w.heap.size]? = some (.cells #[.int .i64 0, .int .i64 0, .int .i64 0, .int .i64 0, .int .i64 0, .string ⟨#[]⟩, .int .i64 0] 23 (0, 0)) := by
    rw [hbel.block w.heap.size (by omega)]
    exact heap_alloc_new w _
  have HH1 := hH.below hB1
  have HF := hide (frameAt s hs (w.heap.size + 1) cap hcap w1 hbytes hlt HH1)
  have HH := hide hH
  clear hbytes hH HH1 hbel
  by_cases he : frE s = s.size
  case' neg =>
    have hRes := hide (unV_no (un_other he))
    have hq : (frE s != (s.size : Int)) = true := by simpa using he
    have HE := hide he
    clear he
    generalize frE s = E at *
    generalize frT s = TX at *
    generalize unV s = RES at *
    have HR1 := hide hR1
    have HB1 := hide hB1
    clear hR1 hB1 hs
    go_enter Tryd.func14, Tryd.ntmps14
    go_wp2_with fail
    refine (unhide HF).mono ?_
    rintro e w2 ⟨rfl, hb2⟩
    have hR2 := blk_step (unhide HR1) hb2
    have hB2 := (unhide HB1).trans (hb2.mono (unhide HB1).size)
    have hz2 := blk_lt hR2
    obtain ⟨⟨d0, d1, d2, d3, d4, d5, d6⟩, f0, f1, f2, f3, f4, f5, f6⟩ := seven_at hR2
    have HR2 := hide hR2
    have HB2 := hide hB2
    clear hb2 hR2 hB2 HR1 HB1 hconv
    go_wp2_with fail
    refine bodyPost_at (fun W' hW' => ?_)
    obtain ⟨⟨r0, r1, r2, r3, r4, r5, r6⟩, _⟩ := seven_at (show W'.heap[w.heap.size]? = some (.cells #[.int .i64 0, .int .i64 0, .int .i64 0, .int .i64 0, .int .i64 0, .string ⟨#[]⟩, .int .i64 0] 23 (0, 0)) by rw [hW']; exact seven_set (unhide HR2))
    have hbb : Below w.heap.size w W' := by rw [hW']; exact seven_below (unhide HB2) (Nat.le_refl _)
    exact bodyPost_ret (v := .tuple #[.agg #[.int .i64 0, .int .i64 0, .int .i64 0, .int .i64 0, .int .i64 0, .string ⟨#[]⟩, .int .i64 0], .bool false]) (by simp [results, Tryd.results14, go_sem, r0, r1, r2, r3, r4, r5, r6]) rfl ⟨by rw [unhide hRes], hbb⟩
  obtain ⟨ht, hv⟩ := un_same he
  rw [ht] at HF
  have HG := hide (fun w1 h => implGetMsg (unT s) (Nat.le_trans (rtS_size _ _) (by unfold maxLen; omega)) w1 h)
  rw [hv]
  unfold getV at *
  have hq : (frE s != (s.size : Int)) = false := by simpa using he
  have HE := hide he
  clear he ht hv
  generalize frE s = E at *
  generalize getMg (unT s) = m at *
  generalize getOk (unT s) = OK at *
  generalize unT s = TX at *
  obtain ⟨K, F, T, I, L, k, N⟩ := m
  have HR1 := hide hR1
  have HB1 := hide hB1
  clear hR1 hB1 hs
  go_enter Tryd.func14, Tryd.ntmps14
  go_wp2_with fail
  refine (unhide HF).mono ?_
  rintro e w2 ⟨rfl, hb2⟩
  have HR2 := hide (blk_step (unhide HR1) hb2)
  have HB2 := hide ((unhide HB1).trans (hb2.mono (unhide HB1).size))
  clear hb2 HR1 HB1 hconv
  go_wp2_with fail
  refine (unhide HG _ ((unhide HH).below (unhide HB2))).mono ?_
  rintro e w3 ⟨rfl, hb3⟩
  have hR3 := blk_step (unhide HR2) hb3
  have hB3 := (unhide HB2).trans (hb3.mono (unhide HB2).size)
  have hz3 := blk_lt hR3
  obtain ⟨⟨d0, d1, d2, d3, d4, d5, d6⟩, f0, f1, f2, f3, f4, f5, f6⟩ := seven_at hR3
  have HR3 := hide hR3
  have HB3 := hide hB3
  clear hb3 hR3 hB3 HR2 HB2 HG
  go_wp2_with fail
  refine bodyPost_at (fun W' hW' => ?_)
  obtain ⟨⟨r0, r1, r2, r3, r4, r5, r6⟩, _⟩ := seven_at (show W'.heap[w.heap.size]? = some (.cells #[.int .i64 K, .int .i64 F, .int .i64 T, .int .i64 I, .int .i64 L, .string k, .int .i64 N] 23 (0, 0)) by rw [hW']; exact seven_set (unhide HR3))
  have hbb : Below w.heap.size w W' := by rw [hW']; exact seven_below (unhide HB3) (Nat.le_refl _)
  exact bodyPost_ret (v := .tuple #[.agg #[.int .i64 K, .int .i64 F, .int .i64 T, .int .i64 I, .int .i64 L, .string k, .int .i64 N], .bool OK]) (by simp [results, Tryd.results14, go_sem, r0, r1, r2, r3, r4, r5, r6]) rfl ⟨rfl, hbb⟩
end Go.Proofs.YtlopllgioobcjaaDoor
