/-
  Texts of ours in one, so that the claim keeps to its count: MgUnM, MgUnS, MgUnI, MgUnF, MgRound.
-/
import Derived.Test.YtlopllgioobcjaaGreatDoorMgGetV
import Derived.Test.YtlopllgioobcjaaGreatDoorMgFrS
import Derived.Test.YtlopllgioobcjaaGreatDoorMgGetS
import Derived.Test.YtlopllgioobcjaaGreatDoorMgGetI
import Derived.Test.YtlopllgioobcjaaGreatDoorMix
import Derived.Laws.IdiomStrings
namespace Go.Proofs.YtlopllgioobcjaaGreatDoor
open Go.RowKit
open Mth

def restOf (s : ByteArray) : ByteArray := s.extract 4 (min s.size 1006)
def unT (s : ByteArray) : ByteArray := rtS (restOf s) 0
def unZ (s : ByteArray) : Int := rtE (restOf s) 0
def unOk (s : ByteArray) : Bool := decide (4 ≤ s.size) && decide (0 ≤ unZ s) && decide (wordB (sumN (unT s)) = s.extract 0 4) && decide (4 + unZ s = s.size) && getOk (unT s)
def unMg (s : ByteArray) : Mg := if unOk s = true then getMg (unT s) else mg0
def unV (s : ByteArray) : Value := .tuple #[mgv (unMg s), .bool (unOk s)]
theorem rest_list (s : ByteArray) (h : s.size ≤ 1006) : (restOf s).data.toList = s.data.toList.drop 4 := by
  unfold restOf
  rw [Lib.extract_data, Nat.min_eq_left h]
  apply List.take_of_length_le
  simp
theorem rest_size (s : ByteArray) : (restOf s).size = min s.size 1006 - 4 := by
  unfold restOf
  rw [ByteArray.size_extract]
  omega
theorem get_shift (s : ByteArray) (h : s.size ≤ 1006) : getAt s 4 = getAt (restOf s) 0 := by
  have e1 := getAt_nat s 4
  have e2 := getAt_nat (restOf s) 0
  rw [show ((4 : Nat) : Int) = 4 from rfl] at e1
  rw [show ((0 : Nat) : Int) = 0 from rfl] at e2
  rw [e1, e2]
  unfold Mth.get
  rw [rest_list s h]
  simp
theorem text_shift (s : ByteArray) (h4 : 4 ≤ s.size) (h : s.size ≤ 1006) : (rtE s 4 < 0 ∧ unZ s < 0) ∨ (0 ≤ unZ s ∧ rtE s 4 = 4 + unZ s ∧ rtS s 4 = unT s) := by
  unfold unZ unT rtE rtS
  rw [get_shift s h]
  have hr := rest_size s
  rw [Nat.min_eq_left h] at hr
  cases hG : getAt (restOf s) 0 with
  | none => left; simp [textOf, txtE]
  | some p =>
    obtain ⟨n, c⟩ := p
    obtain ⟨k, hk0, hk, hc, hn, _⟩ := read_put hG
    have hk1 : k = 0 := by omega
    subst hk1
    unfold textOf
    simp only
    have e4 : (4 : Int).toNat = 4 := rfl
    have e0 : (0 : Int).toNat = 0 := rfl
    rw [e4, e0]
    by_cases hb : 1000 < n ∨ s.size - (4 + c) < n
    · left
      rw [if_pos hb, if_pos (by omega)]
      simp [txtE]
    · right
      rw [if_neg hb, if_neg (by omega)]
      simp only [txtE, txtS]
      refine ⟨by omega, by omega, ?_⟩
      apply ByteArray.ext
      apply Array.ext'
      rw [Lib.extract_data, Lib.extract_data]
      rw [rest_list s h, List.drop_drop]
      congr 1
      · omega
      · congr 1; omega
theorem put_two (n : Nat) (h : n ≤ 1000) : (Mth.put n).length ≤ 2 := by
  unfold Mth.put
  by_cases h1 : n ≤ 127
  · rw [putF_small _ _ h1]; simp
  · rw [putF_great _ _ h1, putF_small _ _ (by omega)]; simp
theorem putT_two (s : ByteArray) : (putT s).size ≤ 1002 := by
  unfold putT
  split
  · rename_i h
    unfold putText
    have := put_two s.size h
    rw [size_of_list, List.length_append, size_toList]
    omega
  · decide
/-- What a read message's bytes are. -/
theorem got_bytes {t : ByteArray} (h : getOk t = true) : mgOk (getMg t) = true ∧ mgBytes (getMg t) = t := by
  have h0 : 0 < t.size := by unfold getOk at h; simp only [Bool.and_eq_true, decide_eq_true_iff] at h; exact h.1.1
  have hm : mgOk (cand t) = true := by unfold getOk at h; simp only [Bool.and_eq_true] at h; exact h.2
  have hs := h
  rw [getOk_spec h0] at hs
  simp only [Bool.and_eq_true, decide_eq_true_iff] at hs
  have e : getMg t = cand t := by unfold getMg; rw [if_pos h]
  rw [e]
  refine ⟨hm, ?_⟩
  rw [← putMsg_yes hm]
  exact hs.2
theorem list_of_eq {a b : ByteArray} : a = b ↔ a.data.toList = b.data.toList := by
  constructor
  · intro h; rw [h]
  · intro h; exact ByteArray.ext (Array.ext' h)
theorem frame_split (s t : ByteArray) : frameT t = s ↔ wordB (sumN t) = s.extract 0 4 ∧ (putT t).data.toList = s.data.toList.drop 4 := by
  have hw : (wordB (sumN t)).data.toList.length = 4 := by rw [size_toList]; exact wordB_size _
  have e4 : (s.extract 0 4).data.toList = s.data.toList.take 4 := by rw [Lib.extract_data]; rfl
  rw [list_of_eq, list_of_eq, e4]
  unfold frameT
  rw [ByteArray.data_append, Array.toList_append]
  constructor
  · intro h
    rw [← h]
    refine ⟨?_, ?_⟩
    · rw [List.take_append_of_le_length (by omega), List.take_of_length_le (by omega)]
    · rw [← hw, List.drop_left]
  · rintro ⟨h1, h2⟩
    rw [h1, h2, List.take_append_drop]
theorem unOk_spec (s : ByteArray) : unOk s = (decide (0 ≤ rtE s 4) && getOk (rtS s 4) && decide (frm (getMg (rtS s 4)) = s)) ∧ (unOk s = true → rtS s 4 = unT s) := by
  by_cases h4 : 4 ≤ s.size
  · by_cases h6 : s.size ≤ 1006
    · rcases text_shift s h4 h6 with ⟨h1, h2⟩ | ⟨h0, h1, h2⟩
      · have e1 : decide (0 ≤ rtE s 4) = false := decide_eq_false (by omega)
        have e2 : decide (0 ≤ unZ s) = false := decide_eq_false (by omega)
        have e : unOk s = false := by unfold unOk; rw [e2]; simp
        rw [e, e1]
        exact ⟨rfl, fun h => by cases h⟩
      · refine ⟨?_, fun _ => h2⟩
        rw [h2, h1]
        cases hg : getOk (unT s) with
        | false => unfold unOk; rw [hg]; simp
        | true =>
          obtain ⟨g1, g2⟩ := got_bytes hg
          rw [frm_yes g1, g2]
          obtain ⟨_, _, hz, _, hp⟩ := text_piece (s := restOf s) (i := 0) h0
          have hrs := rest_size s
          rw [Nat.min_eq_left h6] at hrs
          have hp2 : (putT (unT s)).data.toList = (s.data.toList.drop 4).take (unZ s).toNat := by
            have : (putT (unT s)).data.toList = ((restOf s).data.toList.take (unZ s).toNat).drop (0 : Int).toNat := hp
            rw [this, rest_list s h6]
            simp
          have hz2 : unZ s ≤ (restOf s).size := hz
          have key : decide (frameT (unT s) = s) = (decide (wordB (sumN (unT s)) = s.extract 0 4) && decide (4 + unZ s = s.size)) := by
            rw [Bool.eq_iff_iff]
            simp only [Bool.and_eq_true, decide_eq_true_iff]
            rw [frame_split s _, hp2]
            refine and_congr_right fun _ => ?_
            constructor
            · intro h
              have hl := congrArg List.length h
              rw [List.length_take, List.length_drop, size_toList] at hl
              omega
            · intro h
              apply List.take_of_length_le
              rw [List.length_drop, size_toList]
              omega
          unfold unOk
          rw [hg, key, decide_eq_true h4, decide_eq_true h0, decide_eq_true (show 0 ≤ 4 + unZ s by omega)]
          simp
    · have hz : unOk s = false := by
        cases h : unOk s with
        | false => rfl
        | true =>
          unfold unOk at h
          simp only [Bool.and_eq_true, decide_eq_true_iff] at h
          obtain ⟨⟨⟨⟨_, h0⟩, _⟩, he⟩, _⟩ := h
          have hz := (text_piece (s := restOf s) (i := 0) h0).2.2.1
          have hz2 : unZ s ≤ (restOf s).size := hz
          have hrs := rest_size s
          omega
      refine ⟨?_, fun h => by rw [hz] at h; cases h⟩
      rw [hz]
      symm
      cases hg : getOk (rtS s 4) with
      | false => simp
      | true =>
        obtain ⟨g1, g2⟩ := got_bytes hg
        rw [frm_yes g1, g2]
        have hne : ¬ frameT (rtS s 4) = s := by
          intro h
          have hsz := congrArg ByteArray.size h
          unfold frameT at hsz
          rw [ByteArray.size_append, wordB_size] at hsz
          have := putT_two (rtS s 4)
          omega
        rw [decide_eq_false hne]
        simp
  · have e1 : getAt s 4 = none := by
      cases hG : getAt s 4 with
      | none => rfl
      | some p =>
        obtain ⟨n, c⟩ := p
        obtain ⟨k, hk0, hk, hc, _⟩ := read_put hG
        omega
    have e2 : rtE s 4 = -1 := by unfold rtE; rw [e1]; simp [textOf, txtE]
    have e : unOk s = false := by unfold unOk; rw [decide_eq_false h4]; simp
    rw [e, e2]
    exact ⟨by simp, fun h => by cases h⟩
theorem rtS_size (s : ByteArray) (i : Int) : (rtS s i).size ≤ 1000 := by
  by_cases h : 0 ≤ rtE s i
  · exact (text_piece h).2.2.2.1
  · unfold rtE at h
    unfold rtS
    cases hG : textOf s i.toNat (getAt s i) with
    | none => simp [txtS]
    | some p => rw [hG] at h; exact absurd (by simp [txtE]) h
theorem rtE_le (s : ByteArray) (i : Int) : rtE s i ≤ s.size := by
  by_cases h : 0 ≤ rtE s i
  · exact (text_piece h).2.2.1
  · omega
theorem unV_no {s : ByteArray} (h : unOk s = false) : unV s = .tuple #[.agg #[.int .i64 0, .int .i64 0, .int .i64 0, .int .i64 0, .int .i64 0, .string ⟨#[]⟩, .int .i64 0], .bool false] := by
  unfold unV unMg
  rw [h, if_neg (by simp)]
  rfl
end Go.Proofs.YtlopllgioobcjaaGreatDoor
namespace Go.Proofs.YtlopllgioobcjaaGreatDoor
open Go.RowKit
open Mth

theorem getMg_key (s : ByteArray) : (getMg s).k.size ≤ 1000 := by
  unfold getMg
  split
  · exact rtS_size _ _
  · decide

set_option maxRecDepth 100000 in
set_option maxHeartbeats 2000000 in
theorem specUnframe_no (s : ByteArray) (hs : s.size ≤ maxLen) (w : World) (h : rtE s 4 < 0 ∨ (0 ≤ rtE s 4 ∧ getOk (rtS s 4) = false)) : Calls Tryz.prog 13 #[.string s] w fun e w' => e = .returned (.tuple #[.agg #[.int .i64 0, .int .i64 0, .int .i64 0, .int .i64 0, .int .i64 0, .string ⟨#[]⟩, .int .i64 0], .bool false]) ∧ Below w.heap.size w w' := by
  have HT := hide (fun w1 => specRt s 4 hs w1)
  have HG := hide (fun w1 => specGetMsg (rtS s 4) (Nat.le_trans (rtS_size s 4) (by unfold maxLen; omega)) w1)
  unfold getV at HG
  generalize rtE s 4 = E at *
  generalize getOk (rtS s 4) = OK at *
  generalize getMg (rtS s 4) = m at *
  generalize rtS s 4 = TX at *
  obtain ⟨K, F, T, I, L, k, N⟩ := m
  clear hs
  have HC := hide h
  clear h
  go_enter Tryz.func13, Tryz.ntmps13
  go_wp2_with fail
  refine (unhide HT _).mono ?_
  rintro e w1 ⟨rfl, hb1⟩
  have hR1 := blk_step (heap_alloc_new w _) hb1
  have hB1 := (below_one w _).trans (hb1.mono (by simp))
  clear hb1
  go_wp2_with fail
  refine (unhide HG _).mono ?_
  rintro e w2 ⟨rfl, hb2⟩
  have hR2 := blk_step hR1 hb2
  have hB2 := hB1.trans (hb2.mono hB1.size)
  have hz2 := blk_lt hR2
  have HR2 := hide hR2
  have HB2 := hide hB2
  clear hb2 hR1 hB1 hR2 hB2
  go_upto_region 3 with fail
  refine wp_at (fun V hV => ?_)
  have hM : V.heap[w2.heap.size]? = some (.cells #[.int .i64 K, .int .i64 F, .int .i64 T, .int .i64 I, .int .i64 L, .string k, .int .i64 N] 25 (0, 0)) := by rw [hV]; exact heap_alloc_new w2 _
  have hR : V.heap[w.heap.size]? = some (.cells #[.int .i64 0, .int .i64 0, .int .i64 0, .int .i64 0, .int .i64 0, .string ⟨#[]⟩, .int .i64 0] 25 (0, 0)) := by rw [hV, Below.heap_alloc _ _ _ hz2]; exact unhide HR2
  have hB : Below w.heap.size w V := by rw [hV]; exact (unhide HB2).alloc (unhide HB2).size _
  clear hV HR2 HB2
  have hzM := blk_lt hM
  have hzR := blk_lt hR
  have HR := hide hR
  have HB := hide hB
  have HMB := hide hM
  obtain ⟨⟨d0, d1, d2, d3, d4, d5, d6⟩, f0, f1, f2, f3, f4, f5, f6⟩ := seven_at hR
  clear hR hB hM HMB
  rcases unhide HC with hE | ⟨hE, rfl⟩
  · clear HC
    go_wp2_with fail
    refine bodyPost_at (fun W' hW' => ?_)
    obtain ⟨⟨r0, r1, r2, r3, r4, r5, r6⟩, _⟩ := seven_at (show W'.heap[w.heap.size]? = some (.cells #[.int .i64 0, .int .i64 0, .int .i64 0, .int .i64 0, .int .i64 0, .string ⟨#[]⟩, .int .i64 0] 25 (0, 0)) by rw [hW']; exact seven_set (unhide HR))
    have hbb : Below w.heap.size w W' := by rw [hW']; exact seven_below (unhide HB) (Nat.le_refl _)
    exact bodyPost_ret (v := .tuple #[.agg #[.int .i64 0, .int .i64 0, .int .i64 0, .int .i64 0, .int .i64 0, .string ⟨#[]⟩, .int .i64 0], .bool false]) (by simp [results, Tryz.results13, go_sem, r0, r1, r2, r3, r4, r5, r6]) rfl ⟨rfl, hbb⟩
  · have hE2 : ¬ (E < 0) := by omega
    clear HC
    go_wp2_with fail
    refine bodyPost_at (fun W' hW' => ?_)
    obtain ⟨⟨r0, r1, r2, r3, r4, r5, r6⟩, _⟩ := seven_at (show W'.heap[w.heap.size]? = some (.cells #[.int .i64 0, .int .i64 0, .int .i64 0, .int .i64 0, .int .i64 0, .string ⟨#[]⟩, .int .i64 0] 25 (0, 0)) by rw [hW']; exact seven_set (unhide HR))
    have hbb : Below w.heap.size w W' := by rw [hW']; exact seven_below (unhide HB) (Nat.le_refl _)
    exact bodyPost_ret (v := .tuple #[.agg #[.int .i64 0, .int .i64 0, .int .i64 0, .int .i64 0, .int .i64 0, .string ⟨#[]⟩, .int .i64 0], .bool false]) (by simp [results, Tryz.results13, go_sem, r0, r1, r2, r3, r4, r5, r6]) rfl ⟨rfl, hbb⟩

set_option maxRecDepth 100000 in
set_option maxHeartbeats 4000000 in
theorem specUnframe_yes (s : ByteArray) (hs : s.size ≤ maxLen) (w : World) (h : 0 ≤ rtE s 4) (ho : getOk (rtS s 4) = true) : Calls Tryz.prog 13 #[.string s] w fun e w' => e = .returned (unV s) ∧ Below w.heap.size w w' := by
  have HT := hide (fun w1 => specRt s 4 hs w1)
  have HG := hide (fun w1 => specGetMsg (rtS s 4) (Nat.le_trans (rtS_size s 4) (by unfold maxLen; omega)) w1)
  unfold getV at HG
  rw [ho] at HG
  have HF := hide (fun w1 => specFrame (getMg (rtS s 4)) w1 (Nat.le_trans (getMg_key _) (by unfold maxLen; omega)))
  have hu := (unOk_spec s).1
  rw [ho, decide_eq_true h] at hu
  have HO := hide hu
  have HU := hide (show unOk s = true → unV s = .tuple #[mgv (getMg (rtS s 4)), .bool true] from fun h => by rw [(unOk_spec s).2 h]; unfold unV unMg; rw [h, if_pos rfl])
  have HZ := hide (show unOk s = false → unV s = .tuple #[.agg #[.int .i64 0, .int .i64 0, .int .i64 0, .int .i64 0, .int .i64 0, .string ⟨#[]⟩, .int .i64 0], .bool false] from unV_no)
  generalize unV s = RES at *
  generalize unOk s = OK at *
  generalize rtE s 4 = E at *
  generalize frm (getMg (rtS s 4)) = fm at *
  generalize getMg (rtS s 4) = m at *
  clear ho hu
  generalize rtS s 4 = TX at *
  obtain ⟨K, F, T, I, L, k, N⟩ := m
  clear hs
  have hE2 : ¬ (E < 0) := by omega
  clear h
  go_enter Tryz.func13, Tryz.ntmps13
  go_wp2_with fail
  refine (unhide HT _).mono ?_
  rintro e w1 ⟨rfl, hb1⟩
  have hR1 := blk_step (heap_alloc_new w _) hb1
  have hB1 := (below_one w _).trans (hb1.mono (by simp))
  clear hb1
  go_wp2_with fail
  refine (unhide HG _).mono ?_
  rintro e w2 ⟨rfl, hb2⟩
  have hR2 := blk_step hR1 hb2
  have hB2 := hB1.trans (hb2.mono hB1.size)
  have hz2 := blk_lt hR2
  have HR2 := hide hR2
  have HB2 := hide hB2
  clear hb2 hR1 hB1 hR2 hB2
  go_upto_region 3 with fail
  refine wp_at (fun V hV => ?_)
  have hM : V.heap[w2.heap.size]? = some (.cells #[.int .i64 K, .int .i64 F, .int .i64 T, .int .i64 I, .int .i64 L, .string k, .int .i64 N] 25 (0, 0)) := by rw [hV]; exact heap_alloc_new w2 _
  have hR : V.heap[w.heap.size]? = some (.cells #[.int .i64 0, .int .i64 0, .int .i64 0, .int .i64 0, .int .i64 0, .string ⟨#[]⟩, .int .i64 0] 25 (0, 0)) := by rw [hV, Below.heap_alloc _ _ _ hz2]; exact unhide HR2
  have hB : Below w.heap.size w V := by rw [hV]; exact (unhide HB2).alloc (unhide HB2).size _
  clear hV HR2 HB2
  have hzM := blk_lt hM
  have hzR := blk_lt hR
  have HR := hide hR
  have HB := hide hB
  have HMB := hide hM
  obtain ⟨q0, q1, q2, q3, q4, q5, q6⟩ := cells7 hM
  clear hR hB hM
  go_wp2_with fail
  refine (unhide HF _).mono ?_
  rintro e w5 ⟨rfl, hb5⟩
  have hR5 := blk_step (unhide HR) hb5
  have hM5 := blk_step (unhide HMB) hb5
  have hB5 := (unhide HB).trans (hb5.mono (unhide HB).size)
  have hzM5 := blk_lt hM5
  have hzR5 := blk_lt hR5
  obtain ⟨⟨d0, d1, d2, d3, d4, d5, d6⟩, f0, f1, f2, f3, f4, f5, f6⟩ := seven_at hR5
  have HR5 := hide hR5
  have HB5 := hide hB5
  clear hb5 HR HMB HB q0 q1 q2 q3 q4 q5 q6 hzM hzR
  by_cases hp : fm = s
  case' neg =>
    have hO : OK = false := by rw [unhide HO, decide_eq_false hp]; rfl
    have hRes := hide (unhide HZ hO)
    have hq : (fm.toList == s.toList) = false := by
      rw [beq_eq_false_iff_ne]
      intro h
      rw [ByteArray.toList_eq, ByteArray.toList_eq] at h
      exact hp (ByteArray.ext (Array.ext' h))
    have HP := hide hp
    clear hO HO HZ HU hM5 hR5 hB5 hp
    go_wp2_with fail
    refine bodyPost_at (fun W' hW' => ?_)
    obtain ⟨⟨r0, r1, r2, r3, r4, r5, r6⟩, _⟩ := seven_at (show W'.heap[w.heap.size]? = some (.cells #[.int .i64 0, .int .i64 0, .int .i64 0, .int .i64 0, .int .i64 0, .string ⟨#[]⟩, .int .i64 0] 25 (0, 0)) by rw [hW']; exact seven_set (unhide HR5))
    have hbb : Below w.heap.size w W' := by rw [hW']; exact seven_below (unhide HB5) (Nat.le_refl _)
    exact bodyPost_ret (v := .tuple #[.agg #[.int .i64 0, .int .i64 0, .int .i64 0, .int .i64 0, .int .i64 0, .string ⟨#[]⟩, .int .i64 0], .bool false]) (by simp [results, Tryz.results13, go_sem, r0, r1, r2, r3, r4, r5, r6]) rfl ⟨by rw [unhide hRes], hbb⟩
  have hO : OK = true := by rw [unhide HO, decide_eq_true hp]; rfl
  have hRes := hide (unhide HU hO)
  have hq : (fm.toList == s.toList) = true := by rw [hp]; simp
  obtain ⟨q0, q1, q2, q3, q4, q5, q6⟩ := cells7 hM5
  have HP := hide hp
  clear hO HO HZ HU hM5 hR5 hB5 hp
  go_wp2_with fail
  refine bodyPost_at (fun W' hW' => ?_)
  obtain ⟨⟨r0, r1, r2, r3, r4, r5, r6⟩, _⟩ := seven_at (show W'.heap[w.heap.size]? = some (.cells #[.int .i64 K, .int .i64 F, .int .i64 T, .int .i64 I, .int .i64 L, .string k, .int .i64 N] 25 (0, 0)) by rw [hW']; exact seven_set (unhide HR5))
  have hbb : Below w.heap.size w W' := by rw [hW']; exact seven_below (unhide HB5) (Nat.le_refl _)
  exact bodyPost_ret (v := .tuple #[.agg #[.int .i64 K, .int .i64 F, .int .i64 T, .int .i64 I, .int .i64 L, .string k, .int .i64 N], .bool true]) (by simp [results, Tryz.results13, go_sem, r0, r1, r2, r3, r4, r5, r6]) rfl ⟨by rw [unhide hRes], hbb⟩

theorem specUnframe (s : ByteArray) (hs : s.size ≤ maxLen) (w : World) : Calls Tryz.prog 13 #[.string s] w fun e w' => e = .returned (unV s) ∧ Below w.heap.size w w' := by
  have hu := (unOk_spec s).1
  by_cases h : 0 ≤ rtE s 4
  · cases ho : getOk (rtS s 4)
    · rw [unV_no (by rw [hu, ho]; simp)]
      exact specUnframe_no s hs w (.inr ⟨h, ho⟩)
    · exact specUnframe_yes s hs w h ho
  · rw [unV_no (by rw [hu, decide_eq_false h]; rfl)]
    exact specUnframe_no s hs w (.inl (by omega))
end Go.Proofs.YtlopllgioobcjaaGreatDoor
namespace Go.Proofs.YtlopllgioobcjaaGreatDoor
open Go.RowKit
open Mth

/-- The bytes of a text lie there. -/
def BytesAt (w : World) (g : Nat) (s : ByteArray) : Prop := ∀ i (hi : i < s.size), w.cell? ⟨g, i, none⟩ = some (.int .u8 (s[i].toNat : Int))
theorem BytesAt.below {w w' : World} {g : Nat} {s : ByteArray} (h : BytesAt w g s) (hg : g < w.heap.size) (hb : Below w.heap.size w w') : BytesAt w' g s := fun i hi => by rw [(bcell hb).1 g i hg]; exact h i hi
theorem add_off (b off i : Nat) : (⟨b, off, none⟩ : Addr).add i = ⟨b, off + i, none⟩ := by unfold Addr.add; split <;> simp_all
theorem conv_piece {w : World} {g : Nat} {s : ByteArray} (h : BytesAt w g s) (lo n cap : Nat) (hn : lo + n ≤ s.size) : (convert 22 9 (.slice (some ⟨g, lo, none⟩) n cap)).run Tryz.prog w = .ok (.string (s.extract lo (lo + n))) w := by
  have hl : (s.extract lo (lo + n)).data.toList.length = n := by rw [size_toList, ByteArray.size_extract]; omega
  have hc := run_convert_bytes_back (P := Tryz.prog) w 22 9 5 ⟨g, lo, none⟩ cap (s.extract lo (lo + n)).data.toList Tryz.underlying22 Tryz.underlying5 Tryz.underlying9 (fun j hj => by
    rw [add_off, h (lo + j) (by omega)]
    congr 3
    have e : (s.extract lo (lo + n)).data.toList[j] = s.data.toList[lo + j]'(by rw [size_toList]; omega) := by
      simp only [Lib.extract_data]
      rw [List.getElem_take, List.getElem_drop]
    rw [e]
    rfl)
  rw [hl] at hc
  exact hc
theorem conv_bytes (s : ByteArray) (w : World) : ∃ (cap : Nat) (w1 : World), (convert 9 22 (.string s)).run Tryz.prog w = .ok (.slice (some ⟨w.heap.size, 0, none⟩) s.size cap) w1 ∧ s.size ≤ cap ∧ BytesAt w1 w.heap.size s ∧ w.heap.size < w1.heap.size ∧ Below w.heap.size w w1 := by
  refine ⟨_, _, run_bytes_of_string (P := Tryz.prog) w 9 22 5 s Tryz.underlying9 Tryz.underlying22 Tryz.underlying5, ?_, ?_, ?_, ?_⟩
  · exact grownCap_ge w s.size 0 5
  · intro i hi
    have h := World.cell?_alloc_mark w.drew (bytesRow s (grownCap w s.size 0 5)) 5 ((bytesRow s (grownCap w s.size 0 5)).size, (bytesRow s (grownCap w s.size 0 5)).size + 1) i
    refine Eq.trans h ?_
    rw [bytesRow_at s _ i hi]
    rfl
  · simp
  · exact ((Below.refl _ w).drew).alloc (Nat.le_refl _) _
def frT (s : ByteArray) : ByteArray := if 4 ≤ s.size ∧ 0 ≤ unZ s ∧ wordB (sumN (unT s)) = s.extract 0 4 then unT s else ByteArray.empty
def frE (s : ByteArray) : Int := if 4 ≤ s.size ∧ 0 ≤ unZ s ∧ wordB (sumN (unT s)) = s.extract 0 4 then 4 + unZ s else -1

set_option maxRecDepth 100000 in
set_option maxHeartbeats 2000000 in
theorem frameAt_short (s : ByteArray) (g cap : Nat) (w : World) (h : s.size < 4) : Calls Tryz.prog 32 #[.slice (some ⟨g, 0, none⟩) s.size cap, .int .i64 0] w fun e w' => e = .returned (.tuple #[.string ByteArray.empty, .int .i64 (-1)]) ∧ Below w.heap.size w w' := by
  have h1 : (s.size : Int) ≤ 1006 := by omega
  have h2 : (s.size : Int) < 4 := by omega
  clear h
  go_enter Tryz.func32, Tryz.ntmps32
  go_wp2_with fail
  exact bodyPost_ret (v := .tuple #[.string ⟨#[]⟩, .int .i64 (-1)]) (by simp [results, Tryz.results32, go_sem]) rfl ⟨rfl, Below.refl _ _⟩

set_option maxRecDepth 100000 in
set_option maxHeartbeats 2000000 in
theorem frameAt_four_neg (s : ByteArray) (hs : s.size ≤ maxLen) (g cap : Nat) (hcap : s.size ≤ cap) (w : World) (h4 : s.size = 4) (hc : BytesAt w g s) (_hg : g < w.heap.size) (hH : Handle w) (hz : unZ s < 0) : Calls Tryz.prog 32 #[.slice (some ⟨g, 0, none⟩) s.size cap, .int .i64 0] w fun e w' => e = .returned (.tuple #[.string ByteArray.empty, .int .i64 (-1)]) ∧ Below w.heap.size w w' := by
  have hr : (convert 22 9 (.slice (some ⟨g, 0, none⟩) 0 0)).run Tryz.prog w = .ok (.string (restOf s)) w := by
    have h := conv_piece hc 0 0 0 (by omega)
    rw [h]
    congr 2
    unfold restOf
    rw [h4]
    apply ByteArray.ext
    apply Array.ext'
    rw [Lib.extract_data, Lib.extract_data]
    simp
  have hcap2 : (4 : Int) ≤ (cap : Int) := by omega
  have hrs : (restOf s).size ≤ maxLen := by have := rest_size s; omega
  have HG := hide (implRt (restOf s) 0 hrs w hH)
  have hub := rtE_le (restOf s) 0
  have hsz := rest_size s
  have hz1 : unZ s ≤ 1002 := by unfold unZ; omega
  have e1 : rtS (restOf s) 0 = unT s := rfl
  have e2 : rtE (restOf s) 0 = unZ s := rfl
  rw [e1, e2] at HG
  generalize unZ s = z at *
  clear e1 e2 hrs hub hsz hH hcap hs
  generalize unT s = tx at *
  generalize restOf s = rs at *
  have HC := hide hc
  clear hc
  rw [h4]
  clear h4
  go_enter Tryz.func32, Tryz.ntmps32
  go_wp2_with fail
  refine (unhide HG).mono ?_
  rintro e w1 ⟨rfl, hb1⟩
  clear hr HG
  go_upto_region 7 with fail
  refine wp_at (fun V hV => ?_)
  obtain rfl := hV
  have HBV := hide hb1
  clear hb1
  refine wp_region_mix (by kernel_rfl) ?_
  show wpMix _ _ _ _ 10 (Array.replicate 10 false) _ _
  refine wpMix_take 0 rfl (by kernel_rfl) (by kernel_rfl) (by kernel_rfl) (fun _ _ _ _ h => h) (fun K hK => ?_)
  go_simp
  first
    | (refine hK _ ?_; clear hK K)
    | (apply Exists.intro
       refine ⟨fun _ => ?_, hK _ ?_⟩
       (fail)
       clear hK K)
  refine wpMix_take 1 rfl (by kernel_rfl) (by kernel_rfl) (by kernel_rfl) (fun _ _ _ _ h => h) (fun K hK => ?_)
  go_simp
  first
    | (refine hK _ ?_; clear hK K)
    | (apply Exists.intro
       refine ⟨fun _ => ?_, hK _ ?_⟩
       (fail)
       clear hK K)
  refine wpMix_take 2 rfl (by kernel_rfl) (by kernel_rfl) (by kernel_rfl) (fun _ _ _ _ h => h) (fun K hK => ?_)
  go_simp
  first
    | (refine hK _ ?_; clear hK K)
    | (apply Exists.intro
       refine ⟨fun _ => ?_, hK _ ?_⟩
       (fail)
       clear hK K)
  refine wpMix_take 3 rfl (by kernel_rfl) (by kernel_rfl) (by kernel_rfl) (fun _ _ _ _ h => h) (fun K hK => ?_)
  go_simp
  first
    | (refine hK _ ?_; clear hK K)
    | (apply Exists.intro
       refine ⟨fun _ => ?_, hK _ ?_⟩
       (fail)
       clear hK K)
  refine wpMix_take 4 rfl (by kernel_rfl) (by kernel_rfl) (by kernel_rfl) (fun _ _ _ _ h => h) (fun K hK => ?_)
  go_simp
  first
    | (refine hK _ ?_; clear hK K)
    | (apply Exists.intro
       refine ⟨fun _ => ?_, hK _ ?_⟩
       (fail)
       clear hK K)
  refine wpMix_take 5 rfl (by kernel_rfl) (by kernel_rfl) (by kernel_rfl) (fun _ _ _ _ h => h) (fun K hK => ?_)
  go_simp
  first
    | (refine hK _ ?_; clear hK K)
    | (apply Exists.intro
       refine ⟨fun _ => ?_, hK _ ?_⟩
       (fail)
       clear hK K)
  refine wpMix_take 6 rfl (by kernel_rfl) (by kernel_rfl) (by kernel_rfl) (fun _ _ _ _ h => h) (fun K hK => ?_)
  go_simp
  first
    | (refine hK _ ?_; clear hK K)
    | (apply Exists.intro
       refine ⟨fun _ => ?_, hK _ ?_⟩
       (fail)
       clear hK K)
  refine wpMix_take 7 rfl (by kernel_rfl) (by kernel_rfl) (by kernel_rfl) (fun _ _ _ _ h => h) (fun K hK => ?_)
  go_simp
  first
    | (refine hK _ ?_; clear hK K)
    | (apply Exists.intro
       refine ⟨fun _ => ?_, hK _ ?_⟩
       (fail)
       clear hK K)
  refine wpMix_take 8 rfl (by kernel_rfl) (by kernel_rfl) (by kernel_rfl) (fun _ _ _ _ h => h) (fun K hK => ?_)
  go_simp
  first
    | (refine hK _ ?_; clear hK K)
    | (apply Exists.intro
       refine ⟨fun _ => ?_, hK _ ?_⟩
       (fail)
       clear hK K)
  refine wpMix_take 9 rfl (by kernel_rfl) (by kernel_rfl) (by kernel_rfl) (fun _ _ _ _ h => h) (fun K hK => ?_)
  go_simp
  first
    | (refine hK _ ?_; clear hK K)
    | (apply Exists.intro
       refine ⟨fun _ => ?_, hK _ ?_⟩
       (fail)
       clear hK K)
  refine wpMix_done (by kernel_rfl) (fun x hx => ?_)
  have HBZ := hide (Ge.trans (unhide HBV) hx)
  clear hx HBV
  go_simp
  go_wp2_with fail
  exact bodyPost_ret (v := .tuple #[.string ⟨#[]⟩, .int .i64 (-1)]) (by simp [results, Tryz.results32, go_sem]) rfl ⟨rfl, unhide HBZ⟩

set_option maxRecDepth 100000 in
set_option maxHeartbeats 2000000 in
theorem frameAt_mid_neg (s : ByteArray) (hs : s.size ≤ maxLen) (g cap : Nat) (hcap : s.size ≤ cap) (w : World) (h5 : 5 ≤ s.size) (h6 : s.size ≤ 1006) (hc : BytesAt w g s) (_hg : g < w.heap.size) (hH : Handle w) (hz : unZ s < 0) : Calls Tryz.prog 32 #[.slice (some ⟨g, 0, none⟩) s.size cap, .int .i64 0] w fun e w' => e = .returned (.tuple #[.string ByteArray.empty, .int .i64 (-1)]) ∧ Below w.heap.size w w' := by
  have hr : (convert 22 9 (.slice (some ⟨g, 4, none⟩) (s.size - 4) (s.size - 4))).run Tryz.prog w = .ok (.string (restOf s)) w := by
    have h := conv_piece hc 4 (s.size - 4) (s.size - 4) (by omega)
    rw [h]
    unfold restOf
    rw [Nat.min_eq_left h6, show 4 + (s.size - 4) = s.size by omega]
  have h1 : (s.size : Int) ≤ 1006 := by omega
  have h2 : ¬ ((s.size : Int) < 4) := by omega
  have h3 : (4 : Int) < (s.size : Int) := by omega
  have hcap2 : (s.size : Int) ≤ (cap : Int) := by omega
  have hrs : (restOf s).size ≤ maxLen := by have := rest_size s; omega
  have HG := hide (implRt (restOf s) 0 hrs w hH)
  have hub := rtE_le (restOf s) 0
  have hsz := rest_size s
  have hz1 : unZ s ≤ 1002 := by unfold unZ; omega
  have e1 : rtS (restOf s) 0 = unT s := rfl
  have e2 : rtE (restOf s) 0 = unZ s := rfl
  rw [e1, e2] at HG
  generalize unZ s = z at *
  clear e1 e2 hrs hub hsz hH hcap hs
  generalize unT s = tx at *
  generalize restOf s = rs at *
  have HC := hide hc
  clear hc
  go_enter Tryz.func32, Tryz.ntmps32
  go_wp2_with fail
  refine (unhide HG).mono ?_
  rintro e w1 ⟨rfl, hb1⟩
  clear hr HG
  go_upto_region 7 with fail
  refine wp_at (fun V hV => ?_)
  obtain rfl := hV
  have HBV := hide hb1
  clear hb1
  refine wp_region_mix (by kernel_rfl) ?_
  show wpMix _ _ _ _ 10 (Array.replicate 10 false) _ _
  refine wpMix_take 0 rfl (by kernel_rfl) (by kernel_rfl) (by kernel_rfl) (fun _ _ _ _ h => h) (fun K hK => ?_)
  go_simp
  first
    | (refine hK _ ?_; clear hK K)
    | (apply Exists.intro
       refine ⟨fun _ => ?_, hK _ ?_⟩
       (fail)
       clear hK K)
  refine wpMix_take 1 rfl (by kernel_rfl) (by kernel_rfl) (by kernel_rfl) (fun _ _ _ _ h => h) (fun K hK => ?_)
  go_simp
  first
    | (refine hK _ ?_; clear hK K)
    | (apply Exists.intro
       refine ⟨fun _ => ?_, hK _ ?_⟩
       (fail)
       clear hK K)
  refine wpMix_take 2 rfl (by kernel_rfl) (by kernel_rfl) (by kernel_rfl) (fun _ _ _ _ h => h) (fun K hK => ?_)
  go_simp
  first
    | (refine hK _ ?_; clear hK K)
    | (apply Exists.intro
       refine ⟨fun _ => ?_, hK _ ?_⟩
       (fail)
       clear hK K)
  refine wpMix_take 3 rfl (by kernel_rfl) (by kernel_rfl) (by kernel_rfl) (fun _ _ _ _ h => h) (fun K hK => ?_)
  go_simp
  first
    | (refine hK _ ?_; clear hK K)
    | (apply Exists.intro
       refine ⟨fun _ => ?_, hK _ ?_⟩
       (fail)
       clear hK K)
  refine wpMix_take 4 rfl (by kernel_rfl) (by kernel_rfl) (by kernel_rfl) (fun _ _ _ _ h => h) (fun K hK => ?_)
  go_simp
  first
    | (refine hK _ ?_; clear hK K)
    | (apply Exists.intro
       refine ⟨fun _ => ?_, hK _ ?_⟩
       (fail)
       clear hK K)
  refine wpMix_take 5 rfl (by kernel_rfl) (by kernel_rfl) (by kernel_rfl) (fun _ _ _ _ h => h) (fun K hK => ?_)
  go_simp
  first
    | (refine hK _ ?_; clear hK K)
    | (apply Exists.intro
       refine ⟨fun _ => ?_, hK _ ?_⟩
       (fail)
       clear hK K)
  refine wpMix_take 6 rfl (by kernel_rfl) (by kernel_rfl) (by kernel_rfl) (fun _ _ _ _ h => h) (fun K hK => ?_)
  go_simp
  first
    | (refine hK _ ?_; clear hK K)
    | (apply Exists.intro
       refine ⟨fun _ => ?_, hK _ ?_⟩
       (fail)
       clear hK K)
  refine wpMix_take 7 rfl (by kernel_rfl) (by kernel_rfl) (by kernel_rfl) (fun _ _ _ _ h => h) (fun K hK => ?_)
  go_simp
  first
    | (refine hK _ ?_; clear hK K)
    | (apply Exists.intro
       refine ⟨fun _ => ?_, hK _ ?_⟩
       (fail)
       clear hK K)
  refine wpMix_take 8 rfl (by kernel_rfl) (by kernel_rfl) (by kernel_rfl) (fun _ _ _ _ h => h) (fun K hK => ?_)
  go_simp
  first
    | (refine hK _ ?_; clear hK K)
    | (apply Exists.intro
       refine ⟨fun _ => ?_, hK _ ?_⟩
       (fail)
       clear hK K)
  refine wpMix_take 9 rfl (by kernel_rfl) (by kernel_rfl) (by kernel_rfl) (fun _ _ _ _ h => h) (fun K hK => ?_)
  go_simp
  first
    | (refine hK _ ?_; clear hK K)
    | (apply Exists.intro
       refine ⟨fun _ => ?_, hK _ ?_⟩
       (fail)
       clear hK K)
  refine wpMix_done (by kernel_rfl) (fun x hx => ?_)
  have HBZ := hide (Ge.trans (unhide HBV) hx)
  clear hx HBV
  go_simp
  go_wp2_with fail
  exact bodyPost_ret (v := .tuple #[.string ⟨#[]⟩, .int .i64 (-1)]) (by simp [results, Tryz.results32, go_sem]) rfl ⟨rfl, unhide HBZ⟩

set_option maxRecDepth 100000 in
set_option maxHeartbeats 2000000 in
theorem frameAt_mid_bad (s : ByteArray) (hs : s.size ≤ maxLen) (g cap : Nat) (hcap : s.size ≤ cap) (w : World) (h5 : 5 ≤ s.size) (h6 : s.size ≤ 1006) (hc : BytesAt w g s) (hg : g < w.heap.size) (hH : Handle w) (hz : 0 ≤ unZ s) (hq : ¬ wordB (sumN (unT s)) = s.extract 0 4) : Calls Tryz.prog 32 #[.slice (some ⟨g, 0, none⟩) s.size cap, .int .i64 0] w fun e w' => e = .returned (.tuple #[.string ByteArray.empty, .int .i64 (-1)]) ∧ Below w.heap.size w w' := by
  have hr : (convert 22 9 (.slice (some ⟨g, 4, none⟩) (s.size - 4) (s.size - 4))).run Tryz.prog w = .ok (.string (restOf s)) w := by
    have h := conv_piece hc 4 (s.size - 4) (s.size - 4) (by omega)
    rw [h]
    unfold restOf
    rw [Nat.min_eq_left h6, show 4 + (s.size - 4) = s.size by omega]
  have h1 : (s.size : Int) ≤ 1006 := by omega
  have h2 : ¬ ((s.size : Int) < 4) := by omega
  have h3 : (4 : Int) < (s.size : Int) := by omega
  have hcap2 : (s.size : Int) ≤ (cap : Int) := by omega
  have hrs : (restOf s).size ≤ maxLen := by have := rest_size s; omega
  have HG := hide (implRt (restOf s) 0 hrs w hH)
  have hub := rtE_le (restOf s) 0
  have hsz := rest_size s
  have hz1 : unZ s ≤ 1002 := by unfold unZ; omega
  have e1 : rtS (restOf s) 0 = unT s := rfl
  have e2 : rtE (restOf s) 0 = unZ s := rfl
  rw [e1, e2] at HG
  have hn := sumN_lt (unT s)
  have HS := hide (fun w1 => sumBytes (unT s) (Nat.le_trans (rtS_size _ _) (by unfold maxLen; omega)) w1)
  have HCV := hide (fun w1 g => conv_four w1 g (sumN (unT s)) 4 hn)
  have HCC := hide (fun w1 (hb : Below w.heap.size w w1) => conv_piece (hc.below hg hb) 0 4 4 (by omega))
  have hqq : ((wordB (sumN (unT s))).toList == (s.extract 0 (0 + 4)).toList) = false := by
    rw [beq_eq_false_iff_ne]
    intro h
    rw [ByteArray.toList_eq, ByteArray.toList_eq] at h
    exact hq (ByteArray.ext (Array.ext' h))
  generalize unZ s = z at *
  clear e1 e2 hrs hub hsz hH hcap hs
  generalize wordB (sumN (unT s)) = bW at *
  generalize sumN (unT s) = n at *
  generalize s.extract 0 (0 + 4) = hd at *
  have HQ := hide hq
  clear hn hq
  have hz2 : ¬ (z < 0) := by omega
  have hz3 : decide (z < 0) = false := decide_eq_false hz2
  generalize unT s = tx at *
  generalize restOf s = rs at *
  have HC := hide hc
  clear hc
  go_enter Tryz.func32, Tryz.ntmps32
  go_wp2_with fail
  refine (unhide HG).mono ?_
  rintro e w1 ⟨rfl, hb1⟩
  clear hr HG
  go_upto_region 7 with fail
  refine wp_at (fun V hV => ?_)
  obtain rfl := hV
  have HBV := hide hb1
  clear hb1
  have hcc := fun d os => unhide HCC (Sort.grow (redrawn V d) os) (Ge.trans (unhide HBV) (below_regrown V d os))
  refine wp_region_mix (by kernel_rfl) ?_
  show wpMix _ _ _ _ 10 (Array.replicate 10 false) _ _
  refine wpMix_take 0 rfl (by kernel_rfl) (by kernel_rfl) (by kernel_rfl) (fun _ _ _ _ h => h) (fun K hK => ?_)
  go_simp
  first
    | (refine hK _ ?_; clear hK K)
    | (apply Exists.intro
       refine ⟨fun _ => ?_, hK _ ?_⟩
       (fail)
       clear hK K)
  refine wpMix_take 1 rfl (by kernel_rfl) (by kernel_rfl) (by kernel_rfl) (fun _ _ _ _ h => h) (fun K hK => ?_)
  go_simp
  first
    | (refine hK _ ?_; clear hK K)
    | (apply Exists.intro
       refine ⟨fun _ => ?_, hK _ ?_⟩
       (fail)
       clear hK K)
  refine wpMix_take 2 rfl (by kernel_rfl) (by kernel_rfl) (by kernel_rfl) (fun _ _ _ _ h => h) (fun K hK => ?_)
  go_simp
  first
    | (refine hK _ ?_; clear hK K)
    | (apply Exists.intro
       refine ⟨fun _ => ?_, hK _ ?_⟩
       (fail)
       clear hK K)
  refine wpMix_take 3 rfl (by kernel_rfl) (by kernel_rfl) (by kernel_rfl) (fun _ _ _ _ h => h) (fun K hK => ?_)
  go_simp
  first
    | (refine hK _ ?_; clear hK K)
    | (apply Exists.intro
       refine ⟨fun _ => ?_, hK _ ?_⟩
       (fail)
       clear hK K)
  refine wpMix_take 6 rfl (by kernel_rfl) (by kernel_rfl) (by kernel_rfl) (fun _ _ _ _ h => h) (fun K hK => ?_)
  go_simp
  first
    | (refine hK _ ?_; clear hK K)
    | (apply Exists.intro
       refine ⟨fun _ => ?_, hK _ ?_⟩
       (fail)
       clear hK K)
  refine wpMix_take 7 rfl (by kernel_rfl) (by kernel_rfl) (by kernel_rfl) (fun _ _ _ _ h => h) (fun K hK => ?_)
  go_simp
  first
    | (refine hK _ ?_; clear hK K)
    | (apply Exists.intro
       refine ⟨fun _ => ?_, hK _ ?_⟩
       (fail)
       clear hK K)
  refine wpMix_one 4 rfl (by kernel_rfl) (by rfl) (fun x hx => ?_)
  go_simp
  refine (unhide HS _).mono ?_
  rintro e y ⟨g2, rfl, hg2, hblk, hby⟩
  refine ⟨hby, ?_⟩
  have HBY := hide (Ge.trans (Ge.trans (unhide HBV) hx) hby)
  have hgy := blk_lt hblk
  obtain ⟨c0, c1, c2, c3⟩ := cells4 hblk
  have hcv := fun d os => unhide HCV (Sort.grow (redrawn y d) os) g2 (cell_regrown c0 d os) (cell_regrown c1 d os) (cell_regrown c2 d os) (cell_regrown c3 d os)
  clear hx hby hblk c0 c1 c2 c3 HCV HBV HS hcc HCC hg2
  refine wpMix_take 5 rfl (by kernel_rfl) (by kernel_rfl) (by kernel_rfl) (fun _ _ _ _ h => h) (fun K hK => ?_)
  go_simp
  first
    | (refine hK _ ?_; clear hK K)
    | (apply Exists.intro
       refine ⟨fun _ => ?_, hK _ ?_⟩
       (fail)
       clear hK K)
  refine wpMix_take 8 rfl (by kernel_rfl) (by kernel_rfl) (by kernel_rfl) (fun _ _ _ _ h => h) (fun K hK => ?_)
  go_simp
  first
    | (refine hK _ ?_; clear hK K)
    | (apply Exists.intro
       refine ⟨fun _ => ?_, hK _ ?_⟩
       (fail)
       clear hK K)
  refine wpMix_take 9 rfl (by kernel_rfl) (by kernel_rfl) (by kernel_rfl) (fun _ _ _ _ h => h) (fun K hK => ?_)
  go_simp
  first
    | (refine hK _ ?_; clear hK K)
    | (apply Exists.intro
       refine ⟨fun _ => ?_, hK _ ?_⟩
       (fail)
       clear hK K)
  refine wpMix_done (by kernel_rfl) (fun x2 hx => ?_)
  have HBZ := hide (Ge.trans (unhide HBY) hx)
  clear hx HBY hcv
  go_simp
  go_wp2_with fail
  exact bodyPost_ret (v := .tuple #[.string ⟨#[]⟩, .int .i64 (-1)]) (by simp [results, Tryz.results32, go_sem]) rfl ⟨rfl, unhide HBZ⟩

set_option maxRecDepth 100000 in
set_option maxHeartbeats 2000000 in
theorem frameAt_mid_good (s : ByteArray) (hs : s.size ≤ maxLen) (g cap : Nat) (hcap : s.size ≤ cap) (w : World) (h5 : 5 ≤ s.size) (h6 : s.size ≤ 1006) (hc : BytesAt w g s) (hg : g < w.heap.size) (hH : Handle w) (hz : 0 ≤ unZ s) (hq : wordB (sumN (unT s)) = s.extract 0 4) : Calls Tryz.prog 32 #[.slice (some ⟨g, 0, none⟩) s.size cap, .int .i64 0] w fun e w' => e = .returned (.tuple #[.string (unT s), .int .i64 (4 + unZ s)]) ∧ Below w.heap.size w w' := by
  have hr : (convert 22 9 (.slice (some ⟨g, 4, none⟩) (s.size - 4) (s.size - 4))).run Tryz.prog w = .ok (.string (restOf s)) w := by
    have h := conv_piece hc 4 (s.size - 4) (s.size - 4) (by omega)
    rw [h]
    unfold restOf
    rw [Nat.min_eq_left h6, show 4 + (s.size - 4) = s.size by omega]
  have h1 : (s.size : Int) ≤ 1006 := by omega
  have h2 : ¬ ((s.size : Int) < 4) := by omega
  have h3 : (4 : Int) < (s.size : Int) := by omega
  have hcap2 : (s.size : Int) ≤ (cap : Int) := by omega
  have hrs : (restOf s).size ≤ maxLen := by have := rest_size s; omega
  have HG := hide (implRt (restOf s) 0 hrs w hH)
  have hub := rtE_le (restOf s) 0
  have hsz := rest_size s
  have hz1 : unZ s ≤ 1002 := by unfold unZ; omega
  have e1 : rtS (restOf s) 0 = unT s := rfl
  have e2 : rtE (restOf s) 0 = unZ s := rfl
  rw [e1, e2] at HG
  have hn := sumN_lt (unT s)
  have HS := hide (fun w1 => sumBytes (unT s) (Nat.le_trans (rtS_size _ _) (by unfold maxLen; omega)) w1)
  have HCV := hide (fun w1 g => conv_four w1 g (sumN (unT s)) 4 hn)
  have HCC := hide (fun w1 (hb : Below w.heap.size w w1) => conv_piece (hc.below hg hb) 0 4 4 (by omega))
  have hqq : ((wordB (sumN (unT s))).toList == (s.extract 0 (0 + 4)).toList) = true := by
    rw [hq]; simp
  generalize unZ s = z at *
  clear e1 e2 hrs hub hsz hH hcap hs
  generalize wordB (sumN (unT s)) = bW at *
  generalize sumN (unT s) = n at *
  generalize s.extract 0 (0 + 4) = hd at *
  have HQ := hide hq
  clear hn hq
  have hz2 : ¬ (z < 0) := by omega
  have hz3 : decide (z < 0) = false := decide_eq_false hz2
  generalize unT s = tx at *
  generalize restOf s = rs at *
  have HC := hide hc
  clear hc
  go_enter Tryz.func32, Tryz.ntmps32
  go_wp2_with fail
  refine (unhide HG).mono ?_
  rintro e w1 ⟨rfl, hb1⟩
  clear hr HG
  go_upto_region 7 with fail
  refine wp_at (fun V hV => ?_)
  obtain rfl := hV
  have HBV := hide hb1
  clear hb1
  have hcc := fun d os => unhide HCC (Sort.grow (redrawn V d) os) (Ge.trans (unhide HBV) (below_regrown V d os))
  refine wp_region_mix (by kernel_rfl) ?_
  show wpMix _ _ _ _ 10 (Array.replicate 10 false) _ _
  refine wpMix_take 0 rfl (by kernel_rfl) (by kernel_rfl) (by kernel_rfl) (fun _ _ _ _ h => h) (fun K hK => ?_)
  go_simp
  first
    | (refine hK _ ?_; clear hK K)
    | (apply Exists.intro
       refine ⟨fun _ => ?_, hK _ ?_⟩
       (fail)
       clear hK K)
  refine wpMix_take 1 rfl (by kernel_rfl) (by kernel_rfl) (by kernel_rfl) (fun _ _ _ _ h => h) (fun K hK => ?_)
  go_simp
  first
    | (refine hK _ ?_; clear hK K)
    | (apply Exists.intro
       refine ⟨fun _ => ?_, hK _ ?_⟩
       (fail)
       clear hK K)
  refine wpMix_take 2 rfl (by kernel_rfl) (by kernel_rfl) (by kernel_rfl) (fun _ _ _ _ h => h) (fun K hK => ?_)
  go_simp
  first
    | (refine hK _ ?_; clear hK K)
    | (apply Exists.intro
       refine ⟨fun _ => ?_, hK _ ?_⟩
       (fail)
       clear hK K)
  refine wpMix_take 3 rfl (by kernel_rfl) (by kernel_rfl) (by kernel_rfl) (fun _ _ _ _ h => h) (fun K hK => ?_)
  go_simp
  first
    | (refine hK _ ?_; clear hK K)
    | (apply Exists.intro
       refine ⟨fun _ => ?_, hK _ ?_⟩
       (fail)
       clear hK K)
  refine wpMix_take 6 rfl (by kernel_rfl) (by kernel_rfl) (by kernel_rfl) (fun _ _ _ _ h => h) (fun K hK => ?_)
  go_simp
  first
    | (refine hK _ ?_; clear hK K)
    | (apply Exists.intro
       refine ⟨fun _ => ?_, hK _ ?_⟩
       (fail)
       clear hK K)
  refine wpMix_take 7 rfl (by kernel_rfl) (by kernel_rfl) (by kernel_rfl) (fun _ _ _ _ h => h) (fun K hK => ?_)
  go_simp
  first
    | (refine hK _ ?_; clear hK K)
    | (apply Exists.intro
       refine ⟨fun _ => ?_, hK _ ?_⟩
       (fail)
       clear hK K)
  refine wpMix_one 4 rfl (by kernel_rfl) (by rfl) (fun x hx => ?_)
  go_simp
  refine (unhide HS _).mono ?_
  rintro e y ⟨g2, rfl, hg2, hblk, hby⟩
  refine ⟨hby, ?_⟩
  have HBY := hide (Ge.trans (Ge.trans (unhide HBV) hx) hby)
  have hgy := blk_lt hblk
  obtain ⟨c0, c1, c2, c3⟩ := cells4 hblk
  have hcv := fun d os => unhide HCV (Sort.grow (redrawn y d) os) g2 (cell_regrown c0 d os) (cell_regrown c1 d os) (cell_regrown c2 d os) (cell_regrown c3 d os)
  clear hx hby hblk c0 c1 c2 c3 HCV HBV HS hcc HCC hg2
  refine wpMix_take 5 rfl (by kernel_rfl) (by kernel_rfl) (by kernel_rfl) (fun _ _ _ _ h => h) (fun K hK => ?_)
  go_simp
  first
    | (refine hK _ ?_; clear hK K)
    | (apply Exists.intro
       refine ⟨fun _ => ?_, hK _ ?_⟩
       (fail)
       clear hK K)
  refine wpMix_take 8 rfl (by kernel_rfl) (by kernel_rfl) (by kernel_rfl) (fun _ _ _ _ h => h) (fun K hK => ?_)
  go_simp
  first
    | (refine hK _ ?_; clear hK K)
    | (apply Exists.intro
       refine ⟨fun _ => ?_, hK _ ?_⟩
       (fail)
       clear hK K)
  refine wpMix_take 9 rfl (by kernel_rfl) (by kernel_rfl) (by kernel_rfl) (fun _ _ _ _ h => h) (fun K hK => ?_)
  go_simp
  first
    | (refine hK _ ?_; clear hK K)
    | (apply Exists.intro
       refine ⟨fun _ => ?_, hK _ ?_⟩
       (fail)
       clear hK K)
  refine wpMix_done (by kernel_rfl) (fun x2 hx => ?_)
  have HBZ := hide (Ge.trans (unhide HBY) hx)
  clear hx HBY hcv
  go_simp
  go_wp2_with fail
  exact bodyPost_ret (v := .tuple #[.string tx, .int .i64 (4 + z)]) (by simp [results, Tryz.results32, go_sem]) rfl ⟨rfl, unhide HBZ⟩

set_option maxRecDepth 100000 in
set_option maxHeartbeats 2000000 in
theorem frameAt_long_neg (s : ByteArray) (hs : s.size ≤ maxLen) (g cap : Nat) (hcap : s.size ≤ cap) (w : World) (h7 : 1006 < s.size) (hc : BytesAt w g s) (_hg : g < w.heap.size) (hH : Handle w) (hz : unZ s < 0) : Calls Tryz.prog 32 #[.slice (some ⟨g, 0, none⟩) s.size cap, .int .i64 0] w fun e w' => e = .returned (.tuple #[.string ByteArray.empty, .int .i64 (-1)]) ∧ Below w.heap.size w w' := by
  have hr : (convert 22 9 (.slice (some ⟨g, 4, none⟩) 1002 1002)).run Tryz.prog w = .ok (.string (restOf s)) w := by
    have h := conv_piece hc 4 1002 1002 (by omega)
    rw [h]
    unfold restOf
    rw [Nat.min_eq_right (by omega)]
  have h1 : ¬ ((s.size : Int) ≤ 1006) := by omega
  have h3 : (1006 : Int) < (s.size : Int) := by omega
  have hcap2 : (1006 : Int) ≤ (cap : Int) := by omega
  have hrs : (restOf s).size ≤ maxLen := by have := rest_size s; omega
  have HG := hide (implRt (restOf s) 0 hrs w hH)
  have hub := rtE_le (restOf s) 0
  have hsz := rest_size s
  have hz1 : unZ s ≤ 1002 := by unfold unZ; omega
  have e1 : rtS (restOf s) 0 = unT s := rfl
  have e2 : rtE (restOf s) 0 = unZ s := rfl
  rw [e1, e2] at HG
  generalize unZ s = z at *
  clear e1 e2 hrs hub hsz hH hcap hs
  generalize unT s = tx at *
  generalize restOf s = rs at *
  have HC := hide hc
  clear hc
  go_enter Tryz.func32, Tryz.ntmps32
  go_wp2_with fail
  refine (unhide HG).mono ?_
  rintro e w1 ⟨rfl, hb1⟩
  clear hr HG
  go_upto_region 7 with fail
  refine wp_at (fun V hV => ?_)
  obtain rfl := hV
  have HBV := hide hb1
  clear hb1
  refine wp_region_mix (by kernel_rfl) ?_
  show wpMix _ _ _ _ 10 (Array.replicate 10 false) _ _
  refine wpMix_take 0 rfl (by kernel_rfl) (by kernel_rfl) (by kernel_rfl) (fun _ _ _ _ h => h) (fun K hK => ?_)
  go_simp
  first
    | (refine hK _ ?_; clear hK K)
    | (apply Exists.intro
       refine ⟨fun _ => ?_, hK _ ?_⟩
       (fail)
       clear hK K)
  refine wpMix_take 1 rfl (by kernel_rfl) (by kernel_rfl) (by kernel_rfl) (fun _ _ _ _ h => h) (fun K hK => ?_)
  go_simp
  first
    | (refine hK _ ?_; clear hK K)
    | (apply Exists.intro
       refine ⟨fun _ => ?_, hK _ ?_⟩
       (fail)
       clear hK K)
  refine wpMix_take 2 rfl (by kernel_rfl) (by kernel_rfl) (by kernel_rfl) (fun _ _ _ _ h => h) (fun K hK => ?_)
  go_simp
  first
    | (refine hK _ ?_; clear hK K)
    | (apply Exists.intro
       refine ⟨fun _ => ?_, hK _ ?_⟩
       (fail)
       clear hK K)
  refine wpMix_take 3 rfl (by kernel_rfl) (by kernel_rfl) (by kernel_rfl) (fun _ _ _ _ h => h) (fun K hK => ?_)
  go_simp
  first
    | (refine hK _ ?_; clear hK K)
    | (apply Exists.intro
       refine ⟨fun _ => ?_, hK _ ?_⟩
       (fail)
       clear hK K)
  refine wpMix_take 4 rfl (by kernel_rfl) (by kernel_rfl) (by kernel_rfl) (fun _ _ _ _ h => h) (fun K hK => ?_)
  go_simp
  first
    | (refine hK _ ?_; clear hK K)
    | (apply Exists.intro
       refine ⟨fun _ => ?_, hK _ ?_⟩
       (fail)
       clear hK K)
  refine wpMix_take 5 rfl (by kernel_rfl) (by kernel_rfl) (by kernel_rfl) (fun _ _ _ _ h => h) (fun K hK => ?_)
  go_simp
  first
    | (refine hK _ ?_; clear hK K)
    | (apply Exists.intro
       refine ⟨fun _ => ?_, hK _ ?_⟩
       (fail)
       clear hK K)
  refine wpMix_take 6 rfl (by kernel_rfl) (by kernel_rfl) (by kernel_rfl) (fun _ _ _ _ h => h) (fun K hK => ?_)
  go_simp
  first
    | (refine hK _ ?_; clear hK K)
    | (apply Exists.intro
       refine ⟨fun _ => ?_, hK _ ?_⟩
       (fail)
       clear hK K)
  refine wpMix_take 7 rfl (by kernel_rfl) (by kernel_rfl) (by kernel_rfl) (fun _ _ _ _ h => h) (fun K hK => ?_)
  go_simp
  first
    | (refine hK _ ?_; clear hK K)
    | (apply Exists.intro
       refine ⟨fun _ => ?_, hK _ ?_⟩
       (fail)
       clear hK K)
  refine wpMix_take 8 rfl (by kernel_rfl) (by kernel_rfl) (by kernel_rfl) (fun _ _ _ _ h => h) (fun K hK => ?_)
  go_simp
  first
    | (refine hK _ ?_; clear hK K)
    | (apply Exists.intro
       refine ⟨fun _ => ?_, hK _ ?_⟩
       (fail)
       clear hK K)
  refine wpMix_take 9 rfl (by kernel_rfl) (by kernel_rfl) (by kernel_rfl) (fun _ _ _ _ h => h) (fun K hK => ?_)
  go_simp
  first
    | (refine hK _ ?_; clear hK K)
    | (apply Exists.intro
       refine ⟨fun _ => ?_, hK _ ?_⟩
       (fail)
       clear hK K)
  refine wpMix_done (by kernel_rfl) (fun x hx => ?_)
  have HBZ := hide (Ge.trans (unhide HBV) hx)
  clear hx HBV
  go_simp
  go_wp2_with fail
  exact bodyPost_ret (v := .tuple #[.string ⟨#[]⟩, .int .i64 (-1)]) (by simp [results, Tryz.results32, go_sem]) rfl ⟨rfl, unhide HBZ⟩

set_option maxRecDepth 100000 in
set_option maxHeartbeats 2000000 in
theorem frameAt_long_bad (s : ByteArray) (hs : s.size ≤ maxLen) (g cap : Nat) (hcap : s.size ≤ cap) (w : World) (h7 : 1006 < s.size) (hc : BytesAt w g s) (hg : g < w.heap.size) (hH : Handle w) (hz : 0 ≤ unZ s) (hq : ¬ wordB (sumN (unT s)) = s.extract 0 4) : Calls Tryz.prog 32 #[.slice (some ⟨g, 0, none⟩) s.size cap, .int .i64 0] w fun e w' => e = .returned (.tuple #[.string ByteArray.empty, .int .i64 (-1)]) ∧ Below w.heap.size w w' := by
  have hr : (convert 22 9 (.slice (some ⟨g, 4, none⟩) 1002 1002)).run Tryz.prog w = .ok (.string (restOf s)) w := by
    have h := conv_piece hc 4 1002 1002 (by omega)
    rw [h]
    unfold restOf
    rw [Nat.min_eq_right (by omega)]
  have h1 : ¬ ((s.size : Int) ≤ 1006) := by omega
  have h3 : (1006 : Int) < (s.size : Int) := by omega
  have hcap2 : (1006 : Int) ≤ (cap : Int) := by omega
  have hrs : (restOf s).size ≤ maxLen := by have := rest_size s; omega
  have HG := hide (implRt (restOf s) 0 hrs w hH)
  have hub := rtE_le (restOf s) 0
  have hsz := rest_size s
  have hz1 : unZ s ≤ 1002 := by unfold unZ; omega
  have e1 : rtS (restOf s) 0 = unT s := rfl
  have e2 : rtE (restOf s) 0 = unZ s := rfl
  rw [e1, e2] at HG
  have hn := sumN_lt (unT s)
  have HS := hide (fun w1 => sumBytes (unT s) (Nat.le_trans (rtS_size _ _) (by unfold maxLen; omega)) w1)
  have HCV := hide (fun w1 g => conv_four w1 g (sumN (unT s)) 4 hn)
  have HCC := hide (fun w1 (hb : Below w.heap.size w w1) => conv_piece (hc.below hg hb) 0 4 4 (by omega))
  have hqq : ((wordB (sumN (unT s))).toList == (s.extract 0 (0 + 4)).toList) = false := by
    rw [beq_eq_false_iff_ne]
    intro h
    rw [ByteArray.toList_eq, ByteArray.toList_eq] at h
    exact hq (ByteArray.ext (Array.ext' h))
  generalize unZ s = z at *
  clear e1 e2 hrs hub hsz hH hcap hs
  generalize wordB (sumN (unT s)) = bW at *
  generalize sumN (unT s) = n at *
  generalize s.extract 0 (0 + 4) = hd at *
  have HQ := hide hq
  clear hn hq
  have hz2 : ¬ (z < 0) := by omega
  have hz3 : decide (z < 0) = false := decide_eq_false hz2
  generalize unT s = tx at *
  generalize restOf s = rs at *
  have HC := hide hc
  clear hc
  go_enter Tryz.func32, Tryz.ntmps32
  go_wp2_with fail
  refine (unhide HG).mono ?_
  rintro e w1 ⟨rfl, hb1⟩
  clear hr HG
  go_upto_region 7 with fail
  refine wp_at (fun V hV => ?_)
  obtain rfl := hV
  have HBV := hide hb1
  clear hb1
  have hcc := fun d os => unhide HCC (Sort.grow (redrawn V d) os) (Ge.trans (unhide HBV) (below_regrown V d os))
  refine wp_region_mix (by kernel_rfl) ?_
  show wpMix _ _ _ _ 10 (Array.replicate 10 false) _ _
  refine wpMix_take 0 rfl (by kernel_rfl) (by kernel_rfl) (by kernel_rfl) (fun _ _ _ _ h => h) (fun K hK => ?_)
  go_simp
  first
    | (refine hK _ ?_; clear hK K)
    | (apply Exists.intro
       refine ⟨fun _ => ?_, hK _ ?_⟩
       (fail)
       clear hK K)
  refine wpMix_take 1 rfl (by kernel_rfl) (by kernel_rfl) (by kernel_rfl) (fun _ _ _ _ h => h) (fun K hK => ?_)
  go_simp
  first
    | (refine hK _ ?_; clear hK K)
    | (apply Exists.intro
       refine ⟨fun _ => ?_, hK _ ?_⟩
       (fail)
       clear hK K)
  refine wpMix_take 2 rfl (by kernel_rfl) (by kernel_rfl) (by kernel_rfl) (fun _ _ _ _ h => h) (fun K hK => ?_)
  go_simp
  first
    | (refine hK _ ?_; clear hK K)
    | (apply Exists.intro
       refine ⟨fun _ => ?_, hK _ ?_⟩
       (fail)
       clear hK K)
  refine wpMix_take 3 rfl (by kernel_rfl) (by kernel_rfl) (by kernel_rfl) (fun _ _ _ _ h => h) (fun K hK => ?_)
  go_simp
  first
    | (refine hK _ ?_; clear hK K)
    | (apply Exists.intro
       refine ⟨fun _ => ?_, hK _ ?_⟩
       (fail)
       clear hK K)
  refine wpMix_take 6 rfl (by kernel_rfl) (by kernel_rfl) (by kernel_rfl) (fun _ _ _ _ h => h) (fun K hK => ?_)
  go_simp
  first
    | (refine hK _ ?_; clear hK K)
    | (apply Exists.intro
       refine ⟨fun _ => ?_, hK _ ?_⟩
       (fail)
       clear hK K)
  refine wpMix_take 7 rfl (by kernel_rfl) (by kernel_rfl) (by kernel_rfl) (fun _ _ _ _ h => h) (fun K hK => ?_)
  go_simp
  first
    | (refine hK _ ?_; clear hK K)
    | (apply Exists.intro
       refine ⟨fun _ => ?_, hK _ ?_⟩
       (fail)
       clear hK K)
  refine wpMix_one 4 rfl (by kernel_rfl) (by rfl) (fun x hx => ?_)
  go_simp
  refine (unhide HS _).mono ?_
  rintro e y ⟨g2, rfl, hg2, hblk, hby⟩
  refine ⟨hby, ?_⟩
  have HBY := hide (Ge.trans (Ge.trans (unhide HBV) hx) hby)
  have hgy := blk_lt hblk
  obtain ⟨c0, c1, c2, c3⟩ := cells4 hblk
  have hcv := fun d os => unhide HCV (Sort.grow (redrawn y d) os) g2 (cell_regrown c0 d os) (cell_regrown c1 d os) (cell_regrown c2 d os) (cell_regrown c3 d os)
  clear hx hby hblk c0 c1 c2 c3 HCV HBV HS hcc HCC hg2
  refine wpMix_take 5 rfl (by kernel_rfl) (by kernel_rfl) (by kernel_rfl) (fun _ _ _ _ h => h) (fun K hK => ?_)
  go_simp
  first
    | (refine hK _ ?_; clear hK K)
    | (apply Exists.intro
       refine ⟨fun _ => ?_, hK _ ?_⟩
       (fail)
       clear hK K)
  refine wpMix_take 8 rfl (by kernel_rfl) (by kernel_rfl) (by kernel_rfl) (fun _ _ _ _ h => h) (fun K hK => ?_)
  go_simp
  first
    | (refine hK _ ?_; clear hK K)
    | (apply Exists.intro
       refine ⟨fun _ => ?_, hK _ ?_⟩
       (fail)
       clear hK K)
  refine wpMix_take 9 rfl (by kernel_rfl) (by kernel_rfl) (by kernel_rfl) (fun _ _ _ _ h => h) (fun K hK => ?_)
  go_simp
  first
    | (refine hK _ ?_; clear hK K)
    | (apply Exists.intro
       refine ⟨fun _ => ?_, hK _ ?_⟩
       (fail)
       clear hK K)
  refine wpMix_done (by kernel_rfl) (fun x2 hx => ?_)
  have HBZ := hide (Ge.trans (unhide HBY) hx)
  clear hx HBY hcv
  go_simp
  go_wp2_with fail
  exact bodyPost_ret (v := .tuple #[.string ⟨#[]⟩, .int .i64 (-1)]) (by simp [results, Tryz.results32, go_sem]) rfl ⟨rfl, unhide HBZ⟩

set_option maxRecDepth 100000 in
set_option maxHeartbeats 2000000 in
theorem frameAt_long_good (s : ByteArray) (hs : s.size ≤ maxLen) (g cap : Nat) (hcap : s.size ≤ cap) (w : World) (h7 : 1006 < s.size) (hc : BytesAt w g s) (hg : g < w.heap.size) (hH : Handle w) (hz : 0 ≤ unZ s) (hq : wordB (sumN (unT s)) = s.extract 0 4) : Calls Tryz.prog 32 #[.slice (some ⟨g, 0, none⟩) s.size cap, .int .i64 0] w fun e w' => e = .returned (.tuple #[.string (unT s), .int .i64 (4 + unZ s)]) ∧ Below w.heap.size w w' := by
  have hr : (convert 22 9 (.slice (some ⟨g, 4, none⟩) 1002 1002)).run Tryz.prog w = .ok (.string (restOf s)) w := by
    have h := conv_piece hc 4 1002 1002 (by omega)
    rw [h]
    unfold restOf
    rw [Nat.min_eq_right (by omega)]
  have h1 : ¬ ((s.size : Int) ≤ 1006) := by omega
  have h3 : (1006 : Int) < (s.size : Int) := by omega
  have hcap2 : (1006 : Int) ≤ (cap : Int) := by omega
  have hrs : (restOf s).size ≤ maxLen := by have := rest_size s; omega
  have HG := hide (implRt (restOf s) 0 hrs w hH)
  have hub := rtE_le (restOf s) 0
  have hsz := rest_size s
  have hz1 : unZ s ≤ 1002 := by unfold unZ; omega
  have e1 : rtS (restOf s) 0 = unT s := rfl
  have e2 : rtE (restOf s) 0 = unZ s := rfl
  rw [e1, e2] at HG
  have hn := sumN_lt (unT s)
  have HS := hide (fun w1 => sumBytes (unT s) (Nat.le_trans (rtS_size _ _) (by unfold maxLen; omega)) w1)
  have HCV := hide (fun w1 g => conv_four w1 g (sumN (unT s)) 4 hn)
  have HCC := hide (fun w1 (hb : Below w.heap.size w w1) => conv_piece (hc.below hg hb) 0 4 4 (by omega))
  have hqq : ((wordB (sumN (unT s))).toList == (s.extract 0 (0 + 4)).toList) = true := by
    rw [hq]; simp
  generalize unZ s = z at *
  clear e1 e2 hrs hub hsz hH hcap hs
  generalize wordB (sumN (unT s)) = bW at *
  generalize sumN (unT s) = n at *
  generalize s.extract 0 (0 + 4) = hd at *
  have HQ := hide hq
  clear hn hq
  have hz2 : ¬ (z < 0) := by omega
  have hz3 : decide (z < 0) = false := decide_eq_false hz2
  generalize unT s = tx at *
  generalize restOf s = rs at *
  have HC := hide hc
  clear hc
  go_enter Tryz.func32, Tryz.ntmps32
  go_wp2_with fail
  refine (unhide HG).mono ?_
  rintro e w1 ⟨rfl, hb1⟩
  clear hr HG
  go_upto_region 7 with fail
  refine wp_at (fun V hV => ?_)
  obtain rfl := hV
  have HBV := hide hb1
  clear hb1
  have hcc := fun d os => unhide HCC (Sort.grow (redrawn V d) os) (Ge.trans (unhide HBV) (below_regrown V d os))
  refine wp_region_mix (by kernel_rfl) ?_
  show wpMix _ _ _ _ 10 (Array.replicate 10 false) _ _
  refine wpMix_take 0 rfl (by kernel_rfl) (by kernel_rfl) (by kernel_rfl) (fun _ _ _ _ h => h) (fun K hK => ?_)
  go_simp
  first
    | (refine hK _ ?_; clear hK K)
    | (apply Exists.intro
       refine ⟨fun _ => ?_, hK _ ?_⟩
       (fail)
       clear hK K)
  refine wpMix_take 1 rfl (by kernel_rfl) (by kernel_rfl) (by kernel_rfl) (fun _ _ _ _ h => h) (fun K hK => ?_)
  go_simp
  first
    | (refine hK _ ?_; clear hK K)
    | (apply Exists.intro
       refine ⟨fun _ => ?_, hK _ ?_⟩
       (fail)
       clear hK K)
  refine wpMix_take 2 rfl (by kernel_rfl) (by kernel_rfl) (by kernel_rfl) (fun _ _ _ _ h => h) (fun K hK => ?_)
  go_simp
  first
    | (refine hK _ ?_; clear hK K)
    | (apply Exists.intro
       refine ⟨fun _ => ?_, hK _ ?_⟩
       (fail)
       clear hK K)
  refine wpMix_take 3 rfl (by kernel_rfl) (by kernel_rfl) (by kernel_rfl) (fun _ _ _ _ h => h) (fun K hK => ?_)
  go_simp
  first
    | (refine hK _ ?_; clear hK K)
    | (apply Exists.intro
       refine ⟨fun _ => ?_, hK _ ?_⟩
       (fail)
       clear hK K)
  refine wpMix_take 6 rfl (by kernel_rfl) (by kernel_rfl) (by kernel_rfl) (fun _ _ _ _ h => h) (fun K hK => ?_)
  go_simp
  first
    | (refine hK _ ?_; clear hK K)
    | (apply Exists.intro
       refine ⟨fun _ => ?_, hK _ ?_⟩
       (fail)
       clear hK K)
  refine wpMix_take 7 rfl (by kernel_rfl) (by kernel_rfl) (by kernel_rfl) (fun _ _ _ _ h => h) (fun K hK => ?_)
  go_simp
  first
    | (refine hK _ ?_; clear hK K)
    | (apply Exists.intro
       refine ⟨fun _ => ?_, hK _ ?_⟩
       (fail)
       clear hK K)
  refine wpMix_one 4 rfl (by kernel_rfl) (by rfl) (fun x hx => ?_)
  go_simp
  refine (unhide HS _).mono ?_
  rintro e y ⟨g2, rfl, hg2, hblk, hby⟩
  refine ⟨hby, ?_⟩
  have HBY := hide (Ge.trans (Ge.trans (unhide HBV) hx) hby)
  have hgy := blk_lt hblk
  obtain ⟨c0, c1, c2, c3⟩ := cells4 hblk
  have hcv := fun d os => unhide HCV (Sort.grow (redrawn y d) os) g2 (cell_regrown c0 d os) (cell_regrown c1 d os) (cell_regrown c2 d os) (cell_regrown c3 d os)
  clear hx hby hblk c0 c1 c2 c3 HCV HBV HS hcc HCC hg2
  refine wpMix_take 5 rfl (by kernel_rfl) (by kernel_rfl) (by kernel_rfl) (fun _ _ _ _ h => h) (fun K hK => ?_)
  go_simp
  first
    | (refine hK _ ?_; clear hK K)
    | (apply Exists.intro
       refine ⟨fun _ => ?_, hK _ ?_⟩
       (fail)
       clear hK K)
  refine wpMix_take 8 rfl (by kernel_rfl) (by kernel_rfl) (by kernel_rfl) (fun _ _ _ _ h => h) (fun K hK => ?_)
  go_simp
  first
    | (refine hK _ ?_; clear hK K)
    | (apply Exists.intro
       refine ⟨fun _ => ?_, hK _ ?_⟩
       (fail)
       clear hK K)
  refine wpMix_take 9 rfl (by kernel_rfl) (by kernel_rfl) (by kernel_rfl) (fun _ _ _ _ h => h) (fun K hK => ?_)
  go_simp
  first
    | (refine hK _ ?_; clear hK K)
    | (apply Exists.intro
       refine ⟨fun _ => ?_, hK _ ?_⟩
       (fail)
       clear hK K)
  refine wpMix_done (by kernel_rfl) (fun x2 hx => ?_)
  have HBZ := hide (Ge.trans (unhide HBY) hx)
  clear hx HBY hcv
  go_simp
  go_wp2_with fail
  exact bodyPost_ret (v := .tuple #[.string tx, .int .i64 (4 + z)]) (by simp [results, Tryz.results32, go_sem]) rfl ⟨rfl, unhide HBZ⟩

theorem unZ_four (s : ByteArray) (h : s.size = 4) : unZ s < 0 := by
  have hsz := rest_size s
  have e1 : getAt (restOf s) 0 = none := by
    cases hG : getAt (restOf s) 0 with
    | none => rfl
    | some p =>
      obtain ⟨n, c⟩ := p
      obtain ⟨k, hk0, hk, hc, _⟩ := read_put hG
      omega
  unfold unZ rtE
  rw [e1]
  simp [textOf, txtE]
theorem frameAt (s : ByteArray) (hs : s.size ≤ maxLen) (g cap : Nat) (hcap : s.size ≤ cap) (w : World) (hc : BytesAt w g s) (hg : g < w.heap.size) (hH : Handle w) : Calls Tryz.prog 32 #[.slice (some ⟨g, 0, none⟩) s.size cap, .int .i64 0] w fun e w' => e = .returned (.tuple #[.string (frT s), .int .i64 (frE s)]) ∧ Below w.heap.size w w' := by
  unfold frT frE
  by_cases h4 : 4 ≤ s.size
  case' neg =>
    rw [if_neg (by omega), if_neg (by omega)]
    exact frameAt_short s g cap w (by omega)
  by_cases h5 : s.size = 4
  case' pos =>
    have hz := unZ_four s h5
    rw [if_neg (by omega), if_neg (by omega)]
    exact frameAt_four_neg s hs g cap hcap w h5 hc hg hH hz
  by_cases hz : 0 ≤ unZ s
  case' neg =>
    rw [if_neg (by omega), if_neg (by omega)]
    by_cases h6 : s.size ≤ 1006
    · exact frameAt_mid_neg s hs g cap hcap w (by omega) h6 hc hg hH (by omega)
    · exact frameAt_long_neg s hs g cap hcap w (by omega) hc hg hH (by omega)
  by_cases hq : wordB (sumN (unT s)) = s.extract 0 4
  case' neg =>
    rw [if_neg (fun h => hq h.2.2), if_neg (fun h => hq h.2.2)]
    by_cases h6 : s.size ≤ 1006
    · exact frameAt_mid_bad s hs g cap hcap w (by omega) h6 hc hg hH hz hq
    · exact frameAt_long_bad s hs g cap hcap w (by omega) hc hg hH hz hq
  rw [if_pos ⟨h4, hz, hq⟩, if_pos ⟨h4, hz, hq⟩]
  by_cases h6 : s.size ≤ 1006
  · exact frameAt_mid_good s hs g cap hcap w (by omega) h6 hc hg hH hz hq
  · exact frameAt_long_good s hs g cap hcap w (by omega) hc hg hH hz hq
end Go.Proofs.YtlopllgioobcjaaGreatDoor
namespace Go.Proofs.YtlopllgioobcjaaGreatDoor
open Go.RowKit
open Mth

theorem un_other {s : ByteArray} (h : ¬ frE s = s.size) : unOk s = false := by
  cases ho : unOk s with
  | false => rfl
  | true =>
    unfold unOk at ho
    simp only [Bool.and_eq_true, decide_eq_true_iff] at ho
    obtain ⟨⟨⟨⟨h1, h2⟩, h3⟩, h4⟩, _⟩ := ho
    exact absurd (by unfold frE; rw [if_pos ⟨h1, h2, h3⟩]; exact h4) h
theorem un_same {s : ByteArray} (h : frE s = s.size) : frT s = unT s ∧ unV s = getV (unT s) := by
  unfold frE at h
  split at h
  · rename_i hc
    have ht : frT s = unT s := by unfold frT; rw [if_pos hc]
    refine ⟨ht, ?_⟩
    have ho : unOk s = getOk (unT s) := by
      unfold unOk
      rw [decide_eq_true hc.1, decide_eq_true hc.2.1, decide_eq_true hc.2.2, decide_eq_true h]
      simp only [Bool.true_and]
    unfold unV getV unMg
    rw [ho]
    cases hg : getOk (unT s) with
    | true => rw [if_pos rfl]
    | false =>
      rw [if_neg (by simp)]
      unfold getMg
      rw [hg, if_neg (by simp)]
  · omega

set_option maxRecDepth 100000 in
set_option maxHeartbeats 2000000 in
theorem implUnframe (s : ByteArray) (hs : s.size ≤ maxLen) (w : World) (hH : Handle w) : Calls Tryz.prog 12 #[.string s] w fun e w' => e = .returned (unV s) ∧ Below w.heap.size w w' := by
  obtain ⟨cap, w1, hconv, hcap, hbytes, hlt, hbel⟩ := conv_bytes s (w.alloc (.cells #[.int .i64 0, .int .i64 0, .int .i64 0, .int .i64 0, .int .i64 0, .string ⟨#[]⟩, .int .i64 0] 25))
  rw [show (w.alloc (.cells #[.int .i64 0, .int .i64 0, .int .i64 0, .int .i64 0, .int .i64 0, .string ⟨#[]⟩, .int .i64 0] 25)).heap.size = w.heap.size + 1 by simp] at hconv hbytes hlt hbel
  have hB1 : Below w.heap.size w w1 := (below_one w (.cells #[.int .i64 0, .int .i64 0, .int .i64 0, .int .i64 0, .int .i64 0, .string ⟨#[]⟩, .int .i64 0] 25)).trans (hbel.mono (by omega))
  have hR1 : w1.heap[w.heap.size]? = some (.cells #[.int .i64 0, .int .i64 0, .int .i64 0, .int .i64 0, .int .i64 0, .string ⟨#[]⟩, .int .i64 0] 25 (0, 0)) := by
    rw [hbel.block w.heap.size (by omega)]
    exact heap_alloc_new w _
  have HH1 := hH.below hB1
  have HF := hide (frameAt s hs (w.heap.size + 1) cap hcap w1 hbytes hlt HH1)
  have HH := hide hH
  clear hbytes hH HH1 hbel
  by_cases he : frE s = s.size
  case' neg =>
    have hRes := hide (unV_no (un_other he))
    have hq : (frE s != (s.size : Int)) = true := by simpa using he
    have HE := hide he
    clear he
    generalize frE s = E at *
    generalize frT s = TX at *
    generalize unV s = RES at *
    have HR1 := hide hR1
    have HB1 := hide hB1
    clear hR1 hB1 hs
    go_enter Tryz.func12, Tryz.ntmps12
    go_wp2_with fail
    refine (unhide HF).mono ?_
    rintro e w2 ⟨rfl, hb2⟩
    have hR2 := blk_step (unhide HR1) hb2
    have hB2 := (unhide HB1).trans (hb2.mono (unhide HB1).size)
    have hz2 := blk_lt hR2
    obtain ⟨⟨d0, d1, d2, d3, d4, d5, d6⟩, f0, f1, f2, f3, f4, f5, f6⟩ := seven_at hR2
    have HR2 := hide hR2
    have HB2 := hide hB2
    clear hb2 hR2 hB2 HR1 HB1 hconv
    go_wp2_with fail
    refine bodyPost_at (fun W' hW' => ?_)
    obtain ⟨⟨r0, r1, r2, r3, r4, r5, r6⟩, _⟩ := seven_at (show W'.heap[w.heap.size]? = some (.cells #[.int .i64 0, .int .i64 0, .int .i64 0, .int .i64 0, .int .i64 0, .string ⟨#[]⟩, .int .i64 0] 25 (0, 0)) by rw [hW']; exact seven_set (unhide HR2))
    have hbb : Below w.heap.size w W' := by rw [hW']; exact seven_below (unhide HB2) (Nat.le_refl _)
    exact bodyPost_ret (v := .tuple #[.agg #[.int .i64 0, .int .i64 0, .int .i64 0, .int .i64 0, .int .i64 0, .string ⟨#[]⟩, .int .i64 0], .bool false]) (by simp [results, Tryz.results12, go_sem, r0, r1, r2, r3, r4, r5, r6]) rfl ⟨by rw [unhide hRes], hbb⟩
  obtain ⟨ht, hv⟩ := un_same he
  rw [ht] at HF
  have HG := hide (fun w1 h => implGetMsg (unT s) (Nat.le_trans (rtS_size _ _) (by unfold maxLen; omega)) w1 h)
  rw [hv]
  unfold getV at *
  have hq : (frE s != (s.size : Int)) = false := by simpa using he
  have HE := hide he
  clear he ht hv
  generalize frE s = E at *
  generalize getMg (unT s) = m at *
  generalize getOk (unT s) = OK at *
  generalize unT s = TX at *
  obtain ⟨K, F, T, I, L, k, N⟩ := m
  have HR1 := hide hR1
  have HB1 := hide hB1
  clear hR1 hB1 hs
  go_enter Tryz.func12, Tryz.ntmps12
  go_wp2_with fail
  refine (unhide HF).mono ?_
  rintro e w2 ⟨rfl, hb2⟩
  have HR2 := hide (blk_step (unhide HR1) hb2)
  have HB2 := hide ((unhide HB1).trans (hb2.mono (unhide HB1).size))
  clear hb2 HR1 HB1 hconv
  go_wp2_with fail
  refine (unhide HG _ ((unhide HH).below (unhide HB2))).mono ?_
  rintro e w3 ⟨rfl, hb3⟩
  have hR3 := blk_step (unhide HR2) hb3
  have hB3 := (unhide HB2).trans (hb3.mono (unhide HB2).size)
  have hz3 := blk_lt hR3
  obtain ⟨⟨d0, d1, d2, d3, d4, d5, d6⟩, f0, f1, f2, f3, f4, f5, f6⟩ := seven_at hR3
  have HR3 := hide hR3
  have HB3 := hide hB3
  clear hb3 hR3 hB3 HR2 HB2 HG
  go_wp2_with fail
  refine bodyPost_at (fun W' hW' => ?_)
  obtain ⟨⟨r0, r1, r2, r3, r4, r5, r6⟩, _⟩ := seven_at (show W'.heap[w.heap.size]? = some (.cells #[.int .i64 K, .int .i64 F, .int .i64 T, .int .i64 I, .int .i64 L, .string k, .int .i64 N] 25 (0, 0)) by rw [hW']; exact seven_set (unhide HR3))
  have hbb : Below w.heap.size w W' := by rw [hW']; exact seven_below (unhide HB3) (Nat.le_refl _)
  exact bodyPost_ret (v := .tuple #[.agg #[.int .i64 K, .int .i64 F, .int .i64 T, .int .i64 I, .int .i64 L, .string k, .int .i64 N], .bool OK]) (by simp [results, Tryz.results12, go_sem, r0, r1, r2, r3, r4, r5, r6]) rfl ⟨rfl, hbb⟩
end Go.Proofs.YtlopllgioobcjaaGreatDoor
namespace Go.Proofs.YtlopllgioobcjaaGreatDoor
open Go.RowKit
open Mth

theorem get_pre (pre y : List UInt8) (n : Nat) (h : n ≤ 4000000000) : Mth.get (pre ++ (Mth.put n ++ y)) pre.length = some (n, (Mth.put n).length) := by
  have := getF_put 5 n 5 0 1 0 y (by omega) (by omega) (by omega) (.inr rfl) (by omega)
  unfold Mth.get
  rw [List.drop_left]
  simpa [Mth.put] using this
theorem rd_pre {s : ByteArray} {pre y : List UInt8} {n : Nat} (hs : s.data.toList = pre ++ (Mth.put n ++ y)) (h : n ≤ 4000000000) (i : Int) (hi : i = pre.length) : rdN s i = n ∧ rdE s i = (pre.length + (Mth.put n).length : Nat) := by
  subst hi
  have hg : getAt s (pre.length : Int) = some (n, (Mth.put n).length) := by rw [getAt_nat, hs]; exact get_pre pre y n h
  unfold rdN rdE
  rw [hg]
  simp only [numN, numT]
  exact ⟨trivial, by omega⟩
theorem rt_pre {s : ByteArray} {pre y : List UInt8} {t : ByteArray} (hs : s.data.toList = pre ++ (Mth.put t.size ++ (t.data.toList ++ y))) (h : t.size ≤ 1000) (i : Int) (hi : i = pre.length) : rtS s i = t ∧ rtE s i = (pre.length + (putT t).size : Nat) := by
  subst hi
  have hg : getAt s (pre.length : Int) = some (t.size, (Mth.put t.size).length) := by rw [getAt_nat, hs]; exact get_pre pre _ t.size (by omega)
  have hl := congrArg List.length hs
  rw [size_toList] at hl
  simp only [List.length_append, size_toList] at hl
  have hps : (putT t).size = (Mth.put t.size).length + t.size := by unfold putT; rw [if_pos h]; unfold putText; rw [size_of_list, List.length_append, size_toList]
  have ht : textOf s (pre.length : Int).toNat (getAt s (pre.length : Int)) = some (t, pre.length + (Mth.put t.size).length + t.size) := by
    rw [hg]
    unfold textOf
    simp only [Int.toNat_natCast]
    rw [if_neg (by omega)]
    congr 2
    apply ByteArray.ext
    apply Array.ext'
    rw [Lib.extract_data, hs]
    have e : pre ++ (Mth.put t.size ++ (t.data.toList ++ y)) = (pre ++ Mth.put t.size) ++ (t.data.toList ++ y) := by simp
    rw [e, show pre.length + (Mth.put t.size).length = (pre ++ Mth.put t.size).length by simp, List.drop_left]
    rw [show (pre ++ Mth.put t.size).length + t.size - (pre ++ Mth.put t.size).length = t.data.toList.length by rw [size_toList]; omega, List.take_left]
  unfold rtS rtE
  rw [ht]
  simp only [txtS, txtE]
  exact ⟨trivial, by omega⟩
/-- What a right message's parts are, each within its bounds. -/
theorem mg_all {m : Mg} (h : mgOk m = true) : (0 ≤ m.K ∧ m.K ≤ 2) ∧ (0 ≤ m.F ∧ m.F ≤ 29) ∧ (0 ≤ m.T ∧ m.T ≤ 29) ∧ (0 ≤ m.I ∧ m.I ≤ 1000000000) ∧ (0 ≤ m.L ∧ m.L ≤ 1000000000) ∧ (0 ≤ m.N ∧ m.N ≤ 1000000000) ∧ m.k.size ≤ 10 := by
  have hkey : ∀ s : ByteArray, keyOk s.data.toList = true → s.size ≤ 10 := by
    intro s hs
    unfold keyOk at hs
    simp only [Bool.and_eq_true, decide_eq_true_iff] at hs
    have := size_toList s
    omega
  unfold mgOk rtB ndB at h
  simp only [Bool.and_eq_true, decide_eq_true_iff] at h
  obtain ⟨⟨⟨hF, hT⟩, _⟩, h⟩ := h
  split at h
  · simp only [Bool.and_eq_true, smB, decide_eq_true_iff] at h
    have := hkey _ h.1.1.1
    omega
  · split at h
    · simp only [Bool.and_eq_true, smB, decide_eq_true_iff] at h
      have := hkey _ h.1.1.1
      omega
    · split at h
      · simp only [Bool.and_eq_true, smB, decide_eq_true_iff] at h
        omega
      · cases h
theorem putS_nat {n : Int} (h0 : 0 ≤ n) (h1 : n ≤ 1000000000) : (putS n).data.toList = Mth.put n.toNat := by
  unfold putS
  rw [if_pos (by omega)]
theorem putT_list {t : ByteArray} (h : t.size ≤ 1000) : (putT t).data.toList = Mth.put t.size ++ t.data.toList := by
  unfold putT
  rw [if_pos h]
  rfl
/-- A message comes back from its bytes. -/
theorem back_msg {m : Mg} (h : mgOk m = true) : cand (mgBytes m) = m ∧ getOk (mgBytes m) = true := by
  obtain ⟨hK, hF, hT, hI, hL, hN, hk⟩ := mg_all h
  obtain ⟨K, F, T, I, L, k, N⟩ := m
  dsimp only at *
  have hs : (mgBytes ⟨K, F, T, I, L, k, N⟩).data.toList = [UInt8.ofNat K.toNat] ++ (Mth.put F.toNat ++ (Mth.put T.toNat ++ (Mth.put I.toNat ++ (Mth.put L.toNat ++ ((Mth.put k.size ++ k.data.toList) ++ Mth.put N.toNat))))) := by
    unfold mgBytes
    simp only [ByteArray.data_append, Array.toList_append]
    rw [putS_nat hF.1 (by omega), putS_nat hT.1 (by omega), putS_nat hI.1 (by omega), putS_nat hL.1 (by omega), putS_nat hN.1 (by omega), putT_list (by omega)]
    simp [kb]
  generalize hB : mgBytes ⟨K, F, T, I, L, k, N⟩ = B at *
  obtain ⟨n1, e1⟩ := rd_pre (pre := [UInt8.ofNat K.toNat]) (n := F.toNat) hs (by omega) 1 rfl
  obtain ⟨n2, e2⟩ := rd_pre (pre := [UInt8.ofNat K.toNat] ++ Mth.put F.toNat) (n := T.toNat) (s := B) (by rw [hs]; simp only [List.append_assoc]; rfl) (by omega) (rdE B 1) (by rw [e1, List.length_append])
  obtain ⟨n3, e3⟩ := rd_pre (pre := [UInt8.ofNat K.toNat] ++ Mth.put F.toNat ++ Mth.put T.toNat) (n := I.toNat) (s := B) (by rw [hs]; simp only [List.append_assoc]; rfl) (by omega) (rdE B (rdE B 1)) (by rw [e2]; simp only [List.length_append])
  obtain ⟨n4, e4⟩ := rd_pre (pre := [UInt8.ofNat K.toNat] ++ Mth.put F.toNat ++ Mth.put T.toNat ++ Mth.put I.toNat) (n := L.toNat) (s := B) (by rw [hs]; simp only [List.append_assoc]; rfl) (by omega) (rdE B (rdE B (rdE B 1))) (by rw [e3]; simp only [List.length_append])
  obtain ⟨n5, e5⟩ := rt_pre (pre := [UInt8.ofNat K.toNat] ++ Mth.put F.toNat ++ Mth.put T.toNat ++ Mth.put I.toNat ++ Mth.put L.toNat) (t := k) (y := Mth.put N.toNat) (s := B) (by rw [hs]; simp only [List.append_assoc]) (by omega) (rdE B (rdE B (rdE B (rdE B 1)))) (by rw [e4]; simp only [List.length_append])
  have hpk : (putT k).size = (Mth.put k.size ++ k.data.toList).length := by rw [← putT_list (by omega), size_toList]
  obtain ⟨n6, e6⟩ := rd_pre (pre := [UInt8.ofNat K.toNat] ++ Mth.put F.toNat ++ Mth.put T.toNat ++ Mth.put I.toNat ++ Mth.put L.toNat ++ (Mth.put k.size ++ k.data.toList)) (n := N.toNat) (y := []) (s := B) (by rw [hs]; simp only [List.append_assoc, List.append_nil]) (by omega) (rtE B (rdE B (rdE B (rdE B (rdE B 1))))) (by rw [e5, hpk]; simp only [List.length_append])
  have hc : cand B = ⟨K, F, T, I, L, k, N⟩ := by
    unfold cand
    rw [n1, n2, n3, n4, n5, n6, hs]
    simp only [List.cons_append, List.nil_append, List.headD_cons, Mg.mk.injEq]
    have := toNat_byte K.toNat (by omega)
    refine ⟨?_, ?_, ?_, ?_, ?_, trivial, ?_⟩ <;> omega
  have hE : candE B = B.size := by
    unfold candE
    rw [e6, ← size_toList B, hs]
    simp only [List.length_append]
    omega
  refine ⟨hc, ?_⟩
  have h0 : 0 < B.size := by rw [← hB]; exact mgBytes_pos _
  unfold getOk
  rw [decide_eq_true h0, decide_eq_true hE, hc, h]
  rfl
theorem get_back {m : Mg} (h : mgOk m = true) : getMg (mgBytes m) = m := by
  obtain ⟨h1, h2⟩ := back_msg h
  unfold getMg
  rw [if_pos h2, h1]
theorem mgBytes_small {m : Mg} (h : mgOk m = true) : (mgBytes m).size ≤ 1000 := by
  obtain ⟨_, _, _, _, _, _, hk⟩ := mg_all h
  unfold mgBytes
  have s1 := putS_size m.F
  have s2 := putS_size m.T
  have s3 := putS_size m.I
  have s4 := putS_size m.L
  have s6 := putS_size m.N
  have s5 : (putT m.k).size ≤ 16 := by
    unfold putT
    rw [if_pos (by omega)]
    unfold putText
    have := put_length m.k.size
    rw [size_of_list, List.length_append, size_toList]
    omega
  simp only [ByteArray.size_append, kb_size]
  omega
theorem frame_list {t : ByteArray} (h : t.size ≤ 1000) : (frameT t).data.toList = (wordB (sumN t)).data.toList ++ (Mth.put t.size ++ t.data.toList) := by
  unfold frameT
  rw [ByteArray.data_append, Array.toList_append, putT_list h]
/-- A message comes back from its frame. -/
theorem back_frame {m : Mg} (h : mgOk m = true) : unOk (frm m) = true ∧ unMg (frm m) = m := by
  obtain ⟨_, hg⟩ := back_msg h
  have hb := mgBytes_small h
  have hw : (wordB (sumN (mgBytes m))).data.toList.length = 4 := by rw [size_toList]; exact wordB_size _
  rw [frm_yes h]
  obtain ⟨r1, r2⟩ := rt_pre (s := frameT (mgBytes m)) (pre := (wordB (sumN (mgBytes m))).data.toList) (y := []) (t := mgBytes m) (by rw [frame_list hb, List.append_nil]) hb 4 (by rw [hw]; rfl)
  have hu := unOk_spec (frameT (mgBytes m))
  have ho : unOk (frameT (mgBytes m)) = true := by
    rw [hu.1, r1, r2, hg, get_back h, frm_yes h, decide_eq_true rfl, decide_eq_true (by omega)]
    rfl
  refine ⟨ho, ?_⟩
  have ht := hu.2 ho
  unfold unMg
  rw [if_pos ho, ← ht, r1]
  exact get_back h
/-- One frame is no beginning of another. -/
theorem frame_pre {t b : ByteArray} {z : List UInt8} (ht : t.size ≤ 1000) (hb : b.size ≤ 1000) (h : (frameT t).data.toList = (frameT b).data.toList ++ z) : z = [] := by
  rw [frame_list ht, frame_list hb] at h
  have hw1 : (wordB (sumN t)).data.toList.length = 4 := by rw [size_toList]; exact wordB_size _
  have hw2 : (wordB (sumN b)).data.toList.length = 4 := by rw [size_toList]; exact wordB_size _
  rw [List.append_assoc] at h
  have hd := (List.append_inj h (by rw [hw1, hw2])).2
  have g1 := get_pre [] t.data.toList t.size (by omega)
  have g2 := get_pre [] (b.data.toList ++ z) b.size (by omega)
  rw [List.nil_append] at g1 g2
  rw [hd, List.append_assoc] at g1
  rw [g2] at g1
  have he : b.size = t.size := by injection g1 with g1; injection g1
  have hl := congrArg List.length hd
  simp only [List.length_append, size_toList, he] at hl
  exact List.length_eq_zero_iff.1 (by omega)
theorem un_frame {p : ByteArray} (h : unOk p = true) : frm (unMg p) = p ∧ frameT (unT p) = p ∧ (unT p).size ≤ 1000 := by
  have hu := unOk_spec p
  have ht := hu.2 h
  have h' := h
  rw [hu.1] at h'
  simp only [Bool.and_eq_true, decide_eq_true_iff] at h'
  obtain ⟨⟨_, hg⟩, hf⟩ := h'
  rw [ht] at hg hf
  obtain ⟨g1, g2⟩ := got_bytes hg
  have e : unMg p = getMg (unT p) := by unfold unMg; rw [if_pos h]
  refine ⟨by rw [e]; exact hf, ?_, rtS_size _ _⟩
  rw [frm_yes g1, g2] at hf
  exact hf
/-- A frame that is cut is none; one with more is none. -/
theorem cut_none {m : Mg} (h : mgOk m = true) (k : Nat) (hk : k < (frm m).size) : unOk ((frm m).extract 0 k) = false := by
  cases ho : unOk ((frm m).extract 0 k) with
  | false => rfl
  | true =>
    obtain ⟨_, h2, h3⟩ := un_frame ho
    have hb := mgBytes_small h
    rw [frm_yes h] at *
    have e : (frameT (mgBytes m)).data.toList = ((frameT (mgBytes m)).extract 0 k).data.toList ++ (frameT (mgBytes m)).data.toList.drop k := by
      rw [Lib.extract_data]
      simp
    rw [← h2] at e
    have hz := frame_pre hb h3 e
    have hl := congrArg List.length hz
    rw [List.length_drop, size_toList] at hl
    simp at hl
    omega
theorem more_none {m : Mg} (h : mgOk m = true) (x : ByteArray) (hx : 0 < x.size) : unOk (frm m ++ x) = false := by
  cases ho : unOk (frm m ++ x) with
  | false => rfl
  | true =>
    obtain ⟨_, h2, h3⟩ := un_frame ho
    have hb := mgBytes_small h
    rw [frm_yes h] at *
    have e : (frameT (unT (frameT (mgBytes m) ++ x))).data.toList = (frameT (mgBytes m)).data.toList ++ x.data.toList := by rw [h2, ByteArray.data_append, Array.toList_append]
    have hz := frame_pre h3 hb e
    have hl := congrArg List.length hz
    rw [size_toList] at hl
    have h9 : ([] : List UInt8).length = 0 := rfl
    omega
end Go.Proofs.YtlopllgioobcjaaGreatDoor
