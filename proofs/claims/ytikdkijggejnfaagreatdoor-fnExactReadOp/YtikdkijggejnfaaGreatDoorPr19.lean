/- Parts. -/
import Derived.Test.YtikdkijggejnfaaGreatDoorPr10
import Derived.Test.YtikdkijggejnfaaGreatDoorPr18
import Derived.Deep.RegionHeld
namespace Go.Proofs.YtikdkijggejnfaaGreatDoor
open Go.RowKit
open Mth

def hasL (l : List Int) (x : Int) : Bool := l.any fun y => decide (y = x)
theorem hasL_snoc (l : List Int) (x : Int) (k : Nat) (h : k < l.length) : hasL (l.take (k + 1)) x = (hasL (l.take k) x || decide (l[k] = x)) := by
  unfold hasL
  rw [List.take_succ_eq_append_getElem h, List.any_append]
  simp
theorem hasL_yes (l : List Int) (x : Int) (k : Nat) (h : k < l.length) (hx : l[k] = x) : hasL l x = true := by
  unfold hasL
  rw [List.any_eq_true]
  exact ⟨l[k], List.getElem_mem h, by simp [hx]⟩
theorem ret_bl {a b : Bool} (h : a = b) : Ending.returned (.bool a) = .returned (.bool b) := by rw [h]
set_option maxRecDepth 100000 in
set_option maxHeartbeats 1000000 in
theorem roHas (g cap : Nat) (l : List Int) (x : Int) (w : World) (hl : l.length ≤ 1000) (hc : ∀ i (hi : i < l.length), w.cell? ⟨g, i, none⟩ = some (.int .i64 l[i])) :
    Calls Tryz.prog 26 #[.slice (some ⟨g, 0, none⟩) l.length cap, .int .i64 x] w fun e w' => e = .returned (.bool (hasL l x)) ∧ w = w' := by
  have HA := hide hc
  clear hc
  go_enter Tryz.func26, Tryz.ntmps26
  go_wp2_with fail
  go_loop [5] (fun i => ∃ k : Nat, k ≤ l.length ∧ i = .int .i64 k ∧ hasL (l.take k) x = false) (fun i => l.length - (intOf i).toNat)
  case atStart => exact ⟨0, Nat.zero_le _, rfl, rfl⟩
  case round =>
    obtain ⟨k, hk, rfl, hno⟩ := hrel
    have HN := hide hno
    clear hno
    by_cases hlt : k < l.length
    · have q0 := unhide HA k hlt
      by_cases hx : l[k] = x
      · have HY := hide (hasL_yes l x k hlt hx)
        rw [hx] at q0
        clear hx
        go_wp2_with fail
        go_ret
        exact ⟨ret_bl (unhide HY).symm, rfl⟩
      · have HS := hide (hasL_snoc l x k hlt)
        have HX := hide hx
        generalize l[k] = y at *
        have hq : decide (y = x) = false := decide_eq_false hx
        go_wp2_with fail
        go_round
        case rel => exact ⟨k + 1, by omega, by go_num, by rw [unhide HS, unhide HN, hq]; rfl⟩
        case measure => simp [intOf]; omega
    · have he : l.take k = l := List.take_of_length_le (by omega)
      rw [he] at HN
      clear he
      go_wp2_with fail
      go_ret
      exact ⟨ret_bl (unhide HN).symm, rfl⟩
/-- The six words. -/
def kws : List ByteArray := [⟨#[109, 105, 110, 116]⟩, ⟨#[97, 100, 109, 105, 116]⟩, ⟨#[114, 101, 108, 101, 97, 115, 101]⟩, ⟨#[119, 97, 110, 116]⟩, ⟨#[98, 97, 99, 107]⟩, ⟨#[116, 105, 99, 107]⟩]
theorem kws_at (x : ByteArray) (k : Nat) (hk : k < kws.length) : kws[k] = x ↔ kindB x = k := by
  have h6 : k = 0 ∨ k = 1 ∨ k = 2 ∨ k = 3 ∨ k = 4 ∨ k = 5 := by have : kws.length = 6 := rfl; omega
  have key : ∀ j : Nat, ∀ hj : j < kws.length, kindB kws[j] = j := by decide +kernel
  constructor
  · intro h; rw [← h]; exact key k hk
  · intro h
    unfold kindB at h
    rcases h6 with rfl | rfl | rfl | rfl | rfl | rfl
    all_goals
      repeat' split at h
      all_goals first | (rename_i hx; exact hx.symm) | (exfalso; omega) | (exfalso; revert h; decide)
/-- What the loop has found by its k-th round. -/
def kUp (x : ByteArray) (k : Nat) : Int := if kindB x < k then kindB x else -1
theorem kUp_0 (x : ByteArray) : kUp x 0 = -1 := by
  unfold kUp
  have := kindB_cases x
  split <;> omega
theorem kUp_6 (x : ByteArray) : kUp x 6 = kindB x := by
  unfold kUp
  have := kindB_cases x
  rw [if_pos (by omega)]
theorem kUp_yes {x : ByteArray} {k : Nat} (h : kindB x = k) : kUp x (k + 1) = k := by unfold kUp; rw [if_pos (by omega), h]
theorem kUp_no {x : ByteArray} {k : Nat} (h : ¬ kindB x = k) : kUp x (k + 1) = kUp x k := by
  unfold kUp
  by_cases h1 : kindB x < k
  · rw [if_pos h1, if_pos (by omega)]
  · rw [if_neg h1, if_neg (by omega)]
theorem ro_setS {w : World} {c : Nat} {cs : Array Value} {t : TypeId} (h : w.heap[c]? = some (.cells cs t (0, 0))) (i : Nat) (v : Value) : (w.setCell ⟨c, i, none⟩ v).heap[c]? = some (.cells (cs.setIfInBounds i v) t (0, 0)) := by
  unfold World.setCell
  simp only [Array.getElem?_modify]
  rw [if_pos trivial, h]
  rfl
theorem cell_otherS {w : World} {a p : Addr} {v : Value} (h : p.block ≠ a.block) : (w.setCell a v).cell? p = w.cell? p := by
  unfold World.cell?
  rw [Below.heap_setCell _ _ _ _ h]
/-- The model's memory while it reads: the result's block, the words, the operation. -/
structure RoL (w : World) (g q : Nat) (xs : List ByteArray) (cs : Array Value) (W : World) : Prop where
  bel : Below w.heap.size w W
  res : W.heap[w.heap.size]? = some (.cells #[.int .i64 0, .int .i64 0, .string ⟨#[]⟩, .int .i64 0, .int .i64 0, .int .i64 0, .int .i64 0, .int .i64 0, .int .i64 0, .string ⟨#[]⟩, .int .i64 0] 25 (0, 0))
  ws : ∀ i (hi : i < xs.length), W.cell? ⟨g, i, none⟩ = some (.string xs[i])
  op : W.heap[q]? = some (.cells cs 25 (0, 0))
  gw : w.heap.size < g
  gq : g < q
theorem RoL.put {w W : World} {g q : Nat} {xs : List ByteArray} {cs : Array Value} (h : RoL w g q xs cs W) (i : Nat) (v : Value) : RoL w g q xs (cs.setIfInBounds i v) (W.setCell ⟨q, i, none⟩ v) :=
  have := h.gw
  have := h.gq
  ⟨h.bel.setCell (by show w.heap.size ≤ q; omega) _, (Below.heap_setCell _ _ _ _ (by show w.heap.size ≠ q; omega)).trans h.res, fun j hj => (cell_otherS (by show g ≠ q; omega)).trans (h.ws j hj), ro_setS h.op i v, h.gw, h.gq⟩
theorem RoL.step {w W X : World} {g q : Nat} {xs : List ByteArray} {cs : Array Value} (h : RoL w g q xs cs W) (hb : Below W.heap.size W X) : RoL w g q xs cs X :=
  have hq := blk_lt h.op
  have := h.gq
  ⟨h.bel.trans (hb.mono h.bel.size), blk_step h.res hb, fun j hj => (hb.cell (p := ⟨g, j, none⟩) (show g < W.heap.size by omega)).trans (h.ws j hj), blk_step h.op hb, h.gw, h.gq⟩
theorem RoL.drewN {w W : World} {g q : Nat} {xs : List ByteArray} {cs : Array Value} (h : RoL w g q xs cs W) (n : Nat) : RoL w g q xs cs (W.drewN n) :=
  ⟨⟨h.bel.os, h.bel.tape, h.bel.output, h.bel.size, h.bel.block⟩, h.res, h.ws, h.op, h.gw, h.gq⟩
theorem RoL.at {w W : World} {g q : Nat} {xs : List ByteArray} {cs : Array Value} (h : RoL w g q xs cs W) (i : Nat) {x : ByteArray} (hx : xs[i]? = some x) : W.cell? ⟨g, i, none⟩ = some (.string x) := by
  obtain ⟨h0, h1⟩ := List.getElem?_eq_some_iff.1 hx
  rw [h.ws i h0, h1]
theorem ro_lit (w : World) (i : Nat) (hi : i < [(0 : Int), 3, 4].length) : (w.alloc (.cells #[.int .i64 0, .int .i64 3, .int .i64 4] 3)).cell? ⟨w.heap.size, i, none⟩ = some (.int .i64 [(0 : Int), 3, 4][i]) := by
  rw [cell_of_row _ _ i _ _ _ (heap_alloc_new w _)]
  have h3 : i = 0 ∨ i = 1 ∨ i = 2 := by simp at hi; omega
  rcases h3 with rfl | rfl | rfl <;> rfl
theorem roS_yes {s x0 : ByteArray} {r : List ByteArray} (hx : words s = x0 :: r) (h : s.size ≠ 0 ∧ opTx (opS (kindB x0) r) = s) : roS s = (opS (kindB x0) r, true) := by
  unfold roS
  rw [if_pos (by rw [hx]; exact h), hx]
  rfl
theorem roS_no {s x0 : ByteArray} {r : List ByteArray} (hx : words s = x0 :: r) (h : ¬ opTx (opS (kindB x0) r) = s) : roS s = (⟨0, 0, ByteArray.empty, 0, zMg⟩, false) := by
  unfold roS
  rw [if_neg (by rw [hx]; exact fun q => h q.2)]
theorem roS_un {s : ByteArray} (h : s.size = 0) : roS s = (⟨0, 0, ByteArray.empty, 0, zMg⟩, false) := by
  unfold roS
  rw [if_neg (fun q => q.1 h)]

set_option maxRecDepth 100000 in
set_option maxHeartbeats 8000000 in
theorem specReadOp_a1 (s x0 : ByteArray) (a : ByteArray) (b : ByteArray) (c : ByteArray) (w : World) (hs : s.size ≤ 1048576) (hx : words s = x0 :: [a, b, c]) (hK : kindB x0 = 1) :
    Calls Tryz.prog 5 #[.string s] w fun e w' => e = .returned (.tuple #[opw (roS s).1, .bool (roS s).2]) ∧ Below w.heap.size w w' := by
  have HW := hide (fun W => specWords s W hs)
  have hn : (words s).length = 4 := by rw [hx]; rfl
  have hzNA := words_size s a (by rw [hx]; simp)
  have HNA := hide (fun W => specNum a W (by unfold maxLen; omega))
  have hzNB := words_size s c (by rw [hx]; simp)
  have HNB := hide (fun W => specNum c W (by unfold maxLen; omega))
  have hO : opS (kindB x0) [a, b, c] = ⟨kindB x0, numB a, b, numB c, zMg⟩ := by
    rw [hK]
    simp [opS]
  have HY := hide (fun h => roS_yes hx (r := [a, b, c]) h)
  have HZ := hide (fun h => roS_no hx (r := [a, b, c]) h)
  have HU := hide (fun h => roS_un (s := s) h)
  rw [hO] at HY HZ
  have HOT : Hid (∀ w1 : World, Calls Tryz.prog 20 #[.agg #[.int .i64 (kindB x0), .int .i64 (numB a), .string b, .int .i64 (numB c), .int .i64 0, .int .i64 0, .int .i64 0, .int .i64 0, .int .i64 0, .string ⟨#[]⟩, .int .i64 0]] w1 fun e w' => e = .returned (.string (opTx ⟨kindB x0, numB a, b, numB c, zMg⟩)) ∧ Below w1.heap.size w1 w') := fun w1 => specOpText ⟨kindB x0, numB a, b, numB c, zMg⟩ w1 (by unfold maxLen; have := words_size s b (by rw [hx]; simp); simp only; omega) (by unfold maxLen zMg; simp)
  have HX := hide (show (words s)[0]? = some x0 by rw [hx]; rfl)
  have HX1 := hide (show (words s)[1]? = some a by rw [hx]; rfl)
  have HX2 := hide (show (words s)[2]? = some b by rw [hx]; rfl)
  have HX3 := hide (show (words s)[3]? = some c by rw [hx]; rfl)
  have HKA := hide (kws_at x0)
  have HY0 := hide (kUp_0 x0)
  have HY6 := hide (kUp_6 x0)
  have HYY := hide (fun k => kUp_yes (x := x0) (k := k))
  have HYN := hide (fun k => kUp_no (x := x0) (k := k))
  have hp : 0 < (words s).length := by omega
  clear hO hx
  generalize words s = xs at *
  go_enter Tryz.func5, Tryz.ntmps5
  go_wp2_with fail
  refine (unhide HW _).mono ?_
  rintro e w1 ⟨v1, rfl, how1, hb1⟩
  obtain ⟨g, cap, rfl, hg1, hg2, hc1⟩ := own_cells how1 hp
  rw [hn]
  have HN := hide hn
  clear how1 HW hn
  simp only [World.size_alloc] at hg1
  have HR1 := hide (blk_step (heap_alloc_new w _) hb1)
  have HB1 := hide ((below_one w _).trans (hb1.mono (by simp)))
  have HC1 := hide hc1
  clear hb1 hc1
  go_wp2_with fail
  obtain ⟨W0, hW0⟩ : ∃ W0, W0 = (w1.alloc (.cells #[.int .i64 (-1), .int .i64 0, .string ⟨#[]⟩, .int .i64 0, .int .i64 0, .int .i64 0, .int .i64 0, .int .i64 0, .int .i64 0, .string ⟨#[]⟩, .int .i64 0] 25)).alloc (.cells (kws.map Value.string).toArray 9) := ⟨_, rfl⟩
  have HI : Hid (RoL w g w1.heap.size xs #[.int .i64 (kUp x0 0), .int .i64 0, .string ⟨#[]⟩, .int .i64 0, .int .i64 0, .int .i64 0, .int .i64 0, .int .i64 0, .int .i64 0, .string ⟨#[]⟩, .int .i64 0] W0 ∧ (∀ j (hj : j < kws.length), W0.cell? ⟨w1.heap.size + 1, j, none⟩ = some (.string kws[j])) ∧ w1.heap.size + 1 < W0.heap.size) := by
    rw [hW0, unhide HY0]
    have a2 := allocsE2 w1 (.cells #[.int .i64 (-1), .int .i64 0, .string ⟨#[]⟩, .int .i64 0, .int .i64 0, .int .i64 0, .int .i64 0, .int .i64 0, .int .i64 0, .string ⟨#[]⟩, .int .i64 0] 25) (.cells (kws.map Value.string).toArray 9)
    refine ⟨⟨(unhide HB1).trans (a2.2.2.mono (unhide HB1).size), blk_step (unhide HR1) a2.2.2, fun i hi => (a2.2.2.cell (p := ⟨g, i, none⟩) hg2).trans (unhide HC1 i hi), a2.1, by omega, hg2⟩, fun j hj => ?_, by simp⟩
    have h := cell_of_row _ _ j _ _ _ a2.2.1
    rw [h]
    simp [hj]
  clear HR1 HB1 HC1
  have hW1 : (w1.alloc (.cells #[.int .i64 (-1), .int .i64 0, .string ⟨#[]⟩, .int .i64 0, .int .i64 0, .int .i64 0, .int .i64 0, .int .i64 0, .int .i64 0, .string ⟨#[]⟩, .int .i64 0] 25)).alloc (.cells #[.string ⟨#[109, 105, 110, 116]⟩, .string ⟨#[97, 100, 109, 105, 116]⟩, .string ⟨#[114, 101, 108, 101, 97, 115, 101]⟩, .string ⟨#[119, 97, 110, 116]⟩, .string ⟨#[98, 97, 99, 107]⟩, .string ⟨#[116, 105, 99, 107]⟩] 9) = W0 := by rw [hW0]; rfl
  rw [hW1]
  clear hW0 hW1
  generalize w1.heap.size = q at *
  go_loopw [7] (fun i wr => ∃ k : Nat, k ≤ 6 ∧ i = .int .i64 k ∧ RoL w g q xs #[.int .i64 (kUp x0 k), .int .i64 0, .string ⟨#[]⟩, .int .i64 0, .int .i64 0, .int .i64 0, .int .i64 0, .int .i64 0, .int .i64 0, .string ⟨#[]⟩, .int .i64 0] wr ∧ (∀ j (hj : j < kws.length), wr.cell? ⟨q + 1, j, none⟩ = some (.string kws[j])) ∧ q + 1 < wr.heap.size) (fun i _ => 6 - (intOf i).toNat)
  case atStart => exact ⟨0, by omega, rfl, (unhide HI).1, (unhide HI).2.1, (unhide HI).2.2⟩
  case round =>
    obtain ⟨k, hk, rfl, hL, hlit, hsz⟩ := hrel
    have HL := hide hL
    have HLI := hide hlit
    clear hL hlit HI
    by_cases hlt : k < 6
    · have c1 := unhide HLI k hlt
      have c0 : wr.cell? ⟨g, 0, none⟩ = some (.string x0) := by
        obtain ⟨h0, h1⟩ := List.getElem?_eq_some_iff.1 (unhide HX)
        rw [(unhide HL).ws 0 h0, h1]
      have HKK := hide (unhide HKA k hlt)
      generalize kws[k] = y at *
      have hki : (0 : Int) ≤ (k : Int) := by omega
      have hk6 : (k : Int) < 6 := by omega
      by_cases he : y = x0
      · subst he
        have HEQ := hide ((unhide HKK).1 rfl)
        obtain ⟨⟨q0, g1⟩, f0, g2⟩ := eleven_at (unhide HL).op
        clear g1 g2
        go_upto_region 7 with fail
        go_quiet (fail)
        go_wp2_with fail
        go_roundw
        case rel =>
          refine ⟨k + 1, by omega, by go_num, ?_, fun j hj => ?_, by simpa using hsz⟩
          · rw [unhide HYY k (unhide HEQ)]
            exact ((unhide HL).drewN nq).put 0 _
          · exact (cell_otherS (by show q + 1 ≠ q; omega)).trans (unhide HLI j hj)
        case measure => simp [intOf]; omega
      · have hq := str_ne he
        have HNE := hide (fun h => he ((unhide HKK).2 h))
        clear he
        go_upto_region 7 with fail
        go_quiet (fail)
        go_wp2_with fail
        go_roundw
        case rel =>
          refine ⟨k + 1, by omega, by go_num, ?_, fun j hj => unhide HLI j hj, hsz⟩
          rw [unhide HYN k (unhide HNE)]
          exact (unhide HL).drewN nq
        case measure => simp [intOf]; omega
    · have hk6 : k = 6 := by omega
      subst hk6
      rw [unhide HY6] at HL
      clear HKA HY0 HY6 HYY HYN HLI hsz hk hlt
      rw [hK] at HL HY HZ HOT
      clear hK
      generalize numB a = na at *
      generalize numB c = nb at *
      generalize opTx ⟨1, na, b, nb, zMg⟩ = TX at *
      have hgw := (unhide HL).gw
      have hgq := (unhide HL).gq
      have hqw := blk_lt (unhide HL).op
      obtain ⟨⟨q0, g1⟩, f0, g2⟩ := eleven_at (unhide HL).op
      clear g1 g2 f0
      have v1 := (unhide HL).at 1 (unhide HX1)
      have v2 := (unhide HL).at 2 (unhide HX2)
      have v3 := (unhide HL).at 3 (unhide HX3)
      obtain ⟨⟨z0, p1, p2, p3, z4⟩, z5, f1, f2, f3, z6⟩ := eleven_at (unhide HL).op
      clear z0 z4 z5 z6
      have hne1 : g ≠ q := by omega
      have hne2 : q ≠ g := by omega
      have hne3 : ¬ g = q := hne1
      have hgr : g < wr.heap.size := by omega
      go_upto_region 18 with (first | (go_at_call 25; refine (unhide HNA _).mono ?_; rintro e w' ⟨rfl, rfl⟩) | (go_at_call 25; refine (unhide HNB _).mono ?_; rintro e w' ⟨rfl, rfl⟩))
      refine wp_at (fun V hV => ?_)
      have HLL := hide (show RoL w g q xs #[.int .i64 1, .int .i64 na, .string b, .int .i64 nb, .int .i64 0, .int .i64 0, .int .i64 0, .int .i64 0, .int .i64 0, .string ⟨#[]⟩, .int .i64 0] V by rw [hV]; exact ((((unhide HL).put 1 _).put 2 _).put 3 _))
      have HR := hide (unhide HLL).res
      have HM := hide (unhide HLL).op
      have HB := hide (unhide HLL).bel
      clear hV HLL HL q0 hgw hgq hqw hne1 hne2 hne3 hgr v1 v2 v3 p1 p2 p3 f1 f2 f3
      clear hp HX HX1 HX2 HX3
      have hzR := blk_lt (unhide HR)
      obtain ⟨⟨d0, d1, d2, d3, d4, d5, d6, d7, d8, d9, d10⟩, f0, f1, f2, f3, f4, f5, f6, f7, f8, f9, f10⟩ := eleven_at (unhide HR)
      obtain ⟨⟨q0, q1, q2, q3, q4, q5, q6, q7, q8, q9, q10⟩, zz⟩ := eleven_at (unhide HM)
      clear zz
      by_cases hs0 : s.size = 0
      case' pos =>
        have hRes := hide (unhide HU hs0)
        have hse : s.toList.isEmpty = true := by rw [eq_empty s hs0, ByteArray.toList_eq]; rfl
        clear HU HY HZ HOT HM q0 q1 q2 q3 q4 q5 q6 q7 q8 q9 q10 hs0
        go_wp2_with fail
        refine bodyPost_atE (fun W' hW' => ?_)
        obtain ⟨⟨r0, r1, r2, r3, r4, r5, r6, r7, r8, r9, r10⟩, _⟩ := eleven_at (show W'.heap[w.heap.size]? = some (.cells #[.int .i64 0, .int .i64 0, .string ⟨#[]⟩, .int .i64 0, .int .i64 0, .int .i64 0, .int .i64 0, .int .i64 0, .int .i64 0, .string ⟨#[]⟩, .int .i64 0] 25 (0, 0)) by rw [hW']; exact eleven_set (unhide HR))
        have hbb : Below w.heap.size w W' := by rw [hW']; exact eleven_set_below (unhide HB) (Nat.le_refl _)
        exact bodyPost_ret (v := .tuple #[.agg #[.int .i64 0, .int .i64 0, .string ⟨#[]⟩, .int .i64 0, .int .i64 0, .int .i64 0, .int .i64 0, .int .i64 0, .int .i64 0, .string ⟨#[]⟩, .int .i64 0], .bool false]) (by simp [results, Tryz.results5, go_sem, r0, r1, r2, r3, r4, r5, r6, r7, r8, r9, r10]) rfl ⟨by rw [unhide hRes]; rfl, hbb⟩
      have hse := not_empty s (by omega)
      clear d0 d1 d2 d3 d4 d5 d6 d7 d8 d9 d10 f0 f1 f2 f3 f4 f5 f6 f7 f8 f9 f10
      go_wp2_with fail
      refine (unhide HOT _).mono ?_
      rintro e w7 ⟨rfl, hb7⟩
      have HR7 := hide (blk_step (unhide HR) hb7)
      have HM7 := hide (blk_step (unhide HM) hb7)
      have HB7 := hide ((unhide HB).trans (hb7.mono (unhide HB).size))
      clear hb7 HR HM HB q0 q1 q2 q3 q4 q5 q6 q7 q8 q9 q10 HOT hzR
      have HR := HR7
      have HB := HB7
      clear HR7 HB7
      have hzR := blk_lt (unhide HR)
      have hzM := blk_lt (unhide HM7)
      obtain ⟨⟨d0, d1, d2, d3, d4, d5, d6, d7, d8, d9, d10⟩, f0, f1, f2, f3, f4, f5, f6, f7, f8, f9, f10⟩ := eleven_at (unhide HR)
      by_cases hp : TX = s
      case' neg =>
        have hRes := hide (unhide HZ hp)
        have hq := str_ne hp
        clear HU HY HZ HM7 hp hs0
        go_wp2_with fail
        refine bodyPost_atE (fun W' hW' => ?_)
        obtain ⟨⟨r0, r1, r2, r3, r4, r5, r6, r7, r8, r9, r10⟩, _⟩ := eleven_at (show W'.heap[w.heap.size]? = some (.cells #[.int .i64 0, .int .i64 0, .string ⟨#[]⟩, .int .i64 0, .int .i64 0, .int .i64 0, .int .i64 0, .int .i64 0, .int .i64 0, .string ⟨#[]⟩, .int .i64 0] 25 (0, 0)) by rw [hW']; exact eleven_set (unhide HR))
        have hbb : Below w.heap.size w W' := by rw [hW']; exact eleven_set_below (unhide HB) (Nat.le_refl _)
        exact bodyPost_ret (v := .tuple #[.agg #[.int .i64 0, .int .i64 0, .string ⟨#[]⟩, .int .i64 0, .int .i64 0, .int .i64 0, .int .i64 0, .int .i64 0, .int .i64 0, .string ⟨#[]⟩, .int .i64 0], .bool false]) (by simp [results, Tryz.results5, go_sem, r0, r1, r2, r3, r4, r5, r6, r7, r8, r9, r10]) rfl ⟨by rw [unhide hRes]; rfl, hbb⟩
      have hRes := hide (unhide HY ⟨hs0, hp⟩)
      have hq : (TX.toList == s.toList) = true := by rw [hp]; simp
      obtain ⟨⟨q0, q1, q2, q3, q4, q5, q6, q7, q8, q9, q10⟩, zz⟩ := eleven_at (unhide HM7)
      clear HU HY HZ hp hs0 zz
      go_wp2_with fail
      refine bodyPost_atE (fun W' hW' => ?_)
      obtain ⟨⟨r0, r1, r2, r3, r4, r5, r6, r7, r8, r9, r10⟩, _⟩ := eleven_at (show W'.heap[w.heap.size]? = some (.cells #[.int .i64 1, .int .i64 na, .string b, .int .i64 nb, .int .i64 0, .int .i64 0, .int .i64 0, .int .i64 0, .int .i64 0, .string ⟨#[]⟩, .int .i64 0] 25 (0, 0)) by rw [hW']; exact eleven_set (unhide HR))
      have hbb : Below w.heap.size w W' := by rw [hW']; exact eleven_set_below (unhide HB) (Nat.le_refl _)
      exact bodyPost_ret (v := .tuple #[.agg #[.int .i64 1, .int .i64 na, .string b, .int .i64 nb, .int .i64 0, .int .i64 0, .int .i64 0, .int .i64 0, .int .i64 0, .string ⟨#[]⟩, .int .i64 0], .bool true]) (by simp [results, Tryz.results5, go_sem, r0, r1, r2, r3, r4, r5, r6, r7, r8, r9, r10]) rfl ⟨by rw [unhide hRes]; rfl, hbb⟩
set_option maxRecDepth 100000 in
set_option maxHeartbeats 8000000 in
theorem specReadOp_a2 (s x0 : ByteArray) (r : List ByteArray) (w : World) (hs : s.size ≤ 1048576) (hx : words s = x0 :: r) (hK : kindB x0 = 1) (hr : ¬ r.length = 3) :
    Calls Tryz.prog 5 #[.string s] w fun e w' => e = .returned (.tuple #[opw (roS s).1, .bool (roS s).2]) ∧ Below w.heap.size w w' := by
  have HW := hide (fun W => specWords s W hs)
  obtain ⟨n, hn⟩ : ∃ n, (words s).length = n := ⟨_, rfl⟩
  have hnm : n ≤ 1048577 := by rw [← hn]; exact words_max s hs
  have hn1 : 1 ≤ n := by rw [← hn]; exact words_pos s
  have hnn : ¬ n = 4 := by rw [← hn, hx]; simpa using hr
  have hO : opS (kindB x0) r = ⟨kindB x0, 0, ByteArray.empty, 0, zMg⟩ := by
    rw [hK]
    simp [opS, hr]
  have HY := hide (fun h => roS_yes hx (r := r) h)
  have HZ := hide (fun h => roS_no hx (r := r) h)
  have HU := hide (fun h => roS_un (s := s) h)
  rw [hO] at HY HZ
  have HOT : Hid (∀ w1 : World, Calls Tryz.prog 20 #[.agg #[.int .i64 (kindB x0), .int .i64 0, .string ⟨#[]⟩, .int .i64 0, .int .i64 0, .int .i64 0, .int .i64 0, .int .i64 0, .int .i64 0, .string ⟨#[]⟩, .int .i64 0]] w1 fun e w' => e = .returned (.string (opTx ⟨kindB x0, 0, ByteArray.empty, 0, zMg⟩)) ∧ Below w1.heap.size w1 w') := fun w1 => specOpText ⟨kindB x0, 0, ByteArray.empty, 0, zMg⟩ w1 (by unfold maxLen; simp) (by unfold maxLen zMg; simp)
  have HX := hide (show (words s)[0]? = some x0 by rw [hx]; rfl)
  have HKA := hide (kws_at x0)
  have HY0 := hide (kUp_0 x0)
  have HY6 := hide (kUp_6 x0)
  have HYY := hide (fun k => kUp_yes (x := x0) (k := k))
  have HYN := hide (fun k => kUp_no (x := x0) (k := k))
  have hp : 0 < (words s).length := by omega
  have HHA := hide (show hasL [0, 3, 4] 1 = false by rfl)
  clear hO hx hr
  generalize words s = xs at *
  go_enter Tryz.func5, Tryz.ntmps5
  go_wp2_with fail
  refine (unhide HW _).mono ?_
  rintro e w1 ⟨v1, rfl, how1, hb1⟩
  obtain ⟨g, cap, rfl, hg1, hg2, hc1⟩ := own_cells how1 hp
  rw [hn]
  have HN := hide hn
  clear how1 HW hn
  simp only [World.size_alloc] at hg1
  have HR1 := hide (blk_step (heap_alloc_new w _) hb1)
  have HB1 := hide ((below_one w _).trans (hb1.mono (by simp)))
  have HC1 := hide hc1
  clear hb1 hc1
  go_wp2_with fail
  obtain ⟨W0, hW0⟩ : ∃ W0, W0 = (w1.alloc (.cells #[.int .i64 (-1), .int .i64 0, .string ⟨#[]⟩, .int .i64 0, .int .i64 0, .int .i64 0, .int .i64 0, .int .i64 0, .int .i64 0, .string ⟨#[]⟩, .int .i64 0] 25)).alloc (.cells (kws.map Value.string).toArray 9) := ⟨_, rfl⟩
  have HI : Hid (RoL w g w1.heap.size xs #[.int .i64 (kUp x0 0), .int .i64 0, .string ⟨#[]⟩, .int .i64 0, .int .i64 0, .int .i64 0, .int .i64 0, .int .i64 0, .int .i64 0, .string ⟨#[]⟩, .int .i64 0] W0 ∧ (∀ j (hj : j < kws.length), W0.cell? ⟨w1.heap.size + 1, j, none⟩ = some (.string kws[j])) ∧ w1.heap.size + 1 < W0.heap.size) := by
    rw [hW0, unhide HY0]
    have a2 := allocsE2 w1 (.cells #[.int .i64 (-1), .int .i64 0, .string ⟨#[]⟩, .int .i64 0, .int .i64 0, .int .i64 0, .int .i64 0, .int .i64 0, .int .i64 0, .string ⟨#[]⟩, .int .i64 0] 25) (.cells (kws.map Value.string).toArray 9)
    refine ⟨⟨(unhide HB1).trans (a2.2.2.mono (unhide HB1).size), blk_step (unhide HR1) a2.2.2, fun i hi => (a2.2.2.cell (p := ⟨g, i, none⟩) hg2).trans (unhide HC1 i hi), a2.1, by omega, hg2⟩, fun j hj => ?_, by simp⟩
    have h := cell_of_row _ _ j _ _ _ a2.2.1
    rw [h]
    simp [hj]
  clear HR1 HB1 HC1
  have hW1 : (w1.alloc (.cells #[.int .i64 (-1), .int .i64 0, .string ⟨#[]⟩, .int .i64 0, .int .i64 0, .int .i64 0, .int .i64 0, .int .i64 0, .int .i64 0, .string ⟨#[]⟩, .int .i64 0] 25)).alloc (.cells #[.string ⟨#[109, 105, 110, 116]⟩, .string ⟨#[97, 100, 109, 105, 116]⟩, .string ⟨#[114, 101, 108, 101, 97, 115, 101]⟩, .string ⟨#[119, 97, 110, 116]⟩, .string ⟨#[98, 97, 99, 107]⟩, .string ⟨#[116, 105, 99, 107]⟩] 9) = W0 := by rw [hW0]; rfl
  rw [hW1]
  clear hW0 hW1
  generalize w1.heap.size = q at *
  go_loopw [7] (fun i wr => ∃ k : Nat, k ≤ 6 ∧ i = .int .i64 k ∧ RoL w g q xs #[.int .i64 (kUp x0 k), .int .i64 0, .string ⟨#[]⟩, .int .i64 0, .int .i64 0, .int .i64 0, .int .i64 0, .int .i64 0, .int .i64 0, .string ⟨#[]⟩, .int .i64 0] wr ∧ (∀ j (hj : j < kws.length), wr.cell? ⟨q + 1, j, none⟩ = some (.string kws[j])) ∧ q + 1 < wr.heap.size) (fun i _ => 6 - (intOf i).toNat)
  case atStart => exact ⟨0, by omega, rfl, (unhide HI).1, (unhide HI).2.1, (unhide HI).2.2⟩
  case round =>
    obtain ⟨k, hk, rfl, hL, hlit, hsz⟩ := hrel
    have HL := hide hL
    have HLI := hide hlit
    clear hL hlit HI
    by_cases hlt : k < 6
    · have c1 := unhide HLI k hlt
      have c0 : wr.cell? ⟨g, 0, none⟩ = some (.string x0) := by
        obtain ⟨h0, h1⟩ := List.getElem?_eq_some_iff.1 (unhide HX)
        rw [(unhide HL).ws 0 h0, h1]
      have HKK := hide (unhide HKA k hlt)
      generalize kws[k] = y at *
      have hki : (0 : Int) ≤ (k : Int) := by omega
      have hk6 : (k : Int) < 6 := by omega
      by_cases he : y = x0
      · subst he
        have HEQ := hide ((unhide HKK).1 rfl)
        obtain ⟨⟨q0, g1⟩, f0, g2⟩ := eleven_at (unhide HL).op
        clear g1 g2
        go_upto_region 7 with fail
        go_quiet (fail)
        go_wp2_with fail
        go_roundw
        case rel =>
          refine ⟨k + 1, by omega, by go_num, ?_, fun j hj => ?_, by simpa using hsz⟩
          · rw [unhide HYY k (unhide HEQ)]
            exact ((unhide HL).drewN nq).put 0 _
          · exact (cell_otherS (by show q + 1 ≠ q; omega)).trans (unhide HLI j hj)
        case measure => simp [intOf]; omega
      · have hq := str_ne he
        have HNE := hide (fun h => he ((unhide HKK).2 h))
        clear he
        go_upto_region 7 with fail
        go_quiet (fail)
        go_wp2_with fail
        go_roundw
        case rel =>
          refine ⟨k + 1, by omega, by go_num, ?_, fun j hj => unhide HLI j hj, hsz⟩
          rw [unhide HYN k (unhide HNE)]
          exact (unhide HL).drewN nq
        case measure => simp [intOf]; omega
    · have hk6 : k = 6 := by omega
      subst hk6
      rw [unhide HY6] at HL
      clear HKA HY0 HY6 HYY HYN HLI hsz hk hlt
      rw [hK] at HL HY HZ HOT
      clear hK
      generalize opTx ⟨1, 0, ByteArray.empty, 0, zMg⟩ = TX at *
      have hgw := (unhide HL).gw
      have hgq := (unhide HL).gq
      have hqw := blk_lt (unhide HL).op
      obtain ⟨⟨q0, g1⟩, f0, g2⟩ := eleven_at (unhide HL).op
      clear g1 g2 f0
      have HHS := hide (fun (W : World) (hc : ∀ i (hi : i < [(0 : Int), 3, 4].length), W.cell? ⟨wr.heap.size, i, none⟩ = some (.int .i64 [(0 : Int), 3, 4][i])) => roHas wr.heap.size 3 [0, 3, 4] 1 W (by simp) hc)
      rw [unhide HHA] at HHS
      clear HHA
      have hnd : (1 : Int) ≤ (n : Int) := by omega
      have hnq : ¬ ((n : Int) = 4) := by omega
      have hne1 : g ≠ q := by omega
      have hne2 : q ≠ g := by omega
      have hne3 : ¬ g = q := hne1
      have hgr : g < wr.heap.size := by omega
      go_upto_region 18 with (go_at_call 26; refine (unhide HHS _ (ro_lit wr)).mono ?_; rintro e w' ⟨rfl, rfl⟩)
      refine wp_at (fun V hV => ?_)
      have HLL := hide (show RoL w g q xs #[.int .i64 1, .int .i64 0, .string ⟨#[]⟩, .int .i64 0, .int .i64 0, .int .i64 0, .int .i64 0, .int .i64 0, .int .i64 0, .string ⟨#[]⟩, .int .i64 0] V by rw [hV]; exact ((unhide HL).step (below_one _ _)))
      have HR := hide (unhide HLL).res
      have HM := hide (unhide HLL).op
      have HB := hide (unhide HLL).bel
      clear hV HLL HL q0 hgw hgq hqw hne1 hne2 hne3 hgr 
      clear hp HX 
      have hzR := blk_lt (unhide HR)
      obtain ⟨⟨d0, d1, d2, d3, d4, d5, d6, d7, d8, d9, d10⟩, f0, f1, f2, f3, f4, f5, f6, f7, f8, f9, f10⟩ := eleven_at (unhide HR)
      obtain ⟨⟨q0, q1, q2, q3, q4, q5, q6, q7, q8, q9, q10⟩, zz⟩ := eleven_at (unhide HM)
      clear zz
      by_cases hs0 : s.size = 0
      case' pos =>
        have hRes := hide (unhide HU hs0)
        have hse : s.toList.isEmpty = true := by rw [eq_empty s hs0, ByteArray.toList_eq]; rfl
        clear HU HY HZ HOT HM q0 q1 q2 q3 q4 q5 q6 q7 q8 q9 q10 hs0
        go_wp2_with fail
        refine bodyPost_atE (fun W' hW' => ?_)
        obtain ⟨⟨r0, r1, r2, r3, r4, r5, r6, r7, r8, r9, r10⟩, _⟩ := eleven_at (show W'.heap[w.heap.size]? = some (.cells #[.int .i64 0, .int .i64 0, .string ⟨#[]⟩, .int .i64 0, .int .i64 0, .int .i64 0, .int .i64 0, .int .i64 0, .int .i64 0, .string ⟨#[]⟩, .int .i64 0] 25 (0, 0)) by rw [hW']; exact eleven_set (unhide HR))
        have hbb : Below w.heap.size w W' := by rw [hW']; exact eleven_set_below (unhide HB) (Nat.le_refl _)
        exact bodyPost_ret (v := .tuple #[.agg #[.int .i64 0, .int .i64 0, .string ⟨#[]⟩, .int .i64 0, .int .i64 0, .int .i64 0, .int .i64 0, .int .i64 0, .int .i64 0, .string ⟨#[]⟩, .int .i64 0], .bool false]) (by simp [results, Tryz.results5, go_sem, r0, r1, r2, r3, r4, r5, r6, r7, r8, r9, r10]) rfl ⟨by rw [unhide hRes]; rfl, hbb⟩
      have hse := not_empty s (by omega)
      clear d0 d1 d2 d3 d4 d5 d6 d7 d8 d9 d10 f0 f1 f2 f3 f4 f5 f6 f7 f8 f9 f10
      go_wp2_with fail
      refine (unhide HOT _).mono ?_
      rintro e w7 ⟨rfl, hb7⟩
      have HR7 := hide (blk_step (unhide HR) hb7)
      have HM7 := hide (blk_step (unhide HM) hb7)
      have HB7 := hide ((unhide HB).trans (hb7.mono (unhide HB).size))
      clear hb7 HR HM HB q0 q1 q2 q3 q4 q5 q6 q7 q8 q9 q10 HOT hzR
      have HR := HR7
      have HB := HB7
      clear HR7 HB7
      have hzR := blk_lt (unhide HR)
      have hzM := blk_lt (unhide HM7)
      obtain ⟨⟨d0, d1, d2, d3, d4, d5, d6, d7, d8, d9, d10⟩, f0, f1, f2, f3, f4, f5, f6, f7, f8, f9, f10⟩ := eleven_at (unhide HR)
      by_cases hp : TX = s
      case' neg =>
        have hRes := hide (unhide HZ hp)
        have hq := str_ne hp
        clear HU HY HZ HM7 hp hs0
        go_wp2_with fail
        refine bodyPost_atE (fun W' hW' => ?_)
        obtain ⟨⟨r0, r1, r2, r3, r4, r5, r6, r7, r8, r9, r10⟩, _⟩ := eleven_at (show W'.heap[w.heap.size]? = some (.cells #[.int .i64 0, .int .i64 0, .string ⟨#[]⟩, .int .i64 0, .int .i64 0, .int .i64 0, .int .i64 0, .int .i64 0, .int .i64 0, .string ⟨#[]⟩, .int .i64 0] 25 (0, 0)) by rw [hW']; exact eleven_set (unhide HR))
        have hbb : Below w.heap.size w W' := by rw [hW']; exact eleven_set_below (unhide HB) (Nat.le_refl _)
        exact bodyPost_ret (v := .tuple #[.agg #[.int .i64 0, .int .i64 0, .string ⟨#[]⟩, .int .i64 0, .int .i64 0, .int .i64 0, .int .i64 0, .int .i64 0, .int .i64 0, .string ⟨#[]⟩, .int .i64 0], .bool false]) (by simp [results, Tryz.results5, go_sem, r0, r1, r2, r3, r4, r5, r6, r7, r8, r9, r10]) rfl ⟨by rw [unhide hRes]; rfl, hbb⟩
      have hRes := hide (unhide HY ⟨hs0, hp⟩)
      have hq : (TX.toList == s.toList) = true := by rw [hp]; simp
      obtain ⟨⟨q0, q1, q2, q3, q4, q5, q6, q7, q8, q9, q10⟩, zz⟩ := eleven_at (unhide HM7)
      clear HU HY HZ hp hs0 zz
      go_wp2_with fail
      refine bodyPost_atE (fun W' hW' => ?_)
      obtain ⟨⟨r0, r1, r2, r3, r4, r5, r6, r7, r8, r9, r10⟩, _⟩ := eleven_at (show W'.heap[w.heap.size]? = some (.cells #[.int .i64 1, .int .i64 0, .string ⟨#[]⟩, .int .i64 0, .int .i64 0, .int .i64 0, .int .i64 0, .int .i64 0, .int .i64 0, .string ⟨#[]⟩, .int .i64 0] 25 (0, 0)) by rw [hW']; exact eleven_set (unhide HR))
      have hbb : Below w.heap.size w W' := by rw [hW']; exact eleven_set_below (unhide HB) (Nat.le_refl _)
      exact bodyPost_ret (v := .tuple #[.agg #[.int .i64 1, .int .i64 0, .string ⟨#[]⟩, .int .i64 0, .int .i64 0, .int .i64 0, .int .i64 0, .int .i64 0, .int .i64 0, .string ⟨#[]⟩, .int .i64 0], .bool true]) (by simp [results, Tryz.results5, go_sem, r0, r1, r2, r3, r4, r5, r6, r7, r8, r9, r10]) rfl ⟨by rw [unhide hRes]; rfl, hbb⟩
set_option maxRecDepth 100000 in
set_option maxHeartbeats 8000000 in
theorem specReadOp_b1 (s x0 : ByteArray) (a : ByteArray) (w : World) (hs : s.size ≤ 1048576) (hx : words s = x0 :: [a]) (hK : kindB x0 = 2) :
    Calls Tryz.prog 5 #[.string s] w fun e w' => e = .returned (.tuple #[opw (roS s).1, .bool (roS s).2]) ∧ Below w.heap.size w w' := by
  have HW := hide (fun W => specWords s W hs)
  have hn : (words s).length = 2 := by rw [hx]; rfl
  have hzNA := words_size s a (by rw [hx]; simp)
  have HNA := hide (fun W => specNum a W (by unfold maxLen; omega))
  have hO : opS (kindB x0) [a] = ⟨kindB x0, numB a, ByteArray.empty, 0, zMg⟩ := by
    rw [hK]
    simp [opS]
  have HY := hide (fun h => roS_yes hx (r := [a]) h)
  have HZ := hide (fun h => roS_no hx (r := [a]) h)
  have HU := hide (fun h => roS_un (s := s) h)
  rw [hO] at HY HZ
  have HOT : Hid (∀ w1 : World, Calls Tryz.prog 20 #[.agg #[.int .i64 (kindB x0), .int .i64 (numB a), .string ⟨#[]⟩, .int .i64 0, .int .i64 0, .int .i64 0, .int .i64 0, .int .i64 0, .int .i64 0, .string ⟨#[]⟩, .int .i64 0]] w1 fun e w' => e = .returned (.string (opTx ⟨kindB x0, numB a, ByteArray.empty, 0, zMg⟩)) ∧ Below w1.heap.size w1 w') := fun w1 => specOpText ⟨kindB x0, numB a, ByteArray.empty, 0, zMg⟩ w1 (by unfold maxLen; simp) (by unfold maxLen zMg; simp)
  have HX := hide (show (words s)[0]? = some x0 by rw [hx]; rfl)
  have HX1 := hide (show (words s)[1]? = some a by rw [hx]; rfl)
  have HKA := hide (kws_at x0)
  have HY0 := hide (kUp_0 x0)
  have HY6 := hide (kUp_6 x0)
  have HYY := hide (fun k => kUp_yes (x := x0) (k := k))
  have HYN := hide (fun k => kUp_no (x := x0) (k := k))
  have hp : 0 < (words s).length := by omega
  clear hO hx
  generalize words s = xs at *
  go_enter Tryz.func5, Tryz.ntmps5
  go_wp2_with fail
  refine (unhide HW _).mono ?_
  rintro e w1 ⟨v1, rfl, how1, hb1⟩
  obtain ⟨g, cap, rfl, hg1, hg2, hc1⟩ := own_cells how1 hp
  rw [hn]
  have HN := hide hn
  clear how1 HW hn
  simp only [World.size_alloc] at hg1
  have HR1 := hide (blk_step (heap_alloc_new w _) hb1)
  have HB1 := hide ((below_one w _).trans (hb1.mono (by simp)))
  have HC1 := hide hc1
  clear hb1 hc1
  go_wp2_with fail
  obtain ⟨W0, hW0⟩ : ∃ W0, W0 = (w1.alloc (.cells #[.int .i64 (-1), .int .i64 0, .string ⟨#[]⟩, .int .i64 0, .int .i64 0, .int .i64 0, .int .i64 0, .int .i64 0, .int .i64 0, .string ⟨#[]⟩, .int .i64 0] 25)).alloc (.cells (kws.map Value.string).toArray 9) := ⟨_, rfl⟩
  have HI : Hid (RoL w g w1.heap.size xs #[.int .i64 (kUp x0 0), .int .i64 0, .string ⟨#[]⟩, .int .i64 0, .int .i64 0, .int .i64 0, .int .i64 0, .int .i64 0, .int .i64 0, .string ⟨#[]⟩, .int .i64 0] W0 ∧ (∀ j (hj : j < kws.length), W0.cell? ⟨w1.heap.size + 1, j, none⟩ = some (.string kws[j])) ∧ w1.heap.size + 1 < W0.heap.size) := by
    rw [hW0, unhide HY0]
    have a2 := allocsE2 w1 (.cells #[.int .i64 (-1), .int .i64 0, .string ⟨#[]⟩, .int .i64 0, .int .i64 0, .int .i64 0, .int .i64 0, .int .i64 0, .int .i64 0, .string ⟨#[]⟩, .int .i64 0] 25) (.cells (kws.map Value.string).toArray 9)
    refine ⟨⟨(unhide HB1).trans (a2.2.2.mono (unhide HB1).size), blk_step (unhide HR1) a2.2.2, fun i hi => (a2.2.2.cell (p := ⟨g, i, none⟩) hg2).trans (unhide HC1 i hi), a2.1, by omega, hg2⟩, fun j hj => ?_, by simp⟩
    have h := cell_of_row _ _ j _ _ _ a2.2.1
    rw [h]
    simp [hj]
  clear HR1 HB1 HC1
  have hW1 : (w1.alloc (.cells #[.int .i64 (-1), .int .i64 0, .string ⟨#[]⟩, .int .i64 0, .int .i64 0, .int .i64 0, .int .i64 0, .int .i64 0, .int .i64 0, .string ⟨#[]⟩, .int .i64 0] 25)).alloc (.cells #[.string ⟨#[109, 105, 110, 116]⟩, .string ⟨#[97, 100, 109, 105, 116]⟩, .string ⟨#[114, 101, 108, 101, 97, 115, 101]⟩, .string ⟨#[119, 97, 110, 116]⟩, .string ⟨#[98, 97, 99, 107]⟩, .string ⟨#[116, 105, 99, 107]⟩] 9) = W0 := by rw [hW0]; rfl
  rw [hW1]
  clear hW0 hW1
  generalize w1.heap.size = q at *
  go_loopw [7] (fun i wr => ∃ k : Nat, k ≤ 6 ∧ i = .int .i64 k ∧ RoL w g q xs #[.int .i64 (kUp x0 k), .int .i64 0, .string ⟨#[]⟩, .int .i64 0, .int .i64 0, .int .i64 0, .int .i64 0, .int .i64 0, .int .i64 0, .string ⟨#[]⟩, .int .i64 0] wr ∧ (∀ j (hj : j < kws.length), wr.cell? ⟨q + 1, j, none⟩ = some (.string kws[j])) ∧ q + 1 < wr.heap.size) (fun i _ => 6 - (intOf i).toNat)
  case atStart => exact ⟨0, by omega, rfl, (unhide HI).1, (unhide HI).2.1, (unhide HI).2.2⟩
  case round =>
    obtain ⟨k, hk, rfl, hL, hlit, hsz⟩ := hrel
    have HL := hide hL
    have HLI := hide hlit
    clear hL hlit HI
    by_cases hlt : k < 6
    · have c1 := unhide HLI k hlt
      have c0 : wr.cell? ⟨g, 0, none⟩ = some (.string x0) := by
        obtain ⟨h0, h1⟩ := List.getElem?_eq_some_iff.1 (unhide HX)
        rw [(unhide HL).ws 0 h0, h1]
      have HKK := hide (unhide HKA k hlt)
      generalize kws[k] = y at *
      have hki : (0 : Int) ≤ (k : Int) := by omega
      have hk6 : (k : Int) < 6 := by omega
      by_cases he : y = x0
      · subst he
        have HEQ := hide ((unhide HKK).1 rfl)
        obtain ⟨⟨q0, g1⟩, f0, g2⟩ := eleven_at (unhide HL).op
        clear g1 g2
        go_upto_region 7 with fail
        go_quiet (fail)
        go_wp2_with fail
        go_roundw
        case rel =>
          refine ⟨k + 1, by omega, by go_num, ?_, fun j hj => ?_, by simpa using hsz⟩
          · rw [unhide HYY k (unhide HEQ)]
            exact ((unhide HL).drewN nq).put 0 _
          · exact (cell_otherS (by show q + 1 ≠ q; omega)).trans (unhide HLI j hj)
        case measure => simp [intOf]; omega
      · have hq := str_ne he
        have HNE := hide (fun h => he ((unhide HKK).2 h))
        clear he
        go_upto_region 7 with fail
        go_quiet (fail)
        go_wp2_with fail
        go_roundw
        case rel =>
          refine ⟨k + 1, by omega, by go_num, ?_, fun j hj => unhide HLI j hj, hsz⟩
          rw [unhide HYN k (unhide HNE)]
          exact (unhide HL).drewN nq
        case measure => simp [intOf]; omega
    · have hk6 : k = 6 := by omega
      subst hk6
      rw [unhide HY6] at HL
      clear HKA HY0 HY6 HYY HYN HLI hsz hk hlt
      rw [hK] at HL HY HZ HOT
      clear hK
      generalize numB a = na at *
      generalize opTx ⟨2, na, ByteArray.empty, 0, zMg⟩ = TX at *
      have hgw := (unhide HL).gw
      have hgq := (unhide HL).gq
      have hqw := blk_lt (unhide HL).op
      obtain ⟨⟨q0, g1⟩, f0, g2⟩ := eleven_at (unhide HL).op
      clear g1 g2 f0
      have v1 := (unhide HL).at 1 (unhide HX1)
      obtain ⟨⟨z0, p1, p2, p3, z4⟩, z5, f1, f2, f3, z6⟩ := eleven_at (unhide HL).op
      clear z0 z4 z5 z6
      have hne1 : g ≠ q := by omega
      have hne2 : q ≠ g := by omega
      have hne3 : ¬ g = q := hne1
      have hgr : g < wr.heap.size := by omega
      go_upto_region 18 with (go_at_call 25; refine (unhide HNA _).mono ?_; rintro e w' ⟨rfl, rfl⟩)
      refine wp_at (fun V hV => ?_)
      have HLL := hide (show RoL w g q xs #[.int .i64 2, .int .i64 na, .string ⟨#[]⟩, .int .i64 0, .int .i64 0, .int .i64 0, .int .i64 0, .int .i64 0, .int .i64 0, .string ⟨#[]⟩, .int .i64 0] V by rw [hV]; exact ((unhide HL).put 1 _))
      have HR := hide (unhide HLL).res
      have HM := hide (unhide HLL).op
      have HB := hide (unhide HLL).bel
      clear hV HLL HL q0 hgw hgq hqw hne1 hne2 hne3 hgr v1 p1 p2 p3 f1 f2 f3
      clear hp HX HX1
      have hzR := blk_lt (unhide HR)
      obtain ⟨⟨d0, d1, d2, d3, d4, d5, d6, d7, d8, d9, d10⟩, f0, f1, f2, f3, f4, f5, f6, f7, f8, f9, f10⟩ := eleven_at (unhide HR)
      obtain ⟨⟨q0, q1, q2, q3, q4, q5, q6, q7, q8, q9, q10⟩, zz⟩ := eleven_at (unhide HM)
      clear zz
      by_cases hs0 : s.size = 0
      case' pos =>
        have hRes := hide (unhide HU hs0)
        have hse : s.toList.isEmpty = true := by rw [eq_empty s hs0, ByteArray.toList_eq]; rfl
        clear HU HY HZ HOT HM q0 q1 q2 q3 q4 q5 q6 q7 q8 q9 q10 hs0
        go_wp2_with fail
        refine bodyPost_atE (fun W' hW' => ?_)
        obtain ⟨⟨r0, r1, r2, r3, r4, r5, r6, r7, r8, r9, r10⟩, _⟩ := eleven_at (show W'.heap[w.heap.size]? = some (.cells #[.int .i64 0, .int .i64 0, .string ⟨#[]⟩, .int .i64 0, .int .i64 0, .int .i64 0, .int .i64 0, .int .i64 0, .int .i64 0, .string ⟨#[]⟩, .int .i64 0] 25 (0, 0)) by rw [hW']; exact eleven_set (unhide HR))
        have hbb : Below w.heap.size w W' := by rw [hW']; exact eleven_set_below (unhide HB) (Nat.le_refl _)
        exact bodyPost_ret (v := .tuple #[.agg #[.int .i64 0, .int .i64 0, .string ⟨#[]⟩, .int .i64 0, .int .i64 0, .int .i64 0, .int .i64 0, .int .i64 0, .int .i64 0, .string ⟨#[]⟩, .int .i64 0], .bool false]) (by simp [results, Tryz.results5, go_sem, r0, r1, r2, r3, r4, r5, r6, r7, r8, r9, r10]) rfl ⟨by rw [unhide hRes]; rfl, hbb⟩
      have hse := not_empty s (by omega)
      clear d0 d1 d2 d3 d4 d5 d6 d7 d8 d9 d10 f0 f1 f2 f3 f4 f5 f6 f7 f8 f9 f10
      go_wp2_with fail
      refine (unhide HOT _).mono ?_
      rintro e w7 ⟨rfl, hb7⟩
      have HR7 := hide (blk_step (unhide HR) hb7)
      have HM7 := hide (blk_step (unhide HM) hb7)
      have HB7 := hide ((unhide HB).trans (hb7.mono (unhide HB).size))
      clear hb7 HR HM HB q0 q1 q2 q3 q4 q5 q6 q7 q8 q9 q10 HOT hzR
      have HR := HR7
      have HB := HB7
      clear HR7 HB7
      have hzR := blk_lt (unhide HR)
      have hzM := blk_lt (unhide HM7)
      obtain ⟨⟨d0, d1, d2, d3, d4, d5, d6, d7, d8, d9, d10⟩, f0, f1, f2, f3, f4, f5, f6, f7, f8, f9, f10⟩ := eleven_at (unhide HR)
      by_cases hp : TX = s
      case' neg =>
        have hRes := hide (unhide HZ hp)
        have hq := str_ne hp
        clear HU HY HZ HM7 hp hs0
        go_wp2_with fail
        refine bodyPost_atE (fun W' hW' => ?_)
        obtain ⟨⟨r0, r1, r2, r3, r4, r5, r6, r7, r8, r9, r10⟩, _⟩ := eleven_at (show W'.heap[w.heap.size]? = some (.cells #[.int .i64 0, .int .i64 0, .string ⟨#[]⟩, .int .i64 0, .int .i64 0, .int .i64 0, .int .i64 0, .int .i64 0, .int .i64 0, .string ⟨#[]⟩, .int .i64 0] 25 (0, 0)) by rw [hW']; exact eleven_set (unhide HR))
        have hbb : Below w.heap.size w W' := by rw [hW']; exact eleven_set_below (unhide HB) (Nat.le_refl _)
        exact bodyPost_ret (v := .tuple #[.agg #[.int .i64 0, .int .i64 0, .string ⟨#[]⟩, .int .i64 0, .int .i64 0, .int .i64 0, .int .i64 0, .int .i64 0, .int .i64 0, .string ⟨#[]⟩, .int .i64 0], .bool false]) (by simp [results, Tryz.results5, go_sem, r0, r1, r2, r3, r4, r5, r6, r7, r8, r9, r10]) rfl ⟨by rw [unhide hRes]; rfl, hbb⟩
      have hRes := hide (unhide HY ⟨hs0, hp⟩)
      have hq : (TX.toList == s.toList) = true := by rw [hp]; simp
      obtain ⟨⟨q0, q1, q2, q3, q4, q5, q6, q7, q8, q9, q10⟩, zz⟩ := eleven_at (unhide HM7)
      clear HU HY HZ hp hs0 zz
      go_wp2_with fail
      refine bodyPost_atE (fun W' hW' => ?_)
      obtain ⟨⟨r0, r1, r2, r3, r4, r5, r6, r7, r8, r9, r10⟩, _⟩ := eleven_at (show W'.heap[w.heap.size]? = some (.cells #[.int .i64 2, .int .i64 na, .string ⟨#[]⟩, .int .i64 0, .int .i64 0, .int .i64 0, .int .i64 0, .int .i64 0, .int .i64 0, .string ⟨#[]⟩, .int .i64 0] 25 (0, 0)) by rw [hW']; exact eleven_set (unhide HR))
      have hbb : Below w.heap.size w W' := by rw [hW']; exact eleven_set_below (unhide HB) (Nat.le_refl _)
      exact bodyPost_ret (v := .tuple #[.agg #[.int .i64 2, .int .i64 na, .string ⟨#[]⟩, .int .i64 0, .int .i64 0, .int .i64 0, .int .i64 0, .int .i64 0, .int .i64 0, .string ⟨#[]⟩, .int .i64 0], .bool true]) (by simp [results, Tryz.results5, go_sem, r0, r1, r2, r3, r4, r5, r6, r7, r8, r9, r10]) rfl ⟨by rw [unhide hRes]; rfl, hbb⟩
set_option maxRecDepth 100000 in
set_option maxHeartbeats 8000000 in
theorem specReadOp_b2 (s x0 : ByteArray) (r : List ByteArray) (w : World) (hs : s.size ≤ 1048576) (hx : words s = x0 :: r) (hK : kindB x0 = 2) (hr : ¬ r.length = 1) :
    Calls Tryz.prog 5 #[.string s] w fun e w' => e = .returned (.tuple #[opw (roS s).1, .bool (roS s).2]) ∧ Below w.heap.size w w' := by
  have HW := hide (fun W => specWords s W hs)
  obtain ⟨n, hn⟩ : ∃ n, (words s).length = n := ⟨_, rfl⟩
  have hnm : n ≤ 1048577 := by rw [← hn]; exact words_max s hs
  have hn1 : 1 ≤ n := by rw [← hn]; exact words_pos s
  have hnn : ¬ n = 2 := by rw [← hn, hx]; simpa using hr
  have hO : opS (kindB x0) r = ⟨kindB x0, 0, ByteArray.empty, 0, zMg⟩ := by
    rw [hK]
    simp [opS, hr]
  have HY := hide (fun h => roS_yes hx (r := r) h)
  have HZ := hide (fun h => roS_no hx (r := r) h)
  have HU := hide (fun h => roS_un (s := s) h)
  rw [hO] at HY HZ
  have HOT : Hid (∀ w1 : World, Calls Tryz.prog 20 #[.agg #[.int .i64 (kindB x0), .int .i64 0, .string ⟨#[]⟩, .int .i64 0, .int .i64 0, .int .i64 0, .int .i64 0, .int .i64 0, .int .i64 0, .string ⟨#[]⟩, .int .i64 0]] w1 fun e w' => e = .returned (.string (opTx ⟨kindB x0, 0, ByteArray.empty, 0, zMg⟩)) ∧ Below w1.heap.size w1 w') := fun w1 => specOpText ⟨kindB x0, 0, ByteArray.empty, 0, zMg⟩ w1 (by unfold maxLen; simp) (by unfold maxLen zMg; simp)
  have HX := hide (show (words s)[0]? = some x0 by rw [hx]; rfl)
  have HKA := hide (kws_at x0)
  have HY0 := hide (kUp_0 x0)
  have HY6 := hide (kUp_6 x0)
  have HYY := hide (fun k => kUp_yes (x := x0) (k := k))
  have HYN := hide (fun k => kUp_no (x := x0) (k := k))
  have hp : 0 < (words s).length := by omega
  have HHA := hide (show hasL [0, 3, 4] 2 = false by rfl)
  clear hO hx hr
  generalize words s = xs at *
  go_enter Tryz.func5, Tryz.ntmps5
  go_wp2_with fail
  refine (unhide HW _).mono ?_
  rintro e w1 ⟨v1, rfl, how1, hb1⟩
  obtain ⟨g, cap, rfl, hg1, hg2, hc1⟩ := own_cells how1 hp
  rw [hn]
  have HN := hide hn
  clear how1 HW hn
  simp only [World.size_alloc] at hg1
  have HR1 := hide (blk_step (heap_alloc_new w _) hb1)
  have HB1 := hide ((below_one w _).trans (hb1.mono (by simp)))
  have HC1 := hide hc1
  clear hb1 hc1
  go_wp2_with fail
  obtain ⟨W0, hW0⟩ : ∃ W0, W0 = (w1.alloc (.cells #[.int .i64 (-1), .int .i64 0, .string ⟨#[]⟩, .int .i64 0, .int .i64 0, .int .i64 0, .int .i64 0, .int .i64 0, .int .i64 0, .string ⟨#[]⟩, .int .i64 0] 25)).alloc (.cells (kws.map Value.string).toArray 9) := ⟨_, rfl⟩
  have HI : Hid (RoL w g w1.heap.size xs #[.int .i64 (kUp x0 0), .int .i64 0, .string ⟨#[]⟩, .int .i64 0, .int .i64 0, .int .i64 0, .int .i64 0, .int .i64 0, .int .i64 0, .string ⟨#[]⟩, .int .i64 0] W0 ∧ (∀ j (hj : j < kws.length), W0.cell? ⟨w1.heap.size + 1, j, none⟩ = some (.string kws[j])) ∧ w1.heap.size + 1 < W0.heap.size) := by
    rw [hW0, unhide HY0]
    have a2 := allocsE2 w1 (.cells #[.int .i64 (-1), .int .i64 0, .string ⟨#[]⟩, .int .i64 0, .int .i64 0, .int .i64 0, .int .i64 0, .int .i64 0, .int .i64 0, .string ⟨#[]⟩, .int .i64 0] 25) (.cells (kws.map Value.string).toArray 9)
    refine ⟨⟨(unhide HB1).trans (a2.2.2.mono (unhide HB1).size), blk_step (unhide HR1) a2.2.2, fun i hi => (a2.2.2.cell (p := ⟨g, i, none⟩) hg2).trans (unhide HC1 i hi), a2.1, by omega, hg2⟩, fun j hj => ?_, by simp⟩
    have h := cell_of_row _ _ j _ _ _ a2.2.1
    rw [h]
    simp [hj]
  clear HR1 HB1 HC1
  have hW1 : (w1.alloc (.cells #[.int .i64 (-1), .int .i64 0, .string ⟨#[]⟩, .int .i64 0, .int .i64 0, .int .i64 0, .int .i64 0, .int .i64 0, .int .i64 0, .string ⟨#[]⟩, .int .i64 0] 25)).alloc (.cells #[.string ⟨#[109, 105, 110, 116]⟩, .string ⟨#[97, 100, 109, 105, 116]⟩, .string ⟨#[114, 101, 108, 101, 97, 115, 101]⟩, .string ⟨#[119, 97, 110, 116]⟩, .string ⟨#[98, 97, 99, 107]⟩, .string ⟨#[116, 105, 99, 107]⟩] 9) = W0 := by rw [hW0]; rfl
  rw [hW1]
  clear hW0 hW1
  generalize w1.heap.size = q at *
  go_loopw [7] (fun i wr => ∃ k : Nat, k ≤ 6 ∧ i = .int .i64 k ∧ RoL w g q xs #[.int .i64 (kUp x0 k), .int .i64 0, .string ⟨#[]⟩, .int .i64 0, .int .i64 0, .int .i64 0, .int .i64 0, .int .i64 0, .int .i64 0, .string ⟨#[]⟩, .int .i64 0] wr ∧ (∀ j (hj : j < kws.length), wr.cell? ⟨q + 1, j, none⟩ = some (.string kws[j])) ∧ q + 1 < wr.heap.size) (fun i _ => 6 - (intOf i).toNat)
  case atStart => exact ⟨0, by omega, rfl, (unhide HI).1, (unhide HI).2.1, (unhide HI).2.2⟩
  case round =>
    obtain ⟨k, hk, rfl, hL, hlit, hsz⟩ := hrel
    have HL := hide hL
    have HLI := hide hlit
    clear hL hlit HI
    by_cases hlt : k < 6
    · have c1 := unhide HLI k hlt
      have c0 : wr.cell? ⟨g, 0, none⟩ = some (.string x0) := by
        obtain ⟨h0, h1⟩ := List.getElem?_eq_some_iff.1 (unhide HX)
        rw [(unhide HL).ws 0 h0, h1]
      have HKK := hide (unhide HKA k hlt)
      generalize kws[k] = y at *
      have hki : (0 : Int) ≤ (k : Int) := by omega
      have hk6 : (k : Int) < 6 := by omega
      by_cases he : y = x0
      · subst he
        have HEQ := hide ((unhide HKK).1 rfl)
        obtain ⟨⟨q0, g1⟩, f0, g2⟩ := eleven_at (unhide HL).op
        clear g1 g2
        go_upto_region 7 with fail
        go_quiet (fail)
        go_wp2_with fail
        go_roundw
        case rel =>
          refine ⟨k + 1, by omega, by go_num, ?_, fun j hj => ?_, by simpa using hsz⟩
          · rw [unhide HYY k (unhide HEQ)]
            exact ((unhide HL).drewN nq).put 0 _
          · exact (cell_otherS (by show q + 1 ≠ q; omega)).trans (unhide HLI j hj)
        case measure => simp [intOf]; omega
      · have hq := str_ne he
        have HNE := hide (fun h => he ((unhide HKK).2 h))
        clear he
        go_upto_region 7 with fail
        go_quiet (fail)
        go_wp2_with fail
        go_roundw
        case rel =>
          refine ⟨k + 1, by omega, by go_num, ?_, fun j hj => unhide HLI j hj, hsz⟩
          rw [unhide HYN k (unhide HNE)]
          exact (unhide HL).drewN nq
        case measure => simp [intOf]; omega
    · have hk6 : k = 6 := by omega
      subst hk6
      rw [unhide HY6] at HL
      clear HKA HY0 HY6 HYY HYN HLI hsz hk hlt
      rw [hK] at HL HY HZ HOT
      clear hK
      generalize opTx ⟨2, 0, ByteArray.empty, 0, zMg⟩ = TX at *
      have hgw := (unhide HL).gw
      have hgq := (unhide HL).gq
      have hqw := blk_lt (unhide HL).op
      obtain ⟨⟨q0, g1⟩, f0, g2⟩ := eleven_at (unhide HL).op
      clear g1 g2 f0
      have HHS := hide (fun (W : World) (hc : ∀ i (hi : i < [(0 : Int), 3, 4].length), W.cell? ⟨wr.heap.size, i, none⟩ = some (.int .i64 [(0 : Int), 3, 4][i])) => roHas wr.heap.size 3 [0, 3, 4] 2 W (by simp) hc)
      rw [unhide HHA] at HHS
      clear HHA
      have hnd : (1 : Int) ≤ (n : Int) := by omega
      have hnq : ¬ ((n : Int) = 2) := by omega
      have hne1 : g ≠ q := by omega
      have hne2 : q ≠ g := by omega
      have hne3 : ¬ g = q := hne1
      have hgr : g < wr.heap.size := by omega
      go_upto_region 18 with (go_at_call 26; refine (unhide HHS _ (ro_lit wr)).mono ?_; rintro e w' ⟨rfl, rfl⟩)
      refine wp_at (fun V hV => ?_)
      have HLL := hide (show RoL w g q xs #[.int .i64 2, .int .i64 0, .string ⟨#[]⟩, .int .i64 0, .int .i64 0, .int .i64 0, .int .i64 0, .int .i64 0, .int .i64 0, .string ⟨#[]⟩, .int .i64 0] V by rw [hV]; exact ((unhide HL).step (below_one _ _)))
      have HR := hide (unhide HLL).res
      have HM := hide (unhide HLL).op
      have HB := hide (unhide HLL).bel
      clear hV HLL HL q0 hgw hgq hqw hne1 hne2 hne3 hgr 
      clear hp HX 
      have hzR := blk_lt (unhide HR)
      obtain ⟨⟨d0, d1, d2, d3, d4, d5, d6, d7, d8, d9, d10⟩, f0, f1, f2, f3, f4, f5, f6, f7, f8, f9, f10⟩ := eleven_at (unhide HR)
      obtain ⟨⟨q0, q1, q2, q3, q4, q5, q6, q7, q8, q9, q10⟩, zz⟩ := eleven_at (unhide HM)
      clear zz
      by_cases hs0 : s.size = 0
      case' pos =>
        have hRes := hide (unhide HU hs0)
        have hse : s.toList.isEmpty = true := by rw [eq_empty s hs0, ByteArray.toList_eq]; rfl
        clear HU HY HZ HOT HM q0 q1 q2 q3 q4 q5 q6 q7 q8 q9 q10 hs0
        go_wp2_with fail
        refine bodyPost_atE (fun W' hW' => ?_)
        obtain ⟨⟨r0, r1, r2, r3, r4, r5, r6, r7, r8, r9, r10⟩, _⟩ := eleven_at (show W'.heap[w.heap.size]? = some (.cells #[.int .i64 0, .int .i64 0, .string ⟨#[]⟩, .int .i64 0, .int .i64 0, .int .i64 0, .int .i64 0, .int .i64 0, .int .i64 0, .string ⟨#[]⟩, .int .i64 0] 25 (0, 0)) by rw [hW']; exact eleven_set (unhide HR))
        have hbb : Below w.heap.size w W' := by rw [hW']; exact eleven_set_below (unhide HB) (Nat.le_refl _)
        exact bodyPost_ret (v := .tuple #[.agg #[.int .i64 0, .int .i64 0, .string ⟨#[]⟩, .int .i64 0, .int .i64 0, .int .i64 0, .int .i64 0, .int .i64 0, .int .i64 0, .string ⟨#[]⟩, .int .i64 0], .bool false]) (by simp [results, Tryz.results5, go_sem, r0, r1, r2, r3, r4, r5, r6, r7, r8, r9, r10]) rfl ⟨by rw [unhide hRes]; rfl, hbb⟩
      have hse := not_empty s (by omega)
      clear d0 d1 d2 d3 d4 d5 d6 d7 d8 d9 d10 f0 f1 f2 f3 f4 f5 f6 f7 f8 f9 f10
      go_wp2_with fail
      refine (unhide HOT _).mono ?_
      rintro e w7 ⟨rfl, hb7⟩
      have HR7 := hide (blk_step (unhide HR) hb7)
      have HM7 := hide (blk_step (unhide HM) hb7)
      have HB7 := hide ((unhide HB).trans (hb7.mono (unhide HB).size))
      clear hb7 HR HM HB q0 q1 q2 q3 q4 q5 q6 q7 q8 q9 q10 HOT hzR
      have HR := HR7
      have HB := HB7
      clear HR7 HB7
      have hzR := blk_lt (unhide HR)
      have hzM := blk_lt (unhide HM7)
      obtain ⟨⟨d0, d1, d2, d3, d4, d5, d6, d7, d8, d9, d10⟩, f0, f1, f2, f3, f4, f5, f6, f7, f8, f9, f10⟩ := eleven_at (unhide HR)
      by_cases hp : TX = s
      case' neg =>
        have hRes := hide (unhide HZ hp)
        have hq := str_ne hp
        clear HU HY HZ HM7 hp hs0
        go_wp2_with fail
        refine bodyPost_atE (fun W' hW' => ?_)
        obtain ⟨⟨r0, r1, r2, r3, r4, r5, r6, r7, r8, r9, r10⟩, _⟩ := eleven_at (show W'.heap[w.heap.size]? = some (.cells #[.int .i64 0, .int .i64 0, .string ⟨#[]⟩, .int .i64 0, .int .i64 0, .int .i64 0, .int .i64 0, .int .i64 0, .int .i64 0, .string ⟨#[]⟩, .int .i64 0] 25 (0, 0)) by rw [hW']; exact eleven_set (unhide HR))
        have hbb : Below w.heap.size w W' := by rw [hW']; exact eleven_set_below (unhide HB) (Nat.le_refl _)
        exact bodyPost_ret (v := .tuple #[.agg #[.int .i64 0, .int .i64 0, .string ⟨#[]⟩, .int .i64 0, .int .i64 0, .int .i64 0, .int .i64 0, .int .i64 0, .int .i64 0, .string ⟨#[]⟩, .int .i64 0], .bool false]) (by simp [results, Tryz.results5, go_sem, r0, r1, r2, r3, r4, r5, r6, r7, r8, r9, r10]) rfl ⟨by rw [unhide hRes]; rfl, hbb⟩
      have hRes := hide (unhide HY ⟨hs0, hp⟩)
      have hq : (TX.toList == s.toList) = true := by rw [hp]; simp
      obtain ⟨⟨q0, q1, q2, q3, q4, q5, q6, q7, q8, q9, q10⟩, zz⟩ := eleven_at (unhide HM7)
      clear HU HY HZ hp hs0 zz
      go_wp2_with fail
      refine bodyPost_atE (fun W' hW' => ?_)
      obtain ⟨⟨r0, r1, r2, r3, r4, r5, r6, r7, r8, r9, r10⟩, _⟩ := eleven_at (show W'.heap[w.heap.size]? = some (.cells #[.int .i64 2, .int .i64 0, .string ⟨#[]⟩, .int .i64 0, .int .i64 0, .int .i64 0, .int .i64 0, .int .i64 0, .int .i64 0, .string ⟨#[]⟩, .int .i64 0] 25 (0, 0)) by rw [hW']; exact eleven_set (unhide HR))
      have hbb : Below w.heap.size w W' := by rw [hW']; exact eleven_set_below (unhide HB) (Nat.le_refl _)
      exact bodyPost_ret (v := .tuple #[.agg #[.int .i64 2, .int .i64 0, .string ⟨#[]⟩, .int .i64 0, .int .i64 0, .int .i64 0, .int .i64 0, .int .i64 0, .int .i64 0, .string ⟨#[]⟩, .int .i64 0], .bool true]) (by simp [results, Tryz.results5, go_sem, r0, r1, r2, r3, r4, r5, r6, r7, r8, r9, r10]) rfl ⟨by rw [unhide hRes]; rfl, hbb⟩
set_option maxRecDepth 100000 in
set_option maxHeartbeats 8000000 in
theorem specReadOp_c1 (s x0 : ByteArray) (a : ByteArray) (b : ByteArray) (w : World) (hs : s.size ≤ 1048576) (hx : words s = x0 :: [a, b]) (hK1 : ¬ kindB x0 = 1) (hK2 : ¬ kindB x0 = 2) (hK : kindB x0 = 0 ∨ kindB x0 = 3 ∨ kindB x0 = 4) :
    Calls Tryz.prog 5 #[.string s] w fun e w' => e = .returned (.tuple #[opw (roS s).1, .bool (roS s).2]) ∧ Below w.heap.size w w' := by
  have HW := hide (fun W => specWords s W hs)
  have hn : (words s).length = 3 := by rw [hx]; rfl
  have hzNB := words_size s b (by rw [hx]; simp)
  have HNB := hide (fun W => specNum b W (by unfold maxLen; omega))
  have hO : opS (kindB x0) [a, b] = ⟨kindB x0, 0, a, numB b, zMg⟩ := by
    unfold opS
    rw [if_neg (fun h => hK1 h.1), if_neg (fun h => hK2 h.1), if_pos ⟨hK, rfl⟩]
    rfl
  have HY := hide (fun h => roS_yes hx (r := [a, b]) h)
  have HZ := hide (fun h => roS_no hx (r := [a, b]) h)
  have HU := hide (fun h => roS_un (s := s) h)
  rw [hO] at HY HZ
  have HOT : Hid (∀ w1 : World, Calls Tryz.prog 20 #[.agg #[.int .i64 (kindB x0), .int .i64 0, .string a, .int .i64 (numB b), .int .i64 0, .int .i64 0, .int .i64 0, .int .i64 0, .int .i64 0, .string ⟨#[]⟩, .int .i64 0]] w1 fun e w' => e = .returned (.string (opTx ⟨kindB x0, 0, a, numB b, zMg⟩)) ∧ Below w1.heap.size w1 w') := fun w1 => specOpText ⟨kindB x0, 0, a, numB b, zMg⟩ w1 (by unfold maxLen; have := words_size s a (by rw [hx]; simp); simp only; omega) (by unfold maxLen zMg; simp)
  have HX := hide (show (words s)[0]? = some x0 by rw [hx]; rfl)
  have HX1 := hide (show (words s)[1]? = some a by rw [hx]; rfl)
  have HX2 := hide (show (words s)[2]? = some b by rw [hx]; rfl)
  have HKA := hide (kws_at x0)
  have HY0 := hide (kUp_0 x0)
  have HY6 := hide (kUp_6 x0)
  have HYY := hide (fun k => kUp_yes (x := x0) (k := k))
  have HYN := hide (fun k => kUp_no (x := x0) (k := k))
  have hp : 0 < (words s).length := by omega
  have HHA := hide (show hasL [0, 3, 4] (kindB x0) = true by rcases hK with h | h | h <;> rw [h] <;> rfl)
  clear hO hx hK
  generalize words s = xs at *
  go_enter Tryz.func5, Tryz.ntmps5
  go_wp2_with fail
  refine (unhide HW _).mono ?_
  rintro e w1 ⟨v1, rfl, how1, hb1⟩
  obtain ⟨g, cap, rfl, hg1, hg2, hc1⟩ := own_cells how1 hp
  rw [hn]
  have HN := hide hn
  clear how1 HW hn
  simp only [World.size_alloc] at hg1
  have HR1 := hide (blk_step (heap_alloc_new w _) hb1)
  have HB1 := hide ((below_one w _).trans (hb1.mono (by simp)))
  have HC1 := hide hc1
  clear hb1 hc1
  go_wp2_with fail
  obtain ⟨W0, hW0⟩ : ∃ W0, W0 = (w1.alloc (.cells #[.int .i64 (-1), .int .i64 0, .string ⟨#[]⟩, .int .i64 0, .int .i64 0, .int .i64 0, .int .i64 0, .int .i64 0, .int .i64 0, .string ⟨#[]⟩, .int .i64 0] 25)).alloc (.cells (kws.map Value.string).toArray 9) := ⟨_, rfl⟩
  have HI : Hid (RoL w g w1.heap.size xs #[.int .i64 (kUp x0 0), .int .i64 0, .string ⟨#[]⟩, .int .i64 0, .int .i64 0, .int .i64 0, .int .i64 0, .int .i64 0, .int .i64 0, .string ⟨#[]⟩, .int .i64 0] W0 ∧ (∀ j (hj : j < kws.length), W0.cell? ⟨w1.heap.size + 1, j, none⟩ = some (.string kws[j])) ∧ w1.heap.size + 1 < W0.heap.size) := by
    rw [hW0, unhide HY0]
    have a2 := allocsE2 w1 (.cells #[.int .i64 (-1), .int .i64 0, .string ⟨#[]⟩, .int .i64 0, .int .i64 0, .int .i64 0, .int .i64 0, .int .i64 0, .int .i64 0, .string ⟨#[]⟩, .int .i64 0] 25) (.cells (kws.map Value.string).toArray 9)
    refine ⟨⟨(unhide HB1).trans (a2.2.2.mono (unhide HB1).size), blk_step (unhide HR1) a2.2.2, fun i hi => (a2.2.2.cell (p := ⟨g, i, none⟩) hg2).trans (unhide HC1 i hi), a2.1, by omega, hg2⟩, fun j hj => ?_, by simp⟩
    have h := cell_of_row _ _ j _ _ _ a2.2.1
    rw [h]
    simp [hj]
  clear HR1 HB1 HC1
  have hW1 : (w1.alloc (.cells #[.int .i64 (-1), .int .i64 0, .string ⟨#[]⟩, .int .i64 0, .int .i64 0, .int .i64 0, .int .i64 0, .int .i64 0, .int .i64 0, .string ⟨#[]⟩, .int .i64 0] 25)).alloc (.cells #[.string ⟨#[109, 105, 110, 116]⟩, .string ⟨#[97, 100, 109, 105, 116]⟩, .string ⟨#[114, 101, 108, 101, 97, 115, 101]⟩, .string ⟨#[119, 97, 110, 116]⟩, .string ⟨#[98, 97, 99, 107]⟩, .string ⟨#[116, 105, 99, 107]⟩] 9) = W0 := by rw [hW0]; rfl
  rw [hW1]
  clear hW0 hW1
  generalize w1.heap.size = q at *
  go_loopw [7] (fun i wr => ∃ k : Nat, k ≤ 6 ∧ i = .int .i64 k ∧ RoL w g q xs #[.int .i64 (kUp x0 k), .int .i64 0, .string ⟨#[]⟩, .int .i64 0, .int .i64 0, .int .i64 0, .int .i64 0, .int .i64 0, .int .i64 0, .string ⟨#[]⟩, .int .i64 0] wr ∧ (∀ j (hj : j < kws.length), wr.cell? ⟨q + 1, j, none⟩ = some (.string kws[j])) ∧ q + 1 < wr.heap.size) (fun i _ => 6 - (intOf i).toNat)
  case atStart => exact ⟨0, by omega, rfl, (unhide HI).1, (unhide HI).2.1, (unhide HI).2.2⟩
  case round =>
    obtain ⟨k, hk, rfl, hL, hlit, hsz⟩ := hrel
    have HL := hide hL
    have HLI := hide hlit
    clear hL hlit HI
    by_cases hlt : k < 6
    · have c1 := unhide HLI k hlt
      have c0 : wr.cell? ⟨g, 0, none⟩ = some (.string x0) := by
        obtain ⟨h0, h1⟩ := List.getElem?_eq_some_iff.1 (unhide HX)
        rw [(unhide HL).ws 0 h0, h1]
      have HKK := hide (unhide HKA k hlt)
      generalize kws[k] = y at *
      have hki : (0 : Int) ≤ (k : Int) := by omega
      have hk6 : (k : Int) < 6 := by omega
      by_cases he : y = x0
      · subst he
        have HEQ := hide ((unhide HKK).1 rfl)
        obtain ⟨⟨q0, g1⟩, f0, g2⟩ := eleven_at (unhide HL).op
        clear g1 g2
        go_upto_region 7 with fail
        go_quiet (fail)
        go_wp2_with fail
        go_roundw
        case rel =>
          refine ⟨k + 1, by omega, by go_num, ?_, fun j hj => ?_, by simpa using hsz⟩
          · rw [unhide HYY k (unhide HEQ)]
            exact ((unhide HL).drewN nq).put 0 _
          · exact (cell_otherS (by show q + 1 ≠ q; omega)).trans (unhide HLI j hj)
        case measure => simp [intOf]; omega
      · have hq := str_ne he
        have HNE := hide (fun h => he ((unhide HKK).2 h))
        clear he
        go_upto_region 7 with fail
        go_quiet (fail)
        go_wp2_with fail
        go_roundw
        case rel =>
          refine ⟨k + 1, by omega, by go_num, ?_, fun j hj => unhide HLI j hj, hsz⟩
          rw [unhide HYN k (unhide HNE)]
          exact (unhide HL).drewN nq
        case measure => simp [intOf]; omega
    · have hk6 : k = 6 := by omega
      subst hk6
      rw [unhide HY6] at HL
      clear HKA HY0 HY6 HYY HYN HLI hsz hk hlt
      generalize kindB x0 = K at *
      generalize numB b = nb at *
      generalize opTx ⟨K, 0, a, nb, zMg⟩ = TX at *
      have hgw := (unhide HL).gw
      have hgq := (unhide HL).gq
      have hqw := blk_lt (unhide HL).op
      obtain ⟨⟨q0, g1⟩, f0, g2⟩ := eleven_at (unhide HL).op
      clear g1 g2 f0
      have HHS := hide (fun (W : World) (hc : ∀ i (hi : i < [(0 : Int), 3, 4].length), W.cell? ⟨wr.heap.size, i, none⟩ = some (.int .i64 [(0 : Int), 3, 4][i])) => roHas wr.heap.size 3 [0, 3, 4] K W (by simp) hc)
      rw [unhide HHA] at HHS
      clear HHA
      have v1 := (unhide HL).at 1 (unhide HX1)
      have v2 := (unhide HL).at 2 (unhide HX2)
      obtain ⟨⟨z0, p1, p2, p3, z4⟩, z5, f1, f2, f3, z6⟩ := eleven_at (unhide HL).op
      clear z0 z4 z5 z6
      have hne1 : g ≠ q := by omega
      have hne2 : q ≠ g := by omega
      have hne3 : ¬ g = q := hne1
      have hgr : g < wr.heap.size := by omega
      go_upto_region 18 with (first | (go_at_call 25; refine (unhide HNB _).mono ?_; rintro e w' ⟨rfl, rfl⟩) | (go_at_call 26; refine (unhide HHS _ (ro_lit wr)).mono ?_; rintro e w' ⟨rfl, rfl⟩))
      refine wp_at (fun V hV => ?_)
      have HLL := hide (show RoL w g q xs #[.int .i64 K, .int .i64 0, .string a, .int .i64 nb, .int .i64 0, .int .i64 0, .int .i64 0, .int .i64 0, .int .i64 0, .string ⟨#[]⟩, .int .i64 0] V by rw [hV]; exact ((((unhide HL).put 2 _).put 3 _).step (below_one _ _)))
      have HR := hide (unhide HLL).res
      have HM := hide (unhide HLL).op
      have HB := hide (unhide HLL).bel
      clear hV HLL HL q0 hgw hgq hqw hne1 hne2 hne3 hgr v1 v2 p1 p2 p3 f1 f2 f3
      clear hp HX HX1 HX2
      have hzR := blk_lt (unhide HR)
      obtain ⟨⟨d0, d1, d2, d3, d4, d5, d6, d7, d8, d9, d10⟩, f0, f1, f2, f3, f4, f5, f6, f7, f8, f9, f10⟩ := eleven_at (unhide HR)
      obtain ⟨⟨q0, q1, q2, q3, q4, q5, q6, q7, q8, q9, q10⟩, zz⟩ := eleven_at (unhide HM)
      clear zz
      by_cases hs0 : s.size = 0
      case' pos =>
        have hRes := hide (unhide HU hs0)
        have hse : s.toList.isEmpty = true := by rw [eq_empty s hs0, ByteArray.toList_eq]; rfl
        clear HU HY HZ HOT HM q0 q1 q2 q3 q4 q5 q6 q7 q8 q9 q10 hs0
        go_wp2_with fail
        refine bodyPost_atE (fun W' hW' => ?_)
        obtain ⟨⟨r0, r1, r2, r3, r4, r5, r6, r7, r8, r9, r10⟩, _⟩ := eleven_at (show W'.heap[w.heap.size]? = some (.cells #[.int .i64 0, .int .i64 0, .string ⟨#[]⟩, .int .i64 0, .int .i64 0, .int .i64 0, .int .i64 0, .int .i64 0, .int .i64 0, .string ⟨#[]⟩, .int .i64 0] 25 (0, 0)) by rw [hW']; exact eleven_set (unhide HR))
        have hbb : Below w.heap.size w W' := by rw [hW']; exact eleven_set_below (unhide HB) (Nat.le_refl _)
        exact bodyPost_ret (v := .tuple #[.agg #[.int .i64 0, .int .i64 0, .string ⟨#[]⟩, .int .i64 0, .int .i64 0, .int .i64 0, .int .i64 0, .int .i64 0, .int .i64 0, .string ⟨#[]⟩, .int .i64 0], .bool false]) (by simp [results, Tryz.results5, go_sem, r0, r1, r2, r3, r4, r5, r6, r7, r8, r9, r10]) rfl ⟨by rw [unhide hRes]; rfl, hbb⟩
      have hse := not_empty s (by omega)
      clear d0 d1 d2 d3 d4 d5 d6 d7 d8 d9 d10 f0 f1 f2 f3 f4 f5 f6 f7 f8 f9 f10
      go_wp2_with fail
      refine (unhide HOT _).mono ?_
      rintro e w7 ⟨rfl, hb7⟩
      have HR7 := hide (blk_step (unhide HR) hb7)
      have HM7 := hide (blk_step (unhide HM) hb7)
      have HB7 := hide ((unhide HB).trans (hb7.mono (unhide HB).size))
      clear hb7 HR HM HB q0 q1 q2 q3 q4 q5 q6 q7 q8 q9 q10 HOT hzR
      have HR := HR7
      have HB := HB7
      clear HR7 HB7
      have hzR := blk_lt (unhide HR)
      have hzM := blk_lt (unhide HM7)
      obtain ⟨⟨d0, d1, d2, d3, d4, d5, d6, d7, d8, d9, d10⟩, f0, f1, f2, f3, f4, f5, f6, f7, f8, f9, f10⟩ := eleven_at (unhide HR)
      by_cases hp : TX = s
      case' neg =>
        have hRes := hide (unhide HZ hp)
        have hq := str_ne hp
        clear HU HY HZ HM7 hp hs0
        go_wp2_with fail
        refine bodyPost_atE (fun W' hW' => ?_)
        obtain ⟨⟨r0, r1, r2, r3, r4, r5, r6, r7, r8, r9, r10⟩, _⟩ := eleven_at (show W'.heap[w.heap.size]? = some (.cells #[.int .i64 0, .int .i64 0, .string ⟨#[]⟩, .int .i64 0, .int .i64 0, .int .i64 0, .int .i64 0, .int .i64 0, .int .i64 0, .string ⟨#[]⟩, .int .i64 0] 25 (0, 0)) by rw [hW']; exact eleven_set (unhide HR))
        have hbb : Below w.heap.size w W' := by rw [hW']; exact eleven_set_below (unhide HB) (Nat.le_refl _)
        exact bodyPost_ret (v := .tuple #[.agg #[.int .i64 0, .int .i64 0, .string ⟨#[]⟩, .int .i64 0, .int .i64 0, .int .i64 0, .int .i64 0, .int .i64 0, .int .i64 0, .string ⟨#[]⟩, .int .i64 0], .bool false]) (by simp [results, Tryz.results5, go_sem, r0, r1, r2, r3, r4, r5, r6, r7, r8, r9, r10]) rfl ⟨by rw [unhide hRes]; rfl, hbb⟩
      have hRes := hide (unhide HY ⟨hs0, hp⟩)
      have hq : (TX.toList == s.toList) = true := by rw [hp]; simp
      obtain ⟨⟨q0, q1, q2, q3, q4, q5, q6, q7, q8, q9, q10⟩, zz⟩ := eleven_at (unhide HM7)
      clear HU HY HZ hp hs0 zz
      go_wp2_with fail
      refine bodyPost_atE (fun W' hW' => ?_)
      obtain ⟨⟨r0, r1, r2, r3, r4, r5, r6, r7, r8, r9, r10⟩, _⟩ := eleven_at (show W'.heap[w.heap.size]? = some (.cells #[.int .i64 K, .int .i64 0, .string a, .int .i64 nb, .int .i64 0, .int .i64 0, .int .i64 0, .int .i64 0, .int .i64 0, .string ⟨#[]⟩, .int .i64 0] 25 (0, 0)) by rw [hW']; exact eleven_set (unhide HR))
      have hbb : Below w.heap.size w W' := by rw [hW']; exact eleven_set_below (unhide HB) (Nat.le_refl _)
      exact bodyPost_ret (v := .tuple #[.agg #[.int .i64 K, .int .i64 0, .string a, .int .i64 nb, .int .i64 0, .int .i64 0, .int .i64 0, .int .i64 0, .int .i64 0, .string ⟨#[]⟩, .int .i64 0], .bool true]) (by simp [results, Tryz.results5, go_sem, r0, r1, r2, r3, r4, r5, r6, r7, r8, r9, r10]) rfl ⟨by rw [unhide hRes]; rfl, hbb⟩
set_option maxRecDepth 100000 in
set_option maxHeartbeats 8000000 in
theorem specReadOp_c2 (s x0 : ByteArray) (r : List ByteArray) (w : World) (hs : s.size ≤ 1048576) (hx : words s = x0 :: r) (hK1 : ¬ kindB x0 = 1) (hK2 : ¬ kindB x0 = 2) (hK : kindB x0 = 0 ∨ kindB x0 = 3 ∨ kindB x0 = 4) (hr : ¬ r.length = 2) :
    Calls Tryz.prog 5 #[.string s] w fun e w' => e = .returned (.tuple #[opw (roS s).1, .bool (roS s).2]) ∧ Below w.heap.size w w' := by
  have HW := hide (fun W => specWords s W hs)
  obtain ⟨n, hn⟩ : ∃ n, (words s).length = n := ⟨_, rfl⟩
  have hnm : n ≤ 1048577 := by rw [← hn]; exact words_max s hs
  have hn1 : 1 ≤ n := by rw [← hn]; exact words_pos s
  have hnn : ¬ n = 3 := by rw [← hn, hx]; simpa using hr
  have hO : opS (kindB x0) r = ⟨kindB x0, 0, ByteArray.empty, 0, zMg⟩ := by
    unfold opS
    rw [if_neg (fun h => hK1 h.1), if_neg (fun h => hK2 h.1), if_neg (fun h => hr h.2)]
  have HY := hide (fun h => roS_yes hx (r := r) h)
  have HZ := hide (fun h => roS_no hx (r := r) h)
  have HU := hide (fun h => roS_un (s := s) h)
  rw [hO] at HY HZ
  have HOT : Hid (∀ w1 : World, Calls Tryz.prog 20 #[.agg #[.int .i64 (kindB x0), .int .i64 0, .string ⟨#[]⟩, .int .i64 0, .int .i64 0, .int .i64 0, .int .i64 0, .int .i64 0, .int .i64 0, .string ⟨#[]⟩, .int .i64 0]] w1 fun e w' => e = .returned (.string (opTx ⟨kindB x0, 0, ByteArray.empty, 0, zMg⟩)) ∧ Below w1.heap.size w1 w') := fun w1 => specOpText ⟨kindB x0, 0, ByteArray.empty, 0, zMg⟩ w1 (by unfold maxLen; simp) (by unfold maxLen zMg; simp)
  have HX := hide (show (words s)[0]? = some x0 by rw [hx]; rfl)
  have HKA := hide (kws_at x0)
  have HY0 := hide (kUp_0 x0)
  have HY6 := hide (kUp_6 x0)
  have HYY := hide (fun k => kUp_yes (x := x0) (k := k))
  have HYN := hide (fun k => kUp_no (x := x0) (k := k))
  have hp : 0 < (words s).length := by omega
  have HHA := hide (show hasL [0, 3, 4] (kindB x0) = true by rcases hK with h | h | h <;> rw [h] <;> rfl)
  clear hO hx hK hr
  generalize words s = xs at *
  go_enter Tryz.func5, Tryz.ntmps5
  go_wp2_with fail
  refine (unhide HW _).mono ?_
  rintro e w1 ⟨v1, rfl, how1, hb1⟩
  obtain ⟨g, cap, rfl, hg1, hg2, hc1⟩ := own_cells how1 hp
  rw [hn]
  have HN := hide hn
  clear how1 HW hn
  simp only [World.size_alloc] at hg1
  have HR1 := hide (blk_step (heap_alloc_new w _) hb1)
  have HB1 := hide ((below_one w _).trans (hb1.mono (by simp)))
  have HC1 := hide hc1
  clear hb1 hc1
  go_wp2_with fail
  obtain ⟨W0, hW0⟩ : ∃ W0, W0 = (w1.alloc (.cells #[.int .i64 (-1), .int .i64 0, .string ⟨#[]⟩, .int .i64 0, .int .i64 0, .int .i64 0, .int .i64 0, .int .i64 0, .int .i64 0, .string ⟨#[]⟩, .int .i64 0] 25)).alloc (.cells (kws.map Value.string).toArray 9) := ⟨_, rfl⟩
  have HI : Hid (RoL w g w1.heap.size xs #[.int .i64 (kUp x0 0), .int .i64 0, .string ⟨#[]⟩, .int .i64 0, .int .i64 0, .int .i64 0, .int .i64 0, .int .i64 0, .int .i64 0, .string ⟨#[]⟩, .int .i64 0] W0 ∧ (∀ j (hj : j < kws.length), W0.cell? ⟨w1.heap.size + 1, j, none⟩ = some (.string kws[j])) ∧ w1.heap.size + 1 < W0.heap.size) := by
    rw [hW0, unhide HY0]
    have a2 := allocsE2 w1 (.cells #[.int .i64 (-1), .int .i64 0, .string ⟨#[]⟩, .int .i64 0, .int .i64 0, .int .i64 0, .int .i64 0, .int .i64 0, .int .i64 0, .string ⟨#[]⟩, .int .i64 0] 25) (.cells (kws.map Value.string).toArray 9)
    refine ⟨⟨(unhide HB1).trans (a2.2.2.mono (unhide HB1).size), blk_step (unhide HR1) a2.2.2, fun i hi => (a2.2.2.cell (p := ⟨g, i, none⟩) hg2).trans (unhide HC1 i hi), a2.1, by omega, hg2⟩, fun j hj => ?_, by simp⟩
    have h := cell_of_row _ _ j _ _ _ a2.2.1
    rw [h]
    simp [hj]
  clear HR1 HB1 HC1
  have hW1 : (w1.alloc (.cells #[.int .i64 (-1), .int .i64 0, .string ⟨#[]⟩, .int .i64 0, .int .i64 0, .int .i64 0, .int .i64 0, .int .i64 0, .int .i64 0, .string ⟨#[]⟩, .int .i64 0] 25)).alloc (.cells #[.string ⟨#[109, 105, 110, 116]⟩, .string ⟨#[97, 100, 109, 105, 116]⟩, .string ⟨#[114, 101, 108, 101, 97, 115, 101]⟩, .string ⟨#[119, 97, 110, 116]⟩, .string ⟨#[98, 97, 99, 107]⟩, .string ⟨#[116, 105, 99, 107]⟩] 9) = W0 := by rw [hW0]; rfl
  rw [hW1]
  clear hW0 hW1
  generalize w1.heap.size = q at *
  go_loopw [7] (fun i wr => ∃ k : Nat, k ≤ 6 ∧ i = .int .i64 k ∧ RoL w g q xs #[.int .i64 (kUp x0 k), .int .i64 0, .string ⟨#[]⟩, .int .i64 0, .int .i64 0, .int .i64 0, .int .i64 0, .int .i64 0, .int .i64 0, .string ⟨#[]⟩, .int .i64 0] wr ∧ (∀ j (hj : j < kws.length), wr.cell? ⟨q + 1, j, none⟩ = some (.string kws[j])) ∧ q + 1 < wr.heap.size) (fun i _ => 6 - (intOf i).toNat)
  case atStart => exact ⟨0, by omega, rfl, (unhide HI).1, (unhide HI).2.1, (unhide HI).2.2⟩
  case round =>
    obtain ⟨k, hk, rfl, hL, hlit, hsz⟩ := hrel
    have HL := hide hL
    have HLI := hide hlit
    clear hL hlit HI
    by_cases hlt : k < 6
    · have c1 := unhide HLI k hlt
      have c0 : wr.cell? ⟨g, 0, none⟩ = some (.string x0) := by
        obtain ⟨h0, h1⟩ := List.getElem?_eq_some_iff.1 (unhide HX)
        rw [(unhide HL).ws 0 h0, h1]
      have HKK := hide (unhide HKA k hlt)
      generalize kws[k] = y at *
      have hki : (0 : Int) ≤ (k : Int) := by omega
      have hk6 : (k : Int) < 6 := by omega
      by_cases he : y = x0
      · subst he
        have HEQ := hide ((unhide HKK).1 rfl)
        obtain ⟨⟨q0, g1⟩, f0, g2⟩ := eleven_at (unhide HL).op
        clear g1 g2
        go_upto_region 7 with fail
        go_quiet (fail)
        go_wp2_with fail
        go_roundw
        case rel =>
          refine ⟨k + 1, by omega, by go_num, ?_, fun j hj => ?_, by simpa using hsz⟩
          · rw [unhide HYY k (unhide HEQ)]
            exact ((unhide HL).drewN nq).put 0 _
          · exact (cell_otherS (by show q + 1 ≠ q; omega)).trans (unhide HLI j hj)
        case measure => simp [intOf]; omega
      · have hq := str_ne he
        have HNE := hide (fun h => he ((unhide HKK).2 h))
        clear he
        go_upto_region 7 with fail
        go_quiet (fail)
        go_wp2_with fail
        go_roundw
        case rel =>
          refine ⟨k + 1, by omega, by go_num, ?_, fun j hj => unhide HLI j hj, hsz⟩
          rw [unhide HYN k (unhide HNE)]
          exact (unhide HL).drewN nq
        case measure => simp [intOf]; omega
    · have hk6 : k = 6 := by omega
      subst hk6
      rw [unhide HY6] at HL
      clear HKA HY0 HY6 HYY HYN HLI hsz hk hlt
      generalize kindB x0 = K at *
      generalize opTx ⟨K, 0, ByteArray.empty, 0, zMg⟩ = TX at *
      have hgw := (unhide HL).gw
      have hgq := (unhide HL).gq
      have hqw := blk_lt (unhide HL).op
      obtain ⟨⟨q0, g1⟩, f0, g2⟩ := eleven_at (unhide HL).op
      clear g1 g2 f0
      have HHS := hide (fun (W : World) (hc : ∀ i (hi : i < [(0 : Int), 3, 4].length), W.cell? ⟨wr.heap.size, i, none⟩ = some (.int .i64 [(0 : Int), 3, 4][i])) => roHas wr.heap.size 3 [0, 3, 4] K W (by simp) hc)
      rw [unhide HHA] at HHS
      clear HHA
      have hnd : (1 : Int) ≤ (n : Int) := by omega
      have hnq : ¬ ((n : Int) = 3) := by omega
      have hne1 : g ≠ q := by omega
      have hne2 : q ≠ g := by omega
      have hne3 : ¬ g = q := hne1
      have hgr : g < wr.heap.size := by omega
      go_upto_region 18 with (go_at_call 26; refine (unhide HHS _ (ro_lit wr)).mono ?_; rintro e w' ⟨rfl, rfl⟩)
      refine wp_at (fun V hV => ?_)
      have HLL := hide (show RoL w g q xs #[.int .i64 K, .int .i64 0, .string ⟨#[]⟩, .int .i64 0, .int .i64 0, .int .i64 0, .int .i64 0, .int .i64 0, .int .i64 0, .string ⟨#[]⟩, .int .i64 0] V by rw [hV]; exact ((unhide HL).step (below_one _ _)))
      have HR := hide (unhide HLL).res
      have HM := hide (unhide HLL).op
      have HB := hide (unhide HLL).bel
      clear hV HLL HL q0 hgw hgq hqw hne1 hne2 hne3 hgr 
      clear hp HX 
      have hzR := blk_lt (unhide HR)
      obtain ⟨⟨d0, d1, d2, d3, d4, d5, d6, d7, d8, d9, d10⟩, f0, f1, f2, f3, f4, f5, f6, f7, f8, f9, f10⟩ := eleven_at (unhide HR)
      obtain ⟨⟨q0, q1, q2, q3, q4, q5, q6, q7, q8, q9, q10⟩, zz⟩ := eleven_at (unhide HM)
      clear zz
      by_cases hs0 : s.size = 0
      case' pos =>
        have hRes := hide (unhide HU hs0)
        have hse : s.toList.isEmpty = true := by rw [eq_empty s hs0, ByteArray.toList_eq]; rfl
        clear HU HY HZ HOT HM q0 q1 q2 q3 q4 q5 q6 q7 q8 q9 q10 hs0
        go_wp2_with fail
        refine bodyPost_atE (fun W' hW' => ?_)
        obtain ⟨⟨r0, r1, r2, r3, r4, r5, r6, r7, r8, r9, r10⟩, _⟩ := eleven_at (show W'.heap[w.heap.size]? = some (.cells #[.int .i64 0, .int .i64 0, .string ⟨#[]⟩, .int .i64 0, .int .i64 0, .int .i64 0, .int .i64 0, .int .i64 0, .int .i64 0, .string ⟨#[]⟩, .int .i64 0] 25 (0, 0)) by rw [hW']; exact eleven_set (unhide HR))
        have hbb : Below w.heap.size w W' := by rw [hW']; exact eleven_set_below (unhide HB) (Nat.le_refl _)
        exact bodyPost_ret (v := .tuple #[.agg #[.int .i64 0, .int .i64 0, .string ⟨#[]⟩, .int .i64 0, .int .i64 0, .int .i64 0, .int .i64 0, .int .i64 0, .int .i64 0, .string ⟨#[]⟩, .int .i64 0], .bool false]) (by simp [results, Tryz.results5, go_sem, r0, r1, r2, r3, r4, r5, r6, r7, r8, r9, r10]) rfl ⟨by rw [unhide hRes]; rfl, hbb⟩
      have hse := not_empty s (by omega)
      clear d0 d1 d2 d3 d4 d5 d6 d7 d8 d9 d10 f0 f1 f2 f3 f4 f5 f6 f7 f8 f9 f10
      go_wp2_with fail
      refine (unhide HOT _).mono ?_
      rintro e w7 ⟨rfl, hb7⟩
      have HR7 := hide (blk_step (unhide HR) hb7)
      have HM7 := hide (blk_step (unhide HM) hb7)
      have HB7 := hide ((unhide HB).trans (hb7.mono (unhide HB).size))
      clear hb7 HR HM HB q0 q1 q2 q3 q4 q5 q6 q7 q8 q9 q10 HOT hzR
      have HR := HR7
      have HB := HB7
      clear HR7 HB7
      have hzR := blk_lt (unhide HR)
      have hzM := blk_lt (unhide HM7)
      obtain ⟨⟨d0, d1, d2, d3, d4, d5, d6, d7, d8, d9, d10⟩, f0, f1, f2, f3, f4, f5, f6, f7, f8, f9, f10⟩ := eleven_at (unhide HR)
      by_cases hp : TX = s
      case' neg =>
        have hRes := hide (unhide HZ hp)
        have hq := str_ne hp
        clear HU HY HZ HM7 hp hs0
        go_wp2_with fail
        refine bodyPost_atE (fun W' hW' => ?_)
        obtain ⟨⟨r0, r1, r2, r3, r4, r5, r6, r7, r8, r9, r10⟩, _⟩ := eleven_at (show W'.heap[w.heap.size]? = some (.cells #[.int .i64 0, .int .i64 0, .string ⟨#[]⟩, .int .i64 0, .int .i64 0, .int .i64 0, .int .i64 0, .int .i64 0, .int .i64 0, .string ⟨#[]⟩, .int .i64 0] 25 (0, 0)) by rw [hW']; exact eleven_set (unhide HR))
        have hbb : Below w.heap.size w W' := by rw [hW']; exact eleven_set_below (unhide HB) (Nat.le_refl _)
        exact bodyPost_ret (v := .tuple #[.agg #[.int .i64 0, .int .i64 0, .string ⟨#[]⟩, .int .i64 0, .int .i64 0, .int .i64 0, .int .i64 0, .int .i64 0, .int .i64 0, .string ⟨#[]⟩, .int .i64 0], .bool false]) (by simp [results, Tryz.results5, go_sem, r0, r1, r2, r3, r4, r5, r6, r7, r8, r9, r10]) rfl ⟨by rw [unhide hRes]; rfl, hbb⟩
      have hRes := hide (unhide HY ⟨hs0, hp⟩)
      have hq : (TX.toList == s.toList) = true := by rw [hp]; simp
      obtain ⟨⟨q0, q1, q2, q3, q4, q5, q6, q7, q8, q9, q10⟩, zz⟩ := eleven_at (unhide HM7)
      clear HU HY HZ hp hs0 zz
      go_wp2_with fail
      refine bodyPost_atE (fun W' hW' => ?_)
      obtain ⟨⟨r0, r1, r2, r3, r4, r5, r6, r7, r8, r9, r10⟩, _⟩ := eleven_at (show W'.heap[w.heap.size]? = some (.cells #[.int .i64 K, .int .i64 0, .string ⟨#[]⟩, .int .i64 0, .int .i64 0, .int .i64 0, .int .i64 0, .int .i64 0, .int .i64 0, .string ⟨#[]⟩, .int .i64 0] 25 (0, 0)) by rw [hW']; exact eleven_set (unhide HR))
      have hbb : Below w.heap.size w W' := by rw [hW']; exact eleven_set_below (unhide HB) (Nat.le_refl _)
      exact bodyPost_ret (v := .tuple #[.agg #[.int .i64 K, .int .i64 0, .string ⟨#[]⟩, .int .i64 0, .int .i64 0, .int .i64 0, .int .i64 0, .int .i64 0, .int .i64 0, .string ⟨#[]⟩, .int .i64 0], .bool true]) (by simp [results, Tryz.results5, go_sem, r0, r1, r2, r3, r4, r5, r6, r7, r8, r9, r10]) rfl ⟨by rw [unhide hRes]; rfl, hbb⟩
set_option maxRecDepth 100000 in
set_option maxHeartbeats 8000000 in
theorem specReadOp_d (s x0 : ByteArray) (r : List ByteArray) (w : World) (hs : s.size ≤ 1048576) (hx : words s = x0 :: r) (hK1 : ¬ kindB x0 = 1) (hK2 : ¬ kindB x0 = 2) (hK : ¬ (kindB x0 = 0 ∨ kindB x0 = 3 ∨ kindB x0 = 4)) :
    Calls Tryz.prog 5 #[.string s] w fun e w' => e = .returned (.tuple #[opw (roS s).1, .bool (roS s).2]) ∧ Below w.heap.size w w' := by
  have HW := hide (fun W => specWords s W hs)
  obtain ⟨n, hn⟩ : ∃ n, (words s).length = n := ⟨_, rfl⟩
  have hnm : n ≤ 1048577 := by rw [← hn]; exact words_max s hs
  have hn1 : 1 ≤ n := by rw [← hn]; exact words_pos s
  have hO : opS (kindB x0) r = ⟨kindB x0, 0, ByteArray.empty, 0, zMg⟩ := by
    unfold opS
    rw [if_neg (fun h => hK1 h.1), if_neg (fun h => hK2 h.1), if_neg (fun h => hK h.1)]
  have HY := hide (fun h => roS_yes hx (r := r) h)
  have HZ := hide (fun h => roS_no hx (r := r) h)
  have HU := hide (fun h => roS_un (s := s) h)
  rw [hO] at HY HZ
  have HOT : Hid (∀ w1 : World, Calls Tryz.prog 20 #[.agg #[.int .i64 (kindB x0), .int .i64 0, .string ⟨#[]⟩, .int .i64 0, .int .i64 0, .int .i64 0, .int .i64 0, .int .i64 0, .int .i64 0, .string ⟨#[]⟩, .int .i64 0]] w1 fun e w' => e = .returned (.string (opTx ⟨kindB x0, 0, ByteArray.empty, 0, zMg⟩)) ∧ Below w1.heap.size w1 w') := fun w1 => specOpText ⟨kindB x0, 0, ByteArray.empty, 0, zMg⟩ w1 (by unfold maxLen; simp) (by unfold maxLen zMg; simp)
  have HX := hide (show (words s)[0]? = some x0 by rw [hx]; rfl)
  have HKA := hide (kws_at x0)
  have HY0 := hide (kUp_0 x0)
  have HY6 := hide (kUp_6 x0)
  have HYY := hide (fun k => kUp_yes (x := x0) (k := k))
  have HYN := hide (fun k => kUp_no (x := x0) (k := k))
  have hp : 0 < (words s).length := by omega
  have HHA := hide (show hasL [0, 3, 4] (kindB x0) = false by unfold hasL; simp; omega)
  clear hO hx hK
  generalize words s = xs at *
  go_enter Tryz.func5, Tryz.ntmps5
  go_wp2_with fail
  refine (unhide HW _).mono ?_
  rintro e w1 ⟨v1, rfl, how1, hb1⟩
  obtain ⟨g, cap, rfl, hg1, hg2, hc1⟩ := own_cells how1 hp
  rw [hn]
  have HN := hide hn
  clear how1 HW hn
  simp only [World.size_alloc] at hg1
  have HR1 := hide (blk_step (heap_alloc_new w _) hb1)
  have HB1 := hide ((below_one w _).trans (hb1.mono (by simp)))
  have HC1 := hide hc1
  clear hb1 hc1
  go_wp2_with fail
  obtain ⟨W0, hW0⟩ : ∃ W0, W0 = (w1.alloc (.cells #[.int .i64 (-1), .int .i64 0, .string ⟨#[]⟩, .int .i64 0, .int .i64 0, .int .i64 0, .int .i64 0, .int .i64 0, .int .i64 0, .string ⟨#[]⟩, .int .i64 0] 25)).alloc (.cells (kws.map Value.string).toArray 9) := ⟨_, rfl⟩
  have HI : Hid (RoL w g w1.heap.size xs #[.int .i64 (kUp x0 0), .int .i64 0, .string ⟨#[]⟩, .int .i64 0, .int .i64 0, .int .i64 0, .int .i64 0, .int .i64 0, .int .i64 0, .string ⟨#[]⟩, .int .i64 0] W0 ∧ (∀ j (hj : j < kws.length), W0.cell? ⟨w1.heap.size + 1, j, none⟩ = some (.string kws[j])) ∧ w1.heap.size + 1 < W0.heap.size) := by
    rw [hW0, unhide HY0]
    have a2 := allocsE2 w1 (.cells #[.int .i64 (-1), .int .i64 0, .string ⟨#[]⟩, .int .i64 0, .int .i64 0, .int .i64 0, .int .i64 0, .int .i64 0, .int .i64 0, .string ⟨#[]⟩, .int .i64 0] 25) (.cells (kws.map Value.string).toArray 9)
    refine ⟨⟨(unhide HB1).trans (a2.2.2.mono (unhide HB1).size), blk_step (unhide HR1) a2.2.2, fun i hi => (a2.2.2.cell (p := ⟨g, i, none⟩) hg2).trans (unhide HC1 i hi), a2.1, by omega, hg2⟩, fun j hj => ?_, by simp⟩
    have h := cell_of_row _ _ j _ _ _ a2.2.1
    rw [h]
    simp [hj]
  clear HR1 HB1 HC1
  have hW1 : (w1.alloc (.cells #[.int .i64 (-1), .int .i64 0, .string ⟨#[]⟩, .int .i64 0, .int .i64 0, .int .i64 0, .int .i64 0, .int .i64 0, .int .i64 0, .string ⟨#[]⟩, .int .i64 0] 25)).alloc (.cells #[.string ⟨#[109, 105, 110, 116]⟩, .string ⟨#[97, 100, 109, 105, 116]⟩, .string ⟨#[114, 101, 108, 101, 97, 115, 101]⟩, .string ⟨#[119, 97, 110, 116]⟩, .string ⟨#[98, 97, 99, 107]⟩, .string ⟨#[116, 105, 99, 107]⟩] 9) = W0 := by rw [hW0]; rfl
  rw [hW1]
  clear hW0 hW1
  generalize w1.heap.size = q at *
  go_loopw [7] (fun i wr => ∃ k : Nat, k ≤ 6 ∧ i = .int .i64 k ∧ RoL w g q xs #[.int .i64 (kUp x0 k), .int .i64 0, .string ⟨#[]⟩, .int .i64 0, .int .i64 0, .int .i64 0, .int .i64 0, .int .i64 0, .int .i64 0, .string ⟨#[]⟩, .int .i64 0] wr ∧ (∀ j (hj : j < kws.length), wr.cell? ⟨q + 1, j, none⟩ = some (.string kws[j])) ∧ q + 1 < wr.heap.size) (fun i _ => 6 - (intOf i).toNat)
  case atStart => exact ⟨0, by omega, rfl, (unhide HI).1, (unhide HI).2.1, (unhide HI).2.2⟩
  case round =>
    obtain ⟨k, hk, rfl, hL, hlit, hsz⟩ := hrel
    have HL := hide hL
    have HLI := hide hlit
    clear hL hlit HI
    by_cases hlt : k < 6
    · have c1 := unhide HLI k hlt
      have c0 : wr.cell? ⟨g, 0, none⟩ = some (.string x0) := by
        obtain ⟨h0, h1⟩ := List.getElem?_eq_some_iff.1 (unhide HX)
        rw [(unhide HL).ws 0 h0, h1]
      have HKK := hide (unhide HKA k hlt)
      generalize kws[k] = y at *
      have hki : (0 : Int) ≤ (k : Int) := by omega
      have hk6 : (k : Int) < 6 := by omega
      by_cases he : y = x0
      · subst he
        have HEQ := hide ((unhide HKK).1 rfl)
        obtain ⟨⟨q0, g1⟩, f0, g2⟩ := eleven_at (unhide HL).op
        clear g1 g2
        go_upto_region 7 with fail
        go_quiet (fail)
        go_wp2_with fail
        go_roundw
        case rel =>
          refine ⟨k + 1, by omega, by go_num, ?_, fun j hj => ?_, by simpa using hsz⟩
          · rw [unhide HYY k (unhide HEQ)]
            exact ((unhide HL).drewN nq).put 0 _
          · exact (cell_otherS (by show q + 1 ≠ q; omega)).trans (unhide HLI j hj)
        case measure => simp [intOf]; omega
      · have hq := str_ne he
        have HNE := hide (fun h => he ((unhide HKK).2 h))
        clear he
        go_upto_region 7 with fail
        go_quiet (fail)
        go_wp2_with fail
        go_roundw
        case rel =>
          refine ⟨k + 1, by omega, by go_num, ?_, fun j hj => unhide HLI j hj, hsz⟩
          rw [unhide HYN k (unhide HNE)]
          exact (unhide HL).drewN nq
        case measure => simp [intOf]; omega
    · have hk6 : k = 6 := by omega
      subst hk6
      rw [unhide HY6] at HL
      clear HKA HY0 HY6 HYY HYN HLI hsz hk hlt
      generalize kindB x0 = K at *
      generalize opTx ⟨K, 0, ByteArray.empty, 0, zMg⟩ = TX at *
      have hgw := (unhide HL).gw
      have hgq := (unhide HL).gq
      have hqw := blk_lt (unhide HL).op
      obtain ⟨⟨q0, g1⟩, f0, g2⟩ := eleven_at (unhide HL).op
      clear g1 g2 f0
      have HHS := hide (fun (W : World) (hc : ∀ i (hi : i < [(0 : Int), 3, 4].length), W.cell? ⟨wr.heap.size, i, none⟩ = some (.int .i64 [(0 : Int), 3, 4][i])) => roHas wr.heap.size 3 [0, 3, 4] K W (by simp) hc)
      rw [unhide HHA] at HHS
      clear HHA
      have hnd : (1 : Int) ≤ (n : Int) := by omega
      have hne1 : g ≠ q := by omega
      have hne2 : q ≠ g := by omega
      have hne3 : ¬ g = q := hne1
      have hgr : g < wr.heap.size := by omega
      go_upto_region 18 with (go_at_call 26; refine (unhide HHS _ (ro_lit wr)).mono ?_; rintro e w' ⟨rfl, rfl⟩)
      refine wp_at (fun V hV => ?_)
      have HLL := hide (show RoL w g q xs #[.int .i64 K, .int .i64 0, .string ⟨#[]⟩, .int .i64 0, .int .i64 0, .int .i64 0, .int .i64 0, .int .i64 0, .int .i64 0, .string ⟨#[]⟩, .int .i64 0] V by rw [hV]; exact ((unhide HL).step (below_one _ _)))
      have HR := hide (unhide HLL).res
      have HM := hide (unhide HLL).op
      have HB := hide (unhide HLL).bel
      clear hV HLL HL q0 hgw hgq hqw hne1 hne2 hne3 hgr 
      clear hp HX 
      have hzR := blk_lt (unhide HR)
      obtain ⟨⟨d0, d1, d2, d3, d4, d5, d6, d7, d8, d9, d10⟩, f0, f1, f2, f3, f4, f5, f6, f7, f8, f9, f10⟩ := eleven_at (unhide HR)
      obtain ⟨⟨q0, q1, q2, q3, q4, q5, q6, q7, q8, q9, q10⟩, zz⟩ := eleven_at (unhide HM)
      clear zz
      by_cases hs0 : s.size = 0
      case' pos =>
        have hRes := hide (unhide HU hs0)
        have hse : s.toList.isEmpty = true := by rw [eq_empty s hs0, ByteArray.toList_eq]; rfl
        clear HU HY HZ HOT HM q0 q1 q2 q3 q4 q5 q6 q7 q8 q9 q10 hs0
        go_wp2_with fail
        refine bodyPost_atE (fun W' hW' => ?_)
        obtain ⟨⟨r0, r1, r2, r3, r4, r5, r6, r7, r8, r9, r10⟩, _⟩ := eleven_at (show W'.heap[w.heap.size]? = some (.cells #[.int .i64 0, .int .i64 0, .string ⟨#[]⟩, .int .i64 0, .int .i64 0, .int .i64 0, .int .i64 0, .int .i64 0, .int .i64 0, .string ⟨#[]⟩, .int .i64 0] 25 (0, 0)) by rw [hW']; exact eleven_set (unhide HR))
        have hbb : Below w.heap.size w W' := by rw [hW']; exact eleven_set_below (unhide HB) (Nat.le_refl _)
        exact bodyPost_ret (v := .tuple #[.agg #[.int .i64 0, .int .i64 0, .string ⟨#[]⟩, .int .i64 0, .int .i64 0, .int .i64 0, .int .i64 0, .int .i64 0, .int .i64 0, .string ⟨#[]⟩, .int .i64 0], .bool false]) (by simp [results, Tryz.results5, go_sem, r0, r1, r2, r3, r4, r5, r6, r7, r8, r9, r10]) rfl ⟨by rw [unhide hRes]; rfl, hbb⟩
      have hse := not_empty s (by omega)
      clear d0 d1 d2 d3 d4 d5 d6 d7 d8 d9 d10 f0 f1 f2 f3 f4 f5 f6 f7 f8 f9 f10
      go_wp2_with fail
      refine (unhide HOT _).mono ?_
      rintro e w7 ⟨rfl, hb7⟩
      have HR7 := hide (blk_step (unhide HR) hb7)
      have HM7 := hide (blk_step (unhide HM) hb7)
      have HB7 := hide ((unhide HB).trans (hb7.mono (unhide HB).size))
      clear hb7 HR HM HB q0 q1 q2 q3 q4 q5 q6 q7 q8 q9 q10 HOT hzR
      have HR := HR7
      have HB := HB7
      clear HR7 HB7
      have hzR := blk_lt (unhide HR)
      have hzM := blk_lt (unhide HM7)
      obtain ⟨⟨d0, d1, d2, d3, d4, d5, d6, d7, d8, d9, d10⟩, f0, f1, f2, f3, f4, f5, f6, f7, f8, f9, f10⟩ := eleven_at (unhide HR)
      by_cases hp : TX = s
      case' neg =>
        have hRes := hide (unhide HZ hp)
        have hq := str_ne hp
        clear HU HY HZ HM7 hp hs0
        go_wp2_with fail
        refine bodyPost_atE (fun W' hW' => ?_)
        obtain ⟨⟨r0, r1, r2, r3, r4, r5, r6, r7, r8, r9, r10⟩, _⟩ := eleven_at (show W'.heap[w.heap.size]? = some (.cells #[.int .i64 0, .int .i64 0, .string ⟨#[]⟩, .int .i64 0, .int .i64 0, .int .i64 0, .int .i64 0, .int .i64 0, .int .i64 0, .string ⟨#[]⟩, .int .i64 0] 25 (0, 0)) by rw [hW']; exact eleven_set (unhide HR))
        have hbb : Below w.heap.size w W' := by rw [hW']; exact eleven_set_below (unhide HB) (Nat.le_refl _)
        exact bodyPost_ret (v := .tuple #[.agg #[.int .i64 0, .int .i64 0, .string ⟨#[]⟩, .int .i64 0, .int .i64 0, .int .i64 0, .int .i64 0, .int .i64 0, .int .i64 0, .string ⟨#[]⟩, .int .i64 0], .bool false]) (by simp [results, Tryz.results5, go_sem, r0, r1, r2, r3, r4, r5, r6, r7, r8, r9, r10]) rfl ⟨by rw [unhide hRes]; rfl, hbb⟩
      have hRes := hide (unhide HY ⟨hs0, hp⟩)
      have hq : (TX.toList == s.toList) = true := by rw [hp]; simp
      obtain ⟨⟨q0, q1, q2, q3, q4, q5, q6, q7, q8, q9, q10⟩, zz⟩ := eleven_at (unhide HM7)
      clear HU HY HZ hp hs0 zz
      go_wp2_with fail
      refine bodyPost_atE (fun W' hW' => ?_)
      obtain ⟨⟨r0, r1, r2, r3, r4, r5, r6, r7, r8, r9, r10⟩, _⟩ := eleven_at (show W'.heap[w.heap.size]? = some (.cells #[.int .i64 K, .int .i64 0, .string ⟨#[]⟩, .int .i64 0, .int .i64 0, .int .i64 0, .int .i64 0, .int .i64 0, .int .i64 0, .string ⟨#[]⟩, .int .i64 0] 25 (0, 0)) by rw [hW']; exact eleven_set (unhide HR))
      have hbb : Below w.heap.size w W' := by rw [hW']; exact eleven_set_below (unhide HB) (Nat.le_refl _)
      exact bodyPost_ret (v := .tuple #[.agg #[.int .i64 K, .int .i64 0, .string ⟨#[]⟩, .int .i64 0, .int .i64 0, .int .i64 0, .int .i64 0, .int .i64 0, .int .i64 0, .string ⟨#[]⟩, .int .i64 0], .bool true]) (by simp [results, Tryz.results5, go_sem, r0, r1, r2, r3, r4, r5, r6, r7, r8, r9, r10]) rfl ⟨by rw [unhide hRes]; rfl, hbb⟩
theorem specReadOp (s : ByteArray) (w : World) (hs : s.size ≤ 1048576) :
    Calls Tryz.prog 5 #[.string s] w fun e w' => e = .returned (.tuple #[opw (roS s).1, .bool (roS s).2]) ∧ Below w.heap.size w w' := by
  have hp := words_pos s
  match hx : words s with
  | [] => rw [hx] at hp; simp at hp
  | x0 :: r =>
    by_cases h1 : kindB x0 = 1
    · by_cases hr : r.length = 3
      · match r, hr, hx with
        | [a, b, c], _, hx => exact specReadOp_a1 s x0 a b c w hs hx h1
      · exact specReadOp_a2 s x0 r w hs hx h1 hr
    by_cases h2 : kindB x0 = 2
    · by_cases hr : r.length = 1
      · match r, hr, hx with
        | [a], _, hx => exact specReadOp_b1 s x0 a w hs hx h2
      · exact specReadOp_b2 s x0 r w hs hx h2 hr
    by_cases hh : kindB x0 = 0 ∨ kindB x0 = 3 ∨ kindB x0 = 4
    · by_cases hr : r.length = 2
      · match r, hr, hx with
        | [a, b], _, hx => exact specReadOp_c1 s x0 a b w hs hx h1 h2 hh
      · exact specReadOp_c2 s x0 r w hs hx h1 h2 hh hr
    · exact specReadOp_d s x0 r w hs hx h1 h2 hh
end Go.Proofs.YtikdkijggejnfaaGreatDoor
