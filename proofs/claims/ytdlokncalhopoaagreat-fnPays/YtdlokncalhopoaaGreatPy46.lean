/- Parts. -/
import Derived.Test.YtdlokncalhopoaaGreatPy21
import Derived.Test.YtdlokncalhopoaaGreatPy17
namespace Go.Proofs.YtdlokncalhopoaaGreat
open Go.RowKit
open Mth

/-- A list of few purses in rows of one's own, and whether. -/
def GivesF (w : World) (e : Ending) (w' : World) : Prop := ∃ v RL b, e = .returned (.tuple #[v, .bool b]) ∧ RL.length ≤ 1 ∧ (∀ p ∈ RL, p.k.size ≤ 20) ∧ w'.ownsRow w.heap.size 80 4 v RL.length (GR.flat encP RL) ∧ Below w.heap.size w w'
theorem step_append_zero {P : Program} (w : World) {ops : Array Oper} {o : Oper} {a : Act} {K : Act → World → Prop} {Q : Exit → Act → World → Prop} {E : Prop} (hgd : o.guard = none) (s x : Operand) (t : TypeId)
    (ho : o.op = .call { callee := .builtin .append, args := #[s, x], argTypes := #[t, t] })
    (base : Nat) (e : TypeId) (i : TypeInfo) (size : Nat) (ht : P.underlying t = some (.slice e)) (hi : P.info? e = some i)
    (v : Value) (n : Nat) (xs : List Value) (hs : a.eval s = v) (hown : w.ownsRow base e size v n xs)
    (ad : Option Addr) (c : Nat) (hx : a.eval x = .slice ad 0 c) (h : K (a.put o.dst v) w) :
    if Region.wanted o (yielded ops a.tmps) = true then Oper.wp P o a w K Q else E := by
  have hw : Region.wanted o (yielded ops a.tmps) = true := by simp [Region.wanted, hgd]
  rw [if_pos hw]
  exact Lib.wp_append_run w s x t t ho v _ hs hx v w (run_append_zero w base t o.type e i size ht hi v n xs hown ad c) h

set_option maxRecDepth 100000 in
set_option maxHeartbeats 4000000 in
theorem l03With_nil (p : Pu) (n : Int) (w : World) (hpk : p.k.size ≤ 20) (hn : 1 ≤ n ∧ n ≤ 1000000000) :
    Calls Tryz.prog 62 #[.slice none 0 0, puv p, .int .i64 n] w (GivesF w) := by
  unfold GivesF
  have HOK := hide (fun w1 => specPursesOk none 0 [] w1 (by simp) (fun _ h => by cases h) (GR.at_nil _ _))
  have hn2 : decide (Inn n 1 1000000000) = true := decide_eq_true hn
  have hok : psOk [] = true := rfl
  clear hn
  obtain ⟨pk, pm, pf, ps⟩ := p
  dsimp only at hpk
  go_enter Tryz.func62, Tryz.ntmps62
  go_wp2_with fail
  refine (unhide HOK _).mono ?_
  rintro e w1 ⟨rfl, hb1⟩
  have HP1 := hide (show w1.heap[w.heap.size]? = some (.cells #[.string pk, .int .i64 pm, .int .i64 pf, .int .i64 ps] 80 (0, 0)) by rw [hb1.block w.heap.size (by simp)]; exact heap_alloc_new w _)
  have HB1 := hide ((below_one' w _).trans (hb1.mono (below_one' w _).size))
  clear hb1
  rw [hok]
  clear hok
  go_wp2_with fail
  refine (l01InB _ _ _ _).mono ?_
  rintro e w3 ⟨rfl, rfl⟩
  rw [hn2]
  have hp0 : w1.cell? ⟨w.heap.size, 0, none⟩ = some (.string pk) := by rw [cell_of_row w1 _ _ _ _ (0, 0) (unhide HP1)]; rfl
  go_upto_block 0 with fail
  go_cut [8] (fun i wx => i = .int .i64 0 ∧ ∃ q, wx = w1.drewN q)
  case first =>
    go_wp2_with fail
    go_loopw [8] (fun i wr => ∃ q : Nat, i = .int .i64 0 ∧ wr = w1.drewN q) (fun _ _ => 0)
    case atStart => exact ⟨0, rfl, rfl⟩
    case round =>
      obtain ⟨q, rfl, rfl⟩ := hrel
      go_wp2_with fail
      go_quiet (fail)
      go_wp2_with fail
      go_meet
      case rel => exact ⟨rfl, _, drewN_two w1 _ _⟩
  case rest =>
    obtain ⟨rfl, q, rfl⟩ := hcut
    go_upto_region 7 with fail
    go_cut [51] (fun r wx => r = .bool false ∧ ∃ q, wx = w1.drewN q)
    case first =>
      go_quiet (fail)
      go_wp2_with fail
      go_meet
      case rel => exact ⟨rfl, _, drewN_two w1 _ _⟩
    case rest =>
      obtain ⟨rfl, q2, rfl⟩ := hcut
      obtain ⟨i0, hi, hz0, hz1, hz2⟩ := info_parts infoPu
      go_upto_region 9 with fail
      refine Fo.wp_at (fun V hV => ?_)
      have hVs : w.heap.size < V.heap.size := by rw [hV]; exact Fo.lt_of_blk (unhide HP1)
      have HBV := hide (show Below w.heap.size w V by rw [hV]; exact (unhide HB1).trans ⟨rfl, rfl, rfl, Nat.le_refl _, fun _ _ => rfl⟩)
      have hblk : V.heap[w.heap.size]? = some (.cells #[.string pk, .int .i64 pm, .int .i64 pf, .int .i64 ps] 80 (0, 0)) := by rw [hV]; exact unhide HP1
      obtain ⟨⟨c0, c1, c2, c3⟩, _⟩ := four_at hblk
      have HC0 := hide (fun X (hb : Below V.heap.size V X) => l03Copy none 0 [] X (by simp) (fun _ => ⟨rfl, rfl⟩) (GR.at_nil _ _))
      have HCA := hide (fun X => l03Copy none 0 [] X (by simp) (fun _ => ⟨rfl, rfl⟩) (GR.at_nil _ _))
      have hnw : w.heap.size ≠ V.heap.size := by omega
      have hmw : V.heap.size ≠ w.heap.size := by omega
      clear hV hblk hp0 HOK HP1
      go_region_held_law (fun w' => w'.cell? ⟨w.heap.size, 0, none⟩ = some (.string pk) ∧ w'.cell? ⟨w.heap.size, 1, none⟩ = some (.int .i64 pm) ∧ w'.cell? ⟨w.heap.size, 2, none⟩ = some (.int .i64 pf) ∧ w'.cell? ⟨w.heap.size, 3, none⟩ = some (.int .i64 ps)) (go_keep)
          (first
            | ((go_at_call 64); (refine (unhide HC0 _ (by exact ⟨rfl, rfl, rfl, by simp, fun k hk => by first | rfl | exact Below.heap_alloc _ _ _ hk⟩)).mono ?_); (rintro e w4 ⟨vc, rfl, hv4, hown4, hb4⟩); (have hs4 := hb4.size); (try simp at hs4); (have HB4 := hide (show Below V.heap.size V w4 from Below.trans (b := _) (by exact ⟨rfl, rfl, rfl, by simp, fun k hk => by first | rfl | exact Below.heap_alloc _ _ _ hk⟩) (hb4.mono (by simp)))); (have HO4 := hide (own_lower (b' := V.heap.size) hown4 (by simp))); (first | (guard_hyp hs4 : V.heap.size + 1 ≤ w4.heap.size; have HN4 := hide (Fo.one_block (show Below (V.alloc (.cells #[.string pk, .int .i64 pm, .int .i64 pf, .int .i64 ps] 80)).heap.size (V.alloc (.cells #[.string pk, .int .i64 pm, .int .i64 pf, .int .i64 ps] 80)) w4 from ⟨hb4.os, hb4.tape, hb4.output, hb4.size, hb4.block⟩)).1) | skip); (have d0 := ((unhide HB4).cell (p := ⟨w.heap.size, 0, none⟩) hVs).trans c0); (have d1 := ((unhide HB4).cell (p := ⟨w.heap.size, 1, none⟩) hVs).trans c1); (have d2 := ((unhide HB4).cell (p := ⟨w.heap.size, 2, none⟩) hVs).trans c2); (have d3 := ((unhide HB4).cell (p := ⟨w.heap.size, 3, none⟩) hVs).trans c3); (have hn4 : w.heap.size ≠ w4.heap.size := by omega); (have hm4 : w4.heap.size ≠ w.heap.size := by omega); (clear hb4 hown4 hv4))
            | ((guard_hyp hs4 : V.heap.size + 1 ≤ w4.heap.size); (refine step_append_own _ rfl (.tmp 57) (.tmp 59) 25 rfl V.heap.size 80 i0 (.agg #[.string ByteArray.empty, .int .i64 0, .int .i64 0, .int .i64 0]) 4 40 Tryz.underlying25 hi hz0 hz1 hz2 rfl (by decide) vc 0 [] (by simp [Act.eval]) (unhide HO4) ⟨V.heap.size, 0, none⟩ 1 1 (encP ⟨pk, pm, pf, ps⟩) (by simp [Act.eval]) rfl (World.news_of_block (unhide HN4)) (encP_one1 ⟨pk, pm, pf, ps⟩) (by unfold maxLen; omega) (by omega) (unhide HB4).size ?_); (intro v5 w5 hown5 hgr5 hnil5); (have HO5 := hide hown5); (have HV5 := hide (show v5 ≠ .slice none 0 0 by first | exact hnil5 | exact fun h => absurd (hnil5.1 h).2 (by decide))); (have HB5 := hide (show Below V.heap.size V w5 from (unhide HB4).trans (grown_below' hgr5 (fun k e => ((unhide HO4).lt k e).1) (unhide HB4).size))); (have e0 := ((unhide HB5).cell (p := ⟨w.heap.size, 0, none⟩) hVs).trans c0); (have e1 := ((unhide HB5).cell (p := ⟨w.heap.size, 1, none⟩) hVs).trans c1); (have e2 := ((unhide HB5).cell (p := ⟨w.heap.size, 2, none⟩) hVs).trans c2); (have e3 := ((unhide HB5).cell (p := ⟨w.heap.size, 3, none⟩) hVs).trans c3); (clear hown5 hgr5 hnil5))
            | ((guard_hyp hs4 : V.heap.size ≤ w4.heap.size); (refine step_append_own _ rfl (.tmp 57) (.tmp 59) 25 rfl V.heap.size 80 i0 (.agg #[.string ByteArray.empty, .int .i64 0, .int .i64 0, .int .i64 0]) 4 40 Tryz.underlying25 hi hz0 hz1 hz2 rfl (by decide) vc 0 [] (by simp [Act.eval]) ((unhide HO4).alloc _) ⟨w4.heap.size, 0, none⟩ 1 1 (encP ⟨pk, pm, pf, ps⟩) (by simp [Act.eval]) rfl (World.news_of_block (heap_alloc_new w4 _)) (encP_one1 ⟨pk, pm, pf, ps⟩) (by unfold maxLen; omega) (by omega) (Nat.le_trans (unhide HB4).size (by simp)) ?_); (intro v5 w5 hown5 hgr5 hnil5); (have HO5 := hide hown5); (have HV5 := hide (show v5 ≠ .slice none 0 0 by first | exact hnil5 | exact fun h => absurd (hnil5.1 h).2 (by decide))); (have HB5 := hide (show Below V.heap.size V w5 from ((unhide HB4).alloc (unhide HB4).size _).trans (grown_below' hgr5 (fun k e => ((unhide HO4).lt k e).1) (Nat.le_trans (unhide HB4).size (by simp))))); (have e0 := ((unhide HB5).cell (p := ⟨w.heap.size, 0, none⟩) hVs).trans c0); (have e1 := ((unhide HB5).cell (p := ⟨w.heap.size, 1, none⟩) hVs).trans c1); (have e2 := ((unhide HB5).cell (p := ⟨w.heap.size, 2, none⟩) hVs).trans c2); (have e3 := ((unhide HB5).cell (p := ⟨w.heap.size, 3, none⟩) hVs).trans c3); (clear hown5 hgr5 hnil5))
            | ((refine step_append_zero _ rfl (.tmp 60) (.tmp 61) 25 rfl V.heap.size 80 i0 4 Tryz.underlying25 hi v5 (0 + 1) ([] ++ encP ⟨pk, pm, pf, ps⟩) (by simp [Act.eval, Act.put]) (unhide HO5) none 0 (by simp [Act.eval, Act.put]) ?_); (have hown6 : w5.ownsRow V.heap.size 80 4 v5 [(⟨pk, pm, pf, ps⟩ : Pu)].length (GR.flat encP [(⟨pk, pm, pf, ps⟩ : Pu)]) := (by rw [GR.flat_one]; exact unhide HO5)); (obtain ⟨a6, cap6, rfl, hat6⟩ := GR.own_at encP_length hown6); (have HO6 := hide hown6); (have HT6 := hide hat6); (clear hown6 hat6))
            | fail)
      all_goals
        have HBW6 := hide ((unhide HBV).trans ((unhide HB5).mono (by omega)))
        have HSO := hide (specPursesOk a6 cap6 [(⟨pk, pm, pf, ps⟩ : Pu)] w5 (by simp) (fun q hq => by rw [List.mem_singleton] at hq; subst hq; show pk.size ≤ maxLen; unfold maxLen; omega) (unhide HT6))
        clear d0 d1 d2 d3 e0 e1 e2 e3 c0 c1 c2 c3 HC0
        go_wp2_with fail
        refine (unhide HSO).mono ?_
        rintro e w7 ⟨rfl, hb7⟩
        have HB7 := hide ((unhide HBW6).trans (hb7.mono (unhide HBW6).size))
        have HO7 := hide (own_lower (b' := w.heap.size) ((unhide HO6).kept (row := none) ⟨hb7.os, hb7.tape, hb7.output, hb7.size, fun k hk _ => hb7.block k hk⟩ (own_none _)) (by omega))
        clear hb7 HSO
        cases hps : psOk [(⟨pk, pm, pf, ps⟩ : Pu)]
        · have HCX := hide (unhide HCA w7)
          clear hps HCA
          go_wp2_with fail
          refine (unhide HCX).mono ?_
          rintro e w8 ⟨v8, rfl, hv8, hown8, hb8⟩
          have HO8 := hide (own_lower (b' := w.heap.size) hown8 (unhide HB7).size)
          have HB8 := hide ((unhide HB7).trans (hb8.mono (unhide HB7).size))
          clear hown8 hb8 hv8
          go_wp2_with fail
          exact bodyPost_ret (v := .tuple #[v8, .bool false]) (by simp [results, Tryz.results62, go_sem]) rfl ⟨v8, [], false, rfl, by simp, (fun _ h => by cases h), unhide HO8, unhide HB8⟩
        · clear hps HCA
          go_wp2_with fail
          exact bodyPost_ret (v := .tuple #[.slice a6 1 cap6, .bool true]) (by simp [results, Tryz.results62, go_sem]) rfl ⟨_, [(⟨pk, pm, pf, ps⟩ : Pu)], true, rfl, by simp, (fun q hq => by rw [List.mem_singleton] at hq; subst hq; exact hpk), unhide HO7, unhide HB7⟩

set_option maxRecDepth 100000 in
set_option maxHeartbeats 4000000 in
theorem l03Add_nil (key : ByteArray) (df n : Int) (w : World) (hkey : key.size ≤ 20) (hd2 : df = 1) (hn : 1 ≤ n ∧ n ≤ 30) :
    Calls Tryz.prog 43 #[.slice none 0 0, .string key, .int .i64 0, .int .i64 df, .int .i64 0, .int .i64 n] w (GivesF w) := by
  subst hd2
  obtain ⟨hn1, hn2⟩ := hn
  have HPO := hide (specPurseOf none 0 [] key w (by simp) (GR.at_nil _ _))
  have HWI := hide (fun w1 => l03With_nil ⟨key, 0, n, 0⟩ n w1 hkey ⟨hn1, by omega⟩)
  have hAm : decide (Inn n 0 1000000000) = true := decide_eq_true ⟨by omega, by omega⟩
  rw [show purseOf [] key = ⟨key, 0, 0, 0⟩ from rfl] at HPO
  unfold GivesF at *
  go_enter Tryz.func43, Tryz.ntmps43
  go_wp2_with fail
  refine (unhide HPO).mono ?_
  rintro e w1 ⟨rfl, hb1⟩
  have HB1 := hide hb1
  clear hb1 HPO
  have z1 : (0 : Int) * n = 0 := Int.zero_mul n
  have z2 : (1 : Int) * n = n := Int.one_mul n
  have z3 : (0 : Int) + n = n := Int.zero_add n
  go_wp2_with (go_at_call 20; refine (l01Amount _ _).mono ?_; rintro e w2 ⟨rfl, rfl⟩; rw [hAm])
  first
    | refine (unhide HWI _).mono ?_
    | (simp only [z1, z2, z3, Int.add_zero]; refine (unhide HWI _).mono ?_)
  rintro e w3 ⟨v, RL, b, rfl, hl, hks, hown, hb3⟩
  have HB3 := hide (((unhide HB1).alloc (unhide HB1).size _).trans (hb3.mono (by have := (unhide HB1).size; simp; omega)))
  have HO3 := hide (own_lower (b' := w.heap.size) hown (by have := (unhide HB1).size; simp; omega))
  have HV := hide hks
  clear hb3 hown hks
  go_wp2_with fail
  exact bodyPost_ret (v := .tuple #[v, .bool b]) (by simp [results, Tryz.results43, go_sem]) rfl ⟨v, RL, b, rfl, hl, unhide HV, unhide HO3, unhide HB3⟩

set_option maxRecDepth 100000 in
theorem specGain_nil (key : ByteArray) (n : Int) (w : World) (hkey : key.size ≤ 20) (hn : 1 ≤ n ∧ n ≤ 30) :
    Calls Tryz.prog 27 #[.slice none 0 0, .string key, .int .i64 n] w (GivesF w) := by
  have H := hide (l03Add_nil key 1 n w hkey rfl hn)
  unfold GivesF at *
  go_enter Tryz.func27, Tryz.ntmps27
  go_wp2_with fail
  refine (unhide H).mono ?_
  rintro e w1 ⟨v, RL, b, rfl, hl, hks, hown, hb⟩
  have HV := hide hks
  have HO := hide hown
  have HB := hide hb
  clear hown hb hks
  go_wp2_with fail
  exact bodyPost_ret (v := .tuple #[v, .bool b]) (by simp [results, Tryz.results27, go_sem]) rfl ⟨v, RL, b, rfl, hl, unhide HV, unhide HO, unhide HB⟩
end Go.Proofs.YtdlokncalhopoaaGreat
