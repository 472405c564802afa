/- Parts. -/
import Derived.Test.YtbanjohfcnadfaaGreatDoorPw14
import Derived.Test.YtbanjohfcnadfaaGreatDoorPw4
import Derived.Test.YtbanjohfcnadfaaGreatDoorPw2
namespace Go.Proofs.YtbanjohfcnadfaaGreatDoor
open Go.RowKit Go.Maps
open Mth

set_option maxRecDepth 100000 in
set_option maxHeartbeats 1000000 in
theorem clonePurses (a : Option Addr) (cap : Nat) (l : List Pu) (w : World) (hl : l.length ≤ 1048600) (ha : PursesAt w a l) :
    Calls Tryz.prog 120 #[.slice a l.length cap] w fun e w' => ∃ v, e = .returned v ∧ w'.ownsRow w.heap.size 128 4 v l.length (GR.flat encP l) ∧ Below w.heap.size w w' := by
  obtain ⟨i0, hi, hz0, hz1, hz2⟩ := info_parts infoPu
  have q22 : ∀ (w : World) (a : Option Addr) (n c n' c' : Nat), (binOp .eql 45 (.slice a n c) (.slice none n' c')).run Tryz.prog w = .ok (.bool a.isNone) w := fun w a n c n' c' => Lib.run_eql_slice_nil w _ _ a n c n' c' Tryz.underlying45
  have hlit : (w.alloc (.cells #[] 128)).ownsRow w.heap.size 128 4 (.slice (some ⟨w.heap.size, 0, none⟩) 0 0) 0 [] := World.ownsRow_lit (base := w.heap.size) (e := 128) (size := 4) w #[] 0 (Nat.le_refl _) (by decide) rfl
  cases a with
  | none =>
    have hl0 : l = [] := GR.none_nil ha
    subst hl0
    clear ha hlit
    go_enter Tryz.func120, Tryz.ntmps120
    go_wp2_with fail
    go_ret
    exact ⟨_, rfl, World.ownsRow_nil _ _ _ _, Below.refl _ _⟩
  | some x =>
    have HN := hide (PursesAt.news (GR.At.below ha (below_one' w (.cells #[] 128))))
    clear ha
    go_enter Tryz.func120, Tryz.ntmps120
    go_wp2_with (at_builtin; refine wpList_append_own _ rfl _ _ 45 rfl w.heap.size 128 i0 (.agg #[.string ByteArray.empty, .int .i64 0, .int .i64 0, .int .i64 0]) 4 40 Tryz.underlying45 hi hz0 hz1 hz2 rfl (by decide) _ 0 [] rfl hlit x l.length cap (GR.flat encP l) rfl ?c0 ?c1 ?c2 ?c3 ?c4 ?c5 ?_)
    case c0 => exact GR.flat_length encP 4 encP_length l
    case c1 => exact unhide HN
    case c2 => exact encP_one l
    case c3 => unfold maxLen; omega
    case c4 => omega
    case c5 => simp
    intro v' w1 hown' hgrow _
    have HO := hide (show w1.ownsRow w.heap.size 128 4 v' l.length (GR.flat encP l) by simpa using hown')
    have hb : Below w.heap.size w w1 := (below_one' w _).grown hgrow (by simp) (fun k hk => by cases hk; exact Nat.le_refl _)
    clear hown' hgrow hlit
    go_wp2
    go_ret
    exact ⟨_, rfl, unhide HO, hb⟩
/-- A row of the call's own, as it may be written. -/
theorem PuW.of_own {w : World} {B : Nat} {v : Value} {l : List Pu} (h : w.ownsRow B 128 4 v l.length (GR.flat encP l)) (hB : B ≤ w.heap.size) : ∃ a c g, v = .slice a l.length c ∧ B ≤ g ∧ PuW w a g l := by
  obtain ⟨a, c, rfl, hat⟩ := GR.own_at encP_length h
  rcases h.2 with ⟨hv, hn⟩ | ⟨g, cap, cur, hv, hg, hblk, _⟩
  · have hl : l = [] := List.eq_nil_of_length_eq_zero hn
    subst hl
    exact ⟨_, _, w.heap.size, rfl, hB, PuW.nil⟩
  · cases hv
    refine ⟨_, _, g, rfl, hg, fun i hi => ?_⟩
    obtain ⟨g', off', e, hg', hc⟩ := hat i hi
    cases e
    refine ⟨rfl, hg', fun j hj => ⟨?_, ?_⟩⟩
    · have := hc j hj
      rwa [Nat.zero_add] at this
    · unfold World.frozen?; rw [hblk]; simp
set_option maxRecDepth 100000 in
set_option maxHeartbeats 2000000 in
theorem implCopy (a : Option Addr) (cap : Nat) (l : List Pu) (w : World) (hl : l.length ≤ 1048576) (hks : ∀ p ∈ l, p.k.size ≤ 1048576) (ha : PursesAt w a l) :
    Calls Tryz.prog 95 #[.slice a l.length cap] w fun e w' => ∃ a' c' g, w.heap.size ≤ g ∧ e = .returned (.slice a' l.length c') ∧ PuW w' a' g l ∧ Below w.heap.size w w' := by
  have HCL := hide (clonePurses a cap l w (by omega) ha)
  have HKS := hide hks
  clear ha hks
  go_enter Tryz.func95, Tryz.ntmps95
  go_wp2_with fail
  refine (unhide HCL).mono ?_
  rintro e w1 ⟨v, rfl, hown, hb1⟩
  obtain ⟨a', c', g, rfl, hg, hW⟩ := PuW.of_own hown hb1.size
  have HW := hide hW
  have HB1 := hide hb1
  clear hown hb1 hW HCL
  go_wp2_with fail
  go_loopw [10] (fun i wr => ∃ k : Nat, k ≤ l.length ∧ i = .int .i64 k ∧ PuW wr a' g l ∧ Below w.heap.size w wr) (fun i _ => l.length - (intOf i).toNat)
  case atStart => exact ⟨0, Nat.zero_le _, rfl, unhide HW, unhide HB1⟩
  case round =>
    obtain ⟨k, hk, rfl, hB, hbel⟩ := hrel
    have HB := hide hB
    have HBL := hide hbel
    clear hB hbel
    by_cases hlt : k < l.length
    · obtain ⟨e0, hgw, ⟨q0, q1, q2, q3⟩, _⟩ := PuW.four (unhide HB) k hlt
      subst e0
      have hkk := unhide HKS l[k] (List.getElem_mem hlt)
      have hse : l.set k l[k] = l := List.set_getElem_self hlt
      have HSE := hide hse
      clear hse
      generalize l[k] = pu at *
      have HOK := hide (fun w1 => implOwnKey pu w1 hkk)
      clear hkk
      obtain ⟨pk, pm, pf, ps⟩ := pu
      dsimp only at q0 q1 q2 q3
      go_wp2_with fail
      refine (unhide HOK _).mono ?_
      rintro e w5 ⟨rfl, hb5⟩
      obtain ⟨_, _, hb6⟩ := Fo.one_block hb5
      have HB5 := hide (PuW.below (unhide HB) hb6)
      have HBL5 := hide ((unhide HBL).trans (hb6.mono (unhide HBL).size))
      clear hb5 hb6 q0 q1 q2 q3
      obtain ⟨_, hgw5, ⟨s0, s1, s2, s3⟩, f0, f1, f2, f3⟩ := PuW.four (unhide HB5) k hlt
      go_wp2_with fail
      go_roundw
      case rel =>
        have h := PuW.set (unhide HB5) k ⟨pk, pm, pf, ps⟩ hlt
        rw [unhide HSE] at h
        exact ⟨k + 1, by omega, by go_num, h, GR.setW_below (o := k * 4) hg (encP ⟨pk, pm, pf, ps⟩) (unhide HBL5)⟩
      case measure => simp [intOf]; omega
    · have hke : k = l.length := by omega
      subst hke
      have hnlt : decide ((l.length : Int) < (l.length : Int)) = false := by simp
      go_wp2_with fail
      go_ret
      exact ⟨a', c', g, hg, rfl, unhide HB, unhide HBL⟩

open Go.RowKit

theorem newsG {α : Type} {enc : α → List Value} {sz : Nat} (hs : ∀ x, (enc x).length = sz) (hz : 0 < sz) {w : World} {x : Addr} {l : List α} (h : GR.At enc sz w (some x) l) : ∀ j u, (GR.flat enc l)[j]? = some u → w.cell? (x.add j) = some u := by
  intro j u hu
  have hj : j < l.length * sz := by
    have := (List.getElem?_eq_some_iff.1 hu).1
    rwa [GR.flat_length enc sz hs] at this
  have hi : j / sz < l.length := Nat.div_lt_of_lt_mul (by rw [Nat.mul_comm]; exact hj)
  have hr : j % sz < sz := Nat.mod_lt _ hz
  have ej : j / sz * sz + j % sz = j := by rw [Nat.mul_comm]; exact Nat.div_add_mod j sz
  obtain ⟨g, off, e, hg, hc⟩ := h (j / sz) hi
  have hf := GR.flat_at enc sz hs l (j / sz) hi (j % sz) hr
  rw [ej] at hf
  have h2 := hc (j % sz) hr
  rw [ej, ← hf, hu] at h2
  injection e with e
  subst e
  rw [Addr.add_lit]
  exact h2
theorem flatSnt_one (l : List Snt) : ∀ u ∈ GR.flat encSnt l, u.oneCell' = true := by
  intro u hu
  unfold GR.flat at hu
  rw [List.mem_flatMap] at hu
  obtain ⟨p, _, hp⟩ := hu
  simp only [encSnt, List.mem_cons, List.not_mem_nil, or_false] at hp
  rcases hp with rfl | rfl | rfl | rfl <;> rfl
/-- A row of one's own that has something: its block. -/
theorem own_blk {α : Type} {enc : α → List Value} {sz : Nat} {w : World} {B : Nat} {t : TypeId} {a : Option Addr} {cp : Nat} {l : List α} (h : w.ownsRow B t sz (.slice a l.length cp) l.length (GR.flat enc l)) (hl : 0 < l.length) : ∃ g rest, a = some ⟨g, 0, none⟩ ∧ B ≤ g ∧ w.heap[g]? = some (.cells (GR.flat enc l ++ rest).toArray t (0, 0)) := by
  rcases h.2 with ⟨_, hy⟩ | ⟨g, cp', cur, hx, hbg, hgg, hnc, hcm, hcs, htk⟩
  · omega
  simp only [Value.slice.injEq] at hx
  obtain ⟨rfl, _, rfl⟩ := hx
  refine ⟨g, cur.toList.drop (l.length * sz), rfl, hbg, ?_⟩
  rw [← htk, List.take_append_drop, Array.toArray_toList]
  exact hgg
theorem own_cell {α : Type} {enc : α → List Value} {sz : Nat} (hs : ∀ x, (enc x).length = sz) {w : World} {g : Nat} {l : List α} {t : TypeId} {rest : List Value} (h : w.heap[g]? = some (.cells (GR.flat enc l ++ rest).toArray t (0, 0))) (i : Nat) (hi : i < l.length) (j : Nat) (hj : j < sz) : w.cell? ⟨g, i * sz + j, none⟩ = (enc l[i])[j]? := by
  have hlt : i * sz + j < (GR.flat enc l).length := by
    rw [GR.flat_length enc sz hs]
    have : (i + 1) * sz ≤ l.length * sz := Nat.mul_le_mul_right sz hi
    rw [Nat.add_mul, Nat.one_mul] at this
    omega
  rw [cell_of_row w g _ _ t (0, 0) h, List.getElem?_toArray, List.getElem?_append_left hlt]
  exact GR.flat_at enc sz hs l i hi j hj
/-- A cell that is written over by what it holds. -/
theorem below_same {w : World} {g i : Nat} {v : Value} {cs : Array Value} {t : TypeId} {fr : Nat × Nat} (h : w.heap[g]? = some (.cells cs t fr)) (hc : w.cell? ⟨g, i, none⟩ = some v) : Below w.heap.size w (w.setCell ⟨g, i, none⟩ v) := by
  refine ⟨rfl, rfl, rfl, by simp [World.setCell], fun k hk => ?_⟩
  by_cases e : k = g
  · subst e
    have h1 : w.cell? ⟨k, i, none⟩ = cs[i]? := cell_of_row w k i cs t fr h
    rw [hc] at h1
    unfold World.setCell
    simp only [Array.getElem?_modify]
    rw [if_pos trivial, h]
    have h2 : cs.setIfInBounds i v = cs := by
      apply Array.ext_getElem?
      intro q
      rw [Array.getElem?_setIfInBounds]
      split
      · rename_i e
        subst e
        split
        · exact h1
        · rw [Array.getElem?_eq_none (by omega)]
      · rfl
    simp [h2]
  · exact Below.heap_setCell _ _ _ _ e
set_option maxRecDepth 100000 in
set_option maxHeartbeats 1000000 in
theorem cloneSnt (a : Option Addr) (cap : Nat) (l : List Snt) (w : World) (hl : l.length ≤ 1048600) (hv : ∀ u ∈ GR.flat encSnt l, u.oneCell' = true) (ha : GR.At encSnt 4 w a l) :
    Calls Tryz.prog 96 #[.slice a l.length cap] w fun e w' => ∃ v, e = .returned v ∧ w'.ownsRow w.heap.size 105 4 v l.length (GR.flat encSnt l) ∧ Below w.heap.size w w' := by
  obtain ⟨i0, hi, hz0, hz1, hz2⟩ := info_parts infoSent
  have q22 : ∀ (w : World) (a : Option Addr) (n c n' c' : Nat), (binOp .eql 46 (.slice a n c) (.slice none n' c')).run Tryz.prog w = .ok (.bool a.isNone) w := fun w a n c n' c' => Lib.run_eql_slice_nil w _ _ a n c n' c' Tryz.underlying46
  have hlit : (w.alloc (.cells #[] 105)).ownsRow w.heap.size 105 4 (.slice (some ⟨w.heap.size, 0, none⟩) 0 0) 0 [] := World.ownsRow_lit (base := w.heap.size) (e := 105) (size := 4) w #[] 0 (Nat.le_refl _) (by decide) rfl
  cases a with
  | none =>
    have hl0 : l = [] := GR.none_nil ha
    subst hl0
    clear ha hlit hv
    go_enter Tryz.func96, Tryz.ntmps96
    go_wp2_with fail
    go_ret
    exact ⟨_, rfl, World.ownsRow_nil _ _ _ _, Below.refl _ _⟩
  | some x =>
    have HN := hide (newsG encSnt_length (by omega) (GR.At.below ha (below_one w (.cells #[] 105))))
    have HV := hide hv
    clear ha hv
    go_enter Tryz.func96, Tryz.ntmps96
    go_wp2_with (at_builtin; refine wpList_append_own _ rfl _ _ 46 rfl w.heap.size 105 i0 (.agg #[.int .i64 0, .int .i64 0, .string ByteArray.empty, .int .i64 0]) 4 40 Tryz.underlying46 hi hz0 hz1 hz2 rfl (by decide) _ 0 [] rfl hlit x l.length cap (GR.flat encSnt l) rfl ?c0 ?c1 ?c2 ?c3 ?c4 ?c5 ?_)
    case c0 => exact GR.flat_length encSnt 4 encSnt_length l
    case c1 => exact unhide HN
    case c2 => exact unhide HV
    case c3 => unfold maxLen; omega
    case c4 => omega
    case c5 => simp
    intro v' w1 hown' hgrow _
    have HO := hide (show w1.ownsRow w.heap.size 105 4 v' l.length (GR.flat encSnt l) by simpa using hown')
    have hb : Below w.heap.size w w1 := (below_one w _).grown hgrow (by simp) (fun k hk => by cases hk; exact Nat.le_refl _)
    clear hown' hgrow hlit
    go_wp2
    go_ret
    exact ⟨_, rfl, unhide HO, hb⟩
set_option maxRecDepth 100000 in
set_option maxHeartbeats 1000000 in
theorem cloneRq (a : Option Addr) (cap : Nat) (l : List Rq) (w : World) (hl : l.length ≤ 1048600) (hv : ∀ u ∈ GR.flat encRq l, u.oneCell' = true) (ha : GR.At encRq 4 w a l) :
    Calls Tryz.prog 98 #[.slice a l.length cap] w fun e w' => ∃ v, e = .returned v ∧ w'.ownsRow w.heap.size 108 4 v l.length (GR.flat encRq l) ∧ Below w.heap.size w w' := by
  obtain ⟨i0, hi, hz0, hz1, hz2⟩ := info_parts infoReq
  have q22 : ∀ (w : World) (a : Option Addr) (n c n' c' : Nat), (binOp .eql 48 (.slice a n c) (.slice none n' c')).run Tryz.prog w = .ok (.bool a.isNone) w := fun w a n c n' c' => Lib.run_eql_slice_nil w _ _ a n c n' c' Tryz.underlying48
  have hlit : (w.alloc (.cells #[] 108)).ownsRow w.heap.size 108 4 (.slice (some ⟨w.heap.size, 0, none⟩) 0 0) 0 [] := World.ownsRow_lit (base := w.heap.size) (e := 108) (size := 4) w #[] 0 (Nat.le_refl _) (by decide) rfl
  cases a with
  | none =>
    have hl0 : l = [] := GR.none_nil ha
    subst hl0
    clear ha hlit hv
    go_enter Tryz.func98, Tryz.ntmps98
    go_wp2_with fail
    go_ret
    exact ⟨_, rfl, World.ownsRow_nil _ _ _ _, Below.refl _ _⟩
  | some x =>
    have HN := hide (newsG encRq_length (by omega) (GR.At.below ha (below_one w (.cells #[] 108))))
    have HV := hide hv
    clear ha hv
    go_enter Tryz.func98, Tryz.ntmps98
    go_wp2_with (at_builtin; refine wpList_append_own _ rfl _ _ 48 rfl w.heap.size 108 i0 (.agg #[.int .i64 0, .string ByteArray.empty, .int .i64 0, .int .i64 0]) 4 40 Tryz.underlying48 hi hz0 hz1 hz2 rfl (by decide) _ 0 [] rfl hlit x l.length cap (GR.flat encRq l) rfl ?c0 ?c1 ?c2 ?c3 ?c4 ?c5 ?_)
    case c0 => exact GR.flat_length encRq 4 encRq_length l
    case c1 => exact unhide HN
    case c2 => exact unhide HV
    case c3 => unfold maxLen; omega
    case c4 => omega
    case c5 => simp
    intro v' w1 hown' hgrow _
    have HO := hide (show w1.ownsRow w.heap.size 108 4 v' l.length (GR.flat encRq l) by simpa using hown')
    have hb : Below w.heap.size w w1 := (below_one w _).grown hgrow (by simp) (fun k hk => by cases hk; exact Nat.le_refl _)
    clear hown' hgrow hlit
    go_wp2
    go_ret
    exact ⟨_, rfl, unhide HO, hb⟩
set_option maxRecDepth 100000 in
set_option maxHeartbeats 1000000 in
theorem cloneR3 (a : Option Addr) (cap : Nat) (l : List R3) (w : World) (hl : l.length ≤ 1048600) (hv : ∀ u ∈ GR.flat encR3 l, u.oneCell' = true) (ha : GR.At encR3 3 w a l) :
    Calls Tryz.prog 97 #[.slice a l.length cap] w fun e w' => ∃ v, e = .returned v ∧ w'.ownsRow w.heap.size 101 3 v l.length (GR.flat encR3 l) ∧ Below w.heap.size w w' := by
  obtain ⟨i0, hi, hz0, hz1, hz2⟩ := info_parts infoSeen
  have q22 : ∀ (w : World) (a : Option Addr) (n c n' c' : Nat), (binOp .eql 47 (.slice a n c) (.slice none n' c')).run Tryz.prog w = .ok (.bool a.isNone) w := fun w a n c n' c' => Lib.run_eql_slice_nil w _ _ a n c n' c' Tryz.underlying47
  have hlit : (w.alloc (.cells #[] 101)).ownsRow w.heap.size 101 3 (.slice (some ⟨w.heap.size, 0, none⟩) 0 0) 0 [] := World.ownsRow_lit (base := w.heap.size) (e := 101) (size := 3) w #[] 0 (Nat.le_refl _) (by decide) rfl
  cases a with
  | none =>
    have hl0 : l = [] := GR.none_nil ha
    subst hl0
    clear ha hlit hv
    go_enter Tryz.func97, Tryz.ntmps97
    go_wp2_with fail
    go_ret
    exact ⟨_, rfl, World.ownsRow_nil _ _ _ _, Below.refl _ _⟩
  | some x =>
    have HN := hide (newsG encR3_length (by omega) (GR.At.below ha (below_one w (.cells #[] 101))))
    have HV := hide hv
    clear ha hv
    go_enter Tryz.func97, Tryz.ntmps97
    go_wp2_with (at_builtin; refine wpList_append_own _ rfl _ _ 47 rfl w.heap.size 101 i0 (.agg #[.int .i64 0, .int .i64 0, .slice none 0 0]) 3 40 Tryz.underlying47 hi hz0 hz1 hz2 rfl (by decide) _ 0 [] rfl hlit x l.length cap (GR.flat encR3 l) rfl ?c0 ?c1 ?c2 ?c3 ?c4 ?c5 ?_)
    case c0 => exact GR.flat_length encR3 3 encR3_length l
    case c1 => exact unhide HN
    case c2 => exact unhide HV
    case c3 => unfold maxLen; omega
    case c4 => omega
    case c5 => simp
    intro v' w1 hown' hgrow _
    have HO := hide (show w1.ownsRow w.heap.size 101 3 v' l.length (GR.flat encR3 l) by simpa using hown')
    have hb : Below w.heap.size w w1 := (below_one w _).grown hgrow (by simp) (fun k hk => by cases hk; exact Nat.le_refl _)
    clear hown' hgrow hlit
    go_wp2
    go_ret
    exact ⟨_, rfl, unhide HO, hb⟩

/-- What was seen, as a row of three cells. -/
theorem seen_row {w : World} {a : Option Addr} {l : List Sn} (h : SeenAt w a l) : ∃ T : List R3, T.length = l.length ∧ GR.At encR3 3 w a T ∧ (∀ u ∈ GR.flat encR3 T, u.oneCell' = true) ∧ ∀ i (hi : i < l.length), ∃ b c, T[i]? = some ⟨l[i].f, l[i].l, .slice b l[i].ids.length c⟩ ∧ IntsAt w b l[i].ids := by
  have hk : ∀ k, k ≤ l.length → ∃ T : List R3, T.length = k ∧ (∀ i (hi : i < T.length) (hl : i < l.length), ∃ b c, T[i] = ⟨l[i].f, l[i].l, .slice b l[i].ids.length c⟩ ∧ IntsAt w b l[i].ids ∧ ∃ g off, a = some ⟨g, off, none⟩ ∧ g < w.heap.size ∧ w.cell? ⟨g, off + i * 3, none⟩ = some (.int .i64 l[i].f) ∧ w.cell? ⟨g, off + i * 3 + 1, none⟩ = some (.int .i64 l[i].l) ∧ w.cell? ⟨g, off + i * 3 + 2, none⟩ = some (.slice b l[i].ids.length c)) := by
    intro k
    induction k with
    | zero => intro _; exact ⟨[], rfl, fun i hi => by simp at hi⟩
    | succ k ih =>
      intro hk
      obtain ⟨T, hT, hr⟩ := ih (by omega)
      obtain ⟨g, off, b, c, e, hg, h0, h1, h2, h3⟩ := h k (by omega)
      refine ⟨T ++ [⟨l[k].f, l[k].l, .slice b l[k].ids.length c⟩], by simp [hT], fun i hi hl => ?_⟩
      by_cases hik : i < T.length
      · rw [List.getElem_append_left hik]
        exact hr i hik hl
      · have hi' : i = k := by simp at hi; omega
        subst hi'
        refine ⟨b, c, ?_, h3, g, off, e, hg, h0, h1, h2⟩
        rw [List.getElem_append_right (by omega)]
        simp [hT]
  obtain ⟨T, hT, hr⟩ := hk l.length (Nat.le_refl _)
  refine ⟨T, hT, fun i hi => ?_, fun u hu => ?_, fun i hi => ?_⟩
  · obtain ⟨b, c, e, _, g, off, ea, hg, h0, h1, h2⟩ := hr i hi (by omega)
    refine ⟨g, off, ea, hg, fun j hj => ?_⟩
    rw [e]
    match j, hj with
    | 0, _ => exact h0
    | 1, _ => rw [← Nat.add_assoc]; exact h1
    | 2, _ => rw [← Nat.add_assoc]; exact h2
  · unfold GR.flat at hu
    rw [List.mem_flatMap] at hu
    obtain ⟨p, hp, hq⟩ := hu
    obtain ⟨i, hi, rfl⟩ := List.mem_iff_getElem.1 hp
    obtain ⟨b, c, e, _⟩ := hr i hi (by omega)
    rw [e] at hq
    simp only [encR3, List.mem_cons, List.not_mem_nil, or_false] at hq
    rcases hq with rfl | rfl | rfl <;> rfl
  · obtain ⟨b, c, e, hI, _⟩ := hr i (by omega) hi
    exact ⟨b, c, by rw [List.getElem?_eq_getElem (by omega), e], hI⟩
namespace Mth

/-- The last one's number, or a first one's. -/
def lastI {α : Type} (key : α → Int) (y0 : Int) (l : List α) : Int := (l.getLast?.map key).getD y0
theorem lastI_snoc {α : Type} (key : α → Int) (y0 : Int) (l : List α) (k : Nat) (h : k < l.length) : lastI key y0 (l.take (k + 1)) = key l[k] := by
  unfold lastI
  rw [List.take_succ_eq_append_getElem h, List.getLast?_append]
  simp
theorem chk_last {α : Type} (p : α → Bool) (key : α → Int) (y0 : Int) (hp : ∀ x, p x = true → y0 < key x) (l : List α) (k : Nat) (h : k < l.length) :
    chk p (fun s t => ltB (key s) (key t)) (l.take (k + 1)) = (chk p (fun s t => ltB (key s) (key t)) (l.take k) && (p l[k] && decide (lastI key y0 (l.take k) < key l[k]))) := by
  rw [List.take_succ_eq_append_getElem h, chk_snoc]
  unfold lastI
  cases hg : (l.take k).getLast? with
  | none =>
    cases hx : p l[k] with
    | false => simp
    | true => simp [hp _ hx]
  | some y => simp [ltB]
theorem chk_mem {α : Type} {p : α → Bool} {r : α → α → Bool} {l : List α} (h : chk p r l = true) : ∀ x ∈ l, p x = true := by
  induction l with
  | nil => intro x hx; simp at hx
  | cons y l ih =>
    rw [chk_cons] at h
    simp only [Bool.and_eq_true] at h
    intro x hx
    rcases List.mem_cons.1 hx with rfl | hx
    · exact h.1.1
    · exact ih h.2 x hx
theorem chk_lastI {α : Type} {p : α → Bool} {r : α → α → Bool} {key : α → Int} {y0 : Int} {l : List α} (hp : ∀ x, p x = true → y0 < key x) (h : chk p r l = true) : y0 ≤ lastI key y0 l := by
  unfold lastI
  cases hg : l.getLast? with
  | none => simp
  | some y =>
    have := hp y (chk_mem h y (List.mem_of_getLast? hg))
    simp
    omega
theorem chk_iff {α : Type} {p : α → Bool} {r : α → α → Bool} (ht : ∀ a b c, r a b = true → r b c = true → r a c = true) {l : List α} : chk p r l = true ↔ (∀ x ∈ l, p x = true) ∧ l.Pairwise (fun a b => r a b = true) := by
  induction l with
  | nil => simp [chk]
  | cons x l ih =>
    rw [chk_cons]
    simp only [Bool.and_eq_true, ih, List.pairwise_cons, List.mem_cons, forall_eq_or_imp]
    constructor
    · rintro ⟨⟨h1, h2⟩, h3, h4⟩
      refine ⟨⟨h1, h3⟩, ?_, h4⟩
      cases l with
      | nil => intro a ha; simp at ha
      | cons y l =>
        simp only [List.head?_cons] at h2
        intro a ha
        rcases List.mem_cons.1 ha with rfl | ha
        · exact h2
        · exact ht x y a h2 ((List.pairwise_cons.1 h4).1 a ha)
    · rintro ⟨⟨h1, h3⟩, h2, h4⟩
      refine ⟨⟨h1, ?_⟩, h3, h4⟩
      cases l with
      | nil => simp
      | cons y l => exact h2 y (by simp)
theorem chk_and {α : Type} {p q : α → Bool} {r : α → α → Bool} {l : List α} : chk (fun x => p x && q x) r l = (chk p r l && l.all q) := by
  induction l with
  | nil => simp [chk]
  | cons x l ih =>
    rw [chk_cons, ih, chk_cons, List.all_cons]
    generalize p x = a
    generalize q x = b
    generalize chk p r l = d
    generalize l.all q = e
    cases a <;> cases b <;> cases d <;> cases e <;> simp

theorem asc_le : ∀ (B A : List Int), A.Pairwise (· < ·) → B.Pairwise (· < ·) → (∀ x ∈ A, x ∈ B) → A.length ≤ B.length := by
  intro B
  induction B with
  | nil =>
    intro A _ _ hs
    cases A with
    | nil => simp
    | cons a A => exact absurd (hs a (by simp)) (by simp)
  | cons b B ih =>
    intro A hA hB hs
    cases A with
    | nil => simp
    | cons a A =>
      have hA' := List.pairwise_cons.1 hA
      have hB' := List.pairwise_cons.1 hB
      by_cases hab : a = b
      · subst hab
        have := ih A hA'.2 hB'.2 (fun x hx => by
          rcases List.mem_cons.1 (hs x (List.mem_cons_of_mem _ hx)) with h | h
          · have := hA'.1 x hx; omega
          · exact h)
        simp; omega
      · have haB : a ∈ B := by
          rcases List.mem_cons.1 (hs a (by simp)) with h | h
          · exact absurd h hab
          · exact h
        have hba := hB'.1 a haB
        have := ih (a :: A) hA hB'.2 (fun x hx => by
          rcases List.mem_cons.1 (hs x hx) with h | h
          · rcases List.mem_cons.1 hx with h2 | h2
            · omega
            · have := hA'.1 x h2; omega
          · exact h)
        simp at this ⊢; omega
theorem asc_eq : ∀ (B A : List Int), A.Pairwise (· < ·) → B.Pairwise (· < ·) → (∀ x ∈ A, x ∈ B) → B.length ≤ A.length → A = B := by
  intro B
  induction B with
  | nil =>
    intro A _ _ hs _
    cases A with
    | nil => rfl
    | cons a A => exact absurd (hs a (by simp)) (by simp)
  | cons b B ih =>
    intro A hA hB hs hl
    cases A with
    | nil => simp at hl
    | cons a A =>
      have hA' := List.pairwise_cons.1 hA
      have hB' := List.pairwise_cons.1 hB
      by_cases hab : a = b
      · subst hab
        rw [ih A hA'.2 hB'.2 (fun x hx => by
          rcases List.mem_cons.1 (hs x (List.mem_cons_of_mem _ hx)) with h | h
          · have := hA'.1 x hx; omega
          · exact h) (by simpa using hl)]
      · have haB : a ∈ B := by
          rcases List.mem_cons.1 (hs a (by simp)) with h | h
          · exact absurd h hab
          · exact h
        have hba := hB'.1 a haB
        have := asc_le B (a :: A) hA hB'.2 (fun x hx => by
          rcases List.mem_cons.1 (hs x hx) with h | h
          · rcases List.mem_cons.1 hx with h2 | h2
            · omega
            · have := hA'.1 x h2; omega
          · exact h)
        simp at this hl; omega

/-- A node's neighbours. -/
def nbrs (n : Nd) : List Int := n.kids ++ (if n.par = -1 then [] else [n.par])
def srt (l : List Int) : List Int := l.mergeSort fun x y => decide (x ≤ y)
theorem srt_length (l : List Int) : (srt l).length = l.length := List.length_mergeSort l
theorem srt_mem (l : List Int) (x : Int) : x ∈ srt l ↔ x ∈ l := (List.mergeSort_perm l _).mem_iff
theorem srt_asc {l : List Int} (h : l.Nodup) : (srt l).Pairwise (· < ·) := by
  have h1 : (srt l).Pairwise (fun x y => decide (x ≤ y) = true) := List.pairwise_mergeSort (le := fun x y : Int => decide (x ≤ y)) (fun a b c h1 h2 => by simp at *; omega) (fun a b => by simp; omega) l
  have h2 : (srt l).Nodup := (List.mergeSort_perm l _).symm.nodup h
  exact (h1.and h2).imp (fun {a b} h => by have := of_decide_eq_true h.1; have := h.2; omega)
theorem has_iff (l : List Int) (x : Int) : hasB l x = true ↔ x ∈ l := by
  unfold hasB
  rw [List.any_eq_true]
  constructor
  · rintro ⟨y, hy, h⟩
    have := of_decide_eq_true h
    subst this
    exact hy
  · intro h; exact ⟨x, h, by simp⟩
theorem ltB_trans (a b c : Int) (h1 : ltB a b = true) (h2 : ltB b c = true) : ltB a c = true := by
  unfold ltB at *
  simp at *
  omega
theorem place_kids {n : Nd} (h : placeB n = true) : (∀ x ∈ n.kids, kidB n.id n.par x = true) ∧ n.kids.Pairwise (· < ·) ∧ -1 ≤ n.par := by
  unfold placeB at h
  simp only [Bool.and_eq_true] at h
  obtain ⟨h1, h2⟩ := (chk_iff (r := ltB) ltB_trans).1 h.2
  exact ⟨h1, h2.imp (fun {a b} h => of_decide_eq_true h), (of_decide_eq_true h.1.1.1.2).1⟩
theorem nbrs_nodup {n : Nd} (h : placeB n = true) : (nbrs n).Nodup := by
  obtain ⟨h1, h2, _⟩ := place_kids h
  have h3 : n.kids.Nodup := h2.imp (fun {a b} h => by omega)
  unfold nbrs
  split
  · simpa using h3
  · rw [List.nodup_append]
    refine ⟨h3, by simp, ?_⟩
    intro a ha b hb
    have hb' : b = n.par := by simpa using hb
    have := h1 a ha
    unfold kidB at this
    simp only [Bool.and_eq_true, decide_eq_true_eq] at this
    rw [hb']
    exact this.2
theorem near_iff {n : Nd} (h : placeB n = true) (x : Int) : nearB n x = true ↔ x ∈ nbrs n := by
  obtain ⟨h1, _, h3⟩ := place_kids h
  unfold nearB nbrs
  rw [Bool.or_eq_true, has_iff, List.mem_append]
  constructor
  · rintro (h | h)
    · simp only [Bool.and_eq_true, decide_eq_true_eq] at h
      right
      rw [if_neg (by omega)]
      simp [h.2]
    · exact .inl h
  · rintro (h | h)
    · exact .inr h
    · left
      split at h
      · simp at h
      · have : x = n.par := by simpa using h
        simp only [Bool.and_eq_true, decide_eq_true_eq]
        omega
theorem nbrs_length {n : Nd} (h : placeB n = true) : ((nbrs n).length : Int) = n.kids.length + (if 0 ≤ n.par then 1 else 0) := by
  obtain ⟨_, _, h3⟩ := place_kids h
  unfold nbrs
  by_cases hp : n.par = -1
  · rw [if_pos hp, if_neg (by omega)]; simp
  · rw [if_neg hp, if_pos (by omega)]; simp
theorem told_eq {n : Nd} (hp : placeB n = true) : toldB n = (decide (n.seen.map (·.f) = srt (nbrs n)) && n.seen.all snB) := by
  have hnd := nbrs_nodup hp
  have hsr := srt_asc hnd
  unfold toldB
  rw [chk_and, ← nbrs_length hp, ← Bool.and_assoc]
  congr 1
  rw [Bool.eq_iff_iff, Bool.and_eq_true, decide_eq_true_iff, decide_eq_true_iff, chk_iff (fun a b c h1 h2 => ltB_trans a.f b.f c.f h1 h2)]
  constructor
  · rintro ⟨h1, h2, h3⟩
    refine asc_eq _ _ ?_ hsr ?_ ?_
    · rw [List.pairwise_map]
      exact h3.imp (fun {a b} h => of_decide_eq_true h)
    · intro x hx
      obtain ⟨s, hs, rfl⟩ := List.mem_map.1 hx
      rw [srt_mem]
      exact (near_iff hp _).1 (h2 s hs)
    · rw [srt_length, List.length_map]
      omega
  · intro h
    refine ⟨?_, ?_, ?_⟩
    · have := congrArg List.length h
      rw [srt_length, List.length_map] at this
      omega
    · intro s hs
      rw [near_iff hp, ← srt_mem, ← h]
      exact List.mem_map.2 ⟨s, hs, rfl⟩
    · rw [← h, List.pairwise_map] at hsr
      exact hsr.imp (fun {a b} h => decide_eq_true h)
end Mth
end Go.Proofs.YtbanjohfcnadfaaGreatDoor
