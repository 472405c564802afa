/-
  The program's neighbours of a node in order, what was seen of each, and NodeOk.
-/
import Derived.Test.YtdlhlfndobbocaaGreatNdI3
import Derived.Test.YtdlhlfndobbocaaGreatRows2
import Derived.Test.YtdlhlfndobbocaaGreatNdShelf
import Derived.Sort.OwnSortedInts
namespace Go.Proofs.YtdlhlfndobbocaaGreat
open Go.RowKit
open Mth

theorem flat_encNum (l : List Int) : GR.flat encNum l = l.map (Value.int .i64) := by
  induction l with
  | nil => rfl
  | cons x l ih => rw [GR.flat_cons, ih]; rfl
theorem encNum_one : ∀ (y : Int), ∀ u ∈ encNum y, u.oneCell' = true := by
  intro y u hu
  simp only [encNum, List.mem_cons, List.not_mem_nil, or_false] at hu
  subst hu
  rfl
set_option maxRecDepth 100000 in
set_option maxHeartbeats 1000000 in
theorem cloneInts (a : Option Addr) (cap : Nat) (l : List Int) (w : World) (hl : l.length ≤ 1048600) (ha : IntsAt w a l) :
    Calls Tryz.prog 81 #[.slice a l.length cap] w fun e w' => ∃ v, e = .returned v ∧ w'.ownsRow w.heap.size 3 1 v l.length (GR.flat encNum l) ∧ Below w.heap.size w w' := by
  obtain ⟨i0, hi, hz0, hz1, hz2⟩ := info_parts infoInt
  have q22 : ∀ (w : World) (a : Option Addr) (n c n' c' : Nat), (binOp .eql 22 (.slice a n c) (.slice none n' c')).run Tryz.prog w = .ok (.bool a.isNone) w := fun w a n c n' c' => Lib.run_eql_slice_nil w _ _ a n c n' c' Tryz.underlying22
  have hlit : (w.alloc (.cells #[] 3)).ownsRow w.heap.size 3 1 (.slice (some ⟨w.heap.size, 0, none⟩) 0 0) 0 [] := World.ownsRow_lit (base := w.heap.size) (e := 3) (size := 1) w #[] 0 (Nat.le_refl _) (by decide) rfl
  cases a with
  | none =>
    have hl0 : l = [] := GR.none_nil ha
    subst hl0
    clear ha hlit
    go_enter Tryz.func81, Tryz.ntmps81
    go_wp2_with fail
    go_ret
    exact ⟨_, rfl, World.ownsRow_nil _ _ _ _, Below.refl _ _⟩
  | some x =>
    have HN := hide (GR.At.news encNum_length (by omega) (GR.At.below ha (below_one w (.cells #[] 3))))
    clear ha
    go_enter Tryz.func81, Tryz.ntmps81
    go_wp2_with (at_builtin; refine wpList_append_own _ rfl _ _ 22 rfl w.heap.size 3 i0 (.int .i64 0) 1 8 Tryz.underlying22 hi hz0 hz1 hz2 rfl (by decide) _ 0 [] rfl hlit x l.length cap (GR.flat encNum l) rfl ?c0 ?c1 ?c2 ?c3 ?c4 ?c5 ?_)
    case c0 => exact GR.flat_length encNum 1 encNum_length l
    case c1 => exact unhide HN
    case c2 => exact GR.flat_oneCell encNum_one l
    case c3 => unfold maxLen; omega
    case c4 => omega
    case c5 => simp
    intro v' w1 hown' hgrow _
    have HO := hide (show w1.ownsRow w.heap.size 3 1 v' l.length (GR.flat encNum l) by simpa using hown')
    have hb : Below w.heap.size w w1 := (below_one w _).grown hgrow (by simp) (fun k hk => by cases hk; exact Nat.le_refl _)
    clear hown' hgrow hlit
    go_wp2
    go_ret
    exact ⟨_, rfl, unhide HO, hb⟩
/-- slices.Sort of a row of one's own. -/
theorem sortOwn (B : Nat) (v : Value) (l : List Int) (w : World) (hl : l.length ≤ 1048602) (hB : B ≤ w.heap.size) (h : w.ownsRow B 3 1 v l.length (GR.flat encNum l)) :
    Calls Tryz.prog 82 #[v] w fun e w' => e = .returned (.tuple #[]) ∧ w'.ownsRow B 3 1 v l.length (GR.flat encNum (srt l)) ∧ Below B w w' := by
  rw [flat_encNum] at h ⊢
  rcases h.2 with ⟨rfl, hn⟩ | ⟨g, cap, cur, rfl, hg, hblk, h1, h2, h3, h4⟩
  · have hl0 : l = [] := List.eq_nil_of_length_eq_zero hn
    subst hl0
    refine (AnyM.slices_Sort_int_none Tryz.sortL none 0 w).mono ?_
    rintro e w' ⟨rfl, rfl⟩
    refine ⟨rfl, ?_, Below.refl _ _⟩
    simpa [srt] using World.ownsRow_nil _ _ _ _
  · rw [Nat.mul_one] at h4
    have hH := holds_of_blockI hblk h4
    refine (AnyM.slices_Sort_int Tryz.sortL g 0 cap l w hH (obj_lt hblk) (by omega)).mono ?_
    rintro e w' ⟨rfl, n, os, rfl⟩
    have hs : (srt l).length = l.length := srt_length l
    have h5 := ownsRow_sortedI (n := n) (os := os) (ts := srt l) hs hg hblk h1 h2 h3
    exact ⟨rfl, h5, (Below.refl B w).grown (grownBy_sortedI _) hB (fun k hk => by cases hk; exact hg)⟩
set_option maxRecDepth 100000 in
set_option maxHeartbeats 2000000 in
theorem implNeighbours (n : Nd) (A : Ads) (w : World) (hl : n.kids.length ≤ 1048600) (ha : IntsAt w A.k n.kids) :
    Calls Tryz.prog 74 #[ndv n A] w fun e w' => ∃ v, e = .returned v ∧ w'.ownsRow w.heap.size 3 1 v (nbrs n).length (GR.flat encNum (srt (nbrs n))) ∧ Below w.heap.size w w' := by
  obtain ⟨i0, hi, hz0, hz1, hz2⟩ := info_parts infoInt
  have HC := hide (cloneInts A.k A.ck n.kids (w.alloc (.cells (ndc n A) 37)) hl (GR.At.below ha (below_one w _)))
  have HBX := hide (heap_alloc_new w (.cells (ndc n A) 37))
  have HNB : Hid ((n.par = -1 → nbrs n = n.kids) ∧ (¬ n.par = -1 → nbrs n = n.kids ++ [n.par])) := ⟨fun h => by unfold nbrs; rw [if_pos h, List.append_nil], fun h => by unfold nbrs; rw [if_neg h]⟩
  have hln : (nbrs n).length ≤ 1048602 := by unfold nbrs; split <;> simp <;> omega
  generalize nbrs n = NB at *
  obtain ⟨id, par, kids, next, pu, out, seen, old, reqs⟩ := n
  obtain ⟨ak, ap, ao, as', ar, ck, cp, co, cs, cr⟩ := A
  dsimp only at hl HC HBX HNB ⊢
  clear ha
  go_enter Tryz.func74, Tryz.ntmps74
  go_wp2_with fail
  refine (unhide HC).mono ?_
  rintro e w1 ⟨v, rfl, hown, hb1⟩
  have HB1 := hide ((below_one w _).trans (hb1.mono (by simp)))
  have HO1 := hide (GR.own_lower (b' := w.heap.size) hown (by simp))
  obtain ⟨c0, c1, _⟩ := nine (obj_step (unhide HBX) hb1)
  clear hown hb1 HC
  go_upto_if 9 with fail
  go_cut [3] (fun r wx => wx.ownsRow w.heap.size 3 1 r NB.length (GR.flat encNum NB) ∧ Below w.heap.size w wx)
  case first =>
    by_cases hp : par = -1
    · have hb : (par != -1) = false := by simp [hp]
      have HE := hide ((unhide HNB).1 hp)
      clear hp
      go_wp2_with fail
      go_meet
      case rel => exact ⟨by rw [unhide HE]; exact unhide HO1, unhide HB1⟩
    · have hb : (par != -1) = true := by simp [hp]
      have HE := hide ((unhide HNB).2 hp)
      clear hp
      have ho := unhide HO1
      go_wp2_with (at_builtin; refine wpList_append_own _ rfl _ _ 22 rfl w.heap.size 3 i0 (.int .i64 0) 1 8 Tryz.underlying22 hi hz0 hz1 hz2 rfl (by decide) _ _ _ rfl (ho.alloc _) ⟨w1.heap.size, 0, none⟩ 1 1 [.int .i64 par] rfl rfl ?c1 ?c2 ?c3 ?c4 ?c5 ?_)
      case c1 => exact cell_one_new _ _ _
      case c2 => intro u hu; simp at hu; subst hu; rfl
      case c3 => unfold maxLen; omega
      case c4 => omega
      case c5 => have := (unhide HB1).size; simp; omega
      intro v' w6 hown' hgrow _
      have HB6 := hide (GR.below_append (unhide HB1) (unhide HB1).size ho hgrow)
      have HO6 : Hid (w6.ownsRow w.heap.size 3 1 v' NB.length (GR.flat encNum NB)) := by
        rw [unhide HE, GR.flat_append, List.length_append]
        exact hown'
      clear hgrow ho hown'
      go_wp2_with fail
      go_meet
      case rel => exact ⟨unhide HO6, unhide HB6⟩
  case rest =>
    obtain ⟨ho, hb⟩ := hcut
    have HS := hide (sortOwn w.heap.size _ NB wc hln hb.size ho)
    have HB2 := hide hb
    clear ho hb c0 c1
    go_wp2_with fail
    refine (unhide HS).mono ?_
    rintro e w3 ⟨rfl, ho3, hb3⟩
    have HO3 := hide ho3
    have HB3 := hide ((unhide HB2).trans hb3)
    clear ho3 hb3
    go_wp2_with fail
    go_ret
    exact ⟨_, rfl, unhide HO3, unhide HB3⟩
end Go.Proofs.YtdlhlfndobbocaaGreat
