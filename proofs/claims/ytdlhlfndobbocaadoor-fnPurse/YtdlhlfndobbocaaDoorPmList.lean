/-
  The program's list and copyPurses: purses by key in the keys' order, and a copy of purses, each in memory of its own.
-/
import Derived.Test.YtdlhlfndobbocaaDoorPmKey
import Derived.Test.YtdlhlfndobbocaaDoorPuI2
import Derived.Test.YtdlhlfndobbocaaDoorPuRows
import Derived.Test.YtdlhlfndobbocaaDoorPuMark
import Derived.Test.YtdlhlfndobbocaaDoorRows2
namespace Go.Proofs.YtdlhlfndobbocaaDoor
open Go.RowKit Go.Maps
open Mth

set_option maxRecDepth 100000 in
set_option maxHeartbeats 1000000 in
theorem clonePurses (a : Option Addr) (cap : Nat) (l : List Pu) (w : World) (hl : l.length ≤ 1048600) (ha : PursesAt w a l) :
    Calls Tryd.prog 66 #[.slice a l.length cap] w fun e w' => ∃ v, e = .returned v ∧ w'.ownsRow w.heap.size 32 4 v l.length (GR.flat encP l) ∧ Below w.heap.size w w' := by
  obtain ⟨i0, hi, hz0, hz1, hz2⟩ := info_parts infoPu
  have q22 : ∀ (w : World) (a : Option Addr) (n c n' c' : Nat), (binOp .eql 24 (.slice a n c) (.slice none n' c')).run Tryd.prog w = .ok (.bool a.isNone) w := fun w a n c n' c' => Lib.run_eql_slice_nil w _ _ a n c n' c' Tryd.underlying24
  have hlit : (w.alloc (.cells #[] 32)).ownsRow w.heap.size 32 4 (.slice (some ⟨w.heap.size, 0, none⟩) 0 0) 0 [] := World.ownsRow_lit (base := w.heap.size) (e := 32) (size := 4) w #[] 0 (Nat.le_refl _) (by decide) rfl
  cases a with
  | none =>
    have hl0 : l = [] := GR.none_nil ha
    subst hl0
    clear ha hlit
    go_enter Tryd.func66, Tryd.ntmps66
    go_wp2_with fail
    go_ret
    exact ⟨_, rfl, World.ownsRow_nil _ _ _ _, Below.refl _ _⟩
  | some x =>
    have HN := hide (PursesAt.news (GR.At.below ha (below_one' w (.cells #[] 32))))
    clear ha
    go_enter Tryd.func66, Tryd.ntmps66
    go_wp2_with (at_builtin; refine wpList_append_own _ rfl _ _ 24 rfl w.heap.size 32 i0 (.agg #[.string ByteArray.empty, .int .i64 0, .int .i64 0, .int .i64 0]) 4 40 Tryd.underlying24 hi hz0 hz1 hz2 rfl (by decide) _ 0 [] rfl hlit x l.length cap (GR.flat encP l) rfl ?c0 ?c1 ?c2 ?c3 ?c4 ?c5 ?_)
    case c0 => exact GR.flat_length encP 4 encP_length l
    case c1 => exact unhide HN
    case c2 => exact encP_one l
    case c3 => unfold maxLen; omega
    case c4 => omega
    case c5 => simp
    intro v' w1 hown' hgrow _
    have HO := hide (show w1.ownsRow w.heap.size 32 4 v' l.length (GR.flat encP l) by simpa using hown')
    have hb : Below w.heap.size w w1 := (below_one' w _).grown hgrow (by simp) (fun k hk => by cases hk; exact Nat.le_refl _)
    clear hown' hgrow hlit
    go_wp2
    go_ret
    exact ⟨_, rfl, unhide HO, hb⟩
/-- A row of the call's own, as it may be written. -/
theorem PuW.of_own {w : World} {B : Nat} {v : Value} {l : List Pu} (h : w.ownsRow B 32 4 v l.length (GR.flat encP l)) (hB : B ≤ w.heap.size) : ∃ a c g, v = .slice a l.length c ∧ B ≤ g ∧ PuW w a g l := by
  obtain ⟨a, c, rfl, hat⟩ := GR.own_at encP_length h
  rcases h.2 with ⟨hv, hn⟩ | ⟨g, cap, cur, hv, hg, hblk, _⟩
  · have hl : l = [] := List.eq_nil_of_length_eq_zero hn
    subst hl
    exact ⟨_, _, w.heap.size, rfl, hB, PuW.nil⟩
  · cases hv
    refine ⟨_, _, g, rfl, hg, fun i hi => ?_⟩
    obtain ⟨g', off', e, hg', hc⟩ := hat i hi
    cases e
    refine ⟨rfl, hg', fun j hj => ⟨?_, ?_⟩⟩
    · have := hc j hj
      rwa [Nat.zero_add] at this
    · unfold World.frozen?; rw [hblk]; simp
set_option maxRecDepth 100000 in
set_option maxHeartbeats 2000000 in
theorem implCopy (a : Option Addr) (cap : Nat) (l : List Pu) (w : World) (hl : l.length ≤ 1048576) (hks : ∀ p ∈ l, p.k.size ≤ 1048576) (ha : PursesAt w a l) :
    Calls Tryd.prog 51 #[.slice a l.length cap] w fun e w' => ∃ a' c' g, w.heap.size ≤ g ∧ e = .returned (.slice a' l.length c') ∧ PuW w' a' g l ∧ Below w.heap.size w w' := by
  have HCL := hide (clonePurses a cap l w (by omega) ha)
  have HKS := hide hks
  clear ha hks
  go_enter Tryd.func51, Tryd.ntmps51
  go_wp2_with fail
  refine (unhide HCL).mono ?_
  rintro e w1 ⟨v, rfl, hown, hb1⟩
  obtain ⟨a', c', g, rfl, hg, hW⟩ := PuW.of_own hown hb1.size
  have HW := hide hW
  have HB1 := hide hb1
  clear hown hb1 hW HCL
  go_wp2_with fail
  go_loopw [10] (fun i wr => ∃ k : Nat, k ≤ l.length ∧ i = .int .i64 k ∧ PuW wr a' g l ∧ Below w.heap.size w wr) (fun i _ => l.length - (intOf i).toNat)
  case atStart => exact ⟨0, Nat.zero_le _, rfl, unhide HW, unhide HB1⟩
  case round =>
    obtain ⟨k, hk, rfl, hB, hbel⟩ := hrel
    have HB := hide hB
    have HBL := hide hbel
    clear hB hbel
    by_cases hlt : k < l.length
    · obtain ⟨e0, hgw, ⟨q0, q1, q2, q3⟩, _⟩ := PuW.four (unhide HB) k hlt
      subst e0
      have hkk := unhide HKS l[k] (List.getElem_mem hlt)
      have hse : l.set k l[k] = l := List.set_getElem_self hlt
      have HSE := hide hse
      clear hse
      generalize l[k] = pu at *
      have HOK := hide (fun w1 => implOwnKey pu w1 hkk)
      clear hkk
      obtain ⟨pk, pm, pf, ps⟩ := pu
      dsimp only at q0 q1 q2 q3
      go_wp2_with fail
      refine (unhide HOK _).mono ?_
      rintro e w5 ⟨rfl, hb5⟩
      obtain ⟨_, _, hb6⟩ := Fo.one_block hb5
      have HB5 := hide (PuW.below (unhide HB) hb6)
      have HBL5 := hide ((unhide HBL).trans (hb6.mono (unhide HBL).size))
      clear hb5 hb6 q0 q1 q2 q3
      obtain ⟨_, hgw5, ⟨s0, s1, s2, s3⟩, f0, f1, f2, f3⟩ := PuW.four (unhide HB5) k hlt
      go_wp2_with fail
      go_roundw
      case rel =>
        have h := PuW.set (unhide HB5) k ⟨pk, pm, pf, ps⟩ hlt
        rw [unhide HSE] at h
        exact ⟨k + 1, by omega, by go_num, h, GR.setW_below (o := k * 4) hg (encP ⟨pk, pm, pf, ps⟩) (unhide HBL5)⟩
      case measure => simp [intOf]; omega
    · have hke : k = l.length := by omega
      subst hke
      have hnlt : decide ((l.length : Int) < (l.length : Int)) = false := by simp
      go_wp2_with fail
      go_ret
      exact ⟨a', c', g, hg, rfl, unhide HB, unhide HBL⟩

set_option maxRecDepth 100000 in
set_option maxHeartbeats 2000000 in
theorem implList (B mp mb n : Nat) (v : Value) (l : List Pu) (G : ByteArray → Pu) (w : World) (hl : l.length ≤ 20) (hG : ∀ p ∈ l, G p.k = p) (hks : ∀ p ∈ l, p.k.size ≤ 1048576) (h : PM w B mp mb n v (l.map (·.k)) G) :
    Calls Tryd.prog 64 #[.pointer (some ⟨mp, 0, none⟩)] w fun e w' => e = .returned (.slice (some ⟨w.heap.size, 0, none⟩) l.length l.length) ∧ puBlk w' w.heap.size l ∧ Below w.heap.size w w' := by
  have hrow := h.row
  rw [List.length_map] at hrow
  obtain ⟨a, cap, rfl⟩ : ∃ a cap, v = .slice a l.length cap := by
    rcases hrow.2 with ⟨rfl, h0⟩ | ⟨g, cap, cur, rfl, _⟩
    · exact ⟨none, 0, by rw [h0]⟩
    · exact ⟨_, _, rfl⟩
  have hmk := make_purses l.length (by omega)
  have HH := hide h
  have HG := hide hG
  have HKS := hide hks
  have HR := hide hrow
  obtain ⟨⟨m0, m1⟩, _⟩ := two_at h.blk
  have hmp := Fo.lt_of_blk h.blk
  clear h hG hks hrow
  go_enter Tryd.func64, Tryd.ntmps64
  go_wp2_with fail
  go_loopw [17] (fun i wr => ∃ k : Nat, k ≤ l.length ∧ i = .int .i64 k ∧ puBlk wr w.heap.size (l.take k ++ List.replicate (l.length - k) ⟨ByteArray.empty, 0, 0, 0⟩) ∧ Below w.heap.size w wr) (fun i _ => l.length - (intOf i).toNat)
  case atStart => exact ⟨0, Nat.zero_le _, rfl, by unfold puBlk GR.Blk; rw [List.take_zero, List.nil_append, Nat.sub_zero]; exact heap_alloc_new w _, below_one' w _⟩
  case round =>
    obtain ⟨k, hk, rfl, hB, hbel⟩ := hrel
    have HB := hide hB
    have HBL := hide hbel
    clear hB hbel hmk
    by_cases hlt : k < l.length
    · obtain ⟨g, cap', ev, hgl, hgw⟩ := (unhide HR).form (by omega)
      have ea : a = some ⟨g, 0, none⟩ := by injection ev
      subst ea
      have c0 : ∀ (_ : k < l.length), Hid True := fun _ => trivial
      clear c0 ev
      have hcl : _ := (unhide HBL).cell (p := ⟨g, k, none⟩) hgw
      have hce := (unhide HR).cellAt k (by omega)
      have hck : w.cell? ⟨g, k, none⟩ = some (.string l[k].k) := by rw [hce]; simp [hlt]
      rw [hck] at hcl
      clear hce hck
      have TS := hide (take_set_pu l ⟨ByteArray.empty, 0, 0, 0⟩ k hlt)
      have hkk := unhide HKS l[k] (List.getElem_mem hlt)
      have hgk := unhide HG l[k] (List.getElem_mem hlt)
      have hPMr := (unhide HH).below (unhide HBL)
      generalize l[k] = pu at *
      have HGET := hide (implGet mp mb n _ G pu.k wr hkk hPMr.blk hPMr.map)
      rw [hgk] at HGET
      have HOK := hide (fun w1 => implOwnKey pu w1 hkk)
      clear hkk hgk hPMr
      obtain ⟨pk, pm, pf, ps⟩ := pu
      dsimp only at hcl
      have hln : (l.take k ++ List.replicate (l.length - k) (⟨ByteArray.empty, 0, 0, 0⟩ : Pu)).length = l.length := by simp; omega
      go_wp2_with fail
      refine (unhide HGET).mono ?_
      rintro e w4 ⟨rfl, hb4⟩
      have HB4 := hide (blkstep (unhide HB) hb4)
      have HBL4 := hide ((unhide HBL).trans (hb4.mono (unhide HBL).size))
      clear hb4 HGET
      go_wp2_with fail
      refine (unhide HOK _).mono ?_
      rintro e w5 ⟨rfl, hb5⟩
      have HB5 := hide (blkstep (unhide HB4) hb5)
      have HBL5 := hide ((unhide HBL4).trans (hb5.mono (unhide HBL4).size))
      clear hb5
      obtain ⟨s0, s1, s2, s3⟩ := puBlk.four (unhide HB5) k (by omega)
      have f0 := GR.Blk.free (unhide HB5) (k * 4)
      have f1 := GR.Blk.free (unhide HB5) (k * 4 + 1)
      have f2 := GR.Blk.free (unhide HB5) (k * 4 + 2)
      have f3 := GR.Blk.free (unhide HB5) (k * 4 + 3)
      go_wp2_with fail
      go_roundw
      case rel =>
        have h := GR.Blk.set (unhide HB5) encP_length k (by omega) ⟨pk, pm, pf, ps⟩
        rw [unhide TS] at h
        exact ⟨k + 1, by omega, by go_num, h, GR.setW_below (o := k * 4) (Nat.le_refl w.heap.size) (encP ⟨pk, pm, pf, ps⟩) (unhide HBL5)⟩
      case measure => simp [intOf]; omega
    · have hke : k = l.length := by omega
      subst hke
      have hnlt : decide ((l.length : Int) < (l.length : Int)) = false := by simp
      go_wp2_with fail
      go_ret
      have h := unhide HB
      rw [List.take_length, Nat.sub_self, List.replicate_zero, List.append_nil] at h
      exact ⟨rfl, h, unhide HBL⟩
end Go.Proofs.YtdlhlfndobbocaaDoor
