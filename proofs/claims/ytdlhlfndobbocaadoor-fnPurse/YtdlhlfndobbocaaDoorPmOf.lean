/-
  The program's purseMapOf: a list of purses as a map by key, its keys beside it in order.
-/
import Derived.Test.YtdlhlfndobbocaaDoorPmAdd
import Derived.Test.YtdlhlfndobbocaaDoorPuI3
import Derived.Deep.RegionLaw
import Derived.Deep.DeepCutAuto
import Derived.Deep.QuietTactic
import Derived.BigQuiet
namespace Go.Proofs.YtdlhlfndobbocaaDoor
open Go.RowKit Go.Maps
open Mth

namespace Mth
theorem upd_take {l : List Pu} (hp : l.Pairwise klt) (k : Nat) (hk : k < l.length) : upd (purseOf (l.take k)) l[k] = purseOf (l.take (k + 1)) := by
  funext key
  have hsub : (l.take (k + 1)).Pairwise klt := hp.sublist (List.take_sublist _ _)
  unfold upd
  by_cases e : key = l[k].k
  · rw [if_pos e, e]
    exact (purseOf_mem hsub (List.mem_take_iff_getElem.2 ⟨k, by omega, rfl⟩)).symm
  · rw [if_neg e]
    unfold purseOf
    rw [List.take_succ_eq_append_getElem hk, List.find?_append]
    have : [l[k]].find? (fun p => p.k.toList == key.toList) = none := by
      rw [List.find?_eq_none]
      intro q hq
      rw [List.mem_singleton] at hq
      subst hq
      simp only [beq_iff_eq]
      exact fun e' => e (toList_inj e').symm
    rw [this]
    simp
end Mth
theorem infoStr : (Tryd.prog.info? 9).map (fun i => (i.zero, i.size, i.bytes)) = some (some (.string ⟨#[]⟩), 1, 16) := by kernel_rfl

set_option maxRecDepth 100000 in
set_option maxHeartbeats 2000000 in
theorem implMapOf_no (a : Option Addr) (cap : Nat) (l : List Pu) (E : Nat → Addr) (w : World) (hl : l.length ≤ 1048600) (ha : PursesAt w a l) (he : Errs w E) (hno : psOk l = false) :
    Calls Tryd.prog 61 #[.slice a l.length cap] w fun e w' => e = .returned (.tuple #[.pointer none, errV (E 2)]) ∧ Below w.heap.size w w' := by
  have HOK := hide (implPursesOk a cap l w hl ha)
  have HE := hide he
  clear ha he
  go_enter Tryd.func61, Tryd.ntmps61
  go_wp2_with fail
  refine (unhide HOK).mono ?_
  rintro e w1 ⟨rfl, hb1⟩
  rw [hno]
  have ve := ((unhide HE).below hb1).var 2 (by omega)
  have HB := hide hb1
  clear hb1 HOK
  go_wp2_with fail
  go_quiet (fail)
  go_wp2_with fail
  go_ret2
  exact ⟨rfl, (unhide HB).trans ⟨rfl, rfl, rfl, Nat.le_refl _, fun _ _ => rfl⟩⟩

set_option maxRecDepth 100000 in
set_option maxHeartbeats 4000000 in
theorem implMapOf_yes (a : Option Addr) (cap : Nat) (l : List Pu) (w : World) (ha : PursesAt w a l) (hks : ∀ p ∈ l, p.k.size ≤ 1048576) (hok : psOk l = true) :
    Calls Tryd.prog 61 #[.slice a l.length cap] w fun e w' => ∃ mp mb v, e = .returned (.tuple #[.pointer (some ⟨mp, 0, none⟩), .nilIface]) ∧ PM w' w.heap.size mp mb l.length v (l.map (·.k)) (purseOf l) ∧ Below w.heap.size w w' := by
  obtain ⟨hpu, hpw, hl⟩ := (psOk_iff l).1 hok
  have HPW := hide hpw
  have HOK := hide (implPursesOk a cap l w (by omega) ha)
  have HA := hide ha
  obtain ⟨i0, hi, hz0, hz1, hz2⟩ := info_parts infoStr
  have HKS := hide hks
  have hmm := @run_makeMap Tryd.prog
  clear ha hpw hpu hks
  go_enter Tryd.func61, Tryd.ntmps61
  go_wp2_with fail
  refine (unhide HOK).mono ?_
  rintro e w1 ⟨rfl, hb1⟩
  rw [hok]
  have HB1 := hide hb1
  have hw1 := hb1.size
  clear hb1 HOK hok
  go_wp2_with fail
  go_loopw [16] (fun i wr => ∃ (k : Nat) (aa : Option Addr) (cc : Nat), k ≤ l.length ∧ i = .int .i64 k ∧ PM wr w.heap.size (w1.heap.size + 1) w1.heap.size k (.slice aa k cc) ((l.take k).map (·.k)) (purseOf (l.take k)) ∧ Below w.heap.size w wr) (fun i _ => l.length - (intOf i).toNat)
  case atStart =>
    refine ⟨0, none, 0, Nat.zero_le _, rfl, ⟨?_, ?_, ?_, by omega, by omega⟩, ((unhide HB1).alloc (by omega) _).alloc (by simp; omega) _⟩
    · have := heap_alloc_new (w1.alloc (.map #[] 0)) (.cells #[.slice none 0 0, .map (some w1.heap.size)] 85)
      rwa [show (w1.alloc (Obj.map #[] 0)).heap.size = w1.heap.size + 1 by simp] at this
    · exact World.ownsRow_nil _ _ _ _
    · exact (MapIs.made w1).kept (Below.heap_alloc _ _ _ (by simp))
  case round =>
    obtain ⟨k, aa, cc, hk, rfl, hPM, hbel⟩ := hrel
    have HP := hide hPM
    have HBL := hide hbel
    have hwr := hbel.size
    clear hPM hbel
    by_cases hlt : k < l.length
    · obtain ⟨g, off, rfl, hgw, c0, c1, c2, c3⟩ := PursesAt.four (GR.At.below (unhide HA) (unhide HBL)) k hlt
      have HUP := hide (upd_take (unhide HPW) k hlt)
      have HTK := hide (List.take_succ_eq_append_getElem hlt)
      have hkk := unhide HKS l[k] (List.getElem_mem hlt)
      generalize l[k] = pu at *
      obtain ⟨pk, pm, pf, ps⟩ := pu
      dsimp only at c0 c1 c2 c3 hkk
      go_upto_region 7 with fail
      refine Fo.wp_at (fun V hV => ?_)
      have hbV : Below wr.heap.size wr V := by rw [hV]; exact below_one' wr _
      have hblk : V.heap[wr.heap.size]? = some (.cells #[.string pk, .int .i64 pm, .int .i64 pf, .int .i64 ps] 32 (0, 0)) := by rw [hV]; exact heap_alloc_new wr _
      have hPV := (unhide HP).below hbV
      have HPV := hide hPV
      have HBK := hide hblk
      have HVS := hide (show V.heap.size = wr.heap.size + 1 by rw [hV]; simp)
      have HBV := hide ((unhide HBL).trans (hbV.mono (unhide HBL).size))
      obtain ⟨⟨p0, p1, p2, p3⟩, _⟩ := four_at hblk
      obtain ⟨⟨n0, n1⟩, f0, f1⟩ := two_at hPV.blk
      have HRW := hide (show V.ownsRow w.heap.size 9 1 (.slice aa k cc) k (((l.take k).map (·.k)).map Value.string) by
        have := hPV.row
        rw [List.length_map, List.length_take, Nat.min_eq_left hk] at this
        exact this)
      have HGR := hide (show ∀ w2 : World, ((V.alloc (.cells #[.string pk] 9)).drew).grownBy w2 (Value.slice aa k cc).ownBlock →
          w2.heap[w1.heap.size + 1]? = some (.cells #[.slice aa k cc, .map (some w1.heap.size)] 85 (0, 0)) ∧ w2.heap[w1.heap.size]? = V.heap[w1.heap.size]? ∧ w2.heap[wr.heap.size]? = V.heap[wr.heap.size]? ∧ Below w.heap.size V w2 by
        intro w2 hg
        have hb : ∀ q, q < V.heap.size → (Value.slice aa k cc).ownBlock ≠ some q → w2.heap[q]? = V.heap[q]? := fun q hq hne => by
          rw [hg.block q (by show q < (V.alloc _).heap.size; simp; omega) (Ne.symm hne)]
          exact Below.heap_alloc V _ _ hq
        obtain ⟨es, clock, hmap⟩ := hPV.map.blk
        refine ⟨?_, hb _ hPV.map.lt (own_ne_map (unhide HRW) hmap), hb _ (Fo.lt_of_blk hblk) (own_ne (unhide HRW) hblk (by decide)), ?_⟩
        · rw [hb _ (Fo.lt_of_blk hPV.blk) (own_ne (unhide HRW) hPV.blk (by decide))]
          exact hPV.blk
        · refine ⟨hg.os, hg.tape, hg.output, Nat.le_trans (by show V.heap.size ≤ (V.alloc _).heap.size; simp) hg.size, fun q hq => hb q (by have := (unhide HBV).size; omega) (fun e => ?_)⟩
          have := (unhide HRW).lt _ e
          omega)
      have n2 : (V.alloc (.cells #[.string pk] 9)).cell? ⟨w1.heap.size + 1, 0, none⟩ = some (.slice aa k cc) := by rw [World.cell?_alloc_lt _ _ _ (Fo.lt_of_blk hPV.blk)]; exact n0
      clear hblk hbV hPV hV c0 c1 c2 c3 n1 f1
      go_region_law (refine step_append_lies _ rfl (.tmp 24) (.tmp 27) 72 rfl w.heap.size 9 i0 (.string ⟨#[]⟩) 1 16 Tryd.underlying72 hi hz0 hz1 hz2 rfl (by decide) (.slice aa k cc) k (((l.take k).map (·.k)).map Value.string) (by simp [Act.eval]) ((unhide HRW).alloc _).drew ⟨V.heap.size, 0, none⟩ 1 1 [.string pk] (by simp [Act.eval]) rfl (World.news_of_block (w := (V.alloc (.cells #[.string pk] 9)).drew) (heap_alloc_new V _)) (fun u hu => by rw [List.mem_singleton.1 hu]; rfl) (by omega) (by unfold maxLen; omega) (by omega) (by have := (unhide HBV).size; simp; omega) (V.heap.size + 1) (by simp) ?_; intro g' cap' w2 hown hgrow hat hlt2; have hK2 := unhide HGR w2 hgrow; have HOW := hide hown; clear hown hgrow hat hlt2; have HM2 := hide hK2.1; have HX2 := hide hK2; obtain ⟨⟨y0, y1⟩, z0, z1⟩ := two_at hK2.1; clear hK2 y1 z1)
      all_goals
        go_upto_region 8 with fail
        refine Fo.wp_at (fun V3 hV3 => ?_)
        obtain ⟨hx1, hx2, hx3, hx4⟩ := unhide HX2
        have hmpV : w1.heap.size + 1 < wr.heap.size := Fo.lt_of_blk (unhide HP).blk
        have hblk3 : V3.heap[w1.heap.size + 1]? = some (.cells #[.slice (some ⟨g', 0, none⟩) (k + 1) cap', .map (some w1.heap.size)] 85 (0, 0)) := by rw [hV3]; exact Fo.blk_set hx1 0 _
        have hpb3 : V3.heap[wr.heap.size]? = some (.cells #[.string pk, .int .i64 pm, .int .i64 pf, .int .i64 ps] 32 (0, 0)) := by
          rw [hV3, Fo.one_other rfl (by omega), hx3]
          exact unhide HBK
        have hmap3 : MapIs V3 w1.heap.size k (purseOf (l.take k)) := (unhide HPV).map.kept (by rw [hV3, Fo.one_other rfl (by omega), hx2])
        have hrow3 : V3.ownsRow w.heap.size 9 1 (.slice (some ⟨g', 0, none⟩) (k + 1) cap') (k + 1) (((l.take k).map (·.k)).map Value.string ++ [.string pk]) := by
          rw [hV3]
          exact (unhide HOW).kept (w' := w2.setCell ⟨w1.heap.size + 1, 0, none⟩ _) (row := some (w1.heap.size + 1)) ⟨rfl, rfl, rfl, by rw [Fo.setCell_size]; exact Nat.le_refl _, fun q _ hne => Fo.one_other rfl (fun e => hne (by rw [e]))⟩ (.inr (own_ne (unhide HOW) hx1 (by decide)))
        have hkeys : (l.take (k + 1)).map (·.k) = (l.take k).map (·.k) ++ [pk] := by rw [unhide HTK]; simp
        have HPM3 := hide (show PM V3 w.heap.size (w1.heap.size + 1) w1.heap.size k (.slice (some ⟨g', 0, none⟩) (k + 1) cap') ((l.take (k + 1)).map (·.k)) (purseOf (l.take k)) by
          refine ⟨hblk3, ?_, hmap3, (unhide HP).lop, (unhide HP).lom⟩
          rw [hkeys, List.map_append, List.length_append, List.length_map, List.length_take, Nat.min_eq_left hk]
          exact hrow3)
        have HB3 := hide (show Below w.heap.size w V3 by rw [hV3]; exact ((unhide HBV).trans hx4).setCell (p := ⟨w1.heap.size + 1, 0, none⟩) (unhide HP).lop _)
        have HPUT := hide (implPut (w1.heap.size + 1) w1.heap.size k _ (purseOf (l.take k)) ⟨pk, pm, pf, ps⟩ V3 hkk (by unfold maxLen; omega) hblk3 hmap3)
        obtain ⟨⟨r0, r1, r2, r3⟩, _⟩ := four_at hpb3
        clear hx1 hx2 hx3 hx4 hblk3 hpb3 hmap3 hrow3 hkeys hV3 y0 z0 n0 n2 p0 p1 p2 p3 f0
        go_wp2_with fail
        refine (unhide HPUT).mono ?_
        rintro e w5 ⟨rfl, hm5, hk5⟩
        have HP5 := hide ((unhide HPM3).turned hk5 hm5)
        have HB5 := hide ((unhide HB3).trans (keeps_below hk5 (unhide HP).lom (unhide HB3).size))
        clear hm5 hk5 r0 r1 r2 r3
        go_wp2_with fail
        go_roundw
        case rel =>
          have h := unhide HP5
          rw [unhide HUP] at h
          exact ⟨k + 1, _, _, by omega, by go_num, h, unhide HB5⟩
        case measure => simp [intOf]; omega
    · have hke : k = l.length := by omega
      subst hke
      have hnlt : decide ((l.length : Int) < (l.length : Int)) = false := by simp
      go_wp2_with fail
      go_ret2
      have h := unhide HP
      rw [List.take_length] at h
      exact ⟨_, _, _, rfl, h, unhide HBL⟩
end Go.Proofs.YtdlhlfndobbocaaDoor
