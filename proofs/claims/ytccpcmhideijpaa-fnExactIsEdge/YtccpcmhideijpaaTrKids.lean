/-
  A node's kids, of both; whether a node is an edge, in plain terms.
-/
import Derived.Test.YtccpcmhideijpaaTrUp
import Derived.Test.YtccpcmhideijpaaTrOk
import Derived.Test.YtccpcmhideijpaaRows2
namespace Go.Proofs.Ytccpcmhideijpaa
namespace Mth
def kidsTo (l : List Int) (n : Int) (k : Nat) : List Int := ((List.range k).filter (fun i => decide (l[i]?.getD (-1) = n))).map (fun i : Nat => (i : Int))
def kidsN (l : List Int) (n : Int) : List Int := kidsTo l n l.length
theorem kidsTo_yes (l : List Int) (n : Int) (k : Nat) (hk : k < l.length) (h : l[k] = n) : kidsTo l n (k + 1) = kidsTo l n k ++ [(k : Int)] := by
  unfold kidsTo
  rw [List.range_succ, List.filter_append, List.map_append]
  congr 1
  rw [List.filter_cons_of_pos (by rw [List.getElem?_eq_getElem hk, Option.getD_some, h]; simp)]
  rfl
theorem kidsTo_no (l : List Int) (n : Int) (k : Nat) (hk : k < l.length) (h : l[k] ≠ n) : kidsTo l n (k + 1) = kidsTo l n k := by
  unfold kidsTo
  rw [List.range_succ, List.filter_append, List.map_append]
  rw [List.filter_cons_of_neg (by rw [List.getElem?_eq_getElem hk, Option.getD_some]; simpa using h)]
  simp
theorem kidsTo_one {l : List Int} (hT : TreeP l) (n : Int) (hn : 0 ≤ n) : kidsTo l n 1 = [] := by
  rw [kidsTo_no l n 0 hT.pos (by rw [hT.at_zero]; omega)]
  rfl
theorem kidsTo_len (l : List Int) (n : Int) (k : Nat) : (kidsTo l n k).length ≤ k := by
  unfold kidsTo
  rw [List.length_map]
  exact Nat.le_trans (List.length_filter_le _ _) (by simp)
theorem kids_mem (l : List Int) (n : Int) (k : Nat) (x : Int) : x ∈ kidsTo l n k ↔ ∃ i : Nat, i < k ∧ x = (i : Int) ∧ l[i]?.getD (-1) = n := by
  unfold kidsTo
  simp only [List.mem_map, List.mem_filter, List.mem_range, decide_eq_true_eq]
  constructor
  · rintro ⟨i, ⟨h1, h2⟩, rfl⟩; exact ⟨i, h1, rfl, h2⟩
  · rintro ⟨i, h1, rfl, h2⟩; exact ⟨i, ⟨h1, h2⟩, rfl⟩
end Mth
open Go.RowKit
open Mth

theorem infoIntK : (Try.prog.info? 3).map (fun i => (i.zero, i.size, i.bytes)) = some (some (.int .i64 0), 1, 8) := by kernel_rfl
theorem flat_snoc_int (l : List Int) (x : Int) : GR.flat encNum (l ++ [x]) = GR.flat encNum l ++ [.int .i64 x] := by rw [GR.flat_append, GR.flat_one]
set_option maxRecDepth 100000 in
set_option maxHeartbeats 2000000 in
theorem specKidsOf (a : Option Addr) (cap : Nat) (l : List Int) (n : Int) (w : World) (hl : l.length ≤ 1048600) (ha : IntsAt w a l) (htb : treeB l = true) (hn : 0 ≤ n) :
    Calls Try.prog 13 #[trv a l cap, .int .i64 n] w fun e w' => ∃ v, e = .returned v ∧ w'.ownsRow w.heap.size 3 1 v (kidsN l n).length (GR.flat encNum (kidsN l n)) ∧ Below w.heap.size w w' := by
  obtain ⟨i0, hi, hz0, hz1, hz2⟩ := info_parts infoIntK
  have HTP := hide (TreeP.of htb)
  have HT0 := heap_alloc_new w (.cells #[.slice a l.length cap] 27)
  have HB0 := below_one' w (.cells #[.slice a l.length cap] 27)
  have HA0 := GR.At.below ha HB0
  have hsz0 : (w.alloc (.cells #[.slice a l.length cap] 27)).heap.size = w.heap.size + 1 := by simp
  have HC := hide (fun W (hb : Below (w.alloc (.cells #[.slice a l.length cap] 27)).heap.size (w.alloc (.cells #[.slice a l.length cap] 27)) W) => specTreeOk a cap l W hl (GR.At.below HA0 hb))
  rw [htb] at HC
  clear ha htb
  have hl30 := (unhide HTP).le
  go_enter Try.func13, Try.ntmps13
  go_wp2_with fail
  generalize w.alloc (.cells #[.slice a l.length cap] 27) = W0 at *
  have HA := hide HA0
  have HB := hide HB0
  have HT := hide HT0
  have HZ := hide hsz0
  clear HA0 HB0 HT0 hsz0
  go_loopw [5, 6] (fun v i wr => ∃ k : Nat, 1 ≤ k ∧ k ≤ l.length ∧ i = .int .i64 k ∧ wr.ownsRow W0.heap.size 3 1 v (kidsTo l n k).length (GR.flat encNum (kidsTo l n k)) ∧ Below W0.heap.size W0 wr) (fun _ i _ => l.length - (intOf i).toNat)
  case atStart =>
    refine ⟨1, Nat.le_refl _, (unhide HTP).pos, rfl, ?_, (Below.refl _ _).alloc (Nat.le_refl _) _⟩
    rw [kidsTo_one (unhide HTP) n hn, ← unhide HZ]
    exact World.ownsRow_lit _ #[] 0 (Nat.le_refl _) (by decide) rfl
  case round =>
    obtain ⟨k, hk1, hk, rfl, hown, hbel⟩ := hrel
    have HBL := hide hbel
    have t1 := (one_at (tr_step (unhide HT) hbel)).1
    by_cases hlt : k < l.length
    · have hlen := kidsTo_len l n k
      have HOK := unhide HC _ hbel
      clear hbel
      go_wp2_with fail
      refine HOK.mono ?_
      rintro e w1 ⟨rfl, hb1⟩
      have HB1 := hide ((unhide HBL).trans (hb1.mono (unhide HBL).size))
      have hown1 := GR.own_below hown hb1
      have t2 := (one_at (tr_step (unhide HT) (unhide HB1))).1
      obtain ⟨g, off, rfl, hgw, q0⟩ := IntsAt.one (GR.At.below (unhide HA) (unhide HB1)) k hlt
      clear hown hb1 t1
      by_cases hkn : l[k] = n
      · have HY := hide (kidsTo_yes l n k hlt hkn)
        rw [hkn] at q0
        have hnn : (n == n) = true := by simp
        clear hkn
        go_wp2_with (at_builtin; refine wpList_append_own _ rfl _ _ 22 rfl W0.heap.size 3 i0 (.int .i64 0) 1 8 Try.underlying22 hi hz0 hz1 hz2 rfl (by decide) _ _ _ rfl (hown1.alloc _) ⟨w1.heap.size, 0, none⟩ 1 1 [.int .i64 (k : Int)] rfl rfl ?c1 ?c2 ?c3 ?c4 ?c5 ?_)
        case c1 => exact cell_one_new _ _ _
        case c2 => intro u hu; simp at hu; subst hu; rfl
        case c3 => unfold maxLen; omega
        case c4 => omega
        case c5 => have := (unhide HB1).size; simp; omega
        intro v' w2 hown' hgrow _
        have hbel' := hide (GR.below_append (unhide HB1) (unhide HB1).size hown1 hgrow)
        have hown2 : Hid (w2.ownsRow W0.heap.size 3 1 v' (kidsTo l n (k + 1)).length (GR.flat encNum (kidsTo l n (k + 1)))) := by
          rw [unhide HY, flat_snoc_int, List.length_append, List.length_singleton]
          exact hown'
        clear hown' hgrow hown1
        go_wp2_with fail
        go_roundw
        case rel => exact ⟨k + 1, by omega, by omega, by go_num, unhide hown2, unhide hbel'⟩
        case measure => simp [intOf]; omega
      · have HY := hide (kidsTo_no l n k hlt hkn)
        generalize l[k] = pu at *
        have hnn : (pu == n) = false := by simpa using hkn
        go_wp2_with fail
        go_roundw
        case rel => exact ⟨k + 1, by omega, by omega, by go_num, by rw [unhide HY]; exact hown1, unhide HB1⟩
        case measure => simp [intOf]; omega
    · have hke : k = l.length := by omega
      subst hke
      clear hbel
      go_wp2_with fail
      go_ret
      exact ⟨_, rfl, GR.own_lower hown (by have := unhide HZ; omega), (unhide HB).trans ((unhide HBL).mono (unhide HB).size)⟩
end Go.Proofs.Ytccpcmhideijpaa
