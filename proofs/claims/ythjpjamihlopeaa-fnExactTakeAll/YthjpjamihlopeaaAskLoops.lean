/-
  The laws' own loops on rows of asks and of truths: copied, held against each other, marked.
-/
import Derived.Test.YthjpjamihlopeaaAskRows
import Derived.Test.YthjpjamihlopeaaKeeps
import Derived.Deep.QuietTactic
import Derived.Deep.RegionHeld
namespace Go.Proofs.Ythjpjamihlopeaa
open Go.RowKit
open Mth

theorem take_set (l : List (Int × Int)) (k : Nat) (hk : k < l.length) : (l.take k ++ List.replicate (l.length - k) (0, 0)).set k (l[k].1, l[k].2) = l.take (k + 1) ++ List.replicate (l.length - (k + 1)) (0, 0) := by
  have hlen : (l.take k).length = k := by simp; omega
  rw [List.set_append_right _ _ (by omega), hlen, Nat.sub_self]
  have e : l.length - k = (l.length - (k + 1)) + 1 := by omega
  rw [e, List.replicate_succ, List.take_succ_eq_append_getElem hk, List.append_assoc]
  rfl

set_option maxRecDepth 100000 in
set_option maxHeartbeats 2000000 in
theorem toAskS (a : Option Addr) (cap : Nat) (l : List (Int × Int)) (w : World) (hl : l.length ≤ 1048576) (ha : AsksAt w a l) :
    Calls Try.prog 29 #[.slice a l.length cap] w fun e w' => e = .returned (.slice (some ⟨w.heap.size, 0, none⟩) l.length l.length) ∧ askBlock w' w.heap.size l ∧ Below w.heap.size w w' := by
  have hmk := make_asks l.length (by omega)
  have HA := hide ha
  clear ha
  go_enter Try.func29, Try.ntmps29
  go_wp2_with fail
  go_loopw [4] (fun i wr => ∃ k : Nat, k ≤ l.length ∧ i = .int .i64 k ∧ askBlock wr w.heap.size (l.take k ++ List.replicate (l.length - k) (0, 0)) ∧ Below w.heap.size w wr) (fun i _ => l.length - (intOf i).toNat)
  case atStart => exact ⟨0, Nat.zero_le _, rfl, by unfold askBlock; rw [List.take_zero, List.nil_append, Nat.sub_zero]; exact heap_alloc_new w _, below_one w _⟩
  case round =>
    obtain ⟨k, hk, rfl, hB, hbel⟩ := hrel
    have HB := hide hB
    have HBL := hide hbel
    clear hB hbel hmk
    by_cases hlt : k < l.length
    · obtain ⟨g, off, rfl, hgw, hc1, hc2⟩ := unhide HA k hlt
      have q1 := ((unhide HBL).cell (p := ⟨g, off + k * 2, none⟩) hgw).trans hc1
      have q2 := ((unhide HBL).cell (p := ⟨g, off + k * 2 + 1, none⟩) hgw).trans hc2
      have TS := hide (take_set l k hlt)
      clear hc1 hc2
      generalize l[k].1 = n at *
      generalize l[k].2 = m at *
      have hln : (l.take k ++ List.replicate (l.length - k) (0, 0)).length = l.length := by simp; omega
      go_wp2_with fail
      refine (toAsk n m _).mono ?_
      rintro e w5 ⟨rfl, hb5⟩
      have HB5 : Hid (askBlock w5 w.heap.size (l.take k ++ List.replicate (l.length - k) (0, 0))) := blk_step (unhide HB) hb5
      have HBL5 := hide ((unhide HBL).trans (hb5.mono (unhide HBL).size))
      clear hb5 q1 q2
      obtain ⟨s1, s2⟩ := (unhide HB5).cells k (by omega)
      have f1 := (unhide HB5).free (k * 2)
      have f2 := (unhide HB5).free (k * 2 + 1)
      go_wp2_with fail
      go_roundw
      case rel =>
        have h := (unhide HB5).set k n m (by omega)
        rw [unhide TS] at h
        exact ⟨k + 1, by omega, by go_num, h, ((unhide HBL5).setCell (p := ⟨w.heap.size, k * 2, none⟩) (Nat.le_refl _) _).setCell (p := ⟨w.heap.size, k * 2 + 1, none⟩) (Nat.le_refl _) _⟩
      case measure => simp [intOf]; omega
    · have hke : k = l.length := by omega
      subst hke
      have hnlt : decide ((l.length : Int) < (l.length : Int)) = false := by simp
      go_wp2_with fail
      go_ret
      have h := unhide HB
      rw [List.take_length, Nat.sub_self, List.replicate_zero, List.append_nil] at h
      exact ⟨rfl, h, unhide HBL⟩

set_option maxRecDepth 100000 in
set_option maxHeartbeats 2000000 in
theorem eqAskS (ga gb ca cb : Nat) (l : List (Int × Int)) (w : World) (hl : l.length ≤ 1048576) (ha : askBlock w ga l) (hb : askBlock w gb l) :
    Calls Try.prog 31 #[.slice (some ⟨ga, 0, none⟩) l.length ca, .slice (some ⟨gb, 0, none⟩) l.length cb] w fun e w' => e = .returned (.bool true) ∧ Below w.heap.size w w' := by
  have HA := hide ha
  have HB := hide hb
  clear ha hb
  go_enter Try.func31, Try.ntmps31
  go_wp2_with fail
  go_loopw [5] (fun i wr => ∃ k : Nat, k ≤ l.length ∧ i = .int .i64 k ∧ Below w.heap.size w wr) (fun i _ => l.length - (intOf i).toNat)
  case atStart => exact ⟨0, Nat.zero_le _, rfl, Below.refl _ _⟩
  case round =>
    obtain ⟨k, hk, rfl, hbel⟩ := hrel
    have HBL := hide hbel
    clear hbel
    by_cases hlt : k < l.length
    · obtain ⟨s1, s2⟩ := (show askBlock wr ga l from blk_step (unhide HA) (unhide HBL)).cells k hlt
      obtain ⟨t1, t2⟩ := (show askBlock wr gb l from blk_step (unhide HB) (unhide HBL)).cells k hlt
      generalize l[k].1 = n at *
      generalize l[k].2 = m at *
      go_wp2_with fail
      go_region_held (fun w' => w'.cell? ⟨ga, k * 2, none⟩ = some (.int .i64 n) ∧ w'.cell? ⟨ga, k * 2 + 1, none⟩ = some (.int .i64 m) ∧ w'.cell? ⟨gb, k * 2, none⟩ = some (.int .i64 n) ∧ w'.cell? ⟨gb, k * 2 + 1, none⟩ = some (.int .i64 m)) (go_keep)
        (first
          | (go_at_call 49; refine (eqAsk n m _).mono ?_; rintro e w5 ⟨rfl, hb5⟩; have hb6 := below_of_drew' hb5; clear hb5; have HBL5 := hide ((unhide HBL).trans (hb6.mono (unhide HBL).size)); have y1 := (hb6.cell (p := ⟨ga, k * 2, none⟩) (World.block_lt_of_cell? _ _ s1)).trans s1; have y2 := (hb6.cell (p := ⟨ga, k * 2 + 1, none⟩) (World.block_lt_of_cell? _ _ s2)).trans s2; have y3 := (hb6.cell (p := ⟨gb, k * 2, none⟩) (World.block_lt_of_cell? _ _ t1)).trans t1; have y4 := (hb6.cell (p := ⟨gb, k * 2 + 1, none⟩) (World.block_lt_of_cell? _ _ t2)).trans t2; clear hb6))
      all_goals
        go_wp2_with fail
        go_roundw
        case rel => exact ⟨k + 1, by omega, by go_num, unhide HBL5⟩
        case measure => simp [intOf]; omega
    · have hke : k = l.length := by omega
      subst hke
      have hnlt : decide ((l.length : Int) < (l.length : Int)) = false := by simp
      go_wp2_with fail
      go_ret
      exact ⟨rfl, unhide HBL⟩

set_option maxRecDepth 100000 in
set_option maxHeartbeats 2000000 in
theorem markAskS (g c : Nat) (l : List (Int × Int)) (w : World) (hl : l.length ≤ 1048576) (ha : askBlock w g l) :
    Calls Try.prog 32 #[.slice (some ⟨g, 0, none⟩) l.length c, .int .i64 1] w fun e w' => e = .returned (.int .i64 (1 + 2 * (l.length : Int))) ∧ Keeps g w w' := by
  have HA := hide ha
  clear ha
  go_enter Try.func32, Try.ntmps32
  go_wp2_with fail
  go_loopw [1, 5] (fun kk i wr => ∃ (k : Nat) (l' : List (Int × Int)), k ≤ l.length ∧ i = .int .i64 k ∧ kk = .int .i64 (1 + 2 * (k : Int)) ∧ l'.length = l.length ∧ askBlock wr g l' ∧ Keeps g w wr) (fun _ i _ => l.length - (intOf i).toNat)
  case atStart => exact ⟨0, l, Nat.zero_le _, rfl, rfl, rfl, unhide HA, Keeps.refl _ _⟩
  case round =>
    obtain ⟨k, l', hk, rfl, rfl, hl', hB, hkp⟩ := hrel
    have HB := hide hB
    have HK := hide hkp
    clear hB hkp
    by_cases hlt : k < l.length
    · obtain ⟨s1, s2⟩ := (unhide HB).cells k (by omega)
      have f1 := (unhide HB).free (k * 2)
      have f2 := (unhide HB).free (k * 2 + 1)
      generalize l'[k].1 = n at *
      generalize l'[k].2 = m at *
      go_wp2_with fail
      go_roundw
      case rel => exact ⟨k + 1, l'.set k _, by omega, by go_num, by go_num, by simp [hl'], (unhide HB).set k _ _ (by omega), (unhide HK).trans ((Keeps.set _).trans (Keeps.set _))⟩
      case measure => simp [intOf]; omega
    · have hke : k = l.length := by omega
      subst hke
      have hnlt : decide ((l.length : Int) < (l.length : Int)) = false := by simp
      go_wp2_with fail
      go_ret
      exact ⟨rfl, unhide HK⟩
end Go.Proofs.Ythjpjamihlopeaa
