/-
  The laws' own marking of rows, from a number on, and the marks looked for.
-/
import Derived.Test.YtccpcmhideijpaaDoorNdW
import Derived.Test.YtccpcmhideijpaaDoorMarkB
namespace Go.Proofs.YtccpcmhideijpaaDoor
open Go.RowKit
open Mth

def mkPurse (k : Nat) : Pu := ⟨mark k, (k : Int) + 1, (k : Int) + 2, (k : Int) + 3⟩
theorem GR.W.fourPurse {w : World} {a : Option Addr} {g : Nat} {l : List Pu} (h : GR.W encP 4 w a g l) (i : Nat) (hi : i < l.length) : a = some ⟨g, 0, none⟩ ∧ g < w.heap.size ∧ (w.cell? ⟨g, i * 4, none⟩ = some (.string l[i].k) ∧ w.cell? ⟨g, i * 4 + 1, none⟩ = some (.int .i64 l[i].m) ∧ w.cell? ⟨g, i * 4 + 2, none⟩ = some (.int .i64 l[i].f) ∧ w.cell? ⟨g, i * 4 + 3, none⟩ = some (.int .i64 l[i].s)) ∧ w.frozen? ⟨g, i * 4, none⟩ = false ∧ w.frozen? ⟨g, i * 4 + 1, none⟩ = false ∧ w.frozen? ⟨g, i * 4 + 2, none⟩ = false ∧ w.frozen? ⟨g, i * 4 + 3, none⟩ = false := by
  obtain ⟨e, hg, hc⟩ := h i hi
  exact ⟨e, hg, ⟨by simpa using (hc 0 (by omega)).1, by simpa using (hc 1 (by omega)).1, by simpa using (hc 2 (by omega)).1, by simpa using (hc 3 (by omega)).1⟩, by simpa using (hc 0 (by omega)).2, (hc 1 (by omega)).2, (hc 2 (by omega)).2, (hc 3 (by omega)).2⟩
def mkSent (k : Nat) : Snt := ⟨(k : Int), (k : Int) + 1, mark (k + 2), (k : Int) + 3⟩
theorem GR.W.fourSent {w : World} {a : Option Addr} {g : Nat} {l : List Snt} (h : GR.W encSnt 4 w a g l) (i : Nat) (hi : i < l.length) : a = some ⟨g, 0, none⟩ ∧ g < w.heap.size ∧ (w.cell? ⟨g, i * 4, none⟩ = some (.int .i64 l[i].i) ∧ w.cell? ⟨g, i * 4 + 1, none⟩ = some (.int .i64 l[i].t) ∧ w.cell? ⟨g, i * 4 + 2, none⟩ = some (.string l[i].k) ∧ w.cell? ⟨g, i * 4 + 3, none⟩ = some (.int .i64 l[i].n)) ∧ w.frozen? ⟨g, i * 4, none⟩ = false ∧ w.frozen? ⟨g, i * 4 + 1, none⟩ = false ∧ w.frozen? ⟨g, i * 4 + 2, none⟩ = false ∧ w.frozen? ⟨g, i * 4 + 3, none⟩ = false := by
  obtain ⟨e, hg, hc⟩ := h i hi
  exact ⟨e, hg, ⟨by simpa using (hc 0 (by omega)).1, by simpa using (hc 1 (by omega)).1, by simpa using (hc 2 (by omega)).1, by simpa using (hc 3 (by omega)).1⟩, by simpa using (hc 0 (by omega)).2, (hc 1 (by omega)).2, (hc 2 (by omega)).2, (hc 3 (by omega)).2⟩
def mkReq (k : Nat) : Rq := ⟨(k : Int), mark (k + 1), (k : Int) + 2, (k : Int) + 3⟩
theorem GR.W.fourReq {w : World} {a : Option Addr} {g : Nat} {l : List Rq} (h : GR.W encRq 4 w a g l) (i : Nat) (hi : i < l.length) : a = some ⟨g, 0, none⟩ ∧ g < w.heap.size ∧ (w.cell? ⟨g, i * 4, none⟩ = some (.int .i64 l[i].no) ∧ w.cell? ⟨g, i * 4 + 1, none⟩ = some (.string l[i].k) ∧ w.cell? ⟨g, i * 4 + 2, none⟩ = some (.int .i64 l[i].n) ∧ w.cell? ⟨g, i * 4 + 3, none⟩ = some (.int .i64 l[i].s)) ∧ w.frozen? ⟨g, i * 4, none⟩ = false ∧ w.frozen? ⟨g, i * 4 + 1, none⟩ = false ∧ w.frozen? ⟨g, i * 4 + 2, none⟩ = false ∧ w.frozen? ⟨g, i * 4 + 3, none⟩ = false := by
  obtain ⟨e, hg, hc⟩ := h i hi
  exact ⟨e, hg, ⟨by simpa using (hc 0 (by omega)).1, by simpa using (hc 1 (by omega)).1, by simpa using (hc 2 (by omega)).1, by simpa using (hc 3 (by omega)).1⟩, by simpa using (hc 0 (by omega)).2, (hc 1 (by omega)).2, (hc 2 (by omega)).2, (hc 3 (by omega)).2⟩
def mkInt (k : Nat) : Int := k
theorem GR.W.one {w : World} {a : Option Addr} {g : Nat} {l : List Int} (h : GR.W encNum 1 w a g l) (i : Nat) (hi : i < l.length) : a = some ⟨g, 0, none⟩ ∧ g < w.heap.size ∧ w.cell? ⟨g, i, none⟩ = some (.int .i64 l[i]) ∧ w.frozen? ⟨g, i, none⟩ = false := by
  obtain ⟨e, hg, hc⟩ := h i hi
  exact ⟨e, hg, by simpa using (hc 0 (by omega)).1, by simpa using (hc 0 (by omega)).2⟩
set_option maxRecDepth 100000 in
set_option maxHeartbeats 2000000 in
theorem markIntG (a : Option Addr) (g c s : Nat) (l : List Int) (w : World) (hs0 : 0 < s) (hs1 : s ≤ 4000000000000) (hl : l.length ≤ 1048600) (ha : GR.W encNum 1 w a g l) :
    Calls Tryd.prog 21 #[.slice a l.length c, .int .i64 s] w fun e w' => e = .returned (.int .i64 (s + (l.length : Int))) ∧ GR.W encNum 1 w' a g (mks mkInt 1 s l l.length) ∧ KeepsL (fp g l) w w' := by
  have HA := hide ha
  clear ha
  go_enter Tryd.func21, Tryd.ntmps21
  go_wp2_with fail
  go_loopw [1, 5] (fun kk i wr => ∃ k m : Nat, k ≤ l.length ∧ i = .int .i64 k ∧ kk = .int .i64 m ∧ m = s + 1 * k ∧ GR.W encNum 1 wr a g (mks mkInt 1 s l k) ∧ KeepsL (fp g l) w wr) (fun _ i _ => l.length - (intOf i).toNat)
  case atStart => exact ⟨0, s, Nat.zero_le _, rfl, rfl, rfl, by rw [mks_zero]; exact unhide HA, KeepsL.refl _ _⟩
  case round =>
    obtain ⟨k, m, hk, rfl, rfl, hm, hR, hkp⟩ := hrel
    have HM := hide hm
    have HR := hide hR
    have HK := hide hkp
    clear hR hkp
    by_cases hlt : k < l.length
    · have hml := mks_length mkInt 1 s l k hk
      have hk' : k < (mks mkInt 1 s l k).length := by rw [hml]; exact hlt
      have hm0 : 0 < m := by omega
      have hm1 : (m : Int) ≤ 92233720368547758 := by omega
      obtain ⟨e0, hg0, s0, f0⟩ := GR.W.one (unhide HR) k hk'
      subst e0
      have HML := hide hml
      clear hm hml
      go_wp2_with fail
      go_roundw
      case rel =>
        have hpos : 0 < l.length := by omega
        have h5 := GR.W.set encNum_length (unhide HR) k (mkInt m) (by rw [unhide HML]; exact hlt)
        have hmk : mkInt m = mkInt (s + 1 * k) := by rw [unhide HM]
        rw [hmk, mks_set mkInt 1 s l k hlt, ← hmk, Nat.mul_one] at h5
        exact ⟨k + 1, m + 1, by omega, by go_num, by go_num, by have := unhide HM; omega, h5, (unhide HK).trans (fp_keeps (KeepsL.set _) hpos)⟩
      case measure => simp [intOf]; omega
    · have hke : k = l.length := by omega
      subst hke
      have hnlt : decide ((l.length : Int) < (l.length : Int)) = false := by simp
      clear hm
      go_wp2_with fail
      go_ret
      exact ⟨ret_int (by have := unhide HM; omega), unhide HR, unhide HK⟩
set_option maxRecDepth 100000 in
set_option maxHeartbeats 2000000 in
theorem heldIntG (a : Option Addr) (g c n s : Nat) (l : List Int) (w : World) (hn : n = l.length) (hs0 : 0 < s) (hs1 : s ≤ 4000000000000) (hl : l.length ≤ 1048600) (ha : GR.W encNum 1 w a g (mks mkInt 1 s l l.length)) :
    Calls Tryd.prog 22 #[.slice a n c, .int .i64 s] w fun e w' => e = .returned (.int .i64 (s + (l.length : Int))) ∧ Below w.heap.size w w' := by
  have HA := hide ha
  clear ha
  subst hn
  go_enter Tryd.func22, Tryd.ntmps22
  go_wp2_with fail
  go_loopw [1, 5] (fun kk i wr => ∃ k m : Nat, k ≤ l.length ∧ i = .int .i64 k ∧ kk = .int .i64 m ∧ m = s + 1 * k ∧ Below w.heap.size w wr) (fun _ i _ => l.length - (intOf i).toNat)
  case atStart => exact ⟨0, s, Nat.zero_le _, rfl, rfl, rfl, Below.refl _ _⟩
  case round =>
    obtain ⟨k, m, hk, rfl, rfl, hm, hbel⟩ := hrel
    have HM := hide hm
    have HBL := hide hbel
    clear hbel
    by_cases hlt : k < l.length
    · have hm0 : 0 < m := by omega
      have hm1 : (m : Int) ≤ 92233720368547758 := by omega
      obtain ⟨e0, hgl, s0, _⟩ := GR.W.one (GR.W.below (unhide HA) (unhide HBL)) k (by rw [mks_length mkInt 1 s l l.length (Nat.le_refl _)]; exact hlt)
      rw [mks_at mkInt 1 s l l.length k hlt (Nat.le_refl _), ← hm] at s0
      dsimp only [mkInt] at s0
      subst e0
      clear hm
      go_wp2_with fail
      first | go_quiet (fail) | skip
      go_wp2_with fail
      go_roundw
      case rel => exact ⟨k + 1, m + 1, by omega, by go_num, by go_num, by have := unhide HM; omega, (unhide HBL).trans ⟨rfl, rfl, rfl, Nat.le_refl _, fun _ _ => rfl⟩⟩
      case measure => simp [intOf]; omega
    · have hke : k = l.length := by omega
      subst hke
      have hnlt : decide ((l.length : Int) < (l.length : Int)) = false := by simp
      clear hm
      go_wp2_with fail
      go_ret
      exact ⟨ret_int (by have := unhide HM; omega), unhide HBL⟩

end Go.Proofs.YtccpcmhideijpaaDoor
