/- Parts. -/
import Derived.Test.YtbanjohfcnadfaaGreatDoorPw5
import Derived.Test.YtbanjohfcnadfaaGreatDoorPw11
namespace Go.Proofs.YtbanjohfcnadfaaGreatDoor
open Go.RowKit
open Mth

def mkPurse (k : Nat) : Pu := ⟨mark k, (k : Int) + 1, (k : Int) + 2, (k : Int) + 3⟩
theorem GR.W.fourPurse {w : World} {a : Option Addr} {g : Nat} {l : List Pu} (h : GR.W encP 4 w a g l) (i : Nat) (hi : i < l.length) : a = some ⟨g, 0, none⟩ ∧ g < w.heap.size ∧ (w.cell? ⟨g, i * 4, none⟩ = some (.string l[i].k) ∧ w.cell? ⟨g, i * 4 + 1, none⟩ = some (.int .i64 l[i].m) ∧ w.cell? ⟨g, i * 4 + 2, none⟩ = some (.int .i64 l[i].f) ∧ w.cell? ⟨g, i * 4 + 3, none⟩ = some (.int .i64 l[i].s)) ∧ w.frozen? ⟨g, i * 4, none⟩ = false ∧ w.frozen? ⟨g, i * 4 + 1, none⟩ = false ∧ w.frozen? ⟨g, i * 4 + 2, none⟩ = false ∧ w.frozen? ⟨g, i * 4 + 3, none⟩ = false := by
  obtain ⟨e, hg, hc⟩ := h i hi
  exact ⟨e, hg, ⟨by simpa using (hc 0 (by omega)).1, by simpa using (hc 1 (by omega)).1, by simpa using (hc 2 (by omega)).1, by simpa using (hc 3 (by omega)).1⟩, by simpa using (hc 0 (by omega)).2, (hc 1 (by omega)).2, (hc 2 (by omega)).2, (hc 3 (by omega)).2⟩
set_option maxRecDepth 100000 in
set_option maxHeartbeats 2000000 in
theorem markPurseG (a : Option Addr) (g c s : Nat) (l : List Pu) (w : World) (hs0 : 0 < s) (hs1 : s ≤ 4000000000000) (hl : l.length ≤ 1048600) (ha : GR.W encP 4 w a g l) :
    Calls Tryz.prog 51 #[.slice a l.length c, .int .i64 s] w fun e w' => e = .returned (.int .i64 (s + 4 * (l.length : Int))) ∧ GR.W encP 4 w' a g (mks mkPurse 4 s l l.length) ∧ KeepsL (fp g l) w w' := by
  have HA := hide ha
  clear ha
  go_enter Tryz.func51, Tryz.ntmps51
  go_wp2_with fail
  go_loopw [1, 5] (fun kk i wr => ∃ k m : Nat, k ≤ l.length ∧ i = .int .i64 k ∧ kk = .int .i64 m ∧ m = s + 4 * k ∧ GR.W encP 4 wr a g (mks mkPurse 4 s l k) ∧ KeepsL (fp g l) w wr) (fun _ i _ => l.length - (intOf i).toNat)
  case atStart => exact ⟨0, s, Nat.zero_le _, rfl, rfl, rfl, by rw [mks_zero]; exact unhide HA, KeepsL.refl _ _⟩
  case round =>
    obtain ⟨k, m, hk, rfl, rfl, hm, hR, hkp⟩ := hrel
    have HM := hide hm
    have HR := hide hR
    have HK := hide hkp
    clear hR hkp
    by_cases hlt : k < l.length
    · have hml := mks_length mkPurse 4 s l k hk
      have hk' : k < (mks mkPurse 4 s l k).length := by rw [hml]; exact hlt
      have hm0 : 0 < m := by omega
      have hm1 : (m : Int) ≤ 92233720368547758 := by omega
      obtain ⟨e0, hg0, ⟨s0, s1, s2, s3⟩, f0, f1, f2, f3⟩ := GR.W.fourPurse (unhide HR) k hk'
      subst e0
      have HMT := hide (fun z w1 (hz : z = ((m + 0 : Nat) : Int)) => markTextI (m + 0) z w1 hz (by omega) (by omega))
      have HML := hide hml
      clear hm hml
      go_wp2_with (go_at_call 55; refine (unhide HMT _ _ (by omega)).mono ?_; rintro e w1 ⟨rfl, hb1⟩; have HB1 := hide hb1; have hgz := hb1.size; obtain ⟨hcc, hff⟩ := bcell hb1; clear hb1)
      go_roundw
      case rel =>
        have hpos : 0 < l.length := by omega
        have h0 := GR.W.toC encP_length (by omega) (unhide HR)
        have e1 : (m : Int) + 1 + 1 = m + 2 := by omega
        have e3 : (m : Int) + 2 + 1 = m + 3 := by omega
        (try simp only [e1, e3] at HB1 ⊢)
        have hB := GR.C.below h0 (unhide HB1)
        have h1 := GR.C.set hB (k * 4) (.string (mkPurse m).k)
        have h2 := GR.C.set h1 (k * 4 + 1) (.int .i64 (mkPurse m).m)
        have h3 := GR.C.set h2 (k * 4 + 2) (.int .i64 (mkPurse m).f)
        have h4 := GR.C.set h3 (k * 4 + 3) (.int .i64 (mkPurse m).s)
        have hf := GR.flat_set encP 4 encP_length (mks mkPurse 4 s l k) k (mkPurse m) (by rw [unhide HML]; exact hlt)
        have h5 := GR.C.toW (enc := encP) (l := (mks mkPurse 4 s l k).set k (mkPurse m)) encP_length (by omega) (by rw [← hf]; exact h4)
        have hmk : mkPurse m = mkPurse (s + 4 * k) := by rw [unhide HM]
        rw [hmk, mks_set mkPurse 4 s l k hlt, ← hmk] at h5
        refine ⟨k + 1, m + 4, by omega, by go_num, by go_num, by have := unhide HM; omega, h5, ?_⟩
        exact ((((((unhide HK).trans (KeepsL.of_below (unhide HB1))).trans (fp_keeps (KeepsL.set _) hpos)).trans (fp_keeps (KeepsL.set _) hpos)).trans (fp_keeps (KeepsL.set _) hpos)).trans (fp_keeps (KeepsL.set _) hpos))
      case measure => simp [intOf]; omega
    · have hke : k = l.length := by omega
      subst hke
      have hnlt : decide ((l.length : Int) < (l.length : Int)) = false := by simp
      clear hm
      go_wp2_with fail
      go_ret
      exact ⟨ret_int (by have := unhide HM; omega), unhide HR, unhide HK⟩
set_option maxRecDepth 100000 in
set_option maxHeartbeats 2000000 in
theorem heldPurseG (a : Option Addr) (g c n s : Nat) (l : List Pu) (w : World) (hn : n = l.length) (hs0 : 0 < s) (hs1 : s ≤ 4000000000000) (hl : l.length ≤ 1048600) (ha : GR.W encP 4 w a g (mks mkPurse 4 s l l.length)) :
    Calls Tryz.prog 59 #[.slice a n c, .int .i64 s] w fun e w' => e = .returned (.int .i64 (s + 4 * (l.length : Int))) ∧ Below w.heap.size w w' := by
  have HA := hide ha
  clear ha
  subst hn
  go_enter Tryz.func59, Tryz.ntmps59
  go_wp2_with fail
  go_loopw [1, 5] (fun kk i wr => ∃ k m : Nat, k ≤ l.length ∧ i = .int .i64 k ∧ kk = .int .i64 m ∧ m = s + 4 * k ∧ Below w.heap.size w wr) (fun _ i _ => l.length - (intOf i).toNat)
  case atStart => exact ⟨0, s, Nat.zero_le _, rfl, rfl, rfl, Below.refl _ _⟩
  case round =>
    obtain ⟨k, m, hk, rfl, rfl, hm, hbel⟩ := hrel
    have HM := hide hm
    have HBL := hide hbel
    clear hbel
    by_cases hlt : k < l.length
    · have hm0 : 0 < m := by omega
      have hm1 : (m : Int) ≤ 92233720368547758 := by omega
      obtain ⟨e0, hgl, ⟨s0, s1, s2, s3⟩, _⟩ := GR.W.fourPurse (GR.W.below (unhide HA) (unhide HBL)) k (by rw [mks_length mkPurse 4 s l l.length (Nat.le_refl _)]; exact hlt)
      rw [mks_at mkPurse 4 s l l.length k hlt (Nat.le_refl _), ← hm] at s0 s1 s2 s3
      dsimp only [mkPurse] at s0 s1 s2 s3
      subst e0
      have HMT := hide (fun z w1 (hz : z = ((m + 0 : Nat) : Int)) => markTextI (m + 0) z w1 hz (by omega) (by omega))
      clear hm
      have e1 : (m : Int) + 1 + 1 = m + 2 := by omega
      have e3 : (m : Int) + 2 + 1 = m + 3 := by omega
      go_wp2_with fail
      go_region_with (go_at_call 55; refine (unhide HMT _ _ (by omega)).mono ?_; rintro e w1 ⟨rfl, hb1⟩; have hc0 := (bcell hb1).1 g (k * 4) (by simpa using hgl); have hc1 := (bcell hb1).1 g (k * 4 + 1) (by simpa using hgl); have hc2 := (bcell hb1).1 g (k * 4 + 2) (by simpa using hgl); have hc3 := (bcell hb1).1 g (k * 4 + 3) (by simpa using hgl); have HBL1 := hide ((unhide HBL).trans (((Below.refl _ _).drew.trans hb1).mono (unhide HBL).size)); clear hb1)
      all_goals
        go_wp2_with fail
        go_roundw
        case rel => exact ⟨k + 1, m + 4, by omega, by go_num, by go_num, by have := unhide HM; omega, unhide HBL1⟩
        case measure => simp [intOf]; omega
    · have hke : k = l.length := by omega
      subst hke
      have hnlt : decide ((l.length : Int) < (l.length : Int)) = false := by simp
      clear hm
      go_wp2_with fail
      go_ret
      exact ⟨ret_int (by have := unhide HM; omega), unhide HBL⟩

def mkSent (k : Nat) : Snt := ⟨(k : Int), (k : Int) + 1, mark (k + 2), (k : Int) + 3⟩
theorem GR.W.fourSent {w : World} {a : Option Addr} {g : Nat} {l : List Snt} (h : GR.W encSnt 4 w a g l) (i : Nat) (hi : i < l.length) : a = some ⟨g, 0, none⟩ ∧ g < w.heap.size ∧ (w.cell? ⟨g, i * 4, none⟩ = some (.int .i64 l[i].i) ∧ w.cell? ⟨g, i * 4 + 1, none⟩ = some (.int .i64 l[i].t) ∧ w.cell? ⟨g, i * 4 + 2, none⟩ = some (.string l[i].k) ∧ w.cell? ⟨g, i * 4 + 3, none⟩ = some (.int .i64 l[i].n)) ∧ w.frozen? ⟨g, i * 4, none⟩ = false ∧ w.frozen? ⟨g, i * 4 + 1, none⟩ = false ∧ w.frozen? ⟨g, i * 4 + 2, none⟩ = false ∧ w.frozen? ⟨g, i * 4 + 3, none⟩ = false := by
  obtain ⟨e, hg, hc⟩ := h i hi
  exact ⟨e, hg, ⟨by simpa using (hc 0 (by omega)).1, by simpa using (hc 1 (by omega)).1, by simpa using (hc 2 (by omega)).1, by simpa using (hc 3 (by omega)).1⟩, by simpa using (hc 0 (by omega)).2, (hc 1 (by omega)).2, (hc 2 (by omega)).2, (hc 3 (by omega)).2⟩
set_option maxRecDepth 100000 in
set_option maxHeartbeats 2000000 in
theorem markSentG (a : Option Addr) (g c s : Nat) (l : List Snt) (w : World) (hs0 : 0 < s) (hs1 : s ≤ 4000000000000) (hl : l.length ≤ 1048600) (ha : GR.W encSnt 4 w a g l) :
    Calls Tryz.prog 52 #[.slice a l.length c, .int .i64 s] w fun e w' => e = .returned (.int .i64 (s + 4 * (l.length : Int))) ∧ GR.W encSnt 4 w' a g (mks mkSent 4 s l l.length) ∧ KeepsL (fp g l) w w' := by
  have HA := hide ha
  clear ha
  go_enter Tryz.func52, Tryz.ntmps52
  go_wp2_with fail
  go_loopw [1, 5] (fun kk i wr => ∃ k m : Nat, k ≤ l.length ∧ i = .int .i64 k ∧ kk = .int .i64 m ∧ m = s + 4 * k ∧ GR.W encSnt 4 wr a g (mks mkSent 4 s l k) ∧ KeepsL (fp g l) w wr) (fun _ i _ => l.length - (intOf i).toNat)
  case atStart => exact ⟨0, s, Nat.zero_le _, rfl, rfl, rfl, by rw [mks_zero]; exact unhide HA, KeepsL.refl _ _⟩
  case round =>
    obtain ⟨k, m, hk, rfl, rfl, hm, hR, hkp⟩ := hrel
    have HM := hide hm
    have HR := hide hR
    have HK := hide hkp
    clear hR hkp
    by_cases hlt : k < l.length
    · have hml := mks_length mkSent 4 s l k hk
      have hk' : k < (mks mkSent 4 s l k).length := by rw [hml]; exact hlt
      have hm0 : 0 < m := by omega
      have hm1 : (m : Int) ≤ 92233720368547758 := by omega
      obtain ⟨e0, hg0, ⟨s0, s1, s2, s3⟩, f0, f1, f2, f3⟩ := GR.W.fourSent (unhide HR) k hk'
      subst e0
      have HMT := hide (fun z w1 (hz : z = ((m + 2 : Nat) : Int)) => markTextI (m + 2) z w1 hz (by omega) (by omega))
      have HML := hide hml
      clear hm hml
      go_wp2_with (go_at_call 55; refine (unhide HMT _ _ (by omega)).mono ?_; rintro e w1 ⟨rfl, hb1⟩; have HB1 := hide hb1; have hgz := hb1.size; obtain ⟨hcc, hff⟩ := bcell hb1; clear hb1)
      go_roundw
      case rel =>
        have hpos : 0 < l.length := by omega
        have h0 := GR.W.toC encSnt_length (by omega) (unhide HR)
        have e1 : (m : Int) + 1 + 1 = m + 2 := by omega
        have e3 : (m : Int) + 2 + 1 = m + 3 := by omega
        (try simp only [e1, e3] at HB1 ⊢)
        have h1 := GR.C.set h0 (k * 4) (.int .i64 (mkSent m).i)
        have h2 := GR.C.set h1 (k * 4 + 1) (.int .i64 (mkSent m).t)
        have hB := GR.C.below h2 (unhide HB1)
        have h3 := GR.C.set hB (k * 4 + 2) (.string (mkSent m).k)
        have h4 := GR.C.set h3 (k * 4 + 3) (.int .i64 (mkSent m).n)
        have hf := GR.flat_set encSnt 4 encSnt_length (mks mkSent 4 s l k) k (mkSent m) (by rw [unhide HML]; exact hlt)
        have h5 := GR.C.toW (enc := encSnt) (l := (mks mkSent 4 s l k).set k (mkSent m)) encSnt_length (by omega) (by rw [← hf]; exact h4)
        have hmk : mkSent m = mkSent (s + 4 * k) := by rw [unhide HM]
        rw [hmk, mks_set mkSent 4 s l k hlt, ← hmk] at h5
        refine ⟨k + 1, m + 4, by omega, by go_num, by go_num, by have := unhide HM; omega, h5, ?_⟩
        exact ((((((unhide HK).trans (fp_keeps (KeepsL.set _) hpos)).trans (fp_keeps (KeepsL.set _) hpos)).trans (KeepsL.of_below (unhide HB1))).trans (fp_keeps (KeepsL.set _) hpos)).trans (fp_keeps (KeepsL.set _) hpos))
      case measure => simp [intOf]; omega
    · have hke : k = l.length := by omega
      subst hke
      have hnlt : decide ((l.length : Int) < (l.length : Int)) = false := by simp
      clear hm
      go_wp2_with fail
      go_ret
      exact ⟨ret_int (by have := unhide HM; omega), unhide HR, unhide HK⟩
set_option maxRecDepth 100000 in
set_option maxHeartbeats 2000000 in
theorem heldSentG (a : Option Addr) (g c n s : Nat) (l : List Snt) (w : World) (hn : n = l.length) (hs0 : 0 < s) (hs1 : s ≤ 4000000000000) (hl : l.length ≤ 1048600) (ha : GR.W encSnt 4 w a g (mks mkSent 4 s l l.length)) :
    Calls Tryz.prog 60 #[.slice a n c, .int .i64 s] w fun e w' => e = .returned (.int .i64 (s + 4 * (l.length : Int))) ∧ Below w.heap.size w w' := by
  have HA := hide ha
  clear ha
  subst hn
  go_enter Tryz.func60, Tryz.ntmps60
  go_wp2_with fail
  go_loopw [1, 5] (fun kk i wr => ∃ k m : Nat, k ≤ l.length ∧ i = .int .i64 k ∧ kk = .int .i64 m ∧ m = s + 4 * k ∧ Below w.heap.size w wr) (fun _ i _ => l.length - (intOf i).toNat)
  case atStart => exact ⟨0, s, Nat.zero_le _, rfl, rfl, rfl, Below.refl _ _⟩
  case round =>
    obtain ⟨k, m, hk, rfl, rfl, hm, hbel⟩ := hrel
    have HM := hide hm
    have HBL := hide hbel
    clear hbel
    by_cases hlt : k < l.length
    · have hm0 : 0 < m := by omega
      have hm1 : (m : Int) ≤ 92233720368547758 := by omega
      obtain ⟨e0, hgl, ⟨s0, s1, s2, s3⟩, _⟩ := GR.W.fourSent (GR.W.below (unhide HA) (unhide HBL)) k (by rw [mks_length mkSent 4 s l l.length (Nat.le_refl _)]; exact hlt)
      rw [mks_at mkSent 4 s l l.length k hlt (Nat.le_refl _), ← hm] at s0 s1 s2 s3
      dsimp only [mkSent] at s0 s1 s2 s3
      subst e0
      have HMT := hide (fun z w1 (hz : z = ((m + 2 : Nat) : Int)) => markTextI (m + 2) z w1 hz (by omega) (by omega))
      clear hm
      have e1 : (m : Int) + 1 + 1 = m + 2 := by omega
      have e3 : (m : Int) + 2 + 1 = m + 3 := by omega
      go_wp2_with fail
      go_region_with (go_at_call 55; refine (unhide HMT _ _ (by omega)).mono ?_; rintro e w1 ⟨rfl, hb1⟩; have hc0 := (bcell hb1).1 g (k * 4) (by simpa using hgl); have hc1 := (bcell hb1).1 g (k * 4 + 1) (by simpa using hgl); have hc2 := (bcell hb1).1 g (k * 4 + 2) (by simpa using hgl); have hc3 := (bcell hb1).1 g (k * 4 + 3) (by simpa using hgl); have HBL1 := hide ((unhide HBL).trans (((Below.refl _ _).drew.trans hb1).mono (unhide HBL).size)); clear hb1)
      all_goals
        go_wp2_with fail
        go_roundw
        case rel => exact ⟨k + 1, m + 4, by omega, by go_num, by go_num, by have := unhide HM; omega, unhide HBL1⟩
        case measure => simp [intOf]; omega
    · have hke : k = l.length := by omega
      subst hke
      have hnlt : decide ((l.length : Int) < (l.length : Int)) = false := by simp
      clear hm
      go_wp2_with fail
      go_ret
      exact ⟨ret_int (by have := unhide HM; omega), unhide HBL⟩

def mkReq (k : Nat) : Rq := ⟨(k : Int), mark (k + 1), (k : Int) + 2, (k : Int) + 3⟩
theorem GR.W.fourReq {w : World} {a : Option Addr} {g : Nat} {l : List Rq} (h : GR.W encRq 4 w a g l) (i : Nat) (hi : i < l.length) : a = some ⟨g, 0, none⟩ ∧ g < w.heap.size ∧ (w.cell? ⟨g, i * 4, none⟩ = some (.int .i64 l[i].no) ∧ w.cell? ⟨g, i * 4 + 1, none⟩ = some (.string l[i].k) ∧ w.cell? ⟨g, i * 4 + 2, none⟩ = some (.int .i64 l[i].n) ∧ w.cell? ⟨g, i * 4 + 3, none⟩ = some (.int .i64 l[i].s)) ∧ w.frozen? ⟨g, i * 4, none⟩ = false ∧ w.frozen? ⟨g, i * 4 + 1, none⟩ = false ∧ w.frozen? ⟨g, i * 4 + 2, none⟩ = false ∧ w.frozen? ⟨g, i * 4 + 3, none⟩ = false := by
  obtain ⟨e, hg, hc⟩ := h i hi
  exact ⟨e, hg, ⟨by simpa using (hc 0 (by omega)).1, by simpa using (hc 1 (by omega)).1, by simpa using (hc 2 (by omega)).1, by simpa using (hc 3 (by omega)).1⟩, by simpa using (hc 0 (by omega)).2, (hc 1 (by omega)).2, (hc 2 (by omega)).2, (hc 3 (by omega)).2⟩
set_option maxRecDepth 100000 in
set_option maxHeartbeats 2000000 in
theorem markReqG (a : Option Addr) (g c s : Nat) (l : List Rq) (w : World) (hs0 : 0 < s) (hs1 : s ≤ 4000000000000) (hl : l.length ≤ 1048600) (ha : GR.W encRq 4 w a g l) :
    Calls Tryz.prog 54 #[.slice a l.length c, .int .i64 s] w fun e w' => e = .returned (.int .i64 (s + 4 * (l.length : Int))) ∧ GR.W encRq 4 w' a g (mks mkReq 4 s l l.length) ∧ KeepsL (fp g l) w w' := by
  have HA := hide ha
  clear ha
  go_enter Tryz.func54, Tryz.ntmps54
  go_wp2_with fail
  go_loopw [1, 5] (fun kk i wr => ∃ k m : Nat, k ≤ l.length ∧ i = .int .i64 k ∧ kk = .int .i64 m ∧ m = s + 4 * k ∧ GR.W encRq 4 wr a g (mks mkReq 4 s l k) ∧ KeepsL (fp g l) w wr) (fun _ i _ => l.length - (intOf i).toNat)
  case atStart => exact ⟨0, s, Nat.zero_le _, rfl, rfl, rfl, by rw [mks_zero]; exact unhide HA, KeepsL.refl _ _⟩
  case round =>
    obtain ⟨k, m, hk, rfl, rfl, hm, hR, hkp⟩ := hrel
    have HM := hide hm
    have HR := hide hR
    have HK := hide hkp
    clear hR hkp
    by_cases hlt : k < l.length
    · have hml := mks_length mkReq 4 s l k hk
      have hk' : k < (mks mkReq 4 s l k).length := by rw [hml]; exact hlt
      have hm0 : 0 < m := by omega
      have hm1 : (m : Int) ≤ 92233720368547758 := by omega
      obtain ⟨e0, hg0, ⟨s0, s1, s2, s3⟩, f0, f1, f2, f3⟩ := GR.W.fourReq (unhide HR) k hk'
      subst e0
      have HMT := hide (fun z w1 (hz : z = ((m + 1 : Nat) : Int)) => markTextI (m + 1) z w1 hz (by omega) (by omega))
      have HML := hide hml
      clear hm hml
      go_wp2_with (go_at_call 55; refine (unhide HMT _ _ (by omega)).mono ?_; rintro e w1 ⟨rfl, hb1⟩; have HB1 := hide hb1; have hgz := hb1.size; obtain ⟨hcc, hff⟩ := bcell hb1; clear hb1)
      go_roundw
      case rel =>
        have hpos : 0 < l.length := by omega
        have h0 := GR.W.toC encRq_length (by omega) (unhide HR)
        have e1 : (m : Int) + 1 + 1 = m + 2 := by omega
        have e3 : (m : Int) + 2 + 1 = m + 3 := by omega
        (try simp only [e1, e3] at HB1 ⊢)
        have h1 := GR.C.set h0 (k * 4) (.int .i64 (mkReq m).no)
        have hB := GR.C.below h1 (unhide HB1)
        have h2 := GR.C.set hB (k * 4 + 1) (.string (mkReq m).k)
        have h3 := GR.C.set h2 (k * 4 + 2) (.int .i64 (mkReq m).n)
        have h4 := GR.C.set h3 (k * 4 + 3) (.int .i64 (mkReq m).s)
        have hf := GR.flat_set encRq 4 encRq_length (mks mkReq 4 s l k) k (mkReq m) (by rw [unhide HML]; exact hlt)
        have h5 := GR.C.toW (enc := encRq) (l := (mks mkReq 4 s l k).set k (mkReq m)) encRq_length (by omega) (by rw [← hf]; exact h4)
        have hmk : mkReq m = mkReq (s + 4 * k) := by rw [unhide HM]
        rw [hmk, mks_set mkReq 4 s l k hlt, ← hmk] at h5
        refine ⟨k + 1, m + 4, by omega, by go_num, by go_num, by have := unhide HM; omega, h5, ?_⟩
        exact ((((((unhide HK).trans (fp_keeps (KeepsL.set _) hpos)).trans (KeepsL.of_below (unhide HB1))).trans (fp_keeps (KeepsL.set _) hpos)).trans (fp_keeps (KeepsL.set _) hpos)).trans (fp_keeps (KeepsL.set _) hpos))
      case measure => simp [intOf]; omega
    · have hke : k = l.length := by omega
      subst hke
      have hnlt : decide ((l.length : Int) < (l.length : Int)) = false := by simp
      clear hm
      go_wp2_with fail
      go_ret
      exact ⟨ret_int (by have := unhide HM; omega), unhide HR, unhide HK⟩
set_option maxRecDepth 100000 in
set_option maxHeartbeats 2000000 in
theorem heldReqG (a : Option Addr) (g c n s : Nat) (l : List Rq) (w : World) (hn : n = l.length) (hs0 : 0 < s) (hs1 : s ≤ 4000000000000) (hl : l.length ≤ 1048600) (ha : GR.W encRq 4 w a g (mks mkReq 4 s l l.length)) :
    Calls Tryz.prog 62 #[.slice a n c, .int .i64 s] w fun e w' => e = .returned (.int .i64 (s + 4 * (l.length : Int))) ∧ Below w.heap.size w w' := by
  have HA := hide ha
  clear ha
  subst hn
  go_enter Tryz.func62, Tryz.ntmps62
  go_wp2_with fail
  go_loopw [1, 5] (fun kk i wr => ∃ k m : Nat, k ≤ l.length ∧ i = .int .i64 k ∧ kk = .int .i64 m ∧ m = s + 4 * k ∧ Below w.heap.size w wr) (fun _ i _ => l.length - (intOf i).toNat)
  case atStart => exact ⟨0, s, Nat.zero_le _, rfl, rfl, rfl, Below.refl _ _⟩
  case round =>
    obtain ⟨k, m, hk, rfl, rfl, hm, hbel⟩ := hrel
    have HM := hide hm
    have HBL := hide hbel
    clear hbel
    by_cases hlt : k < l.length
    · have hm0 : 0 < m := by omega
      have hm1 : (m : Int) ≤ 92233720368547758 := by omega
      obtain ⟨e0, hgl, ⟨s0, s1, s2, s3⟩, _⟩ := GR.W.fourReq (GR.W.below (unhide HA) (unhide HBL)) k (by rw [mks_length mkReq 4 s l l.length (Nat.le_refl _)]; exact hlt)
      rw [mks_at mkReq 4 s l l.length k hlt (Nat.le_refl _), ← hm] at s0 s1 s2 s3
      dsimp only [mkReq] at s0 s1 s2 s3
      subst e0
      have HMT := hide (fun z w1 (hz : z = ((m + 1 : Nat) : Int)) => markTextI (m + 1) z w1 hz (by omega) (by omega))
      clear hm
      have e1 : (m : Int) + 1 + 1 = m + 2 := by omega
      have e3 : (m : Int) + 2 + 1 = m + 3 := by omega
      go_wp2_with fail
      go_region_with (go_at_call 55; refine (unhide HMT _ _ (by omega)).mono ?_; rintro e w1 ⟨rfl, hb1⟩; have hc0 := (bcell hb1).1 g (k * 4) (by simpa using hgl); have hc1 := (bcell hb1).1 g (k * 4 + 1) (by simpa using hgl); have hc2 := (bcell hb1).1 g (k * 4 + 2) (by simpa using hgl); have hc3 := (bcell hb1).1 g (k * 4 + 3) (by simpa using hgl); have HBL1 := hide ((unhide HBL).trans (((Below.refl _ _).drew.trans hb1).mono (unhide HBL).size)); clear hb1)
      all_goals
        go_wp2_with fail
        go_roundw
        case rel => exact ⟨k + 1, m + 4, by omega, by go_num, by go_num, by have := unhide HM; omega, unhide HBL1⟩
        case measure => simp [intOf]; omega
    · have hke : k = l.length := by omega
      subst hke
      have hnlt : decide ((l.length : Int) < (l.length : Int)) = false := by simp
      clear hm
      go_wp2_with fail
      go_ret
      exact ⟨ret_int (by have := unhide HM; omega), unhide HBL⟩

def mkInt (k : Nat) : Int := k
theorem GR.W.one {w : World} {a : Option Addr} {g : Nat} {l : List Int} (h : GR.W encNum 1 w a g l) (i : Nat) (hi : i < l.length) : a = some ⟨g, 0, none⟩ ∧ g < w.heap.size ∧ w.cell? ⟨g, i, none⟩ = some (.int .i64 l[i]) ∧ w.frozen? ⟨g, i, none⟩ = false := by
  obtain ⟨e, hg, hc⟩ := h i hi
  exact ⟨e, hg, by simpa using (hc 0 (by omega)).1, by simpa using (hc 0 (by omega)).2⟩
set_option maxRecDepth 100000 in
set_option maxHeartbeats 2000000 in
theorem markIntG (a : Option Addr) (g c s : Nat) (l : List Int) (w : World) (hs0 : 0 < s) (hs1 : s ≤ 4000000000000) (hl : l.length ≤ 1048600) (ha : GR.W encNum 1 w a g l) :
    Calls Tryz.prog 27 #[.slice a l.length c, .int .i64 s] w fun e w' => e = .returned (.int .i64 (s + (l.length : Int))) ∧ GR.W encNum 1 w' a g (mks mkInt 1 s l l.length) ∧ KeepsL (fp g l) w w' := by
  have HA := hide ha
  clear ha
  go_enter Tryz.func27, Tryz.ntmps27
  go_wp2_with fail
  go_loopw [1, 5] (fun kk i wr => ∃ k m : Nat, k ≤ l.length ∧ i = .int .i64 k ∧ kk = .int .i64 m ∧ m = s + 1 * k ∧ GR.W encNum 1 wr a g (mks mkInt 1 s l k) ∧ KeepsL (fp g l) w wr) (fun _ i _ => l.length - (intOf i).toNat)
  case atStart => exact ⟨0, s, Nat.zero_le _, rfl, rfl, rfl, by rw [mks_zero]; exact unhide HA, KeepsL.refl _ _⟩
  case round =>
    obtain ⟨k, m, hk, rfl, rfl, hm, hR, hkp⟩ := hrel
    have HM := hide hm
    have HR := hide hR
    have HK := hide hkp
    clear hR hkp
    by_cases hlt : k < l.length
    · have hml := mks_length mkInt 1 s l k hk
      have hk' : k < (mks mkInt 1 s l k).length := by rw [hml]; exact hlt
      have hm0 : 0 < m := by omega
      have hm1 : (m : Int) ≤ 92233720368547758 := by omega
      obtain ⟨e0, hg0, s0, f0⟩ := GR.W.one (unhide HR) k hk'
      subst e0
      have HML := hide hml
      clear hm hml
      go_wp2_with fail
      go_roundw
      case rel =>
        have hpos : 0 < l.length := by omega
        have h5 := GR.W.set encNum_length (unhide HR) k (mkInt m) (by rw [unhide HML]; exact hlt)
        have hmk : mkInt m = mkInt (s + 1 * k) := by rw [unhide HM]
        rw [hmk, mks_set mkInt 1 s l k hlt, ← hmk, Nat.mul_one] at h5
        exact ⟨k + 1, m + 1, by omega, by go_num, by go_num, by have := unhide HM; omega, h5, (unhide HK).trans (fp_keeps (KeepsL.set _) hpos)⟩
      case measure => simp [intOf]; omega
    · have hke : k = l.length := by omega
      subst hke
      have hnlt : decide ((l.length : Int) < (l.length : Int)) = false := by simp
      clear hm
      go_wp2_with fail
      go_ret
      exact ⟨ret_int (by have := unhide HM; omega), unhide HR, unhide HK⟩
set_option maxRecDepth 100000 in
set_option maxHeartbeats 2000000 in
theorem heldIntG (a : Option Addr) (g c n s : Nat) (l : List Int) (w : World) (hn : n = l.length) (hs0 : 0 < s) (hs1 : s ≤ 4000000000000) (hl : l.length ≤ 1048600) (ha : GR.W encNum 1 w a g (mks mkInt 1 s l l.length)) :
    Calls Tryz.prog 58 #[.slice a n c, .int .i64 s] w fun e w' => e = .returned (.int .i64 (s + (l.length : Int))) ∧ Below w.heap.size w w' := by
  have HA := hide ha
  clear ha
  subst hn
  go_enter Tryz.func58, Tryz.ntmps58
  go_wp2_with fail
  go_loopw [1, 5] (fun kk i wr => ∃ k m : Nat, k ≤ l.length ∧ i = .int .i64 k ∧ kk = .int .i64 m ∧ m = s + 1 * k ∧ Below w.heap.size w wr) (fun _ i _ => l.length - (intOf i).toNat)
  case atStart => exact ⟨0, s, Nat.zero_le _, rfl, rfl, rfl, Below.refl _ _⟩
  case round =>
    obtain ⟨k, m, hk, rfl, rfl, hm, hbel⟩ := hrel
    have HM := hide hm
    have HBL := hide hbel
    clear hbel
    by_cases hlt : k < l.length
    · have hm0 : 0 < m := by omega
      have hm1 : (m : Int) ≤ 92233720368547758 := by omega
      obtain ⟨e0, hgl, s0, _⟩ := GR.W.one (GR.W.below (unhide HA) (unhide HBL)) k (by rw [mks_length mkInt 1 s l l.length (Nat.le_refl _)]; exact hlt)
      rw [mks_at mkInt 1 s l l.length k hlt (Nat.le_refl _), ← hm] at s0
      dsimp only [mkInt] at s0
      subst e0
      clear hm
      go_wp2_with fail
      first | go_quiet (fail) | skip
      go_wp2_with fail
      go_roundw
      case rel => exact ⟨k + 1, m + 1, by omega, by go_num, by go_num, by have := unhide HM; omega, (unhide HBL).trans ⟨rfl, rfl, rfl, Nat.le_refl _, fun _ _ => rfl⟩⟩
      case measure => simp [intOf]; omega
    · have hke : k = l.length := by omega
      subst hke
      have hnlt : decide ((l.length : Int) < (l.length : Int)) = false := by simp
      clear hm
      go_wp2_with fail
      go_ret
      exact ⟨ret_int (by have := unhide HM; omega), unhide HBL⟩

end Go.Proofs.YtbanjohfcnadfaaGreatDoor
