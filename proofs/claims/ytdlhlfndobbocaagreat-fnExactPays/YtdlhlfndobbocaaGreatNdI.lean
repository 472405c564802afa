/-
  The program's own functions on a node: whether one is a kid, a neighbour; whether its place is right.
-/
import Derived.Test.YtdlhlfndobbocaaGreatNdHas
import Derived.Test.YtdlhlfndobbocaaGreatNdMath2
import Derived.Test.YtdlhlfndobbocaaGreatPuI3
namespace Go.Proofs.YtdlhlfndobbocaaGreat
open Go.RowKit
open Mth

set_option maxRecDepth 100000 in
set_option maxHeartbeats 1000000 in
theorem implIndex (a : Option Addr) (cap : Nat) (l : List Int) (x : Int) (w : World) (hl : l.length ≤ 1048600) (ha : IntsAt w a l) :
    Calls Tryz.prog 87 #[.slice a l.length cap, .int .i64 x] w fun e w' => (∃ i : Int, e = .returned (.int .i64 i) ∧ decide (0 ≤ i) = hasB l x) ∧ w = w' := by
  have HA := hide ha
  clear ha
  go_enter Tryz.func87, Tryz.ntmps87
  go_wp2_with fail
  go_loop [8] (fun i => ∃ k : Nat, k ≤ l.length ∧ i = .int .i64 k ∧ hasB (l.take k) x = false) (fun i => l.length - (intOf i).toNat)
  case atStart => exact ⟨0, Nat.zero_le _, rfl, rfl⟩
  case round =>
    obtain ⟨k, hk, rfl, hno⟩ := hrel
    have HN := hide hno
    clear hno
    by_cases hlt : k < l.length
    · obtain ⟨g, off, rfl, hgw, q0⟩ := IntsAt.one (unhide HA) k hlt
      by_cases hx : l[k] = x
      · have HY := hide (has_yes l x k hlt hx)
        rw [hx] at q0
        clear hx
        go_wp2_with fail
        go_ret
        exact ⟨⟨k, rfl, by rw [unhide HY]; simp⟩, rfl⟩
      · have HS := hide (has_snoc l x k hlt)
        rw [decide_eq_false hx] at HS
        have hx' : ¬ (x = l[k]) := fun h => hx h.symm
        generalize l[k] = y at *
        go_wp2_with fail
        go_round
        case rel => exact ⟨k + 1, by omega, by go_num, by rw [unhide HS, unhide HN]; rfl⟩
        case measure => simp [intOf]; omega
    · have hke : k = l.length := by omega
      subst hke
      have hnlt : decide ((l.length : Int) < (l.length : Int)) = false := by simp
      have h := unhide HN
      rw [List.take_length] at h
      have HF := hide h
      clear h
      go_wp2_with fail
      go_ret
      exact ⟨⟨-1, rfl, by rw [unhide HF]; rfl⟩, rfl⟩
set_option maxRecDepth 100000 in
theorem implContains (a : Option Addr) (cap : Nat) (l : List Int) (x : Int) (w : World) (hl : l.length ≤ 1048600) (ha : IntsAt w a l) :
    Calls Tryz.prog 84 #[.slice a l.length cap, .int .i64 x] w fun e w' => e = .returned (.bool (hasB l x)) ∧ w = w' := by
  have HI := hide (implIndex a cap l x w hl ha)
  clear ha
  go_enter Tryz.func84, Tryz.ntmps84
  go_wp2_with fail
  refine (unhide HI).mono ?_
  rintro e w1 ⟨⟨i, rfl, hi⟩, rfl⟩
  have HD := hide hi
  clear hi
  go_wp2_with fail
  go_ret
  exact ⟨ret_bool (unhide HD), rfl⟩
set_option maxRecDepth 100000 in
theorem implIsKid (n : Nd) (A : Ads) (x : Int) (w : World) (hl : n.kids.length ≤ 1048600) (ha : IntsAt w A.k n.kids) :
    Calls Tryz.prog 78 #[ndv n A, .int .i64 x] w fun e w' => e = .returned (.bool (hasB n.kids x)) ∧ Below w.heap.size w w' := by
  have HH := hide (implContains A.k A.ck n.kids x (w.alloc (.cells (ndc n A) 37)) hl (GR.At.below ha (below_one w _)))
  clear ha
  go_enter Tryz.func78, Tryz.ntmps78
  go_wp2_with (go_at_call 84; refine (unhide HH).mono ?_; rintro e w1 ⟨rfl, rfl⟩)
  go_ret
  exact ⟨rfl, below_one w _⟩
/-- The program asks for a node first. -/
def Mth.nearI (n : Nd) (x : Int) : Bool := ndB x && (decide (x = n.par) || hasB n.kids x)
theorem Mth.near_same {n : Nd} (h : placeB n = true) (x : Int) : nearI n x = nearB n x := by
  obtain ⟨h1, _, h3⟩ := place_kids h
  have hp : n.par ≤ 29 := by
    unfold placeB at h
    simp only [Bool.and_eq_true] at h
    exact (of_decide_eq_true h.1.1.1.2).2
  unfold nearI nearB
  cases hh : hasB n.kids x
  · simp only [Bool.or_false]
    by_cases hx : x = n.par
    · by_cases h0 : 0 ≤ x
      · simp [ndB, hx]; omega
      · simp [ndB, hx]; omega
    · simp [hx]
  · have h2 := h1 x ((has_iff _ _).1 hh)
    unfold kidB at h2
    simp only [Bool.and_eq_true] at h2
    rw [h2.1.1]
    simp
set_option maxRecDepth 100000 in
set_option maxHeartbeats 1000000 in
theorem implNear (n : Nd) (A : Ads) (x : Int) (w : World) (hl : n.kids.length ≤ 1048600) (ha : IntsAt w A.k n.kids) :
    Calls Tryz.prog 72 #[ndv n A, .int .i64 x] w fun e w' => e = .returned (.bool (nearI n x)) ∧ Below w.heap.size w w' := by
  have HK := hide (implIsKid n A x (w.alloc (.cells (ndc n A) 37)) hl (GR.At.below ha (below_one w _)))
  clear ha
  cases h0 : ndB x
  · have HN := hide (show nearI n x = false by simp [nearI, h0])
    have HA := hide (fun w1 => isNode x false w1 h0)
    clear h0
    go_enter Tryz.func72, Tryz.ntmps72
    go_wp2_with (go_at_call 70; refine (unhide HA _).mono ?_; rintro e w1 ⟨rfl, rfl⟩)
    go_ret
    exact ⟨ret_bool (unhide HN).symm, below_one w _⟩
  · have HA := hide (fun w1 => isNode x true w1 h0)
    by_cases h1 : x = n.par
    · have HN := hide (show nearI n x = true by unfold nearI; rw [h0, decide_eq_true h1]; rfl)
      have h2 : (x == n.par) = true := by simp [h1]
      clear h1 h0
      go_enter Tryz.func72, Tryz.ntmps72
      go_wp2_with (go_at_call 70; refine (unhide HA _).mono ?_; rintro e w1 ⟨rfl, rfl⟩)
      go_ret
      exact ⟨ret_bool (unhide HN).symm, below_one w _⟩
    · have HN := hide (show nearI n x = hasB n.kids x by simp [nearI, h1, h0])
      have h2 : (x == n.par) = false := by simp [h1]
      clear h1 h0
      go_enter Tryz.func72, Tryz.ntmps72
      go_wp2_with (first | (go_at_call 70; refine (unhide HA _).mono ?_; rintro e w1 ⟨rfl, rfl⟩) | (go_at_call 78; refine (unhide HK).mono ?_; rintro e w2 ⟨rfl, hb2⟩))
      go_ret
      exact ⟨ret_bool (unhide HN).symm, (below_one w _).trans (hb2.mono (by simp))⟩
end Go.Proofs.YtdlhlfndobbocaaGreat
