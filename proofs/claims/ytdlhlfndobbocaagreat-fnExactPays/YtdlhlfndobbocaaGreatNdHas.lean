/-
  The model's l05Has and l05Near: whether a number is in a list, whether a node is another one's neighbour.
-/
import Derived.Test.YtdlhlfndobbocaaGreatNdAt
namespace Go.Proofs.YtdlhlfndobbocaaGreat
open Go.RowKit
open Mth

theorem Mth.has_snoc (l : List Int) (x : Int) (k : Nat) (h : k < l.length) : hasB (l.take (k + 1)) x = (hasB (l.take k) x || decide (l[k] = x)) := by
  unfold hasB
  rw [List.take_succ_eq_append_getElem h, List.any_append]
  simp
theorem Mth.has_yes (l : List Int) (x : Int) (k : Nat) (h : k < l.length) (hx : l[k] = x) : hasB l x = true := by
  unfold hasB
  rw [List.any_eq_true]
  exact ⟨l[k], List.getElem_mem h, by simp [hx]⟩
set_option maxRecDepth 100000 in
set_option maxHeartbeats 1000000 in
theorem specHas (a : Option Addr) (cap : Nat) (l : List Int) (x : Int) (w : World) (hl : l.length ≤ 1048600) (ha : IntsAt w a l) :
    Calls Tryz.prog 69 #[.slice a l.length cap, .int .i64 x] w fun e w' => e = .returned (.bool (hasB l x)) ∧ w = w' := by
  have HA := hide ha
  clear ha
  go_enter Tryz.func69, Tryz.ntmps69
  go_wp2_with fail
  go_loop [5] (fun i => ∃ k : Nat, k ≤ l.length ∧ i = .int .i64 k ∧ hasB (l.take k) x = false) (fun i => l.length - (intOf i).toNat)
  case atStart => exact ⟨0, Nat.zero_le _, rfl, rfl⟩
  case round =>
    obtain ⟨k, hk, rfl, hno⟩ := hrel
    have HN := hide hno
    clear hno
    by_cases hlt : k < l.length
    · obtain ⟨g, off, rfl, hgw, q0⟩ := IntsAt.one (unhide HA) k hlt
      by_cases hx : l[k] = x
      · have HY := hide (has_yes l x k hlt hx)
        rw [hx] at q0
        clear hx
        go_wp2_with fail
        go_ret
        exact ⟨ret_bool (unhide HY).symm, rfl⟩
      · have HS := hide (has_snoc l x k hlt)
        rw [decide_eq_false hx] at HS
        generalize l[k] = y at *
        go_wp2_with fail
        go_round
        case rel => exact ⟨k + 1, by omega, by go_num, by rw [unhide HS, unhide HN]; rfl⟩
        case measure => simp [intOf]; omega
    · have hke : k = l.length := by omega
      subst hke
      have hnlt : decide ((l.length : Int) < (l.length : Int)) = false := by simp
      have h := unhide HN
      rw [List.take_length] at h
      have HF := hide h
      clear h
      go_wp2_with fail
      go_ret
      exact ⟨ret_bool (unhide HF).symm, rfl⟩
set_option maxRecDepth 100000 in
set_option maxHeartbeats 1000000 in
theorem specNear (n : Nd) (A : Ads) (x : Int) (w : World) (hl : n.kids.length ≤ 1048600) (ha : IntsAt w A.k n.kids) :
    Calls Tryz.prog 49 #[ndv n A, .int .i64 x] w fun e w' => e = .returned (.bool (nearB n x)) ∧ Below w.heap.size w w' := by
  have HH := hide (specHas A.k A.ck n.kids x (w.alloc (.cells (ndc n A) 37)) hl (GR.At.below ha (below_one w _)))
  clear ha
  by_cases h0 : 0 ≤ x
  · by_cases h1 : x = n.par
    · have HN := hide (show nearB n x = true by unfold nearB; rw [decide_eq_true h0, decide_eq_true h1]; rfl)
      have h2 : (x == n.par) = true := by simp [h1]
      clear h1
      go_enter Tryz.func49, Tryz.ntmps49
      go_wp2_with fail
      go_ret
      exact ⟨ret_bool (unhide HN).symm, below_one w _⟩
    · have HN := hide (show nearB n x = hasB n.kids x by simp [nearB, h1])
      have h2 : (x == n.par) = false := by simp [h1]
      clear h1
      go_enter Tryz.func49, Tryz.ntmps49
      go_wp2_with (go_at_call 69; refine (unhide HH).mono ?_; rintro e w1 ⟨rfl, rfl⟩)
      go_ret
      exact ⟨ret_bool (unhide HN).symm, below_one w _⟩
  · have HN := hide (show nearB n x = hasB n.kids x by simp [nearB, h0])
    go_enter Tryz.func49, Tryz.ntmps49
    go_wp2_with (go_at_call 69; refine (unhide HH).mono ?_; rintro e w1 ⟨rfl, rfl⟩)
    go_ret
    exact ⟨ret_bool (unhide HN).symm, below_one w _⟩
end Go.Proofs.YtdlhlfndobbocaaGreat
