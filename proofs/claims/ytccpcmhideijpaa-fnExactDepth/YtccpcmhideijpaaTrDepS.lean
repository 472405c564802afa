/-
  What the model's Depth comes to.
-/
import Derived.Test.YtccpcmhideijpaaTrUp
import Derived.Test.YtccpcmhideijpaaTrOk
namespace Go.Proofs.Ytccpcmhideijpaa
open Go.RowKit
open Mth

set_option maxRecDepth 100000 in
set_option maxHeartbeats 2000000 in
theorem specDepth (a : Option Addr) (cap : Nat) (l : List Int) (n : Int) (w : World) (hl : l.length ≤ 1048600) (ha : IntsAt w a l) :
    Calls Try.prog 19 #[trv a l cap, .int .i64 n] w fun e w' => e = .returned (.int .i64 (depthN l n)) ∧ Below w.heap.size w w' := by
  have hb1 : Below w.heap.size w (w.alloc (.cells #[.slice a l.length cap] 27)) := below_one' w _
  have HC := hide (specTreeOk a cap l _ hl (GR.At.below ha hb1))
  have HB := hide hb1
  have HT0 := hide (heap_alloc_new w (.cells #[.slice a l.length cap] 27))
  clear hb1
  have HA := hide ha
  clear ha
  cases htb : treeB l
  case false =>
    have HE := hide (depthN_no l n (.inl htb))
    rw [htb] at HC
    go_enter Try.func19, Try.ntmps19
    go_wp2_with fail
    refine (unhide HC).mono ?_
    rintro e w1 ⟨rfl, hb2⟩
    have hB2 := hide ((unhide HB).trans (hb2.mono (unhide HB).size))
    obtain ⟨t1, _⟩ := one_at (tr_step (unhide HT0) hb2)
    clear hb2
    go_wp2_with fail
    go_ret
    exact ⟨ret_int (unhide HE).symm, unhide hB2⟩
  have HTP := hide (TreeP.of htb)
  by_cases hin : 0 ≤ n ∧ n < (l.length : Int)
  case neg =>
    have HE := hide (depthN_no l n (.inr (by omega)))
    have hc := fun W => l01In_no n 0 ((l.length : Int) - 1) W (by omega)
    rw [htb] at HC
    go_enter Try.func19, Try.ntmps19
    go_wp2_with fail
    refine (unhide HC).mono ?_
    rintro e w1 ⟨rfl, hb2⟩
    have hB2 := hide ((unhide HB).trans (hb2.mono (unhide HB).size))
    obtain ⟨t1, _⟩ := one_at (tr_step (unhide HT0) hb2)
    clear hb2
    go_wp2_with (go_at_call 29; refine (hc _).mono ?_; rintro e w2 ⟨rfl, rfl⟩)
    go_ret
    exact ⟨ret_int (unhide HE).symm, unhide hB2⟩
  obtain ⟨k0, rfl⟩ : ∃ k : Nat, n = (k : Int) := ⟨n.toNat, by omega⟩
  have hk0 : k0 < l.length := by omega
  have hc := fun W => l01In_yes (k0 : Int) 0 ((l.length : Int) - 1) W (by omega) (by omega)
  have HE := hide (depthN_yes l k0 htb hk0)
  rw [htb] at HC
  clear hin htb
  go_enter Try.func19, Try.ntmps19
  go_wp2_with fail
  refine (unhide HC).mono ?_
  rintro e w1 ⟨rfl, hb2⟩
  have hB2 := hide ((unhide HB).trans (hb2.mono (unhide HB).size))
  have HT1 := hide (tr_step (unhide HT0) hb2)
  obtain ⟨t1, _⟩ := one_at (unhide HT1)
  clear hb2
  go_wp2_with (go_at_call 29; refine (hc _).mono ?_; rintro e w2 ⟨rfl, rfl⟩)
  have HA1 := hide (GR.At.below (unhide HA) (unhide hB2))
  have hlen := upN_len (unhide HTP) k0 hk0
  go_loopw [1, 5] (fun n d wr => ∃ m k : Nat, m < l.length ∧ n = .int .i64 m ∧ d = .int .i64 k ∧ k + (upN l m).length = (upN l k0).length ∧ wr = w1) (fun n _ _ => (intOf n).toNat)
  case atStart => exact ⟨k0, 0, hk0, rfl, rfl, by omega, rfl⟩
  case round =>
    obtain ⟨m, k, hm, rfl, rfl, hk, rfl⟩ := hrel
    have HK := hide hk
    have hkl : k ≤ k0 := by omega
    clear hk
    obtain ⟨g, off, rfl, hgw, q0⟩ := IntsAt.one (unhide HA1) m hm
    by_cases h0 : m = 0
    · subst h0
      rw [Nat.add_zero, TreeP.at_zero (unhide HTP)] at q0
      have HF := hide (show depthN l (k0 : Int) = (k : Int) by rw [unhide HE, ← unhide HK, upN_zero]; simp)
      go_wp2_with fail
      go_ret
      exact ⟨ret_int (unhide HF).symm, unhide hB2⟩
    · obtain ⟨h1, h2⟩ := (unhide HTP).up m hm (by omega)
      have HU := hide (upN_pos (unhide HTP) m hm (by omega))
      generalize l[m] = pu at *
      obtain ⟨u, rfl⟩ : ∃ k : Nat, pu = (k : Int) := ⟨pu.toNat, by omega⟩
      go_wp2_with fail
      go_roundw
      case rel => exact ⟨u, k + 1, by omega, rfl, by go_num, by have h := unhide HK; rw [unhide HU] at h; simp at h; omega, by first | rfl | trivial⟩
      case measure => simp [intOf]; omega
end Go.Proofs.Ytccpcmhideijpaa
