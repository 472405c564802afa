/-
  The laws' walks: FnExactPutNum returns true at every number, FnExactPutText at every string.
-/
import Derived.Test.YtlgibmefmnmgfaePutText
namespace Go.Proofs.Ytlgibmefmnmgfae
open Go.RowKit

set_option maxHeartbeats 400000 in
theorem fnExactPutNum_walk (n : Int) (_hn : (Lit.int .i64 n).wf = true) (w : World) :
    Calls Try.prog 3 #[.int .i64 n] w fun e w' => e = .returned (.bool true) ∧ Below w.heap.size w w' := by
  by_cases h : 0 ≤ n ∧ n ≤ 4000000000
  · obtain ⟨m, rfl⟩ := Int.eq_ofNat_of_zero_le h.1
    have hm : m ≤ 4000000000 := by omega
    clear h _hn
    go_enter Try.func3, Try.ntmps3
    go_wp2_with (first | (go_at_call 7; refine (specPutNum m _ hm).mono ?_; rintro e w1 ⟨rfl, hb1⟩) | (go_at_call 8; refine (implPutNum m _ hm).mono ?_; rintro e w2 ⟨rfl, hb2⟩))
    go_ret
    exact ⟨rfl, hb1.trans (hb2.mono hb1.size)⟩
  · have h' : n < 0 ∨ 4000000000 < n := by omega
    clear h _hn
    go_enter Try.func3, Try.ntmps3
    go_wp2_with (first | (go_at_call 7; refine (specPutNum_none n _ h').mono ?_; rintro e w1 ⟨rfl, rfl⟩) | (go_at_call 8; refine (implPutNum_none n _ h').mono ?_; rintro e w2 ⟨rfl, rfl⟩))
    go_ret
    exact ⟨rfl, Below.refl _ _⟩

set_option maxHeartbeats 400000 in
theorem fnExactPutText_walk (s : ByteArray) (_hs : s.size ≤ maxLen) (w : World) :
    Calls Try.prog 4 #[.string s] w fun e w' => e = .returned (.bool true) ∧ Below w.heap.size w w' := by
  by_cases hb : 1048576 < s.size
  · go_enter Try.func4, Try.ntmps4
    go_wp2
    go_ret
    exact ⟨rfl, Below.refl _ _⟩
  by_cases hk : 1000 < s.size
  · go_enter Try.func4, Try.ntmps4
    go_wp2_with (first | (go_at_call 9; refine (specPutText_none s _ hk).mono ?_; rintro e w1 ⟨rfl, rfl⟩) | (go_at_call 10; refine (implPutText_none s _ hk).mono ?_; rintro e w2 ⟨rfl, rfl⟩))
    go_ret
    exact ⟨rfl, Below.refl _ _⟩
  · have hk' : s.size ≤ 1000 := by omega
    go_enter Try.func4, Try.ntmps4
    go_wp2_with (first | (go_at_call 9; refine (specPutText s _ hk').mono ?_; rintro e w1 ⟨rfl, hb1⟩) | (go_at_call 10; refine (implPutText s _ hk').mono ?_; rintro e w2 ⟨rfl, hb2⟩))
    go_ret
    exact ⟨rfl, hb1.trans (hb2.mono hb1.size)⟩
end Go.Proofs.Ytlgibmefmnmgfae
