/-
  The draws' small functions: a number below another one, a choice, some bytes: whatever they are, they lie where they should, and nothing that was there turns but the cursor.
-/
import Derived.Test.YtmflajfddjnmhaaCur
import Derived.Test.YtmflajfddjnmhaaBytes
namespace Go.Proofs.Ytmflajfddjnmhaa
open Go.RowKit

/-- A cursor drawn on: it stays one, and all else stays. -/
theorem Cur.keep_below {w w' : World} {c : Nat} (h : Cur w c) (hb : Below w.heap.size w w') : Cur w' c := h.below hb h.lt

theorem l01Below_none (c : Nat) (n : Int) (w : World) (hn : n ≤ 0) : Calls Try.prog 40 #[.pointer (some ⟨c, 0, none⟩), .int .i64 n] w fun e w' => e = .returned (.int .i64 0) ∧ w = w' := by
  go_enter Try.func40, Try.ntmps40
  go_wp2
  go_ret
  exact ⟨rfl, rfl⟩

set_option maxRecDepth 100000 in
set_option maxHeartbeats 1000000 in
theorem l01Below (c : Nat) (n : Int) (w : World) (hc : Cur w c) (hn : 0 < n) (hm : n ≤ 4000000000) :
    Calls Try.prog 40 #[.pointer (some ⟨c, 0, none⟩), .int .i64 n] w fun e w' => ∃ x : Int, e = .returned (.int .i64 x) ∧ 0 ≤ x ∧ x < n ∧ Cur w' c ∧ Keeps c w w' := by
  have HC := hide hc
  clear hc
  have hm1 : ∀ x : Int, 0 ≤ x → x % n < n := fun x _ => Int.emod_lt_of_pos x hn
  have hm2 : ∀ x : Int, 0 ≤ x % n := fun x => Int.emod_nonneg x (by omega)
  by_cases hs : n ≤ 256
  · have H1 := hide hm1
    have H2 := hide hm2
    clear hm1 hm2
    go_enter Try.func40, Try.ntmps40
    go_wp2_with (go_at_call 42; refine (l01Byte c _ (unhide HC)).mono ?_; rintro e w1 ⟨x, rfl, hx0, hx1, hc1, hk1⟩; have HC1 := hide hc1; clear hc1)
    go_ret
    exact ⟨_, rfl, unhide H2 _, unhide H1 _ hx0, unhide HC1, hk1⟩
  · have H1 := hide hm1
    have H2 := hide hm2
    clear hm1 hm2
    go_enter Try.func40, Try.ntmps40
    go_wp2_with fail
    refine (l01Byte c _ (unhide HC)).mono ?_
    rintro e w1 ⟨x, rfl, hx0, hx1, hc1, hk1⟩
    have HC1 := hide hc1
    clear hc1
    go_wp2_with fail
    refine (l01Byte c _ (unhide HC1)).mono ?_
    rintro e w2 ⟨y, rfl, hy0, hy1, hc2, hk2⟩
    have HC2 := hide hc2
    clear hc2
    go_wp2_with fail
    refine (l01Byte c _ (unhide HC2)).mono ?_
    rintro e w3 ⟨z, rfl, hz0, hz1, hc3, hk3⟩
    have HC3 := hide hc3
    clear hc3
    go_wp2_with fail
    refine (l01Byte c _ (unhide HC3)).mono ?_
    rintro e w4 ⟨t, rfl, ht0, ht1, hc4, hk4⟩
    have HC4 := hide hc4
    clear hc4
    go_wp2
    go_ret
    exact ⟨_, rfl, unhide H2 _, unhide H1 _ (by omega), unhide HC4, ((hk1.trans hk2).trans hk3).trans hk4⟩
end Go.Proofs.Ytmflajfddjnmhaa
