/-
  The model's list with a purse in its place.
-/
import Derived.Test.YtdlhlfndobbocaaDoorPuCopy
import Derived.Test.YtdlhlfndobbocaaDoorPuPut
import Derived.Deep.RegionLaw
import Derived.Deep.QuietTactic
import Derived.BigQuiet
namespace Go.Proofs.YtdlhlfndobbocaaDoor
open Go.RowKit
open Mth

theorem own_lower {w : World} {b b' : Nat} {e : TypeId} {sz : Nat} {v : Value} {n : Nat} {xs : List Value} (h : w.ownsRow b e sz v n xs) (hb : b' ≤ b) : w.ownsRow b' e sz v n xs := by
  refine ⟨h.1, ?_⟩
  rcases h.2 with h2 | ⟨g, cap, cur, hv, hg, hr⟩
  · exact .inl h2
  · exact .inr ⟨g, cap, cur, hv, Nat.le_trans hb hg, hr⟩

set_option maxRecDepth 100000 in
set_option maxHeartbeats 2000000 in
theorem l03With_not (a : Option Addr) (cap : Nat) (l : List Pu) (p : Pu) (n : Int) (w : World) (hl : l.length ≤ 1048600) (hk : ∀ p ∈ l, p.k.size ≤ maxLen) (hn : a = none → l.length = 0 ∧ cap = 0) (ha : PursesAt w a l) (hno : psOk l = false ∨ ¬ (1 ≤ n ∧ n ≤ 1000000000)) :
    Calls Tryd.prog 52 #[.slice a l.length cap, puv p, .int .i64 n] w fun e w' => ∃ v, e = .returned (.tuple #[v, .bool false]) ∧ v ≠ .slice none 0 0 ∧ w'.ownsRow w.heap.size 32 4 v l.length (GR.flat encP l) ∧ Below w.heap.size w w' := by
  have HOK := hide (fun w1 (h : PursesAt w1 a l) => specPursesOk a cap l w1 hl hk h)
  have HCP := hide (fun w1 (h : PursesAt w1 a l) => l03Copy a cap l w1 hl hn h)
  have HA := hide ha
  clear ha hk hn
  obtain ⟨pk, pm, pf, ps⟩ := p
  go_enter Tryd.func52, Tryd.ntmps52
  go_wp2_with fail
  refine (unhide HOK _ (GR.At.below (unhide HA) (below_one' w _))).mono ?_
  rintro e w1 ⟨rfl, hb1⟩
  have HB1 := hide ((below_one' w _).trans (hb1.mono (below_one' w _).size))
  clear hb1
  cases hok : psOk l with
  | false =>
    go_wp2_with fail
    refine (unhide HCP _ (GR.At.below (unhide HA) (unhide HB1))).mono ?_
    rintro e w2 ⟨v, rfl, hnn, hrow, hb2⟩
    have HNN := hide hnn
    have HR := hide (own_lower hrow (unhide HB1).size)
    have HB2 := hide ((unhide HB1).trans (hb2.mono (unhide HB1).size))
    clear hrow hb2 hnn
    go_wp2_with fail
    refine bodyPost_ret (v := .tuple #[v, .bool false]) (by simp [results, Tryd.results52, go_sem]) rfl ⟨v, rfl, unhide HNN, unhide HR, unhide HB2⟩
  | true =>
    have hn2 : decide (Inn n 1 1000000000) = false := decide_eq_false (by rcases hno with h | h; (rw [hok] at h; cases h); exact h)
    go_wp2_with fail
    refine (l01InB _ _ _ _).mono ?_
    rintro e w3 ⟨rfl, rfl⟩
    rw [hn2]
    go_wp2_with fail
    refine (unhide HCP _ (GR.At.below (unhide HA) (unhide HB1))).mono ?_
    rintro e w2 ⟨v, rfl, hnn, hrow, hb2⟩
    have HNN := hide hnn
    have HR := hide (own_lower hrow (unhide HB1).size)
    have HB2 := hide ((unhide HB1).trans (hb2.mono (unhide HB1).size))
    clear hrow hb2 hnn
    go_wp2_with fail
    refine bodyPost_ret (v := .tuple #[v, .bool false]) (by simp [results, Tryd.results52, go_sem]) rfl ⟨v, rfl, unhide HNN, unhide HR, unhide HB2⟩

theorem while_at (f : Pu → Bool) : ∀ (l : List Pu) (k : Nat), k ≤ l.length → (∀ q ∈ l.take k, f q = true) → (∀ h : k < l.length, f l[k] = false) → l.takeWhile f = l.take k ∧ l.dropWhile f = l.drop k := by
  intro l
  induction l with
  | nil => intro k hk _ _; simp
  | cons x r ih =>
    intro k hk h1 h2
    cases k with
    | zero =>
      have hx : f x = false := h2 (by simp)
      simp [hx]
    | succ k =>
      have hx : f x = true := h1 x (by simp)
      obtain ⟨g1, g2⟩ := ih k (by simpa using hk) (fun q hq => h1 q (by simp [hq])) (fun h => h2 (by simpa using h))
      simp [hx, g1, g2]
end Go.Proofs.YtdlhlfndobbocaaDoor
