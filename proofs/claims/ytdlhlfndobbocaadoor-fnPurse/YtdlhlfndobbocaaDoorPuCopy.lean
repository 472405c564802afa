/-
  The model's copy of a list of purses.
-/
import Derived.Test.YtdlhlfndobbocaaDoorPuBase
import Derived.Laws.AppendOwnNone
namespace Go.Proofs.YtdlhlfndobbocaaDoor
open Go.RowKit
open Mth

set_option maxRecDepth 100000 in
set_option maxHeartbeats 1000000 in
theorem l03Copy (a : Option Addr) (cap : Nat) (l : List Pu) (w : World) (hl : l.length ≤ 1048600) (hn : a = none → l.length = 0 ∧ cap = 0) (ha : PursesAt w a l) :
    Calls Tryd.prog 67 #[.slice a l.length cap] w fun e w' => ∃ v, e = .returned v ∧ v ≠ .slice none 0 0 ∧ w'.ownsRow w.heap.size 32 4 v l.length (GR.flat encP l) ∧ Below w.heap.size w w' := by
  obtain ⟨i0, hi, hz0, hz1, hz2⟩ := info_parts infoPu
  have hlit : (w.alloc (.cells #[] 32)).ownsRow w.heap.size 32 4 (.slice (some ⟨w.heap.size, 0, none⟩) 0 0) 0 [] := World.ownsRow_lit (base := w.heap.size) (e := 32) (size := 4) w #[] 0 (Nat.le_refl _) (by decide) rfl
  cases a with
  | none =>
    obtain ⟨h1, h2⟩ := hn rfl
    have hl0 : l = [] := List.eq_nil_of_length_eq_zero h1
    subst hl0 h2
    go_enter Tryd.func67, Tryd.ntmps67
    go_wp2_with (at_builtin; refine wpList_append_own_none rfl _ _ 24 rfl w.heap.size 32 i0 4 Tryd.underlying24 hi _ 0 [] rfl hlit rfl ?_)
    go_ret
    exact ⟨_, rfl, (by intro h; cases h), hlit, below_one' w _⟩
  | some x =>
    have HN := hide (PursesAt.news (GR.At.below ha (below_one' w (.cells #[] 32))))
    clear ha
    go_enter Tryd.func67, Tryd.ntmps67
    go_wp2_with (at_builtin; refine wpList_append_own _ rfl _ _ 24 rfl w.heap.size 32 i0 (.agg #[.string ByteArray.empty, .int .i64 0, .int .i64 0, .int .i64 0]) 4 40 Tryd.underlying24 hi hz0 hz1 hz2 rfl (by decide) _ 0 [] rfl hlit x l.length cap (GR.flat encP l) rfl ?c0 ?c1 ?c2 ?c3 ?c4 ?c5 ?_)
    case c0 => exact GR.flat_length encP 4 encP_length l
    case c1 => exact unhide HN
    case c2 => exact encP_one l
    case c3 => unfold maxLen; omega
    case c4 => omega
    case c5 => simp
    intro v' w1 hown' hgrow hnil
    have HNN := hide (show v' ≠ .slice none 0 0 from hnil)
    have HO := hide (show w1.ownsRow w.heap.size 32 4 v' l.length (GR.flat encP l) by simpa using hown')
    have hb : Below w.heap.size w w1 := (below_one' w _).grown hgrow (by simp) (fun k hk => by cases hk; exact Nat.le_refl _)
    clear hown' hgrow hlit hnil
    go_wp2
    go_ret
    exact ⟨_, rfl, unhide HNN, unhide HO, hb⟩
end Go.Proofs.YtdlhlfndobbocaaDoor
