/-
  A tree that is read word by word: what stands in memory between two words.
-/
import Derived.Test.YtccpcmhideijpaaDoorTrOk
import Derived.Test.YtccpcmhideijpaaDoorRows2
import Derived.Test.YtccpcmhideijpaaDoorAppW
import Derived.Test.YtccpcmhideijpaaDoorMix2
namespace Go.Proofs.YtccpcmhideijpaaDoor
open Go.RowKit
open Mth

theorem infoIntR : (Tryd.prog.info? 3).map (fun i => (i.zero, i.size, i.bytes)) = some (some (.int .i64 0), 1, 8) := by kernel_rfl
theorem flat_snoc_i (l : List Int) (x : Int) : GR.flat encNum (l ++ [x]) = GR.flat encNum l ++ [.int .i64 x] := by rw [GR.flat_append, GR.flat_one]
structure RdSt (w wr : World) (tb : Nat) (v : Value) (l : List Int) : Prop where
  keep : Below w.heap.size w wr
  lo : w.heap.size < tb
  res : wr.heap[w.heap.size]? = some (.cells #[.slice none 0 0] 24 (0, 0))
  tbl : wr.heap[tb]? = some (.cells #[v] 24 (0, 0))
  own : wr.ownsRow (w.heap.size + 1) 3 1 v l.length (GR.flat encNum l)
  ne : ∀ x, v.ownBlock = some x → x ≠ tb
theorem RdSt.step {w wr wr' : World} {tb : Nat} {v : Value} {l : List Int} (h : RdSt w wr tb v l) (hb : Below wr.heap.size wr wr') : RdSt w wr' tb v l :=
  ⟨h.keep.trans (hb.mono h.keep.size), h.lo, tr_step h.res hb, tr_step h.tbl hb, GR.own_below h.own hb, h.ne⟩
theorem own_set {w : World} {B tb : Nat} {e : TypeId} {sz n : Nat} {v u : Value} {xs : List Value} (h : w.ownsRow B e sz v n xs) (hne : ∀ x, v.ownBlock = some x → x ≠ tb) : (w.setCell ⟨tb, 0, none⟩ u).ownsRow B e sz v n xs := by
  refine ⟨h.1, ?_⟩
  rcases h.2 with hn | ⟨g, cap, cur, rfl, hb, hgg, rest⟩
  · exact .inl hn
  · exact .inr ⟨g, cap, cur, rfl, hb, one_other _ (hne g rfl) hgg, rest⟩
theorem RdSt.app {w z w6 : World} {tb : Nat} {v v' : Value} {l : List Int} (h : RdSt w z tb v l) (x : Int) (hown : w6.ownsRow (w.heap.size + 1) 3 1 v' (l.length + 1) (GR.flat encNum l ++ [.int .i64 x]))
    (hg : z.grownBy w6 v.ownBlock) (hv : ∀ x, v'.ownBlock = some x → v.ownBlock = some x ∨ z.heap.size ≤ x) :
    w6.heap[tb]? = some (.cells #[v] 24 (0, 0)) ∧ RdSt w (w6.setCell ⟨tb, 0, none⟩ v') tb v' (l ++ [x]) := by
  have ht : w6.heap[tb]? = some (.cells #[v] 24 (0, 0)) := by
    rw [hg.block tb (tr_lt h.tbl) (fun hm => h.ne tb hm.symm rfl)]; exact h.tbl
  have hr : w6.heap[w.heap.size]? = some (.cells #[.slice none 0 0] 24 (0, 0)) := by
    rw [hg.block _ (tr_lt h.res) (fun hm => by have := (h.own.lt _ hm.symm).1; omega)]; exact h.res
  have hk : Below w.heap.size w w6 := h.keep.grown hg h.keep.size (fun k hk => by have := (h.own.lt _ hk).1; omega)
  have hne : ∀ x, v'.ownBlock = some x → x ≠ tb := fun x hx => by
    rcases hv x hx with h1 | h1
    · exact h.ne x h1
    · have := tr_lt h.tbl; omega
  have hlo := h.lo
  refine ⟨ht, hk.setCell (p := ⟨tb, 0, none⟩) (by simp; omega) _, hlo, one_other _ (by omega) hr, one_set _ ht, ?_, hne⟩
  rw [flat_snoc_i, List.length_append]
  exact own_set hown hne
/-- What both ReadTrees give. -/
abbrev GivesTr (w : World) (r : List Int × Bool) : Ending → World → Prop := fun e w' => ∃ v, e = .returned (.tuple #[.agg #[v], .bool r.2]) ∧ w'.ownsRow w.heap.size 3 1 v r.1.length (GR.flat encNum r.1) ∧ Below w.heap.size w w'
end Go.Proofs.YtccpcmhideijpaaDoor
