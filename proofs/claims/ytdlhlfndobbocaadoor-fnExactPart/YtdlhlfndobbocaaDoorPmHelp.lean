/-
  Rows and blocks of purses behind calls that make memory alone, or that write into one block.
-/
import Derived.Test.YtdlhlfndobbocaaDoorPuMark
import Derived.Test.YtdlhlfndobbocaaDoorPuAdd
import Derived.Test.YtdlhlfndobbocaaDoorPmFive
import Derived.Test.YtdlhlfndobbocaaDoorPuLoops
import Derived.Test.YtdlhlfndobbocaaDoorPuSz
namespace Go.Proofs.YtdlhlfndobbocaaDoor
open Go.RowKit
open Mth

theorem own_below {w w' : World} {B : Nat} {e : TypeId} {sz : Nat} {v : Value} {n : Nat} {xs : List Value} (h : w.ownsRow B e sz v n xs) (hb : Below w.heap.size w w') : w'.ownsRow B e sz v n xs :=
  h.kept (row := none) ⟨hb.os, hb.tape, hb.output, hb.size, fun k hk _ => hb.block k hk⟩ (own_none _)
theorem own_keeps {w w' : World} {B g : Nat} {e : TypeId} {sz : Nat} {v : Value} {n : Nat} {xs : List Value} (h : w.ownsRow B e sz v n xs) (hb : Keeps g w w') (hne : v.ownBlock ≠ some g) : w'.ownsRow B e sz v n xs :=
  h.kept (row := some g) ⟨hb.os, hb.tape, hb.output, hb.size, fun k hk hn => hb.block k hk (fun e => hn (by rw [e]))⟩ (.inr hne)
theorem blk_keeps {w w' : World} {g g' : Nat} {l : List Pu} (h : puBlk w g' l) (hb : Keeps g w w') (hne : g' ≠ g) : puBlk w' g' l := by
  have hl := GR.Blk.lt h
  unfold puBlk GR.Blk at *
  rw [hb.block g' hl hne]
  exact h
theorem own_at' {w : World} {B : Nat} {a : Option Addr} {c : Nat} {l : List Pu} (h : w.ownsRow B 32 4 (.slice a l.length c) l.length (GR.flat encP l)) : PursesAt w a l := by
  obtain ⟨a', c', e, hat⟩ := GR.own_at encP_length h
  injection e with e1 e2 e3
  subst e1
  exact hat
theorem addP_len (l : List Pu) (key : ByteArray) (dm df ds n : Int) (hl : l.length ≤ 1048576) : (addP l key dm df ds n).1.length ≤ 1048600 := by
  unfold addP withP
  split
  · have hs := put_flat l (shiftP (purseOf l key) dm df ds n)
    have h1 := place_le l (shiftP (purseOf l key) dm df ds n).k
    have h2 := tail_len l (shiftP (purseOf l key) dm df ds n).k
    rename_i hc
    simp only [Bool.and_eq_true] at hc
    have := ((psOk_iff _).1 hc.2).2.2
    show (putP l (shiftP (purseOf l key) dm df ds n)).length ≤ 1048600
    omega
  · show l.length ≤ 1048600
    omega
end Go.Proofs.YtdlhlfndobbocaaDoor
