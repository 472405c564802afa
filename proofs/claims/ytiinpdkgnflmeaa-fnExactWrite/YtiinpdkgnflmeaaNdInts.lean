/-
  The laws' own helpers on lists of numbers: copied, held against each other, their bulk.
-/
import Derived.Test.YtiinpdkgnflmeaaNdMath
import Derived.Test.YtiinpdkgnflmeaaPuSz
import Derived.Deep.RegionHeld
namespace Go.Proofs.Ytiinpdkgnflmeaa
open Go.RowKit
open Mth

abbrev IntsAt (w : World) (a : Option Addr) (l : List Int) : Prop := GR.At encNum 1 w a l
theorem IntsAt.one {w : World} {a : Option Addr} {l : List Int} (h : IntsAt w a l) (i : Nat) (hi : i < l.length) : ∃ g off, a = some ⟨g, off, none⟩ ∧ g < w.heap.size ∧ w.cell? ⟨g, off + i, none⟩ = some (.int .i64 l[i]) := by
  obtain ⟨g, off, e, hg, hc⟩ := h i hi
  refine ⟨g, off, e, hg, ?_⟩
  simpa using hc 0 (by omega)
abbrev intBlk (w : World) (g : Nat) (l : List Int) : Prop := GR.Blk encNum 3 w g l
theorem intBlk.one {w : World} {g : Nat} {l : List Int} (h : intBlk w g l) (i : Nat) (hi : i < l.length) : w.cell? ⟨g, i, none⟩ = some (.int .i64 l[i]) := by
  simpa using GR.Blk.cell h encNum_length i hi 0 (by omega)
theorem intBlk.step {w w' : World} {g : Nat} {l : List Int} (h : intBlk w g l) (hb : Below w.heap.size w w') : intBlk w' g l := by
  have hl := GR.Blk.lt h
  unfold intBlk GR.Blk at *
  rw [hb.block g hl]
  exact h
theorem infoInt : (Try.prog.info? 3).map (fun i => (i.zero, i.size, i.bytes)) = some (some (.int .i64 0), 1, 8) := by kernel_rfl
theorem take_setI (l : List Int) (z : Int) (k : Nat) (hk : k < l.length) : (l.take k ++ List.replicate (l.length - k) z).set k l[k] = l.take (k + 1) ++ List.replicate (l.length - (k + 1)) z := by
  have hlen : (l.take k).length = k := by simp; omega
  rw [List.set_append_right _ _ (by omega), hlen, Nat.sub_self]
  have e : l.length - k = (l.length - (k + 1)) + 1 := by omega
  rw [e, List.replicate_succ, List.take_succ_eq_append_getElem hk, List.append_assoc]
  rfl

end Go.Proofs.Ytiinpdkgnflmeaa
