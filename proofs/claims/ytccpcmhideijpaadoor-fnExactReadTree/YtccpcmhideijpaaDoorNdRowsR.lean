/-
  The laws' own helpers on lists of Req: copied, held against each other, their bulk.
-/
import Derived.Test.YtccpcmhideijpaaDoorNdMath
import Derived.Test.YtccpcmhideijpaaDoorPuSz
import Derived.Deep.RegionHeld
namespace Go.Proofs.YtccpcmhideijpaaDoor
open Go.RowKit
open Mth

abbrev ReqAt (w : World) (a : Option Addr) (l : List Rq) : Prop := GR.At encRq 4 w a l
abbrev ReqV (p : Rq) : Value := .agg #[.int .i64 p.no, .string p.k, .int .i64 p.n, .int .i64 p.s]
theorem ReqAt.four {w : World} {a : Option Addr} {l : List Rq} (h : ReqAt w a l) (i : Nat) (hi : i < l.length) : ∃ g off, a = some ⟨g, off, none⟩ ∧ g < w.heap.size ∧ w.cell? ⟨g, off + i * 4, none⟩ = some (.int .i64 l[i].no) ∧ w.cell? ⟨g, off + i * 4 + 1, none⟩ = some (.string l[i].k) ∧ w.cell? ⟨g, off + i * 4 + 2, none⟩ = some (.int .i64 l[i].n) ∧ w.cell? ⟨g, off + i * 4 + 3, none⟩ = some (.int .i64 l[i].s) := by
  obtain ⟨g, off, e, hg, hc⟩ := h i hi
  refine ⟨g, off, e, hg, ?_, ?_, ?_, ?_⟩
  · simpa using hc 0 (by omega)
  · simpa [Nat.add_assoc] using hc 1 (by omega)
  · simpa [Nat.add_assoc] using hc 2 (by omega)
  · simpa [Nat.add_assoc] using hc 3 (by omega)
theorem take_setReq (l : List Rq) (z : Rq) (k : Nat) (hk : k < l.length) : (l.take k ++ List.replicate (l.length - k) z).set k l[k] = l.take (k + 1) ++ List.replicate (l.length - (k + 1)) z := by
  have hlen : (l.take k).length = k := by simp; omega
  rw [List.set_append_right _ _ (by omega), hlen, Nat.sub_self]
  have e : l.length - k = (l.length - (k + 1)) + 1 := by omega
  rw [e, List.replicate_succ, List.take_succ_eq_append_getElem hk, List.append_assoc]
  rfl

end Go.Proofs.YtccpcmhideijpaaDoor
