/-
  The laws' own helpers on lists of purses: copied, held against each other.
-/
import Derived.Test.YtccpcmhideijpaaDoorPuBase
import Derived.Deep.RegionHeld
namespace Go.Proofs.YtccpcmhideijpaaDoor
open Go.RowKit
open Mth

theorem take_set_pu (l : List Pu) (z : Pu) (k : Nat) (hk : k < l.length) : (l.take k ++ List.replicate (l.length - k) z).set k l[k] = l.take (k + 1) ++ List.replicate (l.length - (k + 1)) z := by
  have hlen : (l.take k).length = k := by simp; omega
  rw [List.set_append_right _ _ (by omega), hlen, Nat.sub_self]
  have e : l.length - k = (l.length - (k + 1)) + 1 := by omega
  rw [e, List.replicate_succ, List.take_succ_eq_append_getElem hk, List.append_assoc]
  rfl

end Go.Proofs.YtccpcmhideijpaaDoor
