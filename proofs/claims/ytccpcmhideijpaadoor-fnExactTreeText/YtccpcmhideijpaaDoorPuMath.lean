/-
  Purses in plain terms: when a list of them is right, which one is a key's, what a list with another one in its place is.
-/
import Derived.Test.YtccpcmhideijpaaDoorGRows
namespace Go.Proofs.YtccpcmhideijpaaDoor
namespace Mth

/-- A purse: its key, what was minted, what is free, what is spent. -/
structure Pu where
  k : ByteArray
  m : Int
  f : Int
  s : Int
instance : Inhabited Pu := ⟨⟨ByteArray.empty, 0, 0, 0⟩⟩
abbrev encP (p : Pu) : List Value := [.string p.k, .int .i64 p.m, .int .i64 p.f, .int .i64 p.s]
abbrev puv (p : Pu) : Value := .agg #[.string p.k, .int .i64 p.m, .int .i64 p.f, .int .i64 p.s]
theorem encP_length (p : Pu) : (encP p).length = 4 := rfl
/-- One text ahead of another, or the same. -/
def sle (a b : ByteArray) : Bool := Op.bytesLess a.toList b.toList || a.toList == b.toList
def amB (n : Int) : Bool := decide (0 ≤ n ∧ n ≤ 1000000000)
/-- A purse by itself is right. -/
def puOk (p : Pu) : Bool := keyOk p.k.data.toList && amB p.m && amB p.f && amB p.s && amB (p.f + p.s)
/-- Place i of a list is right: the purse, and its key behind the one ahead. -/
def okAt (l : List Pu) (i : Nat) : Bool := puOk (l.getD i default) && (i == 0 || !sle (l.getD i default).k (l.getD (i - 1) default).k)
def psOk (l : List Pu) : Bool := (List.range l.length).all (okAt l) && decide (l.length ≤ 20)
theorem all_range_succ (f : Nat → Bool) (k : Nat) : (List.range (k + 1)).all f = ((List.range k).all f && f k) := by
  rw [List.range_succ, List.all_append]
  simp
theorem psOk_bad {l : List Pu} {i : Nat} (hi : i < l.length) (h : okAt l i = false) : psOk l = false := by
  unfold psOk
  have : (List.range l.length).all (okAt l) = false := by
    rw [List.all_eq_false]
    exact ⟨i, List.mem_range.2 hi, by rw [h]; simp⟩
  rw [this]
  rfl
theorem psOk_good {l : List Pu} (h : (List.range l.length).all (okAt l) = true) : psOk l = decide (l.length ≤ 20) := by unfold psOk; rw [h]; rfl
/-- The purse of a key. -/
def purseOf (l : List Pu) (k : ByteArray) : Pu := (l.find? fun p => p.k.toList == k.toList).getD ⟨k, 0, 0, 0⟩
theorem find_step (f : Pu → Bool) (l : List Pu) (i : Nat) (hi : i < l.length) (h : (l.take i).find? f = none) : (f l[i] = true → l.find? f = some l[i]) ∧ (f l[i] = false → (l.take (i + 1)).find? f = none) := by
  constructor
  · intro hf
    have e : l = l.take i ++ l[i] :: l.drop (i + 1) := by rw [← List.drop_eq_getElem_cons hi, List.take_append_drop]
    have h2 : (l.take i ++ l[i] :: l.drop (i + 1)).find? f = some l[i] := by
      rw [List.find?_append, h, List.find?_cons, hf]
      rfl
    rw [← e] at h2
    exact h2
  · intro hf
    rw [List.take_succ_eq_append_getElem hi, List.find?_append, h, List.find?_cons, hf]
    rfl
theorem getD_at (l : List Pu) (i : Nat) (hi : i < l.length) : l.getD i default = l[i] := by rw [List.getD_eq_getElem?_getD, List.getElem?_eq_getElem hi]; rfl
end Mth
end Go.Proofs.YtccpcmhideijpaaDoor
