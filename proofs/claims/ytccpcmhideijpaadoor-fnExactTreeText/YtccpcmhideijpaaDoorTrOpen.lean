/-
  A tree that came in: its cell, and its list in memory.
-/
import Derived.Test.YtccpcmhideijpaaDoorTrOk
import Derived.Test.YtccpcmhideijpaaDoorNdOpen
namespace Go.Proofs.YtccpcmhideijpaaDoor
open Go.RowKit
open Go.WideShapes
open Go.ChangeShapes
open Mth

theorem array_one {α : Type} {cs : Array α} (h : cs.size = 1) : ∃ a, cs = #[a] := by
  obtain ⟨l⟩ := cs
  match l, h with
  | [a], _ => exact ⟨a, rfl⟩
theorem trCells : Tryd.prog.cellsOf 30 = 1 := by kernel_rfl
theorem trSlcCells : Tryd.prog.cellsOf 22 = 1 := by kernel_rfl
set_option maxRecDepth 100000 in
theorem open_tree {H : Type} {enc : TypeId × Value → H} {W : World} {r : Reach} {base : Nat} {v : Value} {d : DataW H} {p : List MemPlace} (hv : Value.okWide Tryd.prog W r base 30 v) (h : DataW.Trod enc Tryd.prog W 0 (fun _ => true) true 30 v d p) :
    ∃ (a : Option Addr) (cap : Nat) (l : List Int), v = trv a l cap ∧ l.length ≤ maxLen ∧ IntsAt W a l := by
  simp only [Value.okWide, Tryd.underlying30] at hv
  obtain ⟨cs, rfl, hsz, ts, hts, _, hall⟩ := hv
  obtain ⟨fuel, hf⟩ := h
  obtain ⟨a0, rfl⟩ := array_one (hsz.trans trCells)
  obtain ⟨xs, k, _, _, _, hxl, hfl⟩ := DataW.trod_struct Tryd.underlying30 hf
  match xs, hxl with
  | [y0], _ =>
    have g0 := hfl 0 _ rfl
    simp [trSlcCells, Value.cells] at g0
    obtain ⟨b2, c2, l2, q2, z2, t2⟩ := open_ints' g0
    simp at q2
    subst q2
    exact ⟨b2, c2, l2, rfl, z2, t2⟩
end Go.Proofs.YtccpcmhideijpaaDoor
