/-
  Asks that came in, as a slice of pairs of numbers.
-/
import Derived.Test.YthjpjamihlopeaaBkAllLaw
import Derived.Test.YthjpjamihlopeaaBkOpen
import Derived.Deep.SlicePairs
import Derived.ProofKit
namespace Go.Proofs.Ythjpjamihlopeaa
open Go.RowKit
open Go.WideShapes
open Go.ChangeShapes
open Mth

theorem askCells : Try.prog.cellsOf 73 = 2 := by kernel_rfl
theorem intCells : Try.prog.cellsOf 3 = 1 := by kernel_rfl
theorem open_asks {H : Type} {enc : TypeId × Value → H} {W : World} {r : Reach} {base : Nat} {v : Value} {d : DataW H} {p : List MemPlace} (hv : Value.okWide Try.prog W r base 50 v) (h : DataW.Trod enc Try.prog W 0 (fun _ => true) true 50 v d p) :
    ∃ (a : Option Addr) (cap : Nat) (l : List (Int × Int)), v = .slice a l.length cap ∧ l.length ≤ maxLen ∧ AsksAt W a l := by
  obtain ⟨a, len, cap, rfl⟩ := okWide_slice Try.underlying50 hv
  obtain ⟨fuel, hf⟩ := h
  rcases Deep.open_slice_pairs Try.underlying50 Try.underlying73 askCells rfl rfl intCells intCells hf with ⟨hcs, _⟩ | ⟨x, len', cap', m, n, V0, V1, D0, D1, P0, P1, hcs, _, hlc, hcm, hm, _, hcell⟩
  · simp [Value.cells] at hcs
    obtain ⟨rfl, rfl, rfl⟩ := hcs
    exact ⟨none, 0, [], rfl, by simp, fun i hi => by simp at hi⟩
  · simp [Value.cells] at hcs
    obtain ⟨rfl, rfl, rfl⟩ := hcs
    have hm' : m = cap := by rw [hm]; simp
    have hint : ∀ i, i < len → V0 i = .int .i64 (intOf (V0 i)) ∧ V1 i = .int .i64 (intOf (V1 i)) := fun i hi => by
      obtain ⟨_, _, h3, h4⟩ := hcell i (by omega)
      obtain ⟨n0, e0, _⟩ := DataW.trod_int Try.underlying3 h3
      obtain ⟨n1, e1, _⟩ := DataW.trod_int Try.underlying3 h4
      simp at e0 e1
      rw [e0, e1]
      exact ⟨rfl, rfl⟩
    refine ⟨some x, cap, (List.range len).map fun i => (intOf (V0 i), intOf (V1 i)), by simp, by simp; omega, fun i hi => ?_⟩
    have hi' : i < len := by simpa using hi
    obtain ⟨b, off, spot⟩ := x
    have h0 := (hcell 0 (by omega)).1
    have hspot : spot = none := by simpa [Addr.add] using World.cell?_spot h0
    subst hspot
    obtain ⟨h1, h2, _, _⟩ := hcell i (by omega)
    obtain ⟨e1, e2⟩ := hint i hi'
    rw [addr_add', e1] at h1
    rw [addr_add', e2] at h2
    refine ⟨b, off, rfl, World.block_lt_of_cell? _ _ h1, ?_, ?_⟩
    · simpa using h1
    · simpa [Nat.add_assoc] using h2

theorem fnExactTakeAll_walk (b : Bk) (a : Option Addr) (cap : Nat) (l : List (Int × Int)) (hm : l.length ≤ maxLen) (w : World) (ha : AsksAt w a l) : Calls Try.prog 9 #[bkv b, .slice a l.length cap] w fun e w' => e = .returned (.bool true) ∧ Below w.heap.size w w' := by
  by_cases hl : l.length ≤ 1048576
  · exact fnExactTakeAll_few b a cap l w hl ha
  · exact fnExactTakeAll_many b a l.length cap w (by omega) hm
end Go.Proofs.Ythjpjamihlopeaa
