/-
  Purses that came in, as a slice of them.
-/
import Derived.Test.YtdlhlfndobbocaaDoorPuSz
import Derived.Deep.SlicePairs
import Derived.ProofKit
namespace Go.Proofs.YtdlhlfndobbocaaDoor
open Go.RowKit
open Go.WideShapes
open Go.ChangeShapes
open Mth

theorem puCells : Tryd.prog.cellsOf 50 = 4 := by kernel_rfl
theorem puIntCells : Tryd.prog.cellsOf 3 = 1 := by kernel_rfl
theorem puStrCells : Tryd.prog.cellsOf 9 = 1 := by kernel_rfl
set_option maxRecDepth 100000 in
theorem open_purses {H : Type} {enc : TypeId × Value → H} {W : World} {r : Reach} {base : Nat} {v : Value} {d : DataW H} {p : List MemPlace} (hv : Value.okWide Tryd.prog W r base 35 v) (h : DataW.Trod enc Tryd.prog W 0 (fun _ => true) true 35 v d p) :
    ∃ (a : Option Addr) (cap : Nat) (l : List Pu), v = .slice a l.length cap ∧ l.length ≤ maxLen ∧ (∀ p ∈ l, p.k.size ≤ maxLen) ∧ PursesAt W a l := by
  obtain ⟨a, len, cap, rfl⟩ := okWide_slice Tryd.underlying35 hv
  obtain ⟨fuel, hf⟩ := h
  rcases Deep.open_slice Tryd.underlying35 hf with ⟨hcs, _⟩ | ⟨x, len', cap', m, n, D, Pl, hcs, _, hlc, hcm, hm, _, hcell⟩
  · simp [Value.cells] at hcs
    obtain ⟨rfl, rfl, rfl⟩ := hcs
    exact ⟨none, 0, [], rfl, by simp, fun p hp => by simp at hp, fun i hi => by simp at hi⟩
  · simp [Value.cells] at hcs
    obtain ⟨rfl, rfl, rfl⟩ := hcs
    have hm' : m = cap := by rw [hm]; simp
    have each : ∀ i, i < len → ∃ q : Pu, q.k.size ≤ maxLen ∧ ∀ j, j < 4 → W.cell? (x.add (i * 4 + j)) = (encP q)[j]? := by
      intro i hi
      obtain ⟨cs', h1, h2⟩ := hcell i (by omega)
      rw [puCells] at h1
      obtain ⟨_, hlen, hc⟩ := World.cells?_some h1
      obtain ⟨xs, k, _, _, _, hxl, hfl⟩ := DataW.trod_struct Tryd.underlying50 h2
      match xs, hxl, cs', hlen with
      | [y0, y1, y2, y3], _, [v0, v1, v2, v3], _ =>
        have g0 := hfl 0 _ rfl
        have g1 := hfl 1 _ rfl
        have g2 := hfl 2 _ rfl
        have g3 := hfl 3 _ rfl
        simp [puIntCells, puStrCells] at g0 g1 g2 g3
        obtain ⟨s0, q0, _, hs0⟩ := DataW.trod_string Tryd.underlying9 g0
        obtain ⟨n1, q1, _⟩ := DataW.trod_int Tryd.underlying3 g1
        obtain ⟨n2, q2, _⟩ := DataW.trod_int Tryd.underlying3 g2
        obtain ⟨n3, q3, _⟩ := DataW.trod_int Tryd.underlying3 g3
        simp at q0 q1 q2 q3
        subst q0 q1 q2 q3
        refine ⟨⟨s0, n1, n2, n3⟩, hs0, fun j hj => ?_⟩
        have e := hc j (by omega)
        rw [Deep.add_add] at e
        exact e
    obtain ⟨q, hq⟩ : ∃ q : Nat → Pu, ∀ i, i < len → (q i).k.size ≤ maxLen ∧ ∀ j, j < 4 → W.cell? (x.add (i * 4 + j)) = (encP (q i))[j]? := Deep.choose_lt each
    refine ⟨some x, cap, (List.range len).map q, by simp, by simp; omega, fun p hp => ?_, fun i hi => ?_⟩
    · obtain ⟨i, hi, rfl⟩ := List.mem_map.1 hp
      exact (hq i (List.mem_range.1 hi)).1
    · have hi' : i < len := by simpa using hi
      obtain ⟨b, off, spot⟩ := x
      have h0 := (hq 0 (by omega)).2 0 (by omega)
      have hspot : spot = none := by simpa [Addr.add] using World.cell?_spot h0
      subst hspot
      have h1 := (hq i hi').2
      have ea : ∀ k : Nat, (⟨b, off, none⟩ : Addr).add k = ⟨b, off + k, none⟩ := fun k => by unfold Addr.add; split <;> simp_all
      have h3 := h1 0 (by omega)
      rw [ea] at h3
      refine ⟨b, off, rfl, World.block_lt_of_cell? _ _ h3, fun j hj => ?_⟩
      have h2 := h1 j hj
      rw [ea] at h2
      simpa using h2
end Go.Proofs.YtdlhlfndobbocaaDoor
