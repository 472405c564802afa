/-
  A node that came in: its cells, and its lists in memory.
-/
import Derived.Test.YtccpcmhideijpaaDoorNdW
import Derived.Deep.SlicePairs
import Derived.ProofKit
namespace Go.Proofs.YtccpcmhideijpaaDoor
open Go.RowKit
open Go.WideShapes
open Go.ChangeShapes
open Mth

theorem ndIntCells : Tryd.prog.cellsOf 3 = 1 := by kernel_rfl
theorem ndStrCells : Tryd.prog.cellsOf 9 = 1 := by kernel_rfl
section
variable {H : Type} {enc : TypeId × Value → H} {W : World}
/-- A slice of structs that came in. -/
theorem open_rows {α : Type} {en : α → List Value} {sz : Nat} {ok : α → Prop} {t e : TypeId} {fuel : Nat} {cs : List Value} {x : DataW H × List MemPlace} (ht : Tryd.prog.underlying t = some (.slice e)) (hc : Tryd.prog.cellsOf e = sz) (hsz : 0 < sz) (hs : ∀ y, (en y).length = sz)
    (hel : ∀ fuel cs' x, cs'.length = sz → DataW.trod enc Tryd.prog W 0 (fun _ => true) true fuel e cs' = some x → ∃ y, ok y ∧ cs' = en y)
    (h : DataW.trod enc Tryd.prog W 0 (fun _ => true) true fuel t cs = some x) :
    ∃ (a : Option Addr) (cap : Nat) (l : List α), cs = [.slice a l.length cap] ∧ l.length ≤ maxLen ∧ (∀ y ∈ l, ok y) ∧ GR.At en sz W a l := by
  rcases Deep.open_slice ht h with ⟨hcs, _⟩ | ⟨x, len, cap, m, n, D, Pl, hcs, _, hlc, hcm, hm, _, hcell⟩
  · exact ⟨none, 0, [], hcs, by simp, fun p hp => by simp at hp, fun i hi => by simp at hi⟩
  · have hm' : m = cap := by rw [hm]; simp
    have each : ∀ i, i < len → ∃ q : α, ok q ∧ ∀ j, j < sz → W.cell? (x.add (i * sz + j)) = (en q)[j]? := by
      intro i hi
      obtain ⟨cs', h1, h2⟩ := hcell i (by omega)
      rw [hc] at h1
      obtain ⟨_, hlen, hcc⟩ := World.cells?_some h1
      obtain ⟨y, hy, rfl⟩ := hel _ _ _ hlen h2
      refine ⟨y, hy, fun j hj => ?_⟩
      have e := hcc j (by omega)
      rw [Deep.add_add] at e
      exact e
    have hd : Nonempty α ∨ len = 0 := by
      by_cases h0 : len = 0
      · exact .inr h0
      · obtain ⟨q, _⟩ := each 0 (by omega)
        exact .inl ⟨q⟩
    rcases hd with d | d
    · obtain ⟨q, hq⟩ : ∃ q : Nat → α, ∀ i, i < len → ok (q i) ∧ ∀ j, j < sz → W.cell? (x.add (i * sz + j)) = (en (q i))[j]? := by
        exact ⟨fun i => if hi : i < len then (each i hi).choose else Classical.choice d, fun i hi => by simp only [dif_pos hi]; exact (each i hi).choose_spec⟩
      refine ⟨some x, cap, (List.range len).map q, by rw [hcs]; simp, by simp; omega, fun p hp => ?_, fun i hi => ?_⟩
      · obtain ⟨i, hi, rfl⟩ := List.mem_map.1 hp
        exact (hq i (List.mem_range.1 hi)).1
      · have hi' : i < len := by simpa using hi
        obtain ⟨b, off, spot⟩ := x
        have h0 := (hq 0 (by omega)).2 0 hsz
        have hne : ∃ v, (en (q 0))[0]? = some v := ⟨_, List.getElem?_eq_getElem (by rw [hs]; exact hsz)⟩
        obtain ⟨v0, hv0⟩ := hne
        rw [hv0] at h0
        have hspot : spot = none := by simpa [Addr.add] using World.cell?_spot h0
        subst hspot
        have h1 := (hq i hi').2
        have ea : ∀ k : Nat, (⟨b, off, none⟩ : Addr).add k = ⟨b, off + k, none⟩ := fun k => by unfold Addr.add; split <;> simp_all
        have h3 := h1 0 hsz
        rw [ea, List.getElem?_eq_getElem (by rw [hs]; exact hsz)] at h3
        refine ⟨b, off, rfl, World.block_lt_of_cell? _ _ h3, fun j hj => ?_⟩
        have h2 := h1 j hj
        rw [ea] at h2
        simpa using h2
    · subst d
      exact ⟨some x, cap, [], by rw [hcs]; simp, by simp, fun p hp => by simp at hp, fun i hi => by simp at hi⟩
theorem open_ints' {fuel : Nat} {cs : List Value} {x : DataW H × List MemPlace} (h : DataW.trod enc Tryd.prog W 0 (fun _ => true) true fuel 22 cs = some x) :
    ∃ (a : Option Addr) (cap : Nat) (l : List Int), cs = [.slice a l.length cap] ∧ l.length ≤ maxLen ∧ IntsAt W a l := by
  obtain ⟨a, cap, l, h1, h2, _, h4⟩ := open_rows (en := encNum) (sz := 1) (ok := fun _ => True) Tryd.underlying22 ndIntCells (by omega) encNum_length (fun fuel cs' x _ h => by
    obtain ⟨n, q, _⟩ := DataW.trod_int Tryd.underlying3 h
    exact ⟨n, trivial, q⟩) h
  exact ⟨a, cap, l, h1, h2, h4⟩
theorem ndSlcCells : Tryd.prog.cellsOf 22 = 1 := by kernel_rfl
theorem array_nine {α : Type} {cs : Array α} (h : cs.size = 9) : ∃ a b c d e f g i j, cs = #[a, b, c, d, e, f, g, i, j] := by
  obtain ⟨l⟩ := cs
  match l, h with
  | [a, b, c, d, e, f, g, i, j], _ => exact ⟨a, b, c, d, e, f, g, i, j, rfl⟩
end
set_option maxRecDepth 100000 in
theorem open_intsArg {H : Type} {enc : TypeId × Value → H} {W : World} {r : Reach} {base : Nat} {v : Value} {d : DataW H} {p : List MemPlace} (hv : Value.okWide Tryd.prog W r base 22 v) (h : DataW.Trod enc Tryd.prog W 0 (fun _ => true) true 22 v d p) :
    ∃ (a : Option Addr) (cap : Nat) (l : List Int), v = .slice a l.length cap ∧ l.length ≤ maxLen ∧ IntsAt W a l := by
  obtain ⟨a, len, cap, rfl⟩ := okWide_slice Tryd.underlying22 hv
  obtain ⟨fuel, hf⟩ := h
  obtain ⟨a', cap', l, h1, h2, h3⟩ := open_ints' hf
  simp [Value.cells] at h1
  obtain ⟨rfl, rfl, rfl⟩ := h1
  exact ⟨_, _, l, rfl, h2, h3⟩
end Go.Proofs.YtccpcmhideijpaaDoor
