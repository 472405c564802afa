/- Parts. -/
import Derived.Test.YtcfcngbfnflbgaaGreatDoorPk6
import Derived.Deep.SlicePairs
import Derived.ProofKit
import Derived.OpenVars
namespace Go.Proofs.YtcfcngbfnflbgaaGreatDoor
open Go.RowKit
open Go.WideShapes
open Go.ChangeShapes
open Mth

theorem ndIntCells : Tryz.prog.cellsOf 3 = 1 := by kernel_rfl
theorem ndStrCells : Tryz.prog.cellsOf 9 = 1 := by kernel_rfl
section
variable {H : Type} {enc : TypeId × Value → H} {W : World}
/-- A slice of structs that came in. -/
theorem open_rows {α : Type} {en : α → List Value} {sz : Nat} {ok : α → Prop} {t e : TypeId} {fuel : Nat} {cs : List Value} {x : DataW H × List MemPlace} (ht : Tryz.prog.underlying t = some (.slice e)) (hc : Tryz.prog.cellsOf e = sz) (hsz : 0 < sz) (hs : ∀ y, (en y).length = sz)
    (hel : ∀ fuel cs' x, cs'.length = sz → DataW.trod enc Tryz.prog W 0 (fun _ => true) true fuel e cs' = some x → ∃ y, ok y ∧ cs' = en y)
    (h : DataW.trod enc Tryz.prog W 0 (fun _ => true) true fuel t cs = some x) :
    ∃ (a : Option Addr) (cap : Nat) (l : List α), cs = [.slice a l.length cap] ∧ l.length ≤ maxLen ∧ (∀ y ∈ l, ok y) ∧ GR.At en sz W a l := by
  rcases Deep.open_slice ht h with ⟨hcs, _⟩ | ⟨x, len, cap, m, n, D, Pl, hcs, _, hlc, hcm, hm, _, hcell⟩
  · exact ⟨none, 0, [], hcs, by simp, fun p hp => by simp at hp, fun i hi => by simp at hi⟩
  · have hm' : m = cap := by rw [hm]; simp
    have each : ∀ i, i < len → ∃ q : α, ok q ∧ ∀ j, j < sz → W.cell? (x.add (i * sz + j)) = (en q)[j]? := by
      intro i hi
      obtain ⟨cs', h1, h2⟩ := hcell i (by omega)
      rw [hc] at h1
      obtain ⟨_, hlen, hcc⟩ := World.cells?_some h1
      obtain ⟨y, hy, rfl⟩ := hel _ _ _ hlen h2
      refine ⟨y, hy, fun j hj => ?_⟩
      have e := hcc j (by omega)
      rw [Deep.add_add] at e
      exact e
    have hd : Nonempty α ∨ len = 0 := by
      by_cases h0 : len = 0
      · exact .inr h0
      · obtain ⟨q, _⟩ := each 0 (by omega)
        exact .inl ⟨q⟩
    rcases hd with d | d
    · obtain ⟨q, hq⟩ : ∃ q : Nat → α, ∀ i, i < len → ok (q i) ∧ ∀ j, j < sz → W.cell? (x.add (i * sz + j)) = (en (q i))[j]? := by
        exact ⟨fun i => if hi : i < len then (each i hi).choose else Classical.choice d, fun i hi => by simp only [dif_pos hi]; exact (each i hi).choose_spec⟩
      refine ⟨some x, cap, (List.range len).map q, by rw [hcs]; simp, by simp; omega, fun p hp => ?_, fun i hi => ?_⟩
      · obtain ⟨i, hi, rfl⟩ := List.mem_map.1 hp
        exact (hq i (List.mem_range.1 hi)).1
      · have hi' : i < len := by simpa using hi
        obtain ⟨b, off, spot⟩ := x
        have h0 := (hq 0 (by omega)).2 0 hsz
        have hne : ∃ v, (en (q 0))[0]? = some v := ⟨_, List.getElem?_eq_getElem (by rw [hs]; exact hsz)⟩
        obtain ⟨v0, hv0⟩ := hne
        rw [hv0] at h0
        have hspot : spot = none := by simpa [Addr.add] using World.cell?_spot h0
        subst hspot
        have h1 := (hq i hi').2
        have ea : ∀ k : Nat, (⟨b, off, none⟩ : Addr).add k = ⟨b, off + k, none⟩ := fun k => by unfold Addr.add; split <;> simp_all
        have h3 := h1 0 hsz
        rw [ea, List.getElem?_eq_getElem (by rw [hs]; exact hsz)] at h3
        refine ⟨b, off, rfl, World.block_lt_of_cell? _ _ h3, fun j hj => ?_⟩
        have h2 := h1 j hj
        rw [ea] at h2
        simpa using h2
    · subst d
      exact ⟨some x, cap, [], by rw [hcs]; simp, by simp, fun p hp => by simp at hp, fun i hi => by simp at hi⟩
theorem open_ints' {fuel : Nat} {cs : List Value} {x : DataW H × List MemPlace} (h : DataW.trod enc Tryz.prog W 0 (fun _ => true) true fuel 22 cs = some x) :
    ∃ (a : Option Addr) (cap : Nat) (l : List Int), cs = [.slice a l.length cap] ∧ l.length ≤ maxLen ∧ IntsAt W a l := by
  obtain ⟨a, cap, l, h1, h2, _, h4⟩ := open_rows (en := encNum) (sz := 1) (ok := fun _ => True) Tryz.underlying22 ndIntCells (by omega) encNum_length (fun fuel cs' x _ h => by
    obtain ⟨n, q, _⟩ := DataW.trod_int Tryz.underlying3 h
    exact ⟨n, trivial, q⟩) h
  exact ⟨a, cap, l, h1, h2, h4⟩
set_option maxRecDepth 100000 in
theorem open_purses' {fuel : Nat} {cs : List Value} {x : DataW H × List MemPlace} (h : DataW.trod enc Tryz.prog W 0 (fun _ => true) true fuel 23 cs = some x) :
    ∃ (a : Option Addr) (cap : Nat) (l : List Pu), cs = [.slice a l.length cap] ∧ l.length ≤ maxLen ∧ (∀ y ∈ l, y.k.size ≤ maxLen) ∧ PursesAt W a l :=
  open_rows (en := encP) (sz := 4) (ok := fun y => y.k.size ≤ maxLen) Tryz.underlying23 (by kernel_rfl) (by omega) encP_length (fun fuel cs' x hlen h => by
    obtain ⟨xs, k, _, _, _, hxl, hfl⟩ := DataW.trod_struct Tryz.underlying79 h
    match xs, hxl, cs', hlen with
    | [y0, y1, y2, y3], _, [v0, v1, v2, v3], _ =>
      have g0 := hfl 0 _ rfl
      have g1 := hfl 1 _ rfl
      have g2 := hfl 2 _ rfl
      have g3 := hfl 3 _ rfl
      simp [ndIntCells, ndStrCells] at g0 g1 g2 g3
      obtain ⟨s0, q0, _, hs0⟩ := DataW.trod_string Tryz.underlying9 g0
      obtain ⟨n1, q1, _⟩ := DataW.trod_int Tryz.underlying3 g1
      obtain ⟨n2, q2, _⟩ := DataW.trod_int Tryz.underlying3 g2
      obtain ⟨n3, q3, _⟩ := DataW.trod_int Tryz.underlying3 g3
      simp at q0 q1 q2 q3
      subst q0 q1 q2 q3
      exact ⟨⟨s0, n1, n2, n3⟩, hs0, rfl⟩) h
set_option maxRecDepth 100000 in
theorem open_sents {fuel : Nat} {cs : List Value} {x : DataW H × List MemPlace} (h : DataW.trod enc Tryz.prog W 0 (fun _ => true) true fuel 24 cs = some x) :
    ∃ (a : Option Addr) (cap : Nat) (l : List Snt), cs = [.slice a l.length cap] ∧ l.length ≤ maxLen ∧ (∀ y ∈ l, y.k.size ≤ maxLen) ∧ SentAt W a l :=
  open_rows (en := encSnt) (sz := 4) (ok := fun y => y.k.size ≤ maxLen) Tryz.underlying24 (by kernel_rfl) (by omega) encSnt_length (fun fuel cs' x hlen h => by
    obtain ⟨xs, k, _, _, _, hxl, hfl⟩ := DataW.trod_struct Tryz.underlying82 h
    match xs, hxl, cs', hlen with
    | [y0, y1, y2, y3], _, [v0, v1, v2, v3], _ =>
      have g0 := hfl 0 _ rfl
      have g1 := hfl 1 _ rfl
      have g2 := hfl 2 _ rfl
      have g3 := hfl 3 _ rfl
      simp [ndIntCells, ndStrCells] at g0 g1 g2 g3
      obtain ⟨n0, q0, _⟩ := DataW.trod_int Tryz.underlying3 g0
      obtain ⟨n1, q1, _⟩ := DataW.trod_int Tryz.underlying3 g1
      obtain ⟨s2, q2, _, hs2⟩ := DataW.trod_string Tryz.underlying9 g2
      obtain ⟨n3, q3, _⟩ := DataW.trod_int Tryz.underlying3 g3
      simp at q0 q1 q2 q3
      subst q0 q1 q2 q3
      exact ⟨⟨n0, n1, s2, n3⟩, hs2, rfl⟩) h
set_option maxRecDepth 100000 in
theorem open_reqs {fuel : Nat} {cs : List Value} {x : DataW H × List MemPlace} (h : DataW.trod enc Tryz.prog W 0 (fun _ => true) true fuel 26 cs = some x) :
    ∃ (a : Option Addr) (cap : Nat) (l : List Rq), cs = [.slice a l.length cap] ∧ l.length ≤ maxLen ∧ (∀ y ∈ l, y.k.size ≤ maxLen) ∧ ReqAt W a l :=
  open_rows (en := encRq) (sz := 4) (ok := fun y => y.k.size ≤ maxLen) Tryz.underlying26 (by kernel_rfl) (by omega) encRq_length (fun fuel cs' x hlen h => by
    obtain ⟨xs, k, _, _, _, hxl, hfl⟩ := DataW.trod_struct Tryz.underlying88 h
    match xs, hxl, cs', hlen with
    | [y0, y1, y2, y3], _, [v0, v1, v2, v3], _ =>
      have g0 := hfl 0 _ rfl
      have g1 := hfl 1 _ rfl
      have g2 := hfl 2 _ rfl
      have g3 := hfl 3 _ rfl
      simp [ndIntCells, ndStrCells] at g0 g1 g2 g3
      obtain ⟨n0, q0, _⟩ := DataW.trod_int Tryz.underlying3 g0
      obtain ⟨s1, q1, _, hs1⟩ := DataW.trod_string Tryz.underlying9 g1
      obtain ⟨n2, q2, _⟩ := DataW.trod_int Tryz.underlying3 g2
      obtain ⟨n3, q3, _⟩ := DataW.trod_int Tryz.underlying3 g3
      simp at q0 q1 q2 q3
      subst q0 q1 q2 q3
      exact ⟨⟨n0, s1, n2, n3⟩, hs1, rfl⟩) h
theorem ndSlcCells : Tryz.prog.cellsOf 22 = 1 := by kernel_rfl
set_option maxRecDepth 100000 in
theorem open_seen {fuel : Nat} {cs : List Value} {x : DataW H × List MemPlace} (h : DataW.trod enc Tryz.prog W 0 (fun _ => true) true fuel 25 cs = some x) :
    ∃ (a : Option Addr) (cap : Nat) (l : List Sn), cs = [.slice a l.length cap] ∧ l.length ≤ maxLen ∧ (∀ y ∈ l, y.ids.length ≤ maxLen) ∧ SeenAt W a l := by
  obtain ⟨a, cap, l, h1, h2, h3, h4⟩ := open_rows (en := encR3) (sz := 3) (ok := fun y => ∃ b c, ∃ ids : List Int, y.v = .slice b ids.length c ∧ ids.length ≤ maxLen ∧ IntsAt W b ids) Tryz.underlying25 (by kernel_rfl) (by omega) encR3_length (fun fuel cs' x hlen h => by
    obtain ⟨xs, k, _, _, _, hxl, hfl⟩ := DataW.trod_struct Tryz.underlying85 h
    match xs, hxl, cs', hlen with
    | [y0, y1, y2], _, [v0, v1, v2], _ =>
      have g0 := hfl 0 _ rfl
      have g1 := hfl 1 _ rfl
      have g2 := hfl 2 _ rfl
      simp [ndIntCells, ndSlcCells] at g0 g1 g2
      obtain ⟨n0, q0, _⟩ := DataW.trod_int Tryz.underlying3 g0
      obtain ⟨n1, q1, _⟩ := DataW.trod_int Tryz.underlying3 g1
      obtain ⟨b, c, ids, q2, hi1, hi2⟩ := open_ints' g2
      simp at q0 q1 q2
      subst q0 q1 q2
      exact ⟨⟨n0, n1, .slice b ids.length c⟩, ⟨b, c, ids, rfl, hi1, hi2⟩, rfl⟩) h
  have hex : ∀ y : R3, ∃ s : Sn, y ∈ l → (s.f = y.f ∧ s.l = y.l ∧ ∃ b c, y.v = .slice b s.ids.length c ∧ s.ids.length ≤ maxLen ∧ IntsAt W b s.ids) := fun y => by
    by_cases hy : y ∈ l
    · obtain ⟨b, c, ids, e1, e2, e3⟩ := h3 y hy
      exact ⟨⟨y.f, y.l, ids⟩, fun _ => ⟨rfl, rfl, b, c, e1, e2, e3⟩⟩
    · exact ⟨default, fun h => absurd h hy⟩
  refine ⟨a, cap, l.map (fun y => (hex y).choose), by rw [h1]; simp, by simpa using h2, ?_, ?_⟩
  · intro s hs
    obtain ⟨y, hy, rfl⟩ := List.mem_map.1 hs
    obtain ⟨_, _, b, c, _, e2, _⟩ := (hex y).choose_spec hy
    exact e2
  · intro i hi
    have hi' : i < l.length := by simpa using hi
    obtain ⟨g, off, e, hg, hc⟩ := h4 i hi'
    have hsp := (hex l[i]).choose_spec (List.getElem_mem hi')
    have hge : (l.map (fun y => (hex y).choose))[i] = (hex l[i]).choose := by simp
    rw [hge]
    obtain ⟨s1, s2, b, c, e1, e2, e3⟩ := hsp
    refine ⟨g, off, b, c, e, hg, ?_, ?_, ?_, e3⟩
    · rw [s1]; simpa using hc 0 (by omega)
    · rw [s2]; simpa [Nat.add_assoc] using hc 1 (by omega)
    · rw [← e1]; simpa [Nat.add_assoc] using hc 2 (by omega)
theorem array_nine {α : Type} {cs : Array α} (h : cs.size = 9) : ∃ a b c d e f g i j, cs = #[a, b, c, d, e, f, g, i, j] := by
  obtain ⟨l⟩ := cs
  match l, h with
  | [a, b, c, d, e, f, g, i, j], _ => exact ⟨a, b, c, d, e, f, g, i, j, rfl⟩
theorem ndCells : Tryz.prog.cellsOf 28 = 9 := by kernel_rfl
theorem ndSl1 : Tryz.prog.cellsOf 23 = 1 := by kernel_rfl
theorem ndSl2 : Tryz.prog.cellsOf 24 = 1 := by kernel_rfl
theorem ndSl3 : Tryz.prog.cellsOf 25 = 1 := by kernel_rfl
theorem ndSl4 : Tryz.prog.cellsOf 26 = 1 := by kernel_rfl
set_option maxRecDepth 100000 in
theorem open_node {r : Reach} {base : Nat} {v : Value} {d : DataW H} {p : List MemPlace} (hv : Value.okWide Tryz.prog W r base 28 v) (h : DataW.Trod enc Tryz.prog W 0 (fun _ => true) true 28 v d p) :
    ∃ (n : Nd) (A : Ads), v = ndv n A ∧ NdSz n maxLen ∧ NodeAt W A n := by
  simp only [Value.okWide, Tryz.underlying28] at hv
  obtain ⟨cs, rfl, hsz, ts, hts, _, hall⟩ := hv
  obtain ⟨fuel, hf⟩ := h
  obtain ⟨a0, a1, a2, a3, a4, a5, a6, a7, a8, rfl⟩ := array_nine (hsz.trans ndCells)
  obtain ⟨xs, k, _, _, _, hxl, hfl⟩ := DataW.trod_struct Tryz.underlying28 hf
  match xs, hxl with
  | [y0, y1, y2, y3, y4, y5, y6, y7, y8], _ =>
    have g0 := hfl 0 _ rfl
    have g1 := hfl 1 _ rfl
    have g2 := hfl 2 _ rfl
    have g3 := hfl 3 _ rfl
    have g4 := hfl 4 _ rfl
    have g5 := hfl 5 _ rfl
    have g6 := hfl 6 _ rfl
    have g7 := hfl 7 _ rfl
    have g8 := hfl 8 _ rfl
    simp [ndIntCells, ndSlcCells, ndSl1, ndSl2, ndSl3, ndSl4, Value.cells] at g0 g1 g2 g3 g4 g5 g6 g7 g8
    obtain ⟨n0, q0, _⟩ := DataW.trod_int Tryz.underlying3 g0
    obtain ⟨n1, q1, _⟩ := DataW.trod_int Tryz.underlying3 g1
    obtain ⟨b2, c2, l2, q2, z2, t2⟩ := open_ints' g2
    obtain ⟨n3, q3, _⟩ := DataW.trod_int Tryz.underlying3 g3
    obtain ⟨b4, c4, l4, q4, z4, s4, t4⟩ := open_purses' g4
    obtain ⟨b5, c5, l5, q5, z5, s5, t5⟩ := open_sents g5
    obtain ⟨b6, c6, l6, q6, z6, s6, t6⟩ := open_seen g6
    obtain ⟨n7, q7, _⟩ := DataW.trod_int Tryz.underlying3 g7
    obtain ⟨b8, c8, l8, q8, z8, s8, t8⟩ := open_reqs g8
    simp at q0 q1 q2 q3 q4 q5 q6 q7 q8
    subst q0 q1 q2 q3 q4 q5 q6 q7 q8
    exact ⟨⟨n0, n1, l2, n3, l4, l5, l6, n7, l8⟩, ⟨b2, b4, b5, b6, b8, c2, c4, c5, c6, c8⟩, rfl, ⟨z2, z4, z5, z6, z8, s4, s5, s6, s8⟩, ⟨t2, t4, t5, t6, t8⟩⟩
end
open Go
theorem trodVars_len {H : Type} {enc : TypeId × Value → H} {P : Program} {w : World} {sp : Nat → Bool} : ∀ {ns : List String} {gs : List (DataW H)} {ps : List MemPlace}, DataW.TrodVars enc P w sp ns gs ps → gs.length = ns.length
  | [], [], _, _ => rfl
  | [], _ :: _, _, h => h.elim
  | _ :: _, [], _, h => h.elim
  | _ :: ns, _ :: ds, _, h => by
    obtain ⟨_, _, _, _, _, _, _, _, _, _, hs, _⟩ := h
    have := trodVars_len hs
    simp [this]
theorem vars_list5 {α : Type} {gs : List α} (h : gs.length = 5) : ∃ a b c d e, gs = [a, b, c, d, e] := by
  match gs, h with
  | [a, b, c, d, e], _ => exact ⟨a, b, c, d, e, rfl⟩
end Go.Proofs.YtcfcngbfnflbgaaGreatDoor
