/- Parts. -/
import Derived.Test.YtgkimogaghgjaaaPk8
import Derived.Test.YtgkimogaghgjaaaPk19
import Derived.Deep.SlicePairs
import Derived.ProofKit
namespace Go.Proofs.Ytgkimogaghgjaaa
open Go.RowKit
open Go.WideShapes
open Go.ChangeShapes
open Mth

theorem ndIntCells : Try.prog.cellsOf 3 = 1 := by kernel_rfl
theorem ndStrCells : Try.prog.cellsOf 9 = 1 := by kernel_rfl
section
variable {H : Type} {enc : TypeId × Value → H} {W : World}
/-- A slice of structs that came in. -/
theorem open_rows {α : Type} {en : α → List Value} {sz : Nat} {ok : α → Prop} {t e : TypeId} {fuel : Nat} {cs : List Value} {x : DataW H × List MemPlace} (ht : Try.prog.underlying t = some (.slice e)) (hc : Try.prog.cellsOf e = sz) (hsz : 0 < sz) (hs : ∀ y, (en y).length = sz)
    (hel : ∀ fuel cs' x, cs'.length = sz → DataW.trod enc Try.prog W 0 (fun _ => true) true fuel e cs' = some x → ∃ y, ok y ∧ cs' = en y)
    (h : DataW.trod enc Try.prog W 0 (fun _ => true) true fuel t cs = some x) :
    ∃ (a : Option Addr) (cap : Nat) (l : List α), cs = [.slice a l.length cap] ∧ l.length ≤ maxLen ∧ (∀ y ∈ l, ok y) ∧ GR.At en sz W a l := by
  rcases Deep.open_slice ht h with ⟨hcs, _⟩ | ⟨x, len, cap, m, n, D, Pl, hcs, _, hlc, hcm, hm, _, hcell⟩
  · exact ⟨none, 0, [], hcs, by simp, fun p hp => by simp at hp, fun i hi => by simp at hi⟩
  · have hm' : m = cap := by rw [hm]; simp
    have each : ∀ i, i < len → ∃ q : α, ok q ∧ ∀ j, j < sz → W.cell? (x.add (i * sz + j)) = (en q)[j]? := by
      intro i hi
      obtain ⟨cs', h1, h2⟩ := hcell i (by omega)
      rw [hc] at h1
      obtain ⟨_, hlen, hcc⟩ := World.cells?_some h1
      obtain ⟨y, hy, rfl⟩ := hel _ _ _ hlen h2
      refine ⟨y, hy, fun j hj => ?_⟩
      have e := hcc j (by omega)
      rw [Deep.add_add] at e
      exact e
    have hd : Nonempty α ∨ len = 0 := by
      by_cases h0 : len = 0
      · exact .inr h0
      · obtain ⟨q, _⟩ := each 0 (by omega)
        exact .inl ⟨q⟩
    rcases hd with d | d
    · obtain ⟨q, hq⟩ : ∃ q : Nat → α, ∀ i, i < len → ok (q i) ∧ ∀ j, j < sz → W.cell? (x.add (i * sz + j)) = (en (q i))[j]? := by
        exact ⟨fun i => if hi : i < len then (each i hi).choose else Classical.choice d, fun i hi => by simp only [dif_pos hi]; exact (each i hi).choose_spec⟩
      refine ⟨some x, cap, (List.range len).map q, by rw [hcs]; simp, by simp; omega, fun p hp => ?_, fun i hi => ?_⟩
      · obtain ⟨i, hi, rfl⟩ := List.mem_map.1 hp
        exact (hq i (List.mem_range.1 hi)).1
      · have hi' : i < len := by simpa using hi
        obtain ⟨b, off, spot⟩ := x
        have h0 := (hq 0 (by omega)).2 0 hsz
        have hne : ∃ v, (en (q 0))[0]? = some v := ⟨_, List.getElem?_eq_getElem (by rw [hs]; exact hsz)⟩
        obtain ⟨v0, hv0⟩ := hne
        rw [hv0] at h0
        have hspot : spot = none := by simpa [Addr.add] using World.cell?_spot h0
        subst hspot
        have h1 := (hq i hi').2
        have ea : ∀ k : Nat, (⟨b, off, none⟩ : Addr).add k = ⟨b, off + k, none⟩ := fun k => by unfold Addr.add; split <;> simp_all
        have h3 := h1 0 hsz
        rw [ea, List.getElem?_eq_getElem (by rw [hs]; exact hsz)] at h3
        refine ⟨b, off, rfl, World.block_lt_of_cell? _ _ h3, fun j hj => ?_⟩
        have h2 := h1 j hj
        rw [ea] at h2
        simpa using h2
    · subst d
      exact ⟨some x, cap, [], by rw [hcs]; simp, by simp, fun p hp => by simp at hp, fun i hi => by simp at hi⟩
theorem open_ints' {fuel : Nat} {cs : List Value} {x : DataW H × List MemPlace} (h : DataW.trod enc Try.prog W 0 (fun _ => true) true fuel 22 cs = some x) :
    ∃ (a : Option Addr) (cap : Nat) (l : List Int), cs = [.slice a l.length cap] ∧ l.length ≤ maxLen ∧ IntsAt W a l := by
  obtain ⟨a, cap, l, h1, h2, _, h4⟩ := open_rows (en := encNum) (sz := 1) (ok := fun _ => True) Try.underlying22 ndIntCells (by omega) encNum_length (fun fuel cs' x _ h => by
    obtain ⟨n, q, _⟩ := DataW.trod_int Try.underlying3 h
    exact ⟨n, trivial, q⟩) h
  exact ⟨a, cap, l, h1, h2, h4⟩
set_option maxRecDepth 100000 in
theorem open_purses' {fuel : Nat} {cs : List Value} {x : DataW H × List MemPlace} (h : DataW.trod enc Try.prog W 0 (fun _ => true) true fuel 85 cs = some x) :
    ∃ (a : Option Addr) (cap : Nat) (l : List Pu), cs = [.slice a l.length cap] ∧ l.length ≤ maxLen ∧ (∀ y ∈ l, y.k.size ≤ maxLen) ∧ PursesAt W a l :=
  open_rows (en := encP) (sz := 4) (ok := fun y => y.k.size ≤ maxLen) Try.underlying85 (by kernel_rfl) (by omega) encP_length (fun fuel cs' x hlen h => by
    obtain ⟨xs, k, _, _, _, hxl, hfl⟩ := DataW.trod_struct Try.underlying170 h
    match xs, hxl, cs', hlen with
    | [y0, y1, y2, y3], _, [v0, v1, v2, v3], _ =>
      have g0 := hfl 0 _ rfl
      have g1 := hfl 1 _ rfl
      have g2 := hfl 2 _ rfl
      have g3 := hfl 3 _ rfl
      simp [ndIntCells, ndStrCells] at g0 g1 g2 g3
      obtain ⟨s0, q0, _, hs0⟩ := DataW.trod_string Try.underlying9 g0
      obtain ⟨n1, q1, _⟩ := DataW.trod_int Try.underlying3 g1
      obtain ⟨n2, q2, _⟩ := DataW.trod_int Try.underlying3 g2
      obtain ⟨n3, q3, _⟩ := DataW.trod_int Try.underlying3 g3
      simp at q0 q1 q2 q3
      subst q0 q1 q2 q3
      exact ⟨⟨s0, n1, n2, n3⟩, hs0, rfl⟩) h
set_option maxRecDepth 100000 in
theorem open_sents {fuel : Nat} {cs : List Value} {x : DataW H × List MemPlace} (h : DataW.trod enc Try.prog W 0 (fun _ => true) true fuel 86 cs = some x) :
    ∃ (a : Option Addr) (cap : Nat) (l : List Snt), cs = [.slice a l.length cap] ∧ l.length ≤ maxLen ∧ (∀ y ∈ l, y.k.size ≤ maxLen) ∧ SentAt W a l :=
  open_rows (en := encSnt) (sz := 4) (ok := fun y => y.k.size ≤ maxLen) Try.underlying86 (by kernel_rfl) (by omega) encSnt_length (fun fuel cs' x hlen h => by
    obtain ⟨xs, k, _, _, _, hxl, hfl⟩ := DataW.trod_struct Try.underlying172 h
    match xs, hxl, cs', hlen with
    | [y0, y1, y2, y3], _, [v0, v1, v2, v3], _ =>
      have g0 := hfl 0 _ rfl
      have g1 := hfl 1 _ rfl
      have g2 := hfl 2 _ rfl
      have g3 := hfl 3 _ rfl
      simp [ndIntCells, ndStrCells] at g0 g1 g2 g3
      obtain ⟨n0, q0, _⟩ := DataW.trod_int Try.underlying3 g0
      obtain ⟨n1, q1, _⟩ := DataW.trod_int Try.underlying3 g1
      obtain ⟨s2, q2, _, hs2⟩ := DataW.trod_string Try.underlying9 g2
      obtain ⟨n3, q3, _⟩ := DataW.trod_int Try.underlying3 g3
      simp at q0 q1 q2 q3
      subst q0 q1 q2 q3
      exact ⟨⟨n0, n1, s2, n3⟩, hs2, rfl⟩) h
set_option maxRecDepth 100000 in
theorem open_reqs {fuel : Nat} {cs : List Value} {x : DataW H × List MemPlace} (h : DataW.trod enc Try.prog W 0 (fun _ => true) true fuel 88 cs = some x) :
    ∃ (a : Option Addr) (cap : Nat) (l : List Rq), cs = [.slice a l.length cap] ∧ l.length ≤ maxLen ∧ (∀ y ∈ l, y.k.size ≤ maxLen) ∧ ReqAt W a l :=
  open_rows (en := encRq) (sz := 4) (ok := fun y => y.k.size ≤ maxLen) Try.underlying88 (by kernel_rfl) (by omega) encRq_length (fun fuel cs' x hlen h => by
    obtain ⟨xs, k, _, _, _, hxl, hfl⟩ := DataW.trod_struct Try.underlying176 h
    match xs, hxl, cs', hlen with
    | [y0, y1, y2, y3], _, [v0, v1, v2, v3], _ =>
      have g0 := hfl 0 _ rfl
      have g1 := hfl 1 _ rfl
      have g2 := hfl 2 _ rfl
      have g3 := hfl 3 _ rfl
      simp [ndIntCells, ndStrCells] at g0 g1 g2 g3
      obtain ⟨n0, q0, _⟩ := DataW.trod_int Try.underlying3 g0
      obtain ⟨s1, q1, _, hs1⟩ := DataW.trod_string Try.underlying9 g1
      obtain ⟨n2, q2, _⟩ := DataW.trod_int Try.underlying3 g2
      obtain ⟨n3, q3, _⟩ := DataW.trod_int Try.underlying3 g3
      simp at q0 q1 q2 q3
      subst q0 q1 q2 q3
      exact ⟨⟨n0, s1, n2, n3⟩, hs1, rfl⟩) h
theorem ndSlcCells : Try.prog.cellsOf 22 = 1 := by kernel_rfl
set_option maxRecDepth 100000 in
theorem open_seen {fuel : Nat} {cs : List Value} {x : DataW H × List MemPlace} (h : DataW.trod enc Try.prog W 0 (fun _ => true) true fuel 87 cs = some x) :
    ∃ (a : Option Addr) (cap : Nat) (l : List Sn), cs = [.slice a l.length cap] ∧ l.length ≤ maxLen ∧ (∀ y ∈ l, y.ids.length ≤ maxLen) ∧ SeenAt W a l := by
  obtain ⟨a, cap, l, h1, h2, h3, h4⟩ := open_rows (en := encR3) (sz := 3) (ok := fun y => ∃ b c, ∃ ids : List Int, y.v = .slice b ids.length c ∧ ids.length ≤ maxLen ∧ IntsAt W b ids) Try.underlying87 (by kernel_rfl) (by omega) encR3_length (fun fuel cs' x hlen h => by
    obtain ⟨xs, k, _, _, _, hxl, hfl⟩ := DataW.trod_struct Try.underlying174 h
    match xs, hxl, cs', hlen with
    | [y0, y1, y2], _, [v0, v1, v2], _ =>
      have g0 := hfl 0 _ rfl
      have g1 := hfl 1 _ rfl
      have g2 := hfl 2 _ rfl
      simp [ndIntCells, ndSlcCells] at g0 g1 g2
      obtain ⟨n0, q0, _⟩ := DataW.trod_int Try.underlying3 g0
      obtain ⟨n1, q1, _⟩ := DataW.trod_int Try.underlying3 g1
      obtain ⟨b, c, ids, q2, hi1, hi2⟩ := open_ints' g2
      simp at q0 q1 q2
      subst q0 q1 q2
      exact ⟨⟨n0, n1, .slice b ids.length c⟩, ⟨b, c, ids, rfl, hi1, hi2⟩, rfl⟩) h
  have hex : ∀ y : R3, ∃ s : Sn, y ∈ l → (s.f = y.f ∧ s.l = y.l ∧ ∃ b c, y.v = .slice b s.ids.length c ∧ s.ids.length ≤ maxLen ∧ IntsAt W b s.ids) := fun y => by
    by_cases hy : y ∈ l
    · obtain ⟨b, c, ids, e1, e2, e3⟩ := h3 y hy
      exact ⟨⟨y.f, y.l, ids⟩, fun _ => ⟨rfl, rfl, b, c, e1, e2, e3⟩⟩
    · exact ⟨default, fun h => absurd h hy⟩
  refine ⟨a, cap, l.map (fun y => (hex y).choose), by rw [h1]; simp, by simpa using h2, ?_, ?_⟩
  · intro s hs
    obtain ⟨y, hy, rfl⟩ := List.mem_map.1 hs
    obtain ⟨_, _, b, c, _, e2, _⟩ := (hex y).choose_spec hy
    exact e2
  · intro i hi
    have hi' : i < l.length := by simpa using hi
    obtain ⟨g, off, e, hg, hc⟩ := h4 i hi'
    have hsp := (hex l[i]).choose_spec (List.getElem_mem hi')
    have hge : (l.map (fun y => (hex y).choose))[i] = (hex l[i]).choose := by simp
    rw [hge]
    obtain ⟨s1, s2, b, c, e1, e2, e3⟩ := hsp
    refine ⟨g, off, b, c, e, hg, ?_, ?_, ?_, e3⟩
    · rw [s1]; simpa using hc 0 (by omega)
    · rw [s2]; simpa [Nat.add_assoc] using hc 1 (by omega)
    · rw [← e1]; simpa [Nat.add_assoc] using hc 2 (by omega)
theorem ndCells : Try.prog.cellsOf 90 = 9 := by kernel_rfl
theorem ndSl1 : Try.prog.cellsOf 85 = 1 := by kernel_rfl
theorem ndSl2 : Try.prog.cellsOf 86 = 1 := by kernel_rfl
theorem ndSl3 : Try.prog.cellsOf 87 = 1 := by kernel_rfl
theorem ndSl4 : Try.prog.cellsOf 88 = 1 := by kernel_rfl
end

theorem wdMsgCells : Try.prog.cellsOf 97 = 7 := by kernel_rfl
theorem wdOpCells : Try.prog.cellsOf 99 = 11 := by kernel_rfl
theorem wdAnCells : Try.prog.cellsOf 101 = 12 := by kernel_rfl
theorem wdTrCells : Try.prog.cellsOf 24 = 1 := by kernel_rfl
theorem wdMgS : Try.prog.cellsOf 91 = 1 := by kernel_rfl
theorem wdAnS : Try.prog.cellsOf 92 = 1 := by kernel_rfl
theorem wdKpS : Try.prog.cellsOf 25 = 1 := by kernel_rfl
theorem wdStS : Try.prog.cellsOf 26 = 1 := by kernel_rfl
theorem wdTdS : Try.prog.cellsOf 27 = 1 := by kernel_rfl
theorem wdGvS : Try.prog.cellsOf 28 = 1 := by kernel_rfl
theorem wdCells : Try.prog.cellsOf 30 = 5 := by kernel_rfl
section
variable {H : Type} {enc : TypeId × Value → H} {W : World}
theorem open_strs {fuel : Nat} {cs : List Value} {x : DataW H × List MemPlace} (h : DataW.trod enc Try.prog W 0 (fun _ => true) true fuel 26 cs = some x) :
    ∃ (a : Option Addr) (cap : Nat) (l : List ByteArray), cs = [.slice a l.length cap] ∧ l.length ≤ maxLen ∧ (∀ y ∈ l, y.size ≤ maxLen) ∧ StrsAt W a l :=
  open_rows (en := encStr) (sz := 1) (ok := fun y => y.size ≤ maxLen) Try.underlying26 ndStrCells (by omega) encStr_length (fun fuel cs' x _ h => by
    obtain ⟨s, q, _, hs⟩ := DataW.trod_string Try.underlying9 h
    exact ⟨s, hs, q⟩) h
set_option maxRecDepth 100000 in
theorem open_msgs {fuel : Nat} {cs : List Value} {x : DataW H × List MemPlace} (h : DataW.trod enc Try.prog W 0 (fun _ => true) true fuel 91 cs = some x) :
    ∃ (a : Option Addr) (cap : Nat) (l : List Mg), cs = [.slice a l.length cap] ∧ l.length ≤ maxLen ∧ (∀ y ∈ l, y.k.size ≤ maxLen) ∧ GR.At encMg 7 W a l :=
  open_rows (en := encMg) (sz := 7) (ok := fun y => y.k.size ≤ maxLen) Try.underlying91 (by kernel_rfl) (by omega) encMg_length (fun fuel cs' x hlen h => by
    match cs', hlen with
    | [v0, v1, v2, v3, v4, v5, v6], _ =>
      obtain ⟨xs1, kk1, _, _, _, hxl1, hfl1⟩ := DataW.trod_struct Try.underlying97 h
      match xs1, hxl1 with
      | [y1_0, y1_1, y1_2, y1_3, y1_4, y1_5, y1_6], _ =>
        have g1_0 := hfl1 0 _ rfl
        have g1_1 := hfl1 1 _ rfl
        have g1_2 := hfl1 2 _ rfl
        have g1_3 := hfl1 3 _ rfl
        have g1_4 := hfl1 4 _ rfl
        have g1_5 := hfl1 5 _ rfl
        have g1_6 := hfl1 6 _ rfl
        simp [ndIntCells, ndStrCells] at g1_0 g1_1 g1_2 g1_3 g1_4 g1_5 g1_6
        obtain ⟨n1_0, q1_0, _⟩ := DataW.trod_int Try.underlying3 g1_0
        obtain ⟨n1_1, q1_1, _⟩ := DataW.trod_int Try.underlying3 g1_1
        obtain ⟨n1_2, q1_2, _⟩ := DataW.trod_int Try.underlying3 g1_2
        obtain ⟨n1_3, q1_3, _⟩ := DataW.trod_int Try.underlying3 g1_3
        obtain ⟨n1_4, q1_4, _⟩ := DataW.trod_int Try.underlying3 g1_4
        obtain ⟨s1_5, q1_5, _, hs1_5⟩ := DataW.trod_string Try.underlying9 g1_5
        obtain ⟨n1_6, q1_6, _⟩ := DataW.trod_int Try.underlying3 g1_6
        simp at q1_0 q1_1 q1_2 q1_3 q1_4 q1_5 q1_6
        subst q1_0 q1_1 q1_2 q1_3 q1_4 q1_5 q1_6
        exact ⟨⟨n1_0, n1_1, n1_2, n1_3, n1_4, s1_5, n1_6⟩, hs1_5, rfl⟩) h
set_option maxRecDepth 100000 in
theorem open_answers {fuel : Nat} {cs : List Value} {x : DataW H × List MemPlace} (h : DataW.trod enc Try.prog W 0 (fun _ => true) true fuel 92 cs = some x) :
    ∃ (a : Option Addr) (cap : Nat) (l : List An), cs = [.slice a l.length cap] ∧ l.length ≤ maxLen ∧ (∀ y ∈ l, y.o.k.size ≤ maxLen ∧ y.o.m.k.size ≤ maxLen) ∧ GR.At encAn 12 W a l :=
  open_rows (en := encAn) (sz := 12) (ok := fun y => y.o.k.size ≤ maxLen ∧ y.o.m.k.size ≤ maxLen) Try.underlying92 (by kernel_rfl) (by omega) encAn_length (fun fuel cs' x hlen h => by
    match cs', hlen with
    | [v0, v1, v2, v3, v4, v5, v6, v7, v8, v9, v10, v11], _ =>
      obtain ⟨xs1, kk1, _, _, _, hxl1, hfl1⟩ := DataW.trod_struct Try.underlying101 h
      match xs1, hxl1 with
      | [y1_0, y1_1], _ =>
        have g1_0 := hfl1 0 _ rfl
        have g1_1 := hfl1 1 _ rfl
        simp [ndIntCells, wdOpCells] at g1_0 g1_1
        obtain ⟨xs2, kk2, _, _, _, hxl2, hfl2⟩ := DataW.trod_struct Try.underlying99 g1_0
        match xs2, hxl2 with
        | [y2_0, y2_1, y2_2, y2_3, y2_4], _ =>
          have g2_0 := hfl2 0 _ rfl
          have g2_1 := hfl2 1 _ rfl
          have g2_2 := hfl2 2 _ rfl
          have g2_3 := hfl2 3 _ rfl
          have g2_4 := hfl2 4 _ rfl
          simp [ndIntCells, ndStrCells, wdMsgCells] at g2_0 g2_1 g2_2 g2_3 g2_4
          obtain ⟨n2_0, q2_0, _⟩ := DataW.trod_int Try.underlying3 g2_0
          obtain ⟨n2_1, q2_1, _⟩ := DataW.trod_int Try.underlying3 g2_1
          obtain ⟨s2_2, q2_2, _, hs2_2⟩ := DataW.trod_string Try.underlying9 g2_2
          obtain ⟨n2_3, q2_3, _⟩ := DataW.trod_int Try.underlying3 g2_3
          obtain ⟨xs3, kk3, _, _, _, hxl3, hfl3⟩ := DataW.trod_struct Try.underlying97 g2_4
          match xs3, hxl3 with
          | [y3_0, y3_1, y3_2, y3_3, y3_4, y3_5, y3_6], _ =>
            have g3_0 := hfl3 0 _ rfl
            have g3_1 := hfl3 1 _ rfl
            have g3_2 := hfl3 2 _ rfl
            have g3_3 := hfl3 3 _ rfl
            have g3_4 := hfl3 4 _ rfl
            have g3_5 := hfl3 5 _ rfl
            have g3_6 := hfl3 6 _ rfl
            simp [ndIntCells, ndStrCells] at g3_0 g3_1 g3_2 g3_3 g3_4 g3_5 g3_6
            obtain ⟨n3_0, q3_0, _⟩ := DataW.trod_int Try.underlying3 g3_0
            obtain ⟨n3_1, q3_1, _⟩ := DataW.trod_int Try.underlying3 g3_1
            obtain ⟨n3_2, q3_2, _⟩ := DataW.trod_int Try.underlying3 g3_2
            obtain ⟨n3_3, q3_3, _⟩ := DataW.trod_int Try.underlying3 g3_3
            obtain ⟨n3_4, q3_4, _⟩ := DataW.trod_int Try.underlying3 g3_4
            obtain ⟨s3_5, q3_5, _, hs3_5⟩ := DataW.trod_string Try.underlying9 g3_5
            obtain ⟨n3_6, q3_6, _⟩ := DataW.trod_int Try.underlying3 g3_6
            obtain ⟨n1_1, q1_1, _⟩ := DataW.trod_int Try.underlying3 g1_1
            simp at q2_0 q2_1 q2_2 q2_3 q3_0 q3_1 q3_2 q3_3 q3_4 q3_5 q3_6 q1_1
            subst q2_0 q2_1 q2_2 q2_3 q3_0 q3_1 q3_2 q3_3 q3_4 q3_5 q3_6 q1_1
            exact ⟨⟨⟨n2_0, n2_1, s2_2, n2_3, ⟨n3_0, n3_1, n3_2, n3_3, n3_4, s3_5, n3_6⟩⟩, n1_1⟩, ⟨hs2_2, hs3_5⟩, rfl⟩) h
set_option maxRecDepth 100000 in
theorem open_tolds {fuel : Nat} {cs : List Value} {x : DataW H × List MemPlace} (h : DataW.trod enc Try.prog W 0 (fun _ => true) true fuel 27 cs = some x) :
    ∃ (a : Option Addr) (cap : Nat) (l : List Td), cs = [.slice a l.length cap] ∧ l.length ≤ maxLen ∧ (∀ y ∈ l, y.n.o.k.size ≤ maxLen ∧ y.n.o.m.k.size ≤ maxLen) ∧ GR.At encTd 13 W a l :=
  open_rows (en := encTd) (sz := 13) (ok := fun y => y.n.o.k.size ≤ maxLen ∧ y.n.o.m.k.size ≤ maxLen) Try.underlying27 (by kernel_rfl) (by omega) encTd_length (fun fuel cs' x hlen h => by
    match cs', hlen with
    | [v0, v1, v2, v3, v4, v5, v6, v7, v8, v9, v10, v11, v12], _ =>
      obtain ⟨xs1, kk1, _, _, _, hxl1, hfl1⟩ := DataW.trod_struct Try.underlying103 h
      match xs1, hxl1 with
      | [y1_0, y1_1], _ =>
        have g1_0 := hfl1 0 _ rfl
        have g1_1 := hfl1 1 _ rfl
        simp [ndIntCells, wdAnCells] at g1_0 g1_1
        obtain ⟨n1_0, q1_0, _⟩ := DataW.trod_int Try.underlying3 g1_0
        obtain ⟨xs2, kk2, _, _, _, hxl2, hfl2⟩ := DataW.trod_struct Try.underlying101 g1_1
        match xs2, hxl2 with
        | [y2_0, y2_1], _ =>
          have g2_0 := hfl2 0 _ rfl
          have g2_1 := hfl2 1 _ rfl
          simp [ndIntCells, wdOpCells] at g2_0 g2_1
          obtain ⟨xs3, kk3, _, _, _, hxl3, hfl3⟩ := DataW.trod_struct Try.underlying99 g2_0
          match xs3, hxl3 with
          | [y3_0, y3_1, y3_2, y3_3, y3_4], _ =>
            have g3_0 := hfl3 0 _ rfl
            have g3_1 := hfl3 1 _ rfl
            have g3_2 := hfl3 2 _ rfl
            have g3_3 := hfl3 3 _ rfl
            have g3_4 := hfl3 4 _ rfl
            simp [ndIntCells, ndStrCells, wdMsgCells] at g3_0 g3_1 g3_2 g3_3 g3_4
            obtain ⟨n3_0, q3_0, _⟩ := DataW.trod_int Try.underlying3 g3_0
            obtain ⟨n3_1, q3_1, _⟩ := DataW.trod_int Try.underlying3 g3_1
            obtain ⟨s3_2, q3_2, _, hs3_2⟩ := DataW.trod_string Try.underlying9 g3_2
            obtain ⟨n3_3, q3_3, _⟩ := DataW.trod_int Try.underlying3 g3_3
            obtain ⟨xs4, kk4, _, _, _, hxl4, hfl4⟩ := DataW.trod_struct Try.underlying97 g3_4
            match xs4, hxl4 with
            | [y4_0, y4_1, y4_2, y4_3, y4_4, y4_5, y4_6], _ =>
              have g4_0 := hfl4 0 _ rfl
              have g4_1 := hfl4 1 _ rfl
              have g4_2 := hfl4 2 _ rfl
              have g4_3 := hfl4 3 _ rfl
              have g4_4 := hfl4 4 _ rfl
              have g4_5 := hfl4 5 _ rfl
              have g4_6 := hfl4 6 _ rfl
              simp [ndIntCells, ndStrCells] at g4_0 g4_1 g4_2 g4_3 g4_4 g4_5 g4_6
              obtain ⟨n4_0, q4_0, _⟩ := DataW.trod_int Try.underlying3 g4_0
              obtain ⟨n4_1, q4_1, _⟩ := DataW.trod_int Try.underlying3 g4_1
              obtain ⟨n4_2, q4_2, _⟩ := DataW.trod_int Try.underlying3 g4_2
              obtain ⟨n4_3, q4_3, _⟩ := DataW.trod_int Try.underlying3 g4_3
              obtain ⟨n4_4, q4_4, _⟩ := DataW.trod_int Try.underlying3 g4_4
              obtain ⟨s4_5, q4_5, _, hs4_5⟩ := DataW.trod_string Try.underlying9 g4_5
              obtain ⟨n4_6, q4_6, _⟩ := DataW.trod_int Try.underlying3 g4_6
              obtain ⟨n2_1, q2_1, _⟩ := DataW.trod_int Try.underlying3 g2_1
              simp at q1_0 q3_0 q3_1 q3_2 q3_3 q4_0 q4_1 q4_2 q4_3 q4_4 q4_5 q4_6 q2_1
              subst q1_0 q3_0 q3_1 q3_2 q3_3 q4_0 q4_1 q4_2 q4_3 q4_4 q4_5 q4_6 q2_1
              exact ⟨⟨n1_0, ⟨⟨n3_0, n3_1, s3_2, n3_3, ⟨n4_0, n4_1, n4_2, n4_3, n4_4, s4_5, n4_6⟩⟩, n2_1⟩⟩, ⟨hs3_2, hs4_5⟩, rfl⟩) h
set_option maxRecDepth 100000 in
theorem open_givens {fuel : Nat} {cs : List Value} {x : DataW H × List MemPlace} (h : DataW.trod enc Try.prog W 0 (fun _ => true) true fuel 28 cs = some x) :
    ∃ (a : Option Addr) (cap : Nat) (l : List Gv), cs = [.slice a l.length cap] ∧ l.length ≤ maxLen ∧ (∀ y ∈ l, True) ∧ GR.At encGv 2 W a l :=
  open_rows (en := encGv) (sz := 2) (ok := fun y => True) Try.underlying28 (by kernel_rfl) (by omega) encGv_length (fun fuel cs' x hlen h => by
    match cs', hlen with
    | [v0, v1], _ =>
      obtain ⟨xs1, kk1, _, _, _, hxl1, hfl1⟩ := DataW.trod_struct Try.underlying117 h
      match xs1, hxl1 with
      | [y1_0, y1_1], _ =>
        have g1_0 := hfl1 0 _ rfl
        have g1_1 := hfl1 1 _ rfl
        simp [ndIntCells] at g1_0 g1_1
        obtain ⟨n1_0, q1_0, _⟩ := DataW.trod_int Try.underlying3 g1_0
        obtain ⟨n1_1, q1_1, _⟩ := DataW.trod_int Try.underlying3 g1_1
        simp at q1_0 q1_1
        subst q1_0 q1_1
        exact ⟨⟨n1_0, n1_1⟩, trivial, rfl⟩) h
set_option maxRecDepth 100000 in
theorem open_nodeC {fuel : Nat} {v0 v1 v2 v3 v4 v5 v6 v7 v8 : Value} {x : DataW H × List MemPlace} (h : DataW.trod enc Try.prog W 0 (fun _ => true) true fuel 90 [v0, v1, v2, v3, v4, v5, v6, v7, v8] = some x) :
    ∃ (n : Nd) (A : Ads), [v0, v1, v2, v3, v4, v5, v6, v7, v8] = (ndc n A).toList ∧ NdSz n maxLen ∧ NodeAt W A n := by
  obtain ⟨xs, k, _, _, _, hxl, hfl⟩ := DataW.trod_struct Try.underlying90 h
  match xs, hxl with
  | [y0, y1, y2, y3, y4, y5, y6, y7, y8], _ =>
    have g0 := hfl 0 _ rfl
    have g1 := hfl 1 _ rfl
    have g2 := hfl 2 _ rfl
    have g3 := hfl 3 _ rfl
    have g4 := hfl 4 _ rfl
    have g5 := hfl 5 _ rfl
    have g6 := hfl 6 _ rfl
    have g7 := hfl 7 _ rfl
    have g8 := hfl 8 _ rfl
    simp [ndIntCells, ndSlcCells, ndSl1, ndSl2, ndSl3, ndSl4] at g0 g1 g2 g3 g4 g5 g6 g7 g8
    obtain ⟨n0, q0, _⟩ := DataW.trod_int Try.underlying3 g0
    obtain ⟨n1, q1, _⟩ := DataW.trod_int Try.underlying3 g1
    obtain ⟨b2, c2, l2, q2, z2, t2⟩ := open_ints' g2
    obtain ⟨n3, q3, _⟩ := DataW.trod_int Try.underlying3 g3
    obtain ⟨b4, c4, l4, q4, z4, s4, t4⟩ := open_purses' g4
    obtain ⟨b5, c5, l5, q5, z5, s5, t5⟩ := open_sents g5
    obtain ⟨b6, c6, l6, q6, z6, s6, t6⟩ := open_seen g6
    obtain ⟨n7, q7, _⟩ := DataW.trod_int Try.underlying3 g7
    obtain ⟨b8, c8, l8, q8, z8, s8, t8⟩ := open_reqs g8
    simp at q0 q1 q2 q3 q4 q5 q6 q7 q8
    subst q0 q1 q2 q3 q4 q5 q6 q7 q8
    exact ⟨⟨n0, n1, l2, n3, l4, l5, l6, n7, l8⟩, ⟨b2, b4, b5, b6, b8, c2, c4, c5, c6, c8⟩, rfl, ⟨z2, z4, z5, z6, z8, s4, s5, s6, s8⟩, ⟨t2, t4, t5, t6, t8⟩⟩
set_option maxRecDepth 100000 in
set_option maxHeartbeats 2000000 in
theorem open_keepers {fuel : Nat} {cs : List Value} {x : DataW H × List MemPlace} (h : DataW.trod enc Try.prog W 0 (fun _ => true) true fuel 25 cs = some x) :
    ∃ (a : Option Addr) (cap : Nat) (l : List KpI), cs = [.slice a l.length cap] ∧ l.length ≤ maxLen ∧ (∀ y ∈ l, KpSz y.1 maxLen) ∧ KpsAt W a l := by
  obtain ⟨a, cap, l, h1, h2, h3, h4⟩ := open_rows (en := encK) (sz := 22) (ok := fun y => KpSz y.1 maxLen ∧ KpAt W y.2 y.1) Try.underlying25 (by kernel_rfl) (by omega) encK_length (fun fuel cs' x hlen h => by
    match cs', hlen with
    | [v0, v1, v2, v3, v4, v5, v6, v7, v8, v9, v10, v11, v12, v13, v14, v15, v16, v17, v18, v19, v20, v21], _ =>
      obtain ⟨xs, kk, _, _, _, hxl, hfl⟩ := DataW.trod_struct Try.underlying94 h
      match xs, hxl with
      | [y0, y1, y2, y3, y4, y5], _ =>
        have g0 := hfl 0 _ rfl
        have g1 := hfl 1 _ rfl
        have g2 := hfl 2 _ rfl
        have g3 := hfl 3 _ rfl
        have g4 := hfl 4 _ rfl
        have g5 := hfl 5 _ rfl
        simp [ndIntCells, ndStrCells, ndCells, wdMgS, wdAnS] at g0 g1 g2 g3 g4 g5
        obtain ⟨B0, AB, q0, z0, t0⟩ := open_nodeC g0
        obtain ⟨N0, AN, q1, z1, t1⟩ := open_nodeC g1
        obtain ⟨lg, q2, _, z2⟩ := DataW.trod_string Try.underlying9 g2
        obtain ⟨sf, q3, _⟩ := DataW.trod_int Try.underlying3 g3
        obtain ⟨wa, wc, wt, q4, z4, s4, t4⟩ := open_msgs g4
        obtain ⟨aa, ac, sk, q5, z5, s5, t5⟩ := open_answers g5
        simp at q0 q1 q2 q3 q4 q5
        obtain ⟨rfl, rfl, rfl, rfl, rfl, rfl, rfl, rfl, rfl⟩ := q0
        obtain ⟨rfl, rfl, rfl, rfl, rfl, rfl, rfl, rfl, rfl⟩ := q1
        subst q2 q3 q4 q5
        exact ⟨(⟨B0, N0, lg, sf, wt, sk⟩, ⟨AB, AN, wa, wc, aa, ac⟩), ⟨⟨z0, z1, z2, z4, z5, s4, s5⟩, ⟨t0, t1, t4, t5⟩⟩, rfl⟩) h
  exact ⟨a, cap, l, h1, h2, fun y hy => (h3 y hy).1, ⟨h4, fun y hy => (h3 y hy).2⟩⟩
theorem array_five {α : Type} {cs : Array α} (h : cs.size = 5) : ∃ a b c d e, cs = #[a, b, c, d, e] := by
  obtain ⟨l⟩ := cs
  match l, h with
  | [a, b, c, d, e], _ => exact ⟨a, b, c, d, e, rfl⟩
set_option maxRecDepth 100000 in
set_option maxHeartbeats 2000000 in
theorem open_world {r : Reach} {base : Nat} {v : Value} {d : DataW H} {p : List MemPlace} (hv : Value.okWide Try.prog W r base 30 v) (h : DataW.Trod enc Try.prog W 0 (fun _ => true) true 30 v d p) :
    ∃ (X : Wd) (A : WA), v = wdv X A ∧ WdSz X maxLen ∧ WdAt W A X := by
  simp only [Value.okWide, Try.underlying30] at hv
  obtain ⟨cs, rfl, hsz, ts, hts, _, hall⟩ := hv
  obtain ⟨fuel, hf⟩ := h
  obtain ⟨a0, a1, a2, a3, a4, rfl⟩ := array_five (hsz.trans wdCells)
  obtain ⟨xs, k, _, _, _, hxl, hfl⟩ := DataW.trod_struct Try.underlying30 hf
  match xs, hxl with
  | [y0, y1, y2, y3, y4], _ =>
    have g0 := hfl 0 _ rfl
    have g1 := hfl 1 _ rfl
    have g2 := hfl 2 _ rfl
    have g3 := hfl 3 _ rfl
    have g4 := hfl 4 _ rfl
    simp [wdTrCells, wdKpS, wdStS, wdTdS, wdGvS, Value.cells] at g0 g1 g2 g3 g4
    obtain ⟨xt, kt, _, _, _, hxt, hft⟩ := DataW.trod_struct Try.underlying24 g0
    match xt, hxt with
    | [z0], _ =>
      have u0 := hft 0 _ rfl
      simp [ndSlcCells] at u0
      obtain ⟨b0, c0, l0, q0, e0, t0⟩ := open_ints' u0
      obtain ⟨b1, c1, l1, q1, e1, s1, t1⟩ := open_keepers g1
      obtain ⟨b2, c2, l2, q2, e2, s2, t2⟩ := open_strs g2
      obtain ⟨b3, c3, l3, q3, e3, s3, t3⟩ := open_tolds g3
      obtain ⟨b4, c4, l4, q4, e4, s4, t4⟩ := open_givens g4
      simp at q0 q1 q2 q3 q4
      subst q0 q1 q2 q3 q4
      exact ⟨⟨l0, l1.map (fun x => x.1), l2, l3, l4⟩, ⟨b0, c0, b1, c1, l1, b2, c2, b3, c3, b4, c4⟩, by simp, ⟨e0, by simpa using e1, fun x hx => by obtain ⟨y, hy, rfl⟩ := List.mem_map.1 hx; exact s1 y hy, e2, s2, e3, s3, e4⟩, ⟨t0, rfl, t1, t2, t3, t4⟩⟩
end
end Go.Proofs.Ytgkimogaghgjaaa
