/- Parts. -/
import Derived.Test.YtgkimogaghgjaaaPk1
import Derived.Deep.RegionHeld
import Derived.Deep.QuietTactic
import Derived.Deep.RegionWith
import Derived.BigQuiet
import Derived.Laws.Cover1
namespace Go.Proofs.Ytgkimogaghgjaaa
namespace Mth

abbrev sl (a b : ByteArray) : Prop := a.toList < b.toList
theorem sl_inj {a b : ByteArray} (h : a.toList = b.toList) : a = b := by
  rw [ByteArray.toList_eq, ByteArray.toList_eq] at h
  exact ByteArray.ext (Array.toList_inj.1 h)
theorem sl_irrefl (a : ByteArray) : ¬ sl a a := List.lt_irrefl _
theorem sl_trans {a b c : ByteArray} (h1 : sl a b) (h2 : sl b c) : sl a c := List.lt_trans h1 h2
theorem sl_tri (a b : ByteArray) : sl a b ∨ a = b ∨ sl b a := by
  by_cases h1 : a.toList < b.toList
  · exact .inl h1
  · rcases List.le_iff_lt_or_eq.1 (List.not_lt.1 h1) with h | h
    · exact .inr (.inr h)
    · exact .inr (.inl (sl_inj h.symm))
theorem nsl_trans {a b c : ByteArray} (h1 : ¬ sl b a) (h2 : ¬ sl c b) : ¬ sl c a := fun h => by
  rcases sl_tri a b with h3 | rfl | h3
  · exact h2 (sl_trans h h3)
  · exact h2 h
  · exact h1 h3
theorem less_false_iff (a b : ByteArray) : Op.bytesLess a.toList b.toList = false ↔ ¬ sl a b := by
  rw [← Bool.not_eq_true, less_iff]
/-- Two ascending lists of the same keys are one. -/
theorem asc_unique : ∀ (l m : List ByteArray), l.Pairwise sl → m.Pairwise sl → (∀ x, x ∈ l ↔ x ∈ m) → l = m := by
  intro l
  induction l with
  | nil =>
    intro m _ _ h
    cases m with
    | nil => rfl
    | cons y m => have := (h y).2 (by simp); simp at this
  | cons x l ih =>
    intro m hl hm h
    cases m with
    | nil => have := (h x).1 (by simp); simp at this
    | cons y m =>
      obtain ⟨h1, h2⟩ := List.pairwise_cons.1 hl
      obtain ⟨h3, h4⟩ := List.pairwise_cons.1 hm
      have hxy : x = y := by
        rcases List.mem_cons.1 ((h x).1 (by simp)) with e | hx
        · exact e
        · rcases List.mem_cons.1 ((h y).2 (by simp)) with e | hy
          · exact e.symm
          · exact absurd (sl_trans (h3 x hx) (h1 y hy)) (sl_irrefl y)
      subst hxy
      rw [ih m h2 h4 (fun z => ⟨fun hz => ?_, fun hz => ?_⟩)]
      · rcases List.mem_cons.1 ((h z).1 (by simp [hz])) with e | h5
        · subst e; exact absurd (h1 z hz) (sl_irrefl z)
        · exact h5
      · rcases List.mem_cons.1 ((h z).2 (by simp [hz])) with e | h5
        · subst e; exact absurd (h3 z hz) (sl_irrefl z)
        · exact h5
theorem ins_asc {K : List ByteArray} (hK : K.Pairwise sl) (x : ByteArray) (p : Nat) (hlo : ∀ j (hj : j < K.length), j < p → sl K[j] x) (hhi : ∀ (h : p < K.length), ¬ sl K[p] x ∧ K[p] ≠ x) : (K.take p ++ x :: K.drop p).Pairwise sl := by
  have hgt : ∀ y ∈ K.drop p, sl x y := by
    intro y hy
    obtain ⟨i, hi, rfl⟩ := List.mem_iff_getElem.1 hy
    rw [List.length_drop] at hi
    have hp : p < K.length := by omega
    have h0 : sl x K[p] := by
      rcases sl_tri x K[p] with h | h | h
      · exact h
      · exact absurd h.symm (hhi hp).2
      · exact absurd h (hhi hp).1
    rw [List.getElem_drop]
    cases i with
    | zero => exact h0
    | succ i => exact sl_trans h0 (List.pairwise_iff_getElem.1 hK p (p + (i + 1)) hp (by omega) (by omega))
  have hle : ∀ y ∈ K.take p, sl y x := by
    intro y hy
    obtain ⟨i, hi, rfl⟩ := List.mem_iff_getElem.1 hy
    rw [List.length_take] at hi
    rw [List.getElem_take]
    exact hlo i (by omega) (by omega)
  refine List.pairwise_append.2 ⟨hK.sublist (List.take_sublist _ _), List.pairwise_cons.2 ⟨hgt, hK.sublist (List.drop_sublist _ _)⟩, fun a ha b hb => ?_⟩
  rcases List.mem_cons.1 hb with rfl | hb
  · exact hle a ha
  · exact sl_trans (hle a ha) (hgt b hb)
theorem ins_mem (K : List ByteArray) (x : ByteArray) (p : Nat) (y : ByteArray) : y ∈ K.take p ++ x :: K.drop p ↔ y ∈ K ∨ y = x := by
  have h : y ∈ K ↔ y ∈ K.take p ∨ y ∈ K.drop p := by rw [← List.mem_append, List.take_append_drop]
  rw [List.mem_append, List.mem_cons, h]
  constructor
  · rintro (h | h | h)
    · exact .inl (.inl h)
    · exact .inr h
    · exact .inl (.inr h)
  · rintro ((h | h) | h)
    · exact .inl h
    · exact .inr (.inr h)
    · exact .inr (.inl h)

/-! A heap. -/
def hg (l : List ByteArray) (i : Nat) : ByteArray := l.getD i ByteArray.empty
theorem hg_at {l : List ByteArray} {i : Nat} (h : i < l.length) : l[i] = hg l i := by simp [hg, List.getD, h]
theorem hg_set (l : List ByteArray) (i j : Nat) (x : ByteArray) (hi : i < l.length) : hg (l.set i x) j = if j = i then x else hg l j := by
  by_cases h : j = i
  · subst h; simp [hg, List.getD, hi]
  · rw [if_neg h]; simp [hg, List.getD, List.getElem?_set_ne (Ne.symm h)]
theorem hg_take (l : List ByteArray) (k i : Nat) (hi : i < k) : hg (l.take k) i = hg l i := by simp only [hg, List.getD, List.getElem?_take, if_pos hi]
theorem mem_hg {l : List ByteArray} {x : ByteArray} : x ∈ l ↔ ∃ i, i < l.length ∧ hg l i = x := by
  rw [List.mem_iff_getElem]
  constructor
  · rintro ⟨i, hi, rfl⟩; exact ⟨i, hi, (hg_at hi).symm⟩
  · rintro ⟨i, hi, rfl⟩; exact ⟨i, hi, hg_at hi⟩
def swp (l : List ByteArray) (i j : Nat) : List ByteArray := (l.set i (hg l j)).set j (hg l i)
theorem swp_length (l : List ByteArray) (i j : Nat) : (swp l i j).length = l.length := by simp [swp]
theorem hg_swp (l : List ByteArray) (i j k : Nat) (hi : i < l.length) (hj : j < l.length) : hg (swp l i j) k = if k = j then hg l i else if k = i then hg l j else hg l k := by
  unfold swp
  rw [hg_set _ _ _ _ (by simpa using hj)]
  by_cases h : k = j
  · rw [if_pos h, if_pos h]
  · rw [if_neg h, if_neg h, hg_set _ _ _ _ hi]
theorem swp_mem (l : List ByteArray) (i j : Nat) (hi : i < l.length) (hj : j < l.length) (x : ByteArray) : x ∈ swp l i j ↔ x ∈ l := by
  rw [mem_hg, mem_hg, swp_length]
  constructor
  · rintro ⟨k, hk, h⟩
    rw [hg_swp l i j k hi hj] at h
    by_cases e : k = j
    · rw [if_pos e] at h; exact ⟨i, hi, h⟩
    · rw [if_neg e] at h
      by_cases e2 : k = i
      · rw [if_pos e2] at h; exact ⟨j, hj, h⟩
      · rw [if_neg e2] at h; exact ⟨k, hk, h⟩
  · rintro ⟨k, hk, h⟩
    by_cases e : k = i
    · subst e; exact ⟨j, hj, by rw [hg_swp l k j j hi hj, if_pos rfl]; exact h⟩
    · by_cases e2 : k = j
      · subst e2
        exact ⟨i, hi, by rw [hg_swp l i k i hi hj, if_neg (Ne.symm e), if_pos rfl]; exact h⟩
      · exact ⟨k, hk, by rw [hg_swp l i j k hi hj, if_neg e2, if_neg e]; exact h⟩
def IsHeap (l : List ByteArray) : Prop := ∀ i, 0 < i → i < l.length → ¬ sl (hg l i) (hg l ((i - 1) / 2))
/-- Right but at a place, whose key may be less than the one above it. -/
def UpTo (l : List ByteArray) (a : Nat) : Prop := (∀ i, 0 < i → i < l.length → i ≠ a → ¬ sl (hg l i) (hg l ((i - 1) / 2))) ∧ (0 < a → ∀ c, 0 < c → c < l.length → (c - 1) / 2 = a → ¬ sl (hg l c) (hg l ((a - 1) / 2)))
/-- Right but at a place, whose key may be greater than those below it. -/
def DownTo (l : List ByteArray) (a : Nat) : Prop := (∀ i, 0 < i → i < l.length → (i - 1) / 2 ≠ a → ¬ sl (hg l i) (hg l ((i - 1) / 2))) ∧ (0 < a → ∀ c, 0 < c → c < l.length → (c - 1) / 2 = a → ¬ sl (hg l c) (hg l ((a - 1) / 2)))
theorem isHeap_nil : IsHeap [] := fun i _ hi => by simp at hi
theorem up_start {l : List ByteArray} (h : IsHeap l) (x : ByteArray) : UpTo (l ++ [x]) l.length := by
  have e : ∀ i, i < l.length → hg (l ++ [x]) i = hg l i := fun i hi => by simp [hg, List.getD, List.getElem?_append_left hi]
  refine ⟨fun i h0 hi hne => ?_, fun h0 c hc hc2 hp => ?_⟩
  · simp at hi
    rw [e i (by omega), e _ (by omega)]
    exact h i h0 (by omega)
  · simp at hc2
    omega
theorem up_end {l : List ByteArray} {a : Nat} (h : UpTo l a) (he : a = 0 ∨ ¬ sl (hg l a) (hg l ((a - 1) / 2))) : IsHeap l := fun i h0 hi => by
  by_cases e : i = a
  · subst e
    rcases he with he | he
    · omega
    · exact he
  · exact h.1 i h0 hi e
theorem up_step {l : List ByteArray} {a : Nat} (h : UpTo l a) (ha : 0 < a) (hal : a < l.length) (hlt : sl (hg l a) (hg l ((a - 1) / 2))) : UpTo (swp l ((a - 1) / 2) a) ((a - 1) / 2) := by
  have hp : (a - 1) / 2 < l.length := by omega
  have G := fun k => hg_swp l ((a - 1) / 2) a k hp hal
  refine ⟨fun i h0 hi hne => ?_, fun h0 c hc hc2 hpc => ?_⟩
  · rw [swp_length] at hi
    rw [G, G]
    by_cases e : i = a
    · subst e
      rw [if_pos rfl, if_neg (by omega), if_pos rfl]
      exact List.lt_asymm hlt
    · rw [if_neg e, if_neg hne]
      by_cases e2 : (i - 1) / 2 = a
      · rw [if_pos e2]
        exact h.2 ha i h0 hi e2
      · rw [if_neg e2]
        by_cases e3 : (i - 1) / 2 = (a - 1) / 2
        · rw [if_pos e3]
          have h1 := h.1 i h0 hi e
          rw [e3] at h1
          exact nsl_trans (List.lt_asymm hlt) h1
        · rw [if_neg e3]
          exact h.1 i h0 hi e
  · rw [swp_length] at hc2
    rw [G, G, if_neg (show ¬ ((a - 1) / 2 - 1) / 2 = a by omega), if_neg (show ¬ ((a - 1) / 2 - 1) / 2 = (a - 1) / 2 by omega)]
    have hpar := h.1 ((a - 1) / 2) h0 hp (by omega)
    by_cases e : c = a
    · rw [if_pos e]; exact hpar
    · rw [if_neg e, if_neg (show ¬ c = (a - 1) / 2 by omega)]
      have h1 := h.1 c hc hc2 e
      rw [hpc] at h1
      exact nsl_trans hpar h1
theorem down_start {l : List ByteArray} (h : IsHeap l) (hl : 0 < l.length) : DownTo ((l.set 0 (hg l (l.length - 1))).take (l.length - 1)) 0 := by
  have e : ∀ i, 0 < i → i < l.length - 1 → hg ((l.set 0 (hg l (l.length - 1))).take (l.length - 1)) i = hg l i := fun i h0 hi => by
    have h1 : hg ((l.set 0 (hg l (l.length - 1))).take (l.length - 1)) i = hg (l.set 0 (hg l (l.length - 1))) i := hg_take _ _ _ hi
    rw [h1, hg_set _ _ _ _ hl, if_neg (by omega)]
  refine ⟨fun i h0 hi hne => ?_, fun h0 => by omega⟩
  simp at hi
  rw [e i h0 (by omega), e _ (by omega) (by omega)]
  exact h i h0 (by omega)
theorem pop_mem {l : List ByteArray} (hl : 0 < l.length) (x : ByteArray) : x ∈ l ↔ x = hg l 0 ∨ x ∈ (l.set 0 (hg l (l.length - 1))).take (l.length - 1) := by
  have e : ∀ i, i < l.length - 1 → hg ((l.set 0 (hg l (l.length - 1))).take (l.length - 1)) i = if i = 0 then hg l (l.length - 1) else hg l i := fun i hi => by
    have h1 : hg ((l.set 0 (hg l (l.length - 1))).take (l.length - 1)) i = hg (l.set 0 (hg l (l.length - 1))) i := hg_take _ _ _ hi
    rw [h1, hg_set _ _ _ _ hl]
  have hlen : ((l.set 0 (hg l (l.length - 1))).take (l.length - 1)).length = l.length - 1 := by simp
  rw [mem_hg, mem_hg, hlen]
  constructor
  · rintro ⟨i, hi, rfl⟩
    by_cases e0 : i = 0
    · subst e0; exact .inl rfl
    · by_cases e1 : i = l.length - 1
      · exact .inr ⟨0, by omega, by rw [e 0 (by omega), if_pos rfl, e1]⟩
      · exact .inr ⟨i, by omega, by rw [e i (by omega), if_neg e0]⟩
  · rintro (rfl | ⟨i, hi, rfl⟩)
    · exact ⟨0, hl, rfl⟩
    · rw [e i hi]
      by_cases e0 : i = 0
      · rw [if_pos e0]; exact ⟨l.length - 1, by omega, rfl⟩
      · rw [if_neg e0]; exact ⟨i, by omega, rfl⟩
theorem down_end {l : List ByteArray} {a : Nat} (h : DownTo l a) (hm : ∀ c, 0 < c → c < l.length → (c - 1) / 2 = a → ¬ sl (hg l c) (hg l a)) : IsHeap l := fun i h0 hi => by
  by_cases e : (i - 1) / 2 = a
  · rw [e]; exact hm i h0 hi e
  · exact h.1 i h0 hi e
theorem down_step {l : List ByteArray} {a m : Nat} (h : DownTo l a) (hm0 : 0 < m) (hml : m < l.length) (hma : (m - 1) / 2 = a) (hle : ¬ sl (hg l a) (hg l m)) (hm : ∀ c, 0 < c → c < l.length → (c - 1) / 2 = a → ¬ sl (hg l c) (hg l m)) : DownTo (swp l m a) m := by
  have hal : a < l.length := by omega
  have G := fun k => hg_swp l m a k hml hal
  refine ⟨fun i h0 hi hne => ?_, fun _ c hc hc2 hpc => ?_⟩
  · rw [swp_length] at hi
    rw [G, G]
    by_cases e : i = a
    · subst e
      rw [if_pos rfl, if_neg (show ¬ (i - 1) / 2 = i by omega), if_neg hne]
      exact h.2 h0 m hm0 hml hma
    · rw [if_neg e]
      by_cases e2 : i = m
      · subst e2
        rw [if_pos rfl, if_pos hma]
        exact hle
      · rw [if_neg e2]
        by_cases e3 : (i - 1) / 2 = a
        · rw [if_pos e3]; exact hm i h0 hi e3
        · rw [if_neg e3, if_neg hne]; exact h.1 i h0 hi e3
  · rw [swp_length] at hc2
    rw [G, G, hma, if_pos rfl, if_neg (show ¬ c = a by omega), if_neg (show ¬ c = m by omega)]
    have h1 := h.1 c hc hc2 (by omega)
    rw [hpc] at h1
    exact h1
theorem heap_min {l : List ByteArray} (h : IsHeap l) : ∀ i, i < l.length → ¬ sl (hg l i) (hg l 0) := by
  intro i
  induction i using Nat.strongRecOn with
  | ind i ih =>
    intro hi
    by_cases e : i = 0
    · subst e; exact sl_irrefl _
    · exact nsl_trans (ih ((i - 1) / 2) (by omega) (by omega)) (h i (by omega) hi)
/-- Some keys are out already, in order, and the rest is still in the heap. -/
structure Half (L0 K l : List ByteArray) : Prop where
  asc : K.Pairwise sl
  mem : ∀ x, x ∈ L0 ↔ x ∈ K ∨ x ∈ l
  ord : ∀ y ∈ K, ∀ x ∈ l, ¬ sl x y
theorem Half.pass {L0 K l l' : List ByteArray} (h : Half L0 K l) (hm : ∀ x, x ∈ l ↔ x = hg l 0 ∨ x ∈ l') (he : hg l 0 ∈ K) : Half L0 K l' :=
  ⟨h.asc, fun x => by
    rw [h.mem x, hm x]
    constructor
    · rintro (h1 | rfl | h1)
      · exact .inl h1
      · exact .inl he
      · exact .inr h1
    · rintro (h1 | h1)
      · exact .inl h1
      · exact .inr (.inr h1), fun y hy x hx => h.ord y hy x ((hm x).2 (.inr hx))⟩
theorem Half.take {L0 K l l' : List ByteArray} (h : Half L0 K l) (hh : IsHeap l) (hm : ∀ x, x ∈ l ↔ x = hg l 0 ∨ x ∈ l') (hne : 0 < K.length → hg K (K.length - 1) ≠ hg l 0) : Half L0 (K ++ [hg l 0]) l' := by
  have hk : hg l 0 ∈ l := (hm _).2 (.inl rfl)
  have hmin : ∀ x ∈ l, ¬ sl x (hg l 0) := fun x hx => by
    obtain ⟨i, hi, rfl⟩ := mem_hg.1 hx
    exact heap_min hh i hi
  have hlt : ∀ y ∈ K, sl y (hg l 0) := fun y hy => by
    have h1 := h.ord y hy _ hk
    rcases sl_tri y (hg l 0) with h2 | h2 | h2
    · exact h2
    · exfalso
      obtain ⟨i, hi, rfl⟩ := List.mem_iff_getElem.1 hy
      have h3 := hne (by omega)
      by_cases e : i = K.length - 1
      · subst e; rw [← hg_at hi] at h3; exact h3 h2
      · have h4 := List.pairwise_iff_getElem.1 h.asc i (K.length - 1) hi (by omega) (by omega)
        rw [h2] at h4
        exact h.ord _ (List.getElem_mem _) _ hk h4
    · exact absurd h2 h1
  refine ⟨List.pairwise_append.2 ⟨h.asc, List.pairwise_singleton _ _, fun a ha b hb => ?_⟩, fun x => ?_, fun y hy x hx => ?_⟩
  · rw [List.mem_singleton] at hb; subst hb; exact hlt a ha
  · rw [h.mem x, hm x, List.mem_append, List.mem_singleton, or_assoc]
  · have hx' := (hm x).2 (.inr hx)
    rcases List.mem_append.1 hy with hy | hy
    · exact h.ord y hy x hx'
    · rw [List.mem_singleton] at hy; subst hy; exact hmin x hx'
end Mth
open Go.RowKit




namespace Mth

/-- A message: kind, from, to, id, low, key, n. -/
structure Mg where
  K : Int
  F : Int
  T : Int
  I : Int
  L : Int
  k : ByteArray
  N : Int
abbrev mgv (m : Mg) : Value := .agg #[.int .i64 m.K, .int .i64 m.F, .int .i64 m.T, .int .i64 m.I, .int .i64 m.L, .string m.k, .int .i64 m.N]
end Mth
open Mth

theorem wp_at {P : Program} {Q : Exit → Act → World → Prop} {c : Code} {a : Act} {W : World} (h : ∀ W', W' = W → Code.wp P c Q a W') : Code.wp P c Q a W := h W rfl
theorem below_one (w : World) (o : Obj) : Below w.heap.size w (w.alloc o) := (Below.refl _ _).alloc (Nat.le_refl _) _
namespace Mth

/-- A transfer: its number, to whom, key, how much. -/
structure Snt where
  i : Int
  t : Int
  k : ByteArray
  n : Int
/-- What was seen of a neighbour. -/
structure Sn where
  f : Int
  l : Int
  ids : List Int
/-- A request. -/
structure Rq where
  no : Int
  k : ByteArray
  n : Int
  s : Int
/-- A node. -/
structure Nd where
  id : Int
  par : Int
  kids : List Int
  next : Int
  pu : List Pu
  out : List Snt
  seen : List Sn
  old : Int
  reqs : List Rq
instance : Inhabited Snt := ⟨⟨0, 0, ByteArray.empty, 0⟩⟩
instance : Inhabited Sn := ⟨⟨0, 0, []⟩⟩
instance : Inhabited Rq := ⟨⟨0, ByteArray.empty, 0, 0⟩⟩
abbrev encNum (x : Int) : List Value := [.int .i64 x]
abbrev encSnt (s : Snt) : List Value := [.int .i64 s.i, .int .i64 s.t, .string s.k, .int .i64 s.n]
abbrev encRq (r : Rq) : List Value := [.int .i64 r.no, .string r.k, .int .i64 r.n, .int .i64 r.s]
theorem encNum_length (x : Int) : (encNum x).length = 1 := rfl
theorem encSnt_length (x : Snt) : (encSnt x).length = 4 := rfl
theorem encRq_length (x : Rq) : (encRq x).length = 4 := rfl

section
variable {α : Type} (p : α → Bool) (r : α → α → Bool)
end

end Mth

/-- A number lies between two others. -/
def Inn (x a b : Int) : Prop := a ≤ x ∧ x ≤ b
instance (x a b : Int) : Decidable (Inn x a b) := by unfold Inn; infer_instance


/-- Purses as they lie. -/
abbrev PursesAt (w : World) (a : Option Addr) (l : List Pu) : Prop := GR.At encP 4 w a l
theorem PursesAt.four {w : World} {a : Option Addr} {l : List Pu} (h : PursesAt w a l) (i : Nat) (hi : i < l.length) : ∃ g off, a = some ⟨g, off, none⟩ ∧ g < w.heap.size ∧ w.cell? ⟨g, off + i * 4, none⟩ = some (.string l[i].k) ∧ w.cell? ⟨g, off + i * 4 + 1, none⟩ = some (.int .i64 l[i].m) ∧ w.cell? ⟨g, off + i * 4 + 2, none⟩ = some (.int .i64 l[i].f) ∧ w.cell? ⟨g, off + i * 4 + 3, none⟩ = some (.int .i64 l[i].s) := by
  obtain ⟨g, off, e, hg, hc⟩ := h i hi
  refine ⟨g, off, e, hg, ?_, ?_, ?_, ?_⟩
  · simpa using hc 0 (by omega)
  · simpa [Nat.add_assoc] using hc 1 (by omega)
  · simpa [Nat.add_assoc] using hc 2 (by omega)
  · simpa [Nat.add_assoc] using hc 3 (by omega)



theorem below_one' (w : World) (o : Obj) : Below w.heap.size w (w.alloc o) := (Below.refl _ _).alloc (Nat.le_refl _) _
theorem infoPu : (Try.prog.info? 52).map (fun i => (i.zero, i.size, i.bytes)) = some (some (.agg #[.string ByteArray.empty, .int .i64 0, .int .i64 0, .int .i64 0]), 4, 40) := by kernel_rfl
/-- The cells of purses as they lie, one by one. -/
theorem PursesAt.news {w : World} {x : Addr} {l : List Pu} (h : PursesAt w (some x) l) : ∀ j u, (GR.flat encP l)[j]? = some u → w.cell? (x.add j) = some u := by
  intro j u hu
  have hj : j < l.length * 4 := by
    have := (List.getElem?_eq_some_iff.1 hu).1
    rwa [GR.flat_length encP 4 encP_length] at this
  obtain ⟨g, off, e, hg, hc⟩ := h (j / 4) (by omega)
  have hf := GR.flat_at encP 4 encP_length l (j / 4) (by omega) (j % 4) (by omega)
  have ej : j / 4 * 4 + j % 4 = j := by omega
  rw [ej] at hf
  have h2 := hc (j % 4) (by omega)
  rw [ej, ← hf, hu] at h2
  injection e with e
  subst e
  have ea : (⟨g, off, none⟩ : Addr).add j = ⟨g, off + j, none⟩ := by unfold Addr.add; split <;> simp_all
  rw [ea]
  exact h2

abbrev puBlk (w : World) (g : Nat) (l : List Pu) : Prop := GR.Blk encP 52 w g l
theorem puBlk.four {w : World} {g : Nat} {l : List Pu} (h : puBlk w g l) (i : Nat) (hi : i < l.length) : w.cell? ⟨g, i * 4, none⟩ = some (.string l[i].k) ∧ w.cell? ⟨g, i * 4 + 1, none⟩ = some (.int .i64 l[i].m) ∧ w.cell? ⟨g, i * 4 + 2, none⟩ = some (.int .i64 l[i].f) ∧ w.cell? ⟨g, i * 4 + 3, none⟩ = some (.int .i64 l[i].s) :=
  ⟨by simpa using GR.Blk.cell h encP_length i hi 0 (by omega), by simpa using GR.Blk.cell h encP_length i hi 1 (by omega), by simpa using GR.Blk.cell h encP_length i hi 2 (by omega), by simpa using GR.Blk.cell h encP_length i hi 3 (by omega)⟩
theorem blkstep {w w' : World} {g : Nat} {l : List Pu} (h : puBlk w g l) (hb : Below w.heap.size w w') : puBlk w' g l := by
  have hl := GR.Blk.lt h
  unfold puBlk GR.Blk at *
  rw [hb.block g hl]
  exact h
/-- 'make([]impl.Purse, n)'. -/
theorem make_purses (n : Nat) (hn : n ≤ 2000000) : ∀ W : World, (Instr.makeSlice 54 (.int .i64 (n : Int)) (.int .i64 (n : Int))).run Try.prog W = .ok (.slice (some ⟨W.heap.size, 0, none⟩) n n) (W.alloc (.cells (GR.flat encP (List.replicate n ⟨ByteArray.empty, 0, 0, 0⟩)).toArray 52)) := by
  obtain ⟨i0, hi, hz0, hz1, hz2⟩ := info_parts infoPu
  intro W
  have h := run_make (P := Try.prog) W 54 52 i0 (.agg #[.string ByteArray.empty, .int .i64 0, .int .i64 0, .int .i64 0]) Try.underlying54 hi hz0 .i64 .i64 (n : Int) (n : Int) (by omega) (by omega) (by rw [hz2]; omega) (by omega)
  rw [hz1] at h
  have e := GR.made_flat encP 4 encP_length (by omega) ⟨ByteArray.empty, 0, 0, 0⟩ (Value.agg #[.string ByteArray.empty, .int .i64 0, .int .i64 0, .int .i64 0]).cells rfl n
  simp only [Int.toNat_natCast] at h
  rw [e] at h
  exact h

set_option maxRecDepth 100000 in
theorem toPurse (p : Pu) (w : World) : Calls Try.prog 95 #[puv p] w fun e w' => e = .returned (puv p) ∧ Below w.heap.size w w' := by
  obtain ⟨k, m, f, s⟩ := p
  go_enter Try.func95, Try.ntmps95
  go_wp2_with fail
  refine bodyPost_ret (v := .agg #[.string k, .int .i64 m, .int .i64 f, .int .i64 s]) (by simp [results, Try.results95, go_sem]) rfl ⟨rfl, ?_⟩
  exact (((Below.refl _ _).alloc (Nat.le_refl _) _).alloc (by simp) _).alloc (by simp; omega) _
set_option maxRecDepth 100000 in
theorem eqPurse (p : Pu) (w : World) : Calls Try.prog 99 #[puv p, puv p] w fun e w' => e = .returned (.bool true) ∧ Below w.heap.size w w' := by
  obtain ⟨k, m, f, s⟩ := p
  go_enter Try.func99, Try.ntmps99
  go_wp2_with fail
  go_ret
  exact ⟨rfl, ((Below.refl _ _).alloc (Nat.le_refl _) _).alloc (by simp) _⟩

theorem take_set_pu (l : List Pu) (z : Pu) (k : Nat) (hk : k < l.length) : (l.take k ++ List.replicate (l.length - k) z).set k l[k] = l.take (k + 1) ++ List.replicate (l.length - (k + 1)) z := by
  have hlen : (l.take k).length = k := by simp; omega
  rw [List.set_append_right _ _ (by omega), hlen, Nat.sub_self]
  have e : l.length - k = (l.length - (k + 1)) + 1 := by omega
  rw [e, List.replicate_succ, List.take_succ_eq_append_getElem hk, List.append_assoc]
  rfl

set_option maxRecDepth 100000 in
set_option maxHeartbeats 2000000 in
theorem toPurseS (a : Option Addr) (cap : Nat) (l : List Pu) (w : World) (hl : l.length ≤ 1048576) (ha : PursesAt w a l) :
    Calls Try.prog 79 #[.slice a l.length cap] w fun e w' => e = .returned (.slice (some ⟨w.heap.size, 0, none⟩) l.length l.length) ∧ puBlk w' w.heap.size l ∧ Below w.heap.size w w' := by
  have hmk := make_purses l.length (by omega)
  have HA := hide ha
  clear ha
  go_enter Try.func79, Try.ntmps79
  go_wp2_with fail
  go_loopw [4] (fun i wr => ∃ k : Nat, k ≤ l.length ∧ i = .int .i64 k ∧ puBlk wr w.heap.size (l.take k ++ List.replicate (l.length - k) ⟨ByteArray.empty, 0, 0, 0⟩) ∧ Below w.heap.size w wr) (fun i _ => l.length - (intOf i).toNat)
  case atStart => exact ⟨0, Nat.zero_le _, rfl, by unfold puBlk GR.Blk; rw [List.take_zero, List.nil_append, Nat.sub_zero]; exact heap_alloc_new w _, below_one' w _⟩
  case round =>
    obtain ⟨k, hk, rfl, hB, hbel⟩ := hrel
    have HB := hide hB
    have HBL := hide hbel
    clear hB hbel hmk
    by_cases hlt : k < l.length
    · obtain ⟨g, off, rfl, hgw, q0, q1, q2, q3⟩ := PursesAt.four (GR.At.below (unhide HA) (unhide HBL)) k hlt
      have TS := hide (take_set_pu l ⟨ByteArray.empty, 0, 0, 0⟩ k hlt)
      generalize l[k] = pu at *
      obtain ⟨pk, pm, pf, ps⟩ := pu
      dsimp only at q0 q1 q2 q3
      have hln : (l.take k ++ List.replicate (l.length - k) (⟨ByteArray.empty, 0, 0, 0⟩ : Pu)).length = l.length := by simp; omega
      go_wp2_with fail
      refine (toPurse ⟨pk, pm, pf, ps⟩ _).mono ?_
      rintro e w5 ⟨rfl, hb5⟩
      have HB5 := hide (blkstep (unhide HB) hb5)
      have HBL5 := hide ((unhide HBL).trans (hb5.mono (unhide HBL).size))
      clear hb5 q0 q1 q2 q3
      obtain ⟨s0, s1, s2, s3⟩ := puBlk.four (unhide HB5) k (by omega)
      have f0 := GR.Blk.free (unhide HB5) (k * 4)
      have f1 := GR.Blk.free (unhide HB5) (k * 4 + 1)
      have f2 := GR.Blk.free (unhide HB5) (k * 4 + 2)
      have f3 := GR.Blk.free (unhide HB5) (k * 4 + 3)
      go_wp2_with fail
      go_roundw
      case rel =>
        have h := GR.Blk.set (unhide HB5) encP_length k (by omega) ⟨pk, pm, pf, ps⟩
        rw [unhide TS] at h
        exact ⟨k + 1, by omega, by go_num, h, GR.setW_below (o := k * 4) (Nat.le_refl w.heap.size) (encP ⟨pk, pm, pf, ps⟩) (unhide HBL5)⟩
      case measure => simp [intOf]; omega
    · have hke : k = l.length := by omega
      subst hke
      have hnlt : decide ((l.length : Int) < (l.length : Int)) = false := by simp
      go_wp2_with fail
      go_ret
      have h := unhide HB
      rw [List.take_length, Nat.sub_self, List.replicate_zero, List.append_nil] at h
      exact ⟨rfl, h, unhide HBL⟩

set_option maxRecDepth 100000 in
theorem szPurse (p : Pu) (left : Int) (w : World) (h0 : 0 ≤ left) (h1 : left ≤ 1048576) (hk : p.k.size ≤ maxLen) : Calls Try.prog 91 #[puv p, .int .i64 left] w fun e w' => e = .returned (.int .i64 (if (p.k.size : Int) ≤ left then left - p.k.size else -1)) ∧ Below w.heap.size w w' := by
  obtain ⟨k, m, f, s⟩ := p
  dsimp only at hk ⊢
  unfold maxLen at hk
  by_cases hc : (k.size : Int) ≤ left
  · rw [if_pos hc]
    have hn : ¬ (left - (k.size : Int) < 0) := by omega
    go_enter Try.func91, Try.ntmps91
    go_wp2_with fail
    go_ret
    exact ⟨rfl, (Below.refl _ _).alloc (Nat.le_refl _) _⟩
  · rw [if_neg hc]
    have hn : left - (k.size : Int) < 0 := by omega
    go_enter Try.func91, Try.ntmps91
    go_wp2_with fail
    go_ret
    exact ⟨rfl, (Below.refl _ _).alloc (Nat.le_refl _) _⟩

set_option maxRecDepth 100000 in
set_option maxHeartbeats 2000000 in
theorem eqPurseS (a b : Option Addr) (ca cb : Nat) (l : List Pu) (w : World) (hl : l.length ≤ 1048600) (ha : PursesAt w a l) (hb : PursesAt w b l) :
    Calls Try.prog 85 #[.slice a l.length ca, .slice b l.length cb] w fun e w' => e = .returned (.bool true) ∧ Below w.heap.size w w' := by
  have HA := hide ha
  have HB := hide hb
  clear ha hb
  go_enter Try.func85, Try.ntmps85
  go_wp2_with fail
  go_loopw [5] (fun i wr => ∃ k : Nat, k ≤ l.length ∧ i = .int .i64 k ∧ Below w.heap.size w wr) (fun i _ => l.length - (intOf i).toNat)
  case atStart => exact ⟨0, Nat.zero_le _, rfl, Below.refl _ _⟩
  case round =>
    obtain ⟨k, hk, rfl, hbel⟩ := hrel
    have HBL := hide hbel
    clear hbel
    by_cases hlt : k < l.length
    · obtain ⟨g1, o1, rfl, hg1, s0, s1, s2, s3⟩ := PursesAt.four (GR.At.below (unhide HA) (unhide HBL)) k hlt
      obtain ⟨g2, o2, rfl, hg2, t0, t1, t2, t3⟩ := PursesAt.four (GR.At.below (unhide HB) (unhide HBL)) k hlt
      generalize l[k] = pu at *
      have HEQ := hide (fun w1 => eqPurse pu w1)
      obtain ⟨pk, pm, pf, ps⟩ := pu
      dsimp only at s0 s1 s2 s3 t0 t1 t2 t3
      go_wp2_with fail
      go_region_held (fun w' => (w'.cell? ⟨g1, o1 + k * 4, none⟩ = some (.string pk) ∧ w'.cell? ⟨g1, o1 + k * 4 + 1, none⟩ = some (.int .i64 pm) ∧ w'.cell? ⟨g1, o1 + k * 4 + 2, none⟩ = some (.int .i64 pf) ∧ w'.cell? ⟨g1, o1 + k * 4 + 3, none⟩ = some (.int .i64 ps)) ∧ w'.cell? ⟨g2, o2 + k * 4, none⟩ = some (.string pk) ∧ w'.cell? ⟨g2, o2 + k * 4 + 1, none⟩ = some (.int .i64 pm) ∧ w'.cell? ⟨g2, o2 + k * 4 + 2, none⟩ = some (.int .i64 pf) ∧ w'.cell? ⟨g2, o2 + k * 4 + 3, none⟩ = some (.int .i64 ps)) (go_keep)
        (first
          | (go_at_call 99; refine (unhide HEQ _).mono ?_; rintro e w5 ⟨rfl, hb5⟩; have hb6 : Below wr.heap.size wr w5 := ⟨hb5.os, hb5.tape, hb5.output, hb5.size, hb5.block⟩; clear hb5; have HBL5 := hide ((unhide HBL).trans (hb6.mono (unhide HBL).size)); have y0 := (hb6.cell (p := ⟨g1, o1 + k * 4, none⟩) hg1).trans s0; have y1 := (hb6.cell (p := ⟨g1, o1 + k * 4 + 1, none⟩) hg1).trans s1; have y2 := (hb6.cell (p := ⟨g1, o1 + k * 4 + 2, none⟩) hg1).trans s2; have y3 := (hb6.cell (p := ⟨g1, o1 + k * 4 + 3, none⟩) hg1).trans s3; have z0 := (hb6.cell (p := ⟨g2, o2 + k * 4, none⟩) hg2).trans t0; have z1 := (hb6.cell (p := ⟨g2, o2 + k * 4 + 1, none⟩) hg2).trans t1; have z2 := (hb6.cell (p := ⟨g2, o2 + k * 4 + 2, none⟩) hg2).trans t2; have z3 := (hb6.cell (p := ⟨g2, o2 + k * 4 + 3, none⟩) hg2).trans t3; clear hb6))
      all_goals
        go_wp2_with fail
        go_roundw
        case rel => exact ⟨k + 1, by omega, by go_num, unhide HBL5⟩
        case measure => simp [intOf]; omega
    · have hke : k = l.length := by omega
      subst hke
      have hnlt : decide ((l.length : Int) < (l.length : Int)) = false := by simp
      go_wp2_with fail
      go_ret
      exact ⟨rfl, unhide HBL⟩

end Go.Proofs.Ytgkimogaghgjaaa
