/- Parts. -/
import Derived.Test.YtdlokncalhopoaaGreatPy28
namespace Go.Proofs.YtdlokncalhopoaaGreat
open Go.RowKit
open Mth

theorem at_kc {α : Type} {enc : α → List Value} {sz : Nat} {c : Nat → Nat} {k j : Nat} {w w' : World} {a : Option Addr} {l : List α} (h : KC c k w w') (ha : GR.At enc sz w a l) (hc : ∀ g, a.map (fun y => y.block) = some g → 0 < l.length → c g = j) (hj : j ≠ k) : GR.At enc sz w' a l := fun i hi => by
  obtain ⟨g, off, e, hg, hcell⟩ := ha i hi
  have hb := h.block g hg (by rw [hc g (by rw [e]; rfl) (by omega)]; exact hj)
  exact ⟨g, off, e, Nat.lt_of_lt_of_le hg h.size, fun q hq => (World.cell?_of_block (w := w) hb).trans (hcell q hq)⟩
theorem RMc.kc {w w' : World} {A : Ads} {n : Nd} {gk gs k : Nat} {I : Nat → Nat} {c : Nat → Nat} (h : RMc w A n gk gs I c) (hk : KC c k w w') (h0 : k = 0 ∨ 6 < k) : RMc w' A n gk gs I c :=
  ⟨hk.w h.k h.ck (by omega), at_kc hk h.p h.cp (by omega), hk.own h.o h.co (by omega), hk.seenQ h.s h.c4 h.ci (by omega) (by omega), hk.own h.r h.cr (by omega), h.ck, h.cp, h.co, h.c4, h.ci, h.cr, h.ni⟩
/-- A world in which all blocks below a place are empty. -/
def voidB (L : Nat) (w : World) : World := { w with heap := w.heap.mapIdx (fun i o => if i < L then .cells #[] 0 (0, 0) else o) }
theorem voidB_low {L x : Nat} {w : World} (hx : x < L) (hw : x < w.heap.size) : (voidB L w).heap[x]? = some (.cells #[] 0 (0, 0)) := by
  unfold voidB
  simp [hx, hw]
theorem voidB_high {L x : Nat} {w : World} (hx : L ≤ x) : (voidB L w).heap[x]? = w.heap[x]? := by
  unfold voidB
  simp only [Array.getElem?_mapIdx]
  cases h : w.heap[x]? with
  | none => rfl
  | some o => simp [Nat.not_lt.2 hx]
theorem voidB_size (L : Nat) (w : World) : (voidB L w).heap.size = w.heap.size := by simp [voidB]
theorem voidB_cell {L x o : Nat} {w : World} (hx : x < L) (hw : x < w.heap.size) : (voidB L w).cell? ⟨x, o, none⟩ = none := by
  rw [cell_of_row _ x o _ _ _ (voidB_low hx hw)]
  simp
theorem own_void {L sz n B x : Nat} {e : TypeId} {v : Value} {xs : List Value} {w : World} (h : (voidB L w).ownsRow B e sz v n xs) (hx : v.ownBlock = some x) (he : e ≠ 0) : L ≤ x := by
  rcases h.2 with ⟨hv, _⟩ | ⟨g, cap, cur, hv, _, hgg, _⟩
  · rw [hv] at hx; simp [Value.ownBlock] at hx
  · rw [hv] at hx
    have e1 : g = x := by simpa [Value.ownBlock] using hx
    subst e1
    rcases Nat.lt_or_ge g L with hl | hl
    · have hs := obj_lt hgg
      rw [voidB_size] at hs
      rw [voidB_low hl hs] at hgg
      simp only [Option.some.injEq, Obj.cells.injEq] at hgg
      exact absurd hgg.2.1.symm he
    · exact hl
theorem W_void {α : Type} {enc : α → List Value} {sz L g : Nat} {w : World} {a : Option Addr} {l : List α} (hs : ∀ x, (enc x).length = sz) (hz : 0 < sz) (h : GR.W enc sz (voidB L w) a g l) (hp : 0 < l.length) : L ≤ g := by
  obtain ⟨_, hg, hc⟩ := h 0 hp
  rw [voidB_size] at hg
  rcases Nat.lt_or_ge g L with hl | hl
  · have h1 := (hc 0 hz).1
    rw [voidB_cell hl hg, List.getElem?_eq_getElem (by rw [hs]; exact hz)] at h1
    cases h1
  · exact hl
/-- What a call made lies in memory that it made. -/
theorem Aft.rm {w w' : World} {A : Ads} {n : Nd} (h : ∀ W'', Aft w w' W'' → RM W'' A n) : ∃ gk gs I c, RMc w' A n gk gs I c ∧ ∀ x, x < w.heap.size → c x = 0 := by
  have hk : KeepsL (List.range w.heap.size) w' (voidB w.heap.size w') := ⟨rfl, rfl, rfl, by rw [voidB_size]; exact Nat.le_refl _, fun x _ hx => voidB_high (by have : ¬ x < w.heap.size := fun h => hx (List.mem_range.2 h); omega)⟩
  obtain ⟨gk, gs, I, c, hr⟩ := h (voidB w.heap.size w') ⟨List.range w.heap.size, hk, fun x hx => List.mem_range.1 hx⟩
  have b1 : ∀ x ∈ fp gk n.kids, w.heap.size ≤ x := fun x hx => by rw [(of_fp hx).1]; exact W_void encNum_length (by omega) hr.k (of_fp hx).2
  have b2 : ∀ g, A.p.map (fun y => y.block) = some g → 0 < n.pu.length → w.heap.size ≤ g := fun g hg hp => by
    obtain ⟨g', off, e, hg', hc⟩ := hr.p 0 hp
    rw [e] at hg
    cases hg
    rw [voidB_size] at hg'
    rcases Nat.lt_or_ge g' w.heap.size with hl | hl
    · have h1 := hc 0 (by omega)
      rw [voidB_cell hl hg', List.getElem?_eq_getElem (by rw [encP_length]; omega)] at h1
      cases h1
    · exact hl
  have b3 : ∀ x, (Value.slice A.o n.out.length A.co).ownBlock = some x → w.heap.size ≤ x := fun x hx => own_void hr.o hx (by decide)
  have b6 : ∀ x, (Value.slice A.r n.reqs.length A.cr).ownBlock = some x → w.heap.size ≤ x := fun x hx => own_void hr.r hx (by decide)
  have b4 : ∀ x ∈ fp gs n.seen, w.heap.size ≤ x := fun x hx => by
    rw [(of_fp hx).1]
    obtain ⟨⟨T, hT, hl, _⟩, _⟩ := hr.s
    exact W_void encR3_length (by omega) hT (by rw [hl]; exact (of_fp hx).2)
  have b5 : ∀ x ∈ fpI I n.seen, w.heap.size ≤ x := fun x hx => by
    obtain ⟨i, hi, rfl, hp⟩ := of_fpI hx
    obtain ⟨⟨T, hT, hl, hq⟩, _⟩ := hr.s
    obtain ⟨b, cc, _, ho⟩ := hq i hi
    exact W_void encNum_length (by omega) ho.W hp
  have same : ∀ x, w.heap.size ≤ x → (if x < w.heap.size then 0 else c x) = c x := fun x hx => if_neg (by omega)
  have hr2 : RMc (voidB w.heap.size w') A n gk gs I (fun x => if x < w.heap.size then 0 else c x) :=
    ⟨hr.k, hr.p, hr.o, hr.s, hr.r, fun x hx => (same x (b1 x hx)).trans (hr.ck x hx), fun g hg hp => (same g (b2 g hg hp)).trans (hr.cp g hg hp), fun x hx => (same x (b3 x hx)).trans (hr.co x hx), fun x hx => (same x (b4 x hx)).trans (hr.c4 x hx), fun x hx => (same x (b5 x hx)).trans (hr.ci x hx), fun x hx => (same x (b6 x hx)).trans (hr.cr x hx), hr.ni⟩
  refine ⟨gk, gs, I, fun x => if x < w.heap.size then 0 else c x, hr2.kc (k := 0) ⟨rfl, rfl, rfl, by rw [voidB_size]; exact Nat.le_refl _, fun x _ hx => ?_⟩ (.inl rfl), fun x hx => if_pos hx⟩
  exact (voidB_high (by
    rcases Nat.lt_or_ge x w.heap.size with hl | hl
    · exact absurd (if_pos hl) hx
    · exact hl)).symm
/-- A node whose rows are another's. -/
theorem RMc.node {w : World} {A : Ads} {n n' : Nd} {gk gs : Nat} {I : Nat → Nat} {c : Nat → Nat} (h : RMc w A n gk gs I c) (e1 : n'.kids = n.kids) (e2 : n'.pu = n.pu) (e3 : n'.out = n.out) (e4 : n'.seen = n.seen) (e5 : n'.reqs = n.reqs) : RMc w A n' gk gs I c := by
  obtain ⟨_, _, _, _, _, _, _, _, _⟩ := n
  obtain ⟨_, _, _, _, _, _, _, _, _⟩ := n'
  dsimp only at e1 e2 e3 e4 e5
  subst e1 e2 e3 e4 e5
  exact ⟨h.k, h.p, h.o, h.s, h.r, h.ck, h.cp, h.co, h.c4, h.ci, h.cr, h.ni⟩
end Go.Proofs.YtdlokncalhopoaaGreat
