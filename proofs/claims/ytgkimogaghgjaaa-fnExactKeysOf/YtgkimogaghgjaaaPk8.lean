/- Parts. -/
import Derived.Test.YtgkimogaghgjaaaPk5
import Derived.Test.YtgkimogaghgjaaaPk1
import Derived.Test.YtgkimogaghgjaaaPk4
namespace Go.Proofs.Ytgkimogaghgjaaa
open Go.RowKit
open Mth

/-- What was seen, as a row of three cells. -/
structure R3 where
  f : Int
  l : Int
  v : Value
abbrev encR3 (x : R3) : List Value := [.int .i64 x.f, .int .i64 x.l, x.v]
theorem encR3_length (x : R3) : (encR3 x).length = 3 := rfl
/-- What was seen of each neighbour, and the block of its numbers. -/
def SeenRow (w : World) (l : List Sn) (T : List R3) (I : Nat → Nat) : Prop := T.length = l.length ∧ ∀ i (hi : i < l.length), ∃ b c, T[i]? = some ⟨l[i].f, l[i].l, .slice b l[i].ids.length c⟩ ∧ GR.W encNum 1 w b (I i) l[i].ids
def SeenW (w : World) (a : Option Addr) (g : Nat) (I : Nat → Nat) (l : List Sn) : Prop := ∃ T, GR.W encR3 3 w a g T ∧ SeenRow w l T I
theorem SeenW.at {w : World} {a : Option Addr} {g : Nat} {I : Nat → Nat} {l : List Sn} (h : SeenW w a g I l) : SeenAt w a l := fun i hi => by
  obtain ⟨T, hT, hl, hr⟩ := h
  obtain ⟨b, c, ht, hi2⟩ := hr i hi
  obtain ⟨e, hg, hc⟩ := hT i (by omega)
  have hti : T[i]'(by omega) = ⟨l[i].f, l[i].l, .slice b l[i].ids.length c⟩ := by
    have := List.getElem?_eq_getElem (l := T) (i := i) (by omega)
    rw [this] at ht
    exact Option.some.inj ht
  rw [hti] at hc
  refine ⟨g, 0, b, c, e, hg, ?_, ?_, ?_, hi2.at⟩
  · have := (hc 0 (by omega)).1
    simpa using this
  · have := (hc 1 (by omega)).1
    simpa using this
  · have := (hc 2 (by omega)).1
    simpa using this
/-- The blocks of the numbers that were seen. -/
def fpI (I : Nat → Nat) (l : List Sn) : List Nat := (List.range l.length).flatMap fun i => fp (I i) (l.getD i default).ids
theorem fpI_mem {I : Nat → Nat} {l : List Sn} {i : Nat} (hi : i < l.length) : ∀ x ∈ fp (I i) l[i].ids, x ∈ fpI I l := by
  intro x hx
  unfold fpI
  rw [List.mem_flatMap]
  refine ⟨i, List.mem_range.2 hi, ?_⟩
  rw [List.getD_eq_getElem?_getD, List.getElem?_eq_getElem hi]
  exact hx
theorem of_fpI {I : Nat → Nat} {l : List Sn} {x : Nat} (h : x ∈ fpI I l) : ∃ i, ∃ hi : i < l.length, x = I i ∧ 0 < l[i].ids.length := by
  unfold fpI at h
  rw [List.mem_flatMap] at h
  obtain ⟨i, hi, hx⟩ := h
  have hi' := List.mem_range.1 hi
  rw [List.getD_eq_getElem?_getD, List.getElem?_eq_getElem hi'] at hx
  exact ⟨i, hi', of_fp hx⟩
theorem SeenW.keeps {F : List Nat} {w w' : World} {a : Option Addr} {g : Nat} {I : Nat → Nat} {l : List Sn} (h : SeenW w a g I l) (hk : KeepsL F w w') (hg : ∀ x ∈ fp g l, x ∉ F) (hI : ∀ x ∈ fpI I l, x ∉ F) : SeenW w' a g I l := by
  obtain ⟨T, hT, hl, hr⟩ := h
  refine ⟨T, hT.keeps hk (fun x hx => hg x ?_), hl, fun i hi => ?_⟩
  · have := of_fp hx
    rw [this.1]
    exact fp_mem (by omega)
  · obtain ⟨b, c, ht, hi2⟩ := hr i hi
    exact ⟨b, c, ht, hi2.keeps hk (fun x hx => hI x (fpI_mem hi x hx))⟩

/-- The blocks of a node's rows. -/
structure Blks where
  k : Nat
  p : Nat
  o : Nat
  s : Nat
  r : Nat
  i : Nat → Nat
def Blks.all (G : Blks) (n : Nd) : List Nat := fp G.k n.kids ++ (fp G.p n.pu ++ (fp G.o n.out ++ (fp G.s n.seen ++ (fpI G.i n.seen ++ fp G.r n.reqs))))
structure NodeW (w : World) (A : Ads) (G : Blks) (n : Nd) : Prop where
  k : GR.W encNum 1 w A.k G.k n.kids
  p : GR.W encP 4 w A.p G.p n.pu
  o : GR.W encSnt 4 w A.o G.o n.out
  s : SeenW w A.s G.s G.i n.seen
  r : GR.W encRq 4 w A.r G.r n.reqs
theorem NodeW.at {w : World} {A : Ads} {G : Blks} {n : Nd} (h : NodeW w A G n) : NodeAt w A n := ⟨h.k.at, h.p.at, h.o.at, h.s.at, h.r.at⟩
theorem Blks.mem_all {G : Blks} {n : Nd} {x : Nat} : x ∈ G.all n ↔ x ∈ fp G.k n.kids ∨ x ∈ fp G.p n.pu ∨ x ∈ fp G.o n.out ∨ x ∈ fp G.s n.seen ∨ x ∈ fpI G.i n.seen ∨ x ∈ fp G.r n.reqs := by
  unfold Blks.all
  simp only [List.mem_append]
theorem NodeW.keeps {F : List Nat} {w w' : World} {A : Ads} {G : Blks} {n : Nd} (h : NodeW w A G n) (hk : KeepsL F w w') (hd : ∀ x ∈ G.all n, x ∉ F) : NodeW w' A G n :=
  ⟨h.k.keeps hk (fun x hx => hd x (Blks.mem_all.2 (.inl hx))), h.p.keeps hk (fun x hx => hd x (Blks.mem_all.2 (.inr (.inl hx)))), h.o.keeps hk (fun x hx => hd x (Blks.mem_all.2 (.inr (.inr (.inl hx))))), h.s.keeps hk (fun x hx => hd x (Blks.mem_all.2 (.inr (.inr (.inr (.inl hx)))))) (fun x hx => hd x (Blks.mem_all.2 (.inr (.inr (.inr (.inr (.inl hx))))))), h.r.keeps hk (fun x hx => hd x (Blks.mem_all.2 (.inr (.inr (.inr (.inr (.inr hx)))))))⟩
theorem NodeW.below {w w' : World} {A : Ads} {G : Blks} {n : Nd} (h : NodeW w A G n) (hb : Below w.heap.size w w') : NodeW w' A G n := h.keeps (F := []) (KeepsL.of_below hb) (fun _ _ => by simp)
/-- Blocks that differ from each other, between two places. -/
structure Blks.Sep (G : Blks) (n : Nd) (lo hi : Nat) : Prop where
  nodup : (G.all n).Nodup
  rng : ∀ x ∈ G.all n, lo ≤ x ∧ x < hi

/-- Blocks of S alone were written into; no cell is gone. -/
structure Scr (S : Nat → Prop) (w w' : World) : Prop where
  os : w'.os = w.os
  tape : w'.tape = w.tape
  output : w'.output = w.output
  size : w.heap.size ≤ w'.heap.size
  block : ∀ k, k < w.heap.size → ¬ S k → w'.heap[k]? = w.heap[k]?
  cell : ∀ g o, (w.cell? ⟨g, o, none⟩).isSome = true → (w'.cell? ⟨g, o, none⟩).isSome = true
  froz : ∀ g o, g < w.heap.size → w'.frozen? ⟨g, o, none⟩ = w.frozen? ⟨g, o, none⟩
theorem Scr.refl (S : Nat → Prop) (w : World) : Scr S w w := ⟨rfl, rfl, rfl, Nat.le_refl _, fun _ _ _ => rfl, fun _ _ h => h, fun _ _ _ => rfl⟩
theorem Scr.trans {S : Nat → Prop} {a b c : World} (h : Scr S a b) (k : Scr S b c) : Scr S a c :=
  ⟨k.os.trans h.os, k.tape.trans h.tape, k.output.trans h.output, Nat.le_trans h.size k.size, fun i hi hS => (k.block i (Nat.lt_of_lt_of_le hi h.size) hS).trans (h.block i hi hS), fun g o hc => k.cell g o (h.cell g o hc), fun g o hg => (k.froz g o (Nat.lt_of_lt_of_le hg h.size)).trans (h.froz g o hg)⟩
theorem Scr.mono {S S' : Nat → Prop} {a b : World} (h : Scr S a b) (hs : ∀ x, S x → S' x) : Scr S' a b := ⟨h.os, h.tape, h.output, h.size, fun i hi hS => h.block i hi (fun hx => hS (hs i hx)), h.cell, h.froz⟩
theorem Scr.of_below {S : Nat → Prop} {w w' : World} (h : Below w.heap.size w w') : Scr S w w' :=
  ⟨h.os, h.tape, h.output, h.size, fun k hk _ => h.block k hk, fun g o hc => by
    obtain ⟨v, hv⟩ := Option.isSome_iff_exists.1 hc
    have hg := World.block_lt_of_cell? w _ hv
    rw [h.cell (p := ⟨g, o, none⟩) hg]
    exact hc, fun g o hg => h.frozen (p := ⟨g, o, none⟩) hg⟩
theorem Scr.below {S : Nat → Prop} {a b c : World} (h : Scr S a b) (hb : Below b.heap.size b c) : Scr S a c := h.trans (Scr.of_below hb)
theorem isSome_set (w : World) (p : Addr) (v : Value) (a : Addr) (h : (w.cell? a).isSome = true) : ((w.setCell p v).cell? a).isSome = true := by
  obtain ⟨u, hu⟩ := Option.isSome_iff_exists.1 h
  by_cases e : p = a
  · subst e; rw [World.cell?_setCell_same _ _ _ hu]; rfl
  · rw [World.cell?_setCell_other _ _ _ _ e, hu]; rfl
theorem Scr.set {S : Nat → Prop} {a b : World} (h : Scr S a b) {g : Nat} (hS : S g) (o : Nat) (v : Value) : Scr S a (b.setCell ⟨g, o, none⟩ v) :=
  h.trans ⟨rfl, rfl, rfl, by simp [World.setCell], fun k _ hk => Below.heap_setCell _ _ _ _ (fun e => hk (by simpa [e] using hS)), fun g' o' hc => isSome_set b _ v _ hc, fun g' o' _ => by rw [World.frozen?_setCell]⟩
theorem Scr.under {S : Nat → Prop} {a b : World} {B : Nat} (h : Scr S a b) (hS : ∀ x, S x → B ≤ x) (hB : B ≤ a.heap.size) : Below B a b := ⟨h.os, h.tape, h.output, h.size, fun k hk => h.block k (by omega) (fun hx => by have := hS k hx; omega)⟩
theorem Scr.obj {S : Nat → Prop} {w w' : World} {g : Nat} {o : Obj} (h : Scr S w w') (ho : w.heap[g]? = some o) (hg : ¬ S g) : w'.heap[g]? = some o := by
  rw [h.block g (obj_lt ho) hg]; exact ho
theorem Scr.hdr {S : Nat → Prop} {w w' : World} {g o : Nat} {v : Value} (h : Scr S w w') (hc : w.cell? ⟨g, o, none⟩ = some v) (hg : ¬ S g) : w'.cell? ⟨g, o, none⟩ = some v := by
  have hl := World.block_lt_of_cell? w _ hc
  rw [World.cell?_of_block (w := w) (w' := w') (a := ⟨g, o, none⟩) (h.block g hl hg)]
  exact hc
/-- A row whose cells may be written, in a block of S. -/
def Wr (S : Nat → Prop) (w : World) (a : Option Addr) (n sz : Nat) : Prop := ∀ i, i < n → ∃ g, a = some ⟨g, 0, none⟩ ∧ S g ∧ g < w.heap.size ∧ ∀ j, j < sz → (w.cell? ⟨g, i * sz + j, none⟩).isSome = true ∧ w.frozen? ⟨g, i * sz + j, none⟩ = false
theorem Wr.scr {S T : Nat → Prop} {w w' : World} {a : Option Addr} {n sz : Nat} (h : Wr S w a n sz) (hs : Scr T w w') : Wr S w' a n sz := fun i hi => by
  obtain ⟨g, e, hS, hg, hc⟩ := h i hi
  exact ⟨g, e, hS, Nat.lt_of_lt_of_le hg hs.size, fun j hj => ⟨hs.cell _ _ (hc j hj).1, (hs.froz _ _ hg).trans (hc j hj).2⟩⟩
theorem Wr.mono {S S' : Nat → Prop} {w : World} {a : Option Addr} {n sz : Nat} (h : Wr S w a n sz) (hs : ∀ x, S x → S' x) : Wr S' w a n sz := fun i hi => by
  obtain ⟨g, e, hS, hg, hc⟩ := h i hi
  exact ⟨g, e, hs g hS, hg, hc⟩
theorem Wr.of_W {α : Type} {enc : α → List Value} {sz : Nat} {S : Nat → Prop} {w : World} {a : Option Addr} {g : Nat} {l : List α} (hs : ∀ x, (enc x).length = sz) (h : GR.W enc sz w a g l) (hS : 0 < l.length → S g) : Wr S w a l.length sz := fun i hi => by
  obtain ⟨e, hg, hc⟩ := h i hi
  refine ⟨g, e, hS (by omega), hg, fun j hj => ⟨?_, (hc j hj).2⟩⟩
  rw [(hc j hj).1, List.getElem?_eq_getElem (by rw [hs]; exact hj)]
  rfl
theorem Wr.of_blk {α : Type} {enc : α → List Value} {sz : Nat} {t : TypeId} {S : Nat → Prop} {w : World} {g : Nat} {l : List α} (hs : ∀ x, (enc x).length = sz) (h : GR.Blk enc t w g l) (hS : S g) : Wr S w (some ⟨g, 0, none⟩) l.length sz := Wr.of_W hs (GR.W.of_blk hs h) (fun _ => hS)
theorem scrText (z : Int) (w : World) (h0 : 0 < z) (h1 : z ≤ 9223372036854775807) : Calls Try.prog 39 #[.int .i64 z] w fun e w' => ∃ t, e = .returned (.string t) ∧ Below w.heap.size w w' := by
  refine (markTextI z.toNat z w (by omega) (by omega) (by omega)).mono ?_
  rintro e w1 ⟨rfl, hb⟩
  exact ⟨_, rfl, hb⟩
end Go.Proofs.Ytgkimogaghgjaaa
