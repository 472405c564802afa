/-
  Rows of structs that may be written, a node's rows and the blocks in which they lie.
-/
import Derived.Test.YtccpcmhideijpaaDoorNdAt
import Derived.Test.YtccpcmhideijpaaDoorRows2
namespace Go.Proofs.YtccpcmhideijpaaDoor
open Go.RowKit
open Mth

/-- What was seen, as a row of three cells. -/
structure R3 where
  f : Int
  l : Int
  v : Value
abbrev encR3 (x : R3) : List Value := [.int .i64 x.f, .int .i64 x.l, x.v]
theorem encR3_length (x : R3) : (encR3 x).length = 3 := rfl
/-- What was seen of each neighbour, and the block of its numbers. -/
def SeenRow (w : World) (l : List Sn) (T : List R3) (I : Nat → Nat) : Prop := T.length = l.length ∧ ∀ i (hi : i < l.length), ∃ b c, T[i]? = some ⟨l[i].f, l[i].l, .slice b l[i].ids.length c⟩ ∧ GR.W encNum 1 w b (I i) l[i].ids
def SeenW (w : World) (a : Option Addr) (g : Nat) (I : Nat → Nat) (l : List Sn) : Prop := ∃ T, GR.W encR3 3 w a g T ∧ SeenRow w l T I
theorem SeenW.at {w : World} {a : Option Addr} {g : Nat} {I : Nat → Nat} {l : List Sn} (h : SeenW w a g I l) : SeenAt w a l := fun i hi => by
  obtain ⟨T, hT, hl, hr⟩ := h
  obtain ⟨b, c, ht, hi2⟩ := hr i hi
  obtain ⟨e, hg, hc⟩ := hT i (by omega)
  have hti : T[i]'(by omega) = ⟨l[i].f, l[i].l, .slice b l[i].ids.length c⟩ := by
    have := List.getElem?_eq_getElem (l := T) (i := i) (by omega)
    rw [this] at ht
    exact Option.some.inj ht
  rw [hti] at hc
  refine ⟨g, 0, b, c, e, hg, ?_, ?_, ?_, hi2.at⟩
  · have := (hc 0 (by omega)).1
    simpa using this
  · have := (hc 1 (by omega)).1
    simpa using this
  · have := (hc 2 (by omega)).1
    simpa using this
/-- The blocks of the numbers that were seen. -/
def fpI (I : Nat → Nat) (l : List Sn) : List Nat := (List.range l.length).flatMap fun i => fp (I i) (l.getD i default).ids
theorem fpI_mem {I : Nat → Nat} {l : List Sn} {i : Nat} (hi : i < l.length) : ∀ x ∈ fp (I i) l[i].ids, x ∈ fpI I l := by
  intro x hx
  unfold fpI
  rw [List.mem_flatMap]
  refine ⟨i, List.mem_range.2 hi, ?_⟩
  rw [List.getD_eq_getElem?_getD, List.getElem?_eq_getElem hi]
  exact hx
theorem of_fpI {I : Nat → Nat} {l : List Sn} {x : Nat} (h : x ∈ fpI I l) : ∃ i, ∃ hi : i < l.length, x = I i ∧ 0 < l[i].ids.length := by
  unfold fpI at h
  rw [List.mem_flatMap] at h
  obtain ⟨i, hi, hx⟩ := h
  have hi' := List.mem_range.1 hi
  rw [List.getD_eq_getElem?_getD, List.getElem?_eq_getElem hi'] at hx
  exact ⟨i, hi', of_fp hx⟩
theorem SeenW.keeps {F : List Nat} {w w' : World} {a : Option Addr} {g : Nat} {I : Nat → Nat} {l : List Sn} (h : SeenW w a g I l) (hk : KeepsL F w w') (hg : ∀ x ∈ fp g l, x ∉ F) (hI : ∀ x ∈ fpI I l, x ∉ F) : SeenW w' a g I l := by
  obtain ⟨T, hT, hl, hr⟩ := h
  refine ⟨T, hT.keeps hk (fun x hx => hg x ?_), hl, fun i hi => ?_⟩
  · have := of_fp hx
    rw [this.1]
    exact fp_mem (by omega)
  · obtain ⟨b, c, ht, hi2⟩ := hr i hi
    exact ⟨b, c, ht, hi2.keeps hk (fun x hx => hI x (fpI_mem hi x hx))⟩

/-- The blocks of a node's rows. -/
structure Blks where
  k : Nat
  p : Nat
  o : Nat
  s : Nat
  r : Nat
  i : Nat → Nat
def Blks.all (G : Blks) (n : Nd) : List Nat := fp G.k n.kids ++ (fp G.p n.pu ++ (fp G.o n.out ++ (fp G.s n.seen ++ (fpI G.i n.seen ++ fp G.r n.reqs))))
structure NodeW (w : World) (A : Ads) (G : Blks) (n : Nd) : Prop where
  k : GR.W encNum 1 w A.k G.k n.kids
  p : GR.W encP 4 w A.p G.p n.pu
  o : GR.W encSnt 4 w A.o G.o n.out
  s : SeenW w A.s G.s G.i n.seen
  r : GR.W encRq 4 w A.r G.r n.reqs
theorem NodeW.at {w : World} {A : Ads} {G : Blks} {n : Nd} (h : NodeW w A G n) : NodeAt w A n := ⟨h.k.at, h.p.at, h.o.at, h.s.at, h.r.at⟩
theorem Blks.mem_all {G : Blks} {n : Nd} {x : Nat} : x ∈ G.all n ↔ x ∈ fp G.k n.kids ∨ x ∈ fp G.p n.pu ∨ x ∈ fp G.o n.out ∨ x ∈ fp G.s n.seen ∨ x ∈ fpI G.i n.seen ∨ x ∈ fp G.r n.reqs := by
  unfold Blks.all
  simp only [List.mem_append]
theorem NodeW.keeps {F : List Nat} {w w' : World} {A : Ads} {G : Blks} {n : Nd} (h : NodeW w A G n) (hk : KeepsL F w w') (hd : ∀ x ∈ G.all n, x ∉ F) : NodeW w' A G n :=
  ⟨h.k.keeps hk (fun x hx => hd x (Blks.mem_all.2 (.inl hx))), h.p.keeps hk (fun x hx => hd x (Blks.mem_all.2 (.inr (.inl hx)))), h.o.keeps hk (fun x hx => hd x (Blks.mem_all.2 (.inr (.inr (.inl hx))))), h.s.keeps hk (fun x hx => hd x (Blks.mem_all.2 (.inr (.inr (.inr (.inl hx)))))) (fun x hx => hd x (Blks.mem_all.2 (.inr (.inr (.inr (.inr (.inl hx))))))), h.r.keeps hk (fun x hx => hd x (Blks.mem_all.2 (.inr (.inr (.inr (.inr (.inr hx)))))))⟩
theorem NodeW.below {w w' : World} {A : Ads} {G : Blks} {n : Nd} (h : NodeW w A G n) (hb : Below w.heap.size w w') : NodeW w' A G n := h.keeps (F := []) (KeepsL.of_below hb) (fun _ _ => by simp)
/-- Blocks that differ from each other, between two places. -/
structure Blks.Sep (G : Blks) (n : Nd) (lo hi : Nat) : Prop where
  nodup : (G.all n).Nodup
  rng : ∀ x ∈ G.all n, lo ≤ x ∧ x < hi
end Go.Proofs.YtccpcmhideijpaaDoor
