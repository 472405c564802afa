/-
  A node as a value, its lists as they lie in memory.
-/
import Derived.Test.YtccpcmhideijpaaDoorNdInts
import Derived.Test.YtccpcmhideijpaaDoorNdRowsT
import Derived.Test.YtccpcmhideijpaaDoorNdRowsR
import Derived.Test.YtccpcmhideijpaaDoorRowW
namespace Go.Proofs.YtccpcmhideijpaaDoor
open Go.RowKit
open Mth

/-- What was seen, as it lies. -/
def SeenAt (w : World) (a : Option Addr) (l : List Sn) : Prop := ∀ i (hi : i < l.length), ∃ g off b c, a = some ⟨g, off, none⟩ ∧ g < w.heap.size ∧ w.cell? ⟨g, off + i * 3, none⟩ = some (.int .i64 l[i].f) ∧ w.cell? ⟨g, off + i * 3 + 1, none⟩ = some (.int .i64 l[i].l) ∧ w.cell? ⟨g, off + i * 3 + 2, none⟩ = some (.slice b l[i].ids.length c) ∧ IntsAt w b l[i].ids
theorem SeenAt.below {w w' : World} {a : Option Addr} {l : List Sn} (h : SeenAt w a l) (hb : Below w.heap.size w w') : SeenAt w' a l := fun i hi => by
  obtain ⟨g, off, b, c, e, hg, h0, h1, h2, h3⟩ := h i hi
  exact ⟨g, off, b, c, e, Nat.lt_of_lt_of_le hg hb.size, (hb.cell (p := ⟨g, off + i * 3, none⟩) hg).trans h0, (hb.cell (p := ⟨g, off + i * 3 + 1, none⟩) hg).trans h1, (hb.cell (p := ⟨g, off + i * 3 + 2, none⟩) hg).trans h2, GR.At.below h3 hb⟩
theorem seenAt_nil {w : World} {a : Option Addr} : SeenAt w a [] := fun i hi => by simp at hi
/-- Where a node's lists lie, and their room. -/
structure Ads where
  k : Option Addr
  p : Option Addr
  o : Option Addr
  s : Option Addr
  r : Option Addr
  ck : Nat
  cp : Nat
  co : Nat
  cs : Nat
  cr : Nat
/-- The cells of a node. -/
abbrev ndc (n : Nd) (A : Ads) : Array Value := #[.int .i64 n.id, .int .i64 n.par, .slice A.k n.kids.length A.ck, .int .i64 n.next, .slice A.p n.pu.length A.cp, .slice A.o n.out.length A.co, .slice A.s n.seen.length A.cs, .int .i64 n.old, .slice A.r n.reqs.length A.cr]
abbrev ndv (n : Nd) (A : Ads) : Value := .agg (ndc n A)
structure NodeAt (w : World) (A : Ads) (n : Nd) : Prop where
  k : IntsAt w A.k n.kids
  p : PursesAt w A.p n.pu
  o : SentAt w A.o n.out
  s : SeenAt w A.s n.seen
  r : ReqAt w A.r n.reqs
theorem NodeAt.below {w w' : World} {A : Ads} {n : Nd} (h : NodeAt w A n) (hb : Below w.heap.size w w') : NodeAt w' A n :=
  ⟨GR.At.below h.k hb, GR.At.below h.p hb, GR.At.below h.o hb, h.s.below hb, GR.At.below h.r hb⟩
/-- Its lists and texts are not too long. -/
structure NdSz (n : Nd) (b : Nat) : Prop where
  k : n.kids.length ≤ b
  p : n.pu.length ≤ b
  o : n.out.length ≤ b
  s : n.seen.length ≤ b
  r : n.reqs.length ≤ b
  pk : ∀ x ∈ n.pu, x.k.size ≤ b
  ok : ∀ x ∈ n.out, x.k.size ≤ b
  sk : ∀ x ∈ n.seen, x.ids.length ≤ b
  rk : ∀ x ∈ n.reqs, x.k.size ≤ b
theorem NdSz.mono {n : Nd} {a b : Nat} (h : NdSz n a) (hab : a ≤ b) : NdSz n b :=
  ⟨Nat.le_trans h.k hab, Nat.le_trans h.p hab, Nat.le_trans h.o hab, Nat.le_trans h.s hab, Nat.le_trans h.r hab, fun x hx => Nat.le_trans (h.pk x hx) hab, fun x hx => Nat.le_trans (h.ok x hx) hab, fun x hx => Nat.le_trans (h.sk x hx) hab, fun x hx => Nat.le_trans (h.rk x hx) hab⟩
theorem obj_step {w w' : World} {g : Nat} {o : Obj} (h : w.heap[g]? = some o) (hb : Below w.heap.size w w') : w'.heap[g]? = some o := by
  rw [hb.block g (obj_lt h)]
  exact h
theorem nine {w : World} {g : Nat} {v0 v1 v2 v3 v4 v5 v6 v7 v8 : Value} {t : TypeId} (h : w.heap[g]? = some (.cells #[v0, v1, v2, v3, v4, v5, v6, v7, v8] t (0, 0))) :
    w.cell? ⟨g, 0, none⟩ = some v0 ∧ w.cell? ⟨g, 1, none⟩ = some v1 ∧ w.cell? ⟨g, 2, none⟩ = some v2 ∧ w.cell? ⟨g, 3, none⟩ = some v3 ∧ w.cell? ⟨g, 4, none⟩ = some v4 ∧ w.cell? ⟨g, 5, none⟩ = some v5 ∧ w.cell? ⟨g, 6, none⟩ = some v6 ∧ w.cell? ⟨g, 7, none⟩ = some v7 ∧ w.cell? ⟨g, 8, none⟩ = some v8 := by
  have hc : ∀ i, w.cell? ⟨g, i, none⟩ = #[v0, v1, v2, v3, v4, v5, v6, v7, v8][i]? := fun i => cell_of_row w g i _ t (0, 0) h
  exact ⟨hc 0, hc 1, hc 2, hc 3, hc 4, hc 5, hc 6, hc 7, hc 8⟩
theorem obj_free {w : World} {g : Nat} {cs : Array Value} {t : TypeId} (h : w.heap[g]? = some (.cells cs t (0, 0))) (i : Nat) : w.frozen? ⟨g, i, none⟩ = false := by
  unfold World.frozen?; rw [h]; simp
theorem drewN_below (w : World) (n : Nat) : Below w.heap.size w (w.drewN n) := ⟨rfl, rfl, rfl, Nat.le_refl _, fun _ _ => rfl⟩
end Go.Proofs.YtccpcmhideijpaaDoor
