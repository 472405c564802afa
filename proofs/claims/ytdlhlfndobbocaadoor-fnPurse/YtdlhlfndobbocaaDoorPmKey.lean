/-
  The program's map of purses with its keys in order: what it is in memory; a key put among the others.
-/
import Derived.Test.YtdlhlfndobbocaaDoorPmPut
import Derived.Test.YtdlhlfndobbocaaDoorPmRow
import Derived.Test.YtdlhlfndobbocaaDoorPmErr
namespace Go.Proofs.YtdlhlfndobbocaaDoor
open Go.RowKit Go.Maps
open Mth

/-- The program's purseMap in memory: its struct, its keys' row, its map. -/
structure PM (w : World) (B mp mb n : Nat) (v : Value) (ks : List ByteArray) (G : ByteArray → Pu) : Prop where
  blk : w.heap[mp]? = some (.cells #[v, .map (some mb)] 85 (0, 0))
  row : w.ownsRow B 9 1 v ks.length (ks.map Value.string)
  map : MapIs w mb n G
  lop : B ≤ mp
  lom : B ≤ mb
theorem own_ne {w : World} {B g n : Nat} {v : Value} {xs : List Value} {t : TypeId} {cs : Array Value} {fr : Nat × Nat} (h : w.ownsRow B 9 1 v n xs) (hg : w.heap[g]? = some (.cells cs t fr)) (ht : t ≠ 9) : v.ownBlock ≠ some g := by
  rcases h.2 with ⟨rfl, _⟩ | ⟨g', cap, cur, rfl, _, hb, _⟩
  · intro e; cases e
  · intro e
    injection e with e
    have e' : g' = g := e
    subst e'
    rw [hg] at hb
    injection hb with hb
    injection hb with h1 h2 h3
    exact ht h2
theorem own_ne_map {w : World} {B g n : Nat} {v : Value} {xs : List Value} {es : Array MapEntry} {clock : Nat} (h : w.ownsRow B 9 1 v n xs) (hg : w.heap[g]? = some (.map es clock)) : v.ownBlock ≠ some g := by
  rcases h.2 with ⟨rfl, _⟩ | ⟨g', cap, cur, rfl, _, hb, _⟩
  · intro e; cases e
  · intro e
    injection e with e
    have e' : g' = g := e
    subst e'
    rw [hg] at hb
    cases hb
theorem MapIs.blk {w : World} {mb n : Nat} {G : ByteArray → Pu} (h : MapIs w mb n G) : ∃ es clock, w.heap[mb]? = some (.map es clock) := by
  obtain ⟨D, ⟨es, clock, h1, _⟩, _⟩ := h
  exact ⟨es, clock, h1⟩
theorem PM.mpmb {w : World} {B mp mb n : Nat} {v : Value} {ks : List ByteArray} {G : ByteArray → Pu} (h : PM w B mp mb n v ks G) : mp ≠ mb := by
  obtain ⟨es, clock, hb⟩ := h.map.blk
  intro e
  have := h.blk
  rw [e, hb] at this
  cases this
/-- Behind calls that make memory alone. -/
theorem PM.below {w w' : World} {B mp mb n : Nat} {v : Value} {ks : List ByteArray} {G : ByteArray → Pu} (h : PM w B mp mb n v ks G) (hb : Below w.heap.size w w') : PM w' B mp mb n v ks G := by
  have hg : w.grownBy w' none := ⟨hb.os, hb.tape, hb.output, hb.size, fun k hk _ => hb.block k hk⟩
  refine ⟨?_, ?_, ?_, h.lop, h.lom⟩
  · rw [hb.block _ (Fo.lt_of_blk h.blk)]; exact h.blk
  · refine h.row.kept hg ?_
    cases v.ownBlock with
    | none => exact .inl rfl
    | some k => exact .inr (by intro e; cases e)
  · exact h.map.kept (hb.block _ h.map.lt)
theorem PM.drewN {w : World} {B mp mb n q : Nat} {v : Value} {ks : List ByteArray} {G : ByteArray → Pu} (h : PM w B mp mb n v ks G) : PM (w.drewN q) B mp mb n v ks G := ⟨h.blk, h.row, h.map, h.lop, h.lom⟩
/-- Behind a turn of the map alone. -/
theorem PM.turned {w w' : World} {B mp mb n n' : Nat} {v : Value} {ks : List ByteArray} {G G' : ByteArray → Pu} (h : PM w B mp mb n v ks G) (hk : Keeps mb w w') (hm : MapIs w' mb n' G') : PM w' B mp mb n' v ks G' := by
  have hg : w.grownBy w' (some mb) := ⟨hk.os, hk.tape, hk.output, hk.size, fun k hl hne => hk.block k hl (fun e => hne (by rw [e]))⟩
  obtain ⟨es, clock, hb⟩ := h.map.blk
  refine ⟨?_, ?_, hm, h.lop, h.lom⟩
  · rw [hk.block _ (Fo.lt_of_blk h.blk) h.mpmb]; exact h.blk
  · refine h.row.kept hg (.inr (own_ne_map h.row hb))
theorem keeps_below {w w' : World} {B g : Nat} (hk : Keeps g w w') (hg : B ≤ g) (hB : B ≤ w.heap.size) : Below B w w' := ⟨hk.os, hk.tape, hk.output, hk.size, fun k hl => hk.block k (by omega) (by omega)⟩
theorem grown_below {w w' : World} {B : Nat} {row : Option Nat} (hk : w.grownBy w' row) (hg : ∀ k, row = some k → B ≤ k) (hB : B ≤ w.heap.size) : Below B w w' := ⟨hk.os, hk.tape, hk.output, hk.size, fun k hl => hk.block k (by omega) (fun e => by have := hg k e.symm; omega)⟩
end Go.Proofs.YtdlhlfndobbocaaDoor
