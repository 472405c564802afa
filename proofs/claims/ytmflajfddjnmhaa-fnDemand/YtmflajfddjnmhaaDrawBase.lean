/-
  What the draws of all chapters share: literals as lists, a cursor and new memory, the code that came in.
-/
import Derived.Test.YtmflajfddjnmhaaDrawP
namespace Go.Proofs.Ytmflajfddjnmhaa
open Go.RowKit

theorem lit_ints (w : World) (zs : List Int) (t : TypeId) (i : Nat) (hi : i < zs.length) : (w.alloc (.cells (zs.map (Value.int .i64)).toArray t)).cell? ⟨w.heap.size, i, none⟩ = some (.int .i64 zs[i]) := by
  rw [World.cell?_alloc_mark]; simp [hi]

theorem lit_strs (w : World) (xs : List ByteArray) (t : TypeId) (i : Nat) (hi : i < xs.length) : (w.alloc (.cells (xs.map Value.string).toArray t)).cell? ⟨w.heap.size, i, none⟩ = some (.string xs[i]) := by
  rw [World.cell?_alloc_mark]; simp [hi]

theorem keeps_new {c : Nat} {w : World} (o : Obj) : Keeps c w (w.alloc o) := Keeps.of_below ((Below.refl _ _).alloc (Nat.le_refl _) _)

theorem cur_new {c : Nat} {w : World} (h : Cur w c) (o : Obj) : Cur (w.alloc o) c := h.keep_below ((Below.refl _ _).alloc (Nat.le_refl _) _)

/-- What every draw is told of the code: its length, and that its bytes can be read. -/
def CodeOk (w : World) (a : Option Addr) (len : Nat) : Prop := len ≤ 1048576 ∧ ∀ j < len, ∃ (b off : Nat) (z : Int), a = some ⟨b, off, none⟩ ∧ b < w.heap.size ∧ 0 ≤ z ∧ z ≤ 255 ∧ w.cell? ⟨b, off + j, none⟩ = some (.int .u8 z)

theorem CodeOk.below {w w' : World} {a : Option Addr} {len : Nat} (h : CodeOk w a len) (hb : Below w.heap.size w w') : CodeOk w' a len := by
  refine ⟨h.1, fun j hj => ?_⟩
  obtain ⟨b, off, z, e, hbl, z0, z1, hc⟩ := h.2 j hj
  exact ⟨b, off, z, e, Nat.lt_of_lt_of_le hbl hb.size, z0, z1, by rw [hb.cell (p := ⟨b, off + j, none⟩) hbl]; exact hc⟩

theorem Keeps.to_below {w w' : World} (h : Keeps w.heap.size w w') : Below w.heap.size w w' := ⟨h.os, h.tape, h.output, h.size, fun k hk => h.block k hk (by omega)⟩

theorem below_then_keeps {w w1 w2 : World} (h : Below w.heap.size w w1) (k : Keeps w.heap.size w1 w2) : Below w.heap.size w w2 := h.trans (k.below (Nat.le_refl _) h.size)
end Go.Proofs.Ytmflajfddjnmhaa
