/-
  The draws' cursor: what it hands back lies between 0 and 255; it turns nothing but itself.
-/
import Derived.Test.YtmflajfddjnmhaaKeeps
import Derived.Deep.QuietTactic
import Derived.BigQuiet
import Derived.Laws.Bits64b
namespace Go.Proofs.Ytmflajfddjnmhaa
open Go.RowKit

theorem and255 (y : Int) : 0 ≤ bits .and .i64 y 255 ∧ bits .and .i64 y 255 ≤ 255 := by
  have h : bits .and .i64 y 255 = IntKind.i64.wrap ((BitVec.ofInt 64 y &&& BitVec.ofInt 64 255).toNat : Int) := rfl
  have h2 : (BitVec.ofInt 64 y &&& BitVec.ofInt 64 255).toNat ≤ 255 := by
    rw [BitVec.toNat_and]
    exact Nat.le_trans Nat.and_le_right (by decide)
  rw [h, IntWalk.i64_in _ ⟨by omega, by omega⟩]
  omega

/-- A cursor in block c: over a code that lies ahead of it. -/
def Cur (w : World) (c : Nat) : Prop :=
  ∃ (a : Option Addr) (len cap i : Nat) (h : Int), w.heap[c]? = some (.cells #[.slice a len cap, .int .i64 i, .int .i64 h] 57 (0, 0)) ∧ i ≤ len ∧ len ≤ 1048576 ∧
    (∀ j < len, ∃ (b off : Nat) (z : Int), a = some ⟨b, off, none⟩ ∧ b < c ∧ 0 ≤ z ∧ z ≤ 255 ∧ w.cell? ⟨b, off + j, none⟩ = some (.int .u8 z))
theorem Cur.lt {w : World} {c : Nat} (h : Cur w c) : c < w.heap.size := by
  obtain ⟨a, len, cap, i, hh, hb, _⟩ := h
  rcases Nat.lt_or_ge c w.heap.size with h' | h'
  · exact h'
  · rw [Array.getElem?_eq_none h'] at hb; cases hb
/-- It stays while nothing up to its block turns. -/
theorem Cur.below {w w' : World} {c B : Nat} (h : Cur w c) (hb : Below B w w') (hB : c < B) : Cur w' c := by
  obtain ⟨a, len, cap, i, hh, hblk, h1, h2, h3⟩ := h
  refine ⟨a, len, cap, i, hh, by rw [hb.block c hB]; exact hblk, h1, h2, fun j hj => ?_⟩
  obtain ⟨b, off, z, e, hbc, z0, z1, hc⟩ := h3 j hj
  exact ⟨b, off, z, e, hbc, z0, z1, by rw [hb.cell (p := ⟨b, off + j, none⟩) (show b < B by omega)]; exact hc⟩

/-- A block written over. -/
theorem block_set {w : World} {c : Nat} {cs : Array Value} {t : TypeId} (h : w.heap[c]? = some (.cells cs t (0, 0))) (i : Nat) (v : Value) : (w.setCell ⟨c, i, none⟩ v).heap[c]? = some (.cells (cs.setIfInBounds i v) t (0, 0)) := by
  unfold World.setCell
  simp only [Array.getElem?_modify]
  rw [if_pos trivial, h]
  rfl

/-- The cursor behind a draw. -/
theorem cur_after {w : World} {a : Option Addr} {c len cap i i' : Nat} {h h' : Int} (hblk : w.heap[c]? = some (.cells #[.slice a len cap, .int .i64 i, .int .i64 h] 57 (0, 0))) (hi : i' ≤ len) (hlen : len ≤ 1048576)
    (hcode : ∀ j < len, ∃ (b off : Nat) (z : Int), a = some ⟨b, off, none⟩ ∧ b < c ∧ 0 ≤ z ∧ z ≤ 255 ∧ w.cell? ⟨b, off + j, none⟩ = some (.int .u8 z)) :
    Cur ((w.setCell ⟨c, 2, none⟩ (.int .i64 h')).setCell ⟨c, 1, none⟩ (.int .i64 (i' : Int))) c := by
  have h1 := block_set (block_set hblk 2 (.int .i64 h')) 1 (.int .i64 (i' : Int))
  refine ⟨a, len, cap, i', h', by simpa using h1, hi, hlen, fun j hj => ?_⟩
  obtain ⟨b, off, z, e, hbc, z0, z1, hc⟩ := hcode j hj
  refine ⟨b, off, z, e, hbc, z0, z1, ?_⟩
  rw [World.cell?_setCell_other _ _ _ _ (by intro e; have := congrArg Addr.block e; simp at this; omega), World.cell?_setCell_other _ _ _ _ (by intro e; have := congrArg Addr.block e; simp at this; omega)]
  exact hc
theorem cur_after1 {w : World} {a : Option Addr} {c len cap i : Nat} {h h' : Int} (hblk : w.heap[c]? = some (.cells #[.slice a len cap, .int .i64 i, .int .i64 h] 57 (0, 0))) (hi : i ≤ len) (hlen : len ≤ 1048576)
    (hcode : ∀ j < len, ∃ (b off : Nat) (z : Int), a = some ⟨b, off, none⟩ ∧ b < c ∧ 0 ≤ z ∧ z ≤ 255 ∧ w.cell? ⟨b, off + j, none⟩ = some (.int .u8 z)) :
    Cur (w.setCell ⟨c, 2, none⟩ (.int .i64 h')) c := by
  have h1 := block_set hblk 2 (.int .i64 h')
  refine ⟨a, len, cap, i, h', by simpa using h1, hi, hlen, fun j hj => ?_⟩
  obtain ⟨b, off, z, e, hbc, z0, z1, hc⟩ := hcode j hj
  refine ⟨b, off, z, e, hbc, z0, z1, ?_⟩
  rw [World.cell?_setCell_other _ _ _ _ (by intro e; have := congrArg Addr.block e; simp at this; omega)]
  exact hc
theorem Keeps.drewN {c q : Nat} {w w' : World} (h : Keeps c w w') : Keeps c w (w'.drewN q) := ⟨h.os, h.tape, h.output, h.size, h.block⟩
theorem Cur.drewN {c q : Nat} {w : World} (h : Cur w c) : Cur (w.drewN q) c := h

set_option maxRecDepth 100000 in
set_option maxHeartbeats 2000000 in
theorem l01Byte (c : Nat) (w : World) (hc : Cur w c) :
    Calls Try.prog 42 #[.pointer (some ⟨c, 0, none⟩)] w fun e w' => ∃ x : Int, e = .returned (.int .i64 x) ∧ 0 ≤ x ∧ x ≤ 255 ∧ Cur w' c ∧ Keeps c w w' := by
  obtain ⟨a, len, cap, i, h, hblk, hil, hlen, hcode⟩ := hc
  have c0 : w.cell? ⟨c, 0, none⟩ = some (.slice a len cap) := by rw [cell_of_row w c 0 _ _ (0, 0) hblk]; rfl
  have c1 : w.cell? ⟨c, 1, none⟩ = some (.int .i64 i) := by rw [cell_of_row w c 1 _ _ (0, 0) hblk]; rfl
  have c2 : w.cell? ⟨c, 2, none⟩ = some (.int .i64 h) := by rw [cell_of_row w c 2 _ _ (0, 0) hblk]; rfl
  have f1 : w.frozen? ⟨c, 1, none⟩ = false := by unfold World.frozen?; rw [hblk]; rfl
  have f2 : w.frozen? ⟨c, 2, none⟩ = false := by unfold World.frozen?; rw [hblk]; rfl
  have HB := hide hblk
  have HCODE := hide hcode
  clear hblk hcode
  by_cases hlt : i < len
  · obtain ⟨b, off, z, rfl, hbc, z0, z1, hz⟩ := unhide HCODE i hlt
    have hne : b ≠ c := by omega
    go_enter Try.func42, Try.ntmps42
    go_wp2_with fail
    generalize wrap64 (wrap64 (h * 6364136223846793005) + 1442695040888963407) = h'
    go_quiet (fail)
    go_wp2_with fail
    have hx := and255 (bits BinOp.xor IntKind.i64 (h' / 8589934592) (h' / 35184372088832))
    generalize bits BinOp.and IntKind.i64 (bits BinOp.xor IntKind.i64 (h' / 8589934592) (h' / 35184372088832)) 255 = x at *
    obtain ⟨hx0, hx1⟩ := hx
    go_quiet (fail)
    go_wp2_with fail
    go_quiet (fail)
    have hy := and255 (x + z)
    generalize bits BinOp.and IntKind.i64 (x + z) 255 = y at *
    obtain ⟨hy0, hy1⟩ := hy
    go_wp2
    go_ret
    refine ⟨y, rfl, hy0, hy1, ?_, ?_⟩
    · have := cur_after (i' := i + 1) (h' := h') (unhide HB) (by omega) hlen (unhide HCODE)
      simp only [Int.natCast_add, Int.natCast_one] at this
      first | exact this | exact this.drewN
    · first | exact ((Keeps.set _).trans (Keeps.set _)) | exact ((Keeps.set _).trans (Keeps.set _)).drewN
  · have hnlt : decide ((i : Int) < (len : Int)) = false := by simp; omega
    go_enter Try.func42, Try.ntmps42
    go_wp2_with fail
    generalize wrap64 (wrap64 (h * 6364136223846793005) + 1442695040888963407) = h'
    go_quiet (fail)
    go_wp2_with fail
    have hx := and255 (bits BinOp.xor IntKind.i64 (h' / 8589934592) (h' / 35184372088832))
    generalize bits BinOp.and IntKind.i64 (bits BinOp.xor IntKind.i64 (h' / 8589934592) (h' / 35184372088832)) 255 = x at *
    obtain ⟨hx0, hx1⟩ := hx
    go_quiet (fail)
    go_wp2
    go_ret
    refine ⟨x, rfl, hx0, hx1, ?_, ?_⟩
    · have := cur_after1 (h' := h') (unhide HB) hil hlen (unhide HCODE)
      first | exact this | exact this.drewN
    · first | exact Keeps.set _ | exact (Keeps.set _).drewN | exact (Keeps.set _).drewN.drewN
end Go.Proofs.Ytmflajfddjnmhaa
