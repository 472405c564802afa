/- Parts. -/
import Derived.Test.YtbanjohfcnadfaaGreatDoorPw5
import Derived.Test.YtbanjohfcnadfaaGreatDoorPw8
import Derived.Test.YtbanjohfcnadfaaGreatDoorPw9
import Derived.Test.YtbanjohfcnadfaaGreatDoorPw4
import Derived.Test.YtbanjohfcnadfaaGreatDoorPw1
import Derived.Deep.RegionHeldLaw
import Derived.Deep.AppendLies
import Derived.Lib.Strings
import Derived.Lib.BufferWrite
import Derived.Lib.UnsafeStr
import Derived.Laws.MakeOwn
import Derived.Laws.CopyOwn
import Derived.Deep.RegionLaw
import Derived.Lib.ItoaNum
import Derived.Lib.ItoaLen
import Derived.Laws.DeepStrings4
import Derived.OneCell
import Derived.Deep.Draws
namespace Go.Proofs.YtbanjohfcnadfaaGreatDoor
open Go.RowKit
open Mth

namespace Mth
instance : Inhabited Mg := ⟨⟨0, 0, 0, 0, 0, ByteArray.empty, 0⟩⟩
abbrev encM (m : Mg) : List Value := [.int .i64 m.K, .int .i64 m.F, .int .i64 m.T, .int .i64 m.I, .int .i64 m.L, .string m.k, .int .i64 m.N]
theorem encM_length (m : Mg) : (encM m).length = 7 := rfl
end Mth
end Go.Proofs.YtbanjohfcnadfaaGreatDoor
namespace Go.Proofs.YtbanjohfcnadfaaGreatDoor
open Go.RowKit
open Mth

theorem nine_set {w : World} {g : Nat} {a0 a1 a2 a3 a4 a5 a6 a7 a8 b0 b1 b2 b3 b4 b5 b6 b7 b8 : Value} {t : TypeId} (h : w.heap[g]? = some (.cells #[a0, a1, a2, a3, a4, a5, a6, a7, a8] t (0, 0))) :
    (((((((((w.setCell ⟨g, 0, none⟩ b0).setCell ⟨g, 1, none⟩ b1).setCell ⟨g, 2, none⟩ b2).setCell ⟨g, 3, none⟩ b3).setCell ⟨g, 4, none⟩ b4).setCell ⟨g, 5, none⟩ b5).setCell ⟨g, 6, none⟩ b6).setCell ⟨g, 7, none⟩ b7).setCell ⟨g, 8, none⟩ b8).heap[g]? = some (.cells #[b0, b1, b2, b3, b4, b5, b6, b7, b8] t (0, 0)) := by
  have h0 : (w.setCell ⟨g, 0, none⟩ b0).heap[g]? = some (.cells #[b0, a1, a2, a3, a4, a5, a6, a7, a8] t (0, 0)) := blk_setO h 0 b0
  have h1 : ((w.setCell ⟨g, 0, none⟩ b0).setCell ⟨g, 1, none⟩ b1).heap[g]? = some (.cells #[b0, b1, a2, a3, a4, a5, a6, a7, a8] t (0, 0)) := blk_setO h0 1 b1
  have h2 : (((w.setCell ⟨g, 0, none⟩ b0).setCell ⟨g, 1, none⟩ b1).setCell ⟨g, 2, none⟩ b2).heap[g]? = some (.cells #[b0, b1, b2, a3, a4, a5, a6, a7, a8] t (0, 0)) := blk_setO h1 2 b2
  have h3 : ((((w.setCell ⟨g, 0, none⟩ b0).setCell ⟨g, 1, none⟩ b1).setCell ⟨g, 2, none⟩ b2).setCell ⟨g, 3, none⟩ b3).heap[g]? = some (.cells #[b0, b1, b2, b3, a4, a5, a6, a7, a8] t (0, 0)) := blk_setO h2 3 b3
  have h4 : (((((w.setCell ⟨g, 0, none⟩ b0).setCell ⟨g, 1, none⟩ b1).setCell ⟨g, 2, none⟩ b2).setCell ⟨g, 3, none⟩ b3).setCell ⟨g, 4, none⟩ b4).heap[g]? = some (.cells #[b0, b1, b2, b3, b4, a5, a6, a7, a8] t (0, 0)) := blk_setO h3 4 b4
  have h5 : ((((((w.setCell ⟨g, 0, none⟩ b0).setCell ⟨g, 1, none⟩ b1).setCell ⟨g, 2, none⟩ b2).setCell ⟨g, 3, none⟩ b3).setCell ⟨g, 4, none⟩ b4).setCell ⟨g, 5, none⟩ b5).heap[g]? = some (.cells #[b0, b1, b2, b3, b4, b5, a6, a7, a8] t (0, 0)) := blk_setO h4 5 b5
  have h6 : (((((((w.setCell ⟨g, 0, none⟩ b0).setCell ⟨g, 1, none⟩ b1).setCell ⟨g, 2, none⟩ b2).setCell ⟨g, 3, none⟩ b3).setCell ⟨g, 4, none⟩ b4).setCell ⟨g, 5, none⟩ b5).setCell ⟨g, 6, none⟩ b6).heap[g]? = some (.cells #[b0, b1, b2, b3, b4, b5, b6, a7, a8] t (0, 0)) := blk_setO h5 6 b6
  have h7 : ((((((((w.setCell ⟨g, 0, none⟩ b0).setCell ⟨g, 1, none⟩ b1).setCell ⟨g, 2, none⟩ b2).setCell ⟨g, 3, none⟩ b3).setCell ⟨g, 4, none⟩ b4).setCell ⟨g, 5, none⟩ b5).setCell ⟨g, 6, none⟩ b6).setCell ⟨g, 7, none⟩ b7).heap[g]? = some (.cells #[b0, b1, b2, b3, b4, b5, b6, b7, a8] t (0, 0)) := blk_setO h6 7 b7
  have h8 : (((((((((w.setCell ⟨g, 0, none⟩ b0).setCell ⟨g, 1, none⟩ b1).setCell ⟨g, 2, none⟩ b2).setCell ⟨g, 3, none⟩ b3).setCell ⟨g, 4, none⟩ b4).setCell ⟨g, 5, none⟩ b5).setCell ⟨g, 6, none⟩ b6).setCell ⟨g, 7, none⟩ b7).setCell ⟨g, 8, none⟩ b8).heap[g]? = some (.cells #[b0, b1, b2, b3, b4, b5, b6, b7, b8] t (0, 0)) := blk_setO h7 8 b8
  exact h8
theorem nine_keeps {w : World} {g : Nat} {b0 b1 b2 b3 b4 b5 b6 b7 b8 : Value} : KeepsL [g] w (((((((((w.setCell ⟨g, 0, none⟩ b0).setCell ⟨g, 1, none⟩ b1).setCell ⟨g, 2, none⟩ b2).setCell ⟨g, 3, none⟩ b3).setCell ⟨g, 4, none⟩ b4).setCell ⟨g, 5, none⟩ b5).setCell ⟨g, 6, none⟩ b6).setCell ⟨g, 7, none⟩ b7).setCell ⟨g, 8, none⟩ b8) :=
  ((((((((KeepsL.set b0).trans (KeepsL.set b1)).trans (KeepsL.set b2)).trans (KeepsL.set b3)).trans (KeepsL.set b4)).trans (KeepsL.set b5)).trans (KeepsL.set b6)).trans (KeepsL.set b7)).trans (KeepsL.set b8)
theorem allocs2 (w : World) (a b : Obj) : ((w.alloc a).alloc b).heap[w.heap.size]? = some a ∧ ((w.alloc a).alloc b).heap[w.heap.size + 1]? = some b ∧ Below w.heap.size w ((w.alloc a).alloc b) := by
  have e1 : (w.alloc a).heap.size = w.heap.size + 1 := by simp
  have h1 := heap_alloc_new w a
  have h2 := heap_alloc_new (w.alloc a) b
  rw [e1] at h2
  refine ⟨?_, h2, (below_one w _).alloc (by simp) _⟩
  rw [Below.heap_alloc _ _ _ (by rw [e1]; omega)]
  exact h1
/-- Three blocks and some rows behind them. -/
structure TN (w W : World) (P R O : Obj) (rows : List (Nat × Obj)) : Prop where
  par : W.heap[w.heap.size]? = some P
  res : W.heap[w.heap.size + 1]? = some R
  out : W.heap[w.heap.size + 1 + 1]? = some O
  rows : ∀ x ∈ rows, w.heap.size + 1 + 1 < x.1 ∧ W.heap[x.1]? = some x.2
  bel : Below w.heap.size w W
theorem TN.step {w W W' : World} {P R O : Obj} {rows : List (Nat × Obj)} (h : TN w W P R O rows) (hb : Below W.heap.size W W') : TN w W' P R O rows :=
  ⟨obj_step h.par hb, obj_step h.res hb, obj_step h.out hb, fun x hx => ⟨(h.rows x hx).1, obj_step (h.rows x hx).2 hb⟩, h.bel.trans (hb.mono h.bel.size)⟩
theorem TN.add {w W : World} {P R O : Obj} {rows : List (Nat × Obj)} (h : TN w W P R O rows) (more : List (Nat × Obj)) (hm : ∀ x ∈ more, w.heap.size + 1 + 1 < x.1 ∧ W.heap[x.1]? = some x.2) : TN w W P R O (rows ++ more) :=
  ⟨h.par, h.res, h.out, fun x hx => by rcases List.mem_append.1 hx with hx | hx; exact h.rows x hx; exact hm x hx, h.bel⟩
theorem TN.put {w W : World} {P R : Obj} {cs : Array Value} {t : TypeId} {rows : List (Nat × Obj)} (h : TN w W P R (.cells cs t (0, 0)) rows) (i : Nat) (v : Value) : TN w (W.setCell ⟨w.heap.size + 1 + 1, i, none⟩ v) P R (.cells (cs.setIfInBounds i v) t (0, 0)) rows :=
  ⟨oth_set h.par (by omega), oth_set h.res (by omega), blk_setO h.out i v, fun x hx => ⟨(h.rows x hx).1, oth_set (h.rows x hx).2 (by have := (h.rows x hx).1; omega)⟩, h.bel.setCell (p := ⟨w.heap.size + 1 + 1, i, none⟩) (by show w.heap.size ≤ w.heap.size + 1 + 1; omega) v⟩
/-- The row of what was seen, out of its blocks. -/
theorem SeenW.of {w : World} {g : Nat} {T : List R3} {I : Nat → Nat} {l : List Sn} (hT : r3Blk w g T) (hl : T.length = l.length) (h : ∀ i, i < l.length → T[i]? = some ⟨(l.getD i default).f, (l.getD i default).l, .slice (some ⟨I i, 0, none⟩) (l.getD i default).ids.length (l.getD i default).ids.length⟩ ∧ intBlk w (I i) (l.getD i default).ids) : SeenW w (some ⟨g, 0, none⟩) g I l := by
  refine ⟨T, GR.W.of_blk encR3_length hT, hl, fun i hi => ?_⟩
  have hd : l.getD i default = l[i] := by rw [List.getD_eq_getElem?_getD, List.getElem?_eq_getElem hi]; rfl
  obtain ⟨h1, h2⟩ := h i hi
  rw [hd] at h1 h2
  exact ⟨_, _, h1, GR.W.of_blk encNum_length h2⟩
set_option maxRecDepth 100000 in
set_option maxHeartbeats 2000000 in
theorem eqNode (n : Nd) (A A' : Ads) (w : World) (hz : NdSz n 1048600) (ha : NodeAt w A n) (hb : NodeAt w A' n) :
    Calls Tryz.prog 82 #[ndv n A, ndv n A'] w fun e w' => e = .returned (.bool true) ∧ Below w.heap.size w w' := by
  have HK := hide (fun w1 (h : Below w.heap.size w w1) => eqIntS A.k A'.k A.ck A'.ck n.kids w1 hz.k (ha.below h).k (hb.below h).k)
  have HP := hide (fun w1 (h : Below w.heap.size w w1) => eqPurseS A.p A'.p A.cp A'.cp n.pu w1 hz.p (ha.below h).p (hb.below h).p)
  have HO := hide (fun w1 (h : Below w.heap.size w w1) => eqSentS A.o A'.o A.co A'.co n.out w1 hz.o (ha.below h).o (hb.below h).o)
  have HS := hide (fun w1 (h : Below w.heap.size w w1) => eqSeenS A.s A'.s A.cs A'.cs n.seen w1 hz.s hz.sk (ha.below h).s (hb.below h).s)
  have HR := hide (fun w1 (h : Below w.heap.size w w1) => eqReqS A.r A'.r A.cr A'.cr n.reqs w1 hz.r (ha.below h).r (hb.below h).r)
  obtain ⟨hA0, hB0, hL0⟩ := allocs2 w (.cells (ndc n A) 50) (.cells (ndc n A') 50)
  have HA0 := hide hA0
  have HB0 := hide hB0
  have HL0 := hide hL0
  clear ha hb hz hA0 hB0 hL0
  obtain ⟨id, par, kids, next, pu, out, seen, old, reqs⟩ := n
  obtain ⟨ak, ap, ao, as', ar, ck, cp, co, cs, cr⟩ := A
  obtain ⟨bk, bp, bo, bs', br, dk, dp, dO, ds, dr⟩ := A'
  dsimp only at HK HP HO HS HR HA0 HB0 HL0 ⊢
  go_enter Tryz.func82, Tryz.ntmps82
  obtain ⟨c0, c1, c2, c3, c4, c5, c6, c7, c8⟩ := nine (unhide HA0)
  obtain ⟨d0, d1, d2, d3, d4, d5, d6, d7, d8⟩ := nine (unhide HB0)
  go_wp2_with fail
  refine (unhide HK _ (unhide HL0)).mono ?_
  rintro e w1 ⟨rfl, hb1⟩
  have HA1 := hide (obj_step (unhide HA0) hb1)
  have HB1 := hide (obj_step (unhide HB0) hb1)
  have HL1 := hide ((unhide HL0).trans (hb1.mono (unhide HL0).size))
  clear hb1 c0 c1 c2 c3 c4 c5 c6 c7 c8 d0 d1 d2 d3 d4 d5 d6 d7 d8
  obtain ⟨c0, c1, c2, c3, c4, c5, c6, c7, c8⟩ := nine (unhide HA1)
  obtain ⟨d0, d1, d2, d3, d4, d5, d6, d7, d8⟩ := nine (unhide HB1)
  go_wp2_with fail
  refine (unhide HP _ (unhide HL1)).mono ?_
  rintro e w2 ⟨rfl, hb1⟩
  have HA2 := hide (obj_step (unhide HA1) hb1)
  have HB2 := hide (obj_step (unhide HB1) hb1)
  have HL2 := hide ((unhide HL1).trans (hb1.mono (unhide HL1).size))
  clear hb1 c0 c1 c2 c3 c4 c5 c6 c7 c8 d0 d1 d2 d3 d4 d5 d6 d7 d8
  obtain ⟨c0, c1, c2, c3, c4, c5, c6, c7, c8⟩ := nine (unhide HA2)
  obtain ⟨d0, d1, d2, d3, d4, d5, d6, d7, d8⟩ := nine (unhide HB2)
  go_wp2_with fail
  refine (unhide HO _ (unhide HL2)).mono ?_
  rintro e w3 ⟨rfl, hb1⟩
  have HA3 := hide (obj_step (unhide HA2) hb1)
  have HB3 := hide (obj_step (unhide HB2) hb1)
  have HL3 := hide ((unhide HL2).trans (hb1.mono (unhide HL2).size))
  clear hb1 c0 c1 c2 c3 c4 c5 c6 c7 c8 d0 d1 d2 d3 d4 d5 d6 d7 d8
  obtain ⟨c0, c1, c2, c3, c4, c5, c6, c7, c8⟩ := nine (unhide HA3)
  obtain ⟨d0, d1, d2, d3, d4, d5, d6, d7, d8⟩ := nine (unhide HB3)
  go_wp2_with fail
  refine (unhide HS _ (unhide HL3)).mono ?_
  rintro e w4 ⟨rfl, hb1⟩
  have HA4 := hide (obj_step (unhide HA3) hb1)
  have HB4 := hide (obj_step (unhide HB3) hb1)
  have HL4 := hide ((unhide HL3).trans (hb1.mono (unhide HL3).size))
  clear hb1 c0 c1 c2 c3 c4 c5 c6 c7 c8 d0 d1 d2 d3 d4 d5 d6 d7 d8
  obtain ⟨c0, c1, c2, c3, c4, c5, c6, c7, c8⟩ := nine (unhide HA4)
  obtain ⟨d0, d1, d2, d3, d4, d5, d6, d7, d8⟩ := nine (unhide HB4)
  go_wp2_with fail
  refine (unhide HR _ (unhide HL4)).mono ?_
  rintro e w5 ⟨rfl, hb1⟩
  have HA5 := hide (obj_step (unhide HA4) hb1)
  have HB5 := hide (obj_step (unhide HB4) hb1)
  have HL5 := hide ((unhide HL4).trans (hb1.mono (unhide HL4).size))
  clear hb1 c0 c1 c2 c3 c4 c5 c6 c7 c8 d0 d1 d2 d3 d4 d5 d6 d7 d8
  obtain ⟨c0, c1, c2, c3, c4, c5, c6, c7, c8⟩ := nine (unhide HA5)
  obtain ⟨d0, d1, d2, d3, d4, d5, d6, d7, d8⟩ := nine (unhide HB5)
  go_wp2_with fail
  go_ret
  exact ⟨rfl, unhide HL5⟩
end Go.Proofs.YtbanjohfcnadfaaGreatDoor
namespace Go.Proofs.YtbanjohfcnadfaaGreatDoor
open Go.RowKit
open Mth

theorem GR.At.heap {α : Type} {enc : α → List Value} {sz : Nat} {w w1 : World} {a : Option Addr} {l : List α} (h : GR.At enc sz w a l) (e : w1.heap = w.heap) : GR.At enc sz w1 a l := fun i hi => by
  obtain ⟨g, off, e0, hg, hc⟩ := h i hi
  exact ⟨g, off, e0, by rw [e]; exact hg, fun j hj => (World.cell?_of_block (w := w) (by rw [e])).trans (hc j hj)⟩
/-- What a function that answers messages gives. -/
def GivesM (w : World) (L : List Mg) (e : Ending) (w' : World) : Prop := ∃ a c, e = .returned (.slice a L.length c) ∧ ∃ g, GR.W encM 7 w' a g L ∧ (∀ x ∈ fp g L, w.heap.size ≤ x ∧ x < w'.heap.size) ∧ Below w.heap.size w w'
end Go.Proofs.YtbanjohfcnadfaaGreatDoor
namespace Go.Proofs.YtbanjohfcnadfaaGreatDoor
open Go.RowKit
open Mth

theorem GivesM.of_own {w w' : World} {B : Nat} {v : Value} {L : List Mg} {n : Nat} (hn : n = L.length) (h : w'.ownsRow B 82 7 v n (GR.flat encM L)) (hB : w.heap.size ≤ B) (hb : Below w.heap.size w w') : GivesM w L (.returned v) w' := by
  subst hn
  obtain ⟨a, c, g, rfl, hW, hr, _⟩ := GR.W.of_own encM_length h
  exact ⟨a, c, rfl, g, hW, fun x hx => ⟨Nat.le_trans hB (hr x hx).1, (hr x hx).2⟩, hb⟩
theorem flat_snoc {α : Type} (enc : α → List Value) (l : List α) (x : α) : GR.flat enc (l ++ [x]) = GR.flat enc l ++ enc x := by
  rw [GR.flat_append]
  simp [GR.flat]
end Go.Proofs.YtbanjohfcnadfaaGreatDoor
namespace Go.Proofs.YtbanjohfcnadfaaGreatDoor
open Go.RowKit

theorem infoByte : (Tryz.prog.info? 5).map (fun i => (i.zero, i.size, i.bytes)) = some (some (.int .u8 0), 1, 1) := by kernel_rfl
theorem sizeByte : (Tryz.prog.info? 5).map (·.size) = some 1 := by kernel_rfl
theorem cellsByte : Tryz.prog.cellsOf 5 = 1 := by kernel_rfl

theorem cloneIn_empty (w : World) : Calls Tryz.prog 99 #[.string ByteArray.empty] w fun e w' => e = .returned (.string ByteArray.empty) ∧ w = w' := by
  go_enter Tryz.func99, Tryz.ntmps99
  go_wp2
  go_ret
  exact ⟨rfl, rfl⟩

/-- 'make([]byte, n)': a new row of n noughts, under a name. -/
theorem make_bytes (n : Nat) (hn : n ≤ 281474976710656) : ∃ M : Array Value, M.size = n ∧ ∀ W : World, (Instr.makeSlice 129 (.int .i64 (n : Int)) (.int .i64 (n : Int))).run Tryz.prog W = .ok (.slice (some ⟨W.heap.size, 0, none⟩) n n) (W.alloc (.cells M 5)) := by
  obtain ⟨i0, hi, hz0, hz1, hz2⟩ := info_parts infoByte
  refine ⟨madeCells (Value.int .u8 0).cells (((n : Nat) : Int).toNat * i0.size), by rw [size_madeCells, hz1]; simp, fun W => ?_⟩
  simpa using run_make (P := Tryz.prog) W 129 5 i0 (.int .u8 0) Tryz.underlying129 hi hz0 .i64 .i64 (n : Int) (n : Int) (by omega) (by omega) (by rw [hz2]; omega) (by omega)

/-- 'copy(b, s)' over a whole new row: the row then holds the text's bytes. -/
theorem copy_all (w : World) (s : ByteArray) (M : Array Value) (hM : M.size = s.size) : ∃ Y : Array Value, Y.toList = s.data.toList.map bv ∧
    (Builtin.copy_ #[129, 9] 3 #[.slice (some ⟨w.heap.size, 0, none⟩) s.size s.size, .string s]).run Tryz.prog (w.alloc (.cells M 5)) = .ok (goInt s.size) ((w.alloc (.cells M 5)).setRow w.heap.size Y) := by
  have h := Lib.run_copy_row_string (P := Tryz.prog) (w.alloc (.cells M 5)) 129 9 3 5 w.heap.size 0 s.size s.size s M 5 Tryz.underlying129 sizeByte (heap_alloc_new w _) (Nat.le_refl _) (by omega)
  refine ⟨_, ?_, h⟩
  rw [List.toList_toArray, List.take_zero, List.nil_append, List.drop_of_length_le (by rw [Array.length_toList]; omega), List.append_nil]
  rfl

set_option maxHeartbeats 1000000 in
set_option maxRecDepth 100000 in
theorem cloneIn (s : ByteArray) (w : World) (h0 : 0 < s.size) (hlim : s.size ≤ 281474976710656) :
    Calls Tryz.prog 99 #[.string s] w fun e w' => e = .returned (.string s) ∧ Below w.heap.size w w' := by
  obtain ⟨M, hMs, hmk⟩ := make_bytes s.size hlim
  obtain ⟨Y, hY, hcp⟩ := copy_all w s M hMs
  have hYs : Y.size = s.size := by rw [← Array.length_toList, hY]; simp
  have hg : ((w.alloc (.cells M 5)).setRow w.heap.size Y).heap[w.heap.size]? = some (.cells Y 5 (0, 0)) := setRow_heap _ _ M _ 5 (0, 0) (heap_alloc_new w _)
  have hus := Lib.run_unsafeString_row (P := Tryz.prog) ((w.alloc (.cells M 5)).setRow w.heap.size Y) 147 3 9 5 Tryz.underlying147 cellsByte w.heap.size Y.size (by unfold World.shape?; rw [hg]) s.data.toList
    (fun e => by have := size_toList s; rw [e] at this; simp at this; omega) (by rw [size_toList]; omega) (by rw [size_toList]; omega)
    (fun j x hx => Lib.cells_of_row hg Y.size j _ (by rw [List.take_of_length_le (by rw [Array.length_toList]; exact Nat.le_refl _), hY]; simp [bv, hx]))
  rw [size_toList, Lib.mk_data] at hus
  have hne : ((s.size : Int) == 0) = false := beq_eq_false_iff_ne.2 (by omega)
  have hlt : (0 : Int) < (s.size : Int) := by omega
  clear hY hMs hg
  go_enter Tryz.func99, Tryz.ntmps99
  go_wp2
  go_ret
  exact ⟨rfl, Lib.below_freeze (below_setRow ((Below.refl _ w).alloc (Nat.le_refl _) _) (Nat.le_refl _) Y) (p := ⟨w.heap.size, 0, none⟩) (Nat.le_refl _) _⟩

theorem clone (s : ByteArray) (w : World) (hlim : s.size ≤ 281474976710656) :
    Calls Tryz.prog 76 #[.string s] w fun e w' => e = .returned (.string s) ∧ Below w.heap.size w w' := by
  by_cases h0 : 0 < s.size
  · go_enter Tryz.func76, Tryz.ntmps76
    go_wp2_with (go_at_call 99; refine (cloneIn s _ h0 hlim).mono ?_; rintro e w' ⟨rfl, hbel⟩)
    go_ret
    exact ⟨rfl, hbel⟩
  · obtain rfl := eq_empty s (by omega)
    go_enter Tryz.func76, Tryz.ntmps76
    go_wp2_with (go_at_call 99; refine (cloneIn_empty _).mono ?_; rintro e w' ⟨rfl, rfl⟩)
    go_ret
    exact ⟨rfl, Below.refl _ _⟩
end Go.Proofs.YtbanjohfcnadfaaGreatDoor
namespace Go.Proofs.YtbanjohfcnadfaaGreatDoor
open Go.RowKit
open Mth

/-- A worker's cells. -/
abbrev wkc (n : Nd) (A : Ads) (v : Value) : Array Value := #[.int .i64 n.id, .int .i64 n.par, .slice A.k n.kids.length A.ck, .int .i64 n.next, .slice A.p n.pu.length A.cp, .slice A.o n.out.length A.co, .slice A.s n.seen.length A.cs, .int .i64 n.old, .slice A.r n.reqs.length A.cr, v]
theorem tenC {w : World} {g : Nat} {v0 v1 v2 v3 v4 v5 v6 v7 v8 v9 : Value} {t : TypeId} (h : w.heap[g]? = some (.cells #[v0, v1, v2, v3, v4, v5, v6, v7, v8, v9] t (0, 0))) :
    w.cell? ⟨g, 0, none⟩ = some v0 ∧ w.cell? ⟨g, 1, none⟩ = some v1 ∧ w.cell? ⟨g, 2, none⟩ = some v2 ∧ w.cell? ⟨g, 3, none⟩ = some v3 ∧ w.cell? ⟨g, 4, none⟩ = some v4 ∧ w.cell? ⟨g, 5, none⟩ = some v5 ∧ w.cell? ⟨g, 6, none⟩ = some v6 ∧ w.cell? ⟨g, 7, none⟩ = some v7 ∧ w.cell? ⟨g, 8, none⟩ = some v8 ∧ w.cell? ⟨g, 9, none⟩ = some v9 := by
  have hc : ∀ i, w.cell? ⟨g, i, none⟩ = #[v0, v1, v2, v3, v4, v5, v6, v7, v8, v9][i]? := fun i => cell_of_row w g i _ t (0, 0) h
  exact ⟨hc 0, hc 1, hc 2, hc 3, hc 4, hc 5, hc 6, hc 7, hc 8, hc 9⟩
structure WS (w2 wr : World) (wb : Nat) (n : Nd) (A : Ads) (v : Value) (L : List Mg) : Prop where
  keep : KeepsL [wb] w2 wr
  blk : wr.heap[wb]? = some (.cells (wkc n A v) 186 (0, 0))
  own : wr.ownsRow w2.heap.size 82 7 v L.length (GR.flat encM L)
  lt : wb < w2.heap.size
theorem WS.step {w2 wr w' : World} {wb : Nat} {n : Nd} {A : Ads} {v : Value} {L : List Mg} (h : WS w2 wr wb n A v L) (hb : Below wr.heap.size wr w') : WS w2 w' wb n A v L :=
  ⟨h.keep.trans (KeepsL.of_below hb), obj_step h.blk hb, GR.own_below h.own hb, h.lt⟩
theorem WS.set {w2 wr : World} {wb g i : Nat} {n : Nd} {A : Ads} {v u : Value} {L : List Mg} (h : WS w2 wr wb n A v L) (hg : w2.heap.size ≤ g) (hv : v.ownBlock ≠ some g) : WS w2 (wr.setCell ⟨g, i, none⟩ u) wb n A v L := by
  have hlt := h.lt
  refine ⟨?_, ?_, ?_, hlt⟩
  · refine ⟨h.keep.os, h.keep.tape, h.keep.output, by have := h.keep.size; simpa [World.setCell] using this, fun k hk hkn => ?_⟩
    have hkg : k ≠ g := by omega
    rw [Below.heap_setCell _ _ _ _ hkg]
    exact h.keep.block k hk hkn
  · have hkg : wb ≠ g := by omega
    rw [Below.heap_setCell _ _ _ _ hkg]; exact h.blk
  · refine h.own.kept (row := some g) ⟨rfl, rfl, rfl, by simp [World.setCell], fun k _ hk => Below.heap_setCell _ _ _ _ (fun e => hk (by rw [e]))⟩ ?_
    cases hv' : v.ownBlock with
    | none => exact .inl rfl
    | some k => exact .inr (fun e => hv (by rw [hv', e]))
theorem WS.app {w2 wr w6 : World} {wb : Nat} {n : Nd} {A : Ads} {v v' : Value} {L : List Mg} {o : Obj} (h : WS w2 wr wb n A v L) (m : Mg)
    (hown : w6.ownsRow w2.heap.size 82 7 v' (L.length + 1) (GR.flat encM L ++ encM m)) (hg : (wr.alloc o).grownBy w6 v.ownBlock) :
    w6.heap[wb]? = some (.cells (wkc n A v) 186 (0, 0)) ∧ WS w2 (w6.setCell ⟨wb, 9, none⟩ v') wb n A v' (L ++ [m]) := by
  have hvb : ∀ k, v.ownBlock = some k → w2.heap.size ≤ k := fun k hk => (h.own.lt k hk).1
  have hlt := h.lt
  have hsz := h.keep.size
  have hblk6 : w6.heap[wb]? = some (.cells (wkc n A v) 186 (0, 0)) := by
    rw [hg.block wb (by simp; omega) (fun e => by have := hvb wb e.symm; omega), Below.heap_alloc _ _ _ (by omega)]
    exact h.blk
  have hne : ∀ k, v'.ownBlock = some k → k ≠ wb := fun k hk => by have := (hown.lt k hk).1; omega
  refine ⟨hblk6, ?_, ?_, ?_, hlt⟩
  · refine ⟨hg.os.trans h.keep.os, hg.tape.trans h.keep.tape, hg.output.trans h.keep.output, ?_, fun k hk hkn => ?_⟩
    · have := hg.size
      simp [World.setCell] at this ⊢
      omega
    · have hkn' : k ≠ wb := by simpa using hkn
      rw [Below.heap_setCell _ _ _ _ hkn', hg.block k (by simp; omega) (fun e => by have := hvb k e.symm; omega), Below.heap_alloc _ _ _ (by omega)]
      exact h.keep.block k hk hkn
  · exact blk_setO hblk6 9 v'
  · rw [List.length_append, flat_snoc]
    refine hown.kept (row := some wb) ⟨rfl, rfl, rfl, by simp [World.setCell], fun k _ hk => Below.heap_setCell _ _ _ _ (fun e => hk (by rw [e]))⟩ ?_
    cases hv : v'.ownBlock with
    | none => exact .inl rfl
    | some k => exact .inr (fun e => hne k hv (by injection e))
end Go.Proofs.YtbanjohfcnadfaaGreatDoor
namespace Go.Proofs.YtbanjohfcnadfaaGreatDoor.Mth
open Go.Lib (decDigits itoa)

theorem digits_small (v : Nat) (h : v < 10) : decDigits v = [UInt8.ofNat (48 + v)] := by rw [decDigits, dif_pos h]
theorem digits_big (v : Nat) (h : ¬ v < 10) : decDigits v = decDigits (v / 10) ++ [UInt8.ofNat (48 + v % 10)] := by rw [decDigits, dif_neg h]
end Go.Proofs.YtbanjohfcnadfaaGreatDoor.Mth
namespace Go.Proofs.YtbanjohfcnadfaaGreatDoor
open Go.RowKit
open Go.Lib (decDigits itoa)

/-- The digits that are still to come; none for nought. -/
def leftDigits (a : Nat) : List UInt8 := if a = 0 then [] else decDigits a
theorem left_step (a : Nat) (l t : List UInt8) (h0 : a ≠ 0) (h : leftDigits a ++ l = t) : leftDigits (a / 10) ++ (UInt8.ofNat (48 + a % 10) :: l) = t := by
  unfold leftDigits at *
  rw [if_neg h0] at h
  by_cases hs : a < 10
  · have e1 : a / 10 = 0 := by omega
    have e2 : a % 10 = a := by omega
    rw [Mth.digits_small a hs] at h
    rw [e1, e2, if_pos rfl]; simpa using h
  · rw [Mth.digits_big a hs] at h
    rw [if_neg (by omega), ← h]; simp
end Go.Proofs.YtbanjohfcnadfaaGreatDoor
namespace Go.Proofs.YtbanjohfcnadfaaGreatDoor
open Go.RowKit
open Go.Lib (decDigits)

/-- The mark of a number above 0. -/
def mark (k : Nat) : ByteArray := ⟨(109 :: decDigits k).toArray⟩
theorem one_add (b : UInt8) (l : List UInt8) : (ByteArray.mk #[b]) ++ ⟨l.toArray⟩ = ⟨(b :: l).toArray⟩ := by
  apply ByteArray.ext; simp
theorem conv_one (w : World) (z : Int) (b : UInt8) (hz : z = b.toNat) (cap : Nat) : (convert 129 9 (.slice (some ⟨w.heap.size, 0, none⟩) 1 cap)).run Tryz.prog (w.alloc (.cells #[.int .u8 z] 5)) = .ok (.string ⟨#[b]⟩) (w.alloc (.cells #[.int .u8 z] 5)) := by
  subst hz
  have := run_convert_bytes_back (P := Tryz.prog) (w.alloc (.cells #[.int .u8 (b.toNat : Int)] 5)) 129 9 5 ⟨w.heap.size, 0, none⟩ cap [b] Tryz.underlying129 Tryz.underlying5 Tryz.underlying9 (fun j hj => by
    have : j = 0 := by simpa using hj
    subst this; simp [Addr.add])
  simpa using this

set_option maxHeartbeats 1000000 in
set_option maxRecDepth 100000 in
theorem markText (k : Nat) (w : World) (h0 : 0 < k) (hk : (k : Int) ≤ 9223372036854775807) :
    Calls Tryz.prog 55 #[.int .i64 k] w fun e w' => e = .returned (.string (mark k)) ∧ Below w.heap.size w w' := by
  have hlen : (decDigits k).length ≤ 21 := by have := Lib.itoa_length_le k (by omega) hk; rw [Lib.itoa, if_neg (by omega)] at this; simpa using this
  have hpos : decide ((k : Int) ≤ 0) = false := by simp; omega
  go_enter Tryz.func55, Tryz.ntmps55
  go_wp2
  go_loopw [0, 3] (fun m o wr => ∃ (a : Nat) (l : List UInt8), a ≤ k ∧ m = .int .i64 a ∧ o = .string ⟨l.toArray⟩ ∧ leftDigits a ++ l = decDigits k ∧ Below w.heap.size w wr) (fun m _ _ => (intOf m).toNat)
  case atStart => exact ⟨k, [], Nat.le_refl _, rfl, rfl, by unfold leftDigits; rw [if_neg (by omega)]; simp, Below.refl _ _⟩
  case round =>
    obtain ⟨a, l, ha, rfl, rfl, hl, hbel⟩ := hrel
    have HL := hide hl
    have hll : l.length ≤ 21 := by have := congrArg List.length hl; rw [List.length_append] at this; omega
    clear hl
    by_cases hz : a = 0
    · subst hz
      have HE := hide (show l = decDigits k by have := unhide HL; simpa [leftDigits] using this)
      have hA := hide (one_add 109 l)
      clear HL
      go_wp2
      go_ret
      exact ⟨ret_string (by unfold mark; rw [← unhide HE]; exact unhide hA), hbel⟩
    · have HS := hide (left_step a l _ hz (unhide HL))
      obtain ⟨b, hb⟩ : ∃ b, b = UInt8.ofNat (48 + a % 10) := ⟨_, rfl⟩
      rw [← hb] at HS
      have hA := hide (one_add b l)
      have hconv := conv_one wr (48 + (a : Int) % 10) b (by rw [hb, Mth.toNat_byte _ (by omega)]; omega) 1
      clear HL hb
      go_wp2
      go_roundw
      case rel => exact ⟨a / 10, _, by omega, by go_num, by rw [unhide hA], unhide HS, by first | exact hbel.alloc (by have := hbel.size; omega) _ | exact (hbel.alloc (by have := hbel.size; omega) _).drew⟩
      case measure => simp [intOf]; omega
end Go.Proofs.YtbanjohfcnadfaaGreatDoor
namespace Go.Proofs.YtbanjohfcnadfaaGreatDoor
open Go.RowKit

/-- A block that holds just these texts. -/
def strBlock (w : World) (g : Nat) (xs : List ByteArray) : Prop := w.heap[g]? = some (.cells (xs.map Value.string).toArray 9 (0, 0))
theorem strBlock.cell {w : World} {g : Nat} {xs : List ByteArray} (h : strBlock w g xs) (i : Nat) (hi : i < xs.length) : w.cell? ⟨g, i, none⟩ = some (.string xs[i]) := by
  rw [cell_of_row w g i _ 9 (0, 0) h]; simp [hi]
theorem strBlock.free {w : World} {g : Nat} {xs : List ByteArray} (h : strBlock w g xs) (i : Nat) : w.frozen? ⟨g, i, none⟩ = false := by
  unfold World.frozen?; rw [h]; simp
theorem strBlock.lt {w : World} {g : Nat} {xs : List ByteArray} (h : strBlock w g xs) : g < w.heap.size := by
  rcases Nat.lt_or_ge g w.heap.size with h' | h'
  · exact h'
  · rw [strBlock, Array.getElem?_eq_none h'] at h; cases h
theorem strBlock.below {w w' : World} {g B : Nat} {xs : List ByteArray} (h : strBlock w g xs) (hb : Below B w w') (hg : g < B) : strBlock w' g xs := by
  unfold strBlock; rw [hb.block g hg]; exact h
theorem strBlock.set {w : World} {g : Nat} {xs : List ByteArray} (h : strBlock w g xs) (i : Nat) (t : ByteArray) : strBlock (w.setCell ⟨g, i, none⟩ (.string t)) g (xs.set i t) := by
  unfold strBlock World.setCell
  simp only [Array.getElem?_modify]
  rw [if_pos trivial, h]
  simp

/-- All but one block reads as before; new blocks may lie behind. -/
structure Keeps (g : Nat) (w w' : World) : Prop where
  os : w'.os = w.os
  tape : w'.tape = w.tape
  output : w'.output = w.output
  size : w.heap.size ≤ w'.heap.size
  block : ∀ k, k < w.heap.size → k ≠ g → w'.heap[k]? = w.heap[k]?
theorem Keeps.refl (g : Nat) (w : World) : Keeps g w w := ⟨rfl, rfl, rfl, Nat.le_refl _, fun _ _ _ => rfl⟩
theorem Keeps.trans {g : Nat} {a b c : World} (h : Keeps g a b) (k : Keeps g b c) : Keeps g a c :=
  ⟨k.os.trans h.os, k.tape.trans h.tape, k.output.trans h.output, Nat.le_trans h.size k.size, fun i hi hg => (k.block i (Nat.lt_of_lt_of_le hi h.size) hg).trans (h.block i hi hg)⟩
theorem Keeps.of_below {g : Nat} {w w' : World} (h : Below w.heap.size w w') : Keeps g w w' := ⟨h.os, h.tape, h.output, h.size, fun k hk _ => h.block k hk⟩
theorem Keeps.set {g i : Nat} {w : World} (v : Value) : Keeps g w (w.setCell ⟨g, i, none⟩ v) :=
  ⟨rfl, rfl, rfl, by simp [World.setCell], fun k _ hg => Below.heap_setCell _ _ _ _ hg⟩
theorem Keeps.below {g B : Nat} {w w' : World} (h : Keeps g w w') (hB : B ≤ g) (hs : B ≤ w.heap.size) : Below B w w' := ⟨h.os, h.tape, h.output, h.size, fun k hk => h.block k (by omega) (by omega)⟩
theorem strBlock.keeps {w w' : World} {g g' : Nat} {xs : List ByteArray} (h : strBlock w g' xs) (hk : Keeps g w w') (hne : g' ≠ g) : strBlock w' g' xs := by
  unfold strBlock; rw [hk.block g' h.lt hne]; exact h

end Go.Proofs.YtbanjohfcnadfaaGreatDoor
