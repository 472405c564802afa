/- Parts. -/
import Derived.Test.YtikdkijggejnfaaGreatDoorPj14
import Derived.Test.YtikdkijggejnfaaGreatDoorPj4
import Derived.Test.YtikdkijggejnfaaGreatDoorPj10
import Derived.Deep.DeepCutAuto
import Derived.Deep.CutBlock
namespace Go.Proofs.YtikdkijggejnfaaGreatDoor
open Go.RowKit

theorem eleven_at {w : World} {g : Nat} {a0 a1 a2 a3 a4 a5 a6 a7 a8 a9 a10 : Value} {t : TypeId} (h : w.heap[g]? = some (.cells #[a0, a1, a2, a3, a4, a5, a6, a7, a8, a9, a10] t (0, 0))) :
    (w.cell? ⟨g, 0, none⟩ = some a0 ∧ w.cell? ⟨g, 1, none⟩ = some a1 ∧ w.cell? ⟨g, 2, none⟩ = some a2 ∧ w.cell? ⟨g, 3, none⟩ = some a3 ∧ w.cell? ⟨g, 4, none⟩ = some a4 ∧ w.cell? ⟨g, 5, none⟩ = some a5 ∧ w.cell? ⟨g, 6, none⟩ = some a6 ∧ w.cell? ⟨g, 7, none⟩ = some a7 ∧ w.cell? ⟨g, 8, none⟩ = some a8 ∧ w.cell? ⟨g, 9, none⟩ = some a9 ∧ w.cell? ⟨g, 10, none⟩ = some a10) ∧ (w.frozen? ⟨g, 0, none⟩ = false ∧ w.frozen? ⟨g, 1, none⟩ = false ∧ w.frozen? ⟨g, 2, none⟩ = false ∧ w.frozen? ⟨g, 3, none⟩ = false ∧ w.frozen? ⟨g, 4, none⟩ = false ∧ w.frozen? ⟨g, 5, none⟩ = false ∧ w.frozen? ⟨g, 6, none⟩ = false ∧ w.frozen? ⟨g, 7, none⟩ = false ∧ w.frozen? ⟨g, 8, none⟩ = false ∧ w.frozen? ⟨g, 9, none⟩ = false ∧ w.frozen? ⟨g, 10, none⟩ = false) := by
  have hf : ∀ i, w.frozen? ⟨g, i, none⟩ = false := fun i => by unfold World.frozen?; rw [h]; simp
  have hc : ∀ i, w.cell? ⟨g, i, none⟩ = #[a0, a1, a2, a3, a4, a5, a6, a7, a8, a9, a10][i]? := fun i => cell_of_row w g i _ t (0, 0) h
  exact ⟨⟨hc 0, hc 1, hc 2, hc 3, hc 4, hc 5, hc 6, hc 7, hc 8, hc 9, hc 10⟩, hf 0, hf 1, hf 2, hf 3, hf 4, hf 5, hf 6, hf 7, hf 8, hf 9, hf 10⟩
theorem eleven_set {w : World} {g : Nat} {a0 a1 a2 a3 a4 a5 a6 a7 a8 a9 a10 b0 b1 b2 b3 b4 b5 b6 b7 b8 b9 b10 : Value} {t : TypeId} (h : w.heap[g]? = some (.cells #[a0, a1, a2, a3, a4, a5, a6, a7, a8, a9, a10] t (0, 0))) : (((((((((((w.setCell ⟨g, 0, none⟩ b0).setCell ⟨g, 1, none⟩ b1).setCell ⟨g, 2, none⟩ b2).setCell ⟨g, 3, none⟩ b3).setCell ⟨g, 4, none⟩ b4).setCell ⟨g, 5, none⟩ b5).setCell ⟨g, 6, none⟩ b6).setCell ⟨g, 7, none⟩ b7).setCell ⟨g, 8, none⟩ b8).setCell ⟨g, 9, none⟩ b9).setCell ⟨g, 10, none⟩ b10).heap[g]? = some (.cells #[b0, b1, b2, b3, b4, b5, b6, b7, b8, b9, b10] t (0, 0)) :=
  GR.setW_blk [b0, b1, b2, b3, b4, b5, b6, b7, b8, b9, b10] (o := 0) (xs := [a0, a1, a2, a3, a4, a5, a6, a7, a8, a9, a10]) h
theorem eleven_set_below {a w : World} {B g : Nat} {b0 b1 b2 b3 b4 b5 b6 b7 b8 b9 b10 : Value} (h : Below B a w) (hg : B ≤ g) : Below B a (((((((((((w.setCell ⟨g, 0, none⟩ b0).setCell ⟨g, 1, none⟩ b1).setCell ⟨g, 2, none⟩ b2).setCell ⟨g, 3, none⟩ b3).setCell ⟨g, 4, none⟩ b4).setCell ⟨g, 5, none⟩ b5).setCell ⟨g, 6, none⟩ b6).setCell ⟨g, 7, none⟩ b7).setCell ⟨g, 8, none⟩ b8).setCell ⟨g, 9, none⟩ b9).setCell ⟨g, 10, none⟩ b10) :=
  GR.setW_below hg [b0, b1, b2, b3, b4, b5, b6, b7, b8, b9, b10] (o := 0) h
theorem bodyPost_atE {P : Program} {fn : Func} {Q : Ending → World → Prop} {x : Exit} {act : Act} {W : World} (h : ∀ W', W' = W → bodyPost P fn Q x act W') : bodyPost P fn Q x act W := h W rfl
theorem allocsE2 (w : World) (a b : Obj) : ((w.alloc a).alloc b).heap[w.heap.size]? = some a ∧ ((w.alloc a).alloc b).heap[w.heap.size + 1]? = some b ∧ Below w.heap.size w ((w.alloc a).alloc b) := by
  have e1 : (w.alloc a).heap.size = w.heap.size + 1 := by simp
  have h4 := heap_alloc_new (w.alloc a) b
  have h6 := Below.heap_alloc (w.alloc a) b w.heap.size (by omega)
  rw [e1] at h4
  exact ⟨h6.trans (heap_alloc_new w a), h4, (below_one w a).alloc (by omega) b⟩
theorem allocsG3 (w : World) (a b c : Obj) : (((w.alloc a).alloc b).alloc c).heap[w.heap.size]? = some a ∧ (((w.alloc a).alloc b).alloc c).heap[w.heap.size + 1]? = some b ∧ (((w.alloc a).alloc b).alloc c).heap[w.heap.size + 1 + 1]? = some c ∧ Below w.heap.size w (((w.alloc a).alloc b).alloc c) := by
  have e1 : (w.alloc a).heap.size = w.heap.size + 1 := by simp
  have e2 : ((w.alloc a).alloc b).heap.size = w.heap.size + 1 + 1 := by simp
  have h2 := Below.heap_alloc ((w.alloc a).alloc b) c (w.heap.size + 1) (by omega)
  have h3 := heap_alloc_new ((w.alloc a).alloc b) c
  have h4 := heap_alloc_new (w.alloc a) b
  have h5 := Below.heap_alloc ((w.alloc a).alloc b) c w.heap.size (by omega)
  have h6 := Below.heap_alloc (w.alloc a) b w.heap.size (by omega)
  rw [e2] at h3
  rw [e1] at h4
  exact ⟨h5.trans (h6.trans (heap_alloc_new w a)), h2.trans h4, h3, ((below_one w a).alloc (by omega) b).alloc (by omega) c⟩
open Mth

abbrev opA (o : Op5) : Array Value := #[.int .i64 o.K, .int .i64 o.no, .string o.k, .int .i64 o.n, .int .i64 o.m.K, .int .i64 o.m.F, .int .i64 o.m.T, .int .i64 o.m.I, .int .i64 o.m.L, .string o.m.k, .int .i64 o.m.N]
/-- While an operation is drawn: the cursor, the result's block, the operation's own. -/
structure OSt (w : World) (c g : Nat) (o : Op5) (W : World) : Prop where
  cur : Cur W c
  keep : Keeps c w W
  clt : c < w.heap.size
  glt : w.heap.size < g
  res : W.heap[w.heap.size]? = some (.cells #[.int .i64 0, .int .i64 0, .string ⟨#[]⟩, .int .i64 0, .int .i64 0, .int .i64 0, .int .i64 0, .int .i64 0, .int .i64 0, .string ⟨#[]⟩, .int .i64 0] 25 (0, 0))
  own : W.heap[g]? = some (.cells (opA o) 25 (0, 0))
theorem OSt.draw {w W W' : World} {c g : Nat} {o : Op5} (h : OSt w c g o W) (hc : Cur W' c) (hk : Keeps c W W') : OSt w c g o W' := by
  have h1 := blk_lt h.res
  have h2 := blk_lt h.own
  have h3 := h.clt
  have h4 := h.glt
  exact ⟨hc, h.keep.trans hk, h.clt, h.glt, by rw [hk.block _ h1 (by omega)]; exact h.res, by rw [hk.block _ h2 (by omega)]; exact h.own⟩
theorem OSt.new {w W : World} {c g : Nat} {o : Op5} (h : OSt w c g o W) (x : Obj) : OSt w c g o (W.alloc x) := h.draw (cur_new h.cur x) (keeps_new x)
/-- What is written at the operation's block, or behind it. -/
theorem OSt.far {w W W' : World} {c g : Nat} {o o' : Op5} (h : OSt w c g o W) (hb : Below g W W') (e : W'.heap[g]? = some (.cells (opA o') 25 (0, 0))) : OSt w c g o' W' := by
  have h3 := h.clt
  have h4 := h.glt
  have hk := h.keep
  exact ⟨h.cur.below hb (by omega), ⟨hb.os.trans hk.os, hb.tape.trans hk.tape, hb.output.trans hk.output, Nat.le_trans hk.size hb.size, fun k k1 k2 => (hb.block k (by omega)).trans (hk.block k k1 k2)⟩, h.clt, h.glt, (hb.block _ h4).trans h.res, e⟩
theorem op_set {w : World} {c : Nat} {cs : Array Value} {t : TypeId} (h : w.heap[c]? = some (.cells cs t (0, 0))) (i : Nat) (v : Value) : (w.setCell ⟨c, i, none⟩ v).heap[c]? = some (.cells (cs.setIfInBounds i v) t (0, 0)) := by
  unfold World.setCell
  simp only [Array.getElem?_modify]
  rw [if_pos trivial, h]
  rfl
theorem OSt.put {w W : World} {c g : Nat} {o o' : Op5} (h : OSt w c g o W) (i : Nat) (v : Value) (e : (opA o).setIfInBounds i v = opA o') : OSt w c g o' (W.setCell ⟨g, i, none⟩ v) :=
  h.far ((Below.refl g W).setCell (p := ⟨g, i, none⟩) (Nat.le_refl g) v) (by rw [← e]; exact op_set h.own i v)
theorem OSt.at {w W V : World} {c g : Nat} {o : Op5} (h : OSt w c g o W) (e : V = W) : OSt w c g o V := by rw [e]; exact h
def opKeys : List ByteArray := [⟨#[97]⟩, ⟨#[98]⟩]
theorem opKeys_size : ∀ x ∈ opKeys, x.size ≤ 20 := by decide

set_option maxRecDepth 100000 in
set_option maxHeartbeats 8000000 in
theorem l05Op (c : Nat) (w : World) (hc : Cur w c) : Calls Tryz.prog 33 #[.pointer (some ⟨c, 0, none⟩)] w fun e w' => ∃ o : Op5, e = .returned (opw o) ∧ o.k.size ≤ 20 ∧ o.m.k.size ≤ 20 ∧ Cur w' c ∧ Keeps c w w' := by
  have hcl := hc.lt
  have HC := hide hc
  clear hc
  go_enter Tryz.func33, Tryz.ntmps33
  go_wp2_with fail
  generalize hwa : w.alloc (.cells #[.int .i64 0, .int .i64 0, .string ⟨#[]⟩, .int .i64 0, .int .i64 0, .int .i64 0, .int .i64 0, .int .i64 0, .int .i64 0, .string ⟨#[]⟩, .int .i64 0] 25) = wa at *
  have hwas : wa.heap.size = w.heap.size + 1 := by rw [← hwa]; simp
  have HCA := hide (show Cur wa c by rw [← hwa]; exact cur_new (unhide HC) _)
  have HKA := hide (show Keeps c w wa by rw [← hwa]; exact keeps_new _)
  have HRA := hide (show wa.heap[w.heap.size]? = some (.cells #[.int .i64 0, .int .i64 0, .string ⟨#[]⟩, .int .i64 0, .int .i64 0, .int .i64 0, .int .i64 0, .int .i64 0, .int .i64 0, .string ⟨#[]⟩, .int .i64 0] 25 (0, 0)) by rw [← hwa]; exact heap_alloc_new w _)
  clear hwa HC
  have HPK := hide (l01Pick c (w.heap.size + 1) 2 opKeys _ (cur_new (unhide HCA) (.cells (opKeys.map Value.string).toArray 9)) (by omega) (by decide) (by decide) (fun i hi => by rw [← hwas]; exact lit_strs wa opKeys _ i hi) (by simp; omega))
  refine (unhide HPK).mono ?_
  clear HPK
  rintro e w1 ⟨key, rfl, hkey, hc1, hk1⟩
  have hks := opKeys_size key hkey
  have HC1 := hide hc1
  have HK1 := hide (((unhide HKA).trans (keeps_new _)).trans hk1)
  have HR1 := hide (show w1.heap[w.heap.size]? = some (.cells #[.int .i64 0, .int .i64 0, .string ⟨#[]⟩, .int .i64 0, .int .i64 0, .int .i64 0, .int .i64 0, .int .i64 0, .int .i64 0, .string ⟨#[]⟩, .int .i64 0] 25 (0, 0)) by rw [hk1.block _ (by simp; omega) (by omega), Below.heap_alloc _ _ _ (by omega)]; exact unhide HRA)
  clear hc1 hk1 HCA HKA HRA hkey
  go_wp2_with fail
  refine (l01Below c 9 _ (unhide HC1) (by omega) (by omega)).mono ?_
  rintro e w2 ⟨y, rfl, hy0, hy1, hc2, hk2⟩
  have HC2 := hide hc2
  have HK2 := hide ((unhide HK1).trans hk2)
  have HR2 := hide (show w2.heap[w.heap.size]? = some (.cells #[.int .i64 0, .int .i64 0, .string ⟨#[]⟩, .int .i64 0, .int .i64 0, .int .i64 0, .int .i64 0, .int .i64 0, .int .i64 0, .string ⟨#[]⟩, .int .i64 0] 25 (0, 0)) by rw [hk2.block _ (blk_lt (unhide HR1)) (by omega)]; exact unhide HR1)
  have hr2 := blk_lt (unhide HR2)
  clear hc2 hk2 HC1 HK1 HR1
  go_upto_region 4 with fail
  refine wp_at (fun V0 hV => ?_)
  have HS := hide (show OSt w c w2.heap.size ⟨0, 0, ⟨#[]⟩, 0, ⟨0, 0, 0, 0, 0, ⟨#[]⟩, 0⟩⟩ V0 by
    rw [hV]
    refine ⟨cur_new (unhide HC2) _, (unhide HK2).trans (keeps_new _), hcl, hr2, ?_, heap_alloc_new w2 _⟩
    rw [Below.heap_alloc _ _ _ hr2]
    exact unhide HR2)
  clear hV HC2 HK2 HR2 hr2 hwas
  have hn0 : 0 ≤ 1 + y := by omega
  have hn1 : 1 + y ≤ 9 := by omega
  generalize w2.heap.size = g at *
  go_wp2_with fail
  refine (l01Below c 10 _ (unhide HS).cur (by omega) (by omega)).mono ?_
  rintro e wz ⟨z, rfl, hz0, hz1, hcx, hkx⟩
  have HS1 := hide ((unhide HS).draw hcx hkx)
  clear hcx hkx HS
  go_upto_block 0 with fail
  go_cut [5] (fun p wx => p = .pointer (some ⟨g, 0, none⟩) ∧ ∃ o : Op5, OSt w c g o wx ∧ o.k.size ≤ 20 ∧ o.m.k.size ≤ 20)
  case first =>
    have hzc : z = 0 ∨ z = 1 ∨ z = 2 ∨ z = 3 ∨ z = 4 ∨ z = 5 ∨ z = 6 ∨ z = 7 ∨ z = 8 ∨ z = 9 := by omega
    rcases hzc with rfl | rfl | rfl | rfl | rfl | rfl | rfl | rfl | rfl | rfl
    · clear hz0 hz1

      obtain ⟨⟨c0, c1, c2, c3, c4, c5, c6, c7, c8, c9, c10⟩, f0, f1, f2, f3, f4, f5, f6, f7, f8, f9, f10⟩ := eleven_at (unhide HS1).own
      have hzg := blk_lt (unhide HS1).own
      go_wp2_with fail
      go_meet
      case rel => exact ⟨rfl, ⟨0, 0, key, (1 + y), ⟨0, 0, 0, 0, 0, ⟨#[]⟩, 0⟩⟩, (unhide HS1).far (o' := ⟨0, 0, key, (1 + y), ⟨0, 0, 0, 0, 0, ⟨#[]⟩, 0⟩⟩) (eleven_set_below (Below.refl _ _) (Nat.le_refl _)) (eleven_set (unhide HS1).own), by dsimp only; first | exact hks | decide, by dsimp only; first | exact hks | decide⟩
    · clear hz0 hz1
      go_wp2_with fail
      refine (l01Below c 12 _ (unhide HS1).cur (by omega) (by omega)).mono ?_
      rintro e wp ⟨p, rfl, hp0, hp1, hcx, hkx⟩
      have HS2 := hide ((unhide HS1).draw hcx hkx)
      clear hcx hkx HS1
      obtain ⟨⟨c0, c1, c2, c3, c4, c5, c6, c7, c8, c9, c10⟩, f0, f1, f2, f3, f4, f5, f6, f7, f8, f9, f10⟩ := eleven_at (unhide HS2).own
      have hzg := blk_lt (unhide HS2).own
      go_wp2_with fail
      go_meet
      case rel => exact ⟨rfl, ⟨1, (1 + p), key, (1 + y), ⟨0, 0, 0, 0, 0, ⟨#[]⟩, 0⟩⟩, (unhide HS2).far (o' := ⟨1, (1 + p), key, (1 + y), ⟨0, 0, 0, 0, 0, ⟨#[]⟩, 0⟩⟩) (eleven_set_below (Below.refl _ _) (Nat.le_refl _)) (eleven_set (unhide HS2).own), by dsimp only; first | exact hks | decide, by dsimp only; first | exact hks | decide⟩
    · clear hz0 hz1
      go_wp2_with fail
      refine (l01Below c 12 _ (unhide HS1).cur (by omega) (by omega)).mono ?_
      rintro e wp ⟨p, rfl, hp0, hp1, hcx, hkx⟩
      have HS2 := hide ((unhide HS1).draw hcx hkx)
      clear hcx hkx HS1
      obtain ⟨⟨c0, c1, c2, c3, c4, c5, c6, c7, c8, c9, c10⟩, f0, f1, f2, f3, f4, f5, f6, f7, f8, f9, f10⟩ := eleven_at (unhide HS2).own
      have hzg := blk_lt (unhide HS2).own
      go_wp2_with fail
      go_meet
      case rel => exact ⟨rfl, ⟨1, (1 + p), key, (1 + y), ⟨0, 0, 0, 0, 0, ⟨#[]⟩, 0⟩⟩, (unhide HS2).far (o' := ⟨1, (1 + p), key, (1 + y), ⟨0, 0, 0, 0, 0, ⟨#[]⟩, 0⟩⟩) (eleven_set_below (Below.refl _ _) (Nat.le_refl _)) (eleven_set (unhide HS2).own), by dsimp only; first | exact hks | decide, by dsimp only; first | exact hks | decide⟩
    · clear hz0 hz1
      go_wp2_with fail
      refine (l01Below c 12 _ (unhide HS1).cur (by omega) (by omega)).mono ?_
      rintro e wp ⟨p, rfl, hp0, hp1, hcx, hkx⟩
      have HS2 := hide ((unhide HS1).draw hcx hkx)
      clear hcx hkx HS1
      obtain ⟨⟨c0, c1, c2, c3, c4, c5, c6, c7, c8, c9, c10⟩, f0, f1, f2, f3, f4, f5, f6, f7, f8, f9, f10⟩ := eleven_at (unhide HS2).own
      have hzg := blk_lt (unhide HS2).own
      go_wp2_with fail
      go_meet
      case rel => exact ⟨rfl, ⟨2, (1 + p), ⟨#[]⟩, 0, ⟨0, 0, 0, 0, 0, ⟨#[]⟩, 0⟩⟩, (unhide HS2).far (o' := ⟨2, (1 + p), ⟨#[]⟩, 0, ⟨0, 0, 0, 0, 0, ⟨#[]⟩, 0⟩⟩) (eleven_set_below (Below.refl _ _) (Nat.le_refl _)) (eleven_set (unhide HS2).own), by dsimp only; first | exact hks | decide, by dsimp only; first | exact hks | decide⟩
    · clear hz0 hz1

      obtain ⟨⟨c0, c1, c2, c3, c4, c5, c6, c7, c8, c9, c10⟩, f0, f1, f2, f3, f4, f5, f6, f7, f8, f9, f10⟩ := eleven_at (unhide HS1).own
      have hzg := blk_lt (unhide HS1).own
      go_wp2_with fail
      go_meet
      case rel => exact ⟨rfl, ⟨3, 0, key, (1 + y), ⟨0, 0, 0, 0, 0, ⟨#[]⟩, 0⟩⟩, (unhide HS1).far (o' := ⟨3, 0, key, (1 + y), ⟨0, 0, 0, 0, 0, ⟨#[]⟩, 0⟩⟩) (eleven_set_below (Below.refl _ _) (Nat.le_refl _)) (eleven_set (unhide HS1).own), by dsimp only; first | exact hks | decide, by dsimp only; first | exact hks | decide⟩
    · clear hz0 hz1

      obtain ⟨⟨c0, c1, c2, c3, c4, c5, c6, c7, c8, c9, c10⟩, f0, f1, f2, f3, f4, f5, f6, f7, f8, f9, f10⟩ := eleven_at (unhide HS1).own
      have hzg := blk_lt (unhide HS1).own
      go_wp2_with fail
      go_meet
      case rel => exact ⟨rfl, ⟨4, 0, key, (1 + y), ⟨0, 0, 0, 0, 0, ⟨#[]⟩, 0⟩⟩, (unhide HS1).far (o' := ⟨4, 0, key, (1 + y), ⟨0, 0, 0, 0, 0, ⟨#[]⟩, 0⟩⟩) (eleven_set_below (Below.refl _ _) (Nat.le_refl _)) (eleven_set (unhide HS1).own), by dsimp only; first | exact hks | decide, by dsimp only; first | exact hks | decide⟩
    · clear hz0 hz1

      obtain ⟨⟨c0, c1, c2, c3, c4, c5, c6, c7, c8, c9, c10⟩, f0, f1, f2, f3, f4, f5, f6, f7, f8, f9, f10⟩ := eleven_at (unhide HS1).own
      have hzg := blk_lt (unhide HS1).own
      go_wp2_with fail
      go_meet
      case rel => exact ⟨rfl, ⟨5, 0, ⟨#[]⟩, 0, ⟨0, 0, 0, 0, 0, ⟨#[]⟩, 0⟩⟩, (unhide HS1).far (o' := ⟨5, 0, ⟨#[]⟩, 0, ⟨0, 0, 0, 0, 0, ⟨#[]⟩, 0⟩⟩) (eleven_set_below (Below.refl _ _) (Nat.le_refl _)) (eleven_set (unhide HS1).own), by dsimp only; first | exact hks | decide, by dsimp only; first | exact hks | decide⟩
    · clear hz0 hz1
      go_wp2_with fail
      refine (l01Below c 9 _ (unhide HS1).cur (by omega) (by omega)).mono ?_
      rintro e wp ⟨p, rfl, hp0, hp1, hcx, hkx⟩
      have HS2 := hide ((unhide HS1).draw hcx hkx)
      clear hcx hkx HS1
      go_wp2_with fail
      refine (l01PickInt c wp.heap.size 3 [0, 0, 2] _ (cur_new (unhide HS2).cur _) (by have := (unhide HS2).cur.lt; omega) (by simp) (by simp) (fun i hi => lit_ints wp [0, 0, 2] _ i hi) (by simp)).mono ?_
      rintro e wf ⟨f, rfl, hin, hcx, hkx⟩
      have HS3 := hide (((unhide HS2).new _).draw hcx hkx)
      clear hcx hkx hin HS2
      go_wp2_with fail
      refine (l01Below c (1 + p) _ (unhide HS3).cur (by omega) (by omega)).mono ?_
      rintro e wl ⟨l, rfl, hl0, hl1, hcx, hkx⟩
      have HS4 := hide ((unhide HS3).draw hcx hkx)
      clear hcx hkx HS3
      obtain ⟨⟨c0, c1, c2, c3, c4, c5, c6, c7, c8, c9, c10⟩, f0, f1, f2, f3, f4, f5, f6, f7, f8, f9, f10⟩ := eleven_at (unhide HS4).own
      have hzg := blk_lt (unhide HS4).own
      go_wp2_with fail
      go_meet
      case rel => exact ⟨rfl, ⟨6, 0, ⟨#[]⟩, 0, ⟨1, f, 1, (1 + p), (1 + l), key, (5 + (1 + y))⟩⟩, (unhide HS4).far (o' := ⟨6, 0, ⟨#[]⟩, 0, ⟨1, f, 1, (1 + p), (1 + l), key, (5 + (1 + y))⟩⟩) (eleven_set_below (Below.refl _ _) (Nat.le_refl _)) (eleven_set (unhide HS4).own), by dsimp only; first | exact hks | decide, by dsimp only; first | exact hks | decide⟩
    · clear hz0 hz1
      go_wp2_with fail
      refine (l01PickInt c wz.heap.size 4 [2, 3, 2, 0] _ (cur_new (unhide HS1).cur _) (by have := (unhide HS1).cur.lt; omega) (by simp) (by simp) (fun i hi => lit_ints wz [2, 3, 2, 0] _ i hi) (by simp)).mono ?_
      rintro e wf ⟨f, rfl, hin, hcx, hkx⟩
      have HS2 := hide (((unhide HS1).new _).draw hcx hkx)
      clear hcx hkx hin HS1
      obtain ⟨⟨c0, c1, c2, c3, c4, c5, c6, c7, c8, c9, c10⟩, f0, f1, f2, f3, f4, f5, f6, f7, f8, f9, f10⟩ := eleven_at (unhide HS2).own
      have hzg := blk_lt (unhide HS2).own
      go_wp2_with fail
      go_meet
      case rel => exact ⟨rfl, ⟨6, 0, ⟨#[]⟩, 0, ⟨0, f, 1, 0, 0, key, (1 + y)⟩⟩, (unhide HS2).far (o' := ⟨6, 0, ⟨#[]⟩, 0, ⟨0, f, 1, 0, 0, key, (1 + y)⟩⟩) (eleven_set_below (Below.refl _ _) (Nat.le_refl _)) (eleven_set (unhide HS2).own), by dsimp only; first | exact hks | decide, by dsimp only; first | exact hks | decide⟩
    · clear hz0 hz1
      go_wp2_with fail
      refine (l01PickInt c wz.heap.size 3 [2, 3, 0] _ (cur_new (unhide HS1).cur _) (by have := (unhide HS1).cur.lt; omega) (by simp) (by simp) (fun i hi => lit_ints wz [2, 3, 0] _ i hi) (by simp)).mono ?_
      rintro e wf ⟨f, rfl, hin, hcx, hkx⟩
      have HS2 := hide (((unhide HS1).new _).draw hcx hkx)
      clear hcx hkx hin HS1
      go_wp2_with fail
      refine (l01Below c 4 _ (unhide HS2).cur (by omega) (by omega)).mono ?_
      rintro e wp ⟨p, rfl, hp0, hp1, hcx, hkx⟩
      have HS3 := hide ((unhide HS2).draw hcx hkx)
      clear hcx hkx HS2
      obtain ⟨⟨c0, c1, c2, c3, c4, c5, c6, c7, c8, c9, c10⟩, f0, f1, f2, f3, f4, f5, f6, f7, f8, f9, f10⟩ := eleven_at (unhide HS3).own
      have hzg := blk_lt (unhide HS3).own
      go_wp2_with fail
      go_meet
      case rel => exact ⟨rfl, ⟨6, 0, ⟨#[]⟩, 0, ⟨2, f, 1, (1 + p), 0, ⟨#[]⟩, 0⟩⟩, (unhide HS3).far (o' := ⟨6, 0, ⟨#[]⟩, 0, ⟨2, f, 1, (1 + p), 0, ⟨#[]⟩, 0⟩⟩) (eleven_set_below (Below.refl _ _) (Nat.le_refl _)) (eleven_set (unhide HS3).own), by dsimp only; first | exact hks | decide, by dsimp only; first | exact hks | decide⟩
  case rest =>
  obtain ⟨rfl, ⟨K, no, k, n, ⟨mK, mF, mT, mI, mL, mk, mN⟩⟩, hst, gs, gm⟩ := hcut
  dsimp only at gs gm
  clear HS1 hz0 hz1 hy0 hy1 hn0 hn1 hks
  have HS := hide hst
  clear hst
  go_wp2_with fail
  refine (l01Below c 30 _ (unhide HS).cur (by omega) (by omega)).mono ?_
  rintro e wz2 ⟨z2, rfl, hz20, hz21, hcx, hkx⟩
  have HS1 := hide ((unhide HS).draw hcx hkx)
  clear hcx hkx HS
  go_upto_block 1 with fail
  go_cut [5] (fun p wx => p = .pointer (some ⟨g, 0, none⟩) ∧ ∃ o : Op5, OSt w c g o wx ∧ o.k.size ≤ 20 ∧ o.m.k.size ≤ 20)
  case first =>
    have hzc : z2 = 0 ∨ z2 = 1 ∨ z2 = 2 ∨ z2 = 3 ∨ 4 ≤ z2 := by omega
    rcases hzc with rfl | rfl | rfl | rfl | h4
    · clear hz20 hz21
      go_wp2_with fail
      refine (l01PickInt c wz2.heap.size 3 [-1, 7, 2] _ (cur_new (unhide HS1).cur _) (by have := (unhide HS1).cur.lt; omega) (by simp) (by simp) (fun i hi => lit_ints wz2 [-1, 7, 2] _ i hi) (by simp)).mono ?_
      rintro e wf ⟨f, rfl, hin, hcx, hkx⟩
      have HS2 := hide (((unhide HS1).new _).draw hcx hkx)
      clear hcx hkx hin HS1
      obtain ⟨⟨c0, c1, c2, c3, c4, c5, c6, c7, c8, c9, c10⟩, f0, f1, f2, f3, f4, f5, f6, f7, f8, f9, f10⟩ := eleven_at (unhide HS2).own
      have hzg := blk_lt (unhide HS2).own
      go_wp2_with fail
      go_meet
      case rel => exact ⟨rfl, ⟨f, no, k, n, ⟨mK, mF, mT, mI, mL, mk, mN⟩⟩, (unhide HS2).put 0 (.int .i64 f) rfl, gs, gm⟩
    · clear hz20 hz21
      go_wp2_with fail
      refine (l01PickInt c wz2.heap.size 2 [0, 1000000001] _ (cur_new (unhide HS1).cur _) (by have := (unhide HS1).cur.lt; omega) (by simp) (by simp) (fun i hi => lit_ints wz2 [0, 1000000001] _ i hi) (by simp)).mono ?_
      rintro e wf ⟨f, rfl, hin, hcx, hkx⟩
      have HS2 := hide (((unhide HS1).new _).draw hcx hkx)
      clear hcx hkx hin HS1
      obtain ⟨⟨c0, c1, c2, c3, c4, c5, c6, c7, c8, c9, c10⟩, f0, f1, f2, f3, f4, f5, f6, f7, f8, f9, f10⟩ := eleven_at (unhide HS2).own
      have hzg := blk_lt (unhide HS2).own
      go_wp2_with fail
      go_meet
      case rel => exact ⟨rfl, ⟨K, no, k, f, ⟨mK, mF, mT, mI, mL, mk, mN⟩⟩, (unhide HS2).put 3 (.int .i64 f) rfl, gs, gm⟩
    · clear hz20 hz21

      obtain ⟨⟨c0, c1, c2, c3, c4, c5, c6, c7, c8, c9, c10⟩, f0, f1, f2, f3, f4, f5, f6, f7, f8, f9, f10⟩ := eleven_at (unhide HS1).own
      have hzg := blk_lt (unhide HS1).own
      go_wp2_with fail
      go_meet
      case rel => exact ⟨rfl, ⟨K, no, k, n, ⟨mK, 9, mT, mI, mL, mk, mN⟩⟩, (unhide HS1).put 5 (.int .i64 9) rfl, gs, gm⟩
    · clear hz20 hz21
      go_wp2_with fail
      refine (l01PickInt c wz2.heap.size 3 [0, 1000000001, 1000000000] _ (cur_new (unhide HS1).cur _) (by have := (unhide HS1).cur.lt; omega) (by simp) (by simp) (fun i hi => lit_ints wz2 [0, 1000000001, 1000000000] _ i hi) (by simp)).mono ?_
      rintro e wf ⟨f, rfl, hin, hcx, hkx⟩
      have HS2 := hide (((unhide HS1).new _).draw hcx hkx)
      clear hcx hkx hin HS1
      obtain ⟨⟨c0, c1, c2, c3, c4, c5, c6, c7, c8, c9, c10⟩, f0, f1, f2, f3, f4, f5, f6, f7, f8, f9, f10⟩ := eleven_at (unhide HS2).own
      have hzg := blk_lt (unhide HS2).own
      go_wp2_with fail
      go_meet
      case rel => exact ⟨rfl, ⟨K, f, k, n, ⟨mK, mF, mT, mI, mL, mk, mN⟩⟩, (unhide HS2).put 1 (.int .i64 f) rfl, gs, gm⟩
    · have q0 : (z2 == 0) = false := by simp; omega
      have q1 : (z2 == 1) = false := by simp; omega
      have q2 : (z2 == 2) = false := by simp; omega
      have q3 : (z2 == 3) = false := by simp; omega
      clear hz20 hz21
      go_wp2_with fail
      go_meet
      case rel => exact ⟨rfl, ⟨K, no, k, n, ⟨mK, mF, mT, mI, mL, mk, mN⟩⟩, unhide HS1, gs, gm⟩
  case rest =>
  obtain ⟨rfl, o, hst, gs', gm'⟩ := hcut
  clear HS1 hz20 hz21 gs gm
  obtain ⟨K, no, k, n, ⟨mK, mF, mT, mI, mL, mk, mN⟩⟩ := o
  have HS := hide hst
  clear hst
  have hown : wc.heap[g]? = some (.cells #[.int .i64 K, .int .i64 no, .string k, .int .i64 n, .int .i64 mK, .int .i64 mF, .int .i64 mT, .int .i64 mI, .int .i64 mL, .string mk, .int .i64 mN] 25 (0, 0)) := (unhide HS).own
  obtain ⟨⟨q0, q1, q2, q3, q4, q5, q6, q7, q8, q9, q10⟩, zz⟩ := eleven_at hown
  clear zz hown
  dsimp only at gs' gm'
  have hzg := blk_lt (unhide HS).own
  have hzr := blk_lt (unhide HS).res
  have hgl := (unhide HS).glt
  obtain ⟨⟨d0, d1, d2, d3, d4, d5, d6, d7, d8, d9, d10⟩, f0, f1, f2, f3, f4, f5, f6, f7, f8, f9, f10⟩ := eleven_at (unhide HS).res
  go_wp2_with fail
  refine bodyPost_atE (fun W' hW' => ?_)
  obtain ⟨⟨r0, r1, r2, r3, r4, r5, r6, r7, r8, r9, r10⟩, _⟩ := eleven_at (show W'.heap[w.heap.size]? = some (.cells (opA ⟨K, no, k, n, ⟨mK, mF, mT, mI, mL, mk, mN⟩⟩) 25 (0, 0)) by rw [hW']; exact eleven_set (unhide HS).res)
  have hkk : Keeps c w W' := by
    rw [hW']
    have h := (unhide HS).keep
    have hb := eleven_set_below (b0 := .int .i64 K) (b1 := .int .i64 no) (b2 := .string k) (b3 := .int .i64 n) (b4 := .int .i64 mK) (b5 := .int .i64 mF) (b6 := .int .i64 mT) (b7 := .int .i64 mI) (b8 := .int .i64 mL) (b9 := .string mk) (b10 := .int .i64 mN) (Below.refl w.heap.size wc) (Nat.le_refl w.heap.size)
    exact ⟨hb.os.trans h.os, hb.tape.trans h.tape, hb.output.trans h.output, Nat.le_trans h.size hb.size, fun j j1 j2 => (hb.block j j1).trans (h.block j j1 j2)⟩
  have hcc : Cur W' c := by
    rw [hW']
    exact (unhide HS).cur.below (eleven_set_below (Below.refl w.heap.size wc) (Nat.le_refl w.heap.size)) hcl
  exact bodyPost_ret (v := opw ⟨K, no, k, n, ⟨mK, mF, mT, mI, mL, mk, mN⟩⟩) (by simp [results, Tryz.results33, go_sem, r0, r1, r2, r3, r4, r5, r6, r7, r8, r9, r10]) rfl ⟨⟨K, no, k, n, ⟨mK, mF, mT, mI, mL, mk, mN⟩⟩, rfl, gs', gm', hcc, hkk⟩
end Go.Proofs.YtikdkijggejnfaaGreatDoor
