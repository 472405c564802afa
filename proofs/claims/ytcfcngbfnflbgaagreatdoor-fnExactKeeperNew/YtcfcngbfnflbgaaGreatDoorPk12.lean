/- Parts. -/
import Derived.Test.YtcfcngbfnflbgaaGreatDoorPk9
namespace Go.Proofs.YtcfcngbfnflbgaaGreatDoor
open Go.RowKit
open Mth

theorem nine_set {w : World} {g : Nat} {a0 a1 a2 a3 a4 a5 a6 a7 a8 b0 b1 b2 b3 b4 b5 b6 b7 b8 : Value} {t : TypeId} (h : w.heap[g]? = some (.cells #[a0, a1, a2, a3, a4, a5, a6, a7, a8] t (0, 0))) :
    (((((((((w.setCell ⟨g, 0, none⟩ b0).setCell ⟨g, 1, none⟩ b1).setCell ⟨g, 2, none⟩ b2).setCell ⟨g, 3, none⟩ b3).setCell ⟨g, 4, none⟩ b4).setCell ⟨g, 5, none⟩ b5).setCell ⟨g, 6, none⟩ b6).setCell ⟨g, 7, none⟩ b7).setCell ⟨g, 8, none⟩ b8).heap[g]? = some (.cells #[b0, b1, b2, b3, b4, b5, b6, b7, b8] t (0, 0)) := by
  have h0 : (w.setCell ⟨g, 0, none⟩ b0).heap[g]? = some (.cells #[b0, a1, a2, a3, a4, a5, a6, a7, a8] t (0, 0)) := blk_setO h 0 b0
  have h1 : ((w.setCell ⟨g, 0, none⟩ b0).setCell ⟨g, 1, none⟩ b1).heap[g]? = some (.cells #[b0, b1, a2, a3, a4, a5, a6, a7, a8] t (0, 0)) := blk_setO h0 1 b1
  have h2 : (((w.setCell ⟨g, 0, none⟩ b0).setCell ⟨g, 1, none⟩ b1).setCell ⟨g, 2, none⟩ b2).heap[g]? = some (.cells #[b0, b1, b2, a3, a4, a5, a6, a7, a8] t (0, 0)) := blk_setO h1 2 b2
  have h3 : ((((w.setCell ⟨g, 0, none⟩ b0).setCell ⟨g, 1, none⟩ b1).setCell ⟨g, 2, none⟩ b2).setCell ⟨g, 3, none⟩ b3).heap[g]? = some (.cells #[b0, b1, b2, b3, a4, a5, a6, a7, a8] t (0, 0)) := blk_setO h2 3 b3
  have h4 : (((((w.setCell ⟨g, 0, none⟩ b0).setCell ⟨g, 1, none⟩ b1).setCell ⟨g, 2, none⟩ b2).setCell ⟨g, 3, none⟩ b3).setCell ⟨g, 4, none⟩ b4).heap[g]? = some (.cells #[b0, b1, b2, b3, b4, a5, a6, a7, a8] t (0, 0)) := blk_setO h3 4 b4
  have h5 : ((((((w.setCell ⟨g, 0, none⟩ b0).setCell ⟨g, 1, none⟩ b1).setCell ⟨g, 2, none⟩ b2).setCell ⟨g, 3, none⟩ b3).setCell ⟨g, 4, none⟩ b4).setCell ⟨g, 5, none⟩ b5).heap[g]? = some (.cells #[b0, b1, b2, b3, b4, b5, a6, a7, a8] t (0, 0)) := blk_setO h4 5 b5
  have h6 : (((((((w.setCell ⟨g, 0, none⟩ b0).setCell ⟨g, 1, none⟩ b1).setCell ⟨g, 2, none⟩ b2).setCell ⟨g, 3, none⟩ b3).setCell ⟨g, 4, none⟩ b4).setCell ⟨g, 5, none⟩ b5).setCell ⟨g, 6, none⟩ b6).heap[g]? = some (.cells #[b0, b1, b2, b3, b4, b5, b6, a7, a8] t (0, 0)) := blk_setO h5 6 b6
  have h7 : ((((((((w.setCell ⟨g, 0, none⟩ b0).setCell ⟨g, 1, none⟩ b1).setCell ⟨g, 2, none⟩ b2).setCell ⟨g, 3, none⟩ b3).setCell ⟨g, 4, none⟩ b4).setCell ⟨g, 5, none⟩ b5).setCell ⟨g, 6, none⟩ b6).setCell ⟨g, 7, none⟩ b7).heap[g]? = some (.cells #[b0, b1, b2, b3, b4, b5, b6, b7, a8] t (0, 0)) := blk_setO h6 7 b7
  have h8 : (((((((((w.setCell ⟨g, 0, none⟩ b0).setCell ⟨g, 1, none⟩ b1).setCell ⟨g, 2, none⟩ b2).setCell ⟨g, 3, none⟩ b3).setCell ⟨g, 4, none⟩ b4).setCell ⟨g, 5, none⟩ b5).setCell ⟨g, 6, none⟩ b6).setCell ⟨g, 7, none⟩ b7).setCell ⟨g, 8, none⟩ b8).heap[g]? = some (.cells #[b0, b1, b2, b3, b4, b5, b6, b7, b8] t (0, 0)) := blk_setO h7 8 b8
  exact h8
theorem nine_keeps {w : World} {g : Nat} {b0 b1 b2 b3 b4 b5 b6 b7 b8 : Value} : KeepsL [g] w (((((((((w.setCell ⟨g, 0, none⟩ b0).setCell ⟨g, 1, none⟩ b1).setCell ⟨g, 2, none⟩ b2).setCell ⟨g, 3, none⟩ b3).setCell ⟨g, 4, none⟩ b4).setCell ⟨g, 5, none⟩ b5).setCell ⟨g, 6, none⟩ b6).setCell ⟨g, 7, none⟩ b7).setCell ⟨g, 8, none⟩ b8) :=
  ((((((((KeepsL.set b0).trans (KeepsL.set b1)).trans (KeepsL.set b2)).trans (KeepsL.set b3)).trans (KeepsL.set b4)).trans (KeepsL.set b5)).trans (KeepsL.set b6)).trans (KeepsL.set b7)).trans (KeepsL.set b8)
theorem allocs2 (w : World) (a b : Obj) : ((w.alloc a).alloc b).heap[w.heap.size]? = some a ∧ ((w.alloc a).alloc b).heap[w.heap.size + 1]? = some b ∧ Below w.heap.size w ((w.alloc a).alloc b) := by
  have e1 : (w.alloc a).heap.size = w.heap.size + 1 := by simp
  have h1 := heap_alloc_new w a
  have h2 := heap_alloc_new (w.alloc a) b
  rw [e1] at h2
  refine ⟨?_, h2, (below_one w _).alloc (by simp) _⟩
  rw [Below.heap_alloc _ _ _ (by rw [e1]; omega)]
  exact h1
/-- Three blocks and some rows behind them. -/
structure TN (w W : World) (P R O : Obj) (rows : List (Nat × Obj)) : Prop where
  par : W.heap[w.heap.size]? = some P
  res : W.heap[w.heap.size + 1]? = some R
  out : W.heap[w.heap.size + 1 + 1]? = some O
  rows : ∀ x ∈ rows, w.heap.size + 1 + 1 < x.1 ∧ W.heap[x.1]? = some x.2
  bel : Below w.heap.size w W
theorem TN.step {w W W' : World} {P R O : Obj} {rows : List (Nat × Obj)} (h : TN w W P R O rows) (hb : Below W.heap.size W W') : TN w W' P R O rows :=
  ⟨obj_step h.par hb, obj_step h.res hb, obj_step h.out hb, fun x hx => ⟨(h.rows x hx).1, obj_step (h.rows x hx).2 hb⟩, h.bel.trans (hb.mono h.bel.size)⟩
theorem TN.add {w W : World} {P R O : Obj} {rows : List (Nat × Obj)} (h : TN w W P R O rows) (more : List (Nat × Obj)) (hm : ∀ x ∈ more, w.heap.size + 1 + 1 < x.1 ∧ W.heap[x.1]? = some x.2) : TN w W P R O (rows ++ more) :=
  ⟨h.par, h.res, h.out, fun x hx => by rcases List.mem_append.1 hx with hx | hx; exact h.rows x hx; exact hm x hx, h.bel⟩
theorem TN.put {w W : World} {P R : Obj} {cs : Array Value} {t : TypeId} {rows : List (Nat × Obj)} (h : TN w W P R (.cells cs t (0, 0)) rows) (i : Nat) (v : Value) : TN w (W.setCell ⟨w.heap.size + 1 + 1, i, none⟩ v) P R (.cells (cs.setIfInBounds i v) t (0, 0)) rows :=
  ⟨oth_set h.par (by omega), oth_set h.res (by omega), blk_setO h.out i v, fun x hx => ⟨(h.rows x hx).1, oth_set (h.rows x hx).2 (by have := (h.rows x hx).1; omega)⟩, h.bel.setCell (p := ⟨w.heap.size + 1 + 1, i, none⟩) (by show w.heap.size ≤ w.heap.size + 1 + 1; omega) v⟩
/-- The row of what was seen, out of its blocks. -/
theorem SeenW.of {w : World} {g : Nat} {T : List R3} {I : Nat → Nat} {l : List Sn} (hT : r3Blk w g T) (hl : T.length = l.length) (h : ∀ i, i < l.length → T[i]? = some ⟨(l.getD i default).f, (l.getD i default).l, .slice (some ⟨I i, 0, none⟩) (l.getD i default).ids.length (l.getD i default).ids.length⟩ ∧ intBlk w (I i) (l.getD i default).ids) : SeenW w (some ⟨g, 0, none⟩) g I l := by
  refine ⟨T, GR.W.of_blk encR3_length hT, hl, fun i hi => ?_⟩
  have hd : l.getD i default = l[i] := by rw [List.getD_eq_getElem?_getD, List.getElem?_eq_getElem hi]; rfl
  obtain ⟨h1, h2⟩ := h i hi
  rw [hd] at h1 h2
  exact ⟨_, _, h1, GR.W.of_blk encNum_length h2⟩
theorem fpI_asc {I : Nat → Nat} {l : List Sn} (h : ∀ i j, i < j → j < l.length → I i < I j) : (fpI I l).Nodup := by
  have key : ∀ m, m ≤ l.length → ((List.range m).flatMap fun i => fp (I i) (l.getD i default).ids).Nodup := by
    intro m
    induction m with
    | zero => intro _; simp
    | succ m ih =>
      intro hm
      rw [List.range_succ, List.flatMap_append, List.nodup_append]
      refine ⟨ih (by omega), by simpa using fp_nodup _ _, ?_⟩
      intro a ha b hb
      rw [List.mem_flatMap] at ha
      obtain ⟨i, hi, hx⟩ := ha
      have hi' := List.mem_range.1 hi
      have hb' : b ∈ fp (I m) (l.getD m default).ids := by simpa using hb
      rw [(of_fp hx).1, (of_fp hb').1]
      have := h i m hi' (by omega)
      omega
  exact key l.length (Nat.le_refl _)
set_option maxRecDepth 100000 in
set_option maxHeartbeats 4000000 in
theorem toNode (n : Nd) (A : Ads) (w : World) (hz : NdSz n 1048576) (ha : NodeAt w A n) :
    Calls Tryz.prog 6 #[ndv n A] w fun e w' => ∃ A', e = .returned (ndv n A') ∧ ∃ G, NodeW w' A' G n ∧ G.Sep n w.heap.size w'.heap.size ∧ Below w.heap.size w w' := by
  have HZ := hide hz
  have HA := hide ha
  clear ha hz
  have HTK := hide (fun W (hb : Below w.heap.size w W) => toIntS A.k A.ck n.kids W (unhide HZ).k ((unhide HA).below hb).k)
  have HTP := hide (fun W (hb : Below w.heap.size w W) => toPurseS A.p A.cp n.pu W (unhide HZ).p ((unhide HA).below hb).p)
  have HTO := hide (fun W (hb : Below w.heap.size w W) => toSentS A.o A.co n.out W (unhide HZ).o ((unhide HA).below hb).o)
  have HTS := hide (fun W (hb : Below w.heap.size w W) => toSeenS A.s A.cs n.seen W (unhide HZ).s (unhide HZ).sk ((unhide HA).below hb).s)
  have HTR := hide (fun W (hb : Below w.heap.size w W) => toReqS A.r A.cr n.reqs W (unhide HZ).r ((unhide HA).below hb).r)
  clear HA HZ
  obtain ⟨id, par, kids, next, pu, out, seen, old, reqs⟩ := n
  obtain ⟨ak, ap, ao, as', ar, ck, cp, co, cs, cr⟩ := A
  dsimp only at HTK HTP HTO HTS HTR ⊢
  go_enter Tryz.func6, Tryz.ntmps6
  go_upto_region 4 with fail
  refine wp_at (fun W0 hW0 => ?_)
  obtain ⟨hP, hR, hO, hB⟩ := allocs3 w (.cells (ndc ⟨id, par, kids, next, pu, out, seen, old, reqs⟩ ⟨ak, ap, ao, as', ar, ck, cp, co, cs, cr⟩) 28) (.cells #[.int .i64 0, .int .i64 0, .slice none 0 0, .int .i64 0, .slice none 0 0, .slice none 0 0, .slice none 0 0, .int .i64 0, .slice none 0 0] 35) (.cells #[.int .i64 id, .int .i64 par, .slice none 0 0, .int .i64 0, .slice none 0 0, .slice none 0 0, .slice none 0 0, .int .i64 0, .slice none 0 0] 35)
  rw [← hW0] at hP hR hO hB
  have T0 := hide (TN.mk hP hR hO (rows := []) (fun x hx => by cases hx) hB)
  clear hP hR hO hB hW0
  obtain ⟨c0, c1, c2, c3, c4, c5, c6, c7, c8⟩ := nine (unhide T0).par
  go_wp2_with fail
  refine (unhide HTK _ (unhide T0).bel).mono ?_
  rintro e w1 ⟨rfl, hblk, hb⟩
  have hg : w.heap.size + 1 + 1 < W0.heap.size := obj_lt (unhide T0).out
  have U0 := hide (((unhide T0).step hb).add [(W0.heap.size, _)] (fun x hx => by rw [List.mem_singleton] at hx; subst hx; exact ⟨hg, hblk⟩))
  have o0 := obj_lt hblk
  clear hblk hb hg T0
  clear c0 c1 c2 c3 c4 c5 c6 c7 c8
  obtain ⟨c0, c1, c2, c3, c4, c5, c6, c7, c8⟩ := nine (unhide U0).par
  obtain ⟨d0, d1, d2, d3, d4, d5, d6, d7, d8⟩ := nine (unhide U0).out
  have f0 := obj_free (unhide U0).out 0
  have f1 := obj_free (unhide U0).out 1
  have f2 := obj_free (unhide U0).out 2
  have f3 := obj_free (unhide U0).out 3
  have f4 := obj_free (unhide U0).out 4
  have f5 := obj_free (unhide U0).out 5
  have f6 := obj_free (unhide U0).out 6
  have f7 := obj_free (unhide U0).out 7
  have f8 := obj_free (unhide U0).out 8
  go_upto_region 6 with fail
  refine wp_at (fun W1 hW => ?_)
  have T1 := ((unhide U0).put 2 (.slice (some ⟨W0.heap.size, 0, none⟩) kids.length kids.length)).put 3 (.int .i64 next)
  rw [← hW] at T1
  replace T1 := hide T1
  have hz1 : W1.heap.size = w1.heap.size := by rw [hW]; simp [World.setCell]
  rw [← hz1] at o0
  clear d0 d1 d2 d3 d4 d5 d6 d7 d8 f0 f1 f2 f3 f4 f5 f6 f7 f8
  clear c0 c1 c2 c3 c4 c5 c6 c7 c8
  clear hW hz1 U0
  obtain ⟨c0, c1, c2, c3, c4, c5, c6, c7, c8⟩ := nine (unhide T1).par
  go_wp2_with fail
  refine (unhide HTP _ (unhide T1).bel).mono ?_
  rintro e w2 ⟨rfl, hblk, hb⟩
  have hg : w.heap.size + 1 + 1 < W1.heap.size := obj_lt (unhide T1).out
  have U1 := hide (((unhide T1).step hb).add [(W1.heap.size, _)] (fun x hx => by rw [List.mem_singleton] at hx; subst hx; exact ⟨hg, hblk⟩))
  have o1 := obj_lt hblk
  clear hblk hb hg T1
  clear c0 c1 c2 c3 c4 c5 c6 c7 c8
  obtain ⟨c0, c1, c2, c3, c4, c5, c6, c7, c8⟩ := nine (unhide U1).par
  obtain ⟨d0, d1, d2, d3, d4, d5, d6, d7, d8⟩ := nine (unhide U1).out
  have f0 := obj_free (unhide U1).out 0
  have f1 := obj_free (unhide U1).out 1
  have f2 := obj_free (unhide U1).out 2
  have f3 := obj_free (unhide U1).out 3
  have f4 := obj_free (unhide U1).out 4
  have f5 := obj_free (unhide U1).out 5
  have f6 := obj_free (unhide U1).out 6
  have f7 := obj_free (unhide U1).out 7
  have f8 := obj_free (unhide U1).out 8
  go_upto_region 7 with fail
  refine wp_at (fun W2 hW => ?_)
  have T2 := (unhide U1).put 4 (.slice (some ⟨W1.heap.size, 0, none⟩) pu.length pu.length)
  rw [← hW] at T2
  replace T2 := hide T2
  have hz2 : W2.heap.size = w2.heap.size := by rw [hW]; simp [World.setCell]
  rw [← hz2] at o1
  clear d0 d1 d2 d3 d4 d5 d6 d7 d8 f0 f1 f2 f3 f4 f5 f6 f7 f8
  clear c0 c1 c2 c3 c4 c5 c6 c7 c8
  clear hW hz2 U1
  obtain ⟨c0, c1, c2, c3, c4, c5, c6, c7, c8⟩ := nine (unhide T2).par
  go_wp2_with fail
  refine (unhide HTO _ (unhide T2).bel).mono ?_
  rintro e w3 ⟨rfl, hblk, hb⟩
  have hg : w.heap.size + 1 + 1 < W2.heap.size := obj_lt (unhide T2).out
  have U2 := hide (((unhide T2).step hb).add [(W2.heap.size, _)] (fun x hx => by rw [List.mem_singleton] at hx; subst hx; exact ⟨hg, hblk⟩))
  have o2 := obj_lt hblk
  clear hblk hb hg T2
  clear c0 c1 c2 c3 c4 c5 c6 c7 c8
  obtain ⟨c0, c1, c2, c3, c4, c5, c6, c7, c8⟩ := nine (unhide U2).par
  obtain ⟨d0, d1, d2, d3, d4, d5, d6, d7, d8⟩ := nine (unhide U2).out
  have f0 := obj_free (unhide U2).out 0
  have f1 := obj_free (unhide U2).out 1
  have f2 := obj_free (unhide U2).out 2
  have f3 := obj_free (unhide U2).out 3
  have f4 := obj_free (unhide U2).out 4
  have f5 := obj_free (unhide U2).out 5
  have f6 := obj_free (unhide U2).out 6
  have f7 := obj_free (unhide U2).out 7
  have f8 := obj_free (unhide U2).out 8
  go_upto_region 8 with fail
  refine wp_at (fun W3 hW => ?_)
  have T3 := (unhide U2).put 5 (.slice (some ⟨W2.heap.size, 0, none⟩) out.length out.length)
  rw [← hW] at T3
  replace T3 := hide T3
  have hz3 : W3.heap.size = w3.heap.size := by rw [hW]; simp [World.setCell]
  rw [← hz3] at o2
  clear d0 d1 d2 d3 d4 d5 d6 d7 d8 f0 f1 f2 f3 f4 f5 f6 f7 f8
  clear c0 c1 c2 c3 c4 c5 c6 c7 c8
  clear hW hz3 U2
  obtain ⟨c0, c1, c2, c3, c4, c5, c6, c7, c8⟩ := nine (unhide T3).par
  go_wp2_with fail
  refine (unhide HTS _ (unhide T3).bel).mono ?_
  rintro e w4 ⟨rfl, ⟨TT, II, hblk, hTl, hII, hIm⟩, hb⟩
  have hg : w.heap.size + 1 + 1 < W3.heap.size := obj_lt (unhide T3).out
  have HTL := hide hTl
  have HII := hide (fun i hi => (hII i hi).2.2.1)
  have HIM := hide hIm
  have U3 := hide (((unhide T3).step hb).add ((W3.heap.size, .cells (GR.flat encR3 TT).toArray 97 (0, 0)) :: (List.range seen.length).map fun i => (II i, .cells (GR.flat encNum (seen.getD i default).ids).toArray 3 (0, 0))) (fun x hx => by
    rcases List.mem_cons.1 hx with rfl | hx
    · exact ⟨hg, hblk⟩
    · obtain ⟨i, hi, rfl⟩ := List.mem_map.1 hx
      have h := hII i (List.mem_range.1 hi)
      exact ⟨Nat.lt_trans hg h.1, h.2.2.2⟩))
  have o3 : W3.heap.size < w4.heap.size ∧ ∀ i, i < seen.length → W3.heap.size < II i ∧ II i < w4.heap.size := ⟨obj_lt hblk, fun i hi => ⟨(hII i hi).1, (hII i hi).2.1⟩⟩
  clear hblk hb hg hTl hII hIm T3
  clear c0 c1 c2 c3 c4 c5 c6 c7 c8
  obtain ⟨c0, c1, c2, c3, c4, c5, c6, c7, c8⟩ := nine (unhide U3).par
  obtain ⟨d0, d1, d2, d3, d4, d5, d6, d7, d8⟩ := nine (unhide U3).out
  have f0 := obj_free (unhide U3).out 0
  have f1 := obj_free (unhide U3).out 1
  have f2 := obj_free (unhide U3).out 2
  have f3 := obj_free (unhide U3).out 3
  have f4 := obj_free (unhide U3).out 4
  have f5 := obj_free (unhide U3).out 5
  have f6 := obj_free (unhide U3).out 6
  have f7 := obj_free (unhide U3).out 7
  have f8 := obj_free (unhide U3).out 8
  go_upto_region 10 with fail
  refine wp_at (fun W4 hW => ?_)
  have T4 := ((unhide U3).put 6 (.slice (some ⟨W3.heap.size, 0, none⟩) seen.length seen.length)).put 7 (.int .i64 old)
  rw [← hW] at T4
  replace T4 := hide T4
  have hz4 : W4.heap.size = w4.heap.size := by rw [hW]; simp [World.setCell]
  rw [← hz4] at o3
  clear d0 d1 d2 d3 d4 d5 d6 d7 d8 f0 f1 f2 f3 f4 f5 f6 f7 f8
  clear c0 c1 c2 c3 c4 c5 c6 c7 c8
  clear hW hz4 U3
  obtain ⟨c0, c1, c2, c3, c4, c5, c6, c7, c8⟩ := nine (unhide T4).par
  go_wp2_with fail
  refine (unhide HTR _ (unhide T4).bel).mono ?_
  rintro e w5 ⟨rfl, hblk, hb⟩
  have hg : w.heap.size + 1 + 1 < W4.heap.size := obj_lt (unhide T4).out
  have U4 := hide (((unhide T4).step hb).add [(W4.heap.size, _)] (fun x hx => by rw [List.mem_singleton] at hx; subst hx; exact ⟨hg, hblk⟩))
  have o4 := obj_lt hblk
  clear hblk hb hg T4
  clear c0 c1 c2 c3 c4 c5 c6 c7 c8
  obtain ⟨c0, c1, c2, c3, c4, c5, c6, c7, c8⟩ := nine (unhide U4).par
  obtain ⟨d0, d1, d2, d3, d4, d5, d6, d7, d8⟩ := nine (unhide U4).out
  have f0 := obj_free (unhide U4).out 0
  have f1 := obj_free (unhide U4).out 1
  have f2 := obj_free (unhide U4).out 2
  have f3 := obj_free (unhide U4).out 3
  have f4 := obj_free (unhide U4).out 4
  have f5 := obj_free (unhide U4).out 5
  have f6 := obj_free (unhide U4).out 6
  have f7 := obj_free (unhide U4).out 7
  have f8 := obj_free (unhide U4).out 8
  go_upto_region 11 with fail
  refine wp_at (fun W5 hW => ?_)
  have T5 := (unhide U4).put 8 (.slice (some ⟨W4.heap.size, 0, none⟩) reqs.length reqs.length)
  rw [← hW] at T5
  replace T5 := hide T5
  have hz5 : W5.heap.size = w5.heap.size := by rw [hW]; simp [World.setCell]
  rw [← hz5] at o4
  clear d0 d1 d2 d3 d4 d5 d6 d7 d8 f0 f1 f2 f3 f4 f5 f6 f7 f8
  clear c0 c1 c2 c3 c4 c5 c6 c7 c8
  clear hW hz5 U4
  obtain ⟨d0, d1, d2, d3, d4, d5, d6, d7, d8⟩ := nine (show W5.heap[w.heap.size + 1 + 1]? = some (.cells (ndc ⟨id, par, kids, next, pu, out, seen, old, reqs⟩ ⟨some ⟨W0.heap.size, 0, none⟩, some ⟨W1.heap.size, 0, none⟩, some ⟨W2.heap.size, 0, none⟩, some ⟨W3.heap.size, 0, none⟩, some ⟨W4.heap.size, 0, none⟩, kids.length, pu.length, out.length, seen.length, reqs.length⟩) 35 (0, 0)) from (unhide T5).out)
  obtain ⟨r0, r1, r2, r3, r4, r5, r6, r7, r8⟩ := nine (unhide T5).res
  have f0 := obj_free (unhide T5).res 0
  have f1 := obj_free (unhide T5).res 1
  have f2 := obj_free (unhide T5).res 2
  have f3 := obj_free (unhide T5).res 3
  have f4 := obj_free (unhide T5).res 4
  have f5 := obj_free (unhide T5).res 5
  have f6 := obj_free (unhide T5).res 6
  have f7 := obj_free (unhide T5).res 7
  have f8 := obj_free (unhide T5).res 8
  have hlt := obj_lt (unhide T5).res
  go_wp2_with fail
  refine bodyPost_atN (fun W' hW' => ?_)
  have hR := nine_set (b0 := .int .i64 id) (b1 := .int .i64 par) (b2 := .slice (some ⟨W0.heap.size, 0, none⟩) kids.length kids.length) (b3 := .int .i64 next) (b4 := .slice (some ⟨W1.heap.size, 0, none⟩) pu.length pu.length) (b5 := .slice (some ⟨W2.heap.size, 0, none⟩) out.length out.length) (b6 := .slice (some ⟨W3.heap.size, 0, none⟩) seen.length seen.length) (b7 := .int .i64 old) (b8 := .slice (some ⟨W4.heap.size, 0, none⟩) reqs.length reqs.length) (unhide T5).res
  have hK := nine_keeps (w := W5) (g := w.heap.size + 1) (b0 := .int .i64 id) (b1 := .int .i64 par) (b2 := .slice (some ⟨W0.heap.size, 0, none⟩) kids.length kids.length) (b3 := .int .i64 next) (b4 := .slice (some ⟨W1.heap.size, 0, none⟩) pu.length pu.length) (b5 := .slice (some ⟨W2.heap.size, 0, none⟩) out.length out.length) (b6 := .slice (some ⟨W3.heap.size, 0, none⟩) seen.length seen.length) (b7 := .int .i64 old) (b8 := .slice (some ⟨W4.heap.size, 0, none⟩) reqs.length reqs.length)
  rw [← hW'] at hR hK
  clear d0 d1 d2 d3 d4 d5 d6 d7 d8 r0 r1 r2 r3 r4 r5 r6 r7 r8 f0 f1 f2 f3 f4 f5 f6 f7 f8 hW'
  obtain ⟨x0, x1, x2, x3, x4, x5, x6, x7, x8⟩ := nine hR
  have hrow := (unhide T5).rows
  have HBB := (unhide T5).bel.trans (hK.below (B := w.heap.size) (fun x hx => by simp at hx; omega) (unhide T5).bel.size)
  have q0 := hrow _ (List.mem_append_left _ (List.mem_append_left _ (List.mem_append_left _ (List.mem_append_left _ (List.mem_append_right _ (List.mem_singleton.2 rfl))))))
  have q1 := hrow _ (List.mem_append_left _ (List.mem_append_left _ (List.mem_append_left _ (List.mem_append_right _ (List.mem_singleton.2 rfl)))))
  have q2 := hrow _ (List.mem_append_left _ (List.mem_append_left _ (List.mem_append_right _ (List.mem_singleton.2 rfl))))
  have q3 := hrow _ (List.mem_append_left _ (List.mem_append_right _ (List.mem_cons_self ..)))
  have q4 := hrow _ (List.mem_append_right _ (List.mem_singleton.2 rfl))
  have q5 := fun i (hi : i < seen.length) => hrow (II i, _) (List.mem_append_left _ (List.mem_append_right _ (List.mem_cons_of_mem _ (List.mem_map.2 ⟨i, List.mem_range.2 hi, rfl⟩))))
  dsimp only at q0 q1 q2 q3 q4 q5
  obtain ⟨o3, o3i⟩ := o3
  refine bodyPost_ret (v := ndv ⟨id, par, kids, next, pu, out, seen, old, reqs⟩ ⟨some ⟨W0.heap.size, 0, none⟩, some ⟨W1.heap.size, 0, none⟩, some ⟨W2.heap.size, 0, none⟩, some ⟨W3.heap.size, 0, none⟩, some ⟨W4.heap.size, 0, none⟩, kids.length, pu.length, out.length, seen.length, reqs.length⟩) (by simp [results, Tryz.results6, go_sem, x0, x1, x2, x3, x4, x5, x6, x7, x8]) rfl ⟨_, rfl, ⟨W0.heap.size, W1.heap.size, W2.heap.size, W3.heap.size, W4.heap.size, II⟩, ?_, ?_, HBB⟩
  · refine NodeW.keeps (w := W5) (F := [w.heap.size + 1]) ⟨GR.W.of_blk encNum_length q0.2, GR.W.of_blk encP_length q1.2, GR.W.of_blk encSnt_length q2.2, SeenW.of q3.2 (unhide HTL) (fun i hi => ⟨unhide HII i hi, (q5 i hi).2⟩), GR.W.of_blk encRq_length q4.2⟩ hK (fun x hx => ?_)
    have hx' : w.heap.size + 1 + 1 < x := by
      rcases Blks.mem_all.1 hx with h | h | h | h | h | h
      · rw [(of_fp h).1]; exact q0.1
      · rw [(of_fp h).1]; exact q1.1
      · rw [(of_fp h).1]; exact q2.1
      · rw [(of_fp h).1]; exact q3.1
      · obtain ⟨i, hi, rfl, _⟩ := of_fpI h
        exact (q5 i hi).1
      · rw [(of_fp h).1]; exact q4.1
    simp
    omega
  · have hs5 := hK.size
    have o4' := o4
    have hI : ∀ x ∈ fpI II seen, W3.heap.size < x ∧ x < W4.heap.size := fun x hx => by
      obtain ⟨i, hi, rfl, _⟩ := of_fpI hx
      exact o3i i hi
    refine ⟨?_, fun x hx => ?_⟩
    · unfold Blks.all
      dsimp only
      rw [List.nodup_append, List.nodup_append, List.nodup_append, List.nodup_append, List.nodup_append]
      refine ⟨fp_nodup _ _, ⟨fp_nodup _ _, ⟨fp_nodup _ _, ⟨fp_nodup _ _, ⟨fpI_asc (unhide HIM), fp_nodup _ _, ?_⟩, ?_⟩, ?_⟩, ?_⟩, ?_⟩
      all_goals
        intro a ha b hb
        (try simp only [List.mem_append] at hb)
      · have := hI a ha
        rw [(of_fp hb).1]
        omega
      · rw [(of_fp ha).1]
        rcases hb with hb | hb
        · have := hI b hb; omega
        · rw [(of_fp hb).1]; omega
      · rw [(of_fp ha).1]
        rcases hb with hb | hb | hb
        · rw [(of_fp hb).1]; omega
        · have := hI b hb; omega
        · rw [(of_fp hb).1]; omega
      · rw [(of_fp ha).1]
        rcases hb with hb | hb | hb | hb
        · rw [(of_fp hb).1]; omega
        · rw [(of_fp hb).1]; omega
        · have := hI b hb; omega
        · rw [(of_fp hb).1]; omega
      · rw [(of_fp ha).1]
        rcases hb with hb | hb | hb | hb | hb
        · rw [(of_fp hb).1]; omega
        · rw [(of_fp hb).1]; omega
        · rw [(of_fp hb).1]; omega
        · have := hI b hb; omega
        · rw [(of_fp hb).1]; omega
    · have hq := q0.1
      rcases Blks.mem_all.1 hx with h | h | h | h | h | h
      · rw [(of_fp h).1]; dsimp only; omega
      · rw [(of_fp h).1]; dsimp only; omega
      · rw [(of_fp h).1]; dsimp only; omega
      · rw [(of_fp h).1]; dsimp only; omega
      · have := hI x h; omega
      · rw [(of_fp h).1]; dsimp only; omega
set_option maxRecDepth 100000 in
set_option maxHeartbeats 2000000 in
theorem szNode (n : Nd) (A : Ads) (w : World) (hz : NdSz n maxLen) (ha : NodeAt w A n) :
    Calls Tryz.prog 4 #[ndv n A, .int .i64 1048576] w fun e w' => ∃ r : Int, e = .returned (.int .i64 r) ∧ Below w.heap.size w w' ∧ (r = -1 ∨ 0 ≤ r ∧ r ≤ 1048576 ∧ NdSz n 1048576) := by
  have HK := hide (fun z w1 (h0 : 0 ≤ z) (h1 : z ≤ 1048576) => szIntS A.k A.ck n.kids z w1 h0 h1 hz.k)
  have HP := hide (fun z w1 (hb : Below w.heap.size w w1) (h0 : 0 ≤ z) (h1 : z ≤ 1048576) => szPurseSG A.p A.cp n.pu z w1 h0 h1 hz.p hz.pk (ha.below hb).p)
  have HO := hide (fun z w1 (hb : Below w.heap.size w w1) (h0 : 0 ≤ z) (h1 : z ≤ 1048576) => szSentS A.o A.co n.out z w1 h0 h1 hz.o hz.ok (ha.below hb).o)
  have HS := hide (fun z w1 (hb : Below w.heap.size w w1) (h0 : 0 ≤ z) (h1 : z ≤ 1048576) => szSeenS A.s A.cs n.seen z w1 h0 h1 hz.s hz.sk (ha.below hb).s)
  have HR := hide (fun z w1 (hb : Below w.heap.size w w1) (h0 : 0 ≤ z) (h1 : z ≤ 1048576) => szReqS A.r A.cr n.reqs z w1 h0 h1 hz.r hz.rk (ha.below hb).r)
  have HQ : Hid ((n.kids.length ≤ 1048576) → (n.pu.length ≤ 1048576 ∧ ∀ p ∈ n.pu, p.k.size ≤ 1048576) → (n.out.length ≤ 1048576 ∧ ∀ p ∈ n.out, p.k.size ≤ 1048576) → (n.seen.length ≤ 1048576 ∧ ∀ p ∈ n.seen, p.ids.length ≤ 1048576) → (n.reqs.length ≤ 1048576 ∧ ∀ p ∈ n.reqs, p.k.size ≤ 1048576) → NdSz n 1048576) := fun h1 h2 h3 h4 h5 => ⟨h1, h2.1, h3.1, h4.1, h5.1, h2.2, h3.2, h4.2, h5.2⟩
  have HBX := hide (heap_alloc_new w (.cells (ndc n A) 28))
  have hkl := hz.k
  clear ha hz
  generalize NdSz n 1048576 = NZ at *
  obtain ⟨id, par, kids, next, pu, out, seen, old, reqs⟩ := n
  obtain ⟨ak, ap, ao, as', ar, ck, cp, co, cs, cr⟩ := A
  dsimp only at HK HP HO HS HR HQ HBX hkl ⊢
  go_enter Tryz.func4, Tryz.ntmps4
  go_wp2_with fail
  refine (unhide HK _ _ (by omega) (by omega)).mono ?_
  rintro e w0 ⟨rfl, rfl⟩
  have HL0 := hide (below_one w (.cells (ndc ⟨id, par, kids, next, pu, out, seen, old, reqs⟩ ⟨ak, ap, ao, as', ar, ck, cp, co, cs, cr⟩) 28))
  have HB0 := hide (unhide HBX)
  obtain ⟨z0, hz0⟩ : ∃ z : Int, (if (kids.length : Int) ≤ 1048576 then 1048576 - (kids.length : Int) else -1) = z := ⟨_, rfl⟩
  rw [hz0]
  by_cases hk : (kids.length : Int) ≤ 1048576
  case' neg =>
    rw [if_neg hk] at hz0
    subst hz0
    go_wp2_with fail
    go_ret
    exact ⟨-1, rfl, unhide HL0, .inl rfl⟩
  rw [if_pos hk] at hz0
  have q0 : 0 ≤ z0 := by omega
  have q1 : z0 ≤ 1048576 := by omega
  have q2 : decide (z0 < 0) = false := decide_eq_false (by omega)
  clear hz0 HBX
  obtain ⟨c0, c1, c2, c3, c4, c5, c6, c7, c8⟩ := nine (unhide HB0)
  go_wp2_with fail
  refine (unhide HP _ _ (unhide HL0) (by omega) (by omega)).mono ?_
  rintro e w1 ⟨z1, rfl, hb1, hcase⟩
  have HB1 := hide (obj_step (unhide HB0) hb1)
  have HL1 := hide ((unhide HL0).trans (hb1.mono (unhide HL0).size))
  clear hb1 c0 c1 c2 c3 c4 c5 c6 c7 c8
  obtain ⟨c0, c1, c2, c3, c4, c5, c6, c7, c8⟩ := nine (unhide HB1)
  rcases hcase with rfl | ⟨p0, p1, p2, p3⟩
  case' inl =>
    go_wp2_with fail
    go_ret
    exact ⟨-1, rfl, unhide HL1, .inl rfl⟩
  have K1 := hide (And.intro p2 p3)
  have q3 : decide (z1 < 0) = false := decide_eq_false (by omega)
  clear p2 p3
  go_wp2_with fail
  refine (unhide HO _ _ (unhide HL1) (by omega) (by omega)).mono ?_
  rintro e w2 ⟨z2, rfl, hb1, hcase⟩
  have HB2 := hide (obj_step (unhide HB1) hb1)
  have HL2 := hide ((unhide HL1).trans (hb1.mono (unhide HL1).size))
  clear hb1 c0 c1 c2 c3 c4 c5 c6 c7 c8
  obtain ⟨c0, c1, c2, c3, c4, c5, c6, c7, c8⟩ := nine (unhide HB2)
  rcases hcase with rfl | ⟨p0, p1, p2, p3⟩
  case' inl =>
    go_wp2_with fail
    go_ret
    exact ⟨-1, rfl, unhide HL2, .inl rfl⟩
  have K2 := hide (And.intro p2 p3)
  have q4 : decide (z2 < 0) = false := decide_eq_false (by omega)
  clear p2 p3
  go_wp2_with fail
  refine (unhide HS _ _ (unhide HL2) (by omega) (by omega)).mono ?_
  rintro e w3 ⟨z3, rfl, hb1, hcase⟩
  have HB3 := hide (obj_step (unhide HB2) hb1)
  have HL3 := hide ((unhide HL2).trans (hb1.mono (unhide HL2).size))
  clear hb1 c0 c1 c2 c3 c4 c5 c6 c7 c8
  obtain ⟨c0, c1, c2, c3, c4, c5, c6, c7, c8⟩ := nine (unhide HB3)
  rcases hcase with rfl | ⟨p0, p1, p2, p3⟩
  case' inl =>
    go_wp2_with fail
    go_ret
    exact ⟨-1, rfl, unhide HL3, .inl rfl⟩
  have K3 := hide (And.intro p2 p3)
  have q5 : decide (z3 < 0) = false := decide_eq_false (by omega)
  clear p2 p3
  go_wp2_with fail
  refine (unhide HR _ _ (unhide HL3) (by omega) (by omega)).mono ?_
  rintro e w4 ⟨z4, rfl, hb1, hcase⟩
  have HB4 := hide (obj_step (unhide HB3) hb1)
  have HL4 := hide ((unhide HL3).trans (hb1.mono (unhide HL3).size))
  clear hb1 c0 c1 c2 c3 c4 c5 c6 c7 c8
  obtain ⟨c0, c1, c2, c3, c4, c5, c6, c7, c8⟩ := nine (unhide HB4)
  rcases hcase with rfl | ⟨p0, p1, p2, p3⟩
  case' inl =>
    go_wp2_with fail
    go_ret
    exact ⟨-1, rfl, unhide HL4, .inl rfl⟩
  have K4 := hide (And.intro p2 p3)
  have q6 : decide (z4 < 0) = false := decide_eq_false (by omega)
  clear p2 p3
  go_wp2_with fail
  go_ret
  exact ⟨z4, rfl, unhide HL4, .inr ⟨p0, p1, unhide HQ (by omega) (unhide K1) (unhide K2) (unhide K3) (unhide K4)⟩⟩
set_option maxRecDepth 100000 in
set_option maxHeartbeats 2000000 in
theorem eqNode (n : Nd) (A A' : Ads) (w : World) (hz : NdSz n 1048600) (ha : NodeAt w A n) (hb : NodeAt w A' n) :
    Calls Tryz.prog 9 #[ndv n A, ndv n A'] w fun e w' => e = .returned (.bool true) ∧ Below w.heap.size w w' := by
  have HK := hide (fun w1 (h : Below w.heap.size w w1) => eqIntS A.k A'.k A.ck A'.ck n.kids w1 hz.k (ha.below h).k (hb.below h).k)
  have HP := hide (fun w1 (h : Below w.heap.size w w1) => eqPurseS A.p A'.p A.cp A'.cp n.pu w1 hz.p (ha.below h).p (hb.below h).p)
  have HO := hide (fun w1 (h : Below w.heap.size w w1) => eqSentS A.o A'.o A.co A'.co n.out w1 hz.o (ha.below h).o (hb.below h).o)
  have HS := hide (fun w1 (h : Below w.heap.size w w1) => eqSeenS A.s A'.s A.cs A'.cs n.seen w1 hz.s hz.sk (ha.below h).s (hb.below h).s)
  have HR := hide (fun w1 (h : Below w.heap.size w w1) => eqReqS A.r A'.r A.cr A'.cr n.reqs w1 hz.r (ha.below h).r (hb.below h).r)
  obtain ⟨hA0, hB0, hL0⟩ := allocs2 w (.cells (ndc n A) 35) (.cells (ndc n A') 35)
  have HA0 := hide hA0
  have HB0 := hide hB0
  have HL0 := hide hL0
  clear ha hb hz hA0 hB0 hL0
  obtain ⟨id, par, kids, next, pu, out, seen, old, reqs⟩ := n
  obtain ⟨ak, ap, ao, as', ar, ck, cp, co, cs, cr⟩ := A
  obtain ⟨bk, bp, bo, bs', br, dk, dp, dO, ds, dr⟩ := A'
  dsimp only at HK HP HO HS HR HA0 HB0 HL0 ⊢
  go_enter Tryz.func9, Tryz.ntmps9
  obtain ⟨c0, c1, c2, c3, c4, c5, c6, c7, c8⟩ := nine (unhide HA0)
  obtain ⟨d0, d1, d2, d3, d4, d5, d6, d7, d8⟩ := nine (unhide HB0)
  go_wp2_with fail
  refine (unhide HK _ (unhide HL0)).mono ?_
  rintro e w1 ⟨rfl, hb1⟩
  have HA1 := hide (obj_step (unhide HA0) hb1)
  have HB1 := hide (obj_step (unhide HB0) hb1)
  have HL1 := hide ((unhide HL0).trans (hb1.mono (unhide HL0).size))
  clear hb1 c0 c1 c2 c3 c4 c5 c6 c7 c8 d0 d1 d2 d3 d4 d5 d6 d7 d8
  obtain ⟨c0, c1, c2, c3, c4, c5, c6, c7, c8⟩ := nine (unhide HA1)
  obtain ⟨d0, d1, d2, d3, d4, d5, d6, d7, d8⟩ := nine (unhide HB1)
  go_wp2_with fail
  refine (unhide HP _ (unhide HL1)).mono ?_
  rintro e w2 ⟨rfl, hb1⟩
  have HA2 := hide (obj_step (unhide HA1) hb1)
  have HB2 := hide (obj_step (unhide HB1) hb1)
  have HL2 := hide ((unhide HL1).trans (hb1.mono (unhide HL1).size))
  clear hb1 c0 c1 c2 c3 c4 c5 c6 c7 c8 d0 d1 d2 d3 d4 d5 d6 d7 d8
  obtain ⟨c0, c1, c2, c3, c4, c5, c6, c7, c8⟩ := nine (unhide HA2)
  obtain ⟨d0, d1, d2, d3, d4, d5, d6, d7, d8⟩ := nine (unhide HB2)
  go_wp2_with fail
  refine (unhide HO _ (unhide HL2)).mono ?_
  rintro e w3 ⟨rfl, hb1⟩
  have HA3 := hide (obj_step (unhide HA2) hb1)
  have HB3 := hide (obj_step (unhide HB2) hb1)
  have HL3 := hide ((unhide HL2).trans (hb1.mono (unhide HL2).size))
  clear hb1 c0 c1 c2 c3 c4 c5 c6 c7 c8 d0 d1 d2 d3 d4 d5 d6 d7 d8
  obtain ⟨c0, c1, c2, c3, c4, c5, c6, c7, c8⟩ := nine (unhide HA3)
  obtain ⟨d0, d1, d2, d3, d4, d5, d6, d7, d8⟩ := nine (unhide HB3)
  go_wp2_with fail
  refine (unhide HS _ (unhide HL3)).mono ?_
  rintro e w4 ⟨rfl, hb1⟩
  have HA4 := hide (obj_step (unhide HA3) hb1)
  have HB4 := hide (obj_step (unhide HB3) hb1)
  have HL4 := hide ((unhide HL3).trans (hb1.mono (unhide HL3).size))
  clear hb1 c0 c1 c2 c3 c4 c5 c6 c7 c8 d0 d1 d2 d3 d4 d5 d6 d7 d8
  obtain ⟨c0, c1, c2, c3, c4, c5, c6, c7, c8⟩ := nine (unhide HA4)
  obtain ⟨d0, d1, d2, d3, d4, d5, d6, d7, d8⟩ := nine (unhide HB4)
  go_wp2_with fail
  refine (unhide HR _ (unhide HL4)).mono ?_
  rintro e w5 ⟨rfl, hb1⟩
  have HA5 := hide (obj_step (unhide HA4) hb1)
  have HB5 := hide (obj_step (unhide HB4) hb1)
  have HL5 := hide ((unhide HL4).trans (hb1.mono (unhide HL4).size))
  clear hb1 c0 c1 c2 c3 c4 c5 c6 c7 c8 d0 d1 d2 d3 d4 d5 d6 d7 d8
  obtain ⟨c0, c1, c2, c3, c4, c5, c6, c7, c8⟩ := nine (unhide HA5)
  obtain ⟨d0, d1, d2, d3, d4, d5, d6, d7, d8⟩ := nine (unhide HB5)
  go_wp2_with fail
  go_ret
  exact ⟨rfl, unhide HL5⟩
end Go.Proofs.YtcfcngbfnflbgaaGreatDoor
