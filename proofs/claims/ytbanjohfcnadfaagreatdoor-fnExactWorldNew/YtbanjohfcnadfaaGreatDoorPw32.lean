/- Parts. -/
import Derived.Test.YtbanjohfcnadfaaGreatDoorPw31
import Derived.Test.YtbanjohfcnadfaaGreatDoorPw30
import Derived.Test.YtbanjohfcnadfaaGreatDoorPw29
import Derived.Test.YtbanjohfcnadfaaGreatDoorPw9
import Derived.Test.YtbanjohfcnadfaaGreatDoorPw2
import Derived.Deep.RegionHeld
namespace Go.Proofs.YtbanjohfcnadfaaGreatDoor
open Go.RowKit
open Mth

structure Kp where
  base : Nd
  node : Nd
  log : ByteArray
  safe : Int
  wait : List Mg
  asked : List An
structure KA where
  b : Ads
  n : Ads
  wa : Option Addr
  wc : Nat
  aa : Option Addr
  ac : Nat
abbrev kpv (k : Kp) (A : KA) : Value := .agg #[.int .i64 k.base.id, .int .i64 k.base.par, .slice A.b.k k.base.kids.length A.b.ck, .int .i64 k.base.next, .slice A.b.p k.base.pu.length A.b.cp, .slice A.b.o k.base.out.length A.b.co, .slice A.b.s k.base.seen.length A.b.cs, .int .i64 k.base.old, .slice A.b.r k.base.reqs.length A.b.cr, .int .i64 k.node.id, .int .i64 k.node.par, .slice A.n.k k.node.kids.length A.n.ck, .int .i64 k.node.next, .slice A.n.p k.node.pu.length A.n.cp, .slice A.n.o k.node.out.length A.n.co, .slice A.n.s k.node.seen.length A.n.cs, .int .i64 k.node.old, .slice A.n.r k.node.reqs.length A.n.cr, .string k.log, .int .i64 k.safe, .slice A.wa k.wait.length A.wc, .slice A.aa k.asked.length A.ac]
structure KpAt (w : World) (A : KA) (k : Kp) : Prop where
  kb : NodeAt w A.b k.base
  kn : NodeAt w A.n k.node
  kw : GR.At encMg 7 w A.wa k.wait
  ka : GR.At encAn 12 w A.aa k.asked
theorem KpAt.below {w w' : World} {A : KA} {k : Kp} (h : KpAt w A k) (hb : Below w.heap.size w w') : KpAt w' A k := ⟨h.kb.below hb, h.kn.below hb, GR.At.below h.kw hb, GR.At.below h.ka hb⟩
structure KpSz (k : Kp) (z : Nat) : Prop where
  b : NdSz k.base z
  n : NdSz k.node z
  l : k.log.size ≤ z
  w : k.wait.length ≤ z
  a : k.asked.length ≤ z
  wk : ∀ p ∈ k.wait, p.k.size ≤ z
  ak : ∀ p ∈ k.asked, p.o.k.size ≤ z ∧ p.o.m.k.size ≤ z
theorem at22 {w : World} {g : Nat} {v0 v1 v2 v3 v4 v5 v6 v7 v8 v9 v10 v11 v12 v13 v14 v15 v16 v17 v18 v19 v20 v21 : Value} {t : TypeId} (h : w.heap[g]? = some (.cells #[v0, v1, v2, v3, v4, v5, v6, v7, v8, v9, v10, v11, v12, v13, v14, v15, v16, v17, v18, v19, v20, v21] t (0, 0))) : w.cell? ⟨g, 0, none⟩ = some v0 ∧ w.cell? ⟨g, 1, none⟩ = some v1 ∧ w.cell? ⟨g, 2, none⟩ = some v2 ∧ w.cell? ⟨g, 3, none⟩ = some v3 ∧ w.cell? ⟨g, 4, none⟩ = some v4 ∧ w.cell? ⟨g, 5, none⟩ = some v5 ∧ w.cell? ⟨g, 6, none⟩ = some v6 ∧ w.cell? ⟨g, 7, none⟩ = some v7 ∧ w.cell? ⟨g, 8, none⟩ = some v8 ∧ w.cell? ⟨g, 9, none⟩ = some v9 ∧ w.cell? ⟨g, 10, none⟩ = some v10 ∧ w.cell? ⟨g, 11, none⟩ = some v11 ∧ w.cell? ⟨g, 12, none⟩ = some v12 ∧ w.cell? ⟨g, 13, none⟩ = some v13 ∧ w.cell? ⟨g, 14, none⟩ = some v14 ∧ w.cell? ⟨g, 15, none⟩ = some v15 ∧ w.cell? ⟨g, 16, none⟩ = some v16 ∧ w.cell? ⟨g, 17, none⟩ = some v17 ∧ w.cell? ⟨g, 18, none⟩ = some v18 ∧ w.cell? ⟨g, 19, none⟩ = some v19 ∧ w.cell? ⟨g, 20, none⟩ = some v20 ∧ w.cell? ⟨g, 21, none⟩ = some v21 := by
  have hc : ∀ i, w.cell? ⟨g, i, none⟩ = #[v0, v1, v2, v3, v4, v5, v6, v7, v8, v9, v10, v11, v12, v13, v14, v15, v16, v17, v18, v19, v20, v21][i]? := fun i => cell_of_row w g i _ t (0, 0) h
  exact ⟨hc 0, hc 1, hc 2, hc 3, hc 4, hc 5, hc 6, hc 7, hc 8, hc 9, hc 10, hc 11, hc 12, hc 13, hc 14, hc 15, hc 16, hc 17, hc 18, hc 19, hc 20, hc 21⟩
set_option maxRecDepth 100000 in
set_option maxHeartbeats 4000000 in
theorem eqKeeper (k : Kp) (A B : KA) (w : World) (hz : KpSz k 1048576) (ha : KpAt w A k) (hb : KpAt w B k) :
    Calls Tryz.prog 48 #[kpv k A, kpv k B] w fun e w' => e = .returned (.bool true) ∧ Below w.heap.size w w' := by
  have H1 := hide (fun w1 (h : Below w.heap.size w w1) => eqNode k.base A.b B.b w1 (hz.b.mono (by omega)) (ha.below h).kb (hb.below h).kb)
  have H2 := hide (fun w1 (h : Below w.heap.size w w1) => eqNode k.node A.n B.n w1 (hz.n.mono (by omega)) (ha.below h).kn (hb.below h).kn)
  have H3 := hide (fun w1 (h : Below w.heap.size w w1) => eqMsgSW A.wa B.wa A.wc B.wc k.wait w1 (by have := hz.w; omega) (ha.below h).kw (hb.below h).kw)
  have H4 := hide (fun w1 (h : Below w.heap.size w w1) => eqAnswerSW A.aa B.aa A.ac B.ac k.asked w1 (by have := hz.a; omega) (ha.below h).ka (hb.below h).ka)
  have hS : (w.alloc (.cells #[.int .i64 k.base.id, .int .i64 k.base.par, .slice A.b.k k.base.kids.length A.b.ck, .int .i64 k.base.next, .slice A.b.p k.base.pu.length A.b.cp, .slice A.b.o k.base.out.length A.b.co, .slice A.b.s k.base.seen.length A.b.cs, .int .i64 k.base.old, .slice A.b.r k.base.reqs.length A.b.cr, .int .i64 k.node.id, .int .i64 k.node.par, .slice A.n.k k.node.kids.length A.n.ck, .int .i64 k.node.next, .slice A.n.p k.node.pu.length A.n.cp, .slice A.n.o k.node.out.length A.n.co, .slice A.n.s k.node.seen.length A.n.cs, .int .i64 k.node.old, .slice A.n.r k.node.reqs.length A.n.cr, .string k.log, .int .i64 k.safe, .slice A.wa k.wait.length A.wc, .slice A.aa k.asked.length A.ac] 54)).heap.size = w.heap.size + 1 := by simp
  have hA0 := obj_step (heap_alloc_new w (.cells #[.int .i64 k.base.id, .int .i64 k.base.par, .slice A.b.k k.base.kids.length A.b.ck, .int .i64 k.base.next, .slice A.b.p k.base.pu.length A.b.cp, .slice A.b.o k.base.out.length A.b.co, .slice A.b.s k.base.seen.length A.b.cs, .int .i64 k.base.old, .slice A.b.r k.base.reqs.length A.b.cr, .int .i64 k.node.id, .int .i64 k.node.par, .slice A.n.k k.node.kids.length A.n.ck, .int .i64 k.node.next, .slice A.n.p k.node.pu.length A.n.cp, .slice A.n.o k.node.out.length A.n.co, .slice A.n.s k.node.seen.length A.n.cs, .int .i64 k.node.old, .slice A.n.r k.node.reqs.length A.n.cr, .string k.log, .int .i64 k.safe, .slice A.wa k.wait.length A.wc, .slice A.aa k.asked.length A.ac] 54)) (below_one (w.alloc (.cells #[.int .i64 k.base.id, .int .i64 k.base.par, .slice A.b.k k.base.kids.length A.b.ck, .int .i64 k.base.next, .slice A.b.p k.base.pu.length A.b.cp, .slice A.b.o k.base.out.length A.b.co, .slice A.b.s k.base.seen.length A.b.cs, .int .i64 k.base.old, .slice A.b.r k.base.reqs.length A.b.cr, .int .i64 k.node.id, .int .i64 k.node.par, .slice A.n.k k.node.kids.length A.n.ck, .int .i64 k.node.next, .slice A.n.p k.node.pu.length A.n.cp, .slice A.n.o k.node.out.length A.n.co, .slice A.n.s k.node.seen.length A.n.cs, .int .i64 k.node.old, .slice A.n.r k.node.reqs.length A.n.cr, .string k.log, .int .i64 k.safe, .slice A.wa k.wait.length A.wc, .slice A.aa k.asked.length A.ac] 54)) (.cells #[.int .i64 k.base.id, .int .i64 k.base.par, .slice B.b.k k.base.kids.length B.b.ck, .int .i64 k.base.next, .slice B.b.p k.base.pu.length B.b.cp, .slice B.b.o k.base.out.length B.b.co, .slice B.b.s k.base.seen.length B.b.cs, .int .i64 k.base.old, .slice B.b.r k.base.reqs.length B.b.cr, .int .i64 k.node.id, .int .i64 k.node.par, .slice B.n.k k.node.kids.length B.n.ck, .int .i64 k.node.next, .slice B.n.p k.node.pu.length B.n.cp, .slice B.n.o k.node.out.length B.n.co, .slice B.n.s k.node.seen.length B.n.cs, .int .i64 k.node.old, .slice B.n.r k.node.reqs.length B.n.cr, .string k.log, .int .i64 k.safe, .slice B.wa k.wait.length B.wc, .slice B.aa k.asked.length B.ac] 54))
  have hB0 := heap_alloc_new (w.alloc (.cells #[.int .i64 k.base.id, .int .i64 k.base.par, .slice A.b.k k.base.kids.length A.b.ck, .int .i64 k.base.next, .slice A.b.p k.base.pu.length A.b.cp, .slice A.b.o k.base.out.length A.b.co, .slice A.b.s k.base.seen.length A.b.cs, .int .i64 k.base.old, .slice A.b.r k.base.reqs.length A.b.cr, .int .i64 k.node.id, .int .i64 k.node.par, .slice A.n.k k.node.kids.length A.n.ck, .int .i64 k.node.next, .slice A.n.p k.node.pu.length A.n.cp, .slice A.n.o k.node.out.length A.n.co, .slice A.n.s k.node.seen.length A.n.cs, .int .i64 k.node.old, .slice A.n.r k.node.reqs.length A.n.cr, .string k.log, .int .i64 k.safe, .slice A.wa k.wait.length A.wc, .slice A.aa k.asked.length A.ac] 54)) (.cells #[.int .i64 k.base.id, .int .i64 k.base.par, .slice B.b.k k.base.kids.length B.b.ck, .int .i64 k.base.next, .slice B.b.p k.base.pu.length B.b.cp, .slice B.b.o k.base.out.length B.b.co, .slice B.b.s k.base.seen.length B.b.cs, .int .i64 k.base.old, .slice B.b.r k.base.reqs.length B.b.cr, .int .i64 k.node.id, .int .i64 k.node.par, .slice B.n.k k.node.kids.length B.n.ck, .int .i64 k.node.next, .slice B.n.p k.node.pu.length B.n.cp, .slice B.n.o k.node.out.length B.n.co, .slice B.n.s k.node.seen.length B.n.cs, .int .i64 k.node.old, .slice B.n.r k.node.reqs.length B.n.cr, .string k.log, .int .i64 k.safe, .slice B.wa k.wait.length B.wc, .slice B.aa k.asked.length B.ac] 54)
  rw [hS] at hB0
  have HA0 := hide hA0
  have HB0 := hide hB0
  have HL0 := hide ((below_one w (.cells #[.int .i64 k.base.id, .int .i64 k.base.par, .slice A.b.k k.base.kids.length A.b.ck, .int .i64 k.base.next, .slice A.b.p k.base.pu.length A.b.cp, .slice A.b.o k.base.out.length A.b.co, .slice A.b.s k.base.seen.length A.b.cs, .int .i64 k.base.old, .slice A.b.r k.base.reqs.length A.b.cr, .int .i64 k.node.id, .int .i64 k.node.par, .slice A.n.k k.node.kids.length A.n.ck, .int .i64 k.node.next, .slice A.n.p k.node.pu.length A.n.cp, .slice A.n.o k.node.out.length A.n.co, .slice A.n.s k.node.seen.length A.n.cs, .int .i64 k.node.old, .slice A.n.r k.node.reqs.length A.n.cr, .string k.log, .int .i64 k.safe, .slice A.wa k.wait.length A.wc, .slice A.aa k.asked.length A.ac] 54)).trans ((below_one (w.alloc (.cells #[.int .i64 k.base.id, .int .i64 k.base.par, .slice A.b.k k.base.kids.length A.b.ck, .int .i64 k.base.next, .slice A.b.p k.base.pu.length A.b.cp, .slice A.b.o k.base.out.length A.b.co, .slice A.b.s k.base.seen.length A.b.cs, .int .i64 k.base.old, .slice A.b.r k.base.reqs.length A.b.cr, .int .i64 k.node.id, .int .i64 k.node.par, .slice A.n.k k.node.kids.length A.n.ck, .int .i64 k.node.next, .slice A.n.p k.node.pu.length A.n.cp, .slice A.n.o k.node.out.length A.n.co, .slice A.n.s k.node.seen.length A.n.cs, .int .i64 k.node.old, .slice A.n.r k.node.reqs.length A.n.cr, .string k.log, .int .i64 k.safe, .slice A.wa k.wait.length A.wc, .slice A.aa k.asked.length A.ac] 54)) (.cells #[.int .i64 k.base.id, .int .i64 k.base.par, .slice B.b.k k.base.kids.length B.b.ck, .int .i64 k.base.next, .slice B.b.p k.base.pu.length B.b.cp, .slice B.b.o k.base.out.length B.b.co, .slice B.b.s k.base.seen.length B.b.cs, .int .i64 k.base.old, .slice B.b.r k.base.reqs.length B.b.cr, .int .i64 k.node.id, .int .i64 k.node.par, .slice B.n.k k.node.kids.length B.n.ck, .int .i64 k.node.next, .slice B.n.p k.node.pu.length B.n.cp, .slice B.n.o k.node.out.length B.n.co, .slice B.n.s k.node.seen.length B.n.cs, .int .i64 k.node.old, .slice B.n.r k.node.reqs.length B.n.cr, .string k.log, .int .i64 k.safe, .slice B.wa k.wait.length B.wc, .slice B.aa k.asked.length B.ac] 54)).mono (by omega)))
  clear ha hb hz hS hA0 hB0
  obtain ⟨B0, N0, lg, sf, wt, sk⟩ := k
  obtain ⟨AB, AN, wa, wc, aa, ac⟩ := A
  obtain ⟨AB2, AN2, wa2, wc2, aa2, ac2⟩ := B
  dsimp only at H1 H2 H3 H4 HA0 HB0 HL0 ⊢
  go_enter Tryz.func48, Tryz.ntmps48
  obtain ⟨c0, c1, c2, c3, c4, c5, c6, c7, c8, c9, c10, c11, c12, c13, c14, c15, c16, c17, c18, c19, c20, c21⟩ := at22 (unhide HA0)
  obtain ⟨d0, d1, d2, d3, d4, d5, d6, d7, d8, d9, d10, d11, d12, d13, d14, d15, d16, d17, d18, d19, d20, d21⟩ := at22 (unhide HB0)
  go_wp2_with fail
  refine (unhide H1 _ (unhide HL0)).mono ?_
  rintro e w1 ⟨rfl, hb⟩
  have HA1 := hide (obj_step (unhide HA0) hb)
  have HB1 := hide (obj_step (unhide HB0) hb)
  have HL1 := hide ((unhide HL0).trans (hb.mono (unhide HL0).size))
  clear hb c0 c1 c2 c3 c4 c5 c6 c7 c8 c9 c10 c11 c12 c13 c14 c15 c16 c17 c18 c19 c20 c21 d0 d1 d2 d3 d4 d5 d6 d7 d8 d9 d10 d11 d12 d13 d14 d15 d16 d17 d18 d19 d20 d21 HA0 HB0 HL0
  obtain ⟨c0, c1, c2, c3, c4, c5, c6, c7, c8, c9, c10, c11, c12, c13, c14, c15, c16, c17, c18, c19, c20, c21⟩ := at22 (unhide HA1)
  obtain ⟨d0, d1, d2, d3, d4, d5, d6, d7, d8, d9, d10, d11, d12, d13, d14, d15, d16, d17, d18, d19, d20, d21⟩ := at22 (unhide HB1)
  go_wp2_with fail
  refine (unhide H2 _ (unhide HL1)).mono ?_
  rintro e w2 ⟨rfl, hb⟩
  have HA2 := hide (obj_step (unhide HA1) hb)
  have HB2 := hide (obj_step (unhide HB1) hb)
  have HL2 := hide ((unhide HL1).trans (hb.mono (unhide HL1).size))
  clear hb c0 c1 c2 c3 c4 c5 c6 c7 c8 c9 c10 c11 c12 c13 c14 c15 c16 c17 c18 c19 c20 c21 d0 d1 d2 d3 d4 d5 d6 d7 d8 d9 d10 d11 d12 d13 d14 d15 d16 d17 d18 d19 d20 d21 HA1 HB1 HL1
  obtain ⟨c0, c1, c2, c3, c4, c5, c6, c7, c8, c9, c10, c11, c12, c13, c14, c15, c16, c17, c18, c19, c20, c21⟩ := at22 (unhide HA2)
  obtain ⟨d0, d1, d2, d3, d4, d5, d6, d7, d8, d9, d10, d11, d12, d13, d14, d15, d16, d17, d18, d19, d20, d21⟩ := at22 (unhide HB2)
  go_wp2_with fail
  refine (unhide H3 _ (unhide HL2)).mono ?_
  rintro e w3 ⟨rfl, hb⟩
  have HA3 := hide (obj_step (unhide HA2) hb)
  have HB3 := hide (obj_step (unhide HB2) hb)
  have HL3 := hide ((unhide HL2).trans (hb.mono (unhide HL2).size))
  clear hb c0 c1 c2 c3 c4 c5 c6 c7 c8 c9 c10 c11 c12 c13 c14 c15 c16 c17 c18 c19 c20 c21 d0 d1 d2 d3 d4 d5 d6 d7 d8 d9 d10 d11 d12 d13 d14 d15 d16 d17 d18 d19 d20 d21 HA2 HB2 HL2
  obtain ⟨c0, c1, c2, c3, c4, c5, c6, c7, c8, c9, c10, c11, c12, c13, c14, c15, c16, c17, c18, c19, c20, c21⟩ := at22 (unhide HA3)
  obtain ⟨d0, d1, d2, d3, d4, d5, d6, d7, d8, d9, d10, d11, d12, d13, d14, d15, d16, d17, d18, d19, d20, d21⟩ := at22 (unhide HB3)
  go_wp2_with fail
  refine (unhide H4 _ (unhide HL3)).mono ?_
  rintro e w4 ⟨rfl, hb⟩
  have HA4 := hide (obj_step (unhide HA3) hb)
  have HB4 := hide (obj_step (unhide HB3) hb)
  have HL4 := hide ((unhide HL3).trans (hb.mono (unhide HL3).size))
  clear hb c0 c1 c2 c3 c4 c5 c6 c7 c8 c9 c10 c11 c12 c13 c14 c15 c16 c17 c18 c19 c20 c21 d0 d1 d2 d3 d4 d5 d6 d7 d8 d9 d10 d11 d12 d13 d14 d15 d16 d17 d18 d19 d20 d21 HA3 HB3 HL3
  go_wp2_with fail
  go_ret
  exact ⟨rfl, unhide HL4⟩

/-- The node that a new keeper has. -/
def newK (n : Nd) : Nd := if ndOk n then n else zeroNd
abbrev zA : Ads := ⟨none, none, none, none, none, 0, 0, 0, 0, 0⟩
abbrev zG : Blks := ⟨0, 0, 0, 0, 0, fun _ => 0⟩
def GivesS (w : World) (n : Nd) (b : Bool) (e : Ending) (w' : World) : Prop := ∃ S2 S1, e = .returned (.tuple #[.agg (nkc n S2 S1), .bool b]) ∧ NodeAt w' S2 n ∧ NodeAt w' S1 n ∧ Below w.heap.size w w'
def GivesW (w : World) (n : Nd) (b : Bool) (e : Ending) (w' : World) : Prop := ∃ A2 A1 G2 G1, e = .returned (.tuple #[.agg (nkc n A2 A1), .bool b]) ∧ NodeW w' A2 G2 n ∧ NodeW w' A1 G1 n ∧ (G2.all n).Nodup ∧ (G1.all n).Nodup ∧ (∀ x ∈ G2.all n, x ∉ G1.all n) ∧ (∀ x ∈ G2.all n ++ G1.all n, w.heap.size ≤ x) ∧ Below w.heap.size w w'
theorem zero_all : Blks.all zG zeroNd = [] := by simp [Blks.all, zeroNd, fp, fpI]
theorem zero_nd : (Blks.all zG zeroNd).Nodup := by rw [zero_all]; exact List.nodup_nil
theorem GivesL.two {w w' : World} {n : Nd} {e : Ending} (h : GivesL w n e w') : GivesS w (newK n) (ndOk n) e w' := by
  rcases h with ⟨h1, rfl, h3⟩ | ⟨h1, A1, A2, rfl, h3, h4, h5⟩
  · unfold newK
    rw [h1]
    exact ⟨zA, zA, rfl, (NodeW.zero (w := w')).1.at, (NodeW.zero (w := w')).1.at, h3⟩
  · unfold newK
    rw [h1]
    exact ⟨A1, A2, rfl, h3, h4, h5⟩
theorem GivesK.two {w w' : World} {n : Nd} {e : Ending} (h : GivesK w n e w') : GivesW w (newK n) (ndOk n) e w' := by
  rcases h with ⟨h1, rfl, h3⟩ | ⟨h1, A1, A2, m, m2, rfl, h2, h3, ⟨G1, c1, G2, c2, t1, t2, t3, t4⟩, h5⟩
  · unfold newK
    rw [h1]
    refine ⟨zA, zA, zG, zG, rfl, (NodeW.zero (w := w')).1, (NodeW.zero (w := w')).1, zero_nd, zero_nd, fun x hx => absurd (show x ∈ Blks.all zG zeroNd from hx) (by rw [zero_all]; simp), fun x hx => absurd (show x ∈ Blks.all zG zeroNd ++ Blks.all zG zeroNd from hx) (by rw [zero_all]; simp), h3⟩
  · unfold newK
    rw [h1]
    obtain ⟨F1, n1, s1, col1⟩ := t1.full
    obtain ⟨F2, n2, s2, col2⟩ := t3.full
    refine ⟨A2, A1, F2, F1, rfl, n2, n1, s2.nodup, s1.nodup, fun x hx hx1 => ?_, fun x hx => ?_, h5⟩
    · have q2 := (s2.rng x hx).1
      have := t2 x q2
      have := (col1 x hx1).2
      omega
    · rcases List.mem_append.1 hx with hx | hx
      · have := (s2.rng x hx).1; omega
      · exact (s1.rng x hx).1

set_option maxRecDepth 100000 in
set_option maxHeartbeats 8000000 in
theorem specKeeperNewW (n : Nd) (A : Ads) (w : World) (hz : NdSz n 1048576) (ha : NodeAt w A n) : Calls Tryz.prog 16 #[ndv n A] w (GivesW w (newK n) (ndOk n)) := by
  have HOK := hide (fun W (h : Below w.heap.size w W) => specNodeOk n A W (hz.mono (by omega)) (ha.below h))
  have HCP := hide (fun W (h : Below w.heap.size w W) => specCopyNode n A W hz (ha.below h))
  clear hz ha
  go_enter Tryz.func16, Tryz.ntmps16
  go_upto_region 1 with fail
  refine wp_at (fun W0 hW => ?_)
  obtain ⟨e1, e3, e4⟩ : W0.heap[w.heap.size]? = some (.cells (ndc n A) 50 (0, 0)) ∧ W0.heap[w.heap.size + 1]? = some (.cells zk22 54 (0, 0)) ∧ Below w.heap.size w W0 := by
    subst hW
    exact allocsE2 w (.cells (ndc n A) 50) (.cells zk22 54)
  have HN := hide e1
  have HR := hide e3
  have HB := hide e4
  obtain ⟨c0, c1, c2, c3, c4, c5, c6, c7, c8⟩ := nine e1
  clear hW e1 e3 e4
  go_wp2_with fail
  refine (unhide HOK W0 (unhide HB)).mono ?_
  rintro e W2 ⟨rfl, hb2⟩
  have HN2 := hide (obj_step (unhide HN) hb2)
  have HR2 := hide (obj_step (unhide HR) hb2)
  have HB2 := hide (Below.trans (unhide HB) (hb2.mono (unhide HB).size))
  clear hb2 c0 c1 c2 c3 c4 c5 c6 c7 c8 HN HR HB HOK
  cases hok : ndOk n
  · have HO := hide hok
    clear hok
    go_upto_region 2 with fail
    refine wp_region_list ?_
    show wpList _ _ _ [_, _, _] _ _
    refine wpList_plain rfl (fun K hK => ?_)
    go_simp
    refine hK _ _ ?_
    clear hK K
    refine wpList_store_mid rfl 54 (.tmp 2) (.tmp 7) rfl (w.heap.size + 1) 0 zk22 rfl rfl (fun j hj => ⟨blk22 (unhide HR2) hj, obj_free (unhide HR2) _⟩) (by kernel_rfl) (by kernel_rfl) ?_
    have hrg := World.rangeAt_setCells_same W2 (w.heap.size + 1) 0 zk22.toList (fun j hj => ⟨blk22 (unhide HR2) hj, obj_free (unhide HR2) _⟩)
    have hbb := setCells_below (B := w.heap.size) (show w.heap.size ≤ w.heap.size + 1 by omega) zk22.toList w W2 0 (unhide HB2)
    have HRG := hide hrg
    have HBB := hide hbb
    clear hrg hbb
    generalize W2.setCells (w.heap.size + 1) 0 zk22.toList = W3 at *
    go_wp2_with fail
    refine bodyPost_ret (v := .tuple #[.agg zk22, .bool false]) ?_ rfl (by
      unfold newK
      rw [unhide HO]
      exact ⟨zA, zA, zG, zG, rfl, NodeW.zero.1, NodeW.zero.1, zero_nd, zero_nd, fun x hx => absurd (show x ∈ Blks.all zG zeroNd from hx) (by rw [zero_all]; simp), fun x hx => absurd (show x ∈ Blks.all zG zeroNd ++ Blks.all zG zeroNd from hx) (by rw [zero_all]; simp), unhide HBB⟩)
    exact results_two (p := 2) (q := 3) rfl _ W3 (w.heap.size + 1) zk22.toList _ rfl (unhide HRG) Tryz.underlying54 rfl (by kernel_rfl)
  · have HO := hide hok
    clear hok
    obtain ⟨p0, p1, p2, p3, p4, p5, p6, p7, p8⟩ := nine (unhide HN2)
    have y0 := cell_regrown p0
    have y1 := cell_regrown p1
    have y2 := cell_regrown p2
    have y3 := cell_regrown p3
    have y4 := cell_regrown p4
    have y5 := cell_regrown p5
    have y6 := cell_regrown p6
    have y7 := cell_regrown p7
    have y8 := cell_regrown p8
    clear p0 p1 p2 p3 p4 p5 p6 p7 p8
    go_upto_region 3 with fail
    refine wp_region_mixE 5 (by kernel_rfl) ?_
    show wpMixE _ _ _ _ _ 7 (Array.replicate 7 false) _ _
    refine wpMixE_take 0 20 rfl (by kernel_rfl) (by kernel_rfl) (by kernel_rfl) (by kernel_rfl) (by kernel_rfl) (fun _ _ _ _ h => h) (fun K hK => ?_)
    go_simp
    first
      | (refine hK _ ?_; clear hK K)
      | (apply Exists.intro
         refine ⟨fun _ => ?_, hK _ ?_⟩
         (rfl)
         clear hK K)
    refine wpMixE_take 2 20 rfl (by kernel_rfl) (by kernel_rfl) (by kernel_rfl) (by kernel_rfl) (by kernel_rfl) (fun _ _ _ _ h => h) (fun K hK => ?_)
    go_simp
    first
      | (refine hK _ ?_; clear hK K)
      | (apply Exists.intro
         refine ⟨fun _ => ?_, hK _ ?_⟩
         (rfl)
         clear hK K)
    clear y0 y1 y2 y3 y4 y5 y6 y7 y8
    refine wpMixE_one 1 rfl (by kernel_rfl) (by rfl) (fun x1 hx1 => ?_)
    go_simp
    have g1 : Below w.heap.size w x1 := Ge.trans (show Ge w W2 from unhide HB2) hx1
    refine (unhide HCP x1 g1).mono ?_
    rintro e z1 ⟨A1, G1, cc1, rfl, hN1, hy1, _⟩
    refine ⟨hy1, ?_⟩
    have HX1 := hide (show Ge W2 z1 from Ge.trans hx1 hy1)
    obtain ⟨F1, nW1, sep1, _⟩ := hN1.full
    have HN1 := hide nW1
    have HP1 := hide sep1
    have hx1s : W2.heap.size ≤ x1.heap.size := Below.size hx1
    clear hN1 nW1 sep1 hx1 hy1 g1
    refine wpMixE_one 3 rfl (by kernel_rfl) (by rfl) (fun x3 hx3 => ?_)
    go_simp
    have g3 : Below w.heap.size w x3 := Ge.trans (show Ge w W2 from unhide HB2) (Ge.trans (unhide HX1) hx3)
    refine (unhide HCP x3 g3).mono ?_
    rintro e z3 ⟨A2, G2, cc2, rfl, hNN, hy3, _⟩
    refine ⟨hy3, ?_⟩
    have HX3 := hide (show Ge W2 z3 from Ge.trans (unhide HX1) (Ge.trans hx3 hy3))
    have HM1 := hide ((unhide HN1).below (Ge.trans hx3 hy3))
    obtain ⟨F2, nW2, sep2, _⟩ := hNN.full
    have HM2 := hide nW2
    have HP2 := hide sep2
    have hz13 : z1.heap.size ≤ x3.heap.size := Below.size hx3
    have hzx : W2.heap.size ≤ x3.heap.size := Nat.le_trans (Below.size (unhide HX1)) (Below.size hx3)
    clear hNN nW2 sep2 hx3 hy3 g3 HX1 HN1 HCP
    refine wpMixE_take 4 20 rfl (by kernel_rfl) (by kernel_rfl) (by kernel_rfl) (by kernel_rfl) (by kernel_rfl) (fun _ _ _ _ h => h) (fun K hK => ?_)
    go_simp
    first
      | (refine hK _ ?_; clear hK K)
      | (apply Exists.intro
         refine ⟨fun _ => ?_, hK _ ?_⟩
         (rfl)
         clear hK K)
    refine wpMixE_leave (by kernel_rfl) (fun x hx => ?_)
    have HX := hide (show Ge W2 x from Ge.trans (unhide HX3) hx)
    have HM1x := hide ((unhide HM1).below hx)
    have HM2x := hide ((unhide HM2).below hx)
    have HRx := hide (obj_step (unhide HR2) (unhide HX))
    have HBx := hide (show Below w.heap.size w x from Ge.trans (show Ge w W2 from unhide HB2) (unhide HX))
    have hr2 := obj_lt (unhide HR2)
    refine wpAny_one 5 rfl (by kernel_rfl) (by rfl) (wp_store_mid 54 (.tmp 2) (.tmp 12) rfl (w.heap.size + 1) 0 (nkc n A1 A2) rfl rfl (fun j hj => ⟨blk22 (unhide HRx) hj, obj_free (unhide HRx) _⟩) (by kernel_rfl) (by kernel_rfl) ?_)
    have hrg := World.rangeAt_setCells_same x (w.heap.size + 1) 0 (nkc n A1 A2).toList (fun j hj => ⟨blk22 (unhide HRx) hj, obj_free (unhide HRx) _⟩)
    have hbb := setCells_below (B := w.heap.size) (show w.heap.size ≤ w.heap.size + 1 by omega) (nkc n A1 A2).toList w x 0 (unhide HBx)
    have hkp : KeepsL [w.heap.size + 1] x (x.setCells (w.heap.size + 1) 0 (nkc n A1 A2).toList) := setCells_keeps _ _ _ _
    have HQ1 := hide ((unhide HM1x).keeps hkp (fun y hy hm => by have h1 := ((unhide HP1).rng y hy).1; have h2 := List.mem_singleton.1 hm; omega))
    have HQ2 := hide ((unhide HM2x).keeps hkp (fun y hy hm => by have h1 := ((unhide HP2).rng y hy).1; have h2 := List.mem_singleton.1 hm; omega))
    have hww : w.heap.size ≤ W2.heap.size := (unhide HB2).size
    have HRG := hide hrg
    have HBB := hide hbb
    clear hrg hbb hkp HM1x HM2x HRx HBx HX hx HM1 HM2 HX3 HR2 HN2 HB2
    generalize x.setCells (w.heap.size + 1) 0 (nkc n A1 A2).toList = W4 at *
    refine wpAny_one 6 rfl (by kernel_rfl) (by rfl) ?_
    go_simp
    refine wpAny_done (by kernel_rfl) ?_
    go_wp2_with fail
    refine bodyPost_ret (v := .tuple #[.agg (nkc n A1 A2), .bool true]) ?_ rfl (by
      unfold newK
      rw [unhide HO]
      refine ⟨A1, A2, F1, F2, rfl, unhide HQ1, unhide HQ2, (unhide HP1).nodup, (unhide HP2).nodup, fun y hy hy2 => ?_, fun y hy => ?_, unhide HBB⟩
      · have h1 := ((unhide HP1).rng y hy).2
        have h2 := ((unhide HP2).rng y hy2).1
        omega
      · rcases List.mem_append.1 hy with hy | hy
        · have := ((unhide HP1).rng y hy).1; omega
        · have := ((unhide HP2).rng y hy).1; omega)
    exact results_two (p := 2) (q := 3) rfl _ W4 (w.heap.size + 1) (nkc n A1 A2).toList _ rfl (unhide HRG) Tryz.underlying54 rfl (by kernel_rfl)

namespace Mth

/-- Is place i of a list of parents right? -/
def upB (l : List Int) (i : Nat) : Bool := if i = 0 then l[i]?.getD 0 == -1 else decide (0 ≤ l[i]?.getD 0 ∧ l[i]?.getD 0 < i)
def upsB (l : List Int) (k : Nat) : Bool := (List.range k).all (upB l)
def treeB (l : List Int) : Bool := decide (1 ≤ l.length) && decide (l.length ≤ 30) && upsB l l.length
theorem upsB_zero (l : List Int) : upsB l 0 = true := rfl
theorem upsB_succ (l : List Int) (k : Nat) : upsB l (k + 1) = (upsB l k && upB l k) := by simp [upsB, List.range_succ]
theorem upB_zero (l : List Int) (h : 0 < l.length) : upB l 0 = decide (l[0] = -1) := by
  unfold upB; rw [if_pos rfl, List.getElem?_eq_getElem h, Option.getD_some]
  by_cases h : l[0] = -1 <;> simp [h]
theorem upB_pos (l : List Int) (i : Nat) (h0 : 0 < i) (h : i < l.length) : upB l i = decide (0 ≤ l[i] ∧ l[i] < (i : Int)) := by
  unfold upB; rw [if_neg (by omega), List.getElem?_eq_getElem h, Option.getD_some]
theorem upsB_bad (l : List Int) (k n : Nat) (hk : k < n) (h : upB l k = false) : upsB l n = false := by
  cases hc : upsB l n with
  | false => rfl
  | true =>
    unfold upsB at hc
    rw [List.all_eq_true] at hc
    rw [hc k (by simpa using hk)] at h
    cases h
theorem upsB_at (l : List Int) (k n : Nat) (hk : k < n) (h : upsB l n = true) : upB l k = true := by
  unfold upsB at h
  rw [List.all_eq_true] at h
  exact h k (by simpa using hk)
/-- What a right tree is. -/
structure TreeP (l : List Int) : Prop where
  pos : 0 < l.length
  le : l.length ≤ 30
  root : l[0]? = some (-1)
  up : ∀ i (h : i < l.length), 0 < i → 0 ≤ l[i] ∧ l[i] < (i : Int)
theorem TreeP.of {l : List Int} (h : treeB l = true) : TreeP l := by
  unfold treeB at h
  simp only [Bool.and_eq_true, decide_eq_true_eq] at h
  have h0 : 0 < l.length := by omega
  refine ⟨h0, h.1.2, ?_, fun i hi hp => ?_⟩
  · have := upsB_at l 0 _ h0 h.2
    rw [upB_zero l h0, decide_eq_true_eq] at this
    rw [List.getElem?_eq_getElem h0, this]
  · have := upsB_at l i _ hi h.2
    rw [upB_pos l i hp hi, decide_eq_true_eq] at this
    exact this
theorem treeB_len (l : List Int) (h : l.length = 0 ∨ 30 < l.length) : treeB l = false := by
  unfold treeB
  rcases h with h | h
  · rw [decide_eq_false (show ¬ 1 ≤ l.length by omega)]; rfl
  · rw [decide_eq_false (show ¬ l.length ≤ 30 by omega)]; simp
theorem treeB_bad (l : List Int) (k : Nat) (hk : k < l.length) (h : upB l k = false) : treeB l = false := by
  unfold treeB
  rw [upsB_bad l k _ hk h]; simp
theorem treeB_good (l : List Int) (h0 : 1 ≤ l.length) (h1 : l.length ≤ 30) (h : upsB l l.length = true) : treeB l = true := by
  unfold treeB
  rw [h, decide_eq_true h0, decide_eq_true h1]; rfl
theorem treeB_fit (l : List Int) (h : upsB l l.length = true) : treeB l = decide (1 ≤ (l.length : Int) ∧ (l.length : Int) ≤ 30) := by
  unfold treeB
  rw [h, Bool.and_true]
  by_cases h1 : 1 ≤ l.length <;> by_cases h2 : l.length ≤ 30 <;> simp [h1, h2] <;> omega
end Mth
end Go.Proofs.YtbanjohfcnadfaaGreatDoor
