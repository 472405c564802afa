/- Parts. -/
import Derived.Test.YtgkimogaghgjaaaPk12
import Derived.Test.YtgkimogaghgjaaaPk14
import Derived.Deep.RegionHeld
namespace Go.Proofs.Ytgkimogaghgjaaa
open Go.RowKit
open Mth

set_option maxRecDepth 100000 in
set_option maxHeartbeats 2000000 in
theorem szNodeZ (n : Nd) (A : Ads) (z : Int) (w : World) (g0 : 0 ≤ z) (g1 : z ≤ 1048576) (hz : NdSz n maxLen) (ha : NodeAt w A n) :
    Calls Try.prog 61 #[ndv n A, .int .i64 z] w fun e w' => ∃ r : Int, e = .returned (.int .i64 r) ∧ Below w.heap.size w w' ∧ (r = -1 ∨ 0 ≤ r ∧ r ≤ 1048576 ∧ NdSz n 1048576) := by
  have HK := hide (fun z w1 (h0 : 0 ≤ z) (h1 : z ≤ 1048576) => szIntS A.k A.ck n.kids z w1 h0 h1 hz.k)
  have HP := hide (fun z w1 (hb : Below w.heap.size w w1) (h0 : 0 ≤ z) (h1 : z ≤ 1048576) => szPurseSG A.p A.cp n.pu z w1 h0 h1 hz.p hz.pk (ha.below hb).p)
  have HO := hide (fun z w1 (hb : Below w.heap.size w w1) (h0 : 0 ≤ z) (h1 : z ≤ 1048576) => szSentS A.o A.co n.out z w1 h0 h1 hz.o hz.ok (ha.below hb).o)
  have HS := hide (fun z w1 (hb : Below w.heap.size w w1) (h0 : 0 ≤ z) (h1 : z ≤ 1048576) => szSeenS A.s A.cs n.seen z w1 h0 h1 hz.s hz.sk (ha.below hb).s)
  have HR := hide (fun z w1 (hb : Below w.heap.size w w1) (h0 : 0 ≤ z) (h1 : z ≤ 1048576) => szReqS A.r A.cr n.reqs z w1 h0 h1 hz.r hz.rk (ha.below hb).r)
  have HQ : Hid ((n.kids.length ≤ 1048576) → (n.pu.length ≤ 1048576 ∧ ∀ p ∈ n.pu, p.k.size ≤ 1048576) → (n.out.length ≤ 1048576 ∧ ∀ p ∈ n.out, p.k.size ≤ 1048576) → (n.seen.length ≤ 1048576 ∧ ∀ p ∈ n.seen, p.ids.length ≤ 1048576) → (n.reqs.length ≤ 1048576 ∧ ∀ p ∈ n.reqs, p.k.size ≤ 1048576) → NdSz n 1048576) := fun h1 h2 h3 h4 h5 => ⟨h1, h2.1, h3.1, h4.1, h5.1, h2.2, h3.2, h4.2, h5.2⟩
  have HBX := hide (heap_alloc_new w (.cells (ndc n A) 90))
  have hkl := hz.k
  clear ha hz
  generalize NdSz n 1048576 = NZ at *
  obtain ⟨id, par, kids, next, pu, out, seen, old, reqs⟩ := n
  obtain ⟨ak, ap, ao, as', ar, ck, cp, co, cs, cr⟩ := A
  dsimp only at HK HP HO HS HR HQ HBX hkl ⊢
  go_enter Try.func61, Try.ntmps61
  go_wp2_with fail
  refine (unhide HK _ _ (by omega) (by omega)).mono ?_
  rintro e w0 ⟨rfl, rfl⟩
  have HL0 := hide (below_one w (.cells (ndc ⟨id, par, kids, next, pu, out, seen, old, reqs⟩ ⟨ak, ap, ao, as', ar, ck, cp, co, cs, cr⟩) 90))
  have HB0 := hide (unhide HBX)
  obtain ⟨z0, hz0⟩ : ∃ zz : Int, (if (kids.length : Int) ≤ z then z - (kids.length : Int) else -1) = zz := ⟨_, rfl⟩
  rw [hz0]
  by_cases hk : (kids.length : Int) ≤ z
  case' neg =>
    rw [if_neg hk] at hz0
    subst hz0
    go_wp2_with fail
    go_ret
    exact ⟨-1, rfl, unhide HL0, .inl rfl⟩
  rw [if_pos hk] at hz0
  have q0 : 0 ≤ z0 := by omega
  have q1 : z0 ≤ 1048576 := by omega
  have q2 : decide (z0 < 0) = false := decide_eq_false (by omega)
  clear hz0 HBX
  obtain ⟨c0, c1, c2, c3, c4, c5, c6, c7, c8⟩ := nine (unhide HB0)
  go_wp2_with fail
  refine (unhide HP _ _ (unhide HL0) (by omega) (by omega)).mono ?_
  rintro e w1 ⟨z1, rfl, hb1, hcase⟩
  have HB1 := hide (obj_step (unhide HB0) hb1)
  have HL1 := hide ((unhide HL0).trans (hb1.mono (unhide HL0).size))
  clear hb1 c0 c1 c2 c3 c4 c5 c6 c7 c8
  obtain ⟨c0, c1, c2, c3, c4, c5, c6, c7, c8⟩ := nine (unhide HB1)
  rcases hcase with rfl | ⟨p0, p1, p2, p3⟩
  case' inl =>
    go_wp2_with fail
    go_ret
    exact ⟨-1, rfl, unhide HL1, .inl rfl⟩
  have K1 := hide (And.intro p2 p3)
  have q3 : decide (z1 < 0) = false := decide_eq_false (by omega)
  clear p2 p3
  go_wp2_with fail
  refine (unhide HO _ _ (unhide HL1) (by omega) (by omega)).mono ?_
  rintro e w2 ⟨z2, rfl, hb1, hcase⟩
  have HB2 := hide (obj_step (unhide HB1) hb1)
  have HL2 := hide ((unhide HL1).trans (hb1.mono (unhide HL1).size))
  clear hb1 c0 c1 c2 c3 c4 c5 c6 c7 c8
  obtain ⟨c0, c1, c2, c3, c4, c5, c6, c7, c8⟩ := nine (unhide HB2)
  rcases hcase with rfl | ⟨p0, p1, p2, p3⟩
  case' inl =>
    go_wp2_with fail
    go_ret
    exact ⟨-1, rfl, unhide HL2, .inl rfl⟩
  have K2 := hide (And.intro p2 p3)
  have q4 : decide (z2 < 0) = false := decide_eq_false (by omega)
  clear p2 p3
  go_wp2_with fail
  refine (unhide HS _ _ (unhide HL2) (by omega) (by omega)).mono ?_
  rintro e w3 ⟨z3, rfl, hb1, hcase⟩
  have HB3 := hide (obj_step (unhide HB2) hb1)
  have HL3 := hide ((unhide HL2).trans (hb1.mono (unhide HL2).size))
  clear hb1 c0 c1 c2 c3 c4 c5 c6 c7 c8
  obtain ⟨c0, c1, c2, c3, c4, c5, c6, c7, c8⟩ := nine (unhide HB3)
  rcases hcase with rfl | ⟨p0, p1, p2, p3⟩
  case' inl =>
    go_wp2_with fail
    go_ret
    exact ⟨-1, rfl, unhide HL3, .inl rfl⟩
  have K3 := hide (And.intro p2 p3)
  have q5 : decide (z3 < 0) = false := decide_eq_false (by omega)
  clear p2 p3
  go_wp2_with fail
  refine (unhide HR _ _ (unhide HL3) (by omega) (by omega)).mono ?_
  rintro e w4 ⟨z4, rfl, hb1, hcase⟩
  have HB4 := hide (obj_step (unhide HB3) hb1)
  have HL4 := hide ((unhide HL3).trans (hb1.mono (unhide HL3).size))
  clear hb1 c0 c1 c2 c3 c4 c5 c6 c7 c8
  obtain ⟨c0, c1, c2, c3, c4, c5, c6, c7, c8⟩ := nine (unhide HB4)
  rcases hcase with rfl | ⟨p0, p1, p2, p3⟩
  case' inl =>
    go_wp2_with fail
    go_ret
    exact ⟨-1, rfl, unhide HL4, .inl rfl⟩
  have K4 := hide (And.intro p2 p3)
  have q6 : decide (z4 < 0) = false := decide_eq_false (by omega)
  clear p2 p3
  go_wp2_with fail
  go_ret
  exact ⟨z4, rfl, unhide HL4, .inr ⟨p0, p1, unhide HQ (by omega) (unhide K1) (unhide K2) (unhide K3) (unhide K4)⟩⟩

structure Kp where
  base : Nd
  node : Nd
  log : ByteArray
  safe : Int
  wait : List Mg
  asked : List An
structure KA where
  b : Ads
  n : Ads
  wa : Option Addr
  wc : Nat
  aa : Option Addr
  ac : Nat
abbrev kpv (k : Kp) (A : KA) : Value := .agg #[.int .i64 k.base.id, .int .i64 k.base.par, .slice A.b.k k.base.kids.length A.b.ck, .int .i64 k.base.next, .slice A.b.p k.base.pu.length A.b.cp, .slice A.b.o k.base.out.length A.b.co, .slice A.b.s k.base.seen.length A.b.cs, .int .i64 k.base.old, .slice A.b.r k.base.reqs.length A.b.cr, .int .i64 k.node.id, .int .i64 k.node.par, .slice A.n.k k.node.kids.length A.n.ck, .int .i64 k.node.next, .slice A.n.p k.node.pu.length A.n.cp, .slice A.n.o k.node.out.length A.n.co, .slice A.n.s k.node.seen.length A.n.cs, .int .i64 k.node.old, .slice A.n.r k.node.reqs.length A.n.cr, .string k.log, .int .i64 k.safe, .slice A.wa k.wait.length A.wc, .slice A.aa k.asked.length A.ac]
structure KpAt (w : World) (A : KA) (k : Kp) : Prop where
  kb : NodeAt w A.b k.base
  kn : NodeAt w A.n k.node
  kw : GR.At encMg 7 w A.wa k.wait
  ka : GR.At encAn 12 w A.aa k.asked
theorem KpAt.below {w w' : World} {A : KA} {k : Kp} (h : KpAt w A k) (hb : Below w.heap.size w w') : KpAt w' A k := ⟨h.kb.below hb, h.kn.below hb, GR.At.below h.kw hb, GR.At.below h.ka hb⟩
structure KpSz (k : Kp) (z : Nat) : Prop where
  b : NdSz k.base z
  n : NdSz k.node z
  l : k.log.size ≤ z
  w : k.wait.length ≤ z
  a : k.asked.length ≤ z
  wk : ∀ p ∈ k.wait, p.k.size ≤ z
  ak : ∀ p ∈ k.asked, p.o.k.size ≤ z ∧ p.o.m.k.size ≤ z
theorem at22 {w : World} {g : Nat} {v0 v1 v2 v3 v4 v5 v6 v7 v8 v9 v10 v11 v12 v13 v14 v15 v16 v17 v18 v19 v20 v21 : Value} {t : TypeId} (h : w.heap[g]? = some (.cells #[v0, v1, v2, v3, v4, v5, v6, v7, v8, v9, v10, v11, v12, v13, v14, v15, v16, v17, v18, v19, v20, v21] t (0, 0))) : w.cell? ⟨g, 0, none⟩ = some v0 ∧ w.cell? ⟨g, 1, none⟩ = some v1 ∧ w.cell? ⟨g, 2, none⟩ = some v2 ∧ w.cell? ⟨g, 3, none⟩ = some v3 ∧ w.cell? ⟨g, 4, none⟩ = some v4 ∧ w.cell? ⟨g, 5, none⟩ = some v5 ∧ w.cell? ⟨g, 6, none⟩ = some v6 ∧ w.cell? ⟨g, 7, none⟩ = some v7 ∧ w.cell? ⟨g, 8, none⟩ = some v8 ∧ w.cell? ⟨g, 9, none⟩ = some v9 ∧ w.cell? ⟨g, 10, none⟩ = some v10 ∧ w.cell? ⟨g, 11, none⟩ = some v11 ∧ w.cell? ⟨g, 12, none⟩ = some v12 ∧ w.cell? ⟨g, 13, none⟩ = some v13 ∧ w.cell? ⟨g, 14, none⟩ = some v14 ∧ w.cell? ⟨g, 15, none⟩ = some v15 ∧ w.cell? ⟨g, 16, none⟩ = some v16 ∧ w.cell? ⟨g, 17, none⟩ = some v17 ∧ w.cell? ⟨g, 18, none⟩ = some v18 ∧ w.cell? ⟨g, 19, none⟩ = some v19 ∧ w.cell? ⟨g, 20, none⟩ = some v20 ∧ w.cell? ⟨g, 21, none⟩ = some v21 := by
  have hc : ∀ i, w.cell? ⟨g, i, none⟩ = #[v0, v1, v2, v3, v4, v5, v6, v7, v8, v9, v10, v11, v12, v13, v14, v15, v16, v17, v18, v19, v20, v21][i]? := fun i => cell_of_row w g i _ t (0, 0) h
  exact ⟨hc 0, hc 1, hc 2, hc 3, hc 4, hc 5, hc 6, hc 7, hc 8, hc 9, hc 10, hc 11, hc 12, hc 13, hc 14, hc 15, hc 16, hc 17, hc 18, hc 19, hc 20, hc 21⟩
set_option maxRecDepth 100000 in
set_option maxHeartbeats 4000000 in
theorem szKeeper (k : Kp) (A : KA) (z : Int) (w : World) (g0 : 0 ≤ z) (g1 : z ≤ 1048576) (hz : KpSz k maxLen) (ha : KpAt w A k) :
    Calls Try.prog 41 #[kpv k A, .int .i64 z] w fun e w' => ∃ r : Int, e = .returned (.int .i64 r) ∧ (r = -1 ∨ 0 ≤ r ∧ r ≤ 1048576 ∧ KpSz k 1048576) ∧ Below w.heap.size w w' := by
  have H1 := hide (fun z w1 (hb : Below w.heap.size w w1) (h0 : 0 ≤ z) (h1 : z ≤ 1048576) => szNodeZ k.base A.b z w1 h0 h1 hz.b (ha.below hb).kb)
  have H2 := hide (fun z w1 (hb : Below w.heap.size w w1) (h0 : 0 ≤ z) (h1 : z ≤ 1048576) => szNodeZ k.node A.n z w1 h0 h1 hz.n (ha.below hb).kn)
  have H3 := hide (fun z w1 (hb : Below w.heap.size w w1) (h0 : 0 ≤ z) (h1 : z ≤ 1048576) => szMsgSW A.wa A.wc k.wait z w1 h0 h1 hz.w hz.wk (ha.below hb).kw)
  have H4 := hide (fun z w1 (hb : Below w.heap.size w w1) (h0 : 0 ≤ z) (h1 : z ≤ 1048576) => szAnswerSW A.aa A.ac k.asked z w1 h0 h1 hz.a hz.ak (ha.below hb).ka)
  have HQ : Hid (NdSz k.base 1048576 → NdSz k.node 1048576 → k.log.size ≤ 1048576 → (k.wait.length ≤ 1048576 ∧ ∀ p ∈ k.wait, p.k.size ≤ 1048576) → (k.asked.length ≤ 1048576 ∧ ∀ p ∈ k.asked, p.o.k.size ≤ 1048576 ∧ p.o.m.k.size ≤ 1048576) → KpSz k 1048576) := fun a b c d e => ⟨a, b, c, d.1, e.1, d.2, e.2⟩
  have HB0 := hide (heap_alloc_new w (.cells #[.int .i64 k.base.id, .int .i64 k.base.par, .slice A.b.k k.base.kids.length A.b.ck, .int .i64 k.base.next, .slice A.b.p k.base.pu.length A.b.cp, .slice A.b.o k.base.out.length A.b.co, .slice A.b.s k.base.seen.length A.b.cs, .int .i64 k.base.old, .slice A.b.r k.base.reqs.length A.b.cr, .int .i64 k.node.id, .int .i64 k.node.par, .slice A.n.k k.node.kids.length A.n.ck, .int .i64 k.node.next, .slice A.n.p k.node.pu.length A.n.cp, .slice A.n.o k.node.out.length A.n.co, .slice A.n.s k.node.seen.length A.n.cs, .int .i64 k.node.old, .slice A.n.r k.node.reqs.length A.n.cr, .string k.log, .int .i64 k.safe, .slice A.wa k.wait.length A.wc, .slice A.aa k.asked.length A.ac] 94))
  have HL0 := hide (below_one w (.cells #[.int .i64 k.base.id, .int .i64 k.base.par, .slice A.b.k k.base.kids.length A.b.ck, .int .i64 k.base.next, .slice A.b.p k.base.pu.length A.b.cp, .slice A.b.o k.base.out.length A.b.co, .slice A.b.s k.base.seen.length A.b.cs, .int .i64 k.base.old, .slice A.b.r k.base.reqs.length A.b.cr, .int .i64 k.node.id, .int .i64 k.node.par, .slice A.n.k k.node.kids.length A.n.ck, .int .i64 k.node.next, .slice A.n.p k.node.pu.length A.n.cp, .slice A.n.o k.node.out.length A.n.co, .slice A.n.s k.node.seen.length A.n.cs, .int .i64 k.node.old, .slice A.n.r k.node.reqs.length A.n.cr, .string k.log, .int .i64 k.safe, .slice A.wa k.wait.length A.wc, .slice A.aa k.asked.length A.ac] 94))
  have hll := hz.l
  unfold maxLen at hll
  clear ha hz
  generalize KpSz k 1048576 = KZ at *
  generalize NdSz k.base 1048576 = Z1 at *
  generalize NdSz k.node 1048576 = Z2 at *
  obtain ⟨B0, N0, lg, sf, wt, sk⟩ := k
  obtain ⟨AB, AN, wa, wc, aa, ac⟩ := A
  dsimp only at H1 H2 H3 H4 HQ HB0 HL0 hll ⊢
  obtain ⟨c0, c1, c2, c3, c4, c5, c6, c7, c8, c9, c10, c11, c12, c13, c14, c15, c16, c17, c18, c19, c20, c21⟩ := at22 (unhide HB0)
  go_enter Try.func41, Try.ntmps41
  go_wp2_with fail
  refine (unhide H1 _ _ (unhide HL0) g0 g1).mono ?_
  rintro e w1 ⟨z1, rfl, hb, hcase⟩
  have HB1 := hide (obj_step (unhide HB0) hb)
  have HL1 := hide ((unhide HL0).trans (hb.mono (unhide HL0).size))
  clear hb c0 c1 c2 c3 c4 c5 c6 c7 c8 c9 c10 c11 c12 c13 c14 c15 c16 c17 c18 c19 c20 c21 HB0 HL0
  rcases hcase with rfl | ⟨p0, p1, p2⟩
  case' inl =>
    go_wp2_with fail
    go_ret
    exact ⟨-1, rfl, .inl rfl, unhide HL1⟩
  have K1 := hide p2
  have q1 : decide (z1 < 0) = false := decide_eq_false (by omega)
  clear p2
  obtain ⟨c0, c1, c2, c3, c4, c5, c6, c7, c8, c9, c10, c11, c12, c13, c14, c15, c16, c17, c18, c19, c20, c21⟩ := at22 (unhide HB1)
  go_wp2_with fail
  refine (unhide H2 _ _ (unhide HL1) p0 p1).mono ?_
  rintro e w2 ⟨z2, rfl, hb, hcase⟩
  have HB2 := hide (obj_step (unhide HB1) hb)
  have HL2 := hide ((unhide HL1).trans (hb.mono (unhide HL1).size))
  clear hb c0 c1 c2 c3 c4 c5 c6 c7 c8 c9 c10 c11 c12 c13 c14 c15 c16 c17 c18 c19 c20 c21 HB1 HL1
  rcases hcase with rfl | ⟨r0, r1, p2⟩
  case' inl =>
    go_wp2_with fail
    go_ret
    exact ⟨-1, rfl, .inl rfl, unhide HL2⟩
  have K2 := hide p2
  have q2 : decide (z2 < 0) = false := decide_eq_false (by omega)
  clear p2
  obtain ⟨c0, c1, c2, c3, c4, c5, c6, c7, c8, c9, c10, c11, c12, c13, c14, c15, c16, c17, c18, c19, c20, c21⟩ := at22 (unhide HB2)
  by_cases hlg : (lg.size : Int) ≤ z2
  case' neg =>
    have q3 : z2 - (lg.size : Int) < 0 := by omega
    go_wp2_with fail
    go_ret
    exact ⟨-1, rfl, .inl rfl, unhide HL2⟩
  have q3 : ¬ (z2 - (lg.size : Int) < 0) := by omega
  go_wp2_with fail
  refine (unhide H3 _ _ (unhide HL2) (by omega) (by omega)).mono ?_
  rintro e w3 ⟨z3, rfl, hcase, hb⟩
  have HB3 := hide (obj_step (unhide HB2) hb)
  have HL3 := hide ((unhide HL2).trans (hb.mono (unhide HL2).size))
  clear hb c0 c1 c2 c3 c4 c5 c6 c7 c8 c9 c10 c11 c12 c13 c14 c15 c16 c17 c18 c19 c20 c21 HB2 HL2
  rcases hcase with rfl | ⟨s0, s1, s2, s3⟩
  case' inl =>
    go_wp2_with fail
    go_ret
    exact ⟨-1, rfl, .inl rfl, unhide HL3⟩
  have K3 := hide (And.intro s2 s3)
  have q4 : decide (z3 < 0) = false := decide_eq_false (by omega)
  clear s2 s3
  obtain ⟨c0, c1, c2, c3, c4, c5, c6, c7, c8, c9, c10, c11, c12, c13, c14, c15, c16, c17, c18, c19, c20, c21⟩ := at22 (unhide HB3)
  go_wp2_with fail
  refine (unhide H4 _ _ (unhide HL3) (by omega) (by omega)).mono ?_
  rintro e w4 ⟨z4, rfl, hcase, hb⟩
  have HL4 := hide ((unhide HL3).trans (hb.mono (unhide HL3).size))
  clear hb c0 c1 c2 c3 c4 c5 c6 c7 c8 c9 c10 c11 c12 c13 c14 c15 c16 c17 c18 c19 c20 c21 HB3 HL3
  rcases hcase with rfl | ⟨t0, t1, t2, t3⟩
  case' inl =>
    go_wp2_with fail
    go_ret
    exact ⟨-1, rfl, .inl rfl, unhide HL4⟩
  have K4 := hide (And.intro t2 t3)
  have q5 : decide (z4 < 0) = false := decide_eq_false (by omega)
  clear t2 t3
  go_wp2_with fail
  go_ret
  exact ⟨z4, rfl, .inr ⟨t0, by omega, unhide HQ (unhide K1) (unhide K2) (by omega) (unhide K3) (unhide K4)⟩, unhide HL4⟩
set_option maxRecDepth 100000 in
set_option maxHeartbeats 4000000 in
theorem eqKeeper (k : Kp) (A B : KA) (w : World) (hz : KpSz k 1048576) (ha : KpAt w A k) (hb : KpAt w B k) :
    Calls Try.prog 49 #[kpv k A, kpv k B] w fun e w' => e = .returned (.bool true) ∧ Below w.heap.size w w' := by
  have H1 := hide (fun w1 (h : Below w.heap.size w w1) => eqNode k.base A.b B.b w1 (hz.b.mono (by omega)) (ha.below h).kb (hb.below h).kb)
  have H2 := hide (fun w1 (h : Below w.heap.size w w1) => eqNode k.node A.n B.n w1 (hz.n.mono (by omega)) (ha.below h).kn (hb.below h).kn)
  have H3 := hide (fun w1 (h : Below w.heap.size w w1) => eqMsgSW A.wa B.wa A.wc B.wc k.wait w1 (by have := hz.w; omega) (ha.below h).kw (hb.below h).kw)
  have H4 := hide (fun w1 (h : Below w.heap.size w w1) => eqAnswerSW A.aa B.aa A.ac B.ac k.asked w1 (by have := hz.a; omega) (ha.below h).ka (hb.below h).ka)
  have hS : (w.alloc (.cells #[.int .i64 k.base.id, .int .i64 k.base.par, .slice A.b.k k.base.kids.length A.b.ck, .int .i64 k.base.next, .slice A.b.p k.base.pu.length A.b.cp, .slice A.b.o k.base.out.length A.b.co, .slice A.b.s k.base.seen.length A.b.cs, .int .i64 k.base.old, .slice A.b.r k.base.reqs.length A.b.cr, .int .i64 k.node.id, .int .i64 k.node.par, .slice A.n.k k.node.kids.length A.n.ck, .int .i64 k.node.next, .slice A.n.p k.node.pu.length A.n.cp, .slice A.n.o k.node.out.length A.n.co, .slice A.n.s k.node.seen.length A.n.cs, .int .i64 k.node.old, .slice A.n.r k.node.reqs.length A.n.cr, .string k.log, .int .i64 k.safe, .slice A.wa k.wait.length A.wc, .slice A.aa k.asked.length A.ac] 63)).heap.size = w.heap.size + 1 := by simp
  have hA0 := obj_step (heap_alloc_new w (.cells #[.int .i64 k.base.id, .int .i64 k.base.par, .slice A.b.k k.base.kids.length A.b.ck, .int .i64 k.base.next, .slice A.b.p k.base.pu.length A.b.cp, .slice A.b.o k.base.out.length A.b.co, .slice A.b.s k.base.seen.length A.b.cs, .int .i64 k.base.old, .slice A.b.r k.base.reqs.length A.b.cr, .int .i64 k.node.id, .int .i64 k.node.par, .slice A.n.k k.node.kids.length A.n.ck, .int .i64 k.node.next, .slice A.n.p k.node.pu.length A.n.cp, .slice A.n.o k.node.out.length A.n.co, .slice A.n.s k.node.seen.length A.n.cs, .int .i64 k.node.old, .slice A.n.r k.node.reqs.length A.n.cr, .string k.log, .int .i64 k.safe, .slice A.wa k.wait.length A.wc, .slice A.aa k.asked.length A.ac] 63)) (below_one (w.alloc (.cells #[.int .i64 k.base.id, .int .i64 k.base.par, .slice A.b.k k.base.kids.length A.b.ck, .int .i64 k.base.next, .slice A.b.p k.base.pu.length A.b.cp, .slice A.b.o k.base.out.length A.b.co, .slice A.b.s k.base.seen.length A.b.cs, .int .i64 k.base.old, .slice A.b.r k.base.reqs.length A.b.cr, .int .i64 k.node.id, .int .i64 k.node.par, .slice A.n.k k.node.kids.length A.n.ck, .int .i64 k.node.next, .slice A.n.p k.node.pu.length A.n.cp, .slice A.n.o k.node.out.length A.n.co, .slice A.n.s k.node.seen.length A.n.cs, .int .i64 k.node.old, .slice A.n.r k.node.reqs.length A.n.cr, .string k.log, .int .i64 k.safe, .slice A.wa k.wait.length A.wc, .slice A.aa k.asked.length A.ac] 63)) (.cells #[.int .i64 k.base.id, .int .i64 k.base.par, .slice B.b.k k.base.kids.length B.b.ck, .int .i64 k.base.next, .slice B.b.p k.base.pu.length B.b.cp, .slice B.b.o k.base.out.length B.b.co, .slice B.b.s k.base.seen.length B.b.cs, .int .i64 k.base.old, .slice B.b.r k.base.reqs.length B.b.cr, .int .i64 k.node.id, .int .i64 k.node.par, .slice B.n.k k.node.kids.length B.n.ck, .int .i64 k.node.next, .slice B.n.p k.node.pu.length B.n.cp, .slice B.n.o k.node.out.length B.n.co, .slice B.n.s k.node.seen.length B.n.cs, .int .i64 k.node.old, .slice B.n.r k.node.reqs.length B.n.cr, .string k.log, .int .i64 k.safe, .slice B.wa k.wait.length B.wc, .slice B.aa k.asked.length B.ac] 63))
  have hB0 := heap_alloc_new (w.alloc (.cells #[.int .i64 k.base.id, .int .i64 k.base.par, .slice A.b.k k.base.kids.length A.b.ck, .int .i64 k.base.next, .slice A.b.p k.base.pu.length A.b.cp, .slice A.b.o k.base.out.length A.b.co, .slice A.b.s k.base.seen.length A.b.cs, .int .i64 k.base.old, .slice A.b.r k.base.reqs.length A.b.cr, .int .i64 k.node.id, .int .i64 k.node.par, .slice A.n.k k.node.kids.length A.n.ck, .int .i64 k.node.next, .slice A.n.p k.node.pu.length A.n.cp, .slice A.n.o k.node.out.length A.n.co, .slice A.n.s k.node.seen.length A.n.cs, .int .i64 k.node.old, .slice A.n.r k.node.reqs.length A.n.cr, .string k.log, .int .i64 k.safe, .slice A.wa k.wait.length A.wc, .slice A.aa k.asked.length A.ac] 63)) (.cells #[.int .i64 k.base.id, .int .i64 k.base.par, .slice B.b.k k.base.kids.length B.b.ck, .int .i64 k.base.next, .slice B.b.p k.base.pu.length B.b.cp, .slice B.b.o k.base.out.length B.b.co, .slice B.b.s k.base.seen.length B.b.cs, .int .i64 k.base.old, .slice B.b.r k.base.reqs.length B.b.cr, .int .i64 k.node.id, .int .i64 k.node.par, .slice B.n.k k.node.kids.length B.n.ck, .int .i64 k.node.next, .slice B.n.p k.node.pu.length B.n.cp, .slice B.n.o k.node.out.length B.n.co, .slice B.n.s k.node.seen.length B.n.cs, .int .i64 k.node.old, .slice B.n.r k.node.reqs.length B.n.cr, .string k.log, .int .i64 k.safe, .slice B.wa k.wait.length B.wc, .slice B.aa k.asked.length B.ac] 63)
  rw [hS] at hB0
  have HA0 := hide hA0
  have HB0 := hide hB0
  have HL0 := hide ((below_one w (.cells #[.int .i64 k.base.id, .int .i64 k.base.par, .slice A.b.k k.base.kids.length A.b.ck, .int .i64 k.base.next, .slice A.b.p k.base.pu.length A.b.cp, .slice A.b.o k.base.out.length A.b.co, .slice A.b.s k.base.seen.length A.b.cs, .int .i64 k.base.old, .slice A.b.r k.base.reqs.length A.b.cr, .int .i64 k.node.id, .int .i64 k.node.par, .slice A.n.k k.node.kids.length A.n.ck, .int .i64 k.node.next, .slice A.n.p k.node.pu.length A.n.cp, .slice A.n.o k.node.out.length A.n.co, .slice A.n.s k.node.seen.length A.n.cs, .int .i64 k.node.old, .slice A.n.r k.node.reqs.length A.n.cr, .string k.log, .int .i64 k.safe, .slice A.wa k.wait.length A.wc, .slice A.aa k.asked.length A.ac] 63)).trans ((below_one (w.alloc (.cells #[.int .i64 k.base.id, .int .i64 k.base.par, .slice A.b.k k.base.kids.length A.b.ck, .int .i64 k.base.next, .slice A.b.p k.base.pu.length A.b.cp, .slice A.b.o k.base.out.length A.b.co, .slice A.b.s k.base.seen.length A.b.cs, .int .i64 k.base.old, .slice A.b.r k.base.reqs.length A.b.cr, .int .i64 k.node.id, .int .i64 k.node.par, .slice A.n.k k.node.kids.length A.n.ck, .int .i64 k.node.next, .slice A.n.p k.node.pu.length A.n.cp, .slice A.n.o k.node.out.length A.n.co, .slice A.n.s k.node.seen.length A.n.cs, .int .i64 k.node.old, .slice A.n.r k.node.reqs.length A.n.cr, .string k.log, .int .i64 k.safe, .slice A.wa k.wait.length A.wc, .slice A.aa k.asked.length A.ac] 63)) (.cells #[.int .i64 k.base.id, .int .i64 k.base.par, .slice B.b.k k.base.kids.length B.b.ck, .int .i64 k.base.next, .slice B.b.p k.base.pu.length B.b.cp, .slice B.b.o k.base.out.length B.b.co, .slice B.b.s k.base.seen.length B.b.cs, .int .i64 k.base.old, .slice B.b.r k.base.reqs.length B.b.cr, .int .i64 k.node.id, .int .i64 k.node.par, .slice B.n.k k.node.kids.length B.n.ck, .int .i64 k.node.next, .slice B.n.p k.node.pu.length B.n.cp, .slice B.n.o k.node.out.length B.n.co, .slice B.n.s k.node.seen.length B.n.cs, .int .i64 k.node.old, .slice B.n.r k.node.reqs.length B.n.cr, .string k.log, .int .i64 k.safe, .slice B.wa k.wait.length B.wc, .slice B.aa k.asked.length B.ac] 63)).mono (by omega)))
  clear ha hb hz hS hA0 hB0
  obtain ⟨B0, N0, lg, sf, wt, sk⟩ := k
  obtain ⟨AB, AN, wa, wc, aa, ac⟩ := A
  obtain ⟨AB2, AN2, wa2, wc2, aa2, ac2⟩ := B
  dsimp only at H1 H2 H3 H4 HA0 HB0 HL0 ⊢
  go_enter Try.func49, Try.ntmps49
  obtain ⟨c0, c1, c2, c3, c4, c5, c6, c7, c8, c9, c10, c11, c12, c13, c14, c15, c16, c17, c18, c19, c20, c21⟩ := at22 (unhide HA0)
  obtain ⟨d0, d1, d2, d3, d4, d5, d6, d7, d8, d9, d10, d11, d12, d13, d14, d15, d16, d17, d18, d19, d20, d21⟩ := at22 (unhide HB0)
  go_wp2_with fail
  refine (unhide H1 _ (unhide HL0)).mono ?_
  rintro e w1 ⟨rfl, hb⟩
  have HA1 := hide (obj_step (unhide HA0) hb)
  have HB1 := hide (obj_step (unhide HB0) hb)
  have HL1 := hide ((unhide HL0).trans (hb.mono (unhide HL0).size))
  clear hb c0 c1 c2 c3 c4 c5 c6 c7 c8 c9 c10 c11 c12 c13 c14 c15 c16 c17 c18 c19 c20 c21 d0 d1 d2 d3 d4 d5 d6 d7 d8 d9 d10 d11 d12 d13 d14 d15 d16 d17 d18 d19 d20 d21 HA0 HB0 HL0
  obtain ⟨c0, c1, c2, c3, c4, c5, c6, c7, c8, c9, c10, c11, c12, c13, c14, c15, c16, c17, c18, c19, c20, c21⟩ := at22 (unhide HA1)
  obtain ⟨d0, d1, d2, d3, d4, d5, d6, d7, d8, d9, d10, d11, d12, d13, d14, d15, d16, d17, d18, d19, d20, d21⟩ := at22 (unhide HB1)
  go_wp2_with fail
  refine (unhide H2 _ (unhide HL1)).mono ?_
  rintro e w2 ⟨rfl, hb⟩
  have HA2 := hide (obj_step (unhide HA1) hb)
  have HB2 := hide (obj_step (unhide HB1) hb)
  have HL2 := hide ((unhide HL1).trans (hb.mono (unhide HL1).size))
  clear hb c0 c1 c2 c3 c4 c5 c6 c7 c8 c9 c10 c11 c12 c13 c14 c15 c16 c17 c18 c19 c20 c21 d0 d1 d2 d3 d4 d5 d6 d7 d8 d9 d10 d11 d12 d13 d14 d15 d16 d17 d18 d19 d20 d21 HA1 HB1 HL1
  obtain ⟨c0, c1, c2, c3, c4, c5, c6, c7, c8, c9, c10, c11, c12, c13, c14, c15, c16, c17, c18, c19, c20, c21⟩ := at22 (unhide HA2)
  obtain ⟨d0, d1, d2, d3, d4, d5, d6, d7, d8, d9, d10, d11, d12, d13, d14, d15, d16, d17, d18, d19, d20, d21⟩ := at22 (unhide HB2)
  go_wp2_with fail
  refine (unhide H3 _ (unhide HL2)).mono ?_
  rintro e w3 ⟨rfl, hb⟩
  have HA3 := hide (obj_step (unhide HA2) hb)
  have HB3 := hide (obj_step (unhide HB2) hb)
  have HL3 := hide ((unhide HL2).trans (hb.mono (unhide HL2).size))
  clear hb c0 c1 c2 c3 c4 c5 c6 c7 c8 c9 c10 c11 c12 c13 c14 c15 c16 c17 c18 c19 c20 c21 d0 d1 d2 d3 d4 d5 d6 d7 d8 d9 d10 d11 d12 d13 d14 d15 d16 d17 d18 d19 d20 d21 HA2 HB2 HL2
  obtain ⟨c0, c1, c2, c3, c4, c5, c6, c7, c8, c9, c10, c11, c12, c13, c14, c15, c16, c17, c18, c19, c20, c21⟩ := at22 (unhide HA3)
  obtain ⟨d0, d1, d2, d3, d4, d5, d6, d7, d8, d9, d10, d11, d12, d13, d14, d15, d16, d17, d18, d19, d20, d21⟩ := at22 (unhide HB3)
  go_wp2_with fail
  refine (unhide H4 _ (unhide HL3)).mono ?_
  rintro e w4 ⟨rfl, hb⟩
  have HA4 := hide (obj_step (unhide HA3) hb)
  have HB4 := hide (obj_step (unhide HB3) hb)
  have HL4 := hide ((unhide HL3).trans (hb.mono (unhide HL3).size))
  clear hb c0 c1 c2 c3 c4 c5 c6 c7 c8 c9 c10 c11 c12 c13 c14 c15 c16 c17 c18 c19 c20 c21 d0 d1 d2 d3 d4 d5 d6 d7 d8 d9 d10 d11 d12 d13 d14 d15 d16 d17 d18 d19 d20 d21 HA3 HB3 HL3
  go_wp2_with fail
  go_ret
  exact ⟨rfl, unhide HL4⟩
end Go.Proofs.Ytgkimogaghgjaaa
