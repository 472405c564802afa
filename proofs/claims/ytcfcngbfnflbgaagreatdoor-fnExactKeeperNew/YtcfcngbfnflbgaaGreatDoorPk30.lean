/- Parts. -/
import Derived.Test.YtcfcngbfnflbgaaGreatDoorPk28
import Derived.Test.YtcfcngbfnflbgaaGreatDoorPk29
import Derived.Test.YtcfcngbfnflbgaaGreatDoorPk10
import Derived.Test.YtcfcngbfnflbgaaGreatDoorPk15
import Derived.Test.YtcfcngbfnflbgaaGreatDoorPk16
namespace Go.Proofs.YtcfcngbfnflbgaaGreatDoor
open Go.RowKit
open Mth

/-- What the model's KeeperNew answers. -/
def GivesL (w : World) (n : Nd) (e : Ending) (w' : World) : Prop :=
  (ndOk n = false ∧ e = .returned (.tuple #[.agg zk22, .bool false]) ∧ Below w.heap.size w w') ∨
  (ndOk n = true ∧ ∃ A1 A2, e = .returned (.tuple #[.agg (nkc n A1 A2), .bool true]) ∧ NodeAt w' A1 n ∧ NodeAt w' A2 n ∧ Below w.heap.size w w')

set_option maxRecDepth 100000 in
set_option maxHeartbeats 8000000 in
theorem specKeeperNew (n : Nd) (A : Ads) (w : World) (hz : NdSz n 1048576) (ha : NodeAt w A n) : Calls Tryz.prog 5 #[ndv n A] w (GivesL w n) := by
  have HOK := hide (fun W (h : Below w.heap.size w W) => specNodeOk n A W (hz.mono (by omega)) (ha.below h))
  have HCP := hide (fun W (h : Below w.heap.size w W) => specCopyNode n A W hz (ha.below h))
  clear hz ha
  go_enter Tryz.func5, Tryz.ntmps5
  go_upto_region 1 with fail
  refine wp_at (fun W0 hW => ?_)
  obtain ⟨e1, e3, e4⟩ : W0.heap[w.heap.size]? = some (.cells (ndc n A) 35 (0, 0)) ∧ W0.heap[w.heap.size + 1]? = some (.cells zk22 39 (0, 0)) ∧ Below w.heap.size w W0 := by
    subst hW
    exact allocsE2 w (.cells (ndc n A) 35) (.cells zk22 39)
  have HN := hide e1
  have HR := hide e3
  have HB := hide e4
  obtain ⟨c0, c1, c2, c3, c4, c5, c6, c7, c8⟩ := nine e1
  clear hW e1 e3 e4
  go_wp2_with fail
  refine (unhide HOK W0 (unhide HB)).mono ?_
  rintro e W2 ⟨rfl, hb2⟩
  have HN2 := hide (obj_step (unhide HN) hb2)
  have HR2 := hide (obj_step (unhide HR) hb2)
  have HB2 := hide (Below.trans (unhide HB) (hb2.mono (unhide HB).size))
  clear hb2 c0 c1 c2 c3 c4 c5 c6 c7 c8 HN HR HB HOK
  cases hok : ndOk n
  · have HO := hide hok
    clear hok
    go_upto_region 2 with fail
    refine wp_region_list ?_
    show wpList _ _ _ [_, _, _] _ _
    refine wpList_plain rfl (fun K hK => ?_)
    go_simp
    refine hK _ _ ?_
    clear hK K
    refine wpList_store_mid rfl 39 (.tmp 2) (.tmp 7) rfl (w.heap.size + 1) 0 zk22 rfl rfl (fun j hj => ⟨blk22 (unhide HR2) hj, obj_free (unhide HR2) _⟩) (by kernel_rfl) (by kernel_rfl) ?_
    have hrg := World.rangeAt_setCells_same W2 (w.heap.size + 1) 0 zk22.toList (fun j hj => ⟨blk22 (unhide HR2) hj, obj_free (unhide HR2) _⟩)
    have hbb := setCells_below (B := w.heap.size) (show w.heap.size ≤ w.heap.size + 1 by omega) zk22.toList w W2 0 (unhide HB2)
    have HRG := hide hrg
    have HBB := hide hbb
    clear hrg hbb
    generalize W2.setCells (w.heap.size + 1) 0 zk22.toList = W3 at *
    go_wp2_with fail
    refine bodyPost_ret (v := .tuple #[.agg zk22, .bool false]) ?_ rfl (.inl ⟨unhide HO, rfl, unhide HBB⟩)
    exact results_two (p := 2) (q := 3) rfl _ W3 (w.heap.size + 1) zk22.toList _ rfl (unhide HRG) Tryz.underlying39 rfl (by kernel_rfl)
  · have HO := hide hok
    clear hok
    obtain ⟨p0, p1, p2, p3, p4, p5, p6, p7, p8⟩ := nine (unhide HN2)
    have y0 := cell_regrown p0
    have y1 := cell_regrown p1
    have y2 := cell_regrown p2
    have y3 := cell_regrown p3
    have y4 := cell_regrown p4
    have y5 := cell_regrown p5
    have y6 := cell_regrown p6
    have y7 := cell_regrown p7
    have y8 := cell_regrown p8
    clear p0 p1 p2 p3 p4 p5 p6 p7 p8
    go_upto_region 3 with fail
    refine wp_region_mixE 5 (by kernel_rfl) ?_
    show wpMixE _ _ _ _ _ 7 (Array.replicate 7 false) _ _
    refine wpMixE_take 0 20 rfl (by kernel_rfl) (by kernel_rfl) (by kernel_rfl) (by kernel_rfl) (by kernel_rfl) (fun _ _ _ _ h => h) (fun K hK => ?_)
    go_simp
    first
      | (refine hK _ ?_; clear hK K)
      | (apply Exists.intro
         refine ⟨fun _ => ?_, hK _ ?_⟩
         (rfl)
         clear hK K)
    refine wpMixE_take 2 20 rfl (by kernel_rfl) (by kernel_rfl) (by kernel_rfl) (by kernel_rfl) (by kernel_rfl) (fun _ _ _ _ h => h) (fun K hK => ?_)
    go_simp
    first
      | (refine hK _ ?_; clear hK K)
      | (apply Exists.intro
         refine ⟨fun _ => ?_, hK _ ?_⟩
         (rfl)
         clear hK K)
    clear y0 y1 y2 y3 y4 y5 y6 y7 y8
    refine wpMixE_one 1 rfl (by kernel_rfl) (by rfl) (fun x1 hx1 => ?_)
    go_simp
    have g1 : Below w.heap.size w x1 := Ge.trans (show Ge w W2 from unhide HB2) hx1
    refine (unhide HCP x1 g1).mono ?_
    rintro e z1 ⟨A1, G1, cc1, rfl, hN1, hy1, _⟩
    refine ⟨hy1, ?_⟩
    have HX1 := hide (show Ge W2 z1 from Ge.trans hx1 hy1)
    have HN1 := hide hN1
    have hx1s : W2.heap.size ≤ x1.heap.size := Below.size hx1
    clear hN1 hx1 hy1 g1
    refine wpMixE_one 3 rfl (by kernel_rfl) (by rfl) (fun x3 hx3 => ?_)
    go_simp
    have g3 : Below w.heap.size w x3 := Ge.trans (show Ge w W2 from unhide HB2) (Ge.trans (unhide HX1) hx3)
    refine (unhide HCP x3 g3).mono ?_
    rintro e z3 ⟨A2, G2, cc2, rfl, hNN, hy3, _⟩
    refine ⟨hy3, ?_⟩
    have HX3 := hide (show Ge W2 z3 from Ge.trans (unhide HX1) (Ge.trans hx3 hy3))
    have HM1 := hide ((unhide HN1).belowN (Ge.trans hx3 hy3))
    have HM2 := hide hNN
    have hzx : W2.heap.size ≤ x3.heap.size := Nat.le_trans (Below.size (unhide HX1)) (Below.size hx3)
    clear hNN hx3 hy3 g3 HX1 HN1 HCP
    refine wpMixE_take 4 20 rfl (by kernel_rfl) (by kernel_rfl) (by kernel_rfl) (by kernel_rfl) (by kernel_rfl) (fun _ _ _ _ h => h) (fun K hK => ?_)
    go_simp
    first
      | (refine hK _ ?_; clear hK K)
      | (apply Exists.intro
         refine ⟨fun _ => ?_, hK _ ?_⟩
         (rfl)
         clear hK K)
    refine wpMixE_leave (by kernel_rfl) (fun x hx => ?_)
    have HX := hide (show Ge W2 x from Ge.trans (unhide HX3) hx)
    have HM1x := hide ((unhide HM1).belowN hx)
    have HM2x := hide ((unhide HM2).belowN hx)
    have HRx := hide (obj_step (unhide HR2) (unhide HX))
    have HBx := hide (show Below w.heap.size w x from Ge.trans (show Ge w W2 from unhide HB2) (unhide HX))
    have hr2 := obj_lt (unhide HR2)
    refine wpAny_one 5 rfl (by kernel_rfl) (by rfl) (wp_store_mid 39 (.tmp 2) (.tmp 12) rfl (w.heap.size + 1) 0 (nkc n A1 A2) rfl rfl (fun j hj => ⟨blk22 (unhide HRx) hj, obj_free (unhide HRx) _⟩) (by kernel_rfl) (by kernel_rfl) ?_)
    have hrg := World.rangeAt_setCells_same x (w.heap.size + 1) 0 (nkc n A1 A2).toList (fun j hj => ⟨blk22 (unhide HRx) hj, obj_free (unhide HRx) _⟩)
    have hbb := setCells_below (B := w.heap.size) (show w.heap.size ≤ w.heap.size + 1 by omega) (nkc n A1 A2).toList w x 0 (unhide HBx)
    have hkp : KeepsL [w.heap.size + 1] x (x.setCells (w.heap.size + 1) 0 (nkc n A1 A2).toList) := setCells_keeps _ _ _ _
    have HQ1 := hide ((unhide HM1x).keepsN (by omega) hkp).at
    have HQ2 := hide ((unhide HM2x).keepsN (by omega) hkp).at
    have HRG := hide hrg
    have HBB := hide hbb
    clear hrg hbb hkp HM1x HM2x HRx HBx HX hx HM1 HM2 HX3 HR2 HN2 HB2
    generalize x.setCells (w.heap.size + 1) 0 (nkc n A1 A2).toList = W4 at *
    refine wpAny_one 6 rfl (by kernel_rfl) (by rfl) ?_
    go_simp
    refine wpAny_done (by kernel_rfl) ?_
    go_wp2_with fail
    refine bodyPost_ret (v := .tuple #[.agg (nkc n A1 A2), .bool true]) ?_ rfl (.inr ⟨unhide HO, A1, A2, rfl, unhide HQ1, unhide HQ2, unhide HBB⟩)
    exact results_two (p := 2) (q := 3) rfl _ W4 (w.heap.size + 1) (nkc n A1 A2).toList _ rfl (unhide HRG) Tryz.underlying39 rfl (by kernel_rfl)


def sPk (s0 : Nat) (n : Nd) : Nat := s0 + n.kids.length
def sOk (s0 : Nat) (n : Nd) : Nat := sPk s0 n + 4 * n.pu.length
def sSk (s0 : Nat) (n : Nd) : Nat := sOk s0 n + 4 * n.out.length
def sRk (s0 : Nat) (n : Nd) : Nat := eSeen (sSk s0 n) n.seen
def eNodeK (s0 : Nat) (n : Nd) : Nat := sRk s0 n + 4 * n.reqs.length
/-- A node, marked from a number on. -/
def mNodeK (s0 : Nat) (n : Nd) : Nd := ⟨n.id, n.par, mks mkInt 1 s0 n.kids n.kids.length, n.next, mks mkPurse 4 (sPk s0 n) n.pu n.pu.length, mks mkSent 4 (sOk s0 n) n.out n.out.length, mSeen (sSk s0 n) n.seen, n.old, mks mkReq 4 (sRk s0 n) n.reqs n.reqs.length⟩
theorem node_bdsK {s0 : Nat} {n : Nd} (h0 : 0 < s0) (h1 : s0 ≤ 50000000) (hz : NdSz n 1048600) : 0 < sPk s0 n ∧ sPk s0 n ≤ 60000000 ∧ 0 < sOk s0 n ∧ sOk s0 n ≤ 70000000 ∧ 0 < sSk s0 n ∧ sSk s0 n ≤ 100000000 ∧ 0 < sRk s0 n ∧ sRk s0 n ≤ 3000000000000 := by
  have h := eSeen_le (sSk s0 n) 1048600 n.seen hz.sk
  have h1 := hz.k
  have h2 := hz.p
  have h3 := hz.o
  have h4 := hz.s
  unfold sRk
  generalize eSeen (sSk s0 n) n.seen = z at *
  unfold sSk sOk sPk at *
  omega
set_option maxRecDepth 100000 in
set_option maxHeartbeats 2000000 in
theorem markNodeK (s0 : Nat) (h0 : 0 < s0) (h1 : s0 ≤ 50000000) (n : Nd) (A : Ads) (G : Blks) (w : World) (hz : NdSz n 1048600) (hnd : (G.all n).Nodup) (ha : NodeW w A G n) :
    Calls Tryz.prog 10 #[ndv n A, .int .i64 s0] w fun e w' => e = .returned (.int .i64 (eNodeK s0 n : Nat)) ∧ NodeW w' A G (mNodeK s0 n) ∧ KeepsL (G.all n) w w' := by
  have hb0 := below_one w (.cells (ndc n A) 35)
  obtain ⟨b1, b2, b3, b4, b5, b6, b7, b8⟩ := node_bdsK h0 h1 hz
  have HS : Hid (sPk s0 n = s0 + n.kids.length ∧ sOk s0 n = sPk s0 n + 4 * n.pu.length ∧ sSk s0 n = sOk s0 n + 4 * n.out.length ∧ sRk s0 n = eSeen (sSk s0 n) n.seen ∧ eNodeK s0 n = sRk s0 n + 4 * n.reqs.length) := ⟨rfl, rfl, rfl, rfl, rfl⟩
  have HMN := hide (show mNodeK s0 n = ⟨n.id, n.par, mks mkInt 1 s0 n.kids n.kids.length, n.next, mks mkPurse 4 (sPk s0 n) n.pu n.pu.length, mks mkSent 4 (sOk s0 n) n.out n.out.length, mSeen (sSk s0 n) n.seen, n.old, mks mkReq 4 (sRk s0 n) n.reqs n.reqs.length⟩ from rfl)
  unfold Blks.all at hnd
  simp only [List.nodup_append, List.mem_append] at hnd
  obtain ⟨_, ⟨_, ⟨_, ⟨n4, ⟨n5, n6, d6⟩, d5⟩, d4⟩, d3⟩, d2⟩ := hnd
  have HK0 := hide (ha.k.below hb0)
  have HP0 := hide (ha.p.below hb0)
  have HO0 := hide (ha.o.below hb0)
  have HSE0 := hide (ha.s.below hb0)
  have HR0 := hide (ha.r.below hb0)
  have HB0 := hide (heap_alloc_new w (.cells (ndc n A) 35))
  have HL := hide (And.intro (W_lt ha.k) (And.intro (W_lt ha.p) (And.intro (W_lt ha.o) (And.intro (SeenW_lt ha.s) (W_lt ha.r)))))
  have HKW0 : Hid (KeepsL (G.all n) w (w.alloc (.cells (ndc n A) 35))) := KeepsL.of_below hb0
  have HALL := hide (fun x => (@Blks.mem_all G n x).2)
  have HZ := hide hz
  have HD2 := hide d2
  have HD3 := hide d3
  have HD4 := hide d4
  have HD5 := hide d5
  have HD6 := hide d6
  have HN45 : Hid ((fp G.s n.seen ++ fpI G.i n.seen).Nodup) := List.nodup_append.2 ⟨n4, n5, fun a ha b hb => d5 a ha b (.inl hb)⟩
  clear ha hz hb0 n4 n5 n6 d2 d3 d4 d5 d6
  generalize G.all n = GA at *
  generalize mNodeK s0 n = MN at *
  generalize eNodeK s0 n = EN at *
  generalize sPk s0 n = s1 at *
  generalize sOk s0 n = s2 at *
  generalize sSk s0 n = s3 at *
  generalize sRk s0 n = s4 at *
  obtain ⟨id, par, kids, next, pu, out, seen, old, reqs⟩ := n
  obtain ⟨ak, ap, ao, as', ar, ck, cp, co, cs, cr⟩ := A
  dsimp only at HS HMN HK0 HP0 HO0 HSE0 HR0 HB0 HL HKW0 HALL HD2 HD3 HD4 HD5 HD6 HN45 ⊢
  obtain ⟨q1, q2, q3, q4, q5⟩ := unhide HS
  have HQ4 := hide q4
  clear q4 HS
  have hzk := (unhide HZ).k
  have hzp := (unhide HZ).p
  have hzo := (unhide HZ).o
  have hzs := (unhide HZ).s
  have hzr := (unhide HZ).r
  dsimp only at hzk hzp hzo hzs hzr
  obtain ⟨c0, c1, c2, c3, c4, c5, c6, c7, c8⟩ := nine (unhide HB0)
  go_enter Tryz.func10, Tryz.ntmps10
  go_wp2_with fail
  refine (markIntZ ak G.k ck s0 _ kids _ (by omega) (by omega) (by omega) hzk (unhide HK0)).mono ?_
  rintro e w1 ⟨rfl, hw, hk⟩
  have HK1 := hide hw
  have HP1 := hide (GR.W.keeps (unhide HP0) hk (fun x hx => fun hx2 => (Ne.symm (unhide HD2 _ hx2 _ (.inl hx))) rfl))
  have HO1 := hide (GR.W.keeps (unhide HO0) hk (fun x hx => fun hx2 => (Ne.symm (unhide HD2 _ hx2 _ (.inr (.inl hx)))) rfl))
  have HSE1 := hide (SeenW.keeps (unhide HSE0) hk (fun x hx => fun hx2 => (Ne.symm (unhide HD2 _ hx2 _ (.inr (.inr (.inl hx))))) rfl) (fun x hx => fun hx2 => (Ne.symm (unhide HD2 _ hx2 _ (.inr (.inr (.inr (.inl hx)))))) rfl))
  have HR1 := hide (GR.W.keeps (unhide HR0) hk (fun x hx => fun hx2 => (Ne.symm (unhide HD2 _ hx2 _ (.inr (.inr (.inr (.inr hx)))))) rfl))
  have HB1 := hide (hk.obj (unhide HB0) (fun hx => by have := (unhide HL).1 _ hx; omega))
  have HKW1 := hide ((unhide HKW0).trans (hk.mono (fun x hx => unhide HALL _ (.inl hx))))
  clear hw hk c0 c1 c2 c3 c4 c5 c6 c7 c8 HK0 HP0 HO0 HSE0 HR0
  obtain ⟨c0, c1, c2, c3, c4, c5, c6, c7, c8⟩ := nine (unhide HB1)
  go_wp2_with fail
  refine (markPurseZ ap G.p cp s1 _ pu _ (by omega) b1 (by omega) hzp (unhide HP1)).mono ?_
  rintro e w2 ⟨rfl, hw, hk⟩
  have HP2 := hide hw
  have HK2 := hide (GR.W.keeps (unhide HK1) hk (fun x hx => fun hx2 => (unhide HD2 _ (fp_mks hx) _ (.inl hx2)) rfl))
  have HO2 := hide (GR.W.keeps (unhide HO1) hk (fun x hx => fun hx2 => (Ne.symm (unhide HD3 _ hx2 _ (.inl hx))) rfl))
  have HSE2 := hide (SeenW.keeps (unhide HSE1) hk (fun x hx => fun hx2 => (Ne.symm (unhide HD3 _ hx2 _ (.inr (.inl hx)))) rfl) (fun x hx => fun hx2 => (Ne.symm (unhide HD3 _ hx2 _ (.inr (.inr (.inl hx))))) rfl))
  have HR2 := hide (GR.W.keeps (unhide HR1) hk (fun x hx => fun hx2 => (Ne.symm (unhide HD3 _ hx2 _ (.inr (.inr (.inr hx))))) rfl))
  have HB2 := hide (hk.obj (unhide HB1) (fun hx => by have := (unhide HL).2.1 _ hx; omega))
  have HKW2 := hide ((unhide HKW1).trans (hk.mono (fun x hx => unhide HALL _ (.inr (.inl hx)))))
  clear hw hk c0 c1 c2 c3 c4 c5 c6 c7 c8 HK1 HP1 HO1 HSE1 HR1
  obtain ⟨c0, c1, c2, c3, c4, c5, c6, c7, c8⟩ := nine (unhide HB2)
  go_wp2_with fail
  refine (markSentZ ao G.o co s2 _ out _ (by omega) b3 (by omega) hzo (unhide HO2)).mono ?_
  rintro e w3 ⟨rfl, hw, hk⟩
  have HO3 := hide hw
  have HK3 := hide (GR.W.keeps (unhide HK2) hk (fun x hx => fun hx2 => (unhide HD2 _ (fp_mks hx) _ (.inr (.inl hx2))) rfl))
  have HP3 := hide (GR.W.keeps (unhide HP2) hk (fun x hx => fun hx2 => (unhide HD3 _ (fp_mks hx) _ (.inl hx2)) rfl))
  have HSE3 := hide (SeenW.keeps (unhide HSE2) hk (fun x hx => fun hx2 => (Ne.symm (unhide HD4 _ hx2 _ (.inl hx))) rfl) (fun x hx => fun hx2 => (Ne.symm (unhide HD4 _ hx2 _ (.inr (.inl hx)))) rfl))
  have HR3 := hide (GR.W.keeps (unhide HR2) hk (fun x hx => fun hx2 => (Ne.symm (unhide HD4 _ hx2 _ (.inr (.inr hx)))) rfl))
  have HB3 := hide (hk.obj (unhide HB2) (fun hx => by have := (unhide HL).2.2.1 _ hx; omega))
  have HKW3 := hide ((unhide HKW2).trans (hk.mono (fun x hx => unhide HALL _ (.inr (.inr (.inl hx))))))
  clear hw hk c0 c1 c2 c3 c4 c5 c6 c7 c8 HK2 HP2 HO2 HSE2 HR2
  obtain ⟨c0, c1, c2, c3, c4, c5, c6, c7, c8⟩ := nine (unhide HB3)
  go_wp2_with fail
  refine (markSeenZ as' G.s cs s3 _ G.i seen _ (by omega) b5 b6 hzs (unhide HZ).sk (unhide HN45) (unhide HSE3)).mono ?_
  rintro e w4 ⟨rfl, hw, hk⟩
  have HSE4 := hide hw
  have HK4 := hide (GR.W.keeps (unhide HK3) hk (fun x hx => fun hx2 => by rcases List.mem_append.1 hx2 with hx3 | hx3; exact (unhide HD2 _ (fp_mks hx) _ (.inr (.inr (.inl hx3)))) rfl; exact (unhide HD2 _ (fp_mks hx) _ (.inr (.inr (.inr (.inl hx3))))) rfl))
  have HP4 := hide (GR.W.keeps (unhide HP3) hk (fun x hx => fun hx2 => by rcases List.mem_append.1 hx2 with hx3 | hx3; exact (unhide HD3 _ (fp_mks hx) _ (.inr (.inl hx3))) rfl; exact (unhide HD3 _ (fp_mks hx) _ (.inr (.inr (.inl hx3)))) rfl))
  have HO4 := hide (GR.W.keeps (unhide HO3) hk (fun x hx => fun hx2 => by rcases List.mem_append.1 hx2 with hx3 | hx3; exact (unhide HD4 _ (fp_mks hx) _ (.inl hx3)) rfl; exact (unhide HD4 _ (fp_mks hx) _ (.inr (.inl hx3))) rfl))
  have HR4 := hide (GR.W.keeps (unhide HR3) hk (fun x hx => fun hx2 => by rcases List.mem_append.1 hx2 with hx3 | hx3; exact (Ne.symm (unhide HD5 _ hx3 _ (.inr hx))) rfl; exact (Ne.symm (unhide HD6 _ hx3 _ hx)) rfl))
  have HB4 := hide (hk.obj (unhide HB3) (fun hx => by have := (unhide HL).2.2.2.1 _ hx; omega))
  have HKW4 := hide ((unhide HKW3).trans (hk.mono (fun x hx => by rcases List.mem_append.1 hx with hx | hx; exact unhide HALL _ (.inr (.inr (.inr (.inl hx)))); exact unhide HALL _ (.inr (.inr (.inr (.inr (.inl hx))))))))
  clear hw hk c0 c1 c2 c3 c4 c5 c6 c7 c8 HK3 HP3 HO3 HSE3 HR3
  obtain ⟨c0, c1, c2, c3, c4, c5, c6, c7, c8⟩ := nine (unhide HB4)
  rw [← unhide HQ4]
  go_wp2_with fail
  refine (markReqZ ar G.r cr s4 _ reqs _ (by omega) b7 (by omega) hzr (unhide HR4)).mono ?_
  rintro e w5 ⟨rfl, hw, hk⟩
  have HR5 := hide hw
  have HK5 := hide (GR.W.keeps (unhide HK4) hk (fun x hx => fun hx2 => (unhide HD2 _ (fp_mks hx) _ (.inr (.inr (.inr (.inr hx2))))) rfl))
  have HP5 := hide (GR.W.keeps (unhide HP4) hk (fun x hx => fun hx2 => (unhide HD3 _ (fp_mks hx) _ (.inr (.inr (.inr hx2)))) rfl))
  have HO5 := hide (GR.W.keeps (unhide HO4) hk (fun x hx => fun hx2 => (unhide HD4 _ (fp_mks hx) _ (.inr (.inr hx2))) rfl))
  have HSE5 := hide (SeenW.keeps (unhide HSE4) hk (fun x hx => fun hx2 => (unhide HD5 _ (fp_mS hx) _ (.inr hx2)) rfl) (fun x hx => fun hx2 => (unhide HD6 _ (fpI_mS hx) _ hx2) rfl))
  have HB5 := hide (hk.obj (unhide HB4) (fun hx => by have := (unhide HL).2.2.2.2 _ hx; omega))
  have HKW5 := hide ((unhide HKW4).trans (hk.mono (fun x hx => unhide HALL _ (.inr (.inr (.inr (.inr (.inr hx))))))))
  clear hw hk c0 c1 c2 c3 c4 c5 c6 c7 c8 HK4 HP4 HO4 HSE4 HR4
  obtain ⟨c0, c1, c2, c3, c4, c5, c6, c7, c8⟩ := nine (unhide HB5)
  go_wp2_with fail
  go_ret
  refine ⟨ret_int (by omega), ?_, unhide HKW5⟩
  rw [unhide HMN]
  exact ⟨unhide HK5, unhide HP5, unhide HO5, unhide HSE5, unhide HR5⟩
set_option maxRecDepth 100000 in
set_option maxHeartbeats 2000000 in
theorem heldNodeK (s0 : Nat) (h0 : 0 < s0) (h1 : s0 ≤ 50000000) (n : Nd) (A : Ads) (G : Blks) (w : World) (hz : NdSz n 1048600) (ha : NodeW w A G (mNodeK s0 n)) :
    Calls Tryz.prog 42 #[ndv n A, .int .i64 s0] w fun e w' => e = .returned (.int .i64 (eNodeK s0 n : Nat)) ∧ Below w.heap.size w w' := by
  obtain ⟨b1, b2, b3, b4, b5, b6, b7, b8⟩ := node_bdsK h0 h1 hz
  have HS : Hid (sPk s0 n = s0 + n.kids.length ∧ sOk s0 n = sPk s0 n + 4 * n.pu.length ∧ sSk s0 n = sOk s0 n + 4 * n.out.length ∧ sRk s0 n = eSeen (sSk s0 n) n.seen ∧ eNodeK s0 n = sRk s0 n + 4 * n.reqs.length) := ⟨rfl, rfl, rfl, rfl, rfl⟩
  rw [show mNodeK s0 n = ⟨n.id, n.par, mks mkInt 1 s0 n.kids n.kids.length, n.next, mks mkPurse 4 (sPk s0 n) n.pu n.pu.length, mks mkSent 4 (sOk s0 n) n.out n.out.length, mSeen (sSk s0 n) n.seen, n.old, mks mkReq 4 (sRk s0 n) n.reqs n.reqs.length⟩ from rfl] at ha
  have HA := hide ha
  have HZ := hide hz
  have HB0 := hide (heap_alloc_new w (.cells (ndc n A) 35))
  have HL0 := hide (below_one w (.cells (ndc n A) 35))
  clear ha hz
  generalize eNodeK s0 n = EN at *
  generalize sPk s0 n = s1 at *
  generalize sOk s0 n = s2 at *
  generalize sSk s0 n = s3 at *
  generalize sRk s0 n = s4 at *
  have HKK := hide (fun z W (hb : Below w.heap.size w W) (hz : z = (s0 : Int)) => heldIntZ A.k G.k A.ck n.kids.length s0 z n.kids W hz rfl (by omega) (by omega) (unhide HZ).k ((unhide HA).below hb).k)
  have HPP := hide (fun z W (hb : Below w.heap.size w W) (hz : z = (s1 : Int)) => heldPurseZ A.p G.p A.cp n.pu.length s1 z n.pu W hz rfl b1 (by omega) (unhide HZ).p ((unhide HA).below hb).p)
  have HOO := hide (fun z W (hb : Below w.heap.size w W) (hz : z = (s2 : Int)) => heldSentZ A.o G.o A.co n.out.length s2 z n.out W hz rfl b3 (by omega) (unhide HZ).o ((unhide HA).below hb).o)
  have HSS := hide (fun z W (hb : Below w.heap.size w W) (hz : z = (s3 : Int)) => heldSeenZ A.s G.s A.cs n.seen.length s3 z G.i n.seen W hz rfl b5 b6 (unhide HZ).s (unhide HZ).sk ((unhide HA).below hb).s)
  have HRR := hide (fun z W (hb : Below w.heap.size w W) (hz : z = (s4 : Int)) => heldReqZ A.r G.r A.cr n.reqs.length s4 z n.reqs W hz rfl b7 (by omega) (unhide HZ).r ((unhide HA).below hb).r)
  have hzk := (unhide HZ).k
  have hzp := (unhide HZ).p
  have hzo := (unhide HZ).o
  have hzs := (unhide HZ).s
  have hzr := (unhide HZ).r
  clear HA HZ
  obtain ⟨id, par, kids, next, pu, out, seen, old, reqs⟩ := n
  obtain ⟨ak, ap, ao, as', ar, ck, cp, co, cs, cr⟩ := A
  dsimp only at HS HB0 HL0 HKK HPP HOO HSS HRR hzk hzp hzo hzs hzr ⊢
  obtain ⟨q1, q2, q3, q4, q5⟩ := unhide HS
  have HQ4 := hide q4
  clear q4 HS
  obtain ⟨c0, c1, c2, c3, c4, c5, c6, c7, c8⟩ := nine (unhide HB0)
  go_enter Tryz.func42, Tryz.ntmps42
  go_wp2_with fail
  refine (unhide HKK _ _ (unhide HL0) (by omega)).mono ?_
  rintro e w1 ⟨rfl, hb1⟩
  have HB1 := hide (obj_step (unhide HB0) hb1)
  have HL1 := hide ((unhide HL0).trans (hb1.mono (unhide HL0).size))
  clear hb1 c0 c1 c2 c3 c4 c5 c6 c7 c8
  obtain ⟨c0, c1, c2, c3, c4, c5, c6, c7, c8⟩ := nine (unhide HB1)
  go_wp2_with fail
  refine (unhide HPP _ _ (unhide HL1) (by omega)).mono ?_
  rintro e w2 ⟨rfl, hb1⟩
  have HB2 := hide (obj_step (unhide HB1) hb1)
  have HL2 := hide ((unhide HL1).trans (hb1.mono (unhide HL1).size))
  clear hb1 c0 c1 c2 c3 c4 c5 c6 c7 c8
  obtain ⟨c0, c1, c2, c3, c4, c5, c6, c7, c8⟩ := nine (unhide HB2)
  go_wp2_with fail
  refine (unhide HOO _ _ (unhide HL2) (by omega)).mono ?_
  rintro e w3 ⟨rfl, hb1⟩
  have HB3 := hide (obj_step (unhide HB2) hb1)
  have HL3 := hide ((unhide HL2).trans (hb1.mono (unhide HL2).size))
  clear hb1 c0 c1 c2 c3 c4 c5 c6 c7 c8
  obtain ⟨c0, c1, c2, c3, c4, c5, c6, c7, c8⟩ := nine (unhide HB3)
  go_wp2_with fail
  refine (unhide HSS _ _ (unhide HL3) (by omega)).mono ?_
  rintro e w4 ⟨rfl, hb1⟩
  have HB4 := hide (obj_step (unhide HB3) hb1)
  have HL4 := hide ((unhide HL3).trans (hb1.mono (unhide HL3).size))
  clear hb1 c0 c1 c2 c3 c4 c5 c6 c7 c8
  obtain ⟨c0, c1, c2, c3, c4, c5, c6, c7, c8⟩ := nine (unhide HB4)
  rw [← unhide HQ4]
  have hn4 : decide ((s4 : Int) < 0) = false := decide_eq_false (by omega)
  go_wp2_with fail
  refine (unhide HRR _ _ (unhide HL4) (by omega)).mono ?_
  rintro e w5 ⟨rfl, hb1⟩
  have HB5 := hide (obj_step (unhide HB4) hb1)
  have HL5 := hide ((unhide HL4).trans (hb1.mono (unhide HL4).size))
  clear hb1 c0 c1 c2 c3 c4 c5 c6 c7 c8
  obtain ⟨c0, c1, c2, c3, c4, c5, c6, c7, c8⟩ := nine (unhide HB5)
  go_wp2_with fail
  go_ret
  exact ⟨ret_int (by omega), unhide HL5⟩

/-- Lists of blocks of different colours. -/
theorem nodup_col {c : Nat → Nat} {a : Nat} {l m : List Nat} (hl : l.Nodup) (hm : m.Nodup) (h1 : ∀ x ∈ l, c x = a) (h2 : ∀ x ∈ m, c x ≠ a) : (l ++ m).Nodup := by
  rw [List.nodup_append]
  exact ⟨hl, hm, fun x hx y hy e => h2 y hy (by rw [← e]; exact h1 x hx)⟩
theorem NO.full {w : World} {B : Nat} {n : Nd} {A : Ads} {G : Blks} {c : Nat → Nat} (h : NO w B n A G c) :
    ∃ G2, NodeW w A G2 n ∧ G2.Sep n B w.heap.size ∧ ∀ x ∈ G2.all n, c x ≠ 0 ∧ c x ≤ 6 := by
  obtain ⟨_, _, go, eo, hWo, hro, hoo⟩ := GR.W.of_own (enc := encSnt) encSnt_length h.o
  cases eo
  obtain ⟨_, _, gr, er, hWr, hrr, hor⟩ := GR.W.of_own (enc := encRq) encRq_length h.r
  cases er
  have c1 := h.ck
  have c2 := h.cp
  have c3 : ∀ x ∈ fp go n.out, c x = 3 := fun x hx => h.co x (hoo x hx)
  have c4 := h.c4
  have c5 := h.ci
  have c6 : ∀ x ∈ fp gr n.reqs, c x = 6 := fun x hx => h.cr x (hor x hx)
  have hcol : ∀ x ∈ Blks.all ⟨G.k, G.p, go, G.s, gr, G.i⟩ n, c x ≠ 0 ∧ c x ≤ 6 := fun x hx => by
    rcases Blks.mem_all.1 hx with h1 | h1 | h1 | h1 | h1 | h1
    · have := c1 x h1; omega
    · have := c2 x h1; omega
    · have := c3 x h1; omega
    · have := c4 x h1; omega
    · have := c5 x h1; omega
    · have := c6 x h1; omega
  refine ⟨⟨G.k, G.p, go, G.s, gr, G.i⟩, ⟨h.k, h.p, hWo, h.s, hWr⟩, ⟨?_, fun x hx => ⟨?_, ?_⟩⟩, hcol⟩
  · unfold Blks.all
    refine nodup_col (c := c) (a := 1) (fp_nodup _ _) ?_ c1 (fun x hx => ?_)
    · refine nodup_col (c := c) (a := 2) (fp_nodup _ _) ?_ c2 (fun x hx => ?_)
      · refine nodup_col (c := c) (a := 3) (fp_nodup _ _) ?_ c3 (fun x hx => ?_)
        · refine nodup_col (c := c) (a := 4) (fp_nodup _ _) ?_ c4 (fun x hx => ?_)
          · refine nodup_col (c := c) (a := 5) h.ni (fp_nodup _ _) c5 (fun x hx => ?_)
            have := c6 x hx; omega
          · rcases List.mem_append.1 hx with h1 | h1
            · have := c5 x h1; omega
            · have := c6 x h1; omega
        · rcases List.mem_append.1 hx with h1 | h1
          · have := c4 x h1; omega
          · rcases List.mem_append.1 h1 with h1 | h1
            · have := c5 x h1; omega
            · have := c6 x h1; omega
      · rcases List.mem_append.1 hx with h1 | h1
        · have := c3 x h1; omega
        · rcases List.mem_append.1 h1 with h1 | h1
          · have := c4 x h1; omega
          · rcases List.mem_append.1 h1 with h1 | h1
            · have := c5 x h1; omega
            · have := c6 x h1; omega
    · rcases List.mem_append.1 hx with h1 | h1
      · have := c2 x h1; omega
      · rcases List.mem_append.1 h1 with h1 | h1
        · have := c3 x h1; omega
        · rcases List.mem_append.1 h1 with h1 | h1
          · have := c4 x h1; omega
          · rcases List.mem_append.1 h1 with h1 | h1
            · have := c5 x h1; omega
            · have := c6 x h1; omega
  · by_cases hlt : x < B
    · have := h.lo x hlt
      have := hcol x hx
      omega
    · omega
  · rcases Blks.mem_all.1 hx with h1 | h1 | h1 | h1 | h1 | h1
    · exact fpW_lt h.k x h1
    · exact fpW_lt h.p x h1
    · exact fpW_lt hWo x h1
    · exact (seen_lt h.s).1 x h1
    · exact (seen_lt h.s).2 x h1
    · exact fpW_lt hWr x h1
end Go.Proofs.YtcfcngbfnflbgaaGreatDoor
