/- Parts. -/
import Derived.Test.YtbanjohfcnadfaaGreatDoorPw22
import Derived.Test.YtbanjohfcnadfaaGreatDoorPw10
import Derived.Test.YtbanjohfcnadfaaGreatDoorPw20
import Derived.Test.YtbanjohfcnadfaaGreatDoorPw19
import Derived.Deep.MidRow
import Derived.Shelf.Abstract
namespace Go.Proofs.YtbanjohfcnadfaaGreatDoor
open Go.RowKit
open Mth

theorem below_nine {w X : World} {g B : Nat} {b0 b1 b2 b3 b4 b5 b6 b7 b8 : Value} (h : Below B w X) (hg : B ≤ g) :
    Below B w (((((((((X.setCell ⟨g, 0, none⟩ b0).setCell ⟨g, 1, none⟩ b1).setCell ⟨g, 2, none⟩ b2).setCell ⟨g, 3, none⟩ b3).setCell ⟨g, 4, none⟩ b4).setCell ⟨g, 5, none⟩ b5).setCell ⟨g, 6, none⟩ b6).setCell ⟨g, 7, none⟩ b7).setCell ⟨g, 8, none⟩ b8) :=
  ((((((((h.setCell (p := ⟨g, 0, none⟩) hg b0).setCell (p := ⟨g, 1, none⟩) hg b1).setCell (p := ⟨g, 2, none⟩) hg b2).setCell (p := ⟨g, 3, none⟩) hg b3).setCell (p := ⟨g, 4, none⟩) hg b4).setCell (p := ⟨g, 5, none⟩) hg b5).setCell (p := ⟨g, 6, none⟩) hg b6).setCell (p := ⟨g, 7, none⟩) hg b7).setCell (p := ⟨g, 8, none⟩) hg b8
theorem all_nine {X : World} {g : Nat} {a0 a1 a2 a3 a4 a5 a6 a7 a8 b0 b1 b2 b3 b4 b5 b6 b7 b8 : Value} {t : TypeId} (h : X.heap[g]? = some (.cells #[a0, a1, a2, a3, a4, a5, a6, a7, a8] t (0, 0))) :
    (((((((((X.setCell ⟨g, 0, none⟩ b0).setCell ⟨g, 1, none⟩ b1).setCell ⟨g, 2, none⟩ b2).setCell ⟨g, 3, none⟩ b3).setCell ⟨g, 4, none⟩ b4).setCell ⟨g, 5, none⟩ b5).setCell ⟨g, 6, none⟩ b6).setCell ⟨g, 7, none⟩ b7).setCell ⟨g, 8, none⟩ b8).heap[g]? = some (.cells #[b0, b1, b2, b3, b4, b5, b6, b7, b8] t (0, 0)) := by
  have h0 : (X.setCell ⟨g, 0, none⟩ b0).heap[g]? = some (.cells #[b0, a1, a2, a3, a4, a5, a6, a7, a8] t (0, 0)) := blk_setO h 0 b0
  have h1 : ((X.setCell ⟨g, 0, none⟩ b0).setCell ⟨g, 1, none⟩ b1).heap[g]? = some (.cells #[b0, b1, a2, a3, a4, a5, a6, a7, a8] t (0, 0)) := blk_setO h0 1 b1
  have h2 : (((X.setCell ⟨g, 0, none⟩ b0).setCell ⟨g, 1, none⟩ b1).setCell ⟨g, 2, none⟩ b2).heap[g]? = some (.cells #[b0, b1, b2, a3, a4, a5, a6, a7, a8] t (0, 0)) := blk_setO h1 2 b2
  have h3 : ((((X.setCell ⟨g, 0, none⟩ b0).setCell ⟨g, 1, none⟩ b1).setCell ⟨g, 2, none⟩ b2).setCell ⟨g, 3, none⟩ b3).heap[g]? = some (.cells #[b0, b1, b2, b3, a4, a5, a6, a7, a8] t (0, 0)) := blk_setO h2 3 b3
  have h4 : (((((X.setCell ⟨g, 0, none⟩ b0).setCell ⟨g, 1, none⟩ b1).setCell ⟨g, 2, none⟩ b2).setCell ⟨g, 3, none⟩ b3).setCell ⟨g, 4, none⟩ b4).heap[g]? = some (.cells #[b0, b1, b2, b3, b4, a5, a6, a7, a8] t (0, 0)) := blk_setO h3 4 b4
  have h5 : ((((((X.setCell ⟨g, 0, none⟩ b0).setCell ⟨g, 1, none⟩ b1).setCell ⟨g, 2, none⟩ b2).setCell ⟨g, 3, none⟩ b3).setCell ⟨g, 4, none⟩ b4).setCell ⟨g, 5, none⟩ b5).heap[g]? = some (.cells #[b0, b1, b2, b3, b4, b5, a6, a7, a8] t (0, 0)) := blk_setO h4 5 b5
  have h6 : (((((((X.setCell ⟨g, 0, none⟩ b0).setCell ⟨g, 1, none⟩ b1).setCell ⟨g, 2, none⟩ b2).setCell ⟨g, 3, none⟩ b3).setCell ⟨g, 4, none⟩ b4).setCell ⟨g, 5, none⟩ b5).setCell ⟨g, 6, none⟩ b6).heap[g]? = some (.cells #[b0, b1, b2, b3, b4, b5, b6, a7, a8] t (0, 0)) := blk_setO h5 6 b6
  have h7 : ((((((((X.setCell ⟨g, 0, none⟩ b0).setCell ⟨g, 1, none⟩ b1).setCell ⟨g, 2, none⟩ b2).setCell ⟨g, 3, none⟩ b3).setCell ⟨g, 4, none⟩ b4).setCell ⟨g, 5, none⟩ b5).setCell ⟨g, 6, none⟩ b6).setCell ⟨g, 7, none⟩ b7).heap[g]? = some (.cells #[b0, b1, b2, b3, b4, b5, b6, b7, a8] t (0, 0)) := blk_setO h6 7 b7
  have h8 : (((((((((X.setCell ⟨g, 0, none⟩ b0).setCell ⟨g, 1, none⟩ b1).setCell ⟨g, 2, none⟩ b2).setCell ⟨g, 3, none⟩ b3).setCell ⟨g, 4, none⟩ b4).setCell ⟨g, 5, none⟩ b5).setCell ⟨g, 6, none⟩ b6).setCell ⟨g, 7, none⟩ b7).setCell ⟨g, 8, none⟩ b8).heap[g]? = some (.cells #[b0, b1, b2, b3, b4, b5, b6, b7, b8] t (0, 0)) := blk_setO h7 8 b8
  exact h8
theorem keeps_nine {X : World} {g : Nat} {b0 b1 b2 b3 b4 b5 b6 b7 b8 : Value} :
    KeepsL [g] X (((((((((X.setCell ⟨g, 0, none⟩ b0).setCell ⟨g, 1, none⟩ b1).setCell ⟨g, 2, none⟩ b2).setCell ⟨g, 3, none⟩ b3).setCell ⟨g, 4, none⟩ b4).setCell ⟨g, 5, none⟩ b5).setCell ⟨g, 6, none⟩ b6).setCell ⟨g, 7, none⟩ b7).setCell ⟨g, 8, none⟩ b8) :=
  (((((((((KeepsL.set b0).trans (KeepsL.set b1)).trans (KeepsL.set b2)).trans (KeepsL.set b3)).trans (KeepsL.set b4)).trans (KeepsL.set b5)).trans (KeepsL.set b6)).trans (KeepsL.set b7)).trans (KeepsL.set b8))
/-- A node whose rows are one's own: what is written into a block below leaves it. -/
theorem NO.keepsN {w X : World} {B g : Nat} {n : Nd} {A : Ads} {G : Blks} {c : Nat → Nat} (h : NO w B n A G c) (hg : g < B) (hk : KeepsL [g] w X) : NO X B n A G c := by
  have hc : KC c 0 w X := KC.keeps hk (fun x hx => by rw [List.mem_singleton.1 hx]; exact h.lo g hg)
  exact ⟨hc.w h.k h.ck (by omega), hc.w h.p h.cp (by omega), hc.own h.o h.co (by omega), hc.seen h.s h.c4 h.ci (by omega) (by omega), hc.own h.r h.cr (by omega), h.lo, h.ck, h.cp, h.co, h.c4, h.ci, h.cr, h.ni⟩
theorem NO.belowN {w X : World} {B : Nat} {n : Nd} {A : Ads} {G : Blks} {c : Nat → Nat} (h : NO w B n A G c) (hb : Below w.heap.size w X) : NO X B n A G c := by
  have hc : KC c 0 w X := KC.of_below hb
  exact ⟨hc.w h.k h.ck (by omega), hc.w h.p h.cp (by omega), hc.own h.o h.co (by omega), hc.seen h.s h.c4 h.ci (by omega) (by omega), hc.own h.r h.cr (by omega), h.lo, h.ck, h.cp, h.co, h.c4, h.ci, h.cr, h.ni⟩

set_option maxRecDepth 100000 in
set_option maxHeartbeats 4000000 in
theorem replayed0 (n : Nd) (A : Ads) (w : World) (hz : NdSz n 1048576) (hok : ndOk n = true) (ha : NodeAt w A n) :
    Calls Tryz.prog 132 #[ndv n A, .slice none 0 0] w fun e w' => ∃ A', e = .returned (ndv n A') ∧ NodeAt w' A' n ∧ Below w.heap.size w w' := by
  have HCP := hide (fun W (h : Below w.heap.size w W) => implCopyNode n A W hz (ha.below h))
  have HOK := hide (fun W (h : Below w.heap.size w W) => implNodeOk n A W (hz.mono (by omega)) (ha.below h))
  rw [hok] at HOK
  clear hz hok ha
  go_enter Tryz.func132, Tryz.ntmps132
  go_upto_region 1 with fail
  refine wp_at (fun W0 hW => ?_)
  obtain ⟨e1, e3, e4⟩ := allocsE2 w (.cells (ndc n A) 50) (.cells zc9 50)
  rw [← hW] at e1 e3 e4
  have HN := hide e1
  have HR := hide e3
  have HB := hide e4
  clear hW e1 e3 e4
  obtain ⟨c0, c1, c2, c3, c4, c5, c6, c7, c8⟩ := nine (unhide HN)
  have hl0 := obj_lt (unhide HR)
  go_wp2_with fail
  refine (unhide HCP W0 (unhide HB)).mono ?_
  rintro e y ⟨A1, G1, cc1, rfl, hNO, hby⟩
  have HNO := hide hNO
  have HBY := hide hby
  clear hNO hby c0 c1 c2 c3 c4 c5 c6 c7 c8 HCP
  go_upto_region 2 with fail
  refine wp_at (fun W hW => ?_)
  have e5 : W.heap[y.heap.size]? = some (.cells (wkc n A1 (.slice none 0 0)) 186 (0, 0)) := by rw [hW]; exact heap_alloc_new _ _
  have e6 : Below y.heap.size y W := by rw [hW]; exact below_one _ _
  have HK := hide e5
  have HN2 := hide ((unhide HNO).belowN e6)
  have HBY2 := hide ((unhide HBY).trans (e6.mono (unhide HBY).size))
  have HNW := hide (obj_step (unhide HN) (unhide HBY2))
  have HRW := hide (obj_step (unhide HR) (unhide HBY2))
  have HBW := hide ((unhide HB).trans ((unhide HBY2).mono (unhide HB).size))
  have hys : W0.heap.size ≤ y.heap.size := (unhide HBY).size
  clear hW e5 e6 HNO HN HR HB HBY HBY2
  obtain ⟨c0, c1, c2, c3, c4, c5, c6, c7, c8⟩ := nine (unhide HNW)
  have hnl := obj_lt (unhide HNW)
  generalize y.heap.size = wb at *
  go_wp2_with fail
  refine (unhide HOK W (unhide HBW)).mono ?_
  rintro e W2 ⟨rfl, hb2⟩
  have HK2 := hide (obj_step (unhide HK) hb2)
  have HN3 := hide ((unhide HN2).belowN hb2)
  have HR2 := hide (obj_step (unhide HRW) hb2)
  have HBW2 := hide ((unhide HBW).trans (hb2.mono (unhide HBW).size))
  clear hb2 c0 c1 c2 c3 c4 c5 c6 c7 c8 HOK HNW hnl HK HN2 HRW HBW
  go_wp2_with fail
  go_loopw [18] (fun i wr => i = .int .i64 0 ∧ wr = W2) (fun _ _ => 0)
  case atStart => exact ⟨rfl, rfl⟩
  case round =>
    obtain ⟨rfl, rfl⟩ := hrel
    obtain ⟨c0, c1, c2, c3, c4, c5, c6, c7, c8, c9⟩ := tenC (unhide HK2)
    obtain ⟨d0, d1, d2, d3, d4, d5, d6, d7, d8⟩ := nine (unhide HR2)
    have f0 := obj_free (unhide HR2) 0
    have f1 := obj_free (unhide HR2) 1
    have f2 := obj_free (unhide HR2) 2
    have f3 := obj_free (unhide HR2) 3
    have f4 := obj_free (unhide HR2) 4
    have f5 := obj_free (unhide HR2) 5
    have f6 := obj_free (unhide HR2) 6
    have f7 := obj_free (unhide HR2) 7
    have f8 := obj_free (unhide HR2) 8
    have hwl := obj_lt (unhide HK2)
    have hrl := obj_lt (unhide HR2)
    have hnlt : decide ((0 : Int) < ((0 : Nat) : Int)) = false := by simp
    go_wp2_with fail
    refine bodyPost_atN (fun W' hW' => ?_)
    have e9 : W'.heap[w.heap.size + 1]? = some (.cells (ndc n A1) 50 (0, 0)) := by rw [hW']; exact all_nine (unhide HR2)
    obtain ⟨r0, r1, r2, r3, r4, r5, r6, r7, r8⟩ := nine e9
    have hNA : NodeAt W' A1 n := by rw [hW']; exact ((unhide HN3).keepsN (by omega) keeps_nine).at
    have hBB : Below w.heap.size w W' := by rw [hW']; exact below_nine (unhide HBW2) (by omega)
    exact bodyPost_ret (v := ndv n A1) (by simp [results, Tryz.results132, go_sem, r0, r1, r2, r3, r4, r5, r6, r7, r8]) rfl ⟨A1, rfl, hNA, hBB⟩

section
variable {P : Program} {ops : Array Oper} {Q : Exit → Act → World → Prop} {md : Region.Mode}
theorem rangeAt_below {w x : World} {b o : Nat} {cs : List Value} (h : w.rangeAt b o cs) (hb : b < w.heap.size) (hx : Ge w x) : x.rangeAt b o cs := fun j v hv => by
  rw [Below.cell (p := ⟨b, o + j, none⟩) hx hb]
  exact h j v hv
theorem wpMix_mid (i : Nat) {oi : Oper} {fuel : Nat} {listed : Array Bool} {a : Act} {w : World} (hi : ops[i]? = some oi) (hs : Region.noSelect ops = true) (hf : Region.free md ops listed i = true) (hr : (Region.ready md ops listed).contains i = true)
    (hQ : ∀ v c a w, Q (.panic c) (a.put oi.dst v) w → Q (.panic c) a w) (hw : Region.wanted oi (yielded ops a.tmps) = true)
    (ty : TypeId) (x : Operand) (ho : oi.op = .load ty x) (b o : Nat) (hx : a.eval x = .pointer (some ⟨b, o, none⟩)) (cs : List Value) (d : TypeDesc) (hc : w.rangeAt b o cs) (hb : b < w.heap.size)
    (hu : P.underlying ty = some d) (hd : d.isRow = true) (hz : (P.info? ty).map (·.size) = some cs.length)
    (h : wpMix P md ops Q fuel (listed.setIfInBounds i true) (a.put oi.dst (.agg cs.toArray)) w) : wpMix P md ops Q (fuel + 1) listed a w := by
  refine wpMix_first hi (Region.noSelect_spec hs) (hQ _) fuel listed a w (Region.free_spec hi hf) (by simpa using hr) (.inl ⟨hw, fun y hy => ?_⟩) h
  unfold execOp
  simp only [ho, hx, Instr.loadAt, Instr.sureAddr, Sem.run_bind, Sem.run_pure, Result.andThen_ok, run_loadVar_mid y b o ty cs d (rangeAt_below hc hb hy) hu hd hz]
  exact ⟨rfl, rfl⟩
end

/-- Two copies of one node, in rows that do not meet; what lies behind m2 is no part of them. -/
def TwoN (B m m2 : Nat) (n : Nd) (A1 A2 : Ads) (w : World) : Prop :=
  ∃ G1 c1 G2 c2, NO w B n A1 G1 c1 ∧ (∀ x, m ≤ x → c1 x = 9) ∧ NO w m n A2 G2 c2 ∧ ∀ x, m2 ≤ x → c2 x = 9
theorem TwoN.keeps {B m m2 : Nat} {n : Nd} {A1 A2 : Ads} {w w' : World} {F : List Nat} (h : TwoN B m m2 n A1 A2 w) (hm : m ≤ m2) (hk : KeepsL F w w') (hF : ∀ x ∈ F, m2 ≤ x) : TwoN B m m2 n A1 A2 w' := by
  obtain ⟨G1, c1, G2, c2, h1, h2, h3, h4⟩ := h
  exact ⟨G1, c1, G2, c2, h1.kc (KC.keeps hk (fun x hx => h2 x (Nat.le_trans hm (hF x hx)))) (by omega), h2, h3.kc (KC.keeps hk (fun x hx => h4 x (hF x hx))) (by omega), h4⟩
theorem TwoN.below {B m m2 : Nat} {n : Nd} {A1 A2 : Ads} {w w' : World} (h : TwoN B m m2 n A1 A2 w) (hm : m ≤ m2) (hb : Below w.heap.size w w') : TwoN B m m2 n A1 A2 w' := h.keeps (F := []) hm (KeepsL.of_below hb) (fun _ hx => by simp at hx)
theorem TwoN.at1 {B m m2 : Nat} {n : Nd} {A1 A2 : Ads} {w : World} (h : TwoN B m m2 n A1 A2 w) : NodeAt w A1 n := by obtain ⟨_, _, _, _, h1, _⟩ := h; exact h1.at
theorem TwoN.at2 {B m m2 : Nat} {n : Nd} {A1 A2 : Ads} {w : World} (h : TwoN B m m2 n A1 A2 w) : NodeAt w A2 n := by obtain ⟨_, _, _, _, _, _, h3, _⟩ := h; exact h3.at
theorem TwoN.make {y x2 y2 : World} {n : Nd} {A1 A2 : Ads} {G1 G2 : Blks} {c1 c2 : Nat → Nat} {B : Nat} (hB : B ≤ y.heap.size) (h1 : NO y B n A1 G1 c1) (hx : Below y.heap.size y x2) (hy : Below x2.heap.size x2 y2) (h2 : NO y2 x2.heap.size n A2 G2 c2) : TwoN B x2.heap.size y2.heap.size n A1 A2 y2 := by
  have hxy : Below y.heap.size y y2 := hx.trans (hy.mono hx.size)
  refine ⟨G1, newC y.heap.size 9 c1, G2, newC y2.heap.size 9 c2, (h1.recol hB (fun x hx => newC_old hx)).kc (k := 9) (KC.of_below hxy) (by omega), fun x hx2 => newC_new (Nat.le_trans hx.size hx2), h2.recol hy.size (fun x hx => newC_old hx), fun x hx => newC_new hx⟩

abbrev hkc (n : Nd) (A1 A2 : Ads) (st : Int) (l r : Bool) : Array Value := #[.int .i64 n.id, .int .i64 n.par, .slice A1.k n.kids.length A1.ck, .int .i64 n.next, .slice A1.p n.pu.length A1.cp, .slice A1.o n.out.length A1.co, .slice A1.s n.seen.length A1.cs, .int .i64 n.old, .slice A1.r n.reqs.length A1.cr, .int .i32 st, .int .u32 0, .int .i64 n.id, .int .i64 n.par, .slice A2.k n.kids.length A2.ck, .int .i64 n.next, .slice A2.p n.pu.length A2.cp, .slice A2.o n.out.length A2.co, .slice A2.s n.seen.length A2.cs, .int .i64 n.old, .slice A2.r n.reqs.length A2.cr, .string ByteArray.empty, .int .i64 0, .slice none 0 0, .slice none 0 0, .bool l, .bool r]
abbrev nkc (n : Nd) (A1 A2 : Ads) : Array Value := #[.int .i64 n.id, .int .i64 n.par, .slice A1.k n.kids.length A1.ck, .int .i64 n.next, .slice A1.p n.pu.length A1.cp, .slice A1.o n.out.length A1.co, .slice A1.s n.seen.length A1.cs, .int .i64 n.old, .slice A1.r n.reqs.length A1.cr, .int .i64 n.id, .int .i64 n.par, .slice A2.k n.kids.length A2.ck, .int .i64 n.next, .slice A2.p n.pu.length A2.cp, .slice A2.o n.out.length A2.co, .slice A2.s n.seen.length A2.cs, .int .i64 n.old, .slice A2.r n.reqs.length A2.cr, .string ByteArray.empty, .int .i64 0, .slice none 0 0, .slice none 0 0]

set_option maxRecDepth 100000 in
theorem copyMsgs0 (w : World) : Calls Tryz.prog 77 #[.slice none 0 0] w fun e w' => e = .returned (.slice none 0 0) ∧ w = w' := by
  have hc : Calls Tryz.prog 100 #[.slice none 0 0] w fun e w' => e = .returned (.slice none 0 0) ∧ w = w' := by
    have hq : ∀ W : World, (binOp BinOp.eql 51 (.slice none 0 0) (.slice none 0 0)).run Tryz.prog W = .ok (.bool true) W := fun _ => by kernel_rfl
    go_enter Tryz.func100, Tryz.ntmps100
    go_wp2_with fail
    go_ret
    exact ⟨rfl, rfl⟩
  have HC := hide hc
  clear hc
  go_enter Tryz.func77, Tryz.ntmps77
  go_wp2_with fail
  refine (unhide HC).mono ?_
  rintro e w1 ⟨rfl, rfl⟩
  go_wp2_with fail
  go_loopw [9] (fun i wr => i = .int .i64 0 ∧ wr = w) (fun _ _ => 0)
  case atStart => exact ⟨rfl, rfl⟩
  case round =>
    obtain ⟨rfl, rfl⟩ := hrel
    have hnlt : decide ((0 : Int) < ((0 : Nat) : Int)) = false := by simp
    go_wp2_with fail
    go_ret
    exact ⟨rfl, rfl⟩
set_option maxRecDepth 100000 in
theorem copyAnswers0 (w : World) : Calls Tryz.prog 78 #[.slice none 0 0] w fun e w' => e = .returned (.slice none 0 0) ∧ w = w' := by
  have hc : Calls Tryz.prog 101 #[.slice none 0 0] w fun e w' => e = .returned (.slice none 0 0) ∧ w = w' := by
    have hq : ∀ W : World, (binOp BinOp.eql 52 (.slice none 0 0) (.slice none 0 0)).run Tryz.prog W = .ok (.bool true) W := fun _ => by kernel_rfl
    go_enter Tryz.func101, Tryz.ntmps101
    go_wp2_with fail
    go_ret
    exact ⟨rfl, rfl⟩
  have HC := hide hc
  clear hc
  go_enter Tryz.func78, Tryz.ntmps78
  go_wp2_with fail
  refine (unhide HC).mono ?_
  rintro e w1 ⟨rfl, rfl⟩
  go_wp2_with fail
  go_loopw [9] (fun i wr => i = .int .i64 0 ∧ wr = w) (fun _ _ => 0)
  case atStart => exact ⟨rfl, rfl⟩
  case round =>
    obtain ⟨rfl, rfl⟩ := hrel
    have hnlt : decide ((0 : Int) < ((0 : Nat) : Int)) = false := by simp
    go_wp2_with fail
    go_ret
    exact ⟨rfl, rfl⟩
theorem range_row {w : World} {b : Nat} {cs : Array Value} {t : TypeId} {o : Nat} {vs : List Value} (h : w.heap[b]? = some (.cells cs t (0, 0))) (hv : ∀ j v, vs[j]? = some v → cs[o + j]? = some v) : w.rangeAt b o vs := fun j v hj => by
  rw [cell_of_row w b (o + j) _ t (0, 0) h]
  exact hv j v hj
theorem nine_cases {j : Nat} (h : j < 9) : j = 0 ∨ j = 1 ∨ j = 2 ∨ j = 3 ∨ j = 4 ∨ j = 5 ∨ j = 6 ∨ j = 7 ∨ j = 8 := by omega
theorem nkc_range {w : World} {g : Nat} {n : Nd} {A B : Ads} {t : TypeId} (h : w.heap[g]? = some (.cells (nkc n A B) t (0, 0))) : w.rangeAt g 0 (ndc n A).toList ∧ w.rangeAt g 9 (ndc n B).toList := by
  refine ⟨range_row h (fun j v hj => ?_), range_row h (fun j v hj => ?_)⟩
  · have hj9 : j < 9 := (List.getElem?_eq_some_iff.1 hj).1
    rcases nine_cases hj9 with rfl | rfl | rfl | rfl | rfl | rfl | rfl | rfl | rfl <;> exact hj
  · have hj9 : j < 9 := (List.getElem?_eq_some_iff.1 hj).1
    rcases nine_cases hj9 with rfl | rfl | rfl | rfl | rfl | rfl | rfl | rfl | rfl <;> exact hj

set_option maxRecDepth 100000 in
set_option maxHeartbeats 4000000 in
theorem hold0 (n : Nd) (A B : Ads) (w : World) (hz : NdSz n 1048576) (ha : NodeAt w A n) (hb : NodeAt w B n) :
    Calls Tryz.prog 45 #[.agg (nkc n A B)] w fun e w' => ∃ A1 A2 m m2 g, e = .returned (.pointer (some ⟨g, 0, none⟩)) ∧ w.heap.size ≤ m ∧ m ≤ m2 ∧ m2 ≤ g ∧ w'.heap[g]? = some (.cells (hkc n A1 A2 0 false false) 122 (0, 0)) ∧ TwoN w.heap.size m m2 n A1 A2 w' ∧ Below w.heap.size w w' := by
  have HC1 := hide (fun W (h : Below w.heap.size w W) => implCopyNode n B W hz (hb.below h))
  have HC2 := hide (fun W (h : Below w.heap.size w W) => implCopyNode n A W hz (ha.below h))
  clear hz ha hb
  go_enter Tryz.func45, Tryz.ntmps45
  go_upto_region 1 with fail
  refine wp_at (fun W0 hW => ?_)
  have e1 : W0.heap[w.heap.size]? = some (.cells (nkc n A B) 54 (0, 0)) := by rw [hW]; exact heap_alloc_new w _
  have e2 : Below w.heap.size w W0 := by rw [hW]; exact below_one _ _
  have HK := hide e1
  have HB0 := hide e2
  have hl0 := obj_lt e1
  clear hW e1 e2
  refine wp_region_mix (by kernel_rfl) ?_
  show wpMix _ _ _ _ 20 (Array.replicate 20 false) _ _
  have y18 := cell_regrown (show W0.cell? ⟨w.heap.size, 18, none⟩ = some (.string ByteArray.empty) from cell_of_row W0 w.heap.size 18 _ 54 (0, 0) (unhide HK))
  have y19 := cell_regrown (show W0.cell? ⟨w.heap.size, 19, none⟩ = some (.int .i64 0) from cell_of_row W0 w.heap.size 19 _ 54 (0, 0) (unhide HK))
  have y20 := cell_regrown (show W0.cell? ⟨w.heap.size, 20, none⟩ = some (.slice none 0 0) from cell_of_row W0 w.heap.size 20 _ 54 (0, 0) (unhide HK))
  have y21 := cell_regrown (show W0.cell? ⟨w.heap.size, 21, none⟩ = some (.slice none 0 0) from cell_of_row W0 w.heap.size 21 _ 54 (0, 0) (unhide HK))
  obtain ⟨hr0, hr1⟩ := nkc_range (unhide HK)
  refine wpMix_take 0 rfl (by kernel_rfl) (by kernel_rfl) (by kernel_rfl) (fun _ _ _ _ h => h) (fun K hK => ?_)
  go_simp
  first
    | (refine hK _ ?_; clear hK K)
    | (apply Exists.intro
       refine ⟨fun _ => ?_, hK _ ?_⟩
       (rfl)
       clear hK K)
  refine wpMix_mid 1 rfl (by kernel_rfl) (by kernel_rfl) (by kernel_rfl) (fun _ _ _ _ h => h) (by rfl) 50 _ rfl w.heap.size 9 rfl (ndc n B).toList _ hr1 hl0 Tryz.underlying50 rfl (by kernel_rfl) ?_
  refine wpMix_take 3 rfl (by kernel_rfl) (by kernel_rfl) (by kernel_rfl) (fun _ _ _ _ h => h) (fun K hK => ?_)
  go_simp
  first
    | (refine hK _ ?_; clear hK K)
    | (apply Exists.intro
       refine ⟨fun _ => ?_, hK _ ?_⟩
       (rfl)
       clear hK K)
  refine wpMix_mid 4 rfl (by kernel_rfl) (by kernel_rfl) (by kernel_rfl) (fun _ _ _ _ h => h) (by rfl) 50 _ rfl w.heap.size 0 rfl (ndc n A).toList _ hr0 hl0 Tryz.underlying50 rfl (by kernel_rfl) ?_
  refine wpMix_take 6 rfl (by kernel_rfl) (by kernel_rfl) (by kernel_rfl) (fun _ _ _ _ h => h) (fun K hK => ?_)
  go_simp
  first
    | (refine hK _ ?_; clear hK K)
    | (apply Exists.intro
       refine ⟨fun _ => ?_, hK _ ?_⟩
       (rfl)
       clear hK K)
  refine wpMix_take 7 rfl (by kernel_rfl) (by kernel_rfl) (by kernel_rfl) (fun _ _ _ _ h => h) (fun K hK => ?_)
  go_simp
  first
    | (refine hK _ ?_; clear hK K)
    | (apply Exists.intro
       refine ⟨fun _ => ?_, hK _ ?_⟩
       (rfl)
       clear hK K)
  refine wpMix_take 9 rfl (by kernel_rfl) (by kernel_rfl) (by kernel_rfl) (fun _ _ _ _ h => h) (fun K hK => ?_)
  go_simp
  first
    | (refine hK _ ?_; clear hK K)
    | (apply Exists.intro
       refine ⟨fun _ => ?_, hK _ ?_⟩
       (rfl)
       clear hK K)
  refine wpMix_take 10 rfl (by kernel_rfl) (by kernel_rfl) (by kernel_rfl) (fun _ _ _ _ h => h) (fun K hK => ?_)
  go_simp
  first
    | (refine hK _ ?_; clear hK K)
    | (apply Exists.intro
       refine ⟨fun _ => ?_, hK _ ?_⟩
       (rfl)
       clear hK K)
  refine wpMix_take 11 rfl (by kernel_rfl) (by kernel_rfl) (by kernel_rfl) (fun _ _ _ _ h => h) (fun K hK => ?_)
  go_simp
  first
    | (refine hK _ ?_; clear hK K)
    | (apply Exists.intro
       refine ⟨fun _ => ?_, hK _ ?_⟩
       (rfl)
       clear hK K)
  refine wpMix_take 12 rfl (by kernel_rfl) (by kernel_rfl) (by kernel_rfl) (fun _ _ _ _ h => h) (fun K hK => ?_)
  go_simp
  first
    | (refine hK _ ?_; clear hK K)
    | (apply Exists.intro
       refine ⟨fun _ => ?_, hK _ ?_⟩
       (rfl)
       clear hK K)
  refine wpMix_take 14 rfl (by kernel_rfl) (by kernel_rfl) (by kernel_rfl) (fun _ _ _ _ h => h) (fun K hK => ?_)
  go_simp
  first
    | (refine hK _ ?_; clear hK K)
    | (apply Exists.intro
       refine ⟨fun _ => ?_, hK _ ?_⟩
       (rfl)
       clear hK K)
  refine wpMix_take 15 rfl (by kernel_rfl) (by kernel_rfl) (by kernel_rfl) (fun _ _ _ _ h => h) (fun K hK => ?_)
  go_simp
  first
    | (refine hK _ ?_; clear hK K)
    | (apply Exists.intro
       refine ⟨fun _ => ?_, hK _ ?_⟩
       (rfl)
       clear hK K)
  clear y18 y19 y20 y21 HK hl0 hr0 hr1
  refine wpMix_one 2 rfl (by kernel_rfl) (by rfl) (fun x2 hx2 => ?_)
  go_simp
  have g2 := Ge.trans (show Ge w W0 from unhide HB0) hx2
  refine (unhide HC1 x2 g2).mono ?_
  rintro e z2 ⟨A1, G1, cc1, rfl, hN1, hy2⟩
  refine ⟨hy2, ?_⟩
  have HN1 := hide hN1
  have HG2 := hide g2
  have HY2 := hide hy2
  clear hN1 hx2 hy2 g2 HB0 HC1
  refine wpMix_one 5 rfl (by kernel_rfl) (by rfl) (fun x5 hx5 => ?_)
  go_simp
  have g5 : Below w.heap.size w x5 := Ge.trans (unhide HG2) (Ge.trans (unhide HY2) hx5)
  refine (unhide HC2 x5 g5).mono ?_
  rintro e z5 ⟨A2, G2, cc2, rfl, hN2, hy5⟩
  refine ⟨hy5, ?_⟩
  have HT := hide (TwoN.make (unhide HY2).size (unhide HN1) hx5 hy5 hN2)
  have HM1 := hide (show w.heap.size ≤ x5.heap.size from g5.size)
  have HM2 := hide hy5.size
  have HG5 := hide (show Below w.heap.size w z5 from Ge.trans g5 hy5)
  have hwx2 : w.heap.size ≤ x2.heap.size := (unhide HG2).size
  clear hx5 hy5 hN2 g5 HN1 HG2 HY2 HC2
  refine wpMix_one 8 rfl (by kernel_rfl) (by rfl) (fun x8 hx8 => ?_)
  go_simp
  refine (clone ByteArray.empty _ (by simp)).mono ?_
  rintro e z8 ⟨rfl, hy8⟩
  refine ⟨hy8, ?_⟩
  have HX8 := hide (show Below z5.heap.size z5 z8 from Ge.trans hx8 hy8)
  clear hx8 hy8
  refine wpMix_one 13 rfl (by kernel_rfl) (by rfl) (fun x13 hx13 => ?_)
  go_simp
  refine (copyMsgs0 _).mono ?_
  rintro e z13 ⟨rfl, rfl⟩
  refine ⟨Below.refl _ _, ?_⟩
  have HX13 := hide (show Below z5.heap.size z5 x13 from Ge.trans (unhide HX8) hx13)
  clear hx13 HX8
  refine wpMix_one 16 rfl (by kernel_rfl) (by rfl) (fun x16 hx16 => ?_)
  go_simp
  refine (copyAnswers0 _).mono ?_
  rintro e z16 ⟨rfl, rfl⟩
  refine ⟨Below.refl _ _, ?_⟩
  have HX16 := hide (show Below z5.heap.size z5 x16 from Ge.trans (unhide HX13) hx16)
  clear hx16 HX13
  refine wpMix_take 17 rfl (by kernel_rfl) (by kernel_rfl) (by kernel_rfl) (fun _ _ _ _ h => h) (fun K hK => ?_)
  go_simp
  first
    | (refine hK _ ?_; clear hK K)
    | (apply Exists.intro
       refine ⟨fun _ => ?_, hK _ ?_⟩
       (rfl)
       clear hK K)
  refine wpMix_one 18 rfl (by kernel_rfl) (by rfl) (fun x18 hx18 => ?_)
  go_simp
  refine ⟨below_one _ _, ?_⟩
  have HX18 := hide (show Below z5.heap.size z5 x18 from Ge.trans (unhide HX16) hx18)
  clear hx18 HX16
  refine wpMix_one 19 rfl (by kernel_rfl) (by rfl) (fun x19 hx19 => ?_)
  go_simp
  refine ⟨Below.refl _ _, ?_⟩
  refine wpMix_done (by kernel_rfl) (fun z hz => ?_)
  have HZ := hide (show Below (x18.alloc (.cells (hkc n A1 A2 0 false false) 122)).heap.size (x18.alloc (.cells (hkc n A1 A2 0 false false) 122)) z from Ge.trans hx19 hz)
  clear hx19 hz
  go_wp2_with fail
  have hzz : Below z5.heap.size z5 z := Ge.trans (unhide HX18) (Ge.trans (below_one x18 _) (unhide HZ))
  exact bodyPost_ret (v := .pointer (some ⟨x18.heap.size, 0, none⟩)) (by simp [results, Tryz.results45, go_sem]) rfl ⟨A1, A2, x5.heap.size, z5.heap.size, x18.heap.size, rfl, unhide HM1, unhide HM2, (unhide HX18).size, obj_step (heap_alloc_new x18 _) (unhide HZ), by
    obtain ⟨G1', c1', G2', c2', t1, t2, t3, t4⟩ := (unhide HT).below (unhide HM2) hzz
    exact ⟨G1', c1', G2', c2', t1.base hwx2, t2, t3, t4⟩, Ge.trans (unhide HG5) hzz⟩
end Go.Proofs.YtbanjohfcnadfaaGreatDoor
