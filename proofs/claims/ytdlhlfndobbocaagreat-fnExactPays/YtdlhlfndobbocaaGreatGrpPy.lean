/-
  Texts of ours in one, so that the claim keeps to its count: NdPayS, NdPaysS, NdSay, NdTick, NdPaysI, NdMsgL, NdLawPays.
-/
import Derived.Test.YtdlhlfndobbocaaGreatNdPayM
import Derived.Test.YtdlhlfndobbocaaGreatNdNode
import Derived.Deep.RegionHeldLaw
import Derived.Deep.AppendLies
import Derived.Test.YtdlhlfndobbocaaGreatClone
import Derived.Deep.RegionLaw
import Derived.Test.YtdlhlfndobbocaaGreatNdI5
import Derived.Test.YtdlhlfndobbocaaGreatNdMark
import Derived.Test.YtdlhlfndobbocaaGreatNdMarkN
import Derived.Test.YtdlhlfndobbocaaGreatNdOpen
import Derived.Test.YtdlhlfndobbocaaGreatMix
namespace Go.Proofs.YtdlhlfndobbocaaGreat
open Go.RowKit
open Mth

/-- An append onto a row of the call's own, at a step of a region that draws. -/
theorem step_append_ownM {P : Program} (w : World) {ops : Array Oper} {o : Oper} {a : Act} {K : Act → World → Prop} {Q : Exit → Act → World → Prop} {E : Prop} (hgd : o.guard = none) (s x : Operand) (t : TypeId)
    (ho : o.op = .call { callee := .builtin .append, args := #[s, x], argTypes := #[t, t] })
    (base : Nat) (e : TypeId) (i : TypeInfo) (z : Value) (size bytes : Nat) (ht : P.underlying t = some (.slice e)) (hi : P.info? e = some i) (hz : i.zero = some z)
    (hsize : i.size = size) (hby : i.bytes = bytes) (hzs : z.cells.size = size) (hsz : 0 < size)
    (v : Value) (n : Nat) (xs : List Value) (hs : a.eval s = v) (hown : w.ownsRow base e size v n xs)
    (ad : Addr) (m c : Nat) (news : List Value) (hx : a.eval x = .slice (some ad) m c) (hl : news.length = m * size) (hnews : ∀ j u, news[j]? = some u → w.cell? (ad.add j) = some u) (h1 : ∀ u ∈ news, u.oneCell' = true)
    (h63 : n + m ≤ maxLen) (hbytes : (n + m) * bytes ≤ 140737488355328) (hbase : base ≤ w.heap.size)
    (h : ∀ v' w', w'.ownsRow base e size v' (n + m) (xs ++ news) → w.grownBy w' v.ownBlock → (v' = .slice none 0 0 ↔ v = .slice none 0 0 ∧ m = 0) → K (a.put o.dst v') w') :
    if Region.wanted o (yielded ops a.tmps) = true then Oper.wp P o a w K Q else E := by
  have hw : Region.wanted o (yielded ops a.tmps) = true := by simp [Region.wanted, hgd]
  rw [if_pos hw]
  exact wp_append_own w s x t ho base e i z size bytes ht hi hz hsize hby hzs hsz v n xs hs hown ad m c news hx hl hnews h1 h63 hbytes hbase h
theorem grown_belowM {w w' : World} {B : Nat} {row : Option Nat} (hk : w.grownBy w' row) (hg : ∀ k, row = some k → B ≤ k) (hB : B ≤ w.heap.size) : Below B w w' := ⟨hk.os, hk.tape, hk.output, hk.size, fun k hl => hk.block k (by omega) (fun e => by have := hg k e.symm; omega)⟩
theorem GR.At.heap {α : Type} {enc : α → List Value} {sz : Nat} {w w1 : World} {a : Option Addr} {l : List α} (h : GR.At enc sz w a l) (e : w1.heap = w.heap) : GR.At enc sz w1 a l := fun i hi => by
  obtain ⟨g, off, e0, hg, hc⟩ := h i hi
  exact ⟨g, off, e0, by rw [e]; exact hg, fun j hj => (World.cell?_of_block (w := w) (by rw [e])).trans (hc j hj)⟩
theorem far7 {w : World} {g h i : Nat} {u b0 b1 b2 b3 b4 b5 b6 : Value} (hne : g ≠ h) (e : w.cell? ⟨h, i, none⟩ = some u) :
    (((((((w.setCell ⟨g, 0, none⟩ b0).setCell ⟨g, 1, none⟩ b1).setCell ⟨g, 2, none⟩ b2).setCell ⟨g, 3, none⟩ b3).setCell ⟨g, 4, none⟩ b4).setCell ⟨g, 5, none⟩ b5).setCell ⟨g, 6, none⟩ b6).cell? ⟨h, i, none⟩ = some u := by
  rw [World.cell?_setCell_far _ _ _ _ hne, World.cell?_setCell_far _ _ _ _ hne, World.cell?_setCell_far _ _ _ _ hne, World.cell?_setCell_far _ _ _ _ hne, World.cell?_setCell_far _ _ _ _ hne, World.cell?_setCell_far _ _ _ _ hne, World.cell?_setCell_far _ _ _ _ hne]
  exact e
/-- What a function that answers messages gives. -/
def GivesM (w : World) (L : List Mg) (e : Ending) (w' : World) : Prop := ∃ a c, e = .returned (.slice a L.length c) ∧ ∃ g, GR.W encM 7 w' a g L ∧ (∀ x ∈ fp g L, w.heap.size ≤ x ∧ x < w'.heap.size) ∧ Below w.heap.size w w'
set_option maxRecDepth 100000 in
set_option maxHeartbeats 4000000 in
theorem specPay (n : Nd) (A : Ads) (s : Snt) (w : World) (hl : n.out.length ≤ 1048600) (ha : SentAt w A.o n.out) :
    Calls Tryz.prog 19 #[ndv n A, SentV s] w fun e w' => e = .returned (mgv (payM n s)) ∧ Below w.heap.size w w' := by
  obtain ⟨hP, hR, hO, hB⟩ := allocs3 w (.cells (ndc n A) 37) (.cells #[.int .i64 s.i, .int .i64 s.t, .string s.k, .int .i64 s.n] 54) (.cells zm7 51)
  have HPM : Hid (payM n s = ⟨1, n.id, s.t, s.i, lowOf n.out s.t s.i, s.k, s.n⟩) := rfl
  have HLW := hide (fun W (hb : Below w.heap.size w W) w1 (h : w1.heap = W.heap) => specLow n A s.t s.i w1 hl (GR.At.heap (GR.At.below ha hb) h))
  rw [unhide HPM]
  generalize lowOf n.out s.t s.i = LO at *
  obtain ⟨id, par, kids, next, pu, out, seen, old, reqs⟩ := n
  obtain ⟨ak, ap, ao, as', ar, ck, cp, co, cs, cr⟩ := A
  obtain ⟨si, st, sx, sn⟩ := s
  dsimp only at hl HLW hP hR hO hB ⊢
  have HP := hide hP
  have HR := hide hR
  have HO := hide hO
  have HB := hide hB
  clear ha hP hR hO hB HPM
  go_enter Tryz.func19, Tryz.ntmps19
  go_upto_region 1 with fail
  refine wp_at (fun W hW => ?_)
  rw [← hW] at HP HR HO HB
  have HLW1 := hide (unhide HLW W (unhide HB))
  have hz2 : w.heap.size + 1 + 1 < W.heap.size := obj_lt (unhide HO)
  have hz1 : w.heap.size + 1 < W.heap.size := by omega
  have hz0 : w.heap.size < W.heap.size := by omega
  have hne0 : w.heap.size + 1 + 1 ≠ w.heap.size := by omega
  have hne1 : w.heap.size + 1 + 1 ≠ w.heap.size + 1 := by omega
  clear hW HLW
  obtain ⟨c0, c1, c2, c3, c4, c5, c6, c7, c8⟩ := nine (unhide HP)
  obtain ⟨d0, d1, d2, d3⟩ := fourC (unhide HR)
  go_region_held (fun w' => (w'.cell? ⟨w.heap.size, 0, none⟩ = some (.int .i64 id) ∧ w'.cell? ⟨w.heap.size, 1, none⟩ = some (.int .i64 par) ∧ w'.cell? ⟨w.heap.size, 2, none⟩ = some (.slice ak kids.length ck) ∧ w'.cell? ⟨w.heap.size, 3, none⟩ = some (.int .i64 next) ∧ w'.cell? ⟨w.heap.size, 4, none⟩ = some (.slice ap pu.length cp) ∧ w'.cell? ⟨w.heap.size, 5, none⟩ = some (.slice ao out.length co) ∧ w'.cell? ⟨w.heap.size, 6, none⟩ = some (.slice as' seen.length cs) ∧ w'.cell? ⟨w.heap.size, 7, none⟩ = some (.int .i64 old) ∧ w'.cell? ⟨w.heap.size, 8, none⟩ = some (.slice ar reqs.length cr)) ∧ w'.cell? ⟨w.heap.size + 1, 0, none⟩ = some (.int .i64 si) ∧ w'.cell? ⟨w.heap.size + 1, 1, none⟩ = some (.int .i64 st) ∧ w'.cell? ⟨w.heap.size + 1, 2, none⟩ = some (.string sx) ∧ w'.cell? ⟨w.heap.size + 1, 3, none⟩ = some (.int .i64 sn)) (first | go_keep | (refine ⟨⟨?_, ?_, ?_, ?_, ?_, ?_, ?_, ?_, ?_⟩, ?_, ?_, ?_, ?_⟩ <;> first | exact far7 hne0 (by assumption) | exact far7 hne1 (by assumption)))
    (first
      | (go_at_call 51; refine (unhide HLW1 W.drew rfl).mono ?_; rintro e w5 ⟨rfl, hb5⟩; have hb6 : Below W.heap.size W w5 := ⟨hb5.os, hb5.tape, hb5.output, hb5.size, hb5.block⟩; clear hb5; have HP5 := hide (obj_step (unhide HP) hb6); have HR5 := hide (obj_step (unhide HR) hb6); have HO5 := hide (obj_step (unhide HO) hb6); have HB5 := hide ((unhide HB).trans (hb6.mono (unhide HB).size)); clear hb6; obtain ⟨y0, y1, y2, y3, y4, y5, y6, y7, y8⟩ := nine (unhide HP5); obtain ⟨z0, z1, z2, z3⟩ := fourC (unhide HR5); obtain ⟨r0, r1, r2, r3, r4, r5, r6⟩ := sevenC (unhide HO5); have f0 := obj_free (unhide HO5) 0; have f1 := obj_free (unhide HO5) 1; have f2 := obj_free (unhide HO5) 2; have f3 := obj_free (unhide HO5) 3; have f4 := obj_free (unhide HO5) 4; have f5 := obj_free (unhide HO5) 5; have f6 := obj_free (unhide HO5) 6))
  all_goals
    go_wp2_with fail
    refine bodyPost_atN (fun W' hW' => ?_)
    have hR := seven_setN (b0 := .int .i64 1) (b1 := .int .i64 id) (b2 := .int .i64 st) (b3 := .int .i64 si) (b4 := .int .i64 LO) (b5 := .string sx) (b6 := .int .i64 sn) (unhide HO5)
    have hK := seven_keepsN (w := w5) (g := w.heap.size + 1 + 1) (b0 := .int .i64 1) (b1 := .int .i64 id) (b2 := .int .i64 st) (b3 := .int .i64 si) (b4 := .int .i64 LO) (b5 := .string sx) (b6 := .int .i64 sn)
    rw [← hW'] at hR hK
    obtain ⟨x0, x1, x2, x3, x4, x5, x6⟩ := sevenC hR
    refine bodyPost_ret (v := .agg #[.int .i64 1, .int .i64 id, .int .i64 st, .int .i64 si, .int .i64 LO, .string sx, .int .i64 sn]) (by simp [results, Tryz.results19, go_sem, x0, x1, x2, x3, x4, x5, x6]) rfl ⟨rfl, (unhide HB5).trans (hK.below (fun x hx => by have : x = w.heap.size + 1 + 1 := (by simpa using hx); omega) (unhide HB5).size)⟩
end Go.Proofs.YtdlhlfndobbocaaGreat
namespace Go.Proofs.YtdlhlfndobbocaaGreat
open Go.RowKit
open Mth

theorem GivesM.of_own {w w' : World} {B : Nat} {v : Value} {L : List Mg} {n : Nat} (hn : n = L.length) (h : w'.ownsRow B 51 7 v n (GR.flat encM L)) (hB : w.heap.size ≤ B) (hb : Below w.heap.size w w') : GivesM w L (.returned v) w' := by
  subst hn
  obtain ⟨a, c, g, rfl, hW, hr, _⟩ := GR.W.of_own encM_length h
  exact ⟨a, c, rfl, g, hW, fun x hx => ⟨Nat.le_trans hB (hr x hx).1, (hr x hx).2⟩, hb⟩
theorem flat_snoc {α : Type} (enc : α → List Value) (l : List α) (x : α) : GR.flat enc (l ++ [x]) = GR.flat enc l ++ enc x := by
  rw [GR.flat_append]
  simp [GR.flat]
set_option maxRecDepth 100000 in
set_option maxHeartbeats 4000000 in
theorem specPays (n : Nd) (A : Ads) (w : World) (hsz : NdSz n 1048600) (ha : NodeAt w A n) :
    Calls Tryz.prog 5 #[ndv n A] w (GivesM w (paysL n)) := by
  obtain ⟨i0, hi, hz0, hz1, hz2⟩ := info_parts infoMsg
  have HOK := hide (fun W (hb : Below w.heap.size w W) => specNodeOk n A W hsz (ha.below hb))
  have HPY := hide (fun s W (hb : Below w.heap.size w W) w1 (h : w1.heap = W.heap) => specPay n A s w1 hsz.o (GR.At.heap (GR.At.below ha.o hb) h))
  obtain ⟨L, hL⟩ : ∃ L, paysL n = L := ⟨_, rfl⟩
  have HPL : Hid (L = if ndOk n then n.out.map (payM n) else []) := hL.symm
  have HPB := hide (heap_alloc_new w (.cells (ndc n A) 37))
  have HAO := hide ha.o
  have hlo := hsz.o
  rw [hL]
  clear hL
  generalize ndOk n = OK at *
  generalize payM n = PM at *
  clear ha hsz
  obtain ⟨id, par, kids, next, pu, out, seen, old, reqs⟩ := n
  obtain ⟨ak, ap, ao, as', ar, ck, cp, co, cs, cr⟩ := A
  dsimp only at hlo HAO HPB HOK HPY HPL ⊢
  go_enter Tryz.func5, Tryz.ntmps5
  go_upto_region 1 with fail
  refine wp_at (fun W0 hW0 => ?_)
  rw [← hW0] at HPB
  have HB0 : Hid (Below w.heap.size w W0) := by rw [hW0]; exact below_one w _
  have hlt0 : w.heap.size < W0.heap.size := obj_lt (unhide HPB)
  have hnw0 : w.heap.size ≠ W0.heap.size := by omega
  clear hW0
  have HLIT : Hid ((W0.alloc (.cells #[] 51)).ownsRow W0.heap.size 51 7 (.slice (some ⟨W0.heap.size, 0, none⟩) 0 0) 0 []) := World.ownsRow_lit (base := W0.heap.size) (e := 51) (size := 7) W0 #[] 0 (Nat.le_refl _) (by decide) rfl
  go_wp2_with fail
  go_loopw [3, 4] (fun ov i wr => ∃ (k : Nat) (va : Option Addr) (vc : Nat), k ≤ out.length ∧ i = .int .i64 k ∧ ov = .slice va k vc ∧ wr.ownsRow W0.heap.size 51 7 (.slice va k vc) k (GR.flat encM ((out.take k).map PM)) ∧ Below W0.heap.size W0 wr ∧ (0 < k → OK = true)) (fun _ i _ => out.length - (intOf i).toNat)
  case atStart => exact ⟨0, some ⟨W0.heap.size, 0, none⟩, 0, Nat.zero_le _, rfl, rfl, unhide HLIT, below_one W0 _, fun h => by omega⟩
  case round =>
    obtain ⟨k, va, vc, hk, rfl, rfl, hown, hbel, hpos⟩ := hrel
    have HO := hide hown
    have HBL := hide hbel
    have HW := hide ((unhide HB0).trans (hbel.mono (unhide HB0).size))
    have HP1 := hide (obj_step (unhide HPB) hbel)
    clear hown hbel HLIT
    obtain ⟨c0, c1, c2, c3, c4, c5, c6, c7, c8⟩ := nine (unhide HP1)
    by_cases hlt : k < out.length
    · obtain ⟨g, off, e0, hg, q0, q1, q2, q3⟩ := SentAt.four (GR.At.below (unhide HAO) (unhide HB0)) k hlt
      subst e0
      have HOK1 := hide (unhide HOK wr (unhide HW))
      go_wp2_with fail
      refine (unhide HOK1).mono ?_
      rintro e w4 ⟨rfl, hb4⟩
      have HO4 := hide (GR.own_below (unhide HO) hb4)
      have HBL4 := hide ((unhide HBL).trans (hb4.mono (unhide HBL).size))
      clear hb4 HOK1 c0 c1 c2 c3 c4 c5 c6 c7 c8 HP1 HBL HW HO
      have HP4 := hide (obj_step (unhide HPB) (unhide HBL4))
      have HW4 := hide ((unhide HB0).trans ((unhide HBL4).mono (unhide HB0).size))
      cases hOK : OK
      · have hk0 : k = 0 := by
          rcases Nat.eq_zero_or_pos k with h | h
          · exact h
          · exact absurd (hpos h) (by rw [hOK]; simp)
        subst hk0
        have HE : Hid (L = []) := by rw [unhide HPL, hOK]; rfl
        clear hpos hOK HPL
        go_wp2_with fail
        go_ret
        rw [unhide HE]
        exact GivesM.of_own rfl (unhide HO4) (by omega) (unhide HW4)
      · clear hpos
        have HPYk := hide (unhide HPY out[k] w4 (unhide HW4))
        have HT := hide (show (out.take (k + 1)).map PM = (out.take k).map PM ++ [PM out[k]] by rw [List.take_succ_eq_append_getElem hlt, List.map_append]; rfl)
        generalize out[k] = sk at *
        generalize PM sk = mk at *
        obtain ⟨si, st, sx, sn⟩ := sk
        obtain ⟨mK, mF, mT, mI, mL, mk, mN⟩ := mk
        dsimp only at q0 q1 q2 q3
        have HQ0 := hide q0
        have HQ1 := hide q1
        have HQ2 := hide q2
        have HQ3 := hide q3
        have x0 := ((unhide HBL4).cell (p := ⟨g, off + k * 4, none⟩) hg).trans q0
        have x1 := ((unhide HBL4).cell (p := ⟨g, off + k * 4 + 1, none⟩) hg).trans q1
        have x2 := ((unhide HBL4).cell (p := ⟨g, off + k * 4 + 2, none⟩) hg).trans q2
        have x3 := ((unhide HBL4).cell (p := ⟨g, off + k * 4 + 3, none⟩) hg).trans q3
        clear q0 q1 q2 q3
        obtain ⟨c0, c1, c2, c3, c4, c5, c6, c7, c8⟩ := nine (unhide HP4)
        go_wp2_with fail
        go_region_held_law (fun w' => (w'.cell? ⟨w.heap.size, 0, none⟩ = some (.int .i64 id) ∧ w'.cell? ⟨w.heap.size, 1, none⟩ = some (.int .i64 par) ∧ w'.cell? ⟨w.heap.size, 2, none⟩ = some (.slice ak kids.length ck) ∧ w'.cell? ⟨w.heap.size, 3, none⟩ = some (.int .i64 next) ∧ w'.cell? ⟨w.heap.size, 4, none⟩ = some (.slice ap pu.length cp) ∧ w'.cell? ⟨w.heap.size, 5, none⟩ = some (.slice (some ⟨g, off, none⟩) out.length co) ∧ w'.cell? ⟨w.heap.size, 6, none⟩ = some (.slice as' seen.length cs) ∧ w'.cell? ⟨w.heap.size, 7, none⟩ = some (.int .i64 old) ∧ w'.cell? ⟨w.heap.size, 8, none⟩ = some (.slice ar reqs.length cr)) ∧ w'.cell? ⟨g, off + k * 4, none⟩ = some (.int .i64 si) ∧ w'.cell? ⟨g, off + k * 4 + 1, none⟩ = some (.int .i64 st) ∧ w'.cell? ⟨g, off + k * 4 + 2, none⟩ = some (.string sx) ∧ w'.cell? ⟨g, off + k * 4 + 3, none⟩ = some (.int .i64 sn)) (go_keep)
          (first
            | ((go_at_call 19); (refine (unhide HPYk w4.drew rfl).mono ?_); (rintro e w5 ⟨rfl, hb5⟩); (have hb6 : Below w4.heap.size w4 w5 := ⟨hb5.os, hb5.tape, hb5.output, hb5.size, hb5.block⟩); (clear hb5); (have HO5 := hide (GR.own_below (unhide HO4) hb6)); (have HBL5 := hide ((unhide HBL4).trans (hb6.mono (unhide HBL4).size))); (clear hb6); (have HP5 := hide (obj_step (unhide HPB) (unhide HBL5))); (obtain ⟨y0, y1, y2, y3, y4, y5, y6, y7, y8⟩ := nine (unhide HP5)); (have u0 := ((unhide HBL5).cell (p := ⟨g, off + k * 4, none⟩) hg).trans (unhide HQ0)); (have u1 := ((unhide HBL5).cell (p := ⟨g, off + k * 4 + 1, none⟩) hg).trans (unhide HQ1)); (have u2 := ((unhide HBL5).cell (p := ⟨g, off + k * 4 + 2, none⟩) hg).trans (unhide HQ2)); (have u3 := ((unhide HBL5).cell (p := ⟨g, off + k * 4 + 3, none⟩) hg).trans (unhide HQ3)))
            | ((refine step_append_ownM _ rfl (.tmp 17) (.tmp 25) 30 rfl W0.heap.size 51 i0 (.agg #[.int .i64 0, .int .i64 0, .int .i64 0, .int .i64 0, .int .i64 0, .string ByteArray.empty, .int .i64 0]) 7 64 Tryz.underlying30 hi hz0 hz1 hz2 rfl (by decide) (.slice va k vc) k (GR.flat encM ((out.take k).map PM)) (by simp [Act.eval]) ((unhide HO5).alloc _) ⟨w5.heap.size, 0, none⟩ 1 1 (encM ⟨mK, mF, mT, mI, mL, mk, mN⟩) (by simp [Act.eval]) rfl (World.news_of_block (heap_alloc_new w5 _)) (encM_one _) (by unfold maxLen; omega) (by omega) (Nat.le_trans (unhide HBL5).size (by simp)) ?_); (intro v6 w6 hown6 hgr6 hnil6); (have hown7 : w6.ownsRow W0.heap.size 51 7 v6 (k + 1) (GR.flat encM ((out.take (k + 1)).map PM)) := by rw [unhide HT, flat_snoc]; exact hown6); (obtain ⟨va6, vc6, hv6, _⟩ := GR.own_at (enc := encM) (sz := 7) (l := (out.take (k + 1)).map PM) encM_length (by rw [List.length_map, List.length_take, Nat.min_eq_left (by omega)]; exact hown7)); (rw [List.length_map, List.length_take, Nat.min_eq_left (by omega)] at hv6); (subst hv6); (have HO6 := hide hown7); (have HBL6 := hide (show Below W0.heap.size W0 w6 from ((unhide HBL5).alloc (unhide HBL5).size _).trans (grown_belowM hgr6 (fun k e => ((unhide HO5).lt k e).1) (Nat.le_trans (unhide HBL5).size (by simp))))); (clear hown6 hgr6 hnil6 hown7); (have HP6 := hide (obj_step (unhide HPB) (unhide HBL6))); (obtain ⟨z0, z1, z2, z3, z4, z5, z6, z7, z8⟩ := nine (unhide HP6)); (have t0 := ((unhide HBL6).cell (p := ⟨g, off + k * 4, none⟩) hg).trans (unhide HQ0)); (have t1 := ((unhide HBL6).cell (p := ⟨g, off + k * 4 + 1, none⟩) hg).trans (unhide HQ1)); (have t2 := ((unhide HBL6).cell (p := ⟨g, off + k * 4 + 2, none⟩) hg).trans (unhide HQ2)); (have t3 := ((unhide HBL6).cell (p := ⟨g, off + k * 4 + 3, none⟩) hg).trans (unhide HQ3)))
            | fail)
        all_goals
          go_wp2_with fail
          go_roundw
          case rel => exact ⟨k + 1, va6, vc6, by omega, by go_num, rfl, unhide HO6, unhide HBL6, fun _ => hOK⟩
          case measure => simp [intOf]; omega
    · have hke : k = out.length := by omega
      subst hke
      have hnlt : decide ((out.length : Int) < (out.length : Int)) = false := by simp
      have HRS : Hid (L = (out.take out.length).map PM) := by
        rw [unhide HPL, List.take_length]
        cases hOK : OK
        · rcases Nat.eq_zero_or_pos out.length with h | h
          · rw [List.eq_nil_of_length_eq_zero h]
            rfl
          · exact absurd (hpos h) (by rw [hOK]; simp)
        · rfl
      clear hpos
      go_wp2_with fail
      go_ret
      rw [unhide HRS]
      exact GivesM.of_own (by simp) (unhide HO) (by omega) (unhide HW)
end Go.Proofs.YtdlhlfndobbocaaGreat
namespace Go.Proofs.YtdlhlfndobbocaaGreat
open Go.RowKit
open Mth

/-- A worker's cells. -/
abbrev wkc (n : Nd) (A : Ads) (v : Value) : Array Value := #[.int .i64 n.id, .int .i64 n.par, .slice A.k n.kids.length A.ck, .int .i64 n.next, .slice A.p n.pu.length A.cp, .slice A.o n.out.length A.co, .slice A.s n.seen.length A.cs, .int .i64 n.old, .slice A.r n.reqs.length A.cr, v]
theorem tenC {w : World} {g : Nat} {v0 v1 v2 v3 v4 v5 v6 v7 v8 v9 : Value} {t : TypeId} (h : w.heap[g]? = some (.cells #[v0, v1, v2, v3, v4, v5, v6, v7, v8, v9] t (0, 0))) :
    w.cell? ⟨g, 0, none⟩ = some v0 ∧ w.cell? ⟨g, 1, none⟩ = some v1 ∧ w.cell? ⟨g, 2, none⟩ = some v2 ∧ w.cell? ⟨g, 3, none⟩ = some v3 ∧ w.cell? ⟨g, 4, none⟩ = some v4 ∧ w.cell? ⟨g, 5, none⟩ = some v5 ∧ w.cell? ⟨g, 6, none⟩ = some v6 ∧ w.cell? ⟨g, 7, none⟩ = some v7 ∧ w.cell? ⟨g, 8, none⟩ = some v8 ∧ w.cell? ⟨g, 9, none⟩ = some v9 := by
  have hc : ∀ i, w.cell? ⟨g, i, none⟩ = #[v0, v1, v2, v3, v4, v5, v6, v7, v8, v9][i]? := fun i => cell_of_row w g i _ t (0, 0) h
  exact ⟨hc 0, hc 1, hc 2, hc 3, hc 4, hc 5, hc 6, hc 7, hc 8, hc 9⟩
structure WS (w2 wr : World) (wb : Nat) (n : Nd) (A : Ads) (v : Value) (L : List Mg) : Prop where
  keep : KeepsL [wb] w2 wr
  blk : wr.heap[wb]? = some (.cells (wkc n A v) 61 (0, 0))
  own : wr.ownsRow w2.heap.size 51 7 v L.length (GR.flat encM L)
  lt : wb < w2.heap.size
theorem WS.step {w2 wr w' : World} {wb : Nat} {n : Nd} {A : Ads} {v : Value} {L : List Mg} (h : WS w2 wr wb n A v L) (hb : Below wr.heap.size wr w') : WS w2 w' wb n A v L :=
  ⟨h.keep.trans (KeepsL.of_below hb), obj_step h.blk hb, GR.own_below h.own hb, h.lt⟩
theorem WS.set {w2 wr : World} {wb g i : Nat} {n : Nd} {A : Ads} {v u : Value} {L : List Mg} (h : WS w2 wr wb n A v L) (hg : w2.heap.size ≤ g) (hv : v.ownBlock ≠ some g) : WS w2 (wr.setCell ⟨g, i, none⟩ u) wb n A v L := by
  have hlt := h.lt
  refine ⟨?_, ?_, ?_, hlt⟩
  · refine ⟨h.keep.os, h.keep.tape, h.keep.output, by have := h.keep.size; simpa [World.setCell] using this, fun k hk hkn => ?_⟩
    have hkg : k ≠ g := by omega
    rw [Below.heap_setCell _ _ _ _ hkg]
    exact h.keep.block k hk hkn
  · have hkg : wb ≠ g := by omega
    rw [Below.heap_setCell _ _ _ _ hkg]; exact h.blk
  · refine h.own.kept (row := some g) ⟨rfl, rfl, rfl, by simp [World.setCell], fun k _ hk => Below.heap_setCell _ _ _ _ (fun e => hk (by rw [e]))⟩ ?_
    cases hv' : v.ownBlock with
    | none => exact .inl rfl
    | some k => exact .inr (fun e => hv (by rw [hv', e]))
theorem WS.app {w2 wr w6 : World} {wb : Nat} {n : Nd} {A : Ads} {v v' : Value} {L : List Mg} {o : Obj} (h : WS w2 wr wb n A v L) (m : Mg)
    (hown : w6.ownsRow w2.heap.size 51 7 v' (L.length + 1) (GR.flat encM L ++ encM m)) (hg : (wr.alloc o).grownBy w6 v.ownBlock) :
    w6.heap[wb]? = some (.cells (wkc n A v) 61 (0, 0)) ∧ WS w2 (w6.setCell ⟨wb, 9, none⟩ v') wb n A v' (L ++ [m]) := by
  have hvb : ∀ k, v.ownBlock = some k → w2.heap.size ≤ k := fun k hk => (h.own.lt k hk).1
  have hlt := h.lt
  have hsz := h.keep.size
  have hblk6 : w6.heap[wb]? = some (.cells (wkc n A v) 61 (0, 0)) := by
    rw [hg.block wb (by simp; omega) (fun e => by have := hvb wb e.symm; omega), Below.heap_alloc _ _ _ (by omega)]
    exact h.blk
  have hne : ∀ k, v'.ownBlock = some k → k ≠ wb := fun k hk => by have := (hown.lt k hk).1; omega
  refine ⟨hblk6, ?_, ?_, ?_, hlt⟩
  · refine ⟨hg.os.trans h.keep.os, hg.tape.trans h.keep.tape, hg.output.trans h.keep.output, ?_, fun k hk hkn => ?_⟩
    · have := hg.size
      simp [World.setCell] at this ⊢
      omega
    · have hkn' : k ≠ wb := by simpa using hkn
      rw [Below.heap_setCell _ _ _ _ hkn', hg.block k (by simp; omega) (fun e => by have := hvb k e.symm; omega), Below.heap_alloc _ _ _ (by omega)]
      exact h.keep.block k hk hkn
  · exact blk_setO hblk6 9 v'
  · rw [List.length_append, flat_snoc]
    refine hown.kept (row := some wb) ⟨rfl, rfl, rfl, by simp [World.setCell], fun k _ hk => Below.heap_setCell _ _ _ _ (fun e => hk (by rw [e]))⟩ ?_
    cases hv : v'.ownBlock with
    | none => exact .inl rfl
    | some k => exact .inr (fun e => hne k hv (by injection e))
theorem say_keeps {w W w6 : World} {wb : Nat} {v v6 : Value} {o : Obj} (hb : Below w.heap.size w W) (hg : (W.alloc o).drew.grownBy w6 v.ownBlock) : KeepsL (wb :: v.ownBlock.toList) w (w6.setCell ⟨wb, 9, none⟩ v6) := by
  have hs := hb.size
  have hs6 := hg.size
  refine ⟨hg.os.trans hb.os, hg.tape.trans hb.tape, hg.output.trans hb.output, ?_, fun k hk hkn => ?_⟩
  · simp [World.setCell] at hs6 ⊢
    omega
  · have h1 : k ≠ wb := fun e => hkn (by rw [e]; exact List.mem_cons_self)
    have h2 : v.ownBlock ≠ some k := fun e => hkn (by rw [e]; simp)
    have h3 : (W.alloc o).drew.heap[k]? = W.heap[k]? := Below.heap_alloc _ _ _ (by omega)
    rw [Below.heap_setCell _ _ _ _ h1, hg.block k (by simp; omega) (fun e => h2 e.symm), h3]
    exact hb.block k hk
theorem drew_below (w : World) : Below w.heap.size w w.drew := ⟨rfl, rfl, rfl, Nat.le_refl _, fun _ _ => rfl⟩
set_option maxRecDepth 100000 in
set_option maxHeartbeats 4000000 in
theorem implSay (w2 w : World) (wb : Nat) (n : Nd) (A : Ads) (v : Value) (L : List Mg) (m : Mg) (hk : m.k.size ≤ 1048600) (hL : L.length ≤ 2097200) (h : WS w2 w wb n A v L) :
    Calls Tryz.prog 62 #[.pointer (some ⟨wb, 0, none⟩), mgv m] w fun e w' => e = .returned (.tuple #[]) ∧ ∃ v', WS w2 w' wb n A v' (L ++ [m]) ∧ KeepsL (wb :: v.ownBlock.toList) w w' := by
  obtain ⟨i0, hi, hz0, hz1, hz2⟩ := info_parts infoMsg
  have HBX := hide (heap_alloc_new w (.cells #[.int .i64 m.K, .int .i64 m.F, .int .i64 m.T, .int .i64 m.I, .int .i64 m.L, .string m.k, .int .i64 m.N] 51))
  have HAP : Hid (∀ {wr w6 : World} {v' : Value} {o : Obj}, WS w2 wr wb n A v L → w6.ownsRow w2.heap.size 51 7 v' (L.length + 1) (GR.flat encM L ++ encM m) → (wr.alloc o).grownBy w6 v.ownBlock → w6.heap[wb]? = some (.cells (wkc n A v) 61 (0, 0)) ∧ WS w2 (w6.setCell ⟨wb, 9, none⟩ v') wb n A v' (L ++ [m])) := fun h1 h2 h3 => h1.app m h2 h3
  have HV : Hid (∀ k, v.ownBlock = some k → k < w.heap.size) := fun k e => (h.own.lt k e).2
  have HS := hide h
  have hsz := h.keep.size
  have hwb := h.lt
  clear h
  obtain ⟨va, vc, hv, _⟩ := GR.own_at (enc := encM) (sz := 7) (l := L) encM_length (unhide HS).own
  subst hv
  obtain ⟨mK, mF, mT, mI, mL, mk, mN⟩ := m
  dsimp only at hk HBX
  go_enter Tryz.func62, Tryz.ntmps62
  go_wp2_with fail
  refine (clone mk _ (by omega)).mono ?_
  rintro e w1 ⟨rfl, hb1⟩
  have HX1 := hide (obj_step (unhide HBX) hb1)
  have HS1 := hide (((unhide HS).step (below_one w _)).step hb1)
  have hf5 := obj_free (unhide HX1) 5
  obtain ⟨x0, x1, x2, x3, x4, x5, x6⟩ := sevenC (unhide HX1)
  go_upto_region 2 with fail
  refine wp_at (fun W hW => ?_)
  have HXW : Hid (W.heap[w.heap.size]? = some (.cells #[.int .i64 mK, .int .i64 mF, .int .i64 mT, .int .i64 mI, .int .i64 mL, .string mk, .int .i64 mN] 51 (0, 0))) := by rw [hW]; exact blk_setO (unhide HX1) 5 (.string mk)
  have HSW : Hid (WS w2 W wb n A (.slice va L.length vc) L) := by rw [hW]; exact (unhide HS1).set hsz (fun e => by have := unhide HV _ e; omega)
  have HKW : Hid (Below w.heap.size w W) := by rw [hW]; exact ((below_one w _).trans (hb1.mono (by simp))).trans ((KeepsL.set (g := w.heap.size) (i := 5) (.string mk)).below (fun x hx => by have : x = w.heap.size := (by simpa using hx); omega) (by have := obj_lt (unhide HX1); omega))
  have hwW : w.heap.size < W.heap.size := obj_lt (unhide HXW)
  clear hW hb1 x0 x1 x2 x3 x4 x5 x6 hf5 HX1 HS1 HBX HS
  have hne : wb ≠ w.heap.size := by omega
  have hneW : wb ≠ W.heap.size := by omega
  have hneV : w.heap.size ≠ W.heap.size := by omega
  have hwbl : wb < W.heap.size := by omega
  obtain ⟨x0, x1, x2, x3, x4, x5, x6⟩ := sevenC (unhide HXW)
  obtain ⟨c0, c1, c2, c3, c4, c5, c6, c7, c8, c9⟩ := tenC (unhide HSW).blk
  clear c0 c1 c2 c3 c4 c5 c6 c7 c8
  have HOW := hide (GR.own_below (unhide HSW).own (drew_below W))
  have HSD := hide ((unhide HSW).step (drew_below W))
  go_region_law
    (((refine step_append_ownM _ rfl (.tmp 12) (.tmp 14) 30 rfl w2.heap.size 51 i0 (.agg #[.int .i64 0, .int .i64 0, .int .i64 0, .int .i64 0, .int .i64 0, .string ByteArray.empty, .int .i64 0]) 7 64 Tryz.underlying30 hi hz0 hz1 hz2 rfl (by decide) (.slice va L.length vc) L.length (GR.flat encM L) (by simp [Act.eval]) ((unhide HOW).alloc _) ⟨W.heap.size, 0, none⟩ 1 1 (encM ⟨mK, mF, mT, mI, mL, mk, mN⟩) (by simp [Act.eval]) rfl (World.news_of_block (heap_alloc_new W.drew _)) (encM_one _) (by unfold maxLen; omega) (by omega) (by simp; omega) ?_); (intro v6 w6 hown6 hgr6 hnil6); (obtain ⟨va6, vc6, hv6, _⟩ := GR.own_at (enc := encM) (sz := 7) (l := L ++ [⟨mK, mF, mT, mI, mL, mk, mN⟩]) encM_length (by rw [List.length_append, flat_snoc]; exact hown6)); (rw [List.length_append] at hv6); (have hv7 : v6 = .slice va6 (L.length + 1) vc6 := hv6); (subst hv7); (clear hv6); (obtain ⟨hb6, hS6⟩ := unhide HAP (unhide HSD) hown6 hgr6); (have HS6 := hide hS6); (have HK6 := hide (say_keeps (wb := wb) (v6 := .slice va6 (L.length + 1) vc6) (unhide HKW) hgr6)); (have hX6 : w6.heap[w.heap.size]? = some (.cells #[.int .i64 mK, .int .i64 mF, .int .i64 mT, .int .i64 mI, .int .i64 mL, .string mk, .int .i64 mN] 51 (0, 0)) := by rw [hgr6.block w.heap.size (by simp; omega) (fun e => by have := unhide HV _ e.symm; omega)]; first | exact obj_step (unhide HXW) (below_one W _).drew | exact obj_step (unhide HXW) (below_one W _)); (obtain ⟨y0, y1, y2, y3, y4, y5, y6⟩ := sevenC hX6); (obtain ⟨k0, k1, k2, k3, k4, k5, k6, k7, k8, k9⟩ := tenC hb6); (have kf := obj_free hb6 9); (clear k0 k1 k2 k3 k4 k5 k6 k7 k8 hown6 hgr6 hnil6 hb6 hS6 hX6)))
  all_goals
    go_wp2_with fail
    exact bodyPost_end (v := .tuple #[]) (by simp [results, Tryz.results62, go_sem]) rfl ⟨rfl, _, unhide HS6, unhide HK6⟩
end Go.Proofs.YtdlhlfndobbocaaGreat
namespace Go.Proofs.YtdlhlfndobbocaaGreat
open Go.RowKit
open Mth

/-- An operation. -/
abbrev opv (K no : Int) (k : ByteArray) (nn : Int) (m : Mg) : Value := .agg #[.int .i64 K, .int .i64 no, .string k, .int .i64 nn, .int .i64 m.K, .int .i64 m.F, .int .i64 m.T, .int .i64 m.I, .int .i64 m.L, .string m.k, .int .i64 m.N]
set_option maxRecDepth 100000 in
set_option maxHeartbeats 4000000 in
theorem implTick (w0 w2 : World) (wb : Nat) (n : Nd) (A : Ads) (K no : Int) (key : ByteArray) (nn : Int) (om : Mg) (hsz : NdSz n 1048600) (ha : SentAt w0 A.o n.out) (hb : Below w0.heap.size w0 w2) (hw : w0.heap.size ≤ wb) (h : WS w2 w2 wb n A (.slice none 0 0) []) :
    Calls Tryz.prog 26 #[.pointer (some ⟨wb, 0, none⟩), opv K no key nn om] w2 fun e w' => e = .returned (.int .i64 0) ∧ ∃ v', WS w2 w' wb n A v' (n.out.map (payM n)) := by
  have HPY := hide (fun s W (hb1 : Below w0.heap.size w0 W) w1 (h1 : w1.heap = W.heap) => implPayOf n A s w1 hsz.o (GR.At.heap (GR.At.below ha hb1) h1))
  have HBW : Hid (∀ {wr v L}, WS w2 wr wb n A v L → Below w0.heap.size w0 wr) := fun h1 => hb.trans (h1.keep.below (fun x hx => by have : x = wb := (by simpa using hx); omega) hb.size)
  have HSY := hide (fun w v L m h1 h2 h3 => implSay w2 w wb n A v L m h1 h2 h3)
  have HKK : Hid (∀ s ∈ n.out, (payM n s).k.size ≤ 1048600) := fun s hs => hsz.ok s hs
  have HAO := hide ha
  have HB2 := hide hb
  have HS := hide h
  have hlo := hsz.o
  have hwb := h.lt
  clear ha hsz hb h
  generalize payM n = PM at *
  obtain ⟨om0, om1, om2, om3, om4, om5, om6⟩ := om
  obtain ⟨id, par, kids, next, pu, out, seen, old, reqs⟩ := n
  obtain ⟨ak, ap, ao, as', ar, ck, cp, co, cs, cr⟩ := A
  dsimp only at hlo HAO HPY HKK ⊢
  obtain ⟨c0, c1, c2, c3, c4, c5, c6, c7, c8, c9⟩ := tenC (unhide HS).blk
  go_enter Tryz.func26, Tryz.ntmps26
  go_wp2_with fail
  go_loopw [13] (fun i wr => ∃ (k : Nat) (v : Value), k ≤ out.length ∧ i = .int .i64 k ∧ WS w2 wr wb ⟨id, par, kids, next, pu, out, seen, old, reqs⟩ ⟨ak, ap, ao, as', ar, ck, cp, co, cs, cr⟩ v ((out.take k).map PM)) (fun i _ => out.length - (intOf i).toNat)
  case atStart => exact ⟨0, .slice none 0 0, Nat.zero_le _, rfl, (unhide HS).step (below_one w2 _)⟩
  case round =>
    obtain ⟨k, v, hk, rfl, hS⟩ := hrel
    have HS1 := hide hS
    have hsw := hS.keep.size
    clear hS c0 c1 c2 c3 c4 c5 c6 c7 c8 c9
    by_cases hlt : k < out.length
    · obtain ⟨g, off, e0, hg, q0, q1, q2, q3⟩ := SentAt.four (GR.At.below (unhide HAO) (unhide HBW (unhide HS1))) k hlt
      have HKk := hide (unhide HKK out[k] (List.getElem_mem hlt))
      have HPYk := hide (unhide HPY out[k])
      have HT := hide (show (out.take (k + 1)).map PM = (out.take k).map PM ++ [PM out[k]] by rw [List.take_succ_eq_append_getElem hlt, List.map_append]; rfl)
      have HVL : Hid (∀ x, v.ownBlock = some x → x < wr.heap.size) := fun x e => ((unhide HS1).own.lt x e).2
      have hln : ((out.take k).map PM).length ≤ 2097200 := by rw [List.length_map, List.length_take]; omega
      generalize out[k] = sk at *
      generalize PM sk = mk at *
      obtain ⟨si, st, sx, sn⟩ := sk
      obtain ⟨mK, mF, mT, mI, mL, mk, mN⟩ := mk
      dsimp only at q0 q1 q2 q3 HKk
      subst e0
      have hgw : g < wr.heap.size := by omega
      go_upto_region 4 with fail
      refine wp_at (fun W3 hW3 => ?_)
      have hbw : Below wr.heap.size wr W3 := by rw [hW3]; exact below_one wr _
      have HR3 : Hid (W3.heap[wr.heap.size]? = some (.cells #[.int .i64 si, .int .i64 st, .string sx, .int .i64 sn] 54 (0, 0))) := by rw [hW3]; exact heap_alloc_new _ _
      have HS3 := hide ((unhide HS1).step hbw)
      have HPY3 := hide (unhide HPYk W3 (unhide HBW (unhide HS3)))
      clear hW3 hbw q0 q1 q2 q3
      have hr3 : wr.heap.size < W3.heap.size := obj_lt (unhide HR3)
      have hne : wb ≠ wr.heap.size := by omega
      obtain ⟨c0, c1, c2, c3, c4, c5, c6, c7, c8, c9⟩ := tenC (unhide HS3).blk
      obtain ⟨d0, d1, d2, d3⟩ := fourC (unhide HR3)
      clear c9
      go_region_held (fun w' => (w'.cell? ⟨wb, 0, none⟩ = some (.int .i64 id) ∧ w'.cell? ⟨wb, 1, none⟩ = some (.int .i64 par) ∧ w'.cell? ⟨wb, 2, none⟩ = some (.slice ak kids.length ck) ∧ w'.cell? ⟨wb, 3, none⟩ = some (.int .i64 next) ∧ w'.cell? ⟨wb, 4, none⟩ = some (.slice ap pu.length cp) ∧ w'.cell? ⟨wb, 5, none⟩ = some (.slice (some ⟨g, off, none⟩) out.length co) ∧ w'.cell? ⟨wb, 6, none⟩ = some (.slice as' seen.length cs) ∧ w'.cell? ⟨wb, 7, none⟩ = some (.int .i64 old) ∧ w'.cell? ⟨wb, 8, none⟩ = some (.slice ar reqs.length cr)) ∧ w'.cell? ⟨wr.heap.size, 0, none⟩ = some (.int .i64 si) ∧ w'.cell? ⟨wr.heap.size, 1, none⟩ = some (.int .i64 st) ∧ w'.cell? ⟨wr.heap.size, 2, none⟩ = some (.string sx) ∧ w'.cell? ⟨wr.heap.size, 3, none⟩ = some (.int .i64 sn)) (go_keep)
        (first
          | (go_at_call 63; refine (unhide HPY3 W3.drew rfl).mono ?_; rintro e w5 ⟨rfl, hb5⟩; have hb6 : Below W3.heap.size W3 w5 := ⟨hb5.os, hb5.tape, hb5.output, hb5.size, hb5.block⟩; clear hb5; have HS5 := hide ((unhide HS3).step hb6); have HR5 := hide (obj_step (unhide HR3) hb6); clear hb6; obtain ⟨y0, y1, y2, y3, y4, y5, y6, y7, y8, y9⟩ := tenC (unhide HS5).blk; obtain ⟨z0, z1, z2, z3⟩ := fourC (unhide HR5); clear y9)
          | (go_at_call 62; refine (unhide HSY _ v _ ⟨mK, mF, mT, mI, mL, mk, mN⟩ (unhide HKk) hln (unhide HS5)).mono ?_; rintro e w6 ⟨rfl, v6, hS6, hK6⟩; have HS6 := hide hS6; have HR6 := hide (hK6.obj (unhide HR5) (fun hx => by (rcases List.mem_cons.1 hx with h | h); (exact absurd h (Ne.symm hne)); (have := unhide HVL wr.heap.size (by simpa using h); omega))); clear hS6 hK6; obtain ⟨u0, u1, u2, u3, u4, u5, u6, u7, u8, u9⟩ := tenC (unhide HS6).blk; obtain ⟨t0, t1, t2, t3⟩ := fourC (unhide HR6); clear u9))
      all_goals
        go_wp2_with fail
        go_roundw
        case rel => exact ⟨k + 1, v6, by omega, by go_num, by rw [unhide HT]; exact unhide HS6⟩
        case measure => simp [intOf]; omega
    · have hke : k = out.length := by omega
      subst hke
      have hnlt : decide ((out.length : Int) < (out.length : Int)) = false := by simp
      go_wp2_with fail
      go_ret
      have hS := unhide HS1
      rw [List.take_length] at hS
      exact ⟨rfl, v, hS⟩
end Go.Proofs.YtdlhlfndobbocaaGreat
namespace Go.Proofs.YtdlhlfndobbocaaGreat
open Go.RowKit
open Mth

set_option maxRecDepth 100000 in
set_option maxHeartbeats 4000000 in
theorem implPays (n : Nd) (A : Ads) (w : World) (hsz : NdSz n 1048600) (ha : NodeAt w A n) :
    Calls Tryz.prog 7 #[ndv n A] w (GivesM w (paysL n)) := by
  have HOK := hide (fun W (hb : Below w.heap.size w W) => implNodeOk n A W hsz (ha.below hb))
  obtain ⟨L, hL⟩ : ∃ L, paysL n = L := ⟨_, rfl⟩
  have HPL : Hid (L = if ndOk n then n.out.map (payM n) else []) := hL.symm
  have HPB := hide (heap_alloc_new w (.cells (ndc n A) 37))
  have HTK := hide (fun w2 wb K no k nn m hb hw h => implTick w w2 wb n A K no k nn m hsz ha.o hb hw h)
  rw [hL]
  clear hL ha hsz
  generalize ndOk n = OK at *
  generalize payM n = PM at *
  obtain ⟨id, par, kids, next, pu, out, seen, old, reqs⟩ := n
  obtain ⟨ak, ap, ao, as', ar, ck, cp, co, cs, cr⟩ := A
  dsimp only at HPL
  go_enter Tryz.func7, Tryz.ntmps7
  go_wp2_with fail
  refine (unhide HOK _ (below_one w _)).mono ?_
  rintro e w1 ⟨rfl, hb1⟩
  have HB1 := hide ((below_one w _).trans (hb1.mono (by simp)))
  have HP1 := hide (obj_step (unhide HPB) hb1)
  clear hb1 HPB HOK
  cases hOK : OK
  · have HE : Hid (L = []) := by rw [unhide HPL, hOK]; rfl
    clear hOK HPL
    go_wp2_with fail
    go_ret
    rw [unhide HE]
    exact ⟨none, 0, rfl, 0, GR.W.nil, fun x hx => by simp [fp] at hx, unhide HB1⟩
  · have HE : Hid (L = out.map PM) := by rw [unhide HPL, hOK]; rfl
    clear hOK HPL
    obtain ⟨c0, c1, c2, c3, c4, c5, c6, c7, c8⟩ := nine (unhide HP1)
    go_upto_region 4 with fail
    refine wp_at (fun W2 hW2 => ?_)
    have hbw : Below w1.heap.size w1 W2 := by rw [hW2]; exact below_one w1 _
    have HS2 : Hid (WS W2 W2 w1.heap.size ⟨id, par, kids, next, pu, out, seen, old, reqs⟩ ⟨ak, ap, ao, as', ar, ck, cp, co, cs, cr⟩ (.slice none 0 0) []) := by
      have hblk : W2.heap[w1.heap.size]? = some (.cells (wkc ⟨id, par, kids, next, pu, out, seen, old, reqs⟩ ⟨ak, ap, ao, as', ar, ck, cp, co, cs, cr⟩ (.slice none 0 0)) 61 (0, 0)) := by rw [hW2]; exact heap_alloc_new _ _
      exact ⟨KeepsL.refl _ _, hblk, World.ownsRow_nil _ _ _ _, obj_lt hblk⟩
    have HB2 := hide ((unhide HB1).trans (hbw.mono (unhide HB1).size))
    have hz1 := (unhide HB1).size
    have hz2 := hbw.size
    have hwb := (unhide HS2).lt
    clear hW2 hbw c0 c1 c2 c3 c4 c5 c6 c7 c8
    go_wp2_with fail
    refine (unhide HTK W2 w1.heap.size 0 0 ⟨#[]⟩ 0 ⟨0, 0, 0, 0, 0, ⟨#[]⟩, 0⟩ (unhide HB2) hz1 (unhide HS2)).mono ?_
    rintro e w5 ⟨rfl, v5, hS5⟩
    obtain ⟨va, vc, hv, _⟩ := GR.own_at (enc := encM) (sz := 7) (l := out.map PM) encM_length hS5.own
    rw [List.length_map] at hv
    subst hv
    have HS5 := hide hS5
    obtain ⟨c0, c1, c2, c3, c4, c5, c6, c7, c8, c9⟩ := tenC hS5.blk
    clear hS5 c0 c1 c2 c3 c4 c5 c6 c7 c8
    have HG : Hid (GivesM w (out.map PM) (.returned (.slice va out.length vc)) w5) := GivesM.of_own (B := W2.heap.size) rfl (unhide HS5).own (by omega) ((unhide HB2).trans ((unhide HS5).keep.below (fun x hx => by have : x = w1.heap.size := (by simpa using hx); omega) (by omega)))
    go_wp2_with fail
    go_ret
    rw [unhide HE]
    exact unhide HG
end Go.Proofs.YtdlhlfndobbocaaGreat
namespace Go.Proofs.YtdlhlfndobbocaaGreat
open Go.RowKit
open Mth

set_option maxRecDepth 100000 in
theorem eqMsg (p : Mg) (w : World) : Calls Tryz.prog 27 #[mgv p, mgv p] w fun e w' => e = .returned (.bool true) ∧ Below w.heap.size w w' := by
  obtain ⟨pK, pF, pT, pI, pL, pk, pN⟩ := p
  go_enter Tryz.func27, Tryz.ntmps27
  go_wp2_with fail
  go_ret
  exact ⟨rfl, ((Below.refl _ _).alloc (Nat.le_refl _) _).alloc (by simp) _⟩
set_option maxRecDepth 100000 in
set_option maxHeartbeats 2000000 in
theorem eqMsgS (a b : Option Addr) (ca cb : Nat) (l : List Mg) (w : World) (hl : l.length ≤ 1048600) (ha : MsgsAt w a l) (hb : MsgsAt w b l) :
    Calls Tryz.prog 8 #[.slice a l.length ca, .slice b l.length cb] w fun e w' => e = .returned (.bool true) ∧ Below w.heap.size w w' := by
  have HA := hide ha
  have HB := hide hb
  clear ha hb
  go_enter Tryz.func8, Tryz.ntmps8
  go_wp2_with fail
  go_loopw [5] (fun i wr => ∃ k : Nat, k ≤ l.length ∧ i = .int .i64 k ∧ Below w.heap.size w wr) (fun i _ => l.length - (intOf i).toNat)
  case atStart => exact ⟨0, Nat.zero_le _, rfl, Below.refl _ _⟩
  case round =>
    obtain ⟨k, hk, rfl, hbel⟩ := hrel
    have HBL := hide hbel
    clear hbel
    by_cases hlt : k < l.length
    · obtain ⟨g1, o1, rfl, hg1, s0, s1, s2, s3, s4, s5, s6⟩ := MsgsAt.seven (GR.At.below (unhide HA) (unhide HBL)) k hlt
      obtain ⟨g2, o2, rfl, hg2, t0, t1, t2, t3, t4, t5, t6⟩ := MsgsAt.seven (GR.At.below (unhide HB) (unhide HBL)) k hlt
      generalize l[k] = pu at *
      have HEQ := hide (fun w1 => eqMsg pu w1)
      obtain ⟨pK, pF, pT, pI, pL, pk, pN⟩ := pu
      dsimp only at s0 s1 s2 s3 s4 s5 s6 t0 t1 t2 t3 t4 t5 t6
      go_wp2_with fail
      go_region_held (fun w' => (w'.cell? ⟨g1, o1 + k * 7, none⟩ = some (.int .i64 pK) ∧ w'.cell? ⟨g1, o1 + k * 7 + 1, none⟩ = some (.int .i64 pF) ∧ w'.cell? ⟨g1, o1 + k * 7 + 2, none⟩ = some (.int .i64 pT) ∧ w'.cell? ⟨g1, o1 + k * 7 + 3, none⟩ = some (.int .i64 pI) ∧ w'.cell? ⟨g1, o1 + k * 7 + 4, none⟩ = some (.int .i64 pL) ∧ w'.cell? ⟨g1, o1 + k * 7 + 5, none⟩ = some (.string pk) ∧ w'.cell? ⟨g1, o1 + k * 7 + 6, none⟩ = some (.int .i64 pN)) ∧ w'.cell? ⟨g2, o2 + k * 7, none⟩ = some (.int .i64 pK) ∧ w'.cell? ⟨g2, o2 + k * 7 + 1, none⟩ = some (.int .i64 pF) ∧ w'.cell? ⟨g2, o2 + k * 7 + 2, none⟩ = some (.int .i64 pT) ∧ w'.cell? ⟨g2, o2 + k * 7 + 3, none⟩ = some (.int .i64 pI) ∧ w'.cell? ⟨g2, o2 + k * 7 + 4, none⟩ = some (.int .i64 pL) ∧ w'.cell? ⟨g2, o2 + k * 7 + 5, none⟩ = some (.string pk) ∧ w'.cell? ⟨g2, o2 + k * 7 + 6, none⟩ = some (.int .i64 pN)) (go_keep)
        (first
          | (go_at_call 27; refine (unhide HEQ _).mono ?_; rintro e w5 ⟨rfl, hb5⟩; have hb6 : Below wr.heap.size wr w5 := ⟨hb5.os, hb5.tape, hb5.output, hb5.size, hb5.block⟩; clear hb5; have HBL5 := hide ((unhide HBL).trans (hb6.mono (unhide HBL).size)); have y0 := (hb6.cell (p := ⟨g1, o1 + k * 7, none⟩) hg1).trans s0; have y1 := (hb6.cell (p := ⟨g1, o1 + k * 7 + 1, none⟩) hg1).trans s1; have y2 := (hb6.cell (p := ⟨g1, o1 + k * 7 + 2, none⟩) hg1).trans s2; have y3 := (hb6.cell (p := ⟨g1, o1 + k * 7 + 3, none⟩) hg1).trans s3; have y4 := (hb6.cell (p := ⟨g1, o1 + k * 7 + 4, none⟩) hg1).trans s4; have y5 := (hb6.cell (p := ⟨g1, o1 + k * 7 + 5, none⟩) hg1).trans s5; have y6 := (hb6.cell (p := ⟨g1, o1 + k * 7 + 6, none⟩) hg1).trans s6; have z0 := (hb6.cell (p := ⟨g2, o2 + k * 7, none⟩) hg2).trans t0; have z1 := (hb6.cell (p := ⟨g2, o2 + k * 7 + 1, none⟩) hg2).trans t1; have z2 := (hb6.cell (p := ⟨g2, o2 + k * 7 + 2, none⟩) hg2).trans t2; have z3 := (hb6.cell (p := ⟨g2, o2 + k * 7 + 3, none⟩) hg2).trans t3; have z4 := (hb6.cell (p := ⟨g2, o2 + k * 7 + 4, none⟩) hg2).trans t4; have z5 := (hb6.cell (p := ⟨g2, o2 + k * 7 + 5, none⟩) hg2).trans t5; have z6 := (hb6.cell (p := ⟨g2, o2 + k * 7 + 6, none⟩) hg2).trans t6; clear hb6))
      all_goals
        go_wp2_with fail
        go_roundw
        case rel => exact ⟨k + 1, by omega, by go_num, unhide HBL5⟩
        case measure => simp [intOf]; omega
    · have hke : k = l.length := by omega
      subst hke
      have hnlt : decide ((l.length : Int) < (l.length : Int)) = false := by simp
      go_wp2_with fail
      go_ret
      exact ⟨rfl, unhide HBL⟩

def mkMsg (k : Nat) : Mg := ⟨(k : Int), (k : Int) + 1, (k : Int) + 2, (k : Int) + 3, (k : Int) + 4, mark (k + 5), (k : Int) + 6⟩
theorem GR.W.sevenM {w : World} {a : Option Addr} {g : Nat} {l : List Mg} (h : GR.W encM 7 w a g l) (i : Nat) (hi : i < l.length) : a = some ⟨g, 0, none⟩ ∧ g < w.heap.size ∧ (w.cell? ⟨g, i * 7, none⟩ = some (.int .i64 l[i].K) ∧ w.cell? ⟨g, i * 7 + 1, none⟩ = some (.int .i64 l[i].F) ∧ w.cell? ⟨g, i * 7 + 2, none⟩ = some (.int .i64 l[i].T) ∧ w.cell? ⟨g, i * 7 + 3, none⟩ = some (.int .i64 l[i].I) ∧ w.cell? ⟨g, i * 7 + 4, none⟩ = some (.int .i64 l[i].L) ∧ w.cell? ⟨g, i * 7 + 5, none⟩ = some (.string l[i].k) ∧ w.cell? ⟨g, i * 7 + 6, none⟩ = some (.int .i64 l[i].N)) ∧ w.frozen? ⟨g, i * 7, none⟩ = false ∧ w.frozen? ⟨g, i * 7 + 1, none⟩ = false ∧ w.frozen? ⟨g, i * 7 + 2, none⟩ = false ∧ w.frozen? ⟨g, i * 7 + 3, none⟩ = false ∧ w.frozen? ⟨g, i * 7 + 4, none⟩ = false ∧ w.frozen? ⟨g, i * 7 + 5, none⟩ = false ∧ w.frozen? ⟨g, i * 7 + 6, none⟩ = false := by
  obtain ⟨e, hg, hc⟩ := h i hi
  exact ⟨e, hg, ⟨by simpa using (hc 0 (by omega)).1, by simpa using (hc 1 (by omega)).1, by simpa using (hc 2 (by omega)).1, by simpa using (hc 3 (by omega)).1, by simpa using (hc 4 (by omega)).1, by simpa using (hc 5 (by omega)).1, by simpa using (hc 6 (by omega)).1⟩, by simpa using (hc 0 (by omega)).2, (hc 1 (by omega)).2, (hc 2 (by omega)).2, (hc 3 (by omega)).2, (hc 4 (by omega)).2, (hc 5 (by omega)).2, (hc 6 (by omega)).2⟩
set_option maxRecDepth 100000 in
set_option maxHeartbeats 4000000 in
theorem markMsgG (a : Option Addr) (g c s : Nat) (l : List Mg) (w : World) (hs0 : 0 < s) (hs1 : s ≤ 4000000000000) (hl : l.length ≤ 1048600) (ha : GR.W encM 7 w a g l) :
    Calls Tryz.prog 11 #[.slice a l.length c, .int .i64 s] w fun e w' => e = .returned (.int .i64 (s + 7 * (l.length : Int))) ∧ GR.W encM 7 w' a g (mks mkMsg 7 s l l.length) ∧ KeepsL (fp g l) w w' := by
  have HA := hide ha
  clear ha
  go_enter Tryz.func11, Tryz.ntmps11
  go_wp2_with fail
  go_loopw [1, 5] (fun kk i wr => ∃ k m : Nat, k ≤ l.length ∧ i = .int .i64 k ∧ kk = .int .i64 m ∧ m = s + 7 * k ∧ GR.W encM 7 wr a g (mks mkMsg 7 s l k) ∧ KeepsL (fp g l) w wr) (fun _ i _ => l.length - (intOf i).toNat)
  case atStart => exact ⟨0, s, Nat.zero_le _, rfl, rfl, rfl, by rw [mks_zero]; exact unhide HA, KeepsL.refl _ _⟩
  case round =>
    obtain ⟨k, m, hk, rfl, rfl, hm, hR, hkp⟩ := hrel
    have HM := hide hm
    have HR := hide hR
    have HK := hide hkp
    clear hR hkp
    by_cases hlt : k < l.length
    · have hml := mks_length mkMsg 7 s l k hk
      have hk' : k < (mks mkMsg 7 s l k).length := by rw [hml]; exact hlt
      have hm0 : 0 < m := by omega
      have hm1 : (m : Int) ≤ 92233720368547758 := by omega
      obtain ⟨e0, hg0, ⟨s0, s1, s2, s3, s4, s5, s6⟩, f0, f1, f2, f3, f4, f5, f6⟩ := GR.W.sevenM (unhide HR) k hk'
      subst e0
      have HMT := hide (fun z w1 (hz : z = ((m + 5 : Nat) : Int)) => markTextI (m + 5) z w1 hz (by omega) (by omega))
      have HML := hide hml
      clear hm hml
      go_wp2_with (go_at_call 38; refine (unhide HMT _ _ (by omega)).mono ?_; rintro e w1 ⟨rfl, hb1⟩; have HB1 := hide hb1; have hgz := hb1.size; obtain ⟨hcc, hff⟩ := bcell hb1; clear hb1)
      go_roundw
      case rel =>
        have hpos : 0 < l.length := by omega
        have h0 := GR.W.toC encM_length (by omega) (unhide HR)
        have e1 : (m : Int) + 1 + 1 = m + 2 := by omega
        have e2 : (m : Int) + 2 + 1 = m + 3 := by omega
        have e3 : (m : Int) + 3 + 1 = m + 4 := by omega
        have e4 : (m : Int) + 4 + 1 = m + 5 := by omega
        have e5 : (m : Int) + 5 + 1 = m + 6 := by omega
        have e6 : (m : Int) + 6 + 1 = m + 7 := by omega
        (try simp only [e1, e2, e3, e4, e5, e6] at HB1 ⊢)
        have h1 := GR.C.set h0 (k * 7) (.int .i64 (mkMsg m).K)
        have h2 := GR.C.set h1 (k * 7 + 1) (.int .i64 (mkMsg m).F)
        have h3 := GR.C.set h2 (k * 7 + 2) (.int .i64 (mkMsg m).T)
        have h4 := GR.C.set h3 (k * 7 + 3) (.int .i64 (mkMsg m).I)
        have h5 := GR.C.set h4 (k * 7 + 4) (.int .i64 (mkMsg m).L)
        have hB := GR.C.below h5 (unhide HB1)
        have h6 := GR.C.set hB (k * 7 + 5) (.string (mkMsg m).k)
        have h7 := GR.C.set h6 (k * 7 + 6) (.int .i64 (mkMsg m).N)
        have hf := GR.flat_set encM 7 encM_length (mks mkMsg 7 s l k) k (mkMsg m) (by rw [unhide HML]; exact hlt)
        have h9 := GR.C.toW (enc := encM) (l := (mks mkMsg 7 s l k).set k (mkMsg m)) encM_length (by omega) (by rw [← hf]; exact h7)
        have hmk : mkMsg m = mkMsg (s + 7 * k) := by rw [unhide HM]
        rw [hmk, mks_set mkMsg 7 s l k hlt, ← hmk] at h9
        refine ⟨k + 1, m + 7, by omega, by go_num, by go_num, by have := unhide HM; omega, h9, ?_⟩
        exact (((((((((unhide HK).trans (fp_keeps (KeepsL.set _) hpos)).trans (fp_keeps (KeepsL.set _) hpos)).trans (fp_keeps (KeepsL.set _) hpos)).trans (fp_keeps (KeepsL.set _) hpos)).trans (fp_keeps (KeepsL.set _) hpos)).trans (KeepsL.of_below (unhide HB1))).trans (fp_keeps (KeepsL.set _) hpos)).trans (fp_keeps (KeepsL.set _) hpos))
      case measure => simp [intOf]; omega
    · have hke : k = l.length := by omega
      subst hke
      have hnlt : decide ((l.length : Int) < (l.length : Int)) = false := by simp
      clear hm
      go_wp2_with fail
      go_ret
      exact ⟨ret_int (by have := unhide HM; omega), unhide HR, unhide HK⟩
set_option maxRecDepth 100000 in
set_option maxHeartbeats 4000000 in
theorem heldMsgG (a : Option Addr) (g c n s : Nat) (l : List Mg) (w : World) (hn : n = l.length) (hs0 : 0 < s) (hs1 : s ≤ 4000000000000) (hl : l.length ≤ 1048600) (ha : GR.W encM 7 w a g (mks mkMsg 7 s l l.length)) :
    Calls Tryz.prog 12 #[.slice a n c, .int .i64 s] w fun e w' => e = .returned (.int .i64 (s + 7 * (l.length : Int))) ∧ Below w.heap.size w w' := by
  have HA := hide ha
  clear ha
  subst hn
  go_enter Tryz.func12, Tryz.ntmps12
  go_wp2_with fail
  go_loopw [1, 5] (fun kk i wr => ∃ k m : Nat, k ≤ l.length ∧ i = .int .i64 k ∧ kk = .int .i64 m ∧ m = s + 7 * k ∧ Below w.heap.size w wr) (fun _ i _ => l.length - (intOf i).toNat)
  case atStart => exact ⟨0, s, Nat.zero_le _, rfl, rfl, rfl, Below.refl _ _⟩
  case round =>
    obtain ⟨k, m, hk, rfl, rfl, hm, hbel⟩ := hrel
    have HM := hide hm
    have HBL := hide hbel
    clear hbel
    by_cases hlt : k < l.length
    · have hm0 : 0 < m := by omega
      have hm1 : (m : Int) ≤ 92233720368547758 := by omega
      obtain ⟨e0, hgl, ⟨s0, s1, s2, s3, s4, s5, s6⟩, _⟩ := GR.W.sevenM (GR.W.below (unhide HA) (unhide HBL)) k (by rw [mks_length mkMsg 7 s l l.length (Nat.le_refl _)]; exact hlt)
      rw [mks_at mkMsg 7 s l l.length k hlt (Nat.le_refl _), ← hm] at s0 s1 s2 s3 s4 s5 s6
      dsimp only [mkMsg] at s0 s1 s2 s3 s4 s5 s6
      subst e0
      have HMT := hide (fun z w1 (hz : z = ((m + 5 : Nat) : Int)) => markTextI (m + 5) z w1 hz (by omega) (by omega))
      clear hm
      have e1 : (m : Int) + 1 + 1 = m + 2 := by omega
      have e2 : (m : Int) + 2 + 1 = m + 3 := by omega
      have e3 : (m : Int) + 3 + 1 = m + 4 := by omega
      have e4 : (m : Int) + 4 + 1 = m + 5 := by omega
      have e5 : (m : Int) + 5 + 1 = m + 6 := by omega
      have e6 : (m : Int) + 6 + 1 = m + 7 := by omega
      go_wp2_with fail
      go_region_with (go_at_call 38; refine (unhide HMT _ _ (by omega)).mono ?_; rintro e w1 ⟨rfl, hb1⟩; have hc0 := (bcell hb1).1 g (k * 7) (by simpa using hgl); have hc1 := (bcell hb1).1 g (k * 7 + 1) (by simpa using hgl); have hc2 := (bcell hb1).1 g (k * 7 + 2) (by simpa using hgl); have hc3 := (bcell hb1).1 g (k * 7 + 3) (by simpa using hgl); have hc4 := (bcell hb1).1 g (k * 7 + 4) (by simpa using hgl); have hc5 := (bcell hb1).1 g (k * 7 + 5) (by simpa using hgl); have hc6 := (bcell hb1).1 g (k * 7 + 6) (by simpa using hgl); have HBL1 := hide ((unhide HBL).trans (((Below.refl _ _).drew.trans hb1).mono (unhide HBL).size)); clear hb1)
      all_goals
        go_wp2_with fail
        go_roundw
        case rel => exact ⟨k + 1, m + 7, by omega, by go_num, by go_num, by have := unhide HM; omega, unhide HBL1⟩
        case measure => simp [intOf]; omega
    · have hke : k = l.length := by omega
      subst hke
      have hnlt : decide ((l.length : Int) < (l.length : Int)) = false := by simp
      clear hm
      go_wp2_with fail
      go_ret
      exact ⟨ret_int (by have := unhide HM; omega), unhide HBL⟩
end Go.Proofs.YtdlhlfndobbocaaGreat
namespace Go.Proofs.YtdlhlfndobbocaaGreat
open Go.RowKit
open Mth

theorem pays_len (n : Nd) : (paysL n).length ≤ n.out.length := by
  unfold paysL
  split <;> simp
set_option maxRecDepth 100000 in
set_option maxHeartbeats 8000000 in
theorem fnExactPays_walk (n : Nd) (A : Ads) (hz : NdSz n maxLen) (w : World) (ha : NodeAt w A n) :
    Calls Tryz.prog 3 #[ndv n A] w fun e w' => e = .returned (.bool true) ∧ Below w.heap.size w w' := by
  have hL0 := heap_alloc_new w (.cells (ndc n A) 28)
  have hB0 := below_one w (.cells (ndc n A) 28)
  have HZN := hide (szNode n A (w.alloc (.cells (ndc n A) 28)) hz (ha.below (below_one w _)))
  have HTN := hide (fun W (hb : Below w.heap.size w W) (h : NdSz n 1048576) => toNode n A W h (ha.below hb))
  have HSP := hide (fun A' W (h : NdSz n 1048576) (ha : NodeAt W A' n) => specPays n A' W (h.mono (by omega)) ha)
  have HIM := hide (fun A' W (h : NdSz n 1048576) (ha : NodeAt W A' n) => implPays n A' W (h.mono (by omega)) ha)
  have HPN := hide (pays_len n)
  unfold GivesM at HSP HIM
  generalize paysL n = L at *
  clear ha hz
  have HB_0 := hide (hB0)
  have HL_0 := hide (hL0)
  clear hB0 hL0
  go_enter Tryz.func3, Tryz.ntmps3
  go_wp2_with fail
  refine (unhide HZN).mono ?_
  rintro e w1 ⟨z, rfl, hb1, hcase⟩
  clear HZN
  have hzw1 : w.heap.size < w1.heap.size := Nat.lt_of_lt_of_le (obj_lt (unhide HL_0)) hb1.size
  have HB_1 := hide ((unhide HB_0).trans (hb1.mono (unhide HB_0).size))
  have HL_1 := hide (obj_step (unhide HL_0) hb1)
  clear hb1 HB_0 HL_0
  obtain ⟨L0, L1, L2, L3, L4, L5, L6, L7, L8⟩ := nine (unhide HL_1)
  rcases hcase with rfl | ⟨z0, z1, hz⟩
  case' inl =>
    go_wp2_with fail
    go_ret
    exact ⟨rfl, unhide HB_1⟩
  have hzn : decide (z < 0) = false := decide_eq_false (by omega)
  have HZ := hide hz
  have HSZ := hide (hz.mono (show 1048576 ≤ 1048600 by omega))
  have hln : L.length ≤ 1048600 := Nat.le_trans (unhide HPN) (unhide HSZ).o
  clear hz HPN
  go_wp2_with fail
  refine (unhide HTN _ (unhide HB_1) (unhide HZ)).mono ?_
  rintro e w2 ⟨A2, rfl, G2, hN2, _, hb2⟩
  have HS2 := hide (unhide HSP A2 w2 (unhide HZ) hN2.at)
  have hzw2 : w1.heap.size ≤ w2.heap.size := hb2.size
  clear L0 L1 L2 L3 L4 L5 L6 L7 L8
  have HB_2 := hide ((unhide HB_1).trans (hb2.mono (unhide HB_1).size))
  have HL_2 := hide (obj_step (unhide HL_1) hb2)
  clear hb2 HB_1 HL_1
  clear hN2
  obtain ⟨L0, L1, L2, L3, L4, L5, L6, L7, L8⟩ := nine (unhide HL_2)
  go_wp2_with fail
  refine (unhide HS2).mono ?_
  rintro e w3 ⟨a3, c3, rfl, g3, hM3, hr3, hb3⟩
  have hzw3 : w2.heap.size ≤ w3.heap.size := hb3.size
  have HR3 := hide hr3
  clear L0 L1 L2 L3 L4 L5 L6 L7 L8
  have HB_3 := hide ((unhide HB_2).trans (hb3.mono (unhide HB_2).size))
  have HL_3 := hide (obj_step (unhide HL_2) hb3)
  clear hb3 HB_2 HL_2
  have HS_0 := hide (hM3)
  clear hM3 hr3 HS2
  obtain ⟨L0, L1, L2, L3, L4, L5, L6, L7, L8⟩ := nine (unhide HL_3)
  go_wp2_with fail
  refine (unhide HTN _ (unhide HB_3) (unhide HZ)).mono ?_
  rintro e w4 ⟨A4, rfl, G4, hN4, hP4, hb4⟩
  have hzw4 : w3.heap.size ≤ w4.heap.size := hb4.size
  have HP4 := hide hP4
  clear L0 L1 L2 L3 L4 L5 L6 L7 L8
  have HB_4 := hide ((unhide HB_3).trans (hb4.mono (unhide HB_3).size))
  have HL_4 := hide (obj_step (unhide HL_3) hb4)
  have HS_1 := hide (GR.W.below (unhide HS_0) hb4)
  clear hb4 HB_3 HL_3 HS_0
  have HN_0 := hide (hN4)
  clear hN4 hP4
  go_upto_region 7 with fail
  refine wp_at (fun W4 hW4 => ?_)
  have hbw : Below w4.heap.size w4 W4 := by rw [hW4]; exact below_one w4 _
  have hO : W4.heap[w4.heap.size]? = some (.cells (ndc n A4) 37 (0, 0)) := by rw [hW4]; exact heap_alloc_new _ _
  have hz4' : w4.heap.size < W4.heap.size := obj_lt hO
  clear hW4
  have HB_5 := hide ((unhide HB_4).trans (hbw.mono (unhide HB_4).size))
  have HL_5 := hide (obj_step (unhide HL_4) hbw)
  have HS_2 := hide (GR.W.below (unhide HS_1) hbw)
  have HN_1 := hide (NodeW.below (unhide HN_0) hbw)
  clear hbw HB_4 HL_4 HS_1 HN_0
  have HT_0 := hide (hO)
  have HI4 := hide (unhide HIM A4 W4 (unhide HZ) (unhide HN_1).at)
  clear hO
  obtain ⟨T0, T1, T2, T3, T4, T5, T6, T7, T8⟩ := nine (unhide HT_0)
  go_wp2_with fail
  refine (unhide HI4).mono ?_
  rintro e w6 ⟨a6, c6, rfl, g6, hM6, hr6, hb6⟩
  have hzw6 : W4.heap.size ≤ w6.heap.size := hb6.size
  have HR6 := hide hr6
  clear T0 T1 T2 T3 T4 T5 T6 T7 T8
  have HB_6 := hide ((unhide HB_5).trans (hb6.mono (unhide HB_5).size))
  have HL_6 := hide (obj_step (unhide HL_5) hb6)
  have HS_3 := hide (GR.W.below (unhide HS_2) hb6)
  have HN_2 := hide (NodeW.below (unhide HN_1) hb6)
  have HT_1 := hide (obj_step (unhide HT_0) hb6)
  clear hb6 HB_5 HL_5 HS_2 HN_1 HT_0
  have HI_0 := hide (hM6)
  clear hM6 hr6 HI4
  go_wp2_with fail
  refine (eqMsgS _ _ _ _ L _ hln (unhide HI_0).at (unhide HS_3).at).mono ?_
  rintro e w7 ⟨rfl, hb7⟩
  have HB_7 := hide ((unhide HB_6).trans (hb7.mono (unhide HB_6).size))
  have HL_7 := hide (obj_step (unhide HL_6) hb7)
  have HS_4 := hide (GR.W.below (unhide HS_3) hb7)
  have HN_3 := hide (NodeW.below (unhide HN_2) hb7)
  have HT_2 := hide (obj_step (unhide HT_1) hb7)
  have HI_1 := hide (GR.W.below (unhide HI_0) hb7)
  clear hb7 HB_6 HL_6 HS_3 HN_2 HT_1 HI_0
  obtain ⟨L0, L1, L2, L3, L4, L5, L6, L7, L8⟩ := nine (unhide HL_7)
  obtain ⟨T0, T1, T2, T3, T4, T5, T6, T7, T8⟩ := nine (unhide HT_2)
  have HTN7 := hide (fun x (hx : Ge w7 x) => unhide HTN x (Ge.trans (unhide HB_7) hx) (unhide HZ))
  have HEQ := hide (fun A' A'' W (ha : NodeAt W A' n) (hb : NodeAt W A'' n) => eqNode n A' A'' W (unhide HSZ) ha hb)
  go_upto_region 10 with fail
  have k0 := cell_grown' L0
  have m0 := cell_grown' T0
  have k1 := cell_grown' L1
  have m1 := cell_grown' T1
  have k2 := cell_grown' L2
  have m2 := cell_grown' T2
  have k3 := cell_grown' L3
  have m3 := cell_grown' T3
  have k4 := cell_grown' L4
  have m4 := cell_grown' T4
  have k5 := cell_grown' L5
  have m5 := cell_grown' T5
  have k6 := cell_grown' L6
  have m6 := cell_grown' T6
  have k7 := cell_grown' L7
  have m7 := cell_grown' T7
  have k8 := cell_grown' L8
  have m8 := cell_grown' T8
  refine wp_region_mix (by kernel_rfl) ?_
  show wpMix _ _ _ _ 5 (Array.replicate 5 false) _ _
  refine wpMix_take 0 rfl (by kernel_rfl) (by kernel_rfl) (by kernel_rfl) (fun _ _ _ _ h => h) (fun K hK => ?_)
  go_simp
  first
    | (refine hK _ ?_; clear hK K)
    | (apply Exists.intro
       refine ⟨fun _ => ?_, hK _ ?_⟩
       (fail)
       clear hK K)
  refine wpMix_take 1 rfl (by kernel_rfl) (by kernel_rfl) (by kernel_rfl) (fun _ _ _ _ h => h) (fun K hK => ?_)
  go_simp
  first
    | (refine hK _ ?_; clear hK K)
    | (apply Exists.intro
       refine ⟨fun _ => ?_, hK _ ?_⟩
       (fail)
       clear hK K)
  clear k0 m0 L0 T0 k1 m1 L1 T1 k2 m2 L2 T2 k3 m3 L3 T3 k4 m4 L4 T4 k5 m5 L5 T5 k6 m6 L6 T6 k7 m7 L7 T7 k8 m8 L8 T8
  refine wpMix_one 2 rfl (by kernel_rfl) (by rfl) (fun x hx => ?_)
  go_simp
  refine (unhide HTN7 x hx).mono ?_
  rintro e y ⟨A9, rfl, G9, hN9, _, hby⟩
  refine ⟨hby, ?_⟩
  have HEE := hide (fun z (hz : Ge y z) => unhide HEQ _ _ z (((unhide HN_3).at.below (Ge.trans hx hby)).below hz) (hN9.at.below hz))
  have HXY := hide (Ge.trans hx hby)
  clear hN9 hx hby
  refine wpMix_one 3 rfl (by kernel_rfl) (by rfl) (fun x2 hx2 => ?_)
  go_simp
  refine (unhide HEE x2 hx2).mono ?_
  rintro e y2 ⟨rfl, hby2⟩
  refine ⟨hby2, ?_⟩
  have HXZ := hide (Ge.trans (Ge.trans (unhide HXY) hx2) hby2)
  clear hx2 hby2
  refine wpMix_take 4 rfl (by kernel_rfl) (by kernel_rfl) (by kernel_rfl) (fun _ _ _ _ h => h) (fun K hK => ?_)
  go_simp
  first
    | (refine hK _ ?_; clear hK K)
    | (apply Exists.intro
       refine ⟨fun _ => ?_, hK _ ?_⟩
       (fail)
       clear hK K)
  refine wpMix_done (by kernel_rfl) (fun w9 hz9 => ?_)
  have hb9 : Below w7.heap.size w7 w9 := Ge.trans (unhide HXZ) hz9
  clear hz9 HXZ HXY HEE HTN7
  have HB_8 := hide ((unhide HB_7).trans (hb9.mono (unhide HB_7).size))
  have HL_8 := hide (obj_step (unhide HL_7) hb9)
  have HS_5 := hide (GR.W.below (unhide HS_4) hb9)
  have HN_4 := hide (NodeW.below (unhide HN_3) hb9)
  have HT_3 := hide (obj_step (unhide HT_2) hb9)
  have HI_2 := hide (GR.W.below (unhide HI_1) hb9)
  clear hb9 HB_7 HL_7 HS_4 HN_3 HT_2 HI_1
  obtain ⟨T0, T1, T2, T3, T4, T5, T6, T7, T8⟩ := nine (unhide HT_3)
  go_wp2_with fail
  refine (markNodeG n A4 G4 _ (unhide HSZ) (unhide HP4).nodup (unhide HN_4)).mono ?_
  rintro e w10 ⟨rfl, _, hk10⟩
  clear T0 T1 T2 T3 T4 T5 T6 T7 T8
  have HB_9 := hide ((unhide HB_8).trans (hk10.below (fun x hx => by have h1 := (unhide HP4).rng x hx; have h2 := (unhide HB_8).size; omega) (unhide HB_8).size))
  have HL_9 := hide (hk10.obj (unhide HL_8) (fun hx => by have h1 := (unhide HP4).rng _ hx; omega))
  have HS_6 := hide (GR.W.keeps (unhide HS_5) hk10 (fun x hx hx2 => by have h1 := unhide HR3 x hx; have h2 := (unhide HP4).rng x hx2; omega))
  have HT_4 := hide (hk10.obj (unhide HT_3) (fun hx => by have h1 := (unhide HP4).rng _ hx; omega))
  have HI_3 := hide (GR.W.keeps (unhide HI_2) hk10 (fun x hx hx2 => by have h1 := unhide HR6 x hx; have h2 := (unhide HP4).rng x hx2; omega))
  clear hk10 HB_8 HL_8 HS_5 HT_3 HI_2
  have hpos2 : decide ((eNode n : Int) < 0) = false := decide_eq_false (by omega)
  go_wp2_with fail
  refine (eqMsgS _ _ _ _ L _ hln (unhide HI_3).at (unhide HS_6).at).mono ?_
  rintro e w11 ⟨rfl, hb11⟩
  have HB_10 := hide ((unhide HB_9).trans (hb11.mono (unhide HB_9).size))
  have HL_10 := hide (obj_step (unhide HL_9) hb11)
  have HS_7 := hide (GR.W.below (unhide HS_6) hb11)
  have HI_4 := hide (GR.W.below (unhide HI_3) hb11)
  clear hb11 HB_9 HL_9 HS_6 HI_3
  go_wp2_with fail
  refine (markMsgG _ g6 _ 1 L _ (by omega) (by omega) hln (unhide HI_4)).mono ?_
  rintro e w12 ⟨rfl, hI12, hk12⟩
  have HB_11 := hide ((unhide HB_10).trans (hk12.below (fun x hx => by have h1 := unhide HR6 x hx; have h2 := (unhide HB_10).size; omega) (unhide HB_10).size))
  have HL_11 := hide (hk12.obj (unhide HL_10) (fun hx => by have h1 := (of_fp hx).1; have h2 := unhide HR6 _ hx; omega))
  have HS_8 := hide (GR.W.keeps (unhide HS_7) hk12 (fun x hx hx2 => by have h1 := unhide HR3 x hx; have h2 := unhide HR6 x hx2; omega))
  clear hk12 HB_10 HL_10 HS_7
  have HI_5 := hide (hI12)
  clear hI12
  have hpos4 : decide (((1 : Nat) : Int) + 7 * (L.length : Int) < 0) = false := decide_eq_false (by omega)
  have hpos4' : decide ((1 : Int) + 7 * (L.length : Int) < 0) = false := decide_eq_false (by omega)
  have hpos5 : ((1 : Int) + 7 * (L.length : Int) != (1 : Int) + 7 * (L.length : Int)) = false := by simp
  go_wp2_with fail
  refine (heldMsgG _ g6 _ _ 1 L _ rfl (by omega) (by omega) hln (unhide HI_5)).mono ?_
  rintro e w13 ⟨rfl, hb13⟩
  have HB_12 := hide ((unhide HB_11).trans (hb13.mono (unhide HB_11).size))
  have HL_12 := hide (obj_step (unhide HL_11) hb13)
  have HS_9 := hide (GR.W.below (unhide HS_8) hb13)
  have HI_6 := hide (GR.W.below (unhide HI_5) hb13)
  clear hb13 HB_11 HL_11 HS_8 HI_5
  obtain ⟨L0, L1, L2, L3, L4, L5, L6, L7, L8⟩ := nine (unhide HL_12)
  go_wp2_with fail
  refine (unhide HTN _ (unhide HB_12) (unhide HZ)).mono ?_
  rintro e w14 ⟨A14, rfl, G14, hN14, _, hb14⟩
  have HI14 := hide (unhide HIM A14 w14 (unhide HZ) hN14.at)
  clear L0 L1 L2 L3 L4 L5 L6 L7 L8
  have HB_13 := hide ((unhide HB_12).trans (hb14.mono (unhide HB_12).size))
  have HL_13 := hide (obj_step (unhide HL_12) hb14)
  have HS_10 := hide (GR.W.below (unhide HS_9) hb14)
  have HI_7 := hide (GR.W.below (unhide HI_6) hb14)
  clear hb14 HB_12 HL_12 HS_9 HI_6
  clear hN14
  go_wp2_with fail
  refine (unhide HI14).mono ?_
  rintro e w15 ⟨a15, c15, rfl, g15, hM15, _, hb15⟩
  have HB_14 := hide ((unhide HB_13).trans (hb15.mono (unhide HB_13).size))
  have HL_14 := hide (obj_step (unhide HL_13) hb15)
  have HS_11 := hide (GR.W.below (unhide HS_10) hb15)
  have HI_8 := hide (GR.W.below (unhide HI_7) hb15)
  clear hb15 HB_13 HL_13 HS_10 HI_7
  have HJ_0 := hide (hM15)
  clear hM15 HI14
  go_wp2_with fail
  refine (eqMsgS _ _ _ _ L _ hln (unhide HJ_0).at (unhide HS_11).at).mono ?_
  rintro e w16 ⟨rfl, hb16⟩
  have HB_15 := hide ((unhide HB_14).trans (hb16.mono (unhide HB_14).size))
  have HL_15 := hide (obj_step (unhide HL_14) hb16)
  have HS_12 := hide (GR.W.below (unhide HS_11) hb16)
  have HI_9 := hide (GR.W.below (unhide HI_8) hb16)
  have HJ_1 := hide (GR.W.below (unhide HJ_0) hb16)
  clear hb16 HB_14 HL_14 HS_11 HI_8 HJ_0
  go_wp2_with fail
  refine (heldMsgG _ g6 _ _ 1 L _ rfl (by omega) (by omega) hln (unhide HI_9)).mono ?_
  rintro e w17 ⟨rfl, hb17⟩
  have HB_16 := hide ((unhide HB_15).trans (hb17.mono (unhide HB_15).size))
  have HL_16 := hide (obj_step (unhide HL_15) hb17)
  have HS_13 := hide (GR.W.below (unhide HS_12) hb17)
  have HI_10 := hide (GR.W.below (unhide HI_9) hb17)
  have HJ_2 := hide (GR.W.below (unhide HJ_1) hb17)
  clear hb17 HB_15 HL_15 HS_12 HI_9 HJ_1
  go_wp2_with fail
  go_ret
  exact ⟨rfl, unhide HB_16⟩
end Go.Proofs.YtdlhlfndobbocaaGreat
