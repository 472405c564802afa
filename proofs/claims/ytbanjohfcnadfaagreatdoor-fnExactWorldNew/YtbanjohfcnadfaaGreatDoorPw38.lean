/- Parts. -/
import Derived.Test.YtbanjohfcnadfaaGreatDoorPw37
import Derived.Test.YtbanjohfcnadfaaGreatDoorPw19
import Derived.Test.YtbanjohfcnadfaaGreatDoorPw23
import Derived.Test.YtbanjohfcnadfaaGreatDoorPw4
import Derived.Test.YtbanjohfcnadfaaGreatDoorPw33
import Derived.Deep.RegionHeld
namespace Go.Proofs.YtbanjohfcnadfaaGreatDoor
open Go.RowKit
open Mth

abbrev KpI := Kp × KA
abbrev encK (x : KpI) : List Value := [.int .i64 x.1.base.id, .int .i64 x.1.base.par, .slice x.2.b.k x.1.base.kids.length x.2.b.ck, .int .i64 x.1.base.next, .slice x.2.b.p x.1.base.pu.length x.2.b.cp, .slice x.2.b.o x.1.base.out.length x.2.b.co, .slice x.2.b.s x.1.base.seen.length x.2.b.cs, .int .i64 x.1.base.old, .slice x.2.b.r x.1.base.reqs.length x.2.b.cr, .int .i64 x.1.node.id, .int .i64 x.1.node.par, .slice x.2.n.k x.1.node.kids.length x.2.n.ck, .int .i64 x.1.node.next, .slice x.2.n.p x.1.node.pu.length x.2.n.cp, .slice x.2.n.o x.1.node.out.length x.2.n.co, .slice x.2.n.s x.1.node.seen.length x.2.n.cs, .int .i64 x.1.node.old, .slice x.2.n.r x.1.node.reqs.length x.2.n.cr, .string x.1.log, .int .i64 x.1.safe, .slice x.2.wa x.1.wait.length x.2.wc, .slice x.2.aa x.1.asked.length x.2.ac]
theorem encK_length (x : KpI) : (encK x).length = 22 := rfl
/-- A row of keepers that lies in memory. -/
structure KpsAt (w : World) (a : Option Addr) (L : List KpI) : Prop where
  row : GR.At encK 22 w a L
  each : ∀ x ∈ L, KpAt w x.2 x.1
theorem KpsAt.below {w w' : World} {a : Option Addr} {L : List KpI} (h : KpsAt w a L) (hb : Below w.heap.size w w') : KpsAt w' a L := ⟨GR.At.below h.row hb, fun x hx => (h.each x hx).below hb⟩
theorem KpsAt.range {w : World} {a : Option Addr} {L : List KpI} (h : KpsAt w a L) (i : Nat) (hi : i < L.length) : ∃ g off, a = some ⟨g, off, none⟩ ∧ g < w.heap.size ∧ w.rangeAt g (off + i * 22) (encK L[i]) := by
  obtain ⟨g, off, e, hg, hc⟩ := h.row i hi
  refine ⟨g, off, e, hg, fun j v hv => ?_⟩
  have hj : j < 22 := by
    have := (List.getElem?_eq_some_iff.1 hv).1
    rw [encK_length] at this
    exact this
  rw [Nat.add_assoc]
  exact (hc j hj).trans hv

theorem infoKI : (Tryz.prog.info? 54).map (·.size) = some 22 := by kernel_rfl
theorem eqKeeperV (x y : KpI) (hxy : x.1 = y.1) (w : World) (hz : KpSz x.1 1048576) (ha : KpAt w x.2 x.1) (hb : KpAt w y.2 y.1) :
    Calls Tryz.prog 48 #[.agg (encK x).toArray, .agg (encK y).toArray] w fun e w' => e = .returned (.bool true) ∧ Below w.heap.size w w' := by
  obtain ⟨k, A⟩ := x
  obtain ⟨k', B⟩ := y
  dsimp only at hxy ha hb hz
  subst hxy
  exact eqKeeper k A B w hz ha hb
/-- Keepers in a row in block g, each with blocks of its own, one behind the other. -/
structure KpsR (g : Nat) (w : World) (M : List KpI) (r : Nat → Nat) : Prop where
  r0 : g < r 0
  up : ∀ j, j < M.length → r j ≤ r (j + 1)
  hi : r M.length ≤ w.heap.size
  kp : ∀ j (hj : j < M.length), ∃ S g1 g2, KpS (r j) (r (j + 1)) w M[j].2 M[j].1 S g1 g2
theorem KpsR.keeps {g : Nat} {w w' : World} {M : List KpI} {r : Nat → Nat} {F : List Nat} (h : KpsR g w M r) (hk : KeepsL F w w') (hF : ∀ x ∈ F, x ≤ g) : KpsR g w' M r := by
  have hm : ∀ j, j ≤ M.length → r 0 ≤ r j := fun j => by
    induction j with
    | zero => intro _; exact Nat.le_refl _
    | succ j ih => intro hj; exact Nat.le_trans (ih (by omega)) (h.up j (by omega))
  refine ⟨h.r0, h.up, Nat.le_trans h.hi hk.size, fun j hj => ?_⟩
  obtain ⟨S, g1, g2, hs⟩ := h.kp j hj
  exact ⟨S, g1, g2, hs.keeps hk (fun x hx => by have := hF x hx; have := h.r0; have := hm j (by omega); omega)⟩
theorem KpsR.below {g : Nat} {w w' : World} {M : List KpI} {r : Nat → Nat} (h : KpsR g w M r) (hb : Below w.heap.size w w') : KpsR g w' M r := h.keeps (F := []) (KeepsL.of_below hb) (fun _ hx => by simp at hx)

set_option maxRecDepth 100000 in
set_option maxHeartbeats 4000000 in
theorem eqKeeperS (a b : Option Addr) (ca cb : Nat) (l m : List KpI) (hlm : l.map (fun x => x.1) = m.map (fun x => x.1)) (w : World) (hl : l.length ≤ 1048600) (hks : ∀ p ∈ l, KpSz p.1 1048576) (ha : KpsAt w a l) (hb : KpsAt w b m) :
    Calls Tryz.prog 22 #[.slice a l.length ca, .slice b l.length cb] w fun e w' => e = .returned (.bool true) ∧ Below w.heap.size w w' := by
  have hml : m.length = l.length := by have := congrArg List.length hlm; simpa using this.symm
  have HML := hide hml
  have HLM := hide hlm
  have HA := hide ha
  have HB := hide hb
  clear ha hb hlm hml
  go_enter Tryz.func22, Tryz.ntmps22
  go_wp2_with fail
  go_loopw [5] (fun i wr => ∃ k : Nat, k ≤ l.length ∧ i = .int .i64 k ∧ Below w.heap.size w wr) (fun i _ => l.length - (intOf i).toNat)
  case atStart => exact ⟨0, Nat.zero_le _, rfl, Below.refl _ _⟩
  case round =>
    obtain ⟨k, hk, rfl, hbel⟩ := hrel
    have HBL := hide hbel
    clear hbel
    by_cases hlt : k < l.length
    · have hlt2 : k < m.length := by rw [unhide HML]; exact hlt
      obtain ⟨g1, o1, rfl, hg1, hr1⟩ := ((unhide HA).below (unhide HBL)).range k hlt
      obtain ⟨g2, o2, rfl, hg2, hr2⟩ := ((unhide HB).below (unhide HBL)).range k hlt2
      have hkk := hks l[k] (List.getElem_mem hlt)
      have hat := ((unhide HA).below (unhide HBL)).each l[k] (List.getElem_mem hlt)
      have hbt := ((unhide HB).below (unhide HBL)).each m[k] (List.getElem_mem hlt2)
      have hxy : l[k].1 = m[k].1 := by
        have h := congrArg (fun z => z[k]?) (unhide HLM)
        simpa [hlt, hlt2] using h
      generalize l[k] = pu at *
      generalize m[k] = pv at *
      have HEQ := hide (fun w1 (h : Ge wr w1) => eqKeeperV pu pv hxy w1 hkk (hat.below h) (hbt.below h))
      have HR1 := hide hr1
      have HR2 := hide hr2
      have HI1 : Hid ((Tryz.prog.info? 54).map (·.size) = some (encK pu).length) := infoKI
      have HI2 : Hid ((Tryz.prog.info? 54).map (·.size) = some (encK pv).length) := infoKI
      clear hkk hat hbt hxy hr1 hr2 hlt2
      generalize encK pu = V1 at HEQ HR1 HI1
      generalize encK pv = V2 at HEQ HR2 HI2
      go_upto_region 6 with fail
      refine wp_region_mix (by kernel_rfl) ?_
      show wpMix _ _ _ _ 10 (Array.replicate 10 false) _ _
      refine wpMix_take 0 rfl (by kernel_rfl) (by kernel_rfl) (by kernel_rfl) (fun _ _ _ _ h => h) (fun K hK => ?_)
      go_simp
      first
        | (refine hK _ ?_; clear hK K)
        | (apply Exists.intro
           refine ⟨fun _ => ?_, hK _ ?_⟩
           (fail)
           clear hK K)
      refine wpMix_take 1 rfl (by kernel_rfl) (by kernel_rfl) (by kernel_rfl) (fun _ _ _ _ h => h) (fun K hK => ?_)
      go_simp
      first
        | (refine hK _ ?_; clear hK K)
        | (apply Exists.intro
           refine ⟨fun _ => ?_, hK _ ?_⟩
           (fail)
           clear hK K)
      refine wpMix_take 2 rfl (by kernel_rfl) (by kernel_rfl) (by kernel_rfl) (fun _ _ _ _ h => h) (fun K hK => ?_)
      go_simp
      first
        | (refine hK _ ?_; clear hK K)
        | (apply Exists.intro
           refine ⟨fun _ => ?_, hK _ ?_⟩
           (fail)
           clear hK K)
      refine wpMix_mid 3 rfl (by kernel_rfl) (by kernel_rfl) (by kernel_rfl) (fun _ _ _ _ h => h) (by rfl) 54 _ rfl g1 (o1 + k * 22) (by first | rfl | simp [Act.eval, Act.put]) V1 _ (unhide HR1) hg1 Tryz.underlying54 rfl (unhide HI1) ?_
      go_simp
      refine wpMix_take 4 rfl (by kernel_rfl) (by kernel_rfl) (by kernel_rfl) (fun _ _ _ _ h => h) (fun K hK => ?_)
      go_simp
      first
        | (refine hK _ ?_; clear hK K)
        | (apply Exists.intro
           refine ⟨fun _ => ?_, hK _ ?_⟩
           (fail)
           clear hK K)
      refine wpMix_take 5 rfl (by kernel_rfl) (by kernel_rfl) (by kernel_rfl) (fun _ _ _ _ h => h) (fun K hK => ?_)
      go_simp
      first
        | (refine hK _ ?_; clear hK K)
        | (apply Exists.intro
           refine ⟨fun _ => ?_, hK _ ?_⟩
           (fail)
           clear hK K)
      refine wpMix_take 6 rfl (by kernel_rfl) (by kernel_rfl) (by kernel_rfl) (fun _ _ _ _ h => h) (fun K hK => ?_)
      go_simp
      first
        | (refine hK _ ?_; clear hK K)
        | (apply Exists.intro
           refine ⟨fun _ => ?_, hK _ ?_⟩
           (fail)
           clear hK K)
      refine wpMix_mid 7 rfl (by kernel_rfl) (by kernel_rfl) (by kernel_rfl) (fun _ _ _ _ h => h) (by rfl) 54 _ rfl g2 (o2 + k * 22) (by first | rfl | simp [Act.eval, Act.put]) V2 _ (unhide HR2) hg2 Tryz.underlying54 rfl (unhide HI2) ?_
      go_simp
      refine wpMix_one 8 rfl (by kernel_rfl) (by rfl) (fun x hx => ?_)
      go_simp
      refine (unhide HEQ x hx).mono ?_
      rintro e y ⟨rfl, hby⟩
      refine ⟨hby, ?_⟩
      have HBY := hide (Ge.trans hx hby)
      clear hx hby
      refine wpMix_take 9 rfl (by kernel_rfl) (by kernel_rfl) (by kernel_rfl) (fun _ _ _ _ h => h) (fun K hK => ?_)
      go_simp
      first
        | (refine hK _ ?_; clear hK K)
        | (apply Exists.intro
           refine ⟨fun _ => ?_, hK _ ?_⟩
           (fail)
           clear hK K)
      refine wpMix_done (by kernel_rfl) (fun z hz => ?_)
      have HBL5 := hide ((unhide HBL).trans ((Ge.trans (unhide HBY) hz).mono (unhide HBL).size))
      clear hz HBY HEQ HR1 HR2 HI1 HI2
      go_simp
      go_wp2_with fail
      go_roundw
      case rel => exact ⟨k + 1, by omega, by go_num, unhide HBL5⟩
      case measure => simp [intOf]; omega
    · have hke : k = l.length := by omega
      subst hke
      have hnlt : decide ((l.length : Int) < (l.length : Int)) = false := by simp
      go_wp2_with fail
      go_ret
      exact ⟨rfl, unhide HBL⟩

abbrev encStr (x : ByteArray) : List Value := [.string x]
theorem encStr_length (x : ByteArray) : (encStr x).length = 1 := rfl

abbrev StrsAt (w : World) (a : Option Addr) (l : List ByteArray) : Prop := GR.At encStr 1 w a l
theorem StrsAt.one {w : World} {a : Option Addr} {l : List ByteArray} (h : StrsAt w a l) (i : Nat) (hi : i < l.length) : ∃ g off, a = some ⟨g, off, none⟩ ∧ g < w.heap.size ∧ w.cell? ⟨g, off + i, none⟩ = some (.string l[i]) := by
  obtain ⟨g, off, e, hg, hc⟩ := h i hi
  refine ⟨g, off, e, hg, ?_⟩
  simpa using hc 0 (by omega)
abbrev strBlkS (w : World) (g : Nat) (l : List ByteArray) : Prop := GR.Blk encStr 9 w g l
theorem strBlkS.one {w : World} {g : Nat} {l : List ByteArray} (h : strBlkS w g l) (i : Nat) (hi : i < l.length) : w.cell? ⟨g, i, none⟩ = some (.string l[i]) := by
  simpa using GR.Blk.cell h encStr_length i hi 0 (by omega)
theorem strBlkS.step {w w' : World} {g : Nat} {l : List ByteArray} (h : strBlkS w g l) (hb : Below w.heap.size w w') : strBlkS w' g l := by
  have hl := GR.Blk.lt h
  unfold strBlkS GR.Blk at *
  rw [hb.block g hl]
  exact h
set_option maxRecDepth 100000 in
set_option maxHeartbeats 2000000 in
theorem eqStringSW (a b : Option Addr) (ca cb : Nat) (l : List ByteArray) (w : World) (hl : l.length ≤ 4398046511104) (ha : StrsAt w a l) (hb : StrsAt w b l) :
    Calls Tryz.prog 23 #[.slice a l.length ca, .slice b l.length cb] w fun e w' => e = .returned (.bool true) ∧ Below w.heap.size w w' := by
  have HA := hide ha
  have HB := hide hb
  clear ha hb
  go_enter Tryz.func23, Tryz.ntmps23
  go_wp2_with fail
  go_loopw [5] (fun i wr => ∃ k : Nat, k ≤ l.length ∧ i = .int .i64 k ∧ Below w.heap.size w wr) (fun i _ => l.length - (intOf i).toNat)
  case atStart => exact ⟨0, Nat.zero_le _, rfl, Below.refl _ _⟩
  case round =>
    obtain ⟨k, hk, rfl, hbel⟩ := hrel
    have HBL := hide hbel
    clear hbel
    by_cases hlt : k < l.length
    · obtain ⟨g1, o1, rfl, hg1, s0⟩ := StrsAt.one (GR.At.below (unhide HA) (unhide HBL)) k hlt
      obtain ⟨g2, o2, rfl, hg2, t0⟩ := StrsAt.one (GR.At.below (unhide HB) (unhide HBL)) k hlt
      generalize l[k] = pu at *
      go_wp2_with fail
      go_quiet (fail)
      go_wp2_with fail
      go_roundw
      case rel => exact ⟨k + 1, by omega, by go_num, (unhide HBL).trans ⟨rfl, rfl, rfl, Nat.le_refl _, fun _ _ => rfl⟩⟩
      case measure => simp [intOf]; omega
    · have hke : k = l.length := by omega
      subst hke
      have hnlt : decide ((l.length : Int) < (l.length : Int)) = false := by simp
      go_wp2_with fail
      go_ret
      exact ⟨rfl, unhide HBL⟩

structure Wd where
  up : List Int
  ks : List Kp
  net : List ByteArray
  told : List Td
  back : List Gv
structure WA where
  u : Option Addr
  uc : Nat
  k : Option Addr
  kc : Nat
  L : List KpI
  n : Option Addr
  nc : Nat
  t : Option Addr
  tc : Nat
  b : Option Addr
  bc : Nat
abbrev wdc (W : Wd) (A : WA) : Array Value := #[.slice A.u W.up.length A.uc, .slice A.k W.ks.length A.kc, .slice A.n W.net.length A.nc, .slice A.t W.told.length A.tc, .slice A.b W.back.length A.bc]
abbrev wdv (W : Wd) (A : WA) : Value := .agg (wdc W A)
structure WdAt (w : World) (A : WA) (W : Wd) : Prop where
  up : IntsAt w A.u W.up
  ke : A.L.map (fun x => x.1) = W.ks
  ks : KpsAt w A.k A.L
  net : StrsAt w A.n W.net
  told : GR.At encTd 13 w A.t W.told
  back : GR.At encGv 2 w A.b W.back
theorem WdAt.below {w w' : World} {A : WA} {W : Wd} (h : WdAt w A W) (hb : Below w.heap.size w w') : WdAt w' A W := ⟨GR.At.below h.up hb, h.ke, h.ks.below hb, GR.At.below h.net hb, GR.At.below h.told hb, GR.At.below h.back hb⟩
theorem WdAt.len {w : World} {A : WA} {W : Wd} (h : WdAt w A W) : A.L.length = W.ks.length := by rw [← h.ke, List.length_map]
structure WdSz (W : Wd) (z : Nat) : Prop where
  u : W.up.length ≤ z
  k : W.ks.length ≤ z
  kk : ∀ x ∈ W.ks, KpSz x z
  n : W.net.length ≤ z
  nk : ∀ x ∈ W.net, x.size ≤ z
  t : W.told.length ≤ z
  tk : ∀ p ∈ W.told, p.n.o.k.size ≤ z ∧ p.n.o.m.k.size ≤ z
  b : W.back.length ≤ z
theorem WdSz.row {w : World} {A : WA} {W : Wd} {z : Nat} (h : WdSz W z) (ha : WdAt w A W) : ∀ p ∈ A.L, KpSz p.1 z := fun p hp => h.kk _ (by rw [← ha.ke]; exact List.mem_map.2 ⟨p, hp, rfl⟩)
theorem at5 {w : World} {g : Nat} {v0 v1 v2 v3 v4 : Value} {t : TypeId} (h : w.heap[g]? = some (.cells #[v0, v1, v2, v3, v4] t (0, 0))) : w.cell? ⟨g, 0, none⟩ = some v0 ∧ w.cell? ⟨g, 1, none⟩ = some v1 ∧ w.cell? ⟨g, 2, none⟩ = some v2 ∧ w.cell? ⟨g, 3, none⟩ = some v3 ∧ w.cell? ⟨g, 4, none⟩ = some v4 := by
  have hc : ∀ i, w.cell? ⟨g, i, none⟩ = #[v0, v1, v2, v3, v4][i]? := fun i => cell_of_row w g i _ t (0, 0) h
  exact ⟨hc 0, hc 1, hc 2, hc 3, hc 4⟩
set_option maxRecDepth 100000 in
set_option maxHeartbeats 4000000 in
theorem eqWorld (W : Wd) (A B : WA) (w : World) (hz : WdSz W 1048576) (ha : WdAt w A W) (hb : WdAt w B W) :
    Calls Tryz.prog 8 #[wdv W A, wdv W B] w fun e w' => e = .returned (.bool true) ∧ Below w.heap.size w w' := by
  have H1 := hide (fun w1 (h : Below w.heap.size w w1) => eqTree A.u B.u A.uc B.uc W.up w1 (by have := hz.u; omega) (ha.below h).up (hb.below h).up)
  have H2 : Hid (∀ w1, Below w.heap.size w w1 → Calls Tryz.prog 22 #[.slice A.k W.ks.length A.kc, .slice B.k W.ks.length B.kc] w1 fun e w' => e = .returned (.bool true) ∧ Below w1.heap.size w1 w') := fun w1 h => by
    have hx := eqKeeperS A.k B.k A.kc B.kc A.L B.L (ha.ke.trans hb.ke.symm) w1 (by rw [ha.len]; have := hz.k; omega) (hz.row ha) (ha.below h).ks (hb.below h).ks
    rw [ha.len] at hx
    exact hx
  have H3 := hide (fun w1 (h : Below w.heap.size w w1) => eqStringSW A.n B.n A.nc B.nc W.net w1 (by have := hz.n; omega) (ha.below h).net (hb.below h).net)
  have H4 := hide (fun w1 (h : Below w.heap.size w w1) => eqToldSW A.t B.t A.tc B.tc W.told w1 (by have := hz.t; omega) (ha.below h).told (hb.below h).told)
  have H5 := hide (fun w1 (h : Below w.heap.size w w1) => eqGivenSW A.b B.b A.bc B.bc W.back w1 (by have := hz.b; omega) (ha.below h).back (hb.below h).back)
  have hS : (w.alloc (.cells (wdc W A) 32)).heap.size = w.heap.size + 1 := by simp
  have hA0 := obj_step (heap_alloc_new w (.cells (wdc W A) 32)) (below_one (w.alloc (.cells (wdc W A) 32)) (.cells (wdc W B) 32))
  have hB0 := heap_alloc_new (w.alloc (.cells (wdc W A) 32)) (.cells (wdc W B) 32)
  rw [hS] at hB0
  have HA0 := hide hA0
  have HB0 := hide hB0
  have HL0 := hide ((below_one w (.cells (wdc W A) 32)).trans ((below_one (w.alloc (.cells (wdc W A) 32)) (.cells (wdc W B) 32)).mono (by simp)))
  clear ha hb hz hS hA0 hB0
  obtain ⟨up, ks, net, td, bk⟩ := W
  obtain ⟨u, uc, k, kc, L, n, nc, t, tc, b, bc⟩ := A
  obtain ⟨u2, uc2, k2, kc2, L2, n2, nc2, t2, tc2, b2, bc2⟩ := B
  dsimp only at H1 H2 H3 H4 H5 HA0 HB0 HL0 ⊢
  go_enter Tryz.func8, Tryz.ntmps8
  obtain ⟨c0, c1, c2, c3, c4⟩ := at5 (unhide HA0)
  obtain ⟨d0, d1, d2, d3, d4⟩ := at5 (unhide HB0)
  go_wp2_with fail
  refine (unhide H1 _ (unhide HL0)).mono ?_
  rintro e w1 ⟨rfl, hb⟩
  have HA1 := hide (obj_step (unhide HA0) hb)
  have HB1 := hide (obj_step (unhide HB0) hb)
  have HL1 := hide ((unhide HL0).trans (hb.mono (unhide HL0).size))
  clear hb c0 c1 c2 c3 c4 d0 d1 d2 d3 d4 HA0 HB0 HL0
  obtain ⟨c0, c1, c2, c3, c4⟩ := at5 (unhide HA1)
  obtain ⟨d0, d1, d2, d3, d4⟩ := at5 (unhide HB1)
  go_wp2_with fail
  refine (unhide H2 _ (unhide HL1)).mono ?_
  rintro e w2 ⟨rfl, hb⟩
  have HA2 := hide (obj_step (unhide HA1) hb)
  have HB2 := hide (obj_step (unhide HB1) hb)
  have HL2 := hide ((unhide HL1).trans (hb.mono (unhide HL1).size))
  clear hb c0 c1 c2 c3 c4 d0 d1 d2 d3 d4 HA1 HB1 HL1
  obtain ⟨c0, c1, c2, c3, c4⟩ := at5 (unhide HA2)
  obtain ⟨d0, d1, d2, d3, d4⟩ := at5 (unhide HB2)
  go_wp2_with fail
  refine (unhide H3 _ (unhide HL2)).mono ?_
  rintro e w3 ⟨rfl, hb⟩
  have HA3 := hide (obj_step (unhide HA2) hb)
  have HB3 := hide (obj_step (unhide HB2) hb)
  have HL3 := hide ((unhide HL2).trans (hb.mono (unhide HL2).size))
  clear hb c0 c1 c2 c3 c4 d0 d1 d2 d3 d4 HA2 HB2 HL2
  obtain ⟨c0, c1, c2, c3, c4⟩ := at5 (unhide HA3)
  obtain ⟨d0, d1, d2, d3, d4⟩ := at5 (unhide HB3)
  go_wp2_with fail
  refine (unhide H4 _ (unhide HL3)).mono ?_
  rintro e w4 ⟨rfl, hb⟩
  have HA4 := hide (obj_step (unhide HA3) hb)
  have HB4 := hide (obj_step (unhide HB3) hb)
  have HL4 := hide ((unhide HL3).trans (hb.mono (unhide HL3).size))
  clear hb c0 c1 c2 c3 c4 d0 d1 d2 d3 d4 HA3 HB3 HL3
  obtain ⟨c0, c1, c2, c3, c4⟩ := at5 (unhide HA4)
  obtain ⟨d0, d1, d2, d3, d4⟩ := at5 (unhide HB4)
  go_wp2_with fail
  refine (unhide H5 _ (unhide HL4)).mono ?_
  rintro e w5 ⟨rfl, hb⟩
  have HA5 := hide (obj_step (unhide HA4) hb)
  have HB5 := hide (obj_step (unhide HB4) hb)
  have HL5 := hide ((unhide HL4).trans (hb.mono (unhide HL4).size))
  clear hb c0 c1 c2 c3 c4 d0 d1 d2 d3 d4 HA4 HB4 HL4
  go_wp2_with fail
  go_ret
  exact ⟨rfl, unhide HL5⟩
end Go.Proofs.YtbanjohfcnadfaaGreatDoor
