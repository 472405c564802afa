/- Parts. -/
import Derived.Test.YtfmdndhliinhpaaGreatDoorRa36
import Derived.Test.YtfmdndhliinhpaaGreatDoorRa27
import Derived.Test.YtfmdndhliinhpaaGreatDoorRa38
import Derived.Test.YtfmdndhliinhpaaGreatDoorRa37
import Derived.Test.YtfmdndhliinhpaaGreatDoorRa39
namespace Go.Proofs.YtfmdndhliinhpaaGreatDoor
open Go.RowKit
open Mth

abbrev awR : Array Value := #[.int .i64 0, .int .i64 0, .string ⟨#[]⟩, .int .i64 0, .int .i64 0, .int .i64 0, .int .i64 0, .int .i64 0, .int .i64 0, .string ⟨#[]⟩, .int .i64 0]
theorem awQ (a : Option Addr) (len cap : Nat) (w : World) (o1 o2 : Obj) (h : EP w a len) : Calls Tryz.prog 10 #[.slice a len cap] ((w.alloc o1).alloc o2) fun e w' => e = .returned (.pointer (some ⟨w.heap.size + 1 + 1, 0, none⟩)) ∧ rO w' (w.heap.size + 1 + 1) ∧ w'.heap[w.heap.size]? = some o1 ∧ w'.heap[w.heap.size + 1]? = some o2 ∧ Below w.heap.size w w' := by
  obtain ⟨e1, e2, e3⟩ := jL w o1 o2
  have hs : ((w.alloc o1).alloc o2).heap.size = w.heap.size + 1 + 1 := by simp
  generalize (w.alloc o1).alloc o2 = W at *
  have h1 := h.below e3
  refine (avu a len cap _ h1.1 h1.2).mono ?_
  rintro e w' ⟨rfl, hc, hb⟩
  have f1 := au e1 hb
  have f2 := au e2 hb
  rw [hs] at hc ⊢
  exact ⟨rfl, hc, f1, f2, e3.trans (hb.mono e3.size)⟩
theorem awG {P : Program} {ops : Array Oper} {Q : Exit → Act → World → Prop} {md : Region.Mode} {fuel : Nat} {listed : Array Bool} {a : Act} {w : World} (h : ∀ W, W = w → wpAny P md ops Q fuel listed a W) : wpAny P md ops Q fuel listed a w := h _ rfl
theorem awE {g : Nat} {w w' : World} (h : Keeps g w w') : aC [g] w w' := ⟨h.os, h.tape, h.output, h.size, fun k hk hg => h.block k hk (by simpa using hg)⟩
set_option maxRecDepth 100000 in
set_option maxHeartbeats 8000000 in
theorem awH (a : Option Addr) (len cap : Nat) (w : World) (hcode : EP w a len) : Calls Tryz.prog 6 #[.slice a len cap] w fun e w' => ∃ n A o, e = .returned (.tuple #[fU n A, jY o]) ∧ eF n 1048576 ∧ dQ w' A n ∧ o.k.size ≤ 20 ∧ o.m.k.size ≤ 20 ∧ Below w.heap.size w w' := by
  have HN := hide (awQ a len cap w (.cells iV 30) (.cells awR 34) hcode)
  clear hcode
  go_enter Tryz.func6, Tryz.ntmps6
  go_wp2_with fail
  refine (ah HN).mono ?_
  rintro e w1 ⟨rfl, hc1, hr1, hq1, hb1⟩
  have HR1 := hide hr1
  have HQ1 := hide hq1
  have HB1 := hide hb1
  have awW := hc1.lt
  clear HN hb1 hr1 hq1
  go_wp2_with fail
  refine (asf _ _ hc1).mono ?_
  rintro e w2 ⟨n, A, rfl, hz, hat, hc2, hk2⟩
  have HAT := hide hat
  have HZ := hide hz
  have hz2 := hk2.size
  have HR2 := hide (show w2.heap[w.heap.size]? = some (.cells iV 30 (0, 0)) by rw [hk2.block _ (aA (ah HR1)) (by omega)]; exact ah HR1)
  have HQ2 := hide (show w2.heap[w.heap.size + 1]? = some (.cells awR 34 (0, 0)) by rw [hk2.block _ (aA (ah HQ1)) (by omega)]; exact ah HQ1)
  have HB2 : Hid (Below w.heap.size w w2) := (ah HB1).trans (hk2.below (by omega) (ah HB1).size)
  clear hat hz hk2 hc1 HB1 HR1 HQ1
  obtain ⟨id, par, kids, next, pu, out, seen, old, reqs⟩ := n
  obtain ⟨ak, ap, ao, as', ar, ck, cp, co, cs, cr⟩ := A
  go_upto_region 3 with fail
  refine wp_at (fun W2 hW2 => ?_)
  have hbw : Below w2.heap.size w2 W2 := by rw [hW2]; exact ay w2 _
  have hO : W2.heap[w2.heap.size]? = some (.cells #[.int .i64 id, .int .i64 par, .slice ak kids.length ck, .int .i64 next, .slice ap pu.length cp, .slice ao out.length co, .slice as' seen.length cs, .int .i64 old, .slice ar reqs.length cr] 30 (0, 0)) := by rw [hW2]; exact heap_alloc_new _ _
  have awV := aA hO
  have hC2 := hc2.keep_below hbw
  have HO := hide hO
  have iJ := hide hbw
  have HR3 := hide (au (ah HR2) hbw)
  have HQ3 := hide (au (ah HQ2) hbw)
  clear hW2 hbw hO HR2 HQ2 hc2
  refine wp_region_any (by kernel_rfl) ?_
  show wpAny _ _ _ _ 5 (Array.replicate 5 false) _ _
  refine Pb (fun Y hY => ?_)
  have HOY := hide (au (ah HO) hY)
  have Hu := hide (au (ah HR3) hY)
  have HQY := hide (au (ah HQ3) hY)
  have HCY := hide (hC2.keep_below hY)
  have NC := hide ((ah iJ).trans (hY.mono (ah iJ).size))
  clear hY HO HR3 HQ3 hC2 iJ
  obtain ⟨d0, d1, d2, d3, d4, d5, d6, d7, d8⟩ := nine (ah HOY)
  refine eO 1 rfl (by kernel_rfl) (by kernel_rfl) (by kernel_rfl) (fun _ _ _ _ h => h) (fun K hK => ?_)
  go_simp
  first
    | (refine hK _ ?_; clear hK K)
    | (apply Exists.intro
       refine ⟨fun _ => rfl, hK _ ?_⟩
       clear hK K)
  refine lZ 0 2 rfl rfl (by kernel_rfl) (by rfl) (by rfl) ?_ ?_
  · go_simp
    refine aF 2 rfl (by kernel_rfl) (by rfl) ?_
    go_simp
    refine (ar1 (w.heap.size + 1 + 1) _ (ah HCY)).mono ?_
    rintro e w3 ⟨⟨K, no, k, nn, ⟨mK, mF, mT, mI, mL, mk, mN⟩⟩, rfl, hks, hms, _, hk3⟩
    have HK3 := hide hk3
    have hO3 : w3.heap[w2.heap.size]? = some (.cells #[.int .i64 id, .int .i64 par, .slice ak kids.length ck, .int .i64 next, .slice ap pu.length cp, .slice ao out.length co, .slice as' seen.length cs, .int .i64 old, .slice ar reqs.length cr] 30 (0, 0)) := by rw [hk3.block _ (aA (ah HOY)) (by omega)]; exact ah HOY
    have HR4 := hide (show w3.heap[w.heap.size]? = some (.cells iV 30 (0, 0)) by rw [hk3.block _ (aA (ah Hu)) (by omega)]; exact ah Hu)
    have HQ4 := hide (show w3.heap[w.heap.size + 1]? = some (.cells awR 34 (0, 0)) by rw [hk3.block _ (aA (ah HQY)) (by omega)]; exact ah HQY)
    clear hk3 d0 d1 d2 d3 d4 d5 d6 d7 d8
    clear hO3
    obtain ⟨r0, r1, r2, r3, r4, r5, r6, r7, r8⟩ := nine (ah HR4)
    have f0 := aj (ah HR4) 0
    have f1 := aj (ah HR4) 1
    have f2 := aj (ah HR4) 2
    have f3 := aj (ah HR4) 3
    have f4 := aj (ah HR4) 4
    have f5 := aj (ah HR4) 5
    have f6 := aj (ah HR4) 6
    have f7 := aj (ah HR4) 7
    have f8 := aj (ah HR4) 8
    have hzr := aA (ah HR4)
    go_simp
    refine aF 3 rfl (by kernel_rfl) (by rfl) ?_
    go_simp
    refine awG (fun W4 P7 => ?_)
    have hR5 := BN (b0 := .int .i64 id) (b1 := .int .i64 par) (b2 := .slice ak kids.length ck) (b3 := .int .i64 next) (b4 := .slice ap pu.length cp) (b5 := .slice ao out.length co) (b6 := .slice as' seen.length cs) (b7 := .int .i64 old) (b8 := .slice ar reqs.length cr) (ah HR4)
    have hK5 := uY (w := w3) (g := w.heap.size) (b0 := .int .i64 id) (b1 := .int .i64 par) (b2 := .slice ak kids.length ck) (b3 := .int .i64 next) (b4 := .slice ap pu.length cp) (b5 := .slice ao out.length co) (b6 := .slice as' seen.length cs) (b7 := .int .i64 old) (b8 := .slice ar reqs.length cr)
    rw [← P7] at hR5 hK5
    have N8 := hide hR5
    have HK5 := hide hK5
    have HQ5 := hide (hK5.obj (ah HQ4) (by simp))
    clear P7 hR5 hK5 f0 f1 f2 f3 f4 f5 f6 f7 f8 r0 r1 r2 r3 r4 r5 r6 r7 r8 hzr
    obtain ⟨⟨v0, v1, v2, v3, v4, v5, v6, v7, v8, v9, v10⟩, u0, u1, u2, u3, u4, u5, u6, u7, u8, u9, u10⟩ := bX (ah HQ5)
    have hzq := aA (ah HQ5)
    refine aF 4 rfl (by kernel_rfl) (by rfl) ?_
    go_simp
    refine wpAny_done (by kernel_rfl) ?_
    go_simp
    go_wp2_with fail
    refine Fw (fun W' hW' => ?_)
    have hQ6 := iy (b0 := .int .i64 K) (b1 := .int .i64 no) (b2 := .string k) (b3 := .int .i64 nn) (b4 := .int .i64 mK) (b5 := .int .i64 mF) (b6 := .int .i64 mT) (b7 := .int .i64 mI) (b8 := .int .i64 mL) (b9 := .string mk) (b10 := .int .i64 mN) (ah HQ5)
    have hK6 : aC [w.heap.size + 1] W4 W' := by rw [hW']; exact aM (g := w.heap.size + 1) [.int .i64 K, .int .i64 no, .string k, .int .i64 nn, .int .i64 mK, .int .i64 mF, .int .i64 mT, .int .i64 mI, .int .i64 mL, .string mk, .int .i64 mN] W4 0
    rw [← hW'] at hQ6
    have hR6 := hK6.obj (ah N8) (by simp)
    obtain ⟨y0, y1, y2, y3, y4, y5, y6, y7, y8⟩ := nine hR6
    obtain ⟨⟨z0, z1, z2, z3, z4, z5, z6, z7, z8, z9, z10⟩, _⟩ := bX hQ6
    have hall : aC [w.heap.size, w.heap.size + 1, w.heap.size + 1 + 1] w2 W' := ((((aC.of_below (ah NC)).trans ((awE (ah HK3)).mono (by simp))).trans ((ah HK5).mono (by simp))).trans (hK6.mono (by simp)))
    have hbl : Below w.heap.size w W' := (ah HB2).trans (hall.below (fun x hx => by simp at hx; omega) (by omega))
    exact bodyPost_ret (v := .tuple #[.agg #[.int .i64 id, .int .i64 par, .slice ak kids.length ck, .int .i64 next, .slice ap pu.length cp, .slice ao out.length co, .slice as' seen.length cs, .int .i64 old, .slice ar reqs.length cr], .agg #[.int .i64 K, .int .i64 no, .string k, .int .i64 nn, .int .i64 mK, .int .i64 mF, .int .i64 mT, .int .i64 mI, .int .i64 mL, .string mk, .int .i64 mN]]) (by simp [results, Tryz.results6, go_sem, y0, y1, y2, y3, y4, y5, y6, y7, y8, z0, z1, z2, z3, z4, z5, z6, z7, z8, z9, z10]) rfl ⟨⟨id, par, kids, next, pu, out, seen, old, reqs⟩, ⟨ak, ap, ao, as', ar, ck, cp, co, cs, cr⟩, ⟨K, no, k, nn, ⟨mK, mF, mT, mI, mL, mk, mN⟩⟩, rfl, ah HZ, ah HAT W' ⟨_, hall, fun x hx => by simp at hx; omega⟩, hks, hms, hbl⟩
  · go_simp
    refine (ar1 (w.heap.size + 1 + 1) _ (ah HCY)).mono ?_
    rintro e w3 ⟨⟨K, no, k, nn, ⟨mK, mF, mT, mI, mL, mk, mN⟩⟩, rfl, hks, hms, _, hk3⟩
    have HK3 := hide hk3
    have hO3 : w3.heap[w2.heap.size]? = some (.cells #[.int .i64 id, .int .i64 par, .slice ak kids.length ck, .int .i64 next, .slice ap pu.length cp, .slice ao out.length co, .slice as' seen.length cs, .int .i64 old, .slice ar reqs.length cr] 30 (0, 0)) := by rw [hk3.block _ (aA (ah HOY)) (by omega)]; exact ah HOY
    have HR4 := hide (show w3.heap[w.heap.size]? = some (.cells iV 30 (0, 0)) by rw [hk3.block _ (aA (ah Hu)) (by omega)]; exact ah Hu)
    have HQ4 := hide (show w3.heap[w.heap.size + 1]? = some (.cells awR 34 (0, 0)) by rw [hk3.block _ (aA (ah HQY)) (by omega)]; exact ah HQY)
    clear hk3 d0 d1 d2 d3 d4 d5 d6 d7 d8
    obtain ⟨x0, x1, x2, x3, x4, x5, x6, x7, x8⟩ := nine hO3
    go_simp
    refine aF 0 rfl (by kernel_rfl) (by rfl) ?_
    go_simp
    clear hO3 x0 x1 x2 x3 x4 x5 x6 x7 x8
    obtain ⟨r0, r1, r2, r3, r4, r5, r6, r7, r8⟩ := nine (ah HR4)
    have f0 := aj (ah HR4) 0
    have f1 := aj (ah HR4) 1
    have f2 := aj (ah HR4) 2
    have f3 := aj (ah HR4) 3
    have f4 := aj (ah HR4) 4
    have f5 := aj (ah HR4) 5
    have f6 := aj (ah HR4) 6
    have f7 := aj (ah HR4) 7
    have f8 := aj (ah HR4) 8
    have hzr := aA (ah HR4)
    go_simp
    refine aF 3 rfl (by kernel_rfl) (by rfl) ?_
    go_simp
    refine awG (fun W4 P7 => ?_)
    have hR5 := BN (b0 := .int .i64 id) (b1 := .int .i64 par) (b2 := .slice ak kids.length ck) (b3 := .int .i64 next) (b4 := .slice ap pu.length cp) (b5 := .slice ao out.length co) (b6 := .slice as' seen.length cs) (b7 := .int .i64 old) (b8 := .slice ar reqs.length cr) (ah HR4)
    have hK5 := uY (w := w3) (g := w.heap.size) (b0 := .int .i64 id) (b1 := .int .i64 par) (b2 := .slice ak kids.length ck) (b3 := .int .i64 next) (b4 := .slice ap pu.length cp) (b5 := .slice ao out.length co) (b6 := .slice as' seen.length cs) (b7 := .int .i64 old) (b8 := .slice ar reqs.length cr)
    rw [← P7] at hR5 hK5
    have N8 := hide hR5
    have HK5 := hide hK5
    have HQ5 := hide (hK5.obj (ah HQ4) (by simp))
    clear P7 hR5 hK5 f0 f1 f2 f3 f4 f5 f6 f7 f8 r0 r1 r2 r3 r4 r5 r6 r7 r8 hzr
    obtain ⟨⟨v0, v1, v2, v3, v4, v5, v6, v7, v8, v9, v10⟩, u0, u1, u2, u3, u4, u5, u6, u7, u8, u9, u10⟩ := bX (ah HQ5)
    have hzq := aA (ah HQ5)
    refine aF 4 rfl (by kernel_rfl) (by rfl) ?_
    go_simp
    refine wpAny_done (by kernel_rfl) ?_
    go_simp
    go_wp2_with fail
    refine Fw (fun W' hW' => ?_)
    have hQ6 := iy (b0 := .int .i64 K) (b1 := .int .i64 no) (b2 := .string k) (b3 := .int .i64 nn) (b4 := .int .i64 mK) (b5 := .int .i64 mF) (b6 := .int .i64 mT) (b7 := .int .i64 mI) (b8 := .int .i64 mL) (b9 := .string mk) (b10 := .int .i64 mN) (ah HQ5)
    have hK6 : aC [w.heap.size + 1] W4 W' := by rw [hW']; exact aM (g := w.heap.size + 1) [.int .i64 K, .int .i64 no, .string k, .int .i64 nn, .int .i64 mK, .int .i64 mF, .int .i64 mT, .int .i64 mI, .int .i64 mL, .string mk, .int .i64 mN] W4 0
    rw [← hW'] at hQ6
    have hR6 := hK6.obj (ah N8) (by simp)
    obtain ⟨y0, y1, y2, y3, y4, y5, y6, y7, y8⟩ := nine hR6
    obtain ⟨⟨z0, z1, z2, z3, z4, z5, z6, z7, z8, z9, z10⟩, _⟩ := bX hQ6
    have hall : aC [w.heap.size, w.heap.size + 1, w.heap.size + 1 + 1] w2 W' := ((((aC.of_below (ah NC)).trans ((awE (ah HK3)).mono (by simp))).trans ((ah HK5).mono (by simp))).trans (hK6.mono (by simp)))
    have hbl : Below w.heap.size w W' := (ah HB2).trans (hall.below (fun x hx => by simp at hx; omega) (by omega))
    exact bodyPost_ret (v := .tuple #[.agg #[.int .i64 id, .int .i64 par, .slice ak kids.length ck, .int .i64 next, .slice ap pu.length cp, .slice ao out.length co, .slice as' seen.length cs, .int .i64 old, .slice ar reqs.length cr], .agg #[.int .i64 K, .int .i64 no, .string k, .int .i64 nn, .int .i64 mK, .int .i64 mF, .int .i64 mT, .int .i64 mI, .int .i64 mL, .string mk, .int .i64 mN]]) (by simp [results, Tryz.results6, go_sem, y0, y1, y2, y3, y4, y5, y6, y7, y8, z0, z1, z2, z3, z4, z5, z6, z7, z8, z9, z10]) rfl ⟨⟨id, par, kids, next, pu, out, seen, old, reqs⟩, ⟨ak, ap, ao, as', ar, ck, cp, co, cs, cr⟩, ⟨K, no, k, nn, ⟨mK, mF, mT, mI, mL, mk, mN⟩⟩, rfl, ah HZ, ah HAT W' ⟨_, hall, fun x hx => by simp at hx; omega⟩, hks, hms, hbl⟩

/-- A node that lies, and messages. -/
def awJ (w : World) (R : Nd × List Mg × Int) (e : Ending) (w' : World) : Prop := ∃ A' a' c', e = .returned (.tuple #[fU R.1 A', .slice a' R.2.1.length c', .int .i64 R.2.2]) ∧ dQ w' A' R.1 ∧ Sy w' a' R.2.1 ∧ Below w.heap.size w w'
theorem awK (n : Nd) (A : bQ) (o : iK) (E : Nat → Addr) (w : World) (hz : eF n 1048576) (hk : o.k.size ≤ 20) (hmk : o.m.k.size ≤ 20) (ha : dQ w A n) (he : iw w E) :
    Calls Tryz.prog 7 #[fU n A, jY o] w (awJ w (lK n o)) := by
  refine (aea n A o E w hz (by omega) (by omega) ha he).mono ?_
  rintro e w' ⟨A', G', c', v', rfl, hN, hM, _, hb⟩
  obtain ⟨a', cp', hv, _⟩ := GR.own_at (enc := je) (sz := 7) (l := (lK n o).2.1) mG hM
  subst hv
  exact ⟨A', a', cp', rfl, hN.at, GR.own_ati mG hM, hb⟩
/-- As above; the node lies also where what is older was written. -/
def awP (w : World) (R : Nd × List Mg × Int) (e : Ending) (w' : World) : Prop := ∃ A' a' c', e = .returned (.tuple #[fU R.1 A', .slice a' R.2.1.length c', .int .i64 R.2.2]) ∧ (∀ W'', zD w w' W'' → dQ W'' A' R.1) ∧ Below w.heap.size w w'
theorem awU (n : Nd) (A : bQ) (o : iK) (E : Nat → Addr) (w : World) (hz : eF n 1048576) (hk : o.k.size ≤ 20) (hmk : o.m.k.size ≤ 20) (ha : dQ w A n) (he : iw w E) :
    Calls Tryz.prog 7 #[fU n A, jY o] w (awP w (lK n o)) := by
  refine (aea n A o E w hz (by omega) (by omega) ha he).mono ?_
  rintro e w' ⟨A', G', c', v', rfl, hN, hM, _, hb⟩
  obtain ⟨a', cp', hv, _⟩ := GR.own_at (enc := je) (sz := 7) (l := (lK n o).2.1) mG hM
  subst hv
  exact ⟨A', a', cp', rfl, fun W'' h => (hN.kc0 (h.kc hN.lo)).at, hb⟩
/-- What a law has in its hands: blocks that hold something, and all older memory as it was. -/
structure LSt (w : World) (bs : List (Nat × Obj)) (W : World) : Prop where
  bel : Below w.heap.size w W
  own : ∀ x ∈ bs, W.heap[x.1]? = some x.2
theorem LSt.step {w W W' : World} {bs : List (Nat × Obj)} (h : LSt w bs W) (hb : Below W.heap.size W W') : LSt w bs W' := ⟨h.bel.trans (hb.mono h.bel.size), fun x hx => au (h.own x hx) hb⟩
theorem LSt.add {w W : World} {bs : List (Nat × Obj)} (h : LSt w bs W) {g : Nat} {o : Obj} (hg : W.heap[g]? = some o) : LSt w ((g, o) :: bs) W := ⟨h.bel, fun x hx => by
  rcases List.mem_cons.1 hx with rfl | hx
  · exact hg
  · exact h.own x hx⟩
/-- What FnOnce asks. -/
theorem awO {n : Nd} {o : iK} (h : (lK n o).2.2 ≠ 3) : ((o.K = 1 ∨ o.K = 2) → (lK (lK n o).1 o).1 = (lK n o).1 ∧ ((lK (lK n o).1 o).2.2 = (lK n o).2.2 ∨ (o.no ≤ (lK n o).1.old ∧ (lK (lK n o).1 o).2.2 = 2))) ∧ (o.K = 6 → o.m.K ≠ 0 → (lK (lK n o).1 o).1 = (lK n o).1 ∧ (lK (lK n o).1 o).2.2 = (lK n o).2.2 ∧ ((lK n o).2.2 = 0 → o.m.K = 1 → ∃ x, (lK (lK n o).1 o).2.1 = [x] ∧ x.K = 2 ∧ x.I = o.m.I)) := by
  refine ⟨fun hK => ?_, fun hK hM => aeL h hK hM⟩
  rcases hK with hK | hK
  · exact aen h hK
  · exact ⟨(YF h hK).1, .inl (YF h hK).2⟩

set_option maxRecDepth 100000 in
set_option maxHeartbeats 16000000 in
theorem awL (a : Option Addr) (len cap : Nat) (E : Nat → Addr) (w : World) (hcode : EP w a len) (he : iw w E) : Calls Tryz.prog 3 #[.slice a len cap] w fun e w' => e = .returned (.bool true) ∧ Below w.heap.size w w' := by
  have hl := hcode.1
  have HC := hide hcode
  have HE := hide he
  clear hcode he
  go_enter Tryz.func3, Tryz.ntmps3
  go_wp2_with fail
  refine (avD a len cap _ hl).mono ?_
  rintro e w0 ⟨rfl, rfl⟩
  go_wp2_with fail
  refine (awH a len cap _ (ah HC)).mono ?_
  rintro e w1 ⟨n, A, o, rfl, hz, hat, hk, hmk, hb1⟩
  clear HC
  have HD1 := hide (fun W (hb : Below w.heap.size w W) (ha : dQ W A n) => awK n A o E W hz hk hmk ha ((ah HE).below hb))
  have HD2 := hide (fun A' W (hb : Below w.heap.size w W) (ha : dQ W A' (lK n o).1) => awK (lK n o).1 A' o E W (aru hz) hk hmk ha ((ah HE).below hb))
  have HSN := hide (fun A' B' W (ha : dQ W A' (lK n o).1) (hb : dQ W B' (lK n o).1) => aeN (lK n o).1 A' B' W (aru hz) ha hb)
  have HON := hide (@awO n o)
  have HAT := hide hat
  have HB1 := hide hb1
  unfold awJ at HD1 HD2
  clear hz hat hb1 hk hmk HE
  generalize lK n o = R1 at *
  obtain ⟨m, L1, zh⟩ := R1
  dsimp only at HD1 HD2 HSN HON
  generalize lK m o = R2 at *
  obtain ⟨m2, L2, awD⟩ := R2
  dsimp only at HD1 HD2 HSN HON
  obtain ⟨K, no, k, nn, ⟨mK, mF, mT, mI, mL, mk, mN⟩⟩ := o
  dsimp only at HON
  go_upto_region 4 with fail
  refine wp_at (fun W1 hW1 => ?_)
  have HP := hide (show W1.heap[w1.heap.size]? = some (.cells #[.int .i64 n.id, .int .i64 n.par, .slice A.k n.kids.length A.ck, .int .i64 n.next, .slice A.p n.pu.length A.cp, .slice A.o n.out.length A.co, .slice A.s n.seen.length A.cs, .int .i64 n.old, .slice A.r n.reqs.length A.cr] 30 (0, 0)) by rw [hW1]; exact (jL w1 _ _).1)
  have HO := hide (show W1.heap[w1.heap.size + 1]? = some (.cells #[.int .i64 K, .int .i64 no, .string k, .int .i64 nn, .int .i64 mK, .int .i64 mF, .int .i64 mT, .int .i64 mI, .int .i64 mL, .string mk, .int .i64 mN] 34 (0, 0)) by rw [hW1]; exact (jL w1 _ _).2.1)
  have hbw : Below w1.heap.size w1 W1 := by rw [hW1]; exact (jL w1 _ _).2.2
  have HB2 := hide ((ah HB1).trans (hbw.mono (ah HB1).size))
  have awC := hide (ah HD1 W1 (ah HB2) ((ah HAT).below hbw))
  clear hW1 hbw HAT HB1 HD1
  obtain ⟨c0, c1, c2, c3, c4, c5, c6, c7, c8⟩ := nine (ah HP)
  obtain ⟨⟨o0, o1, o2, o3, o4, o5, o6, o7, o8, o9, o10⟩, _⟩ := bX (ah HO)
  go_wp2_with fail
  refine (ah awC).mono ?_
  rintro e w2 ⟨A', a', cap', rfl, hN, _, hb2⟩
  have Zr := hide (au (ah HO) hb2)
  have HB3 := hide ((ah HB2).trans (hb2.mono (ah HB2).size))
  have RZ := hide hN
  clear hN hb2 HO HP HB2 awC c0 c1 c2 c3 c4 c5 c6 c7 c8 o0 o1 o2 o3 o4 o5 o6 o7 o8 o9 o10
  go_upto_region 5 with fail
  refine wp_at (fun W2 hW2 => ?_)
  have hbw : Below w2.heap.size w2 W2 := by rw [hW2]; exact ay w2 _
  have HM := hide (show W2.heap[w2.heap.size]? = some (.cells #[.int .i64 m.id, .int .i64 m.par, .slice A'.k m.kids.length A'.ck, .int .i64 m.next, .slice A'.p m.pu.length A'.cp, .slice A'.o m.out.length A'.co, .slice A'.s m.seen.length A'.cs, .int .i64 m.old, .slice A'.r m.reqs.length A'.cr] 30 (0, 0)) by rw [hW2]; exact heap_alloc_new _ _)
  have Ah := hide (au (ah Zr) hbw)
  have kC := hide ((ah HB3).trans (hbw.mono (ah HB3).size))
  have HN3 := hide ((ah RZ).below hbw)
  have awC := hide (ah HD2 A' W2 (ah kC) (ah HN3))
  clear hW2 hbw Zr HB3 RZ HD2
  obtain ⟨⟨o0, o1, o2, o3, o4, o5, o6, o7, o8, o9, o10⟩, _⟩ := bX (ah Ah)
  by_cases h3 : zh = 3
  · subst h3
    clear awC HSN HON
    go_wp2_with fail
    go_ret
    exact ⟨rfl, ah kC⟩
  have e3 : (zh == 3) = false := by simp [h3]
  obtain ⟨awF, awM⟩ := ah HON h3
  clear HON h3
  by_cases hK1 : K = 1
  · subst hK1
    have e := (awF (.inl rfl)).1
    have hcd := (awF (.inl rfl)).2
    have e' : m = m2 := e.symm
    clear awF awM e
    subst e'
    obtain ⟨c0, c1, c2, c3, c4, c5, c6, c7, c8⟩ := nine (ah HM)
    go_wp2_with fail
    refine (ah awC).mono ?_
    rintro e w3 ⟨A'', a'', awS, rfl, hN, hMs, hb3⟩
    have Hr := hide (au (ah Ah) hb3)
    have HM4 := hide (au (ah HM) hb3)
    have Pk := hide ((ah HN3).below hb3)
    have jd := hide ((ah kC).trans (hb3.mono (ah kC).size))
    have HN5 := hide hN
    have HMs := hide hMs
    clear hN hMs hb3 Ah HM HN3 kC awC c0 c1 c2 c3 c4 c5 c6 c7 c8 o0 o1 o2 o3 o4 o5 o6 o7 o8 o9 o10
    go_upto_region 8 with fail
    refine wp_at (fun W3 hW3 => ?_)
    have hbw : Below w3.heap.size w3 W3 := by rw [hW3]; exact ay w3 _
    have HG := hide (show W3.heap[w3.heap.size]? = some (.cells #[.int .i64 m.id, .int .i64 m.par, .slice A''.k m.kids.length A''.ck, .int .i64 m.next, .slice A''.p m.pu.length A''.cp, .slice A''.o m.out.length A''.co, .slice A''.s m.seen.length A''.cs, .int .i64 m.old, .slice A''.r m.reqs.length A''.cr] 30 (0, 0)) by rw [hW3]; exact heap_alloc_new _ _)
    have xQ := hide (au (ah Hr) hbw)
    have HM5 := hide (au (ah HM4) hbw)
    have HN6 := hide ((ah Pk).below hbw)
    have HN7 := hide ((ah HN5).below hbw)
    have HMt := hide (GR.At.below (ah HMs) hbw)
    have uj := hide ((ah jd).trans (hbw.mono (ah jd).size))
    clear hW3 hbw Hr HM4 Pk HN5 HMs jd
    obtain ⟨⟨o0, o1, o2, o3, o4, o5, o6, o7, o8, o9, o10⟩, _⟩ := bX (ah xQ)
    obtain ⟨c0, c1, c2, c3, c4, c5, c6, c7, c8⟩ := nine (ah HM5)
    obtain ⟨g0, g1, g2, g3, g4, g5, g6, g7, g8⟩ := nine (ah HG)
    clear HMt
    have Rb := hide (ah HSN A'' A' W3 (ah HN7) (ah HN6))
    clear HN6 HN7 HSN
    go_wp2_with fail
    refine (ah Rb).mono ?_
    rintro e w4 ⟨rfl, hb4⟩
    have zF := hide ((ah uj).trans (hb4.mono (ah uj).size))
    have HO6 := hide (au (ah xQ) hb4)
    have HM6 := hide (au (ah HM5) hb4)
    clear hb4 xQ HM5 HG Rb uj c0 c1 c2 c3 c4 c5 c6 c7 c8 o0 o1 o2 o3 o4 o5 o6 o7 o8 o9 o10 g0 g1 g2 g3 g4 g5 g6 g7 g8
    obtain ⟨⟨o0, o1, o2, o3, o4, o5, o6, o7, o8, o9, o10⟩, _⟩ := bX (ah HO6)
    obtain ⟨c0, c1, c2, c3, c4, c5, c6, c7, c8⟩ := nine (ah HM6)
    by_cases hq : awD = zh
    · have hq' : zh = awD := hq.symm
      clear hq hcd
      subst hq'
      go_wp2_with fail
      go_ret
      exact ⟨rfl, ah zF⟩
    · have hq2 : (awD == zh) = false := by simp [hq]
      have hle : no ≤ m.old := by rcases hcd with h | h; exact absurd h hq; exact h.1
      have h2 : awD = 2 := by rcases hcd with h | h; exact absurd h hq; exact h.2
      clear hq hcd
      subst h2
      have hd : decide (m.old ≥ no) = true := decide_eq_true hle
      go_wp2_with fail
      go_ret
      exact ⟨rfl, ah zF⟩
  by_cases hK2 : K = 2
  · subst hK2
    clear hK1
    have e := (awF (.inr rfl)).1
    have hcd := (awF (.inr rfl)).2
    have e' : m = m2 := e.symm
    clear awF awM e
    subst e'
    obtain ⟨c0, c1, c2, c3, c4, c5, c6, c7, c8⟩ := nine (ah HM)
    go_wp2_with fail
    refine (ah awC).mono ?_
    rintro e w3 ⟨A'', a'', awS, rfl, hN, hMs, hb3⟩
    have Hr := hide (au (ah Ah) hb3)
    have HM4 := hide (au (ah HM) hb3)
    have Pk := hide ((ah HN3).below hb3)
    have jd := hide ((ah kC).trans (hb3.mono (ah kC).size))
    have HN5 := hide hN
    have HMs := hide hMs
    clear hN hMs hb3 Ah HM HN3 kC awC c0 c1 c2 c3 c4 c5 c6 c7 c8 o0 o1 o2 o3 o4 o5 o6 o7 o8 o9 o10
    go_upto_region 8 with fail
    refine wp_at (fun W3 hW3 => ?_)
    have hbw : Below w3.heap.size w3 W3 := by rw [hW3]; exact ay w3 _
    have HG := hide (show W3.heap[w3.heap.size]? = some (.cells #[.int .i64 m.id, .int .i64 m.par, .slice A''.k m.kids.length A''.ck, .int .i64 m.next, .slice A''.p m.pu.length A''.cp, .slice A''.o m.out.length A''.co, .slice A''.s m.seen.length A''.cs, .int .i64 m.old, .slice A''.r m.reqs.length A''.cr] 30 (0, 0)) by rw [hW3]; exact heap_alloc_new _ _)
    have xQ := hide (au (ah Hr) hbw)
    have HM5 := hide (au (ah HM4) hbw)
    have HN6 := hide ((ah Pk).below hbw)
    have HN7 := hide ((ah HN5).below hbw)
    have HMt := hide (GR.At.below (ah HMs) hbw)
    have uj := hide ((ah jd).trans (hbw.mono (ah jd).size))
    clear hW3 hbw Hr HM4 Pk HN5 HMs jd
    obtain ⟨⟨o0, o1, o2, o3, o4, o5, o6, o7, o8, o9, o10⟩, _⟩ := bX (ah xQ)
    obtain ⟨c0, c1, c2, c3, c4, c5, c6, c7, c8⟩ := nine (ah HM5)
    obtain ⟨g0, g1, g2, g3, g4, g5, g6, g7, g8⟩ := nine (ah HG)
    clear HMt
    have Rb := hide (ah HSN A'' A' W3 (ah HN7) (ah HN6))
    clear HN6 HN7 HSN
    go_wp2_with fail
    refine (ah Rb).mono ?_
    rintro e w4 ⟨rfl, hb4⟩
    have zF := hide ((ah uj).trans (hb4.mono (ah uj).size))
    have HO6 := hide (au (ah xQ) hb4)
    have HM6 := hide (au (ah HM5) hb4)
    clear hb4 xQ HM5 HG Rb uj c0 c1 c2 c3 c4 c5 c6 c7 c8 o0 o1 o2 o3 o4 o5 o6 o7 o8 o9 o10 g0 g1 g2 g3 g4 g5 g6 g7 g8
    obtain ⟨⟨o0, o1, o2, o3, o4, o5, o6, o7, o8, o9, o10⟩, _⟩ := bX (ah HO6)
    obtain ⟨c0, c1, c2, c3, c4, c5, c6, c7, c8⟩ := nine (ah HM6)
    by_cases hq : awD = zh
    · have hq' : zh = awD := hq.symm
      clear hq hcd
      subst hq'
      go_wp2_with fail
      go_ret
      exact ⟨rfl, ah zF⟩
    · have hq2 : (awD == zh) = false := by simp [hq]
      have hle : no ≤ m.old := by rcases hcd with h | h; exact absurd h hq; exact h.1
      have h2 : awD = 2 := by rcases hcd with h | h; exact absurd h hq; exact h.2
      clear hq hcd
      subst h2
      have hd : decide (m.old ≥ no) = true := decide_eq_true hle
      go_wp2_with fail
      go_ret
      exact ⟨rfl, ah zF⟩
  by_cases hK6 : K = 6
  · subst hK6
    clear hK1 hK2
    by_cases hm0 : mK = 0
    · subst hm0
      clear awF awM awC HSN
      go_wp2_with fail
      go_ret
      exact ⟨rfl, ah kC⟩
    · have em0 : (mK == 0) = false := by simp [hm0]
      obtain ⟨e, hcc, hsaid⟩ := awM rfl hm0
      have e' : m = m2 := e.symm
      have hc' : zh = awD := hcc.symm
      clear awF awM e hcc
      subst e'
      subst hc'
      have e0 : (mK != 0) = true := by simp [hm0]
      clear hm0
      obtain ⟨c0, c1, c2, c3, c4, c5, c6, c7, c8⟩ := nine (ah HM)
      go_wp2_with fail
      refine (ah awC).mono ?_
      rintro e w3 ⟨A'', a'', awS, rfl, hN, hMs, hb3⟩
      have Hr := hide (au (ah Ah) hb3)
      have HM4 := hide (au (ah HM) hb3)
      have Pk := hide ((ah HN3).below hb3)
      have jd := hide ((ah kC).trans (hb3.mono (ah kC).size))
      have HN5 := hide hN
      have HMs := hide hMs
      clear hN hMs hb3 Ah HM HN3 kC awC c0 c1 c2 c3 c4 c5 c6 c7 c8 o0 o1 o2 o3 o4 o5 o6 o7 o8 o9 o10
      go_upto_region 8 with fail
      refine wp_at (fun W3 hW3 => ?_)
      have hbw : Below w3.heap.size w3 W3 := by rw [hW3]; exact ay w3 _
      have HG := hide (show W3.heap[w3.heap.size]? = some (.cells #[.int .i64 m.id, .int .i64 m.par, .slice A''.k m.kids.length A''.ck, .int .i64 m.next, .slice A''.p m.pu.length A''.cp, .slice A''.o m.out.length A''.co, .slice A''.s m.seen.length A''.cs, .int .i64 m.old, .slice A''.r m.reqs.length A''.cr] 30 (0, 0)) by rw [hW3]; exact heap_alloc_new _ _)
      have xQ := hide (au (ah Hr) hbw)
      have HM5 := hide (au (ah HM4) hbw)
      have HN6 := hide ((ah Pk).below hbw)
      have HN7 := hide ((ah HN5).below hbw)
      have HMt := hide (GR.At.below (ah HMs) hbw)
      have uj := hide ((ah jd).trans (hbw.mono (ah jd).size))
      clear hW3 hbw Hr HM4 Pk HN5 HMs jd
      obtain ⟨⟨o0, o1, o2, o3, o4, o5, o6, o7, o8, o9, o10⟩, _⟩ := bX (ah xQ)
      obtain ⟨c0, c1, c2, c3, c4, c5, c6, c7, c8⟩ := nine (ah HM5)
      obtain ⟨g0, g1, g2, g3, g4, g5, g6, g7, g8⟩ := nine (ah HG)
      by_cases h0 : zh = 0
      · subst h0
        by_cases hp : mK = 1
        · subst hp
          obtain ⟨x, hL, hxK, hxI⟩ := hsaid rfl rfl
          subst hL
          obtain ⟨gs, os, rfl, hgs, q0, q1, q2, q3, q4, q5, q6⟩ := Sy.seven (ah HMt) 0 (by simp)
          simp only [List.getElem_cons_zero, Nat.zero_mul, Nat.add_zero] at q0 q3
          rw [hxK] at q0
          rw [hxI] at q3
          clear hxK hxI q1 q2 q4 q5 q6 hsaid
          go_upto_region 9 with fail
          have p0 : ∀ d os, Calls Tryz.prog 8 #[.agg #[.int .i64 m.id, .int .i64 m.par, .slice A''.k m.kids.length A''.ck, .int .i64 m.next, .slice A''.p m.pu.length A''.cp, .slice A''.o m.out.length A''.co, .slice A''.s m.seen.length A''.cs, .int .i64 m.old, .slice A''.r m.reqs.length A''.cr], .agg #[.int .i64 m.id, .int .i64 m.par, .slice A'.k m.kids.length A'.ck, .int .i64 m.next, .slice A'.p m.pu.length A'.cp, .slice A'.o m.out.length A'.co, .slice A'.s m.seen.length A'.cs, .int .i64 m.old, .slice A'.r m.reqs.length A'.cr]] (Sort.grow (redrawn W3 d) os) fun e w'' => e = .returned (.bool true) ∧ ∃ p : Regrown, w'' = Sort.grow (redrawn W3 p.d) p.os := fun d os => Calls.regrown_of (ah HSN A'' A' _ ((ah HN7).below (below_regrown W3 d os)) ((ah HN6).below (below_regrown W3 d os)))
          have y0 := cell_regrown c0
          have z0 := cell_regrown g0
          have y1 := cell_regrown c1
          have z1 := cell_regrown g1
          have y2 := cell_regrown c2
          have z2 := cell_regrown g2
          have y3 := cell_regrown c3
          have z3 := cell_regrown g3
          have y4 := cell_regrown c4
          have z4 := cell_regrown g4
          have y5 := cell_regrown c5
          have z5 := cell_regrown g5
          have y6 := cell_regrown c6
          have z6 := cell_regrown g6
          have y7 := cell_regrown c7
          have z7 := cell_regrown g7
          have y8 := cell_regrown c8
          have z8 := cell_regrown g8
          have u0 := cell_regrown o0
          have u4 := cell_regrown o4
          have u7 := cell_regrown o7
          have s0 := cell_regrown q0
          have s3 := cell_regrown q3
          clear q0 q3
          clear HSN HN6 HN7 HMt HG HM5 xQ c0 c1 c2 c3 c4 c5 c6 c7 c8 o0 o1 o2 o3 o4 o5 o6 o7 o8 o9 o10 g0 g1 g2 g3 g4 g5 g6 g7 g8
          refine wp_region_quiet_below (by kernel_rfl) (by kernel_rfl) ?_
          repeat (first | go_big_quiet_step (first | (go_at_call 8; exact p0 _ _)) | quiet_step (first | (go_at_call 8; exact p0 _ _)))
          refine wpQuiet_nil ?_
          intro _ hw'
          obtain ⟨⟨dq, osq⟩, hw''⟩ := hw'
          subst hw''
          have zF := hide ((ah uj).trans ((below_regrown W3 dq osq).mono (ah uj).size))
          go_wp2_with fail
          go_ret
          exact ⟨rfl, ah zF⟩
        · have hp1 : (mK != 1) = true := by simp [hp]
          clear hp hsaid
          go_upto_region 9 with fail
          have p0 : ∀ d os, Calls Tryz.prog 8 #[.agg #[.int .i64 m.id, .int .i64 m.par, .slice A''.k m.kids.length A''.ck, .int .i64 m.next, .slice A''.p m.pu.length A''.cp, .slice A''.o m.out.length A''.co, .slice A''.s m.seen.length A''.cs, .int .i64 m.old, .slice A''.r m.reqs.length A''.cr], .agg #[.int .i64 m.id, .int .i64 m.par, .slice A'.k m.kids.length A'.ck, .int .i64 m.next, .slice A'.p m.pu.length A'.cp, .slice A'.o m.out.length A'.co, .slice A'.s m.seen.length A'.cs, .int .i64 m.old, .slice A'.r m.reqs.length A'.cr]] (Sort.grow (redrawn W3 d) os) fun e w'' => e = .returned (.bool true) ∧ ∃ p : Regrown, w'' = Sort.grow (redrawn W3 p.d) p.os := fun d os => Calls.regrown_of (ah HSN A'' A' _ ((ah HN7).below (below_regrown W3 d os)) ((ah HN6).below (below_regrown W3 d os)))
          have y0 := cell_regrown c0
          have z0 := cell_regrown g0
          have y1 := cell_regrown c1
          have z1 := cell_regrown g1
          have y2 := cell_regrown c2
          have z2 := cell_regrown g2
          have y3 := cell_regrown c3
          have z3 := cell_regrown g3
          have y4 := cell_regrown c4
          have z4 := cell_regrown g4
          have y5 := cell_regrown c5
          have z5 := cell_regrown g5
          have y6 := cell_regrown c6
          have z6 := cell_regrown g6
          have y7 := cell_regrown c7
          have z7 := cell_regrown g7
          have y8 := cell_regrown c8
          have z8 := cell_regrown g8
          have u0 := cell_regrown o0
          have u4 := cell_regrown o4
          have u7 := cell_regrown o7
          clear HSN HN6 HN7 HMt HG HM5 xQ c0 c1 c2 c3 c4 c5 c6 c7 c8 o0 o1 o2 o3 o4 o5 o6 o7 o8 o9 o10 g0 g1 g2 g3 g4 g5 g6 g7 g8
          refine wp_region_quiet_below (by kernel_rfl) (by kernel_rfl) ?_
          repeat (first | go_big_quiet_step (first | (go_at_call 8; exact p0 _ _)) | quiet_step (first | (go_at_call 8; exact p0 _ _)))
          refine wpQuiet_nil ?_
          intro _ hw'
          obtain ⟨⟨dq, osq⟩, hw''⟩ := hw'
          subst hw''
          have zF := hide ((ah uj).trans ((below_regrown W3 dq osq).mono (ah uj).size))
          go_wp2_with fail
          go_ret
          exact ⟨rfl, ah zF⟩
      · have h01 : (zh != 0) = true := by simp [h0]
        clear h0 hsaid
        go_upto_region 9 with fail
        have p0 : ∀ d os, Calls Tryz.prog 8 #[.agg #[.int .i64 m.id, .int .i64 m.par, .slice A''.k m.kids.length A''.ck, .int .i64 m.next, .slice A''.p m.pu.length A''.cp, .slice A''.o m.out.length A''.co, .slice A''.s m.seen.length A''.cs, .int .i64 m.old, .slice A''.r m.reqs.length A''.cr], .agg #[.int .i64 m.id, .int .i64 m.par, .slice A'.k m.kids.length A'.ck, .int .i64 m.next, .slice A'.p m.pu.length A'.cp, .slice A'.o m.out.length A'.co, .slice A'.s m.seen.length A'.cs, .int .i64 m.old, .slice A'.r m.reqs.length A'.cr]] (Sort.grow (redrawn W3 d) os) fun e w'' => e = .returned (.bool true) ∧ ∃ p : Regrown, w'' = Sort.grow (redrawn W3 p.d) p.os := fun d os => Calls.regrown_of (ah HSN A'' A' _ ((ah HN7).below (below_regrown W3 d os)) ((ah HN6).below (below_regrown W3 d os)))
        have y0 := cell_regrown c0
        have z0 := cell_regrown g0
        have y1 := cell_regrown c1
        have z1 := cell_regrown g1
        have y2 := cell_regrown c2
        have z2 := cell_regrown g2
        have y3 := cell_regrown c3
        have z3 := cell_regrown g3
        have y4 := cell_regrown c4
        have z4 := cell_regrown g4
        have y5 := cell_regrown c5
        have z5 := cell_regrown g5
        have y6 := cell_regrown c6
        have z6 := cell_regrown g6
        have y7 := cell_regrown c7
        have z7 := cell_regrown g7
        have y8 := cell_regrown c8
        have z8 := cell_regrown g8
        have u0 := cell_regrown o0
        have u4 := cell_regrown o4
        have u7 := cell_regrown o7
        clear HSN HN6 HN7 HMt HG HM5 xQ c0 c1 c2 c3 c4 c5 c6 c7 c8 o0 o1 o2 o3 o4 o5 o6 o7 o8 o9 o10 g0 g1 g2 g3 g4 g5 g6 g7 g8
        refine wp_region_quiet_below (by kernel_rfl) (by kernel_rfl) ?_
        repeat (first | go_big_quiet_step (first | (go_at_call 8; exact p0 _ _)) | quiet_step (first | (go_at_call 8; exact p0 _ _)))
        refine wpQuiet_nil ?_
        intro _ hw'
        obtain ⟨⟨dq, osq⟩, hw''⟩ := hw'
        subst hw''
        have zF := hide ((ah uj).trans ((below_regrown W3 dq osq).mono (ah uj).size))
        go_wp2_with fail
        go_ret
        exact ⟨rfl, ah zF⟩
  have k1 : (K != 1) = true := by simp [hK1]
  have k2 : (K != 2) = true := by simp [hK2]
  have k6 : (K == 6) = false := by simp [hK6]
  clear hK1 hK2 hK6 awF awM awC HSN
  go_wp2_with fail
  go_ret
  exact ⟨rfl, ah kC⟩

set_option maxRecDepth 100000 in
theorem awI (a : Option Addr) (len cap : Nat) (zs : List Int) (E : Nat → Addr) (w : World) (hz : afs .u8 w a len cap zs) (he : iw w E) :
    Calls Tryz.prog 3 #[.slice a len cap] w fun e w' => e = .returned (.bool true) ∧ Below w.heap.size w w' := by
  by_cases hl : len ≤ 1048576
  · exact awL a len cap E w (ase hz hl) he
  · have hl' : 1048576 < len := by omega
    clear hz he
    go_enter Tryz.func3, Tryz.ntmps3
    go_wp2_with (go_at_call 5; refine (auu a len cap _ hl').mono ?_; rintro e w0 ⟨rfl, rfl⟩)
    go_ret
    exact ⟨rfl, Below.refl _ _⟩
end Go.Proofs.YtfmdndhliinhpaaGreatDoor
