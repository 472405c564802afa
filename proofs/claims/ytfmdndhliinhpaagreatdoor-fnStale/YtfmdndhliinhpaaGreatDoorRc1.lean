/- Parts. -/
import Derived.Test.YtfmdndhliinhpaaGreatDoorRa36
import Derived.Test.YtfmdndhliinhpaaGreatDoorRa27
import Derived.Test.YtfmdndhliinhpaaGreatDoorRa38
import Derived.Test.YtfmdndhliinhpaaGreatDoorRa37
import Derived.Test.YtfmdndhliinhpaaGreatDoorRa39
namespace Go.Proofs.YtfmdndhliinhpaaGreatDoor
open Go.RowKit
open Mth

abbrev awO : Array Value := #[.int .i64 0, .int .i64 0, .string ⟨#[]⟩, .int .i64 0, .int .i64 0, .int .i64 0, .int .i64 0, .int .i64 0, .int .i64 0, .string ⟨#[]⟩, .int .i64 0]
theorem awN (a : Option Addr) (len cap : Nat) (w : World) (o1 o2 : Obj) (h : EP w a len) : Calls Tryz.prog 10 #[.slice a len cap] ((w.alloc o1).alloc o2) fun e w' => e = .returned (.pointer (some ⟨w.heap.size + 1 + 1, 0, none⟩)) ∧ rO w' (w.heap.size + 1 + 1) ∧ w'.heap[w.heap.size]? = some o1 ∧ w'.heap[w.heap.size + 1]? = some o2 ∧ Below w.heap.size w w' := by
  obtain ⟨e1, e2, e3⟩ := jL w o1 o2
  have hs : ((w.alloc o1).alloc o2).heap.size = w.heap.size + 1 + 1 := by simp
  generalize (w.alloc o1).alloc o2 = W at *
  have h1 := h.below e3
  refine (avu a len cap _ h1.1 h1.2).mono ?_
  rintro e w' ⟨rfl, hc, hb⟩
  have f1 := au e1 hb
  have f2 := au e2 hb
  rw [hs] at hc ⊢
  exact ⟨rfl, hc, f1, f2, e3.trans (hb.mono e3.size)⟩
theorem awG {P : Program} {ops : Array Oper} {Q : Exit → Act → World → Prop} {md : Region.Mode} {fuel : Nat} {listed : Array Bool} {a : Act} {w : World} (h : ∀ W, W = w → wpAny P md ops Q fuel listed a W) : wpAny P md ops Q fuel listed a w := h _ rfl
theorem awD {g : Nat} {w w' : World} (h : Keeps g w w') : aC [g] w w' := ⟨h.os, h.tape, h.output, h.size, fun k hk hg => h.block k hk (by simpa using hg)⟩
set_option maxRecDepth 100000 in
set_option maxHeartbeats 8000000 in
theorem awH (a : Option Addr) (len cap : Nat) (w : World) (hcode : EP w a len) : Calls Tryz.prog 6 #[.slice a len cap] w fun e w' => ∃ n A o, e = .returned (.tuple #[fU n A, jY o]) ∧ eF n 1048576 ∧ dQ w' A n ∧ o.k.size ≤ 20 ∧ o.m.k.size ≤ 20 ∧ Below w.heap.size w w' := by
  have HN := hide (awN a len cap w (.cells iV 30) (.cells awO 34) hcode)
  clear hcode
  go_enter Tryz.func6, Tryz.ntmps6
  go_wp2_with fail
  refine (ah HN).mono ?_
  rintro e w1 ⟨rfl, hc1, hr1, hq1, hb1⟩
  have HR1 := hide hr1
  have HQ1 := hide hq1
  have HB1 := hide hb1
  have aw2 := hc1.lt
  clear HN hb1 hr1 hq1
  go_wp2_with fail
  refine (asf _ _ hc1).mono ?_
  rintro e w2 ⟨n, A, rfl, hz, hat, hc2, hk2⟩
  have HAT := hide hat
  have HZ := hide hz
  have hz2 := hk2.size
  have HR2 := hide (show w2.heap[w.heap.size]? = some (.cells iV 30 (0, 0)) by rw [hk2.block _ (aA (ah HR1)) (by omega)]; exact ah HR1)
  have HQ2 := hide (show w2.heap[w.heap.size + 1]? = some (.cells awO 34 (0, 0)) by rw [hk2.block _ (aA (ah HQ1)) (by omega)]; exact ah HQ1)
  have HB2 : Hid (Below w.heap.size w w2) := (ah HB1).trans (hk2.below (by omega) (ah HB1).size)
  clear hat hz hk2 hc1 HB1 HR1 HQ1
  obtain ⟨id, par, kids, next, pu, out, seen, old, reqs⟩ := n
  obtain ⟨ak, ap, ao, as', ar, ck, cp, co, cs, cr⟩ := A
  go_upto_region 3 with fail
  refine wp_at (fun W2 hW2 => ?_)
  have hbw : Below w2.heap.size w2 W2 := by rw [hW2]; exact ay w2 _
  have hO : W2.heap[w2.heap.size]? = some (.cells #[.int .i64 id, .int .i64 par, .slice ak kids.length ck, .int .i64 next, .slice ap pu.length cp, .slice ao out.length co, .slice as' seen.length cs, .int .i64 old, .slice ar reqs.length cr] 30 (0, 0)) := by rw [hW2]; exact heap_alloc_new _ _
  have aw1 := aA hO
  have hC2 := hc2.keep_below hbw
  have HO := hide hO
  have iJ := hide hbw
  have HR3 := hide (au (ah HR2) hbw)
  have HQ3 := hide (au (ah HQ2) hbw)
  clear hW2 hbw hO HR2 HQ2 hc2
  refine wp_region_any (by kernel_rfl) ?_
  show wpAny _ _ _ _ 5 (Array.replicate 5 false) _ _
  refine Pb (fun Y hY => ?_)
  have HOY := hide (au (ah HO) hY)
  have Hu := hide (au (ah HR3) hY)
  have HQY := hide (au (ah HQ3) hY)
  have HCY := hide (hC2.keep_below hY)
  have NC := hide ((ah iJ).trans (hY.mono (ah iJ).size))
  clear hY HO HR3 HQ3 hC2 iJ
  obtain ⟨d0, d1, d2, d3, d4, d5, d6, d7, d8⟩ := nine (ah HOY)
  refine eO 1 rfl (by kernel_rfl) (by kernel_rfl) (by kernel_rfl) (fun _ _ _ _ h => h) (fun K hK => ?_)
  go_simp
  first
    | (refine hK _ ?_; clear hK K)
    | (apply Exists.intro
       refine ⟨fun _ => rfl, hK _ ?_⟩
       clear hK K)
  refine lZ 0 2 rfl rfl (by kernel_rfl) (by rfl) (by rfl) ?_ ?_
  · go_simp
    refine aF 2 rfl (by kernel_rfl) (by rfl) ?_
    go_simp
    refine (ar1 (w.heap.size + 1 + 1) _ (ah HCY)).mono ?_
    rintro e w3 ⟨⟨K, no, k, nn, ⟨mK, mF, mT, mI, mL, mk, mN⟩⟩, rfl, hks, hms, _, hk3⟩
    have HK3 := hide hk3
    have hO3 : w3.heap[w2.heap.size]? = some (.cells #[.int .i64 id, .int .i64 par, .slice ak kids.length ck, .int .i64 next, .slice ap pu.length cp, .slice ao out.length co, .slice as' seen.length cs, .int .i64 old, .slice ar reqs.length cr] 30 (0, 0)) := by rw [hk3.block _ (aA (ah HOY)) (by omega)]; exact ah HOY
    have HR4 := hide (show w3.heap[w.heap.size]? = some (.cells iV 30 (0, 0)) by rw [hk3.block _ (aA (ah Hu)) (by omega)]; exact ah Hu)
    have HQ4 := hide (show w3.heap[w.heap.size + 1]? = some (.cells awO 34 (0, 0)) by rw [hk3.block _ (aA (ah HQY)) (by omega)]; exact ah HQY)
    clear hk3 d0 d1 d2 d3 d4 d5 d6 d7 d8
    clear hO3
    obtain ⟨r0, r1, r2, r3, r4, r5, r6, r7, r8⟩ := nine (ah HR4)
    have f0 := aj (ah HR4) 0
    have f1 := aj (ah HR4) 1
    have f2 := aj (ah HR4) 2
    have f3 := aj (ah HR4) 3
    have f4 := aj (ah HR4) 4
    have f5 := aj (ah HR4) 5
    have f6 := aj (ah HR4) 6
    have f7 := aj (ah HR4) 7
    have f8 := aj (ah HR4) 8
    have hzr := aA (ah HR4)
    go_simp
    refine aF 3 rfl (by kernel_rfl) (by rfl) ?_
    go_simp
    refine awG (fun W4 P7 => ?_)
    have hR5 := BN (b0 := .int .i64 id) (b1 := .int .i64 par) (b2 := .slice ak kids.length ck) (b3 := .int .i64 next) (b4 := .slice ap pu.length cp) (b5 := .slice ao out.length co) (b6 := .slice as' seen.length cs) (b7 := .int .i64 old) (b8 := .slice ar reqs.length cr) (ah HR4)
    have hK5 := uY (w := w3) (g := w.heap.size) (b0 := .int .i64 id) (b1 := .int .i64 par) (b2 := .slice ak kids.length ck) (b3 := .int .i64 next) (b4 := .slice ap pu.length cp) (b5 := .slice ao out.length co) (b6 := .slice as' seen.length cs) (b7 := .int .i64 old) (b8 := .slice ar reqs.length cr)
    rw [← P7] at hR5 hK5
    have N8 := hide hR5
    have HK5 := hide hK5
    have HQ5 := hide (hK5.obj (ah HQ4) (by simp))
    clear P7 hR5 hK5 f0 f1 f2 f3 f4 f5 f6 f7 f8 r0 r1 r2 r3 r4 r5 r6 r7 r8 hzr
    obtain ⟨⟨v0, v1, v2, v3, v4, v5, v6, v7, v8, v9, v10⟩, u0, u1, u2, u3, u4, u5, u6, u7, u8, u9, u10⟩ := bX (ah HQ5)
    have hzq := aA (ah HQ5)
    refine aF 4 rfl (by kernel_rfl) (by rfl) ?_
    go_simp
    refine wpAny_done (by kernel_rfl) ?_
    go_simp
    go_wp2_with fail
    refine Fw (fun W' hW' => ?_)
    have hQ6 := iy (b0 := .int .i64 K) (b1 := .int .i64 no) (b2 := .string k) (b3 := .int .i64 nn) (b4 := .int .i64 mK) (b5 := .int .i64 mF) (b6 := .int .i64 mT) (b7 := .int .i64 mI) (b8 := .int .i64 mL) (b9 := .string mk) (b10 := .int .i64 mN) (ah HQ5)
    have hK6 : aC [w.heap.size + 1] W4 W' := by rw [hW']; exact aM (g := w.heap.size + 1) [.int .i64 K, .int .i64 no, .string k, .int .i64 nn, .int .i64 mK, .int .i64 mF, .int .i64 mT, .int .i64 mI, .int .i64 mL, .string mk, .int .i64 mN] W4 0
    rw [← hW'] at hQ6
    have hR6 := hK6.obj (ah N8) (by simp)
    obtain ⟨y0, y1, y2, y3, y4, y5, y6, y7, y8⟩ := nine hR6
    obtain ⟨⟨z0, z1, z2, z3, z4, z5, z6, z7, z8, z9, z10⟩, _⟩ := bX hQ6
    have hall : aC [w.heap.size, w.heap.size + 1, w.heap.size + 1 + 1] w2 W' := ((((aC.of_below (ah NC)).trans ((awD (ah HK3)).mono (by simp))).trans ((ah HK5).mono (by simp))).trans (hK6.mono (by simp)))
    have hbl : Below w.heap.size w W' := (ah HB2).trans (hall.below (fun x hx => by simp at hx; omega) (by omega))
    exact bodyPost_ret (v := .tuple #[.agg #[.int .i64 id, .int .i64 par, .slice ak kids.length ck, .int .i64 next, .slice ap pu.length cp, .slice ao out.length co, .slice as' seen.length cs, .int .i64 old, .slice ar reqs.length cr], .agg #[.int .i64 K, .int .i64 no, .string k, .int .i64 nn, .int .i64 mK, .int .i64 mF, .int .i64 mT, .int .i64 mI, .int .i64 mL, .string mk, .int .i64 mN]]) (by simp [results, Tryz.results6, go_sem, y0, y1, y2, y3, y4, y5, y6, y7, y8, z0, z1, z2, z3, z4, z5, z6, z7, z8, z9, z10]) rfl ⟨⟨id, par, kids, next, pu, out, seen, old, reqs⟩, ⟨ak, ap, ao, as', ar, ck, cp, co, cs, cr⟩, ⟨K, no, k, nn, ⟨mK, mF, mT, mI, mL, mk, mN⟩⟩, rfl, ah HZ, ah HAT W' ⟨_, hall, fun x hx => by simp at hx; omega⟩, hks, hms, hbl⟩
  · go_simp
    refine (ar1 (w.heap.size + 1 + 1) _ (ah HCY)).mono ?_
    rintro e w3 ⟨⟨K, no, k, nn, ⟨mK, mF, mT, mI, mL, mk, mN⟩⟩, rfl, hks, hms, _, hk3⟩
    have HK3 := hide hk3
    have hO3 : w3.heap[w2.heap.size]? = some (.cells #[.int .i64 id, .int .i64 par, .slice ak kids.length ck, .int .i64 next, .slice ap pu.length cp, .slice ao out.length co, .slice as' seen.length cs, .int .i64 old, .slice ar reqs.length cr] 30 (0, 0)) := by rw [hk3.block _ (aA (ah HOY)) (by omega)]; exact ah HOY
    have HR4 := hide (show w3.heap[w.heap.size]? = some (.cells iV 30 (0, 0)) by rw [hk3.block _ (aA (ah Hu)) (by omega)]; exact ah Hu)
    have HQ4 := hide (show w3.heap[w.heap.size + 1]? = some (.cells awO 34 (0, 0)) by rw [hk3.block _ (aA (ah HQY)) (by omega)]; exact ah HQY)
    clear hk3 d0 d1 d2 d3 d4 d5 d6 d7 d8
    obtain ⟨x0, x1, x2, x3, x4, x5, x6, x7, x8⟩ := nine hO3
    go_simp
    refine aF 0 rfl (by kernel_rfl) (by rfl) ?_
    go_simp
    clear hO3 x0 x1 x2 x3 x4 x5 x6 x7 x8
    obtain ⟨r0, r1, r2, r3, r4, r5, r6, r7, r8⟩ := nine (ah HR4)
    have f0 := aj (ah HR4) 0
    have f1 := aj (ah HR4) 1
    have f2 := aj (ah HR4) 2
    have f3 := aj (ah HR4) 3
    have f4 := aj (ah HR4) 4
    have f5 := aj (ah HR4) 5
    have f6 := aj (ah HR4) 6
    have f7 := aj (ah HR4) 7
    have f8 := aj (ah HR4) 8
    have hzr := aA (ah HR4)
    go_simp
    refine aF 3 rfl (by kernel_rfl) (by rfl) ?_
    go_simp
    refine awG (fun W4 P7 => ?_)
    have hR5 := BN (b0 := .int .i64 id) (b1 := .int .i64 par) (b2 := .slice ak kids.length ck) (b3 := .int .i64 next) (b4 := .slice ap pu.length cp) (b5 := .slice ao out.length co) (b6 := .slice as' seen.length cs) (b7 := .int .i64 old) (b8 := .slice ar reqs.length cr) (ah HR4)
    have hK5 := uY (w := w3) (g := w.heap.size) (b0 := .int .i64 id) (b1 := .int .i64 par) (b2 := .slice ak kids.length ck) (b3 := .int .i64 next) (b4 := .slice ap pu.length cp) (b5 := .slice ao out.length co) (b6 := .slice as' seen.length cs) (b7 := .int .i64 old) (b8 := .slice ar reqs.length cr)
    rw [← P7] at hR5 hK5
    have N8 := hide hR5
    have HK5 := hide hK5
    have HQ5 := hide (hK5.obj (ah HQ4) (by simp))
    clear P7 hR5 hK5 f0 f1 f2 f3 f4 f5 f6 f7 f8 r0 r1 r2 r3 r4 r5 r6 r7 r8 hzr
    obtain ⟨⟨v0, v1, v2, v3, v4, v5, v6, v7, v8, v9, v10⟩, u0, u1, u2, u3, u4, u5, u6, u7, u8, u9, u10⟩ := bX (ah HQ5)
    have hzq := aA (ah HQ5)
    refine aF 4 rfl (by kernel_rfl) (by rfl) ?_
    go_simp
    refine wpAny_done (by kernel_rfl) ?_
    go_simp
    go_wp2_with fail
    refine Fw (fun W' hW' => ?_)
    have hQ6 := iy (b0 := .int .i64 K) (b1 := .int .i64 no) (b2 := .string k) (b3 := .int .i64 nn) (b4 := .int .i64 mK) (b5 := .int .i64 mF) (b6 := .int .i64 mT) (b7 := .int .i64 mI) (b8 := .int .i64 mL) (b9 := .string mk) (b10 := .int .i64 mN) (ah HQ5)
    have hK6 : aC [w.heap.size + 1] W4 W' := by rw [hW']; exact aM (g := w.heap.size + 1) [.int .i64 K, .int .i64 no, .string k, .int .i64 nn, .int .i64 mK, .int .i64 mF, .int .i64 mT, .int .i64 mI, .int .i64 mL, .string mk, .int .i64 mN] W4 0
    rw [← hW'] at hQ6
    have hR6 := hK6.obj (ah N8) (by simp)
    obtain ⟨y0, y1, y2, y3, y4, y5, y6, y7, y8⟩ := nine hR6
    obtain ⟨⟨z0, z1, z2, z3, z4, z5, z6, z7, z8, z9, z10⟩, _⟩ := bX hQ6
    have hall : aC [w.heap.size, w.heap.size + 1, w.heap.size + 1 + 1] w2 W' := ((((aC.of_below (ah NC)).trans ((awD (ah HK3)).mono (by simp))).trans ((ah HK5).mono (by simp))).trans (hK6.mono (by simp)))
    have hbl : Below w.heap.size w W' := (ah HB2).trans (hall.below (fun x hx => by simp at hx; omega) (by omega))
    exact bodyPost_ret (v := .tuple #[.agg #[.int .i64 id, .int .i64 par, .slice ak kids.length ck, .int .i64 next, .slice ap pu.length cp, .slice ao out.length co, .slice as' seen.length cs, .int .i64 old, .slice ar reqs.length cr], .agg #[.int .i64 K, .int .i64 no, .string k, .int .i64 nn, .int .i64 mK, .int .i64 mF, .int .i64 mT, .int .i64 mI, .int .i64 mL, .string mk, .int .i64 mN]]) (by simp [results, Tryz.results6, go_sem, y0, y1, y2, y3, y4, y5, y6, y7, y8, z0, z1, z2, z3, z4, z5, z6, z7, z8, z9, z10]) rfl ⟨⟨id, par, kids, next, pu, out, seen, old, reqs⟩, ⟨ak, ap, ao, as', ar, ck, cp, co, cs, cr⟩, ⟨K, no, k, nn, ⟨mK, mF, mT, mI, mL, mk, mN⟩⟩, rfl, ah HZ, ah HAT W' ⟨_, hall, fun x hx => by simp at hx; omega⟩, hks, hms, hbl⟩

/-- A node that lies, and messages. -/
def awJ (w : World) (R : Nd × List Mg × Int) (e : Ending) (w' : World) : Prop := ∃ A' a' c', e = .returned (.tuple #[fU R.1 A', .slice a' R.2.1.length c', .int .i64 R.2.2]) ∧ dQ w' A' R.1 ∧ Sy w' a' R.2.1 ∧ Below w.heap.size w w'
theorem awE (n : Nd) (A : bQ) (o : iK) (E : Nat → Addr) (w : World) (hz : eF n 1048576) (hk : o.k.size ≤ 20) (hmk : o.m.k.size ≤ 20) (ha : dQ w A n) (he : iw w E) :
    Calls Tryz.prog 7 #[fU n A, jY o] w (awJ w (lK n o)) := by
  refine (aea n A o E w hz (by omega) (by omega) ha he).mono ?_
  rintro e w' ⟨A', G', c', v', rfl, hN, hM, _, hb⟩
  obtain ⟨a', cp', hv, _⟩ := GR.own_at (enc := je) (sz := 7) (l := (lK n o).2.1) mG hM
  subst hv
  exact ⟨A', a', cp', rfl, hN.at, GR.own_ati mG hM, hb⟩
/-- As above; the node lies also where what is older was written. -/
def awK (w : World) (R : Nd × List Mg × Int) (e : Ending) (w' : World) : Prop := ∃ A' a' c', e = .returned (.tuple #[fU R.1 A', .slice a' R.2.1.length c', .int .i64 R.2.2]) ∧ (∀ W'', zD w w' W'' → dQ W'' A' R.1) ∧ Below w.heap.size w w'
theorem awM (n : Nd) (A : bQ) (o : iK) (E : Nat → Addr) (w : World) (hz : eF n 1048576) (hk : o.k.size ≤ 20) (hmk : o.m.k.size ≤ 20) (ha : dQ w A n) (he : iw w E) :
    Calls Tryz.prog 7 #[fU n A, jY o] w (awK w (lK n o)) := by
  refine (aea n A o E w hz (by omega) (by omega) ha he).mono ?_
  rintro e w' ⟨A', G', c', v', rfl, hN, hM, _, hb⟩
  obtain ⟨a', cp', hv, _⟩ := GR.own_at (enc := je) (sz := 7) (l := (lK n o).2.1) mG hM
  subst hv
  exact ⟨A', a', cp', rfl, fun W'' h => (hN.kc0 (h.kc hN.lo)).at, hb⟩
/-- What a law has in its hands: blocks that hold something, and all older memory as it was. -/
structure LSt (w : World) (bs : List (Nat × Obj)) (W : World) : Prop where
  bel : Below w.heap.size w W
  own : ∀ x ∈ bs, W.heap[x.1]? = some x.2
theorem LSt.step {w W W' : World} {bs : List (Nat × Obj)} (h : LSt w bs W) (hb : Below W.heap.size W W') : LSt w bs W' := ⟨h.bel.trans (hb.mono h.bel.size), fun x hx => au (h.own x hx) hb⟩
theorem LSt.add {w W : World} {bs : List (Nat × Obj)} (h : LSt w bs W) {g : Nat} {o : Obj} (hg : W.heap[g]? = some o) : LSt w ((g, o) :: bs) W := ⟨h.bel, fun x hx => by
  rcases List.mem_cons.1 hx with rfl | hx
  · exact hg
  · exact h.own x hx⟩
/-- What FnOnce asks. -/
theorem awW {n : Nd} {o : iK} (h : (lK n o).2.2 ≠ 3) : ((o.K = 1 ∨ o.K = 2) → (lK (lK n o).1 o).1 = (lK n o).1 ∧ ((lK (lK n o).1 o).2.2 = (lK n o).2.2 ∨ (o.no ≤ (lK n o).1.old ∧ (lK (lK n o).1 o).2.2 = 2))) ∧ (o.K = 6 → o.m.K ≠ 0 → (lK (lK n o).1 o).1 = (lK n o).1 ∧ (lK (lK n o).1 o).2.2 = (lK n o).2.2 ∧ ((lK n o).2.2 = 0 → o.m.K = 1 → ∃ x, (lK (lK n o).1 o).2.1 = [x] ∧ x.K = 2 ∧ x.I = o.m.I)) := by
  refine ⟨fun hK => ?_, fun hK hM => aeL h hK hM⟩
  rcases hK with hK | hK
  · exact aen h hK
  · exact ⟨(YF h hK).1, .inl (YF h hK).2⟩

theorem awU : keyOk (⟨#[97]⟩ : ByteArray).data.toList = true := by decide
/-- The law's node between two requests. -/
structure Stl (w : World) (g i : Nat) (n : Nd) (A : bQ) (W : World) : Prop where
  asked : rQ i n
  sz : eF n 1048576
  at_ : dQ W A n
  own : W.heap[g]? = some (.cells (fO n A) 30 (0, 0))
  bel : Below w.heap.size w W
  far : w.heap.size ≤ g
theorem Stl.below {w W W' : World} {g i : Nat} {n : Nd} {A : bQ} (h : Stl w g i n A W) (hb : Below W.heap.size W W') : Stl w g i n A W' := ⟨h.asked, h.sz, h.at_.below hb, au h.own hb, h.bel.trans (hb.mono h.bel.size), h.far⟩
set_option maxRecDepth 100000 in
set_option maxHeartbeats 16000000 in
theorem awI (a : Option Addr) (len cap : Nat) (E : Nat → Addr) (w : World) (hcode : EP w a len) (he : iw w E) : Calls Tryz.prog 4 #[.slice a len cap] w fun e w' => e = .returned (.bool true) ∧ Below w.heap.size w w' := by
  have hl := hcode.1
  have HC := hide hcode
  have HE := hide he
  clear hcode he
  go_enter Tryz.func4, Tryz.ntmps4
  go_wp2_with fail
  refine (avD a len cap _ hl).mono ?_
  rintro e w0 ⟨rfl, rfl⟩
  go_wp2_with fail
  refine (awH a len cap _ (ah HC)).mono ?_
  rintro e w1 ⟨n, A, o, rfl, hz, hat, hk, hmk, hb1⟩
  clear HC hk hmk
  have l7 := hide (fun W (ha : dQ W A n) => vH n A W (hz.mono (by omega)) ha)
  have HZ := hide hz
  have hzr := hz.r
  have HAT := hide hat
  have HB1 := hide hb1
  have hw1 := hb1.size
  clear hz hat hb1
  obtain ⟨K, no, k, nn, ⟨mK, mF, mT, mI, mL, mk, mN⟩⟩ := o
  go_upto_region 4 with fail
  refine wp_at (fun W1 hW1 => ?_)
  have HP := hide (show W1.heap[w1.heap.size]? = some (.cells #[.int .i64 n.id, .int .i64 n.par, .slice A.k n.kids.length A.ck, .int .i64 n.next, .slice A.p n.pu.length A.cp, .slice A.o n.out.length A.co, .slice A.s n.seen.length A.cs, .int .i64 n.old, .slice A.r n.reqs.length A.cr] 30 (0, 0)) by rw [hW1]; exact (jL w1 _ _).1)
  have hbw : Below w1.heap.size w1 W1 := by rw [hW1]; exact (jL w1 _ _).2.2
  have HB2 := hide ((ah HB1).trans (hbw.mono (ah HB1).size))
  have HA2 := hide ((ah HAT).below hbw)
  have awC := hide (ah l7 W1 (ah HA2))
  clear hW1 hbw HAT HB1 l7
  obtain ⟨c0, c1, c2, c3, c4, c5, c6, c7, c8⟩ := nine (ah HP)
  go_cut [50] (fun b wx => (b = .bool true ∧ Below w.heap.size w wx) ∨ (b = .bool false ∧ Stl w w1.heap.size 0 n A wx))
  case first =>
    go_wp2_with fail
    refine (ah awC).mono ?_
    rintro e w2 ⟨rfl, hb2⟩
    have HB3 := hide ((ah HB2).trans (hb2.mono (ah HB2).size))
    have Q8 := hide (au (ah HP) hb2)
    have HA3 := hide ((ah HA2).below hb2)
    clear hb2 HB2 HP HA2 awC c0 c1 c2 c3 c4 c5 c6 c7 c8
    obtain ⟨c0, c1, c2, c3, c4, c5, c6, c7, c8⟩ := nine (ah Q8)
    cases hok : dJ n
    case' false =>
      go_wp2_with fail
      go_meet
      case rel => exact .inl ⟨rfl, ah HB3⟩
    by_cases hold : n.old ≤ 1000
    case neg =>
      have hg : decide (n.old > 1000) = true := decide_eq_true (by omega)
      have hg2 : decide (1000 < n.old) = true := decide_eq_true (by omega)
      clear hold
      go_wp2_with fail
      go_meet
      case rel => exact .inl ⟨rfl, ah HB3⟩
    have hg : decide (n.old > 1000) = false := decide_eq_false (by omega)
    have hg2 : decide (1000 < n.old) = false := decide_eq_false (by omega)
    by_cases hr : 0 < n.reqs.length
    · obtain ⟨g1, f1, e1, hg1, q0, q1, q2, q3⟩ := iD.four (ah HA3).r (n.reqs.length - 1) (by omega)
      have hrp : decide ((n.reqs.length : Int) > 0) = true := decide_eq_true (by omega)
      have awZ : decide (0 < (n.reqs.length : Int)) = true := decide_eq_true (by omega)
      have hST := hide (fun (h5 : (n.reqs[n.reqs.length - 1]).no < 5000) => (⟨rQ.start hok hold (fun _ => h5), ah HZ, ah HA3, ah Q8, ah HB3, hw1⟩ : Stl w w1.heap.size 0 n A w2))
      clear q1 q2 q3
      generalize (n.reqs[n.reqs.length - 1]).no = lno at *
      have hsub : IntKind.i64.wrap ((n.reqs.length : Int) - 1) = ((n.reqs.length - 1 : Nat) : Int) := by rw [IntWalk.i64_in _ ⟨by omega, by omega⟩]; omega
      have hlt1 : n.reqs.length - 1 < n.reqs.length := by omega
      by_cases h5 : 5000 ≤ lno
      · have h51 : decide (lno ≥ 5000) = true := decide_eq_true h5
        go_wp2_with fail
        go_meet
        case rel => exact .inl ⟨rfl, ah HB3⟩
      · have h51 : decide (lno ≥ 5000) = false := decide_eq_false h5
        go_wp2_with fail
        go_meet
        case rel => exact .inr ⟨rfl, ah hST (by omega)⟩
    · have hST := hide ((⟨rQ.start hok hold (fun h => absurd h hr), ah HZ, ah HA3, ah Q8, ah HB3, hw1⟩ : Stl w w1.heap.size 0 n A w2))
      have hrp : decide ((n.reqs.length : Int) > 0) = false := decide_eq_false (by omega)
      have awZ : decide (0 < (n.reqs.length : Int)) = false := decide_eq_false (by omega)
      go_wp2_with fail
      go_meet
      case rel => exact .inr ⟨rfl, ah hST⟩
  case rest =>
  rcases hcut with ⟨rfl, hbb⟩ | ⟨rfl, hs0⟩
  · have eP := hide hbb
    clear hbb HP HB2 HA2 awC c0 c1 c2 c3 c4 c5 c6 c7 c8
    go_wp2_with fail
    go_ret
    exact ⟨rfl, ah eP⟩
  have HS0 := hide hs0
  clear hs0 HP HB2 HA2 awC c0 c1 c2 c3 c4 c5 c6 c7 c8 hzr HZ
  go_wp2_with fail
  go_loopw [5] (fun iv wr => ∃ (i : Nat) (n : Nd) (A : bQ), i ≤ 31 ∧ iv = .int .i64 i ∧ Stl w w1.heap.size i n A wr) (fun iv _ => 31 - (intOf iv).toNat)
  case atStart => exact ⟨0, n, A, by omega, rfl, ah HS0⟩
  case round =>
    clear HS0
    obtain ⟨i, n, A, hi, rfl, hs⟩ := hrel
    have HS := hide hs
    have HP : Hid (wr.heap[w1.heap.size]? = some (.cells #[.int .i64 n.id, .int .i64 n.par, .slice A.k n.kids.length A.ck, .int .i64 n.next, .slice A.p n.pu.length A.cp, .slice A.o n.out.length A.co, .slice A.s n.seen.length A.cs, .int .i64 n.old, .slice A.r n.reqs.length A.cr] 30 (0, 0))) := hs.own
    have hgl := aA hs.own
    clear hs
    obtain ⟨c0, c1, c2, c3, c4, c5, c6, c7, c8⟩ := nine (ah HP)
    by_cases OJ : i ≤ 30
    · have hstep := rQ.step awU (ah HS).asked OJ
      have hnz := aru (o := CQ ⟨#[97]⟩ (5000 + (i : Int))) (ah HS).sz
      have awC := hide (awM n A (CQ ⟨#[97]⟩ (5000 + (i : Int))) E wr (ah HS).sz (show (⟨#[97]⟩ : ByteArray).size ≤ 20 by decide) (show ByteArray.empty.size ≤ 20 by decide) (ah HS).at_ ((ah HE).below (ah HS).bel))
      unfold awK at awC
      generalize lK n (CQ ⟨#[97]⟩ (5000 + (i : Int))) = R at *
      obtain ⟨m, L, code⟩ := R
      dsimp only at hstep hnz awC
      have HAK := hide hstep.1
      have hcd := hstep.2
      have Cz := hide hnz
      clear hstep hnz
      go_wp2_with fail
      refine (ah awC).mono ?_
      rintro e w3 ⟨A3, a3, awX, rfl, hN, hb3⟩
      have Q8 := hide (au (ah HP) hb3)
      have HN3 := hide hN
      have HB3 := hide hb3
      clear hN hb3 awC c0 c1 c2 c3 c4 c5 c6 c7 c8
      go_upto_region 10 with fail
      refine wp_at (fun W3 hW3 => ?_)
      have hbw : Below w3.heap.size w3 W3 := by rw [hW3]; exact ay w3 _
      have HM := hide (show W3.heap[w3.heap.size]? = some (.cells #[.int .i64 m.id, .int .i64 m.par, .slice A3.k m.kids.length A3.ck, .int .i64 m.next, .slice A3.p m.pu.length A3.cp, .slice A3.o m.out.length A3.co, .slice A3.s m.seen.length A3.cs, .int .i64 m.old, .slice A3.r m.reqs.length A3.cr] 30 (0, 0)) by rw [hW3]; exact heap_alloc_new _ _)
      have Pp := hide (au (ah Q8) hbw)
      have iJ := hide hbw
      have hz3 := (ah HB3).size
      clear hW3 hbw Q8 HP
      obtain ⟨c0, c1, c2, c3, c4, c5, c6, c7, c8⟩ := nine (ah HM)
      obtain ⟨r0, r1, r2, r3, r4, r5, r6, r7, r8⟩ := nine (ah Pp)
      have f0 := aj (ah Pp) 0
      have f1 := aj (ah Pp) 1
      have f2 := aj (ah Pp) 2
      have f3 := aj (ah Pp) 3
      have f4 := aj (ah Pp) 4
      have f5 := aj (ah Pp) 5
      have f6 := aj (ah Pp) 6
      have f7 := aj (ah Pp) 7
      have f8 := aj (ah Pp) 8
      have hzr := aA (ah Pp)
      rcases hcd with rfl | rfl
      all_goals
        go_upto_region 8 with fail
        refine wp_at (fun W4 P7 => ?_)
        have hST : Stl w w1.heap.size (i + 1) m A3 W4 := by
          have hR := BN (b0 := .int .i64 m.id) (b1 := .int .i64 m.par) (b2 := .slice A3.k m.kids.length A3.ck) (b3 := .int .i64 m.next) (b4 := .slice A3.p m.pu.length A3.cp) (b5 := .slice A3.o m.out.length A3.co) (b6 := .slice A3.s m.seen.length A3.cs) (b7 := .int .i64 m.old) (b8 := .slice A3.r m.reqs.length A3.cr) (ah Pp)
          have hK := uY (w := W3) (g := w1.heap.size) (b0 := .int .i64 m.id) (b1 := .int .i64 m.par) (b2 := .slice A3.k m.kids.length A3.ck) (b3 := .int .i64 m.next) (b4 := .slice A3.p m.pu.length A3.cp) (b5 := .slice A3.o m.out.length A3.co) (b6 := .slice A3.s m.seen.length A3.cs) (b7 := .int .i64 m.old) (b8 := .slice A3.r m.reqs.length A3.cr)
          rw [← P7] at hR hK
          have hK2 : aC [w1.heap.size] w3 W4 := (aC.of_below (ah iJ)).trans hK
          refine ⟨ah HAK, ah Cz, ah HN3 W4 ⟨_, hK2, fun x hx => ?_⟩, hR, ?_, (ah HS).far⟩
          · have hx' : x = w1.heap.size := by simpa using hx
            omega
          · have hb := (ah HS).bel.trans ((ah HB3).mono (ah HS).bel.size)
            exact hb.trans (hK2.below (fun x hx => by have hx' : x = w1.heap.size := (by simpa using hx); have := (ah HS).far; omega) hb.size)
        have HST := hide hST
        clear hST P7 f0 f1 f2 f3 f4 f5 f6 f7 f8 r0 r1 r2 r3 r4 r5 r6 r7 r8 c0 c1 c2 c3 c4 c5 c6 c7 c8
        go_wp2_with fail
        go_roundw
        case rel => exact ⟨i + 1, m, A3, by omega, by go_num, ah HST⟩
        case measure => simp [intOf]; omega
    · have awY : i = 31 := by omega
      subst awY
      obtain ⟨h1, h2, h3, h4, h5⟩ := aeO awU (ah HS).asked
      have za := hide (awE n A (CQ ⟨#[97]⟩ 5000) E wr (ah HS).sz (show (⟨#[97]⟩ : ByteArray).size ≤ 20 by decide) (show ByteArray.empty.size ≤ 20 by decide) (ah HS).at_ ((ah HE).below (ah HS).bel))
      have oH := hide (fun W (hb : Below wr.heap.size wr W) => awE n A (VR 5000) E W (ah HS).sz (show ByteArray.empty.size ≤ 20 by decide) (show ByteArray.empty.size ≤ 20 by decide) ((ah HS).at_.below hb) ((ah HE).below ((ah HS).bel.trans (hb.mono (ah HS).bel.size))))
      have K8 := hide (fun W (hb : Below wr.heap.size wr W) => awE n A (VR 5030) E W (ah HS).sz (show ByteArray.empty.size ≤ 20 by decide) (show ByteArray.empty.size ≤ 20 by decide) ((ah HS).at_.below hb) ((ah HE).below ((ah HS).bel.trans (hb.mono (ah HS).bel.size))))
      have HSN := hide (fun A' W (ha : dQ W A' n) (hb : dQ W A n) => aeN n A' A W (ah HS).sz ha hb)
      rw [h1] at za
      rw [h2] at oH
      have hold : (n.old == 5000) = true := by simp [h4]
      have hlen : ((n.reqs.length : Int) == 30) = true := by simp [h5]
      generalize lK n (VR 5030) = R at *
      obtain ⟨m3, L3, Uo⟩ := R
      dsimp only at h3
      have hc3 : (Uo != 2) = true := by simp [h3]
      unfold awJ at za oH K8
      dsimp only at za oH K8
      clear h1 h2 h3 h4 h5 OJ hi
      go_wp2_with fail
      refine (ah za).mono ?_
      rintro e w3 ⟨A3, a3, awX, rfl, hN3, _, hb3⟩
      have Q8 := hide (au (ah HP) hb3)
      have HN3 := hide hN3
      have HB3 := hide hb3
      clear hN3 hb3 za c0 c1 c2 c3 c4 c5 c6 c7 c8
      go_upto_region 14 with fail
      refine wp_at (fun W3 hW3 => ?_)
      have hbw : Below w3.heap.size w3 W3 := by rw [hW3]; exact ay w3 _
      have HM3 := hide (show W3.heap[w3.heap.size]? = some (.cells #[.int .i64 n.id, .int .i64 n.par, .slice A3.k n.kids.length A3.ck, .int .i64 n.next, .slice A3.p n.pu.length A3.cp, .slice A3.o n.out.length A3.co, .slice A3.s n.seen.length A3.cs, .int .i64 n.old, .slice A3.r n.reqs.length A3.cr] 30 (0, 0)) by rw [hW3]; exact heap_alloc_new _ _)
      have Pp := hide (au (ah Q8) hbw)
      have Pk := hide ((ah HN3).below hbw)
      have kC := hide ((ah HB3).trans (hbw.mono (ah HB3).size))
      clear hW3 hbw Q8 HN3 HB3 HP
      obtain ⟨c0, c1, c2, c3, c4, c5, c6, c7, c8⟩ := nine (ah Pp)
      go_wp2_with fail
      refine (ah oH W3 (ah kC)).mono ?_
      rintro e w5 ⟨A5, a5, cap5, rfl, hN5, _, hb5⟩
      have Ht := hide (au (ah Pp) hb5)
      have HM5 := hide (au (ah HM3) hb5)
      have HN5 := hide hN5
      have HN6 := hide ((ah Pk).below hb5)
      have jd := hide ((ah kC).trans (hb5.mono (ah kC).size))
      clear hN5 hb5 oH Pp HM3 Pk kC c0 c1 c2 c3 c4 c5 c6 c7 c8
      go_upto_region 15 with fail
      refine wp_at (fun W5 hW5 => ?_)
      have hbw : Below w5.heap.size w5 W5 := by rw [hW5]; exact ay w5 _
      have HQ5 := hide (show W5.heap[w5.heap.size]? = some (.cells #[.int .i64 n.id, .int .i64 n.par, .slice A5.k n.kids.length A5.ck, .int .i64 n.next, .slice A5.p n.pu.length A5.cp, .slice A5.o n.out.length A5.co, .slice A5.s n.seen.length A5.cs, .int .i64 n.old, .slice A5.r n.reqs.length A5.cr] 30 (0, 0)) by rw [hW5]; exact heap_alloc_new _ _)
      have R5 := hide (au (ah Ht) hbw)
      have HM6 := hide (au (ah HM5) hbw)
      have HN7 := hide ((ah HN5).below hbw)
      have HN8 := hide ((ah HN6).below hbw)
      have uj := hide ((ah jd).trans (hbw.mono (ah jd).size))
      clear hW5 hbw Ht HM5 HN5 HN6 jd
      obtain ⟨c0, c1, c2, c3, c4, c5, c6, c7, c8⟩ := nine (ah R5)
      go_wp2_with fail
      refine (ah K8 W5 (ah uj)).mono ?_
      rintro e w7 ⟨A7, a7, aw0, rfl, _, _, qx⟩
      have Zt := hide (au (ah R5) qx)
      have HM7 := hide (au (ah HM6) qx)
      have HQ7 := hide (au (ah HQ5) qx)
      have HN9 := hide ((ah HN7).below qx)
      have awR := hide ((ah HN8).below qx)
      have zF := hide ((ah uj).trans (qx.mono (ah uj).size))
      clear qx K8 R5 HM6 HQ5 HN7 HN8 uj c0 c1 c2 c3 c4 c5 c6 c7 c8
      go_upto_region 16 with fail
      refine wp_at (fun W7 Hy => ?_)
      have hbw : Below w7.heap.size w7 W7 := by rw [Hy]; exact ay w7 _
      have Q9 := hide (au (ah Zt) hbw)
      have HM8 := hide (au (ah HM7) hbw)
      have HQ8 := hide (au (ah HQ7) hbw)
      have awS := hide ((ah HN9).below hbw)
      have awT := hide ((ah awR).below hbw)
      have Cw := hide ((ah zF).trans (hbw.mono (ah zF).size))
      have HA8 := hide ((ah HS).at_.below (ah Cw))
      clear Hy hbw Zt HM7 HQ7 HN9 awR zF
      obtain ⟨c0, c1, c2, c3, c4, c5, c6, c7, c8⟩ := nine (ah Q9)
      obtain ⟨x0, x1, x2, x3, x4, x5, x6, x7, x8⟩ := nine (ah HM8)
      go_wp2_with fail
      refine (ah HSN A3 W7 (ah awT) (ah HA8)).mono ?_
      rintro e w9 ⟨rfl, hb9⟩
      have HP9 := hide (au (ah Q9) hb9)
      have HQ9 := hide (au (ah HQ8) hb9)
      have Pe := hide (ah HSN A5 w9 ((ah awS).below hb9) ((ah HA8).below hb9))
      have Xb := hide ((ah Cw).trans (hb9.mono (ah Cw).size))
      clear hb9 HSN Q9 HM8 HQ8 awS awT HA8 Cw c0 c1 c2 c3 c4 c5 c6 c7 c8 x0 x1 x2 x3 x4 x5 x6 x7 x8
      obtain ⟨c0, c1, c2, c3, c4, c5, c6, c7, c8⟩ := nine (ah HP9)
      obtain ⟨x0, x1, x2, x3, x4, x5, x6, x7, x8⟩ := nine (ah HQ9)
      go_wp2_with fail
      refine (ah Pe).mono ?_
      rintro e w10 ⟨rfl, awP⟩
      have Xv := hide (au (ah HP9) awP)
      have awQ := hide ((ah Xb).trans (awP.mono (ah Xb).size))
      have ae2 := hide ((ah HS).bel.trans ((ah awQ).mono (ah HS).bel.size))
      clear awP HP9 HQ9 Pe Xb awQ c0 c1 c2 c3 c4 c5 c6 c7 c8 x0 x1 x2 x3 x4 x5 x6 x7 x8
      obtain ⟨c0, c1, c2, c3, c4, c5, c6, c7, c8⟩ := nine (ah Xv)
      go_wp2_with fail
      go_ret
      exact ⟨rfl, ah ae2⟩

set_option maxRecDepth 100000 in
theorem awF (a : Option Addr) (len cap : Nat) (zs : List Int) (E : Nat → Addr) (w : World) (hz : afs .u8 w a len cap zs) (he : iw w E) :
    Calls Tryz.prog 4 #[.slice a len cap] w fun e w' => e = .returned (.bool true) ∧ Below w.heap.size w w' := by
  by_cases hl : len ≤ 1048576
  · exact awI a len cap E w (ase hz hl) he
  · have hl' : 1048576 < len := by omega
    clear hz he
    go_enter Tryz.func4, Tryz.ntmps4
    go_wp2_with (go_at_call 5; refine (auu a len cap _ hl').mono ?_; rintro e w0 ⟨rfl, rfl⟩)
    go_ret
    exact ⟨rfl, Below.refl _ _⟩
end Go.Proofs.YtfmdndhliinhpaaGreatDoor
