/- Parts. -/
import Derived.Test.YtdlokncalhopoaaGreatPy47
import Derived.Test.YtdlokncalhopoaaGreatPy35
import Derived.Test.YtdlokncalhopoaaGreatPy12
import Derived.Test.YtdlokncalhopoaaGreatPy14
import Derived.OpenShut
namespace Go.Proofs.YtdlokncalhopoaaGreat
open Go.RowKit
open Mth

theorem alloc_sizeN (w : World) (o : Obj) : (w.alloc o).heap.size = w.heap.size + 1 := by simp
theorem l01NewN (a : Option Addr) (len cap : Nat) (w : World) (o : Obj) (h : CodeOk w a len) : Calls Tryz.prog 12 #[.slice a len cap] (w.alloc o) fun e w' => e = .returned (.pointer (some ⟨w.heap.size + 1, 0, none⟩)) ∧ Cur w' (w.heap.size + 1) ∧ w'.heap[w.heap.size]? = some o ∧ Below w.heap.size w w' := by
  have h1 := h.below (below_one w o)
  refine (l01New a len cap _ h1.1 h1.2).mono ?_
  rintro e w' ⟨rfl, hc, hb⟩
  rw [alloc_sizeN] at hc hb ⊢
  have hb' : Below (w.alloc o).heap.size (w.alloc o) w' := by rw [alloc_sizeN]; exact hb
  exact ⟨rfl, hc, obj_step (heap_alloc_new w o) hb', (below_one w o).trans (hb.mono (by omega))⟩
set_option maxRecDepth 100000 in
set_option maxHeartbeats 8000000 in
theorem drawPays (a : Option Addr) (len cap : Nat) (w : World) (hcode : CodeOk w a len) : Calls Tryz.prog 5 #[.slice a len cap] w fun e w' => ∃ n A, e = .returned (ndv n A) ∧ NdSz n 1048576 ∧ NodeAt w' A n ∧ Below w.heap.size w w' := by
  have HN := hide (l01NewN a len cap w (.cells zc9 30) hcode)
  clear hcode
  go_enter Tryz.func5, Tryz.ntmps5
  go_wp2_with fail
  refine (unhide HN).mono ?_
  rintro e w1 ⟨rfl, hc1, hr1', hb1⟩
  have HR1 := hide hr1'
  have HB1 := hide hb1
  have hc1l := hc1.lt
  clear HN hb1 hr1'
  go_wp2_with fail
  refine (l05Node _ _ hc1).mono ?_
  rintro e w2 ⟨n, A, rfl, hz, hat, hc2, hk2⟩
  have HAT := hide hat
  have HZ := hide hz
  have HK2 := hide hk2
  have hr1 := obj_lt (unhide HR1)
  have HR2 := hide (show w2.heap[w.heap.size]? = some (.cells zc9 30 (0, 0)) by rw [hk2.block _ hr1 (by omega)]; exact unhide HR1)
  have hz2 := hk2.size
  clear hat hz hk2 hc1 hc2
  obtain ⟨d0, d1, d2, d3, d4, d5, d6, d7, d8⟩ := nine (unhide HR2)
  have f0 := obj_free (unhide HR2) 0
  have f1 := obj_free (unhide HR2) 1
  have f2 := obj_free (unhide HR2) 2
  have f3 := obj_free (unhide HR2) 3
  have f4 := obj_free (unhide HR2) 4
  have f5 := obj_free (unhide HR2) 5
  have f6 := obj_free (unhide HR2) 6
  have f7 := obj_free (unhide HR2) 7
  have f8 := obj_free (unhide HR2) 8
  have hzr := obj_lt (unhide HR2)
  go_wp2_with fail
  refine bodyPost_atN (fun W' hW' => ?_)
  have hR := nine_set (b0 := .int .i64 n.id) (b1 := .int .i64 n.par) (b2 := .slice A.k n.kids.length A.ck) (b3 := .int .i64 n.next) (b4 := .slice A.p n.pu.length A.cp) (b5 := .slice A.o n.out.length A.co) (b6 := .slice A.s n.seen.length A.cs) (b7 := .int .i64 n.old) (b8 := .slice A.r n.reqs.length A.cr) (unhide HR2)
  have hK := nine_keeps (w := w2) (g := w.heap.size) (b0 := .int .i64 n.id) (b1 := .int .i64 n.par) (b2 := .slice A.k n.kids.length A.ck) (b3 := .int .i64 n.next) (b4 := .slice A.p n.pu.length A.cp) (b5 := .slice A.o n.out.length A.co) (b6 := .slice A.s n.seen.length A.cs) (b7 := .int .i64 n.old) (b8 := .slice A.r n.reqs.length A.cr)
  rw [← hW'] at hR hK
  obtain ⟨x0, x1, x2, x3, x4, x5, x6, x7, x8⟩ := nine hR
  have hb2 : Below w.heap.size w1 w2 := (unhide HK2).below (by omega) (by omega)
  have hbl : Below w.heap.size w2 W' := hK.below (fun x hx => by have : x = w.heap.size := (by simpa using hx); omega) (by omega)
  exact bodyPost_ret (v := ndv n A) (by simp [results, Tryz.results5, go_sem, x0, x1, x2, x3, x4, x5, x6, x7, x8]) rfl ⟨n, A, rfl, unhide HZ, unhide HAT W' ⟨[w.heap.size], hK, fun x hx => by have : x = w.heap.size := (by simpa using hx); omega⟩, ((unhide HB1).trans hb2).trans hbl⟩

theorem bigNo (a : Option Addr) (len cap : Nat) (w : World) (h : len ≤ 1048576) : Calls Tryz.prog 4 #[.slice a len cap] w fun e w' => e = .returned (.bool false) ∧ w = w' := by
  go_enter Tryz.func4, Tryz.ntmps4
  go_wp2
  go_ret
  exact ⟨by simp; omega, rfl⟩
theorem bigYes (a : Option Addr) (len cap : Nat) (w : World) (h : 1048576 < len) : Calls Tryz.prog 4 #[.slice a len cap] w fun e w' => e = .returned (.bool true) ∧ w = w' := by
  go_enter Tryz.func4, Tryz.ntmps4
  go_wp2
  go_ret
  exact ⟨by simp; omega, rfl⟩

/-- A slice of integers that came in: it is nil; or it leads to a row of 'cap' cells, the numbers 'zs', each fitting its kind. -/
def IsRow (k : IntKind) (w : World) (a : Option Addr) (len cap : Nat) (zs : List Int) : Prop :=
  (a = none ∧ len = 0 ∧ cap = 0 ∧ zs = []) ∨
  ∃ x, a = some x ∧ len ≤ cap ∧ cap ≤ maxLen ∧ zs.length = cap ∧ (∀ i, i < zs.length → w.cell? (x.add i) = some (.int k (zs.getD i 0))) ∧ ∀ n ∈ zs, (Lit.int k n).wf = true

theorem code_ok {w : World} {a : Option Addr} {len cap : Nat} {zs : List Int} (h : IsRow .u8 w a len cap zs) (hl : len ≤ 1048576) : CodeOk w a len := by
  rcases h with ⟨_, rfl, _⟩ | ⟨x, rfl, h1, _, h3, hc, hw⟩
  · exact ⟨by omega, fun j hj => by omega⟩
  · refine ⟨hl, fun j hj => ?_⟩
    have hj' : j < zs.length := by omega
    obtain ⟨b, off, spot⟩ := x
    have hc0 := hc 0 (by omega)
    have hspot : spot = none := by simpa [Addr.add] using World.cell?_spot hc0
    subst hspot
    have hcj := hc j hj'
    have hcj' : w.cell? ⟨b, off + j, none⟩ = some (.int .u8 (zs.getD j 0)) := by
      by_cases h0 : j = 0
      · subst h0; simpa [Addr.add] using hcj
      · simpa [Addr.add, h0] using hcj
    have hbl : b < w.heap.size := by
      rcases Nat.lt_or_ge b w.heap.size with h' | h'
      · exact h'
      · simp [World.cell?, Array.getElem?_eq_none h'] at hcj'
    have hz := bounds_u8 (hw (zs.getD j 0) (by simp [List.getD, hj']))
    exact ⟨b, off, zs.getD j 0, rfl, hbl, hz.1, hz.2, hcj'⟩

set_option maxRecDepth 100000 in
set_option maxHeartbeats 8000000 in
theorem fnPays_go (a : Option Addr) (len cap : Nat) (w : World) (hcode : CodeOk w a len) : Calls Tryz.prog 3 #[.slice a len cap] w fun e w' => e = .returned (.bool true) ∧ Below w.heap.size w w' := by
  have hl := hcode.1
  have HC := hide hcode
  clear hcode
  go_enter Tryz.func3, Tryz.ntmps3
  go_wp2_with fail
  refine (bigNo a len cap _ hl).mono ?_
  rintro e w0 ⟨rfl, rfl⟩
  go_wp2_with fail
  refine (drawPays a len cap _ (unhide HC)).mono ?_
  rintro e w1 ⟨n, A, rfl, hz, hat, hb1⟩
  clear HC
  obtain ⟨m, L, hL, hm, hmz, hml⟩ : ∃ m L, paysL n = L ∧ L.length = m ∧ m ≤ 1048600 ∧ ((ndOk n = false ∧ m = 0) ∨ (ndOk n = true ∧ m = n.out.length ∧ L = n.out.map (payM n))) := by
    have ho := hz.o
    cases h : ndOk n with
    | false => exact ⟨0, [], by unfold paysL; rw [h]; rfl, rfl, by omega, .inl ⟨rfl, rfl⟩⟩
    | true => exact ⟨n.out.length, n.out.map (payM n), by unfold paysL; rw [h]; rfl, by simp, by omega, .inr ⟨rfl, rfl, rfl⟩⟩
  have HIM := hide (fun W (ha : NodeAt W A n) => implPaysL n A W L m hL hm hz ha)
  have HSP := hide (fun W (ha : NodeAt W A n) => specPaysL n A W L m hL hm hz ha)
  have HNO := hide (fun W (ha : NodeAt W A n) => specNodeOk n A W (hz.mono (by omega)) ha)
  have HSM := hide (fun a b ca cb W ha hb => sameMsgsY a b ca cb m L W hm hmz ha hb)
  have HPR := hide (@pays_right n)
  have HAT := hide hat
  have HB1 := hide hb1
  have HML := hide hml
  have hzo := hz.o
  clear hL hm hz hat hb1 hml
  go_upto_region 4 with fail
  refine wp_at (fun W1 hW1 => ?_)
  have hbw : Below w1.heap.size w1 W1 := by rw [hW1]; exact below_one w1 _
  have hO : W1.heap[w1.heap.size]? = some (.cells (ndc n A) 30 (0, 0)) := by rw [hW1]; exact heap_alloc_new _ _
  have HA1 := hide ((unhide HAT).below hbw)
  have HB2 := hide ((unhide HB1).trans (hbw.mono (unhide HB1).size))
  have HP1 := hide hO
  clear hW1 hbw hO HAT HB1
  obtain ⟨c0, c1, c2, c3, c4, c5, c6, c7, c8⟩ := nine (unhide HP1)
  go_wp2_with fail
  refine (unhide HIM W1 (unhide HA1)).mono ?_
  rintro e w2 ⟨ai, ci, rfl, hi, hb2⟩
  have HI := hide hi
  have HA2 := hide ((unhide HA1).below hb2)
  have HB3 := hide ((unhide HB2).trans (hb2.mono (unhide HB2).size))
  have HP2 := hide (obj_step (unhide HP1) hb2)
  clear hi hb2 HIM HA1 HB2 HP1 c0 c1 c2 c3 c4 c5 c6 c7 c8
  obtain ⟨c0, c1, c2, c3, c4, c5, c6, c7, c8⟩ := nine (unhide HP2)
  go_wp2_with fail
  refine (unhide HSP w2 (unhide HA2)).mono ?_
  rintro e w3 ⟨as', cs, rfl, hs, hb3⟩
  have HSS := hide (unhide HSM ai as' ci cs w3 (GR.At.below (unhide HI) hb3) hs)
  have HI3 := hide (GR.At.below (unhide HI) hb3)
  have HA3 := hide ((unhide HA2).below hb3)
  have HB4 := hide ((unhide HB3).trans (hb3.mono (unhide HB3).size))
  have HP3 := hide (obj_step (unhide HP2) hb3)
  clear hs hb3 HSP HSM HI HA2 HB3 HP2 c0 c1 c2 c3 c4 c5 c6 c7 c8
  go_wp2_with fail
  refine (unhide HSS).mono ?_
  rintro e w4 ⟨rfl, hb4⟩
  have HI4 := hide (GR.At.below (unhide HI3) hb4)
  have HA4 := hide ((unhide HA3).below hb4)
  have HB5 := hide ((unhide HB4).trans (hb4.mono (unhide HB4).size))
  have HP4 := hide (obj_step (unhide HP3) hb4)
  clear hb4 HSS HI3 HA3 HB4 HP3
  obtain ⟨c0, c1, c2, c3, c4, c5, c6, c7, c8⟩ := nine (unhide HP4)
  go_wp2_with fail
  refine (unhide HNO w4 (unhide HA4)).mono ?_
  rintro e w5 ⟨rfl, hb5⟩
  have HI5 := hide (GR.At.below (unhide HI4) hb5)
  have HA5 := hide (GR.At.below (unhide HA4).o hb5)
  have HB6 := hide ((unhide HB5).trans (hb5.mono (unhide HB5).size))
  have HP5 := hide (obj_step (unhide HP4) hb5)
  clear hb5 HI4 HA4 HB5 HP4 HNO c0 c1 c2 c3 c4 c5 c6 c7 c8
  rcases unhide HML with ⟨hok, rfl⟩ | ⟨hok, hmo, hLo⟩
  · rw [hok]
    clear hok HML HPR HA5 HP5 HI5
    go_wp2_with fail
    go_ret
    exact ⟨rfl, unhide HB6⟩
  · rw [hok]
    obtain ⟨hR1, hR2⟩ := unhide HPR hok
    have HR1 := hide hR1
    have HR2 := hide hR2
    clear hok HML HPR hR1 hR2
    subst hLo
    have HPM : Hid (∀ s : Snt, payM n s = ⟨1, n.id, s.t, s.i, lowOf n.out s.t s.i, s.k, s.n⟩) := fun _ => rfl
    generalize payM n = PM at *
    generalize lowOf n.out = LO at *
    obtain ⟨id, par, kids, next, pu, out, seen, old, reqs⟩ := n
    obtain ⟨ak, ap, ao, as'', ar, ck, cp, co, cs', cr⟩ := A
    dsimp only at hmo hzo HPM HR1 HR2 HA5 HI5
    subst hmo
    have hp5 := obj_lt (unhide HP5)
    go_wp2_with fail
    go_loopw [5] (fun i wr => ∃ k : Nat, k ≤ out.length ∧ i = .int .i64 k ∧ Below w5.heap.size w5 wr) (fun i _ => out.length - (intOf i).toNat)
    case atStart => exact ⟨0, Nat.zero_le _, rfl, Below.refl _ _⟩
    case round =>
      obtain ⟨k, hk, rfl, hbel⟩ := hrel
      have HBL := hide hbel
      have HP6 := hide (obj_step (unhide HP5) hbel)
      have HI6 := hide (GR.At.below (unhide HI5) hbel)
      have HA6 := hide (GR.At.below (unhide HA5) hbel)
      have hzr := hbel.size
      clear hbel
      obtain ⟨c0, c1, c2, c3, c4, c5, c6, c7, c8⟩ := nine (unhide HP6)
      by_cases hlt : k < out.length
      · have hkl : k < (out.map PM).length := by rw [List.length_map]; exact hlt
        obtain ⟨g1, o1, rfl, hg1, s0, s1, s2, s3, s4, s5, s6⟩ := MsgsAt.seven (unhide HI6) k hkl
        obtain ⟨g2, o2, rfl, hg2, q0, q1, q2, q3⟩ := SentAt.four (unhide HA6) k hlt
        simp only [List.getElem_map, unhide HPM] at s0 s1 s2 s3 s4 s5 s6
        have hok := unhide HR1 out[k] (List.getElem_mem hlt)
        have hno : ∀ y ∈ out, y.t = (out[k]).t → ¬ y.i < LO (out[k]).t (out[k]).i := by
          intro y hy ht
          have h := unhide HR2 out[k] (List.getElem_mem hlt) y hy
          simp only [unhide HPM] at h
          exact Int.not_lt.2 (h ht)
        rw [unhide HPM] at hok
        generalize out[k] = sk at *
        obtain ⟨si, st, sx, sn⟩ := sk
        dsimp only at s0 s1 s2 s3 s4 s5 s6 q0 q1 q2 q3 hok hno
        generalize LO st si = lo at *
        have HMK : Hid (∀ w1, Calls Tryz.prog 10 #[mgv ⟨1, id, st, si, lo, sx, sn⟩] w1 fun e w' => e = .returned (.bool true) ∧ Below w1.heap.size w1 w') := fun w1 => by
          have h := implMsgOk ⟨1, id, st, si, lo, sx, sn⟩ w1
          rw [hok] at h
          exact h
        have HNO := hide hno
        have HQ0 := hide q0
        have HQ1 := hide q1
        have HQ3 := hide q3
        clear hok hno hkl
        go_upto_region 13 with fail
        refine wp_at (fun W6 hW6 => ?_)
        have hbw : Below wr.heap.size wr W6 := by rw [hW6]; exact below_one wr _
        have hO : W6.heap[wr.heap.size]? = some (.cells #[.int .i64 1, .int .i64 id, .int .i64 st, .int .i64 si, .int .i64 lo, .string sx, .int .i64 sn] 37 (0, 0)) := by rw [hW6]; exact heap_alloc_new _ _
        have HMB := hide hO
        have hgm := obj_lt hO
        have HBW := hide hbw
        clear hW6 hO s0 s1 s2 s3 s4 s5 s6 c0 c1 c2 c3 c4 c5 c6 c7 c8
        obtain ⟨m0, m1, m2, m3, m4, m5, m6⟩ := sevenC (unhide HMB)
        have HP7 := hide (obj_step (unhide HP6) hbw)
        obtain ⟨c0, c1, c2, c3, c4, c5, c6, c7, c8⟩ := nine (unhide HP7)
        have x0 := (hbw.cell (p := ⟨g2, o2 + k * 4, none⟩) hg2).trans q0
        have x1 := (hbw.cell (p := ⟨g2, o2 + k * 4 + 1, none⟩) hg2).trans q1
        have x3 := (hbw.cell (p := ⟨g2, o2 + k * 4 + 3, none⟩) hg2).trans q3
        have hzw := hbw.size
        clear hbw q0 q1 q2 q3 c0 c1 c2 c3 c4 c6 c7 c8
        go_wp2_with fail
        go_region_held (fun w' => w'.cell? ⟨w1.heap.size, 5, none⟩ = some (.slice (some ⟨g2, o2, none⟩) out.length co) ∧ (w'.cell? ⟨wr.heap.size, 0, none⟩ = some (.int .i64 1) ∧ w'.cell? ⟨wr.heap.size, 1, none⟩ = some (.int .i64 id) ∧ w'.cell? ⟨wr.heap.size, 2, none⟩ = some (.int .i64 st) ∧ w'.cell? ⟨wr.heap.size, 3, none⟩ = some (.int .i64 si) ∧ w'.cell? ⟨wr.heap.size, 4, none⟩ = some (.int .i64 lo) ∧ w'.cell? ⟨wr.heap.size, 5, none⟩ = some (.string sx) ∧ w'.cell? ⟨wr.heap.size, 6, none⟩ = some (.int .i64 sn)) ∧ w'.cell? ⟨g2, o2 + k * 4, none⟩ = some (.int .i64 si) ∧ w'.cell? ⟨g2, o2 + k * 4 + 1, none⟩ = some (.int .i64 st) ∧ w'.cell? ⟨g2, o2 + k * 4 + 3, none⟩ = some (.int .i64 sn)) (go_keep)
          (first
            | (go_at_call 10; refine (unhide HMK _).mono ?_; rintro e w7 ⟨rfl, hb7⟩; have hb8 : Below W6.heap.size W6 w7 := ⟨hb7.os, hb7.tape, hb7.output, hb7.size, hb7.block⟩; clear hb7; have HB8 := hide hb8; have HM8 := hide (obj_step (unhide HMB) hb8); have HP8 := hide (obj_step (unhide HP7) hb8); obtain ⟨y0, y1, y2, y3, y4, y5, y6⟩ := sevenC (unhide HM8); obtain ⟨d0, d1, d2, d3, d4, d5, d6, d7, d8⟩ := nine (unhide HP8); have z0 := (hb8.cell (p := ⟨g2, o2 + k * 4, none⟩) (Nat.lt_of_lt_of_le hg2 hzw)).trans x0; have z1 := (hb8.cell (p := ⟨g2, o2 + k * 4 + 1, none⟩) (Nat.lt_of_lt_of_le hg2 hzw)).trans x1; have z3 := (hb8.cell (p := ⟨g2, o2 + k * 4 + 3, none⟩) (Nat.lt_of_lt_of_le hg2 hzw)).trans x3; clear hb8))
        all_goals
          have HI8 := hide (GR.At.below (GR.At.below (unhide HI6) (unhide HBW)) (unhide HB8))
          clear x0 x1 x3 m0 m1 m2 m3 m4 m5 m6 c5 z0 z1 z3 d0 d1 d2 d3 d4 d5 d6 d7 d8 y0 y1 y3 y5 y6
          go_wp2_with fail
          go_loopw [7] (fun j wj => ∃ (t q : Nat), t ≤ out.length ∧ j = .int .i64 t ∧ wj = w7.drewN q) (fun j _ => out.length - (intOf j).toNat)
          case atStart => exact ⟨0, 0, Nat.zero_le _, rfl, rfl⟩
          case round =>
            obtain ⟨t, q, ht, rfl, rfl⟩ := hrel
            by_cases htl : t < out.length
            · have hkl : t < (out.map PM).length := by rw [List.length_map]; exact htl
              obtain ⟨g3, o3, he3, hg3, s0, s1, s2, s3, s4, s5, s6⟩ := MsgsAt.seven (unhide HI8) t hkl
              cases he3
              simp only [List.getElem_map, unhide HPM] at s2 s3
              have hno := unhide HNO out[t] (List.getElem_mem htl)
              clear s0 s1 s4 s5 s6
              generalize out[t] = sj at *
              obtain ⟨ji, jt, jx, jn⟩ := sj
              dsimp only at s2 s3 hno
              by_cases hjt : jt = st
              · have hb : (jt == st) = true := by simp [hjt]
                have hl' : decide (ji < lo) = false := decide_eq_false (by have := hno hjt; omega)
                clear hno hjt
                go_wp2_with fail
                go_quiet (fail)
                go_wp2_with fail
                go_roundw
                case rel => exact ⟨t + 1, _, by omega, by go_num, rfl⟩
                case measure => simp [intOf]; omega
              · have hb : (jt == st) = false := by simp [hjt]
                clear hno hjt
                go_wp2_with fail
                go_quiet (fail)
                go_wp2_with fail
                go_roundw
                case rel => exact ⟨t + 1, _, by omega, by go_num, rfl⟩
                case measure => simp [intOf]; omega
            · have hte : t = out.length := by omega
              subst hte
              have hnlt : decide ((out.length : Int) < (out.length : Int)) = false := by simp
              go_wp2_with fail
              go_roundw
              case rel => exact ⟨k + 1, by omega, by go_num, (unhide HBL).trans ((((unhide HBW).trans ((unhide HB8).mono (unhide HBW).size)).trans ((below_drewP w7 q).mono (by have := (unhide HB8).size; omega))).mono (unhide HBL).size)⟩
              case measure => simp [intOf]; omega
      · have hke : k = out.length := by omega
        subst hke
        have hnlt : decide ((out.length : Int) < (out.length : Int)) = false := by simp
        go_wp2_with fail
        go_ret
        exact ⟨rfl, (unhide HB6).trans ((unhide HBL).mono (unhide HB6).size)⟩
set_option maxRecDepth 100000 in
theorem fnPays_all (a : Option Addr) (len cap : Nat) (zs : List Int) (w : World) (hz : IsRow .u8 w a len cap zs) :
    Calls Tryz.prog 3 #[.slice a len cap] w fun e w' => e = .returned (.bool true) ∧ Below w.heap.size w w' := by
  by_cases hl : len ≤ 1048576
  · exact fnPays_go a len cap w (code_ok hz hl)
  · have hl' : 1048576 < len := by omega
    clear hz
    go_enter Tryz.func3, Tryz.ntmps3
    go_wp2_with (go_at_call 4; refine (bigYes a len cap _ hl').mono ?_; rintro e w0 ⟨rfl, rfl⟩)
    go_ret
    exact ⟨rfl, Below.refl _ _⟩
end Go.Proofs.YtdlokncalhopoaaGreat
