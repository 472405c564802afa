/- Parts. -/
import Derived.Test.YtgkimogaghgjaaaPk24
import Derived.Deep.Cut
namespace Go.Proofs.Ytgkimogaghgjaaa
open Go.RowKit
open Mth

/-- A keeper in a row, while it is marked. -/
structure KM (w0 : World) (T S : Nat → Prop) (lo hi g o g1 g2 : Nat) (x : KpI) (W : World) : Prop where
  sc : Scr T w0 W
  kp : KpS lo hi W x.2 x.1 S g1 g2
  rc : RowC W g o x
  tg : T g
  ts : ∀ b, S b → T b
  t1 : 0 < x.1.base.seen.length → T g1
  t2 : 0 < x.1.node.seen.length → T g2
  gl : g < lo
  ro : ∀ o2 x2, o2 + 22 ≤ o ∨ o + 22 ≤ o2 → RowC w0 g o2 x2 → RowC W g o2 x2
section
variable {w0 W W2 : World} {T S : Nat → Prop} {lo hi g o g1 g2 : Nat} {x : KpI}
theorem KM.int (h : KM w0 T S lo hi g o g1 g2 x W) (c o' : Nat) (v : Value) (he : o' = o + c) (hc : c = 0 ∨ c = 1 ∨ c = 3 ∨ c = 7 ∨ c = 9 ∨ c = 10 ∨ c = 12 ∨ c = 16 ∨ c = 18 ∨ c = 19) : KM w0 T S lo hi g o g1 g2 x (W.setCell ⟨g, o', none⟩ v) :=
  ⟨h.sc.set h.tg o' v, h.kp.scr (Scr.set (S := fun b => b = g) (Scr.refl _ _) rfl o' v) (fun b hb => by have := h.gl; omega), h.rc.set o' v (fun c' u hu => by have := hdK_no hu; omega), h.tg, h.ts, h.t1, h.t2, h.gl, fun o2 x2 hd hr => (h.ro o2 x2 hd hr).set o' v (fun c' u hu => by have := hdK_no hu; omega)⟩
theorem KM.flat (h : KM w0 T S lo hi g o g1 g2 x W) (hs : Scr S W W2) : KM w0 T S lo hi g o g1 g2 x W2 :=
  ⟨h.sc.trans (hs.mono h.ts), ⟨h.kp.rng, h.kp.s1, h.kp.s2, h.kp.ne, h.kp.b.scr hs (fun e => (h.kp.s1 e).2.2), h.kp.n.scr hs (fun e => (h.kp.s2 e).2.2), h.kp.wt.scr hs, h.kp.sk.scr hs⟩, h.rc.scr hs (fun hb => by have := h.kp.rng _ hb; have := h.gl; omega), h.tg, h.ts, h.t1, h.t2, h.gl, fun o2 x2 hd hr => (h.ro o2 x2 hd hr).scr hs (fun hb => by have := h.kp.rng _ hb; have := h.gl; omega)⟩
theorem KM.below (h : KM w0 T S lo hi g o g1 g2 x W) (hb : Below W.heap.size W W2) : KM w0 T S lo hi g o g1 g2 x W2 := h.flat (Scr.of_below hb)
theorem KM.seen1 (h : KM w0 T S lo hi g o g1 g2 x W) (hs : Scr (fun b => S b ∨ 0 < x.1.base.seen.length ∧ b = g1) W W2) (hw : SeenSc S W2 x.2.b.s g1 x.1.base.seen) : KM w0 T S lo hi g o g1 g2 x W2 :=
  ⟨h.sc.trans (hs.mono (fun b hb => hb.elim (h.ts b) (fun ⟨e, e'⟩ => by subst e'; exact h.t1 e))), ⟨h.kp.rng, h.kp.s1, h.kp.s2, h.kp.ne, ⟨h.kp.b.k.scr hs, h.kp.b.p.scr hs, h.kp.b.o.scr hs, hw, h.kp.b.r.scr hs⟩, h.kp.n.scr hs (fun e hb => hb.elim (h.kp.s2 e).2.2 (fun ⟨e1, e'⟩ => h.kp.ne e1 e e'.symm)), h.kp.wt.scr hs, h.kp.sk.scr hs⟩, h.rc.scr hs (fun hb => hb.elim (fun hb => by have := h.kp.rng _ hb; have := h.gl; omega) (fun ⟨e, e'⟩ => by have := h.kp.s1 e; have := h.gl; omega)), h.tg, h.ts, h.t1, h.t2, h.gl, fun o2 x2 hd hr => (h.ro o2 x2 hd hr).scr hs (fun hb => hb.elim (fun hb => by have := h.kp.rng _ hb; have := h.gl; omega) (fun ⟨e, e'⟩ => by have := h.kp.s1 e; have := h.gl; omega))⟩
theorem KM.seen2 (h : KM w0 T S lo hi g o g1 g2 x W) (hs : Scr (fun b => S b ∨ 0 < x.1.node.seen.length ∧ b = g2) W W2) (hw : SeenSc S W2 x.2.n.s g2 x.1.node.seen) : KM w0 T S lo hi g o g1 g2 x W2 :=
  ⟨h.sc.trans (hs.mono (fun b hb => hb.elim (h.ts b) (fun ⟨e, e'⟩ => by subst e'; exact h.t2 e))), ⟨h.kp.rng, h.kp.s1, h.kp.s2, h.kp.ne, h.kp.b.scr hs (fun e hb => hb.elim (h.kp.s1 e).2.2 (fun ⟨e1, e'⟩ => h.kp.ne e e1 e')), ⟨h.kp.n.k.scr hs, h.kp.n.p.scr hs, h.kp.n.o.scr hs, hw, h.kp.n.r.scr hs⟩, h.kp.wt.scr hs, h.kp.sk.scr hs⟩, h.rc.scr hs (fun hb => hb.elim (fun hb => by have := h.kp.rng _ hb; have := h.gl; omega) (fun ⟨e, e'⟩ => by have := h.kp.s2 e; have := h.gl; omega)), h.tg, h.ts, h.t1, h.t2, h.gl, fun o2 x2 hd hr => (h.ro o2 x2 hd hr).scr hs (fun hb => hb.elim (fun hb => by have := h.kp.rng _ hb; have := h.gl; omega) (fun ⟨e, e'⟩ => by have := h.kp.s2 e; have := h.gl; omega))⟩
end
set_option maxRecDepth 100000 in
set_option maxHeartbeats 8000000 in
theorem scrKeeperS (g cap : Nat) (M : List KpI) (r : Nat → Nat) (s : Int) (w : World) (hs0 : 0 < s) (hs1 : s ≤ 100000000) (hl : M.length ≤ 1048576) (hz : ∀ x ∈ M, KpSz x.1 1048576) (hr0 : g < r 0) (hr : ∀ j, j < M.length → r j ≤ r (j + 1)) (hb : GR.Blk encK 63 w g M)
    (hk : ∀ j (hj : j < M.length), ∃ S g1 g2, KpS (r j) (r (j + 1)) w M[j].2 M[j].1 S g1 g2) :
    Calls Try.prog 36 #[.slice (some ⟨g, 0, none⟩) M.length cap, .int .i64 s] w fun e w' => ∃ z : Int, e = .returned (.int .i64 z) ∧ s ≤ z ∧ z ≤ s + M.length * 2300000000000 ∧ Scr (fun b => b = g ∨ r 0 ≤ b ∧ b < r M.length) w w' := by
  have HRm : Hid (∀ a b, a ≤ b → b ≤ M.length → r a ≤ r b) := fun a b hab hbl => by
    induction b with
    | zero => rw [Nat.le_zero.1 hab]; exact Nat.le_refl _
    | succ b ih =>
      rcases Nat.lt_or_eq_of_le hab with h | h
      · exact Nat.le_trans (ih (by omega) (by omega)) (hr b (by omega))
      · rw [h]; exact Nat.le_refl _
  have HZ := hide hz
  have HK := hide hk
  have HRC := hide (fun j hj => RowC.of hb j hj)
  obtain ⟨T, hT⟩ : ∃ T : Nat → Prop, (fun b => b = g ∨ r 0 ≤ b ∧ b < r M.length) = T := ⟨_, rfl⟩
  have HTg := hide (show T g by rw [← hT]; exact .inl rfl)
  have HTs := hide (show ∀ j (_ : j < M.length) b, r j ≤ b → b < r (j + 1) → T b from fun j hj b h1 h2 => by rw [← hT]; exact .inr ⟨Nat.le_trans (unhide HRm 0 j (by omega) (by omega)) h1, Nat.lt_of_lt_of_le h2 (unhide HRm (j + 1) M.length (by omega) (Nat.le_refl _))⟩)
  rw [hT]
  have HGL := hide (show ∀ j, j ≤ M.length → g < r j from fun j hj => Nat.lt_of_lt_of_le hr0 (unhide HRm 0 j (by omega) hj))
  clear hz hk hb hT hr hr0
  go_enter Try.func36, Try.ntmps36
  go_wp2_with fail
  go_loopw [1, 5] (fun kk ix wr => ∃ (i : Nat) (m : Int), i ≤ M.length ∧ ix = .int .i64 i ∧ kk = .int .i64 m ∧ s ≤ m ∧ m ≤ s + i * 2300000000000 ∧ Scr T w wr ∧ (∀ j (hj : j < M.length), i ≤ j → RowC wr g (j * 22) M[j] ∧ ∃ S g1 g2, KpS (r j) (r (j + 1)) wr M[j].2 M[j].1 S g1 g2)) (fun _ ix _ => M.length - (intOf ix).toNat)
  case atStart => exact ⟨0, s, Nat.zero_le _, rfl, rfl, by omega, by omega, Scr.refl _ _, fun j hj _ => ⟨unhide HRC j hj, unhide HK j hj⟩⟩
  case round =>
    obtain ⟨i, m, hik, rfl, rfl, hm0, hm1, hsc, hrow⟩ := hrel
    have HSC := hide hsc
    have HROW := hide hrow
    have hm2 : m ≤ 2411724900000000000 := by omega
    have hmp : 0 < m := by omega
    clear hsc hrow
    by_cases hlt : i < M.length
    · obtain ⟨hrc, S, g1, g2, hks⟩ := unhide HROW i hlt (Nat.le_refl _)
      have hz := unhide HZ M[i] (List.getElem_mem hlt)
      have HM_wr := hide (show KM wr (fun b => b = g ∨ r i ≤ b ∧ b < r (i + 1)) S (r i) (r (i + 1)) g (i * 22) g1 g2 M[i] wr from ⟨Scr.refl _ _, hks, hrc, .inl rfl, fun b hb => .inr (hks.rng b hb), fun e => .inr ⟨(hks.s1 e).1, (hks.s1 e).2.1⟩, fun e => .inr ⟨(hks.s2 e).1, (hks.s2 e).2.1⟩, unhide HGL i (by omega), fun _ _ _ h => h⟩)
      have HFIN : Hid (∀ W2, Scr (fun b => b = g ∨ r i ≤ b ∧ b < r (i + 1)) wr W2 → (∀ j (hj : j < M.length), i + 1 ≤ j → RowC W2 g (j * 22) M[j]) → Scr T w W2 ∧ (∀ j (hj : j < M.length), i + 1 ≤ j → RowC W2 g (j * 22) M[j] ∧ ∃ S g1 g2, KpS (r j) (r (j + 1)) W2 M[j].2 M[j].1 S g1 g2)) := fun W2 h1 h2 => by
        refine ⟨(unhide HSC).trans (h1.mono (fun b hb => hb.elim (fun e => by subst e; exact unhide HTg) (fun hb => unhide HTs i hlt b hb.1 hb.2))), fun j hj hij => ⟨h2 j hj hij, ?_⟩⟩
        obtain ⟨_, S', a1, a2, hk'⟩ := unhide HROW j hj (by omega)
        exact ⟨S', a1, a2, hk'.scr h1 (fun b hb => hb.elim (fun e => .inl (by have := unhide HGL j (by omega); omega)) (fun hb => .inl (by have := unhide HRm (i + 1) j hij (by omega); omega)))⟩
      have HOTH : Hid (∀ j (hj : j < M.length), i + 1 ≤ j → RowC wr g (j * 22) M[j]) := fun j hj hij => (unhide HROW j hj (by omega)).1
      obtain ⟨T1, hT1⟩ : ∃ T1 : Nat → Prop, (fun b => b = g ∨ r i ≤ b ∧ b < r (i + 1)) = T1 := ⟨_, rfl⟩
      rw [hT1] at HM_wr HFIN
      clear hT1 hks hrc
      generalize M[i] = x at *
      have HSIb := hide (show ∀ y ∈ x.1.base.seen, y.ids.length ≤ 1048600 from fun y hy => by have := hz.b.sk y hy; omega)
      have HSIn := hide (show ∀ y ∈ x.1.node.seen, y.ids.length ≤ 1048600 from fun y hy => by have := hz.n.sk y hy; omega)
      have HSNb := hide (show 0 < x.1.base.seen.length → ¬ S g1 from fun e => ((unhide HM_wr).kp.s1 e).2.2)
      have HSNn := hide (show 0 < x.1.node.seen.length → ¬ S g2 from fun e => ((unhide HM_wr).kp.s2 e).2.2)
      have z2 := hz.b.k
      have z4 := hz.b.p
      have z5 := hz.b.o
      have z6 := hz.b.s
      have z8 := hz.b.r
      have z11 := hz.n.k
      have z13 := hz.n.p
      have z14 := hz.n.o
      have z15 := hz.n.s
      have z17 := hz.n.r
      have z20 := hz.w
      have z21 := hz.a
      clear hz
      obtain ⟨v0, q0⟩ := Option.isSome_iff_exists.1 ((unhide HM_wr).rc.so 0 (by omega))
      have f0 := (unhide HM_wr).rc.fz 0 (by omega)
      simp only [Nat.add_zero] at q0 f0
      obtain ⟨v1, q1⟩ := Option.isSome_iff_exists.1 ((unhide HM_wr).rc.so 1 (by omega))
      have f1 := (unhide HM_wr).rc.fz 1 (by omega)
      have q2 := (unhide HM_wr).rc.hd 2 _ rfl
      go_wp2_with fail
      refine (scrIntB S _ _ _ _ _ (by omega) (by omega) (by omega) (KM.int (KM.int (unhide HM_wr) 0 (i * 22) _ rfl (.inl rfl)) 1 (i * 22 + 1) _ rfl (.inr (.inl rfl))).kp.b.k).mono ?_
      rintro e w1 ⟨m1, rfl, hlo, hhi, hs⟩
      have hb1 : 0 < m1 ∧ m ≤ m1 ∧ m1 ≤ m + 1048603 := ⟨by omega, by omega, by omega⟩
      have HM_w1 := hide (KM.flat (KM.int (KM.int (unhide HM_wr) 0 (i * 22) _ rfl (.inl rfl)) 1 (i * 22 + 1) _ rfl (.inr (.inl rfl))) hs)
      clear hs hlo hhi v0 q0 f0 v1 q1 f1 q2 HM_wr
      obtain ⟨v3, q3⟩ := Option.isSome_iff_exists.1 ((unhide HM_w1).rc.so 3 (by omega))
      have f3 := (unhide HM_w1).rc.fz 3 (by omega)
      have q4 := (unhide HM_w1).rc.hd 4 _ rfl
      go_wp2_with fail
      refine (scrPurseB S _ _ _ _ _ (by omega) (by omega) (by omega) (KM.int (unhide HM_w1) 3 (i * 22 + 3) _ rfl (.inr (.inr (.inl rfl)))).kp.b.p).mono ?_
      rintro e w2 ⟨m2, rfl, hlo, hhi, hs⟩
      have hb2 : 0 < m2 ∧ m1 ≤ m2 ∧ m2 ≤ m1 + 4194403 := ⟨by omega, by omega, by omega⟩
      have HM_w2 := hide (KM.flat (KM.int (unhide HM_w1) 3 (i * 22 + 3) _ rfl (.inr (.inr (.inl rfl)))) hs)
      clear hs hlo hhi v3 q3 f3 q4 HM_w1
      have q5 := (unhide HM_w2).rc.hd 5 _ rfl
      go_wp2_with fail
      refine (scrSentB S _ _ _ _ _ (by omega) (by omega) (by omega) (unhide HM_w2).kp.b.o).mono ?_
      rintro e w3 ⟨m3, rfl, hlo, hhi, hs⟩
      have hb3 : 0 < m3 ∧ m2 ≤ m3 ∧ m3 ≤ m2 + 4194403 := ⟨by omega, by omega, by omega⟩
      have HM_w3 := hide (KM.flat (unhide HM_w2) hs)
      clear hs hlo hhi q5 HM_w2
      have q6 := (unhide HM_w3).rc.hd 6 _ rfl
      go_wp2_with fail
      refine (scrSeen S _ g1 _ x.1.base.seen _ _ (by omega) (by omega) (by omega) (unhide HSIb) (unhide HSNb) (unhide HM_w3).kp.b.s).mono ?_
      rintro e w4 ⟨m4, rfl, hlo, hhi, hsn, hs⟩
      have hb4 : 0 < m4 ∧ m3 ≤ m4 ∧ m4 ≤ m3 + 1099565000003 := ⟨by omega, by omega, by omega⟩
      have HM_w4 := hide (KM.seen1 (unhide HM_w3) hs hsn)
      clear hs hlo hhi q6 HM_w3
      obtain ⟨v7, q7⟩ := Option.isSome_iff_exists.1 ((unhide HM_w4).rc.so 7 (by omega))
      have f7 := (unhide HM_w4).rc.fz 7 (by omega)
      have q8 := (unhide HM_w4).rc.hd 8 _ rfl
      go_wp2_with fail
      refine (scrReqB S _ _ _ _ _ (by omega) (by omega) (by omega) (KM.int (unhide HM_w4) 7 (i * 22 + 7) _ rfl (.inr (.inr (.inr (.inl rfl))))).kp.b.r).mono ?_
      rintro e w5 ⟨m5, rfl, hlo, hhi, hs⟩
      have hb5 : 0 < m5 ∧ m4 ≤ m5 ∧ m5 ≤ m4 + 4194403 := ⟨by omega, by omega, by omega⟩
      have HM_w5 := hide (KM.flat (KM.int (unhide HM_w4) 7 (i * 22 + 7) _ rfl (.inr (.inr (.inr (.inl rfl))))) hs)
      clear hs hlo hhi v7 q7 f7 q8 HM_w4
      obtain ⟨v9, q9⟩ := Option.isSome_iff_exists.1 ((unhide HM_w5).rc.so 9 (by omega))
      have f9 := (unhide HM_w5).rc.fz 9 (by omega)
      obtain ⟨v10, q10⟩ := Option.isSome_iff_exists.1 ((unhide HM_w5).rc.so 10 (by omega))
      have f10 := (unhide HM_w5).rc.fz 10 (by omega)
      have q11 := (unhide HM_w5).rc.hd 11 _ rfl
      go_wp2_with fail
      refine (scrIntB S _ _ _ _ _ (by omega) (by omega) (by omega) (KM.int (KM.int (unhide HM_w5) 9 (i * 22 + 9) _ rfl (.inr (.inr (.inr (.inr (.inl rfl)))))) 10 (i * 22 + 10) _ rfl (.inr (.inr (.inr (.inr (.inr (.inl rfl))))))).kp.n.k).mono ?_
      rintro e w6 ⟨m6, rfl, hlo, hhi, hs⟩
      have hb6 : 0 < m6 ∧ m5 ≤ m6 ∧ m6 ≤ m5 + 1048603 := ⟨by omega, by omega, by omega⟩
      have HM_w6 := hide (KM.flat (KM.int (KM.int (unhide HM_w5) 9 (i * 22 + 9) _ rfl (.inr (.inr (.inr (.inr (.inl rfl)))))) 10 (i * 22 + 10) _ rfl (.inr (.inr (.inr (.inr (.inr (.inl rfl))))))) hs)
      clear hs hlo hhi v9 q9 f9 v10 q10 f10 q11 HM_w5
      obtain ⟨v12, q12⟩ := Option.isSome_iff_exists.1 ((unhide HM_w6).rc.so 12 (by omega))
      have f12 := (unhide HM_w6).rc.fz 12 (by omega)
      have q13 := (unhide HM_w6).rc.hd 13 _ rfl
      go_wp2_with fail
      refine (scrPurseB S _ _ _ _ _ (by omega) (by omega) (by omega) (KM.int (unhide HM_w6) 12 (i * 22 + 12) _ rfl (.inr (.inr (.inr (.inr (.inr (.inr (.inl rfl)))))))).kp.n.p).mono ?_
      rintro e w7 ⟨m7, rfl, hlo, hhi, hs⟩
      have hb7 : 0 < m7 ∧ m6 ≤ m7 ∧ m7 ≤ m6 + 4194403 := ⟨by omega, by omega, by omega⟩
      have HM_w7 := hide (KM.flat (KM.int (unhide HM_w6) 12 (i * 22 + 12) _ rfl (.inr (.inr (.inr (.inr (.inr (.inr (.inl rfl)))))))) hs)
      clear hs hlo hhi v12 q12 f12 q13 HM_w6
      have q14 := (unhide HM_w7).rc.hd 14 _ rfl
      go_wp2_with fail
      refine (scrSentB S _ _ _ _ _ (by omega) (by omega) (by omega) (unhide HM_w7).kp.n.o).mono ?_
      rintro e w8 ⟨m8, rfl, hlo, hhi, hs⟩
      have hb8 : 0 < m8 ∧ m7 ≤ m8 ∧ m8 ≤ m7 + 4194403 := ⟨by omega, by omega, by omega⟩
      have HM_w8 := hide (KM.flat (unhide HM_w7) hs)
      clear hs hlo hhi q14 HM_w7
      have q15 := (unhide HM_w8).rc.hd 15 _ rfl
      go_wp2_with fail
      refine (scrSeen S _ g2 _ x.1.node.seen _ _ (by omega) (by omega) (by omega) (unhide HSIn) (unhide HSNn) (unhide HM_w8).kp.n.s).mono ?_
      rintro e w9 ⟨m9, rfl, hlo, hhi, hsn, hs⟩
      have hb9 : 0 < m9 ∧ m8 ≤ m9 ∧ m9 ≤ m8 + 1099565000003 := ⟨by omega, by omega, by omega⟩
      have HM_w9 := hide (KM.seen2 (unhide HM_w8) hs hsn)
      clear hs hlo hhi q15 HM_w8
      obtain ⟨v16, q16⟩ := Option.isSome_iff_exists.1 ((unhide HM_w9).rc.so 16 (by omega))
      have f16 := (unhide HM_w9).rc.fz 16 (by omega)
      have q17 := (unhide HM_w9).rc.hd 17 _ rfl
      go_wp2_with fail
      refine (scrReqB S _ _ _ _ _ (by omega) (by omega) (by omega) (KM.int (unhide HM_w9) 16 (i * 22 + 16) _ rfl (.inr (.inr (.inr (.inr (.inr (.inr (.inr (.inl rfl))))))))).kp.n.r).mono ?_
      rintro e w10 ⟨m10, rfl, hlo, hhi, hs⟩
      have hb10 : 0 < m10 ∧ m9 ≤ m10 ∧ m10 ≤ m9 + 4194403 := ⟨by omega, by omega, by omega⟩
      have HM_w10 := hide (KM.flat (KM.int (unhide HM_w9) 16 (i * 22 + 16) _ rfl (.inr (.inr (.inr (.inr (.inr (.inr (.inr (.inl rfl))))))))) hs)
      clear hs hlo hhi v16 q16 f16 q17 HM_w9
      go_wp2_with fail
      refine (scrText _ _ (by omega) (by omega)).mono ?_
      rintro e w11 ⟨tx, rfl, hbw⟩
      have HM_w11 := hide (KM.below (unhide HM_w10) hbw)
      clear hbw  HM_w10
      obtain ⟨v18, q18⟩ := Option.isSome_iff_exists.1 ((unhide HM_w11).rc.so 18 (by omega))
      have f18 := (unhide HM_w11).rc.fz 18 (by omega)
      obtain ⟨v19, q19⟩ := Option.isSome_iff_exists.1 ((unhide HM_w11).rc.so 19 (by omega))
      have f19 := (unhide HM_w11).rc.fz 19 (by omega)
      have q20 := (unhide HM_w11).rc.hd 20 _ rfl
      go_wp2_with fail
      refine (scrMsgB S _ _ _ _ _ (by omega) (by omega) (by omega) (KM.int (KM.int (unhide HM_w11) 18 (i * 22 + 18) _ rfl (.inr (.inr (.inr (.inr (.inr (.inr (.inr (.inr (.inl rfl)))))))))) 19 (i * 22 + 19) _ rfl (.inr (.inr (.inr (.inr (.inr (.inr (.inr (.inr (.inr (rfl))))))))))).kp.wt).mono ?_
      rintro e w12 ⟨m12, rfl, hlo, hhi, hs⟩
      have hb12 : 0 < m12 ∧ m10 ≤ m12 ∧ m12 ≤ m10 + 7340203 := ⟨by omega, by omega, by omega⟩
      have HM_w12 := hide (KM.flat (KM.int (KM.int (unhide HM_w11) 18 (i * 22 + 18) _ rfl (.inr (.inr (.inr (.inr (.inr (.inr (.inr (.inr (.inl rfl)))))))))) 19 (i * 22 + 19) _ rfl (.inr (.inr (.inr (.inr (.inr (.inr (.inr (.inr (.inr (rfl))))))))))) hs)
      clear hs hlo hhi v18 q18 f18 v19 q19 f19 q20 HM_w11
      have q21 := (unhide HM_w12).rc.hd 21 _ rfl
      go_wp2_with fail
      refine (scrAnswerB S _ _ _ _ _ (by omega) (by omega) (by omega) (unhide HM_w12).kp.sk).mono ?_
      rintro e w13 ⟨m13, rfl, hlo, hhi, hs⟩
      have hb13 : 0 < m13 ∧ m12 ≤ m13 ∧ m13 ≤ m12 + 12583203 := ⟨by omega, by omega, by omega⟩
      have HM_w13 := hide (KM.flat (unhide HM_w12) hs)
      clear hs hlo hhi q21 HM_w12
      obtain ⟨f1, f2⟩ := unhide HFIN _ (unhide HM_w13).sc (fun j hj hij => (unhide HM_w13).ro (j * 22) M[j] (.inr (by omega)) (unhide HOTH j hj hij))
      have HF1 := hide f1
      have HF2 := hide f2
      clear f1 f2 HFIN HOTH HM_w13
      go_wp2_with fail
      go_roundw
      case rel => exact ⟨i + 1, m13, by omega, by go_num, rfl, by omega, by omega, unhide HF1, unhide HF2⟩
      case measure => simp [intOf]; omega
    · have hke : i = M.length := by omega
      subst hke
      have hnlt : decide ((M.length : Int) < (M.length : Int)) = false := by simp
      go_wp2_with fail
      go_ret
      exact ⟨m, rfl, hm0, hm1, unhide HSC⟩
end Go.Proofs.Ytgkimogaghgjaaa
