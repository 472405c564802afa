/- Parts. -/
import Derived.Test.YtbanjohfcnadfaaGreatDoorPw35
import Derived.Test.YtbanjohfcnadfaaGreatDoorPw30
namespace Go.Proofs.YtbanjohfcnadfaaGreatDoor
open Go.RowKit
open Mth

set_option maxRecDepth 100000 in
set_option maxHeartbeats 8000000 in
theorem markKeeperS (a : Option Addr) (g c s : Nat) (L : List KdI) (w : World) (hs0 : 0 < s) (hs1 : s ≤ 10000) (hl : L.length ≤ 1000) (hsm : ∀ x ∈ L, SmallK x) (ha : KRw w a g L) :
    Calls Tryz.prog 28 #[.slice a L.length c, .int .i64 s] w fun e w' => e = .returned (.int .i64 (eKs s L : Nat)) ∧ KRw w' a g (mKs s L) ∧ KeepsL (fp g L ++ fpK L) w w' := by
  have HA := hide ha
  have HSM := hide hsm
  clear ha hsm
  go_enter Tryz.func28, Tryz.ntmps28
  go_wp2_with fail
  go_loopw [1, 5] (fun kk i wr => ∃ k m : Nat, k ≤ L.length ∧ i = .int .i64 k ∧ kk = .int .i64 m ∧ m = eKs s (L.take k) ∧ KRw wr a g (mKk s L k) ∧ KeepsL (fp g L ++ fpK L) w wr) (fun _ i _ => L.length - (intOf i).toNat)
  case atStart => exact ⟨0, s, Nat.zero_le _, rfl, rfl, rfl, by rw [mKk_zero]; exact unhide HA, KeepsL.refl _ _⟩
  case round =>
    obtain ⟨k, m, hk, rfl, rfl, hm, hR, hkp⟩ := hrel
    have HR := hide hR
    have HK := hide hkp
    have HM := hide hm
    clear hR hkp
    by_cases hlt : k < L.length
    · have hbd := eKs_le s (L.take k) (fun x hx => unhide HSM x (List.mem_of_mem_take hx))
      rw [← hm, List.length_take, Nat.min_eq_left (by omega)] at hbd
      obtain ⟨hb1, hb2⟩ := hbd
      have hm0 : 0 < m := by omega
      have hm1 : (m : Int) ≤ 9223372 := by omega
      have hk' : k < (mKk s L k).length := by rw [mKk_length s L k hk]; exact hlt
      have hat := mKk_at s L k hlt
      have HSET := hide (mKk_set s L k hlt)
      have HE1 : Hid (eKs s (L.take (k + 1)) = eKe m L[k]) := by rw [List.take_succ_eq_append_getElem hlt, eKs_snoc, ← hm]; rfl
      rw [← hm] at HSET
      have hsmk := unhide HSM L[k] (List.getElem_mem hlt)
      obtain ⟨e0, hg0, F1, F2, F3, F4, dis, nb, nn, hsub, hst0⟩ := (unhide HR).start k hk' L[k] hat
      have HRND := hide (fun (w' : World) (x : KdI) h1 h2 h3 h4 => KRw.round (w' := w') (unhide HR) k hk' x h1 h2 h3 h4)
      have hkr : k < (rows22 (mKk s L k)).length := by rw [rows22_length]; exact hk'
      have HSMA := hide (unhide HSM)
      rw [hat] at HRND
      clear hm hat HR
      generalize L[k] = x at *
      generalize rows22 (mKk s L k) = RR at *
      obtain ⟨⟨⟨bid, bpar, bk, bnext, bpu, bout, bs, bold, breqs⟩, ⟨nid, npar, nk, nnext, npu, nout, ns, nold, nreqs⟩, lg, sf⟩, ⟨A2, G2⟩, ⟨A1, G1⟩⟩ := x
      have HSMK := hide hsmk
      obtain ⟨⟨z1, z2, z3, z4, z5, z6⟩, ⟨y1, y2, y3, y4, y5, y6⟩⟩ := hsmk
      dsimp only at z1 z2 z3 z4 z5 z6 y1 y2 y3 y4 y5 y6 hst0 nb nn hsub
      subst z1 z2 z3 y1 y2 y3
      subst e0
      obtain ⟨w0, hw0⟩ : ∃ x, x = wr := ⟨_, rfl⟩
      subst hw0
      have HST0 : Hid (KSt w0 w0 g k RR (⟨⟨bid, bpar, bnext, bold, .slice A2.k bk.length A2.ck, .slice A2.p 0 A2.cp, .slice A2.o 0 A2.co, .slice A2.s bs.length A2.cs, .slice A2.r 0 A2.cr⟩, ⟨nid, npar, nnext, nold, .slice A1.k nk.length A1.ck, .slice A1.p 0 A1.cp, .slice A1.o 0 A1.co, .slice A1.s ns.length A1.cs, .slice A1.r 0 A1.cr⟩, lg, sf⟩ : R22) ⟨bk, bs, nk, ns⟩ A2 A1 G2 G1 F1 F2 F3 F4) := hst0
      have HD := hide dis
      have HNB := hide nb
      have HNN := hide nn
      have HSUB := hide hsub
      clear hst0 dis nb nn hsub HSM
      obtain ⟨n1, q1⟩ : ∃ r, r = m + 2 + bk.length := ⟨_, rfl⟩
      obtain ⟨n2, q2⟩ : ∃ r, r = n1 + 1 := ⟨_, rfl⟩
      obtain ⟨n4, q4⟩ : ∃ r, r = eSeen n2 bs := ⟨_, rfl⟩
      obtain ⟨n5, q5⟩ : ∃ r, r = n4 + 1 := ⟨_, rfl⟩
      obtain ⟨n6, q6⟩ : ∃ r, r = n5 + 2 + nk.length := ⟨_, rfl⟩
      obtain ⟨n7, q7⟩ : ∃ r, r = n6 + 1 := ⟨_, rfl⟩
      obtain ⟨n9, q9⟩ : ∃ r, r = eSeen n7 ns := ⟨_, rfl⟩
      obtain ⟨n10, q10⟩ : ∃ r, r = n9 + 1 := ⟨_, rfl⟩
      have l4 := eSeen_le n2 0 bs (fun x hx => by rw [z4 x hx]; exact Nat.le_refl _)
      have l9 := eSeen_le n7 0 ns (fun x hx => by rw [y4 x hx]; exact Nat.le_refl _)
      rw [← q4] at l4
      rw [← q9] at l9
      have b1 : (n1 : Int) ≤ 9223372 := by omega
      have b4 : (n4 : Int) ≤ 9223372 := by omega
      have b5 : (n5 : Int) ≤ 9223372 := by omega
      have b6 : (n6 : Int) ≤ 9223372 := by omega
      have b9 : (n9 : Int) ≤ 9223372 := by omega
      have b10 : (n10 : Int) ≤ 9223372 := by omega
      have p1 : 0 < n1 := by omega
      have p4 : 0 < n4 := by omega
      have p5 : 0 < n5 := by omega
      have p6 : 0 < n6 := by omega
      have p9 : 0 < n9 := by omega
      have p10 : 0 < n10 := by omega
      have HROW := hide (mKe_row m n1 n2 n4 n5 n6 n7 n9 n10 bid bpar bnext bold nid npar nnext nold sf bk nk bs ns lg A2 A1 G2 G1 q1 q2 q4 q5 q6 q7 q9 q10)
      have HQ1 := hide q1
      have HQ2 := hide q2
      have HQ4 := hide q4
      have HQ5 := hide q5
      have HQ6 := hide q6
      have HQ7 := hide q7
      have HQ9 := hide q9
      have HQ10 := hide q10
      have HZ4 := hide z4
      have HY4 := hide y4
      clear l4 l9 q1 q2 q4 q5 q6 q7 q9 q10 z4 y4
      obtain ⟨s0, f0⟩ : w0.cell? ⟨g, k * 22, none⟩ = some (.int .i64 bid) ∧ w0.frozen? ⟨g, k * 22, none⟩ = false := (unhide HST0).cell hkr 0 (by omega) _ rfl
      obtain ⟨s1, f1⟩ : w0.cell? ⟨g, k * 22 + 1, none⟩ = some (.int .i64 bpar) ∧ w0.frozen? ⟨g, k * 22 + 1, none⟩ = false := (unhide HST0).cell hkr 1 (by omega) _ rfl
      obtain ⟨s2, f2⟩ : w0.cell? ⟨g, k * 22 + 2, none⟩ = some (.slice A2.k bk.length A2.ck) ∧ w0.frozen? ⟨g, k * 22 + 2, none⟩ = false := (unhide HST0).cell hkr 2 (by omega) _ rfl
      go_wp2_with fail
      have hst : KSt w0 ((w0.setCell ⟨g, k * 22, none⟩ (.int .i64 ((m : Int)))).setCell ⟨g, k * 22 + 1, none⟩ (.int .i64 ((m : Int) + 1))) g k RR (⟨⟨((m : Int)), ((m : Int) + 1), bnext, bold, .slice A2.k bk.length A2.ck, .slice A2.p 0 A2.cp, .slice A2.o 0 A2.co, .slice A2.s bs.length A2.cs, .slice A2.r 0 A2.cr⟩, ⟨nid, npar, nnext, nold, .slice A1.k nk.length A1.ck, .slice A1.p 0 A1.cp, .slice A1.o 0 A1.co, .slice A1.s ns.length A1.cs, .slice A1.r 0 A1.cr⟩, lg, sf⟩ : R22) ⟨bk, bs, nk, ns⟩ A2 A1 G2 G1 F1 F2 F3 F4 := (((unhide HST0).store (R' := (⟨⟨((m : Int)), bpar, bnext, bold, .slice A2.k bk.length A2.ck, .slice A2.p 0 A2.cp, .slice A2.o 0 A2.co, .slice A2.s bs.length A2.cs, .slice A2.r 0 A2.cr⟩, ⟨nid, npar, nnext, nold, .slice A1.k nk.length A1.ck, .slice A1.p 0 A1.cp, .slice A1.o 0 A1.co, .slice A1.s ns.length A1.cs, .slice A1.r 0 A1.cr⟩, lg, sf⟩ : R22)) (unhide HD) hkr 0 (by omega) (.int .i64 ((m : Int))) rfl).store (R' := (⟨⟨((m : Int)), ((m : Int) + 1), bnext, bold, .slice A2.k bk.length A2.ck, .slice A2.p 0 A2.cp, .slice A2.o 0 A2.co, .slice A2.s bs.length A2.cs, .slice A2.r 0 A2.cr⟩, ⟨nid, npar, nnext, nold, .slice A1.k nk.length A1.ck, .slice A1.p 0 A1.cp, .slice A1.o 0 A1.co, .slice A1.s ns.length A1.cs, .slice A1.r 0 A1.cr⟩, lg, sf⟩ : R22)) (unhide HD) hkr 1 (by omega) (.int .i64 ((m : Int) + 1)) rfl)
      refine (markIntR A2.k G2.k A2.ck (m + 2) _ n1 bk _ (by omega) (by have q1 := unhide HQ1; omega) (by omega) (by omega) (by omega) hst.bk.W).mono ?_
      rintro e w1 ⟨rfl, hW, hK⟩
      have HST1 : Hid (KSt w0 w1 g k RR (⟨⟨((m : Int)), ((m : Int) + 1), bnext, bold, .slice A2.k bk.length A2.ck, .slice A2.p 0 A2.cp, .slice A2.o 0 A2.co, .slice A2.s bs.length A2.cs, .slice A2.r 0 A2.cr⟩, ⟨nid, npar, nnext, nold, .slice A1.k nk.length A1.ck, .slice A1.p 0 A1.cp, .slice A1.o 0 A1.co, .slice A1.s ns.length A1.cs, .slice A1.r 0 A1.cr⟩, lg, sf⟩ : R22) ⟨mks mkInt 1 (m + 2) bk bk.length, bs, nk, ns⟩ A2 A1 G2 G1 F1 F2 F3 F4) := hst.markBK (unhide HD) (m + 2) hW hK
      clear hst HST0 hW hK s0 f0 s1 f1 s2 f2
      obtain ⟨s3, f3⟩ : w1.cell? ⟨g, k * 22 + 3, none⟩ = some (.int .i64 bnext) ∧ w1.frozen? ⟨g, k * 22 + 3, none⟩ = false := (unhide HST1).cell hkr 3 (by omega) _ rfl
      obtain ⟨s4, f4⟩ : w1.cell? ⟨g, k * 22 + 4, none⟩ = some (.slice A2.p 0 A2.cp) ∧ w1.frozen? ⟨g, k * 22 + 4, none⟩ = false := (unhide HST1).cell hkr 4 (by omega) _ rfl
      go_wp2_with fail
      have hst : KSt w0 (w1.setCell ⟨g, k * 22 + 3, none⟩ (.int .i64 ((n1 : Int)))) g k RR (⟨⟨((m : Int)), ((m : Int) + 1), ((n1 : Int)), bold, .slice A2.k bk.length A2.ck, .slice A2.p 0 A2.cp, .slice A2.o 0 A2.co, .slice A2.s bs.length A2.cs, .slice A2.r 0 A2.cr⟩, ⟨nid, npar, nnext, nold, .slice A1.k nk.length A1.ck, .slice A1.p 0 A1.cp, .slice A1.o 0 A1.co, .slice A1.s ns.length A1.cs, .slice A1.r 0 A1.cr⟩, lg, sf⟩ : R22) ⟨mks mkInt 1 (m + 2) bk bk.length, bs, nk, ns⟩ A2 A1 G2 G1 F1 F2 F3 F4 := ((unhide HST1).store (R' := (⟨⟨((m : Int)), ((m : Int) + 1), ((n1 : Int)), bold, .slice A2.k bk.length A2.ck, .slice A2.p 0 A2.cp, .slice A2.o 0 A2.co, .slice A2.s bs.length A2.cs, .slice A2.r 0 A2.cr⟩, ⟨nid, npar, nnext, nold, .slice A1.k nk.length A1.ck, .slice A1.p 0 A1.cp, .slice A1.o 0 A1.co, .slice A1.s ns.length A1.cs, .slice A1.r 0 A1.cr⟩, lg, sf⟩ : R22)) (unhide HD) hkr 3 (by omega) (.int .i64 ((n1 : Int))) rfl)
      refine (markPurseR A2.p A2.cp n2 _ _ (by have q2 := unhide HQ2; omega) (by have q2 := unhide HQ2; omega) (by have q2 := unhide HQ2; omega)).mono ?_
      rintro e w2 ⟨rfl, hK⟩
      have HST2 : Hid (KSt w0 w2 g k RR (⟨⟨((m : Int)), ((m : Int) + 1), ((n1 : Int)), bold, .slice A2.k bk.length A2.ck, .slice A2.p 0 A2.cp, .slice A2.o 0 A2.co, .slice A2.s bs.length A2.cs, .slice A2.r 0 A2.cr⟩, ⟨nid, npar, nnext, nold, .slice A1.k nk.length A1.ck, .slice A1.p 0 A1.cp, .slice A1.o 0 A1.co, .slice A1.s ns.length A1.cs, .slice A1.r 0 A1.cr⟩, lg, sf⟩ : R22) ⟨mks mkInt 1 (m + 2) bk bk.length, bs, nk, ns⟩ A2 A1 G2 G1 F1 F2 F3 F4) := hst.still hK
      clear hst HST1 hK s3 f3 s4 f4
      obtain ⟨s5, f5⟩ : w2.cell? ⟨g, k * 22 + 5, none⟩ = some (.slice A2.o 0 A2.co) ∧ w2.frozen? ⟨g, k * 22 + 5, none⟩ = false := (unhide HST2).cell hkr 5 (by omega) _ rfl
      go_wp2_with fail
      have hst : KSt w0 w2 g k RR (⟨⟨((m : Int)), ((m : Int) + 1), ((n1 : Int)), bold, .slice A2.k bk.length A2.ck, .slice A2.p 0 A2.cp, .slice A2.o 0 A2.co, .slice A2.s bs.length A2.cs, .slice A2.r 0 A2.cr⟩, ⟨nid, npar, nnext, nold, .slice A1.k nk.length A1.ck, .slice A1.p 0 A1.cp, .slice A1.o 0 A1.co, .slice A1.s ns.length A1.cs, .slice A1.r 0 A1.cr⟩, lg, sf⟩ : R22) ⟨mks mkInt 1 (m + 2) bk bk.length, bs, nk, ns⟩ A2 A1 G2 G1 F1 F2 F3 F4 := (unhide HST2)
      refine (markSentR A2.o A2.co n2 _ _ rfl (by have q2 := unhide HQ2; omega) (by have q2 := unhide HQ2; omega)).mono ?_
      rintro e w3 ⟨rfl, hK⟩
      have HST3 : Hid (KSt w0 w3 g k RR (⟨⟨((m : Int)), ((m : Int) + 1), ((n1 : Int)), bold, .slice A2.k bk.length A2.ck, .slice A2.p 0 A2.cp, .slice A2.o 0 A2.co, .slice A2.s bs.length A2.cs, .slice A2.r 0 A2.cr⟩, ⟨nid, npar, nnext, nold, .slice A1.k nk.length A1.ck, .slice A1.p 0 A1.cp, .slice A1.o 0 A1.co, .slice A1.s ns.length A1.cs, .slice A1.r 0 A1.cr⟩, lg, sf⟩ : R22) ⟨mks mkInt 1 (m + 2) bk bk.length, bs, nk, ns⟩ A2 A1 G2 G1 F1 F2 F3 F4) := hst.still hK
      clear hst HST2 hK s5 f5
      obtain ⟨s6, f6⟩ : w3.cell? ⟨g, k * 22 + 6, none⟩ = some (.slice A2.s bs.length A2.cs) ∧ w3.frozen? ⟨g, k * 22 + 6, none⟩ = false := (unhide HST3).cell hkr 6 (by omega) _ rfl
      go_wp2_with fail
      have hst : KSt w0 w3 g k RR (⟨⟨((m : Int)), ((m : Int) + 1), ((n1 : Int)), bold, .slice A2.k bk.length A2.ck, .slice A2.p 0 A2.cp, .slice A2.o 0 A2.co, .slice A2.s bs.length A2.cs, .slice A2.r 0 A2.cr⟩, ⟨nid, npar, nnext, nold, .slice A1.k nk.length A1.ck, .slice A1.p 0 A1.cp, .slice A1.o 0 A1.co, .slice A1.s ns.length A1.cs, .slice A1.r 0 A1.cr⟩, lg, sf⟩ : R22) ⟨mks mkInt 1 (m + 2) bk bk.length, bs, nk, ns⟩ A2 A1 G2 G1 F1 F2 F3 F4 := (unhide HST3)
      refine (markSeenR A2.s G2.s A2.cs n2 _ n4 G2.i bs _ rfl (unhide HQ4) (by have q2 := unhide HQ2; omega) (by have q2 := unhide HQ2; omega) (by omega) (fun x hx => by rw [unhide HZ4 x hx]; exact Nat.zero_le _) (unhide HNB) hst.bs.S).mono ?_
      rintro e w4 ⟨rfl, hW, hK⟩
      have HST4 : Hid (KSt w0 w4 g k RR (⟨⟨((m : Int)), ((m : Int) + 1), ((n1 : Int)), bold, .slice A2.k bk.length A2.ck, .slice A2.p 0 A2.cp, .slice A2.o 0 A2.co, .slice A2.s bs.length A2.cs, .slice A2.r 0 A2.cr⟩, ⟨nid, npar, nnext, nold, .slice A1.k nk.length A1.ck, .slice A1.p 0 A1.cp, .slice A1.o 0 A1.co, .slice A1.s ns.length A1.cs, .slice A1.r 0 A1.cr⟩, lg, sf⟩ : R22) ⟨mks mkInt 1 (m + 2) bk bk.length, mSeen n2 bs, nk, ns⟩ A2 A1 G2 G1 F1 F2 F3 F4) := hst.markBS (unhide HD) n2 hW hK
      clear hst HST3 hW hK s6 f6
      obtain ⟨s7, f7⟩ : w4.cell? ⟨g, k * 22 + 7, none⟩ = some (.int .i64 bold) ∧ w4.frozen? ⟨g, k * 22 + 7, none⟩ = false := (unhide HST4).cell hkr 7 (by omega) _ rfl
      obtain ⟨s8, f8⟩ : w4.cell? ⟨g, k * 22 + 8, none⟩ = some (.slice A2.r 0 A2.cr) ∧ w4.frozen? ⟨g, k * 22 + 8, none⟩ = false := (unhide HST4).cell hkr 8 (by omega) _ rfl
      go_wp2_with fail
      have hst : KSt w0 (w4.setCell ⟨g, k * 22 + 7, none⟩ (.int .i64 ((n4 : Int)))) g k RR (⟨⟨((m : Int)), ((m : Int) + 1), ((n1 : Int)), ((n4 : Int)), .slice A2.k bk.length A2.ck, .slice A2.p 0 A2.cp, .slice A2.o 0 A2.co, .slice A2.s bs.length A2.cs, .slice A2.r 0 A2.cr⟩, ⟨nid, npar, nnext, nold, .slice A1.k nk.length A1.ck, .slice A1.p 0 A1.cp, .slice A1.o 0 A1.co, .slice A1.s ns.length A1.cs, .slice A1.r 0 A1.cr⟩, lg, sf⟩ : R22) ⟨mks mkInt 1 (m + 2) bk bk.length, mSeen n2 bs, nk, ns⟩ A2 A1 G2 G1 F1 F2 F3 F4 := ((unhide HST4).store (R' := (⟨⟨((m : Int)), ((m : Int) + 1), ((n1 : Int)), ((n4 : Int)), .slice A2.k bk.length A2.ck, .slice A2.p 0 A2.cp, .slice A2.o 0 A2.co, .slice A2.s bs.length A2.cs, .slice A2.r 0 A2.cr⟩, ⟨nid, npar, nnext, nold, .slice A1.k nk.length A1.ck, .slice A1.p 0 A1.cp, .slice A1.o 0 A1.co, .slice A1.s ns.length A1.cs, .slice A1.r 0 A1.cr⟩, lg, sf⟩ : R22)) (unhide HD) hkr 7 (by omega) (.int .i64 ((n4 : Int))) rfl)
      refine (markReqR A2.r A2.cr n5 _ _ (by have q5 := unhide HQ5; omega) (by omega) (by omega)).mono ?_
      rintro e w5 ⟨rfl, hK⟩
      have HST5 : Hid (KSt w0 w5 g k RR (⟨⟨((m : Int)), ((m : Int) + 1), ((n1 : Int)), ((n4 : Int)), .slice A2.k bk.length A2.ck, .slice A2.p 0 A2.cp, .slice A2.o 0 A2.co, .slice A2.s bs.length A2.cs, .slice A2.r 0 A2.cr⟩, ⟨nid, npar, nnext, nold, .slice A1.k nk.length A1.ck, .slice A1.p 0 A1.cp, .slice A1.o 0 A1.co, .slice A1.s ns.length A1.cs, .slice A1.r 0 A1.cr⟩, lg, sf⟩ : R22) ⟨mks mkInt 1 (m + 2) bk bk.length, mSeen n2 bs, nk, ns⟩ A2 A1 G2 G1 F1 F2 F3 F4) := hst.still hK
      clear hst HST4 hK s7 f7 s8 f8
      obtain ⟨s9, f9⟩ : w5.cell? ⟨g, k * 22 + 9, none⟩ = some (.int .i64 nid) ∧ w5.frozen? ⟨g, k * 22 + 9, none⟩ = false := (unhide HST5).cell hkr 9 (by omega) _ rfl
      obtain ⟨s10, f10⟩ : w5.cell? ⟨g, k * 22 + 10, none⟩ = some (.int .i64 npar) ∧ w5.frozen? ⟨g, k * 22 + 10, none⟩ = false := (unhide HST5).cell hkr 10 (by omega) _ rfl
      obtain ⟨s11, f11⟩ : w5.cell? ⟨g, k * 22 + 11, none⟩ = some (.slice A1.k nk.length A1.ck) ∧ w5.frozen? ⟨g, k * 22 + 11, none⟩ = false := (unhide HST5).cell hkr 11 (by omega) _ rfl
      go_wp2_with fail
      have hst : KSt w0 ((w5.setCell ⟨g, k * 22 + 9, none⟩ (.int .i64 ((n5 : Int)))).setCell ⟨g, k * 22 + 10, none⟩ (.int .i64 ((n5 : Int) + 1))) g k RR (⟨⟨((m : Int)), ((m : Int) + 1), ((n1 : Int)), ((n4 : Int)), .slice A2.k bk.length A2.ck, .slice A2.p 0 A2.cp, .slice A2.o 0 A2.co, .slice A2.s bs.length A2.cs, .slice A2.r 0 A2.cr⟩, ⟨((n5 : Int)), ((n5 : Int) + 1), nnext, nold, .slice A1.k nk.length A1.ck, .slice A1.p 0 A1.cp, .slice A1.o 0 A1.co, .slice A1.s ns.length A1.cs, .slice A1.r 0 A1.cr⟩, lg, sf⟩ : R22) ⟨mks mkInt 1 (m + 2) bk bk.length, mSeen n2 bs, nk, ns⟩ A2 A1 G2 G1 F1 F2 F3 F4 := (((unhide HST5).store (R' := (⟨⟨((m : Int)), ((m : Int) + 1), ((n1 : Int)), ((n4 : Int)), .slice A2.k bk.length A2.ck, .slice A2.p 0 A2.cp, .slice A2.o 0 A2.co, .slice A2.s bs.length A2.cs, .slice A2.r 0 A2.cr⟩, ⟨((n5 : Int)), npar, nnext, nold, .slice A1.k nk.length A1.ck, .slice A1.p 0 A1.cp, .slice A1.o 0 A1.co, .slice A1.s ns.length A1.cs, .slice A1.r 0 A1.cr⟩, lg, sf⟩ : R22)) (unhide HD) hkr 9 (by omega) (.int .i64 ((n5 : Int))) rfl).store (R' := (⟨⟨((m : Int)), ((m : Int) + 1), ((n1 : Int)), ((n4 : Int)), .slice A2.k bk.length A2.ck, .slice A2.p 0 A2.cp, .slice A2.o 0 A2.co, .slice A2.s bs.length A2.cs, .slice A2.r 0 A2.cr⟩, ⟨((n5 : Int)), ((n5 : Int) + 1), nnext, nold, .slice A1.k nk.length A1.ck, .slice A1.p 0 A1.cp, .slice A1.o 0 A1.co, .slice A1.s ns.length A1.cs, .slice A1.r 0 A1.cr⟩, lg, sf⟩ : R22)) (unhide HD) hkr 10 (by omega) (.int .i64 ((n5 : Int) + 1)) rfl)
      refine (markIntR A1.k G1.k A1.ck (n5 + 2) _ n6 nk _ (by omega) (by have q6 := unhide HQ6; omega) (by omega) (by omega) (by omega) hst.nk.W).mono ?_
      rintro e w6 ⟨rfl, hW, hK⟩
      have HST6 : Hid (KSt w0 w6 g k RR (⟨⟨((m : Int)), ((m : Int) + 1), ((n1 : Int)), ((n4 : Int)), .slice A2.k bk.length A2.ck, .slice A2.p 0 A2.cp, .slice A2.o 0 A2.co, .slice A2.s bs.length A2.cs, .slice A2.r 0 A2.cr⟩, ⟨((n5 : Int)), ((n5 : Int) + 1), nnext, nold, .slice A1.k nk.length A1.ck, .slice A1.p 0 A1.cp, .slice A1.o 0 A1.co, .slice A1.s ns.length A1.cs, .slice A1.r 0 A1.cr⟩, lg, sf⟩ : R22) ⟨mks mkInt 1 (m + 2) bk bk.length, mSeen n2 bs, mks mkInt 1 (n5 + 2) nk nk.length, ns⟩ A2 A1 G2 G1 F1 F2 F3 F4) := hst.markNK (unhide HD) (n5 + 2) hW hK
      clear hst HST5 hW hK s9 f9 s10 f10 s11 f11
      obtain ⟨s12, f12⟩ : w6.cell? ⟨g, k * 22 + 12, none⟩ = some (.int .i64 nnext) ∧ w6.frozen? ⟨g, k * 22 + 12, none⟩ = false := (unhide HST6).cell hkr 12 (by omega) _ rfl
      obtain ⟨s13, f13⟩ : w6.cell? ⟨g, k * 22 + 13, none⟩ = some (.slice A1.p 0 A1.cp) ∧ w6.frozen? ⟨g, k * 22 + 13, none⟩ = false := (unhide HST6).cell hkr 13 (by omega) _ rfl
      go_wp2_with fail
      have hst : KSt w0 (w6.setCell ⟨g, k * 22 + 12, none⟩ (.int .i64 ((n6 : Int)))) g k RR (⟨⟨((m : Int)), ((m : Int) + 1), ((n1 : Int)), ((n4 : Int)), .slice A2.k bk.length A2.ck, .slice A2.p 0 A2.cp, .slice A2.o 0 A2.co, .slice A2.s bs.length A2.cs, .slice A2.r 0 A2.cr⟩, ⟨((n5 : Int)), ((n5 : Int) + 1), ((n6 : Int)), nold, .slice A1.k nk.length A1.ck, .slice A1.p 0 A1.cp, .slice A1.o 0 A1.co, .slice A1.s ns.length A1.cs, .slice A1.r 0 A1.cr⟩, lg, sf⟩ : R22) ⟨mks mkInt 1 (m + 2) bk bk.length, mSeen n2 bs, mks mkInt 1 (n5 + 2) nk nk.length, ns⟩ A2 A1 G2 G1 F1 F2 F3 F4 := ((unhide HST6).store (R' := (⟨⟨((m : Int)), ((m : Int) + 1), ((n1 : Int)), ((n4 : Int)), .slice A2.k bk.length A2.ck, .slice A2.p 0 A2.cp, .slice A2.o 0 A2.co, .slice A2.s bs.length A2.cs, .slice A2.r 0 A2.cr⟩, ⟨((n5 : Int)), ((n5 : Int) + 1), ((n6 : Int)), nold, .slice A1.k nk.length A1.ck, .slice A1.p 0 A1.cp, .slice A1.o 0 A1.co, .slice A1.s ns.length A1.cs, .slice A1.r 0 A1.cr⟩, lg, sf⟩ : R22)) (unhide HD) hkr 12 (by omega) (.int .i64 ((n6 : Int))) rfl)
      refine (markPurseR A1.p A1.cp n7 _ _ (by have q7 := unhide HQ7; omega) (by have q7 := unhide HQ7; omega) (by have q7 := unhide HQ7; omega)).mono ?_
      rintro e w7 ⟨rfl, hK⟩
      have HST7 : Hid (KSt w0 w7 g k RR (⟨⟨((m : Int)), ((m : Int) + 1), ((n1 : Int)), ((n4 : Int)), .slice A2.k bk.length A2.ck, .slice A2.p 0 A2.cp, .slice A2.o 0 A2.co, .slice A2.s bs.length A2.cs, .slice A2.r 0 A2.cr⟩, ⟨((n5 : Int)), ((n5 : Int) + 1), ((n6 : Int)), nold, .slice A1.k nk.length A1.ck, .slice A1.p 0 A1.cp, .slice A1.o 0 A1.co, .slice A1.s ns.length A1.cs, .slice A1.r 0 A1.cr⟩, lg, sf⟩ : R22) ⟨mks mkInt 1 (m + 2) bk bk.length, mSeen n2 bs, mks mkInt 1 (n5 + 2) nk nk.length, ns⟩ A2 A1 G2 G1 F1 F2 F3 F4) := hst.still hK
      clear hst HST6 hK s12 f12 s13 f13
      obtain ⟨s14, f14⟩ : w7.cell? ⟨g, k * 22 + 14, none⟩ = some (.slice A1.o 0 A1.co) ∧ w7.frozen? ⟨g, k * 22 + 14, none⟩ = false := (unhide HST7).cell hkr 14 (by omega) _ rfl
      go_wp2_with fail
      have hst : KSt w0 w7 g k RR (⟨⟨((m : Int)), ((m : Int) + 1), ((n1 : Int)), ((n4 : Int)), .slice A2.k bk.length A2.ck, .slice A2.p 0 A2.cp, .slice A2.o 0 A2.co, .slice A2.s bs.length A2.cs, .slice A2.r 0 A2.cr⟩, ⟨((n5 : Int)), ((n5 : Int) + 1), ((n6 : Int)), nold, .slice A1.k nk.length A1.ck, .slice A1.p 0 A1.cp, .slice A1.o 0 A1.co, .slice A1.s ns.length A1.cs, .slice A1.r 0 A1.cr⟩, lg, sf⟩ : R22) ⟨mks mkInt 1 (m + 2) bk bk.length, mSeen n2 bs, mks mkInt 1 (n5 + 2) nk nk.length, ns⟩ A2 A1 G2 G1 F1 F2 F3 F4 := (unhide HST7)
      refine (markSentR A1.o A1.co n7 _ _ rfl (by have q7 := unhide HQ7; omega) (by have q7 := unhide HQ7; omega)).mono ?_
      rintro e w8 ⟨rfl, hK⟩
      have HST8 : Hid (KSt w0 w8 g k RR (⟨⟨((m : Int)), ((m : Int) + 1), ((n1 : Int)), ((n4 : Int)), .slice A2.k bk.length A2.ck, .slice A2.p 0 A2.cp, .slice A2.o 0 A2.co, .slice A2.s bs.length A2.cs, .slice A2.r 0 A2.cr⟩, ⟨((n5 : Int)), ((n5 : Int) + 1), ((n6 : Int)), nold, .slice A1.k nk.length A1.ck, .slice A1.p 0 A1.cp, .slice A1.o 0 A1.co, .slice A1.s ns.length A1.cs, .slice A1.r 0 A1.cr⟩, lg, sf⟩ : R22) ⟨mks mkInt 1 (m + 2) bk bk.length, mSeen n2 bs, mks mkInt 1 (n5 + 2) nk nk.length, ns⟩ A2 A1 G2 G1 F1 F2 F3 F4) := hst.still hK
      clear hst HST7 hK s14 f14
      obtain ⟨s15, f15⟩ : w8.cell? ⟨g, k * 22 + 15, none⟩ = some (.slice A1.s ns.length A1.cs) ∧ w8.frozen? ⟨g, k * 22 + 15, none⟩ = false := (unhide HST8).cell hkr 15 (by omega) _ rfl
      go_wp2_with fail
      have hst : KSt w0 w8 g k RR (⟨⟨((m : Int)), ((m : Int) + 1), ((n1 : Int)), ((n4 : Int)), .slice A2.k bk.length A2.ck, .slice A2.p 0 A2.cp, .slice A2.o 0 A2.co, .slice A2.s bs.length A2.cs, .slice A2.r 0 A2.cr⟩, ⟨((n5 : Int)), ((n5 : Int) + 1), ((n6 : Int)), nold, .slice A1.k nk.length A1.ck, .slice A1.p 0 A1.cp, .slice A1.o 0 A1.co, .slice A1.s ns.length A1.cs, .slice A1.r 0 A1.cr⟩, lg, sf⟩ : R22) ⟨mks mkInt 1 (m + 2) bk bk.length, mSeen n2 bs, mks mkInt 1 (n5 + 2) nk nk.length, ns⟩ A2 A1 G2 G1 F1 F2 F3 F4 := (unhide HST8)
      refine (markSeenR A1.s G1.s A1.cs n7 _ n9 G1.i ns _ rfl (unhide HQ9) (by have q7 := unhide HQ7; omega) (by have q7 := unhide HQ7; omega) (by omega) (fun x hx => by rw [unhide HY4 x hx]; exact Nat.zero_le _) (unhide HNN) hst.ns.S).mono ?_
      rintro e w9 ⟨rfl, hW, hK⟩
      have HST9 : Hid (KSt w0 w9 g k RR (⟨⟨((m : Int)), ((m : Int) + 1), ((n1 : Int)), ((n4 : Int)), .slice A2.k bk.length A2.ck, .slice A2.p 0 A2.cp, .slice A2.o 0 A2.co, .slice A2.s bs.length A2.cs, .slice A2.r 0 A2.cr⟩, ⟨((n5 : Int)), ((n5 : Int) + 1), ((n6 : Int)), nold, .slice A1.k nk.length A1.ck, .slice A1.p 0 A1.cp, .slice A1.o 0 A1.co, .slice A1.s ns.length A1.cs, .slice A1.r 0 A1.cr⟩, lg, sf⟩ : R22) ⟨mks mkInt 1 (m + 2) bk bk.length, mSeen n2 bs, mks mkInt 1 (n5 + 2) nk nk.length, mSeen n7 ns⟩ A2 A1 G2 G1 F1 F2 F3 F4) := hst.markNS (unhide HD) n7 hW hK
      clear hst HST8 hW hK s15 f15
      obtain ⟨s16, f16⟩ : w9.cell? ⟨g, k * 22 + 16, none⟩ = some (.int .i64 nold) ∧ w9.frozen? ⟨g, k * 22 + 16, none⟩ = false := (unhide HST9).cell hkr 16 (by omega) _ rfl
      obtain ⟨s17, f17⟩ : w9.cell? ⟨g, k * 22 + 17, none⟩ = some (.slice A1.r 0 A1.cr) ∧ w9.frozen? ⟨g, k * 22 + 17, none⟩ = false := (unhide HST9).cell hkr 17 (by omega) _ rfl
      go_wp2_with fail
      have hst : KSt w0 (w9.setCell ⟨g, k * 22 + 16, none⟩ (.int .i64 ((n9 : Int)))) g k RR (⟨⟨((m : Int)), ((m : Int) + 1), ((n1 : Int)), ((n4 : Int)), .slice A2.k bk.length A2.ck, .slice A2.p 0 A2.cp, .slice A2.o 0 A2.co, .slice A2.s bs.length A2.cs, .slice A2.r 0 A2.cr⟩, ⟨((n5 : Int)), ((n5 : Int) + 1), ((n6 : Int)), ((n9 : Int)), .slice A1.k nk.length A1.ck, .slice A1.p 0 A1.cp, .slice A1.o 0 A1.co, .slice A1.s ns.length A1.cs, .slice A1.r 0 A1.cr⟩, lg, sf⟩ : R22) ⟨mks mkInt 1 (m + 2) bk bk.length, mSeen n2 bs, mks mkInt 1 (n5 + 2) nk nk.length, mSeen n7 ns⟩ A2 A1 G2 G1 F1 F2 F3 F4 := ((unhide HST9).store (R' := (⟨⟨((m : Int)), ((m : Int) + 1), ((n1 : Int)), ((n4 : Int)), .slice A2.k bk.length A2.ck, .slice A2.p 0 A2.cp, .slice A2.o 0 A2.co, .slice A2.s bs.length A2.cs, .slice A2.r 0 A2.cr⟩, ⟨((n5 : Int)), ((n5 : Int) + 1), ((n6 : Int)), ((n9 : Int)), .slice A1.k nk.length A1.ck, .slice A1.p 0 A1.cp, .slice A1.o 0 A1.co, .slice A1.s ns.length A1.cs, .slice A1.r 0 A1.cr⟩, lg, sf⟩ : R22)) (unhide HD) hkr 16 (by omega) (.int .i64 ((n9 : Int))) rfl)
      refine (markReqR A1.r A1.cr n10 _ _ (by have q10 := unhide HQ10; omega) (by omega) (by omega)).mono ?_
      rintro e w10 ⟨rfl, hK⟩
      have HST10 : Hid (KSt w0 w10 g k RR (⟨⟨((m : Int)), ((m : Int) + 1), ((n1 : Int)), ((n4 : Int)), .slice A2.k bk.length A2.ck, .slice A2.p 0 A2.cp, .slice A2.o 0 A2.co, .slice A2.s bs.length A2.cs, .slice A2.r 0 A2.cr⟩, ⟨((n5 : Int)), ((n5 : Int) + 1), ((n6 : Int)), ((n9 : Int)), .slice A1.k nk.length A1.ck, .slice A1.p 0 A1.cp, .slice A1.o 0 A1.co, .slice A1.s ns.length A1.cs, .slice A1.r 0 A1.cr⟩, lg, sf⟩ : R22) ⟨mks mkInt 1 (m + 2) bk bk.length, mSeen n2 bs, mks mkInt 1 (n5 + 2) nk nk.length, mSeen n7 ns⟩ A2 A1 G2 G1 F1 F2 F3 F4) := hst.still hK
      clear hst HST9 hK s16 f16 s17 f17
      obtain ⟨s18, f18⟩ : w10.cell? ⟨g, k * 22 + 18, none⟩ = some (.string lg) ∧ w10.frozen? ⟨g, k * 22 + 18, none⟩ = false := (unhide HST10).cell hkr 18 (by omega) _ rfl
      obtain ⟨s19, f19⟩ : w10.cell? ⟨g, k * 22 + 19, none⟩ = some (.int .i64 sf) ∧ w10.frozen? ⟨g, k * 22 + 19, none⟩ = false := (unhide HST10).cell hkr 19 (by omega) _ rfl
      obtain ⟨s20, f20⟩ : w10.cell? ⟨g, k * 22 + 20, none⟩ = some (.slice none 0 0) ∧ w10.frozen? ⟨g, k * 22 + 20, none⟩ = false := (unhide HST10).cell hkr 20 (by omega) _ rfl
      obtain ⟨s21, f21⟩ : w10.cell? ⟨g, k * 22 + 21, none⟩ = some (.slice none 0 0) ∧ w10.frozen? ⟨g, k * 22 + 21, none⟩ = false := (unhide HST10).cell hkr 21 (by omega) _ rfl
      have hgw := (unhide HST10).row k (by simpa using hkr)
      have hgl : g < w10.heap.size := hgw.2.1
      clear hgw
      have HMT := hide (fun z w1 (hz : z = (n10 : Int)) => markTextI n10 z w1 hz (by omega) (by omega))
      go_wp2_with fail
      refine (unhide HMT _ _ rfl).mono ?_
      rintro e w11 ⟨rfl, hb⟩
      have HST11 := hide ((unhide HST10).still (KeepsL.of_below hb))
      clear hb HST10 HMT s18 f18 s19 f19 s20 f20 s21 f21 hgl
      obtain ⟨s18, f18⟩ : w11.cell? ⟨g, k * 22 + 18, none⟩ = some (.string lg) ∧ w11.frozen? ⟨g, k * 22 + 18, none⟩ = false := (unhide HST11).cell hkr 18 (by omega) _ rfl
      obtain ⟨s19, f19⟩ : w11.cell? ⟨g, k * 22 + 19, none⟩ = some (.int .i64 sf) ∧ w11.frozen? ⟨g, k * 22 + 19, none⟩ = false := (unhide HST11).cell hkr 19 (by omega) _ rfl
      obtain ⟨s20, f20⟩ : w11.cell? ⟨g, k * 22 + 20, none⟩ = some (.slice none 0 0) ∧ w11.frozen? ⟨g, k * 22 + 20, none⟩ = false := (unhide HST11).cell hkr 20 (by omega) _ rfl
      go_wp2_with fail
      have HST12 : Hid (KSt w0 ((w11.setCell ⟨g, k * 22 + 18, none⟩ (.string (mark n10))).setCell ⟨g, k * 22 + 19, none⟩ (.int .i64 ((n10 : Int) + 1))) g k RR (⟨⟨((m : Int)), ((m : Int) + 1), ((n1 : Int)), ((n4 : Int)), .slice A2.k bk.length A2.ck, .slice A2.p 0 A2.cp, .slice A2.o 0 A2.co, .slice A2.s bs.length A2.cs, .slice A2.r 0 A2.cr⟩, ⟨((n5 : Int)), ((n5 : Int) + 1), ((n6 : Int)), ((n9 : Int)), .slice A1.k nk.length A1.ck, .slice A1.p 0 A1.cp, .slice A1.o 0 A1.co, .slice A1.s ns.length A1.cs, .slice A1.r 0 A1.cr⟩, (mark n10), ((n10 : Int) + 1)⟩ : R22) ⟨mks mkInt 1 (m + 2) bk bk.length, mSeen n2 bs, mks mkInt 1 (n5 + 2) nk nk.length, mSeen n7 ns⟩ A2 A1 G2 G1 F1 F2 F3 F4) := (((unhide HST11).store (R' := (⟨⟨((m : Int)), ((m : Int) + 1), ((n1 : Int)), ((n4 : Int)), .slice A2.k bk.length A2.ck, .slice A2.p 0 A2.cp, .slice A2.o 0 A2.co, .slice A2.s bs.length A2.cs, .slice A2.r 0 A2.cr⟩, ⟨((n5 : Int)), ((n5 : Int) + 1), ((n6 : Int)), ((n9 : Int)), .slice A1.k nk.length A1.ck, .slice A1.p 0 A1.cp, .slice A1.o 0 A1.co, .slice A1.s ns.length A1.cs, .slice A1.r 0 A1.cr⟩, (mark n10), sf⟩ : R22)) (unhide HD) hkr 18 (by omega) (.string (mark n10)) rfl).store (R' := (⟨⟨((m : Int)), ((m : Int) + 1), ((n1 : Int)), ((n4 : Int)), .slice A2.k bk.length A2.ck, .slice A2.p 0 A2.cp, .slice A2.o 0 A2.co, .slice A2.s bs.length A2.cs, .slice A2.r 0 A2.cr⟩, ⟨((n5 : Int)), ((n5 : Int) + 1), ((n6 : Int)), ((n9 : Int)), .slice A1.k nk.length A1.ck, .slice A1.p 0 A1.cp, .slice A1.o 0 A1.co, .slice A1.s ns.length A1.cs, .slice A1.r 0 A1.cr⟩, (mark n10), ((n10 : Int) + 1)⟩ : R22)) (unhide HD) hkr 19 (by omega) (.int .i64 ((n10 : Int) + 1)) rfl)
      refine (markMsg0 _ _).mono ?_
      rintro e w13 ⟨rfl, rfl⟩
      clear HST11 s18 f18 s19 f19 s20 f20
      generalize ((w11.setCell ⟨g, k * 22 + 18, none⟩ (.string (mark n10))).setCell ⟨g, k * 22 + 19, none⟩ (.int .i64 ((n10 : Int) + 1))) = w12 at *
      obtain ⟨s21, f21⟩ : w12.cell? ⟨g, k * 22 + 21, none⟩ = some (.slice none 0 0) ∧ w12.frozen? ⟨g, k * 22 + 21, none⟩ = false := (unhide HST12).cell hkr 21 (by omega) _ rfl
      go_wp2_with fail
      refine (markAns0 _ _).mono ?_
      rintro e w14 ⟨rfl, rfl⟩
      clear s21 f21
      go_wp2_with fail
      go_roundw
      case rel =>
        obtain ⟨hr1, hr2, hr3⟩ := unhide HROW
        have hfin := unhide HRND w12 (mKe m ((⟨⟨bid, bpar, bk, bnext, [], [], bs, bold, []⟩, ⟨nid, npar, nk, nnext, [], [], ns, nold, []⟩, lg, sf⟩, (A2, G2), (A1, G1)) : KdI)) (by rw [hr1]; exact (unhide HST12).row) (by
          rw [hr3]
          exact ⟨⟨(unhide HST12).bk.W, GR.W.nil, GR.W.nil, (unhide HST12).bs.S, GR.W.nil⟩, ⟨(unhide HST12).nk.W, GR.W.nil, GR.W.nil, (unhide HST12).ns.S, GR.W.nil⟩⟩) (all_mKe (unhide HSMK)) ((unhide HST12).keep.mono (fun y hy => by
          rcases List.mem_cons.1 hy with hy | hy
          · rw [hy]; exact List.mem_cons_self ..
          · exact List.mem_cons_of_mem _ (unhide HSUB y hy)))
        rw [unhide HSET] at hfin
        have he1 := unhide HE1
        refine ⟨k + 1, n10 + 2, by omega, by go_num, by go_num, by rw [he1, hr2], hfin.1, (unhide HK).trans ?_⟩
        exact hfin.2.mono (fun x hx => by rw [mKk_fp (unhide HSMA) (by omega)] at hx; exact hx)
      case measure => simp [intOf]; omega
    · have hke : k = L.length := by omega
      subst hke
      have hnlt : decide ((L.length : Int) < (L.length : Int)) = false := by simp
      have h := unhide HM
      rw [List.take_length] at h
      have HME := hide h
      have hS := unhide HR
      rw [mKk_all] at hS
      have HS := hide hS
      clear hm h hS
      go_wp2_with fail
      go_ret
      exact ⟨ret_int (by rw [unhide HME]), unhide HS, unhide HK⟩
end Go.Proofs.YtbanjohfcnadfaaGreatDoor
