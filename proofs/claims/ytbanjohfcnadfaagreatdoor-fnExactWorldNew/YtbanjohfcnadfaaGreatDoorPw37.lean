/- Parts. -/
import Derived.Test.YtbanjohfcnadfaaGreatDoorPw35
import Derived.Test.YtbanjohfcnadfaaGreatDoorPw30
import Derived.Test.YtbanjohfcnadfaaGreatDoorPw33
import Derived.Test.YtbanjohfcnadfaaGreatDoorPw12
import Derived.Test.YtbanjohfcnadfaaGreatDoorPw11
import Derived.Test.YtbanjohfcnadfaaGreatDoorPw5
import Derived.Test.YtbanjohfcnadfaaGreatDoorPw13
import Derived.Test.YtbanjohfcnadfaaGreatDoorPw32
import Derived.Deep.MidRow
namespace Go.Proofs.YtbanjohfcnadfaaGreatDoor
open Go.RowKit
open Mth

set_option maxRecDepth 100000 in
set_option maxHeartbeats 8000000 in
theorem heldKeeperS (a : Option Addr) (g c n s : Nat) (L : List KdI) (w : World) (hn : n = L.length) (hs0 : 0 < s) (hs1 : s ≤ 10000) (hl : L.length ≤ 1000) (hsm : ∀ x ∈ L, SmallK x) (ha : KRw w a g (mKs s L)) :
    Calls Tryz.prog 33 #[.slice a n c, .int .i64 s] w fun e w' => e = .returned (.int .i64 (eKs s L : Nat)) ∧ Below w.heap.size w w' := by
  have HA := hide ha
  have HSM := hide hsm
  clear ha hsm
  subst hn
  go_enter Tryz.func33, Tryz.ntmps33
  go_wp2_with fail
  go_loopw [1, 5] (fun kk i wr => ∃ k m : Nat, k ≤ L.length ∧ i = .int .i64 k ∧ kk = .int .i64 m ∧ m = eKs s (L.take k) ∧ Below w.heap.size w wr) (fun _ i _ => L.length - (intOf i).toNat)
  case atStart => exact ⟨0, s, Nat.zero_le _, rfl, rfl, rfl, Below.refl _ _⟩
  case round =>
    obtain ⟨k, m, hk, rfl, rfl, hm, hbel⟩ := hrel
    have HBL := hide hbel
    have HM := hide hm
    clear hbel
    by_cases hlt : k < L.length
    · have hbd := eKs_le s (L.take k) (fun x hx => unhide HSM x (List.mem_of_mem_take hx))
      rw [← hm, List.length_take, Nat.min_eq_left (by omega)] at hbd
      obtain ⟨hb1, hb2⟩ := hbd
      have hm0 : 0 < m := by omega
      have hm1 : (m : Int) ≤ 9223372 := by omega
      have hk' : k < (mKs s L).length := by rw [mKs_length]; exact hlt
      have hat := mKs_at s L k hlt
      rw [← hm] at hat
      have HE1 : Hid (eKs s (L.take (k + 1)) = eKe m L[k]) := by rw [List.take_succ_eq_append_getElem hlt, eKs_snoc, ← hm]; rfl
      have hsmk := unhide HSM L[k] (List.getElem_mem hlt)
      have hR := (unhide HA).below (unhide HBL)
      have hnk := hR.each (mKs s L)[k] (List.getElem_mem hk')
      have hrow := hR.row
      have hkr : k < (rows22 (mKs s L)).length := by rw [rows22_length]; exact hk'
      have hrk : (rows22 (mKs s L))[k] = r22 (mKs s L)[k] := by simp [rows22]
      rw [hat] at hnk hrk
      clear hm hR hat
      generalize L[k] = x at *
      obtain ⟨⟨⟨bid, bpar, bk, bnext, bpu, bout, bs, bold, breqs⟩, ⟨nid, npar, nk, nnext, npu, nout, ns, nold, nreqs⟩, lg, sf⟩, ⟨A2, G2⟩, ⟨A1, G1⟩⟩ := x
      obtain ⟨⟨z1, z2, z3, z4, z5, z6⟩, ⟨y1, y2, y3, y4, y5, y6⟩⟩ := hsmk
      dsimp only at z1 z2 z3 z4 z5 z6 y1 y2 y3 y4 y5 y6
      subst z1 z2 z3 y1 y2 y3
      obtain ⟨n1, q1⟩ : ∃ r, r = m + 2 + bk.length := ⟨_, rfl⟩
      obtain ⟨n2, q2⟩ : ∃ r, r = n1 + 1 := ⟨_, rfl⟩
      obtain ⟨n4, q4⟩ : ∃ r, r = eSeen n2 bs := ⟨_, rfl⟩
      obtain ⟨n5, q5⟩ : ∃ r, r = n4 + 1 := ⟨_, rfl⟩
      obtain ⟨n6, q6⟩ : ∃ r, r = n5 + 2 + nk.length := ⟨_, rfl⟩
      obtain ⟨n7, q7⟩ : ∃ r, r = n6 + 1 := ⟨_, rfl⟩
      obtain ⟨n9, q9⟩ : ∃ r, r = eSeen n7 ns := ⟨_, rfl⟩
      obtain ⟨n10, q10⟩ : ∃ r, r = n9 + 1 := ⟨_, rfl⟩
      have l4 := eSeen_le n2 0 bs (fun x hx => by rw [z4 x hx]; exact Nat.le_refl _)
      have l9 := eSeen_le n7 0 ns (fun x hx => by rw [y4 x hx]; exact Nat.le_refl _)
      rw [← q4] at l4
      rw [← q9] at l9
      have b1 : (n1 : Int) ≤ 9223372 := by omega
      have b4 : (n4 : Int) ≤ 9223372 := by omega
      have b5 : (n5 : Int) ≤ 9223372 := by omega
      have b6 : (n6 : Int) ≤ 9223372 := by omega
      have b9 : (n9 : Int) ≤ 9223372 := by omega
      have b10 : (n10 : Int) ≤ 9223372 := by omega
      have p1 : 0 < n1 := by omega
      have p4 : 0 < n4 := by omega
      have p5 : 0 < n5 := by omega
      have p6 : 0 < n6 := by omega
      have p9 : 0 < n9 := by omega
      have p10 : 0 < n10 := by omega
      have HROW := hide (mKe_row m n1 n2 n4 n5 n6 n7 n9 n10 bid bpar bnext bold nid npar nnext nold sf bk nk bs ns lg A2 A1 G2 G1 q1 q2 q4 q5 q6 q7 q9 q10)
      have HQ1 := hide q1
      have HQ2 := hide q2
      have HQ4 := hide q4
      have HQ5 := hide q5
      have HQ6 := hide q6
      have HQ7 := hide q7
      have HQ9 := hide q9
      have HQ10 := hide q10
      have HZ4 := hide z4
      have HY4 := hide y4
      clear l4 l9 q1 q2 q4 q5 q6 q7 q9 q10 z4 y4
      have hrw := unhide HROW
      rw [hrw.1] at hrk
      rw [hrw.2.2] at hnk
      obtain ⟨hnb, hnn⟩ := hnk
      have HBK := hide hnb.k
      have HBS := hide hnb.s
      have HNK := hide hnn.k
      have HNS := hide hnn.s
      dsimp only at HBK HBS HNK HNS
      obtain ⟨e0, hg0, hc0⟩ := hrow k hkr
      rw [hrk] at hc0
      subst e0
      have HC : Hid (∀ W, Below wr.heap.size wr W → ∀ j v, j < 22 → (enc22 (⟨⟨((m : Int)), ((m : Int) + 1), ((n1 : Int)), ((n4 : Int)), .slice A2.k bk.length A2.ck, .slice A2.p 0 A2.cp, .slice A2.o 0 A2.co, .slice A2.s bs.length A2.cs, .slice A2.r 0 A2.cr⟩, ⟨((n5 : Int)), ((n5 : Int) + 1), ((n6 : Int)), ((n9 : Int)), .slice A1.k nk.length A1.ck, .slice A1.p 0 A1.cp, .slice A1.o 0 A1.co, .slice A1.s ns.length A1.cs, .slice A1.r 0 A1.cr⟩, (mark n10), ((n10 : Int) + 1)⟩ : R22))[j]? = some v → W.cell? ⟨g, k * 22 + j, none⟩ = some v) := fun W hW j v hj hv => (hW.cell (p := ⟨g, k * 22 + j, none⟩) hg0).trans ((hc0 j hj).1.trans hv)
      clear hrw hnb hnn hc0 hrk hrow
      have HB0 := hide (Below.refl wr.heap.size wr)
      obtain ⟨w0, hw0⟩ : ∃ x, x = wr := ⟨_, rfl⟩
      subst hw0
      have s0 : w0.cell? ⟨g, k * 22, none⟩ = some (.int .i64 ((m : Int))) := unhide HC _ (unhide HB0) 0 _ (by omega) rfl
      have s1 : w0.cell? ⟨g, k * 22 + 1, none⟩ = some (.int .i64 ((m : Int) + 1)) := unhide HC _ (unhide HB0) 1 _ (by omega) rfl
      have s2 : w0.cell? ⟨g, k * 22 + 2, none⟩ = some (.slice A2.k bk.length A2.ck) := unhide HC _ (unhide HB0) 2 _ (by omega) rfl
      go_wp2_with fail
      refine (heldIntR A2.k G2.k A2.ck bk.length (m + 2) _ n1 bk _ (by omega) (by have q1 := unhide HQ1; omega) rfl (by omega) (by omega) (by omega) (GR.W.below (unhide HBK) (unhide HB0))).mono ?_
      rintro e w1 ⟨rfl, hb⟩
      have HB1 := hide ((unhide HB0).trans (hb.mono (unhide HB0).size))
      clear hb s0 s1 s2
      have s3 : w1.cell? ⟨g, k * 22 + 3, none⟩ = some (.int .i64 ((n1 : Int))) := unhide HC _ (unhide HB1) 3 _ (by omega) rfl
      have s4 : w1.cell? ⟨g, k * 22 + 4, none⟩ = some (.slice A2.p 0 A2.cp) := unhide HC _ (unhide HB1) 4 _ (by omega) rfl
      go_wp2_with fail
      refine (heldPurseR A2.p A2.cp n2 _ _ (by have q2 := unhide HQ2; omega) (by have q2 := unhide HQ2; omega) (by have q2 := unhide HQ2; omega)).mono ?_
      rintro e w2 ⟨rfl, hb⟩
      have HB2 := hide ((unhide HB1).trans (hb.mono (unhide HB1).size))
      clear hb s3 s4
      have s5 : w2.cell? ⟨g, k * 22 + 5, none⟩ = some (.slice A2.o 0 A2.co) := unhide HC _ (unhide HB2) 5 _ (by omega) rfl
      go_wp2_with fail
      refine (heldSentR A2.o A2.co n2 _ _ rfl (by have q2 := unhide HQ2; omega) (by have q2 := unhide HQ2; omega)).mono ?_
      rintro e w3 ⟨rfl, hb⟩
      have HB3 := hide ((unhide HB2).trans (hb.mono (unhide HB2).size))
      clear hb s5
      have s6 : w3.cell? ⟨g, k * 22 + 6, none⟩ = some (.slice A2.s bs.length A2.cs) := unhide HC _ (unhide HB3) 6 _ (by omega) rfl
      go_wp2_with fail
      refine (heldSeenR A2.s G2.s A2.cs bs.length n2 _ n4 G2.i bs _ rfl (unhide HQ4) rfl (by have q2 := unhide HQ2; omega) (by have q2 := unhide HQ2; omega) (by omega) (fun x hx => by rw [unhide HZ4 x hx]; exact Nat.zero_le _) ((unhide HBS).off (F := []) (KeepsL.of_below (unhide HB3)) (fun _ _ => by simp))).mono ?_
      rintro e w4 ⟨rfl, hb⟩
      have HB4 := hide ((unhide HB3).trans (hb.mono (unhide HB3).size))
      clear hb s6
      have s7 : w4.cell? ⟨g, k * 22 + 7, none⟩ = some (.int .i64 ((n4 : Int))) := unhide HC _ (unhide HB4) 7 _ (by omega) rfl
      have s8 : w4.cell? ⟨g, k * 22 + 8, none⟩ = some (.slice A2.r 0 A2.cr) := unhide HC _ (unhide HB4) 8 _ (by omega) rfl
      go_wp2_with fail
      refine (heldReqR A2.r A2.cr n5 _ _ (by have q5 := unhide HQ5; omega) (by omega) (by omega)).mono ?_
      rintro e w5 ⟨rfl, hb⟩
      have HB5 := hide ((unhide HB4).trans (hb.mono (unhide HB4).size))
      clear hb s7 s8
      have s9 : w5.cell? ⟨g, k * 22 + 9, none⟩ = some (.int .i64 ((n5 : Int))) := unhide HC _ (unhide HB5) 9 _ (by omega) rfl
      have s10 : w5.cell? ⟨g, k * 22 + 10, none⟩ = some (.int .i64 ((n5 : Int) + 1)) := unhide HC _ (unhide HB5) 10 _ (by omega) rfl
      have s11 : w5.cell? ⟨g, k * 22 + 11, none⟩ = some (.slice A1.k nk.length A1.ck) := unhide HC _ (unhide HB5) 11 _ (by omega) rfl
      go_wp2_with fail
      refine (heldIntR A1.k G1.k A1.ck nk.length (n5 + 2) _ n6 nk _ (by omega) (by have q6 := unhide HQ6; omega) rfl (by omega) (by omega) (by omega) (GR.W.below (unhide HNK) (unhide HB5))).mono ?_
      rintro e w6 ⟨rfl, hb⟩
      have HB6 := hide ((unhide HB5).trans (hb.mono (unhide HB5).size))
      clear hb s9 s10 s11
      have s12 : w6.cell? ⟨g, k * 22 + 12, none⟩ = some (.int .i64 ((n6 : Int))) := unhide HC _ (unhide HB6) 12 _ (by omega) rfl
      have s13 : w6.cell? ⟨g, k * 22 + 13, none⟩ = some (.slice A1.p 0 A1.cp) := unhide HC _ (unhide HB6) 13 _ (by omega) rfl
      go_wp2_with fail
      refine (heldPurseR A1.p A1.cp n7 _ _ (by have q7 := unhide HQ7; omega) (by have q7 := unhide HQ7; omega) (by have q7 := unhide HQ7; omega)).mono ?_
      rintro e w7 ⟨rfl, hb⟩
      have HB7 := hide ((unhide HB6).trans (hb.mono (unhide HB6).size))
      clear hb s12 s13
      have s14 : w7.cell? ⟨g, k * 22 + 14, none⟩ = some (.slice A1.o 0 A1.co) := unhide HC _ (unhide HB7) 14 _ (by omega) rfl
      go_wp2_with fail
      refine (heldSentR A1.o A1.co n7 _ _ rfl (by have q7 := unhide HQ7; omega) (by have q7 := unhide HQ7; omega)).mono ?_
      rintro e w8 ⟨rfl, hb⟩
      have HB8 := hide ((unhide HB7).trans (hb.mono (unhide HB7).size))
      clear hb s14
      have s15 : w8.cell? ⟨g, k * 22 + 15, none⟩ = some (.slice A1.s ns.length A1.cs) := unhide HC _ (unhide HB8) 15 _ (by omega) rfl
      go_wp2_with fail
      refine (heldSeenR A1.s G1.s A1.cs ns.length n7 _ n9 G1.i ns _ rfl (unhide HQ9) rfl (by have q7 := unhide HQ7; omega) (by have q7 := unhide HQ7; omega) (by omega) (fun x hx => by rw [unhide HY4 x hx]; exact Nat.zero_le _) ((unhide HNS).off (F := []) (KeepsL.of_below (unhide HB8)) (fun _ _ => by simp))).mono ?_
      rintro e w9 ⟨rfl, hb⟩
      have HB9 := hide ((unhide HB8).trans (hb.mono (unhide HB8).size))
      clear hb s15
      have s16 : w9.cell? ⟨g, k * 22 + 16, none⟩ = some (.int .i64 ((n9 : Int))) := unhide HC _ (unhide HB9) 16 _ (by omega) rfl
      have s17 : w9.cell? ⟨g, k * 22 + 17, none⟩ = some (.slice A1.r 0 A1.cr) := unhide HC _ (unhide HB9) 17 _ (by omega) rfl
      go_wp2_with fail
      refine (heldReqR A1.r A1.cr n10 _ _ (by have q10 := unhide HQ10; omega) (by omega) (by omega)).mono ?_
      rintro e w10 ⟨rfl, hb⟩
      have HB10 := hide ((unhide HB9).trans (hb.mono (unhide HB9).size))
      clear hb s16 s17
      have s18 : w10.cell? ⟨g, k * 22 + 18, none⟩ = some (.string (mark n10)) := unhide HC _ (unhide HB10) 18 _ (by omega) rfl
      have s19 : w10.cell? ⟨g, k * 22 + 19, none⟩ = some (.int .i64 ((n10 : Int) + 1)) := unhide HC _ (unhide HB10) 19 _ (by omega) rfl
      have s20 : w10.cell? ⟨g, k * 22 + 20, none⟩ = some (.slice none 0 0) := unhide HC _ (unhide HB10) 20 _ (by omega) rfl
      have s21 : w10.cell? ⟨g, k * 22 + 21, none⟩ = some (.slice none 0 0) := unhide HC _ (unhide HB10) 21 _ (by omega) rfl
      have hgl : g < w10.heap.size := Nat.lt_of_lt_of_le hg0 (unhide HB10).size
      have HMT := hide (fun z w1 (hz : z = (n10 : Int)) => markTextI n10 z w1 hz (by omega) (by omega))
      go_wp2_with fail
      go_region_with (go_at_call 55; refine (unhide HMT _ _ rfl).mono ?_; rintro e w11 ⟨rfl, hb1⟩; have hc18 := (bcell hb1).1 g (k * 22 + 18) (by simpa using hgl); have hc19 := (bcell hb1).1 g (k * 22 + 19) (by simpa using hgl); have hc20 := (bcell hb1).1 g (k * 22 + 20) (by simpa using hgl); have hc21 := (bcell hb1).1 g (k * 22 + 21) (by simpa using hgl); have HB11 := hide ((unhide HB10).trans (((Below.refl _ _).drew.trans hb1).mono (unhide HB10).size)); clear hb1)
      all_goals
        go_wp2_with fail
        refine (heldMsg0 _ _).mono ?_
        rintro e w12 ⟨rfl, rfl⟩
        go_wp2_with fail
        refine (heldAns0 _ _).mono ?_
        rintro e w13 ⟨rfl, rfl⟩
        go_wp2_with fail
        go_roundw
        case rel => exact ⟨k + 1, n10 + 2, by omega, by go_num, by go_num, by rw [unhide HE1, (unhide HROW).2.1], (unhide HBL).trans ((unhide HB11).mono (unhide HBL).size)⟩
        case measure => simp [intOf]; omega
    · have hke : k = L.length := by omega
      subst hke
      have hnlt : decide ((L.length : Int) < (L.length : Int)) = false := by simp
      have h := unhide HM
      rw [List.take_length] at h
      have HME := hide h
      clear hm h
      go_wp2_with fail
      go_ret
      exact ⟨ret_int (by rw [unhide HME]), unhide HBL⟩

set_option maxRecDepth 100000 in
theorem markTreeG (a : Option Addr) (g c s : Nat) (l : List Int) (w : World) (hs0 : 0 < s) (hs1 : s ≤ 4000000000000) (hl : l.length ≤ 1048600) (ha : GR.W encNum 1 w a g l) :
    Calls Tryz.prog 10 #[trv a l c, .int .i64 s] w fun e w' => e = .returned (.int .i64 (s + (l.length : Int))) ∧ GR.W encNum 1 w' a g (mks mkInt 1 s l l.length) ∧ KeepsL (fp g l) w w' := by
  have hb := below_one' w (.cells #[.slice a l.length c] 26)
  have HC := hide (markIntG a g c s l _ hs0 hs1 hl (ha.below hb))
  have HB := hide hb
  clear ha hb
  go_enter Tryz.func10, Tryz.ntmps10
  go_wp2_with (go_at_call 27; refine (unhide HC).mono ?_; rintro e w1 ⟨rfl, hW1, hk1⟩; have HW1 := hide hW1; have HK1 := hide hk1; clear hW1 hk1)
  go_ret
  exact ⟨rfl, unhide HW1, (KeepsL.of_below (unhide HB)).trans (unhide HK1)⟩
set_option maxRecDepth 100000 in
theorem heldTreeG (a : Option Addr) (g c s : Nat) (l : List Int) (w : World) (hs0 : 0 < s) (hs1 : s ≤ 4000000000000) (hl : l.length ≤ 1048600) (ha : GR.W encNum 1 w a g (mks mkInt 1 s l l.length)) :
    Calls Tryz.prog 32 #[trv a l c, .int .i64 s] w fun e w' => e = .returned (.int .i64 (s + (l.length : Int))) ∧ Below w.heap.size w w' := by
  have hb := below_one' w (.cells #[.slice a l.length c] 26)
  have HC := hide (heldIntG a g c l.length s l _ rfl hs0 hs1 hl (ha.below hb))
  have HB := hide hb
  clear ha hb
  have hp : decide (((s : Nat) : Int) + (l.length : Int) < 0) = false := decide_eq_false (by omega)
  go_enter Tryz.func32, Tryz.ntmps32
  go_wp2_with (go_at_call 58; refine (unhide HC).mono ?_; rintro e w1 ⟨rfl, hb1⟩)
  go_ret
  exact ⟨rfl, (unhide HB).trans (hb1.mono (unhide HB).size)⟩

/-- Blocks of S alone were written into; no cell is gone. -/
structure Scr (S : Nat → Prop) (w w' : World) : Prop where
  os : w'.os = w.os
  tape : w'.tape = w.tape
  output : w'.output = w.output
  size : w.heap.size ≤ w'.heap.size
  block : ∀ k, k < w.heap.size → ¬ S k → w'.heap[k]? = w.heap[k]?
  cell : ∀ g o, (w.cell? ⟨g, o, none⟩).isSome = true → (w'.cell? ⟨g, o, none⟩).isSome = true
  froz : ∀ g o, g < w.heap.size → w'.frozen? ⟨g, o, none⟩ = w.frozen? ⟨g, o, none⟩
theorem Scr.refl (S : Nat → Prop) (w : World) : Scr S w w := ⟨rfl, rfl, rfl, Nat.le_refl _, fun _ _ _ => rfl, fun _ _ h => h, fun _ _ _ => rfl⟩
theorem Scr.trans {S : Nat → Prop} {a b c : World} (h : Scr S a b) (k : Scr S b c) : Scr S a c :=
  ⟨k.os.trans h.os, k.tape.trans h.tape, k.output.trans h.output, Nat.le_trans h.size k.size, fun i hi hS => (k.block i (Nat.lt_of_lt_of_le hi h.size) hS).trans (h.block i hi hS), fun g o hc => k.cell g o (h.cell g o hc), fun g o hg => (k.froz g o (Nat.lt_of_lt_of_le hg h.size)).trans (h.froz g o hg)⟩
theorem Scr.mono {S S' : Nat → Prop} {a b : World} (h : Scr S a b) (hs : ∀ x, S x → S' x) : Scr S' a b := ⟨h.os, h.tape, h.output, h.size, fun i hi hS => h.block i hi (fun hx => hS (hs i hx)), h.cell, h.froz⟩
theorem Scr.of_below {S : Nat → Prop} {w w' : World} (h : Below w.heap.size w w') : Scr S w w' :=
  ⟨h.os, h.tape, h.output, h.size, fun k hk _ => h.block k hk, fun g o hc => by
    obtain ⟨v, hv⟩ := Option.isSome_iff_exists.1 hc
    have hg := World.block_lt_of_cell? w _ hv
    rw [h.cell (p := ⟨g, o, none⟩) hg]
    exact hc, fun g o hg => h.frozen (p := ⟨g, o, none⟩) hg⟩
theorem Scr.below {S : Nat → Prop} {a b c : World} (h : Scr S a b) (hb : Below b.heap.size b c) : Scr S a c := h.trans (Scr.of_below hb)
theorem isSome_set (w : World) (p : Addr) (v : Value) (a : Addr) (h : (w.cell? a).isSome = true) : ((w.setCell p v).cell? a).isSome = true := by
  obtain ⟨u, hu⟩ := Option.isSome_iff_exists.1 h
  by_cases e : p = a
  · subst e; rw [World.cell?_setCell_same _ _ _ hu]; rfl
  · rw [World.cell?_setCell_other _ _ _ _ e, hu]; rfl
theorem Scr.set {S : Nat → Prop} {a b : World} (h : Scr S a b) {g : Nat} (hS : S g) (o : Nat) (v : Value) : Scr S a (b.setCell ⟨g, o, none⟩ v) :=
  h.trans ⟨rfl, rfl, rfl, by simp [World.setCell], fun k _ hk => Below.heap_setCell _ _ _ _ (fun e => hk (by simpa [e] using hS)), fun g' o' hc => isSome_set b _ v _ hc, fun g' o' _ => by rw [World.frozen?_setCell]⟩
theorem Scr.under {S : Nat → Prop} {a b : World} {B : Nat} (h : Scr S a b) (hS : ∀ x, S x → B ≤ x) (hB : B ≤ a.heap.size) : Below B a b := ⟨h.os, h.tape, h.output, h.size, fun k hk => h.block k (by omega) (fun hx => by have := hS k hx; omega)⟩
theorem Scr.obj {S : Nat → Prop} {w w' : World} {g : Nat} {o : Obj} (h : Scr S w w') (ho : w.heap[g]? = some o) (hg : ¬ S g) : w'.heap[g]? = some o := by
  rw [h.block g (obj_lt ho) hg]; exact ho
/-- A row whose cells may be written, in a block of S. -/
def Wr (S : Nat → Prop) (w : World) (a : Option Addr) (n sz : Nat) : Prop := ∀ i, i < n → ∃ g, a = some ⟨g, 0, none⟩ ∧ S g ∧ g < w.heap.size ∧ ∀ j, j < sz → (w.cell? ⟨g, i * sz + j, none⟩).isSome = true ∧ w.frozen? ⟨g, i * sz + j, none⟩ = false
theorem Wr.mono {S S' : Nat → Prop} {w : World} {a : Option Addr} {n sz : Nat} (h : Wr S w a n sz) (hs : ∀ x, S x → S' x) : Wr S' w a n sz := fun i hi => by
  obtain ⟨g, e, hS, hg, hc⟩ := h i hi
  exact ⟨g, e, hs g hS, hg, hc⟩
theorem Wr.of_W {α : Type} {enc : α → List Value} {sz : Nat} {S : Nat → Prop} {w : World} {a : Option Addr} {g : Nat} {l : List α} (hs : ∀ x, (enc x).length = sz) (h : GR.W enc sz w a g l) (hS : 0 < l.length → S g) : Wr S w a l.length sz := fun i hi => by
  obtain ⟨e, hg, hc⟩ := h i hi
  refine ⟨g, e, hS (by omega), hg, fun j hj => ⟨?_, (hc j hj).2⟩⟩
  rw [(hc j hj).1, List.getElem?_eq_getElem (by rw [hs]; exact hj)]
  rfl
theorem Wr.of_blk {α : Type} {enc : α → List Value} {sz : Nat} {t : TypeId} {S : Nat → Prop} {w : World} {g : Nat} {l : List α} (hs : ∀ x, (enc x).length = sz) (h : GR.Blk enc t w g l) (hS : S g) : Wr S w (some ⟨g, 0, none⟩) l.length sz := Wr.of_W hs (GR.W.of_blk hs h) (fun _ => hS)


/-- A row of what was seen in block g, whose lists lie in blocks of S, of which g is none. -/
structure SeenSc (S : Nat → Prop) (w : World) (a : Option Addr) (g : Nat) (l : List Sn) : Prop where
  row : ∀ i (_ : i < l.length), a = some ⟨g, 0, none⟩ ∧ g < w.heap.size ∧ ((w.cell? ⟨g, i * 3, none⟩).isSome = true ∧ (w.cell? ⟨g, i * 3 + 1, none⟩).isSome = true) ∧ w.frozen? ⟨g, i * 3, none⟩ = false ∧ w.frozen? ⟨g, i * 3 + 1, none⟩ = false
  ids : ∀ i (hi : i < l.length), ∃ b c, w.cell? ⟨g, i * 3 + 2, none⟩ = some (.slice b l[i].ids.length c) ∧ Wr S w b l[i].ids.length 1
theorem SeenSc.of {S : Nat → Prop} {w : World} {a : Option Addr} {g : Nat} {I : Nat → Nat} {l : List Sn} (h : SeenW w a g I l) (hS : ∀ x ∈ fpI I l, S x) : SeenSc S w a g l :=
  ⟨fun i hi => by
    obtain ⟨b, c, e, hg, ⟨c0, c1, c2⟩, ⟨f0, f1⟩, hw⟩ := h.three i hi
    exact ⟨e, hg, ⟨by rw [c0]; rfl, by rw [c1]; rfl⟩, f0, f1⟩, fun i hi => by
    obtain ⟨b, c, e, hg, ⟨c0, c1, c2⟩, ⟨f0, f1⟩, hw⟩ := h.three i hi
    exact ⟨b, c, c2, Wr.of_W encNum_length hw (fun hp => hS _ (fpI_mem hi _ (fp_mem hp)))⟩⟩

/-- A node whose lists may be written into. -/
structure NdS (S : Nat → Prop) (w : World) (A : Ads) (g : Nat) (n : Nd) : Prop where
  k : Wr S w A.k n.kids.length 1
  p : Wr S w A.p n.pu.length 4
  o : Wr S w A.o n.out.length 4
  s : SeenSc S w A.s g n.seen
  r : Wr S w A.r n.reqs.length 4
theorem all_ne_s {G : Blks} {n : Nd} (hn : (G.all n).Nodup) (hs : 0 < n.seen.length) : (0 < n.kids.length → G.k ≠ G.s) ∧ (0 < n.pu.length → G.p ≠ G.s) ∧ (0 < n.out.length → G.o ≠ G.s) ∧ (0 < n.reqs.length → G.r ≠ G.s) ∧ ∀ x ∈ fpI G.i n.seen, x ≠ G.s := by
  unfold Blks.all at hn
  obtain ⟨_, hn1, d1⟩ := List.nodup_append.1 hn
  obtain ⟨_, hn2, d2⟩ := List.nodup_append.1 hn1
  obtain ⟨_, hn3, d3⟩ := List.nodup_append.1 hn2
  obtain ⟨_, hn4, d4⟩ := List.nodup_append.1 hn3
  have ms : G.s ∈ fp G.s n.seen := fp_mem hs
  refine ⟨fun h => d1 _ (fp_mem h) _ (by simp [ms]), fun h => d2 _ (fp_mem h) _ (by simp [ms]), fun h => d3 _ (fp_mem h) _ (by simp [ms]), fun h e => d4 _ ms _ (by simp [fp_mem h]) e.symm, fun x hx e => d4 _ ms _ (by simp [hx]) e.symm⟩
/-- A keeper whose lists may be written into, all of them in blocks from lo on up to hi. -/
structure KpS (lo hi : Nat) (w : World) (A : KA) (k : Kp) (S : Nat → Prop) (g1 g2 : Nat) : Prop where
  rng : ∀ b, S b → lo ≤ b ∧ b < hi
  s1 : 0 < k.base.seen.length → lo ≤ g1 ∧ g1 < hi ∧ ¬ S g1
  s2 : 0 < k.node.seen.length → lo ≤ g2 ∧ g2 < hi ∧ ¬ S g2
  ne : 0 < k.base.seen.length → 0 < k.node.seen.length → g1 ≠ g2
  b : NdS S w A.b g1 k.base
  n : NdS S w A.n g2 k.node
  wt : Wr S w A.wa k.wait.length 7
  sk : Wr S w A.aa k.asked.length 12
theorem Wr.keeps {S : Nat → Prop} {F : List Nat} {w w' : World} {a : Option Addr} {n sz : Nat} (h : Wr S w a n sz) (hk : KeepsL F w w') (hF : ∀ x, S x → x ∉ F) : Wr S w' a n sz := fun i hi => by
  obtain ⟨g, e, hS, hg, hc⟩ := h i hi
  have hb := hk.block g hg (hF g hS)
  exact ⟨g, e, hS, Nat.lt_of_lt_of_le hg hk.size, fun j hj => ⟨by rw [World.cell?_of_block (w := w) (a := ⟨g, i * sz + j, none⟩) hb]; exact (hc j hj).1, by rw [World.frozen?_of_block (w := w) (a := ⟨g, i * sz + j, none⟩) hb]; exact (hc j hj).2⟩⟩
theorem SeenSc.keeps {S : Nat → Prop} {F : List Nat} {w w' : World} {a : Option Addr} {g : Nat} {l : List Sn} (h : SeenSc S w a g l) (hk : KeepsL F w w') (hF : ∀ x, S x → x ∉ F) (hg : 0 < l.length → g ∉ F) : SeenSc S w' a g l :=
  ⟨fun i hi => by
    obtain ⟨e, hl, ⟨c0, c1⟩, f0, f1⟩ := h.row i hi
    have hb := hk.block g hl (hg (by omega))
    exact ⟨e, Nat.lt_of_lt_of_le hl hk.size, ⟨by rw [World.cell?_of_block (w := w) (a := ⟨g, i * 3, none⟩) hb]; exact c0, by rw [World.cell?_of_block (w := w) (a := ⟨g, i * 3 + 1, none⟩) hb]; exact c1⟩, by rw [World.frozen?_of_block (w := w) (a := ⟨g, i * 3, none⟩) hb]; exact f0, by rw [World.frozen?_of_block (w := w) (a := ⟨g, i * 3 + 1, none⟩) hb]; exact f1⟩, fun i hi => by
    obtain ⟨b, c, hc, hw⟩ := h.ids i hi
    have hl := (h.row i hi).2.1
    exact ⟨b, c, by rw [World.cell?_of_block (w := w) (a := ⟨g, i * 3 + 2, none⟩) (hk.block g hl (hg (by omega)))]; exact hc, hw.keeps hk hF⟩⟩
theorem KpS.keeps {F : List Nat} {lo hi : Nat} {w w' : World} {A : KA} {k : Kp} {S : Nat → Prop} {g1 g2 : Nat} (h : KpS lo hi w A k S g1 g2) (hk : KeepsL F w w') (hF : ∀ x ∈ F, x < lo) : KpS lo hi w' A k S g1 g2 := by
  have hS : ∀ x, S x → x ∉ F := fun x hx hm => by have := h.rng x hx; have := hF x hm; omega
  have q1 : 0 < k.base.seen.length → g1 ∉ F := fun e hm => by have := h.s1 e; have := hF _ hm; omega
  have q2 : 0 < k.node.seen.length → g2 ∉ F := fun e hm => by have := h.s2 e; have := hF _ hm; omega
  exact ⟨h.rng, h.s1, h.s2, h.ne, ⟨h.b.k.keeps hk hS, h.b.p.keeps hk hS, h.b.o.keeps hk hS, h.b.s.keeps hk hS q1, h.b.r.keeps hk hS⟩, ⟨h.n.k.keeps hk hS, h.n.p.keeps hk hS, h.n.o.keeps hk hS, h.n.s.keeps hk hS q2, h.n.r.keeps hk hS⟩, h.wt.keeps hk hS, h.sk.keeps hk hS⟩
theorem NdS.of {S : Nat → Prop} {w : World} {A : Ads} {G : Blks} {n : Nd} (h : NodeW w A G n) (hS : ∀ x ∈ G.all n, (0 < n.seen.length → x ≠ G.s) → S x) (hn : (G.all n).Nodup) : NdS S w A G.s n := by
  have hm : ∀ x, x ∈ fp G.k n.kids ∨ x ∈ fp G.p n.pu ∨ x ∈ fp G.o n.out ∨ x ∈ fp G.s n.seen ∨ x ∈ fpI G.i n.seen ∨ x ∈ fp G.r n.reqs → x ∈ G.all n := fun x hx => Blks.mem_all.2 hx
  refine ⟨Wr.of_W encNum_length h.k (fun e => hS _ (hm _ (.inl (fp_mem e))) (fun es => (all_ne_s hn es).1 e)), Wr.of_W encP_length h.p (fun e => hS _ (hm _ (.inr (.inl (fp_mem e)))) (fun es => (all_ne_s hn es).2.1 e)), Wr.of_W encSnt_length h.o (fun e => hS _ (hm _ (.inr (.inr (.inl (fp_mem e))))) (fun es => (all_ne_s hn es).2.2.1 e)), SeenSc.of h.s (fun x hx => hS x (hm _ (.inr (.inr (.inr (.inr (.inl hx)))))) (fun es => (all_ne_s hn es).2.2.2.2 x hx)), Wr.of_W encRq_length h.r (fun e => hS _ (hm _ (.inr (.inr (.inr (.inr (.inr (fp_mem e))))))) (fun es => (all_ne_s hn es).2.2.2.1 e))⟩
theorem KpS.of {lo hi x y : Nat} {w : World} {A1 A2 : Ads} {G1 G2 : Blks} {k : Kp} (h1 : NodeW w A1 G1 k.base) (n1 : (G1.all k.base).Nodup) (r1 : ∀ b ∈ G1.all k.base, lo ≤ b ∧ b < hi) (h2 : NodeW w A2 G2 k.node) (n2 : (G2.all k.node).Nodup) (r2 : ∀ b ∈ G2.all k.node, lo ≤ b ∧ b < hi) (d : ∀ a ∈ G1.all k.base, ∀ b ∈ G2.all k.node, a < b)
    (h3 : GR.Blk encMg 82 w x k.wait) (hx : lo ≤ x ∧ x < hi) (x1 : ∀ b ∈ G1.all k.base, b < x) (x2 : ∀ b ∈ G2.all k.node, b < x) (h4 : GR.Blk encAn 86 w y k.asked) (hy : lo ≤ y ∧ y < hi) (y1 : ∀ b ∈ G1.all k.base, b < y) (y2 : ∀ b ∈ G2.all k.node, b < y) :
    KpS lo hi w ⟨A1, A2, some ⟨x, 0, none⟩, k.wait.length, some ⟨y, 0, none⟩, k.asked.length⟩ k (fun b => (lo ≤ b ∧ b < hi) ∧ (0 < k.base.seen.length → b ≠ G1.s) ∧ (0 < k.node.seen.length → b ≠ G2.s)) G1.s G2.s := by
  have m1 : 0 < k.base.seen.length → G1.s ∈ G1.all k.base := fun e => Blks.mem_all.2 (.inr (.inr (.inr (.inl (fp_mem e)))))
  have m2 : 0 < k.node.seen.length → G2.s ∈ G2.all k.node := fun e => Blks.mem_all.2 (.inr (.inr (.inr (.inl (fp_mem e)))))
  refine ⟨fun b hb => hb.1, fun e => ⟨(r1 _ (m1 e)).1, (r1 _ (m1 e)).2, fun hb => hb.2.1 e rfl⟩, fun e => ⟨(r2 _ (m2 e)).1, (r2 _ (m2 e)).2, fun hb => hb.2.2 e rfl⟩, fun e1 e2 h => by have := d _ (m1 e1) _ (m2 e2); omega, NdS.of h1 (fun b hb hne => ⟨r1 b hb, hne, fun e h => by have := d b hb _ (m2 e); omega⟩) n1, NdS.of h2 (fun b hb hne => ⟨r2 b hb, fun e h => by have := d _ (m1 e) b hb; omega, hne⟩) n2, Wr.of_blk encMg_length h3 ⟨hx, fun e h => by have := x1 _ (m1 e); omega, fun e h => by have := x2 _ (m2 e); omega⟩, Wr.of_blk encAn_length h4 ⟨hy, fun e h => by have := y1 _ (m1 e); omega, fun e h => by have := y2 _ (m2 e); omega⟩⟩

/-- In memory that lies at lo or above: whatever is written below it. -/
def KpIn (lo : Nat) (w : World) (A : KA) (k : Kp) : Prop := ∀ w' F, KeepsL F w w' → (∀ x ∈ F, x < lo) → KpAt w' A k
theorem KpIn.at {lo : Nat} {w : World} {A : KA} {k : Kp} (h : KpIn lo w A k) : KpAt w A k := h w [] (KeepsL.refl _ _) (fun _ hx => by simp at hx)
theorem KpIn.keeps {lo : Nat} {w w' : World} {A : KA} {k : Kp} {F : List Nat} (h : KpIn lo w A k) (hk : KeepsL F w w') (hF : ∀ x ∈ F, x < lo) : KpIn lo w' A k := fun w'' F' hk' hF' =>
  h w'' (F ++ F') ((hk.mono (fun _ hx => List.mem_append_left _ hx)).trans (hk'.mono (fun _ hx => List.mem_append_right _ hx))) (fun x hx => (List.mem_append.1 hx).elim (hF x) (hF' x))
theorem KpIn.below {lo : Nat} {w w' : World} {A : KA} {k : Kp} (h : KpIn lo w A k) (hb : Below w.heap.size w w') : KpIn lo w' A k := h.keeps (F := []) (KeepsL.of_below hb) (fun _ hx => by simp at hx)
theorem KpIn.lower {lo lo' : Nat} {w : World} {A : KA} {k : Kp} (h : KpIn lo w A k) (hl : lo' ≤ lo) : KpIn lo' w A k := fun w' F hk hF => h w' F hk (fun x hx => Nat.lt_of_lt_of_le (hF x hx) hl)
theorem KpIn.of {lo x y : Nat} {w : World} {A1 A2 : Ads} {G1 G2 : Blks} {k : Kp} (h1 : NodeW w A1 G1 k.base) (r1 : ∀ x ∈ G1.all k.base, lo ≤ x) (h2 : NodeW w A2 G2 k.node) (r2 : ∀ x ∈ G2.all k.node, lo ≤ x) (h3 : GR.Blk encMg 82 w x k.wait) (hx : lo ≤ x) (h4 : GR.Blk encAn 86 w y k.asked) (hy : lo ≤ y) : KpIn lo w ⟨A1, A2, some ⟨x, 0, none⟩, k.wait.length, some ⟨y, 0, none⟩, k.asked.length⟩ k := fun w' F hk hF =>
  ⟨(h1.keeps hk (fun z hz hm => by have := r1 z hz; have := hF z hm; omega)).at, (h2.keeps hk (fun z hz hm => by have := r2 z hz; have := hF z hm; omega)).at, GR.Blk.at (show GR.Blk encMg 82 w' x k.wait from hk.obj h3 (fun hm => by have := hF x hm; omega)) encMg_length, GR.Blk.at (show GR.Blk encAn 86 w' y k.asked from hk.obj h4 (fun hm => by have := hF y hm; omega)) encAn_length⟩
end Go.Proofs.YtbanjohfcnadfaaGreatDoor
