/-
  The law's walk: FnSums returns true at every code.
-/
import Derived.Test.YthjpjamihlopeaaDoorSumsConv
namespace Go.Proofs.YthjpjamihlopeaaDoor
open Go.RowKit
open Go.Lib (decDigits itoa)

theorem Tens.below {w w' : World} (h : Tens w) (hb : Below w.heap.size w w') : Tens w' := Lib.tabBelow_of_tabIs h w' hb

set_option maxRecDepth 100000 in
set_option maxHeartbeats 4000000 in
theorem fnSums_go (a : Option Addr) (len cap : Nat) (w : World) (hcode : CodeOk w a len) (hH : Handle w) (hT : Tens w) (hM : MaxLenIs w) :
    Calls Tryd.prog 4 #[.slice a len cap] w fun e w' => e = .returned (.bool true) ∧ Below w.heap.size w w' := by
  have HC := hide hcode
  have HH := hide hH
  have HT := hide hT
  have HM := hide hM
  have hl := hcode.1
  clear hcode hH hT hM
  go_enter Tryd.func4, Tryd.ntmps4
  go_wp2_with fail
  refine (big_no a len cap _ hl).mono ?_
  rintro e w0 ⟨rfl, rfl⟩
  go_wp2_with fail
  refine (drawCheckSum a len cap _ (unhide HC)).mono ?_
  rintro e w1 ⟨t, rfl, ht, hb1⟩
  go_wp2_with fail
  refine (drawReadDec a len cap _ ((unhide HC).below hb1)).mono ?_
  rintro e w2 ⟨s, rfl, hs, hb2'⟩
  have hb2 := hb1.trans (hb2'.mono hb1.size)
  clear hb2' hb1
  have hsm : s.size ≤ maxLen := by unfold maxLen; omega
  have htm : t.size ≤ maxLen := by unfold maxLen; omega
  obtain ⟨n, hn⟩ : ∃ n, readDec s.data.toList = n := ⟨_, rfl⟩
  have hdb := hide (dec_back s)
  rw [hn] at hdb
  have HN := hide hn
  clear hn
  go_wp2_with fail
  refine (implReadDec s _ hsm ((unhide HH).below hb2)).mono ?_
  rintro e w3 ⟨he, hb3'⟩
  rw [unhide HN] at he
  subst he
  have hb3 := hb2.trans (hb3'.mono hb2.size)
  clear hb3' hb2
  go_wp2_with fail
  refine (drawDecText a len cap _ ((unhide HC).below hb3)).mono ?_
  rintro e w4 ⟨x, rfl, hx0, hx1, hb4'⟩
  have hb4 := hb3.trans (hb4'.mono hb3.size)
  clear hb4' hb3
  go_wp2_with fail
  refine (drawWords a len cap _ ((unhide HC).below hb4)).mono ?_
  rintro e w5 ⟨u, rfl, hu, hb5'⟩
  have hb5 := hb4.trans (hb5'.mono hb4.size)
  clear hb5' hb4
  go_wp2_with fail
  refine (drawKeyOk a len cap _ ((unhide HC).below hb5)).mono ?_
  rintro e w6 ⟨k, rfl, hk, hb6'⟩
  have hb6 := hb5.trans (hb6'.mono hb5.size)
  clear hb6' hb5
  have hkm : k.size ≤ maxLen := by unfold maxLen; omega
  obtain ⟨S, hS⟩ : ∃ S : Int, (65536 * ((Mth.sums t.data.toList).2 : Int) + ((Mth.sums t.data.toList).1 : Int)) = S := ⟨_, rfl⟩
  have HS := hide hS
  clear hS
  go_upto_region 9 with fail
  go_cut [67] (fun r wx => r = .bool false ∧ Below w.heap.size w wx)
  case first =>
    go_wp2_with fail
    refine (implCheckSum t _ htm).mono ?_
    rintro e w7 ⟨he, rfl⟩
    rw [unhide HS] at he
    subst he
    go_wp2_with fail
    refine (specCheckSum t _ htm).mono ?_
    rintro e w7 ⟨he, rfl⟩
    rw [unhide HS] at he
    subst he
    go_wp2_with fail
    refine (specReadDec s _ hsm).mono ?_
    rintro e w7 ⟨he, rfl⟩
    rw [unhide HN] at he
    subst he
    go_wp2_with fail
    refine (implDec x _ hx0 hx1 ((unhide HT).below hb6)).mono ?_
    rintro e w7 ⟨rfl, hb7'⟩
    have hb7 := hb6.trans (hb7'.mono hb6.size)
    clear hb7' hb6
    go_wp2_with fail
    refine (specDec x _ hx0 hx1).mono ?_
    rintro e w8 ⟨rfl, rfl⟩
    have hwp := words_pos u
    have hwm := words_max u (by omega)
    go_wp2_with fail
    refine (implWords u _ (by omega) ((unhide HM).below hb7)).mono ?_
    rintro e w8 ⟨rfl, hB8, hb8'⟩
    have HB8 := hide hB8
    have HSP := hide (fun w1 => specWords u w1 (by omega))
    clear hB8
    generalize words u = xs at *
    have hb8 := hb7.trans (hb8'.mono hb7.size)
    have hsz8 := hb8'.size
    clear hb8'
    go_wp2_with fail
    refine (unhide HSP _).mono ?_
    rintro e w9 ⟨v, rfl, hown, hb9'⟩
    obtain ⟨g, gcap, rfl, hg1, hg2, hgc⟩ := own_cells hown hwp
    have HGC := hide hgc
    have HB9 := hide ((unhide HB8).below hb9' (unhide HB8).lt)
    have hb9 := hb8.trans (hb9'.mono hb8.size)
    clear hown hgc hb9' hb8
    go_wp2_with fail
    refine (sameTexts _ g _ gcap xs w9 (by omega) (fun i hi => (unhide HB9).cell i hi) (unhide HGC)).mono ?_
    rintro e wa ⟨rfl, q, rfl⟩
    have hba := hb9.drewN (q := q)
    generalize w9.drewN q = wa at *
    clear hb9 HB9 HGC HB8
    obtain ⟨kb, hkb⟩ : ∃ kb, Mth.keyOk k.data.toList = kb := ⟨_, rfl⟩
    have HKB := hide hkb
    clear hkb
    go_wp2_with fail
    refine (implKeyOk k _).mono ?_
    rintro e wb ⟨he, rfl⟩
    rw [unhide HKB] at he
    subst he
    go_wp2_with fail
    refine (specKeyOk k _ hkm).mono ?_
    rintro e wb ⟨he, rfl⟩
    rw [unhide HKB] at he
    subst he
    by_cases hn0 : 0 ≤ n
    · obtain ⟨hback, hn1⟩ := unhide hdb hn0
      have HBK := hide hback
      clear hback
      go_wp2_with fail
      refine (implDec n _ (by omega) (by omega) ((unhide HT).below hba)).mono ?_
      rintro e wc ⟨he, hbc'⟩
      rw [unhide HBK] at he
      subst he
      have hbc := hba.trans (hbc'.mono hba.size)
      go_wp2_with fail
      go_meet
      case rel => exact ⟨rfl, hbc⟩
    · go_wp2_with fail
      go_meet
      case rel => exact ⟨rfl, hba⟩
  case rest =>
    obtain ⟨rfl, hbd⟩ := hcut
    by_cases ht0 : t.size = 0
    · have hte := eq_empty t ht0
      subst hte
      have hS1 : S = 1 := by rw [← unhide HS]; rfl
      subst hS1
      go_wp2_with fail
      refine (implCheckSum _ _ htm).mono ?_
      rintro e w7 ⟨he, rfl⟩
      rw [unhide HS] at he
      subst he
      go_wp2
      go_ret
      exact ⟨rfl, hbd⟩
    · have hne := not_empty t (by omega)
      obtain ⟨bcap, w7, hconv, hcells, hfree, hbel⟩ := conv_bytes t wc
      have hb7 := hbd.trans (hbel.mono hbd.size)
      have HCE := hide hcells
      have HFR := hide hfree
      have hz7 : wc.heap.size ≤ w7.heap.size := hbel.size
      clear hcells hfree hbel
      go_wp2_with fail
      refine (lawsAt a len cap 2 _ ((unhide HC).below hb7) (by omega)).mono ?_
      rintro e w8 ⟨⟨y, rfl, hy0, hy1⟩, rfl⟩
      have hm1 : y.tmod t.size = y % t.size := Int.tmod_eq_emod_of_nonneg hy0
      have hm2 : 0 ≤ y % t.size ∧ y % t.size < t.size := ⟨Int.emod_nonneg _ (by omega), Int.emod_lt_of_pos _ (by omega)⟩
      go_wp2_with fail
      obtain ⟨j, hj⟩ := Int.eq_ofNat_of_zero_le hm2.1
      rw [hj] at hm2 ⊢
      have hjt : j < t.size := by omega
      have cj := unhide HCE j hjt
      have fj := unhide HFR j hjt
      clear hm1 hj
      have hb := t[j].toNat_lt
      obtain ⟨B, hB⟩ : ∃ B : Int, ((t[j].toNat : Nat) : Int) = B := ⟨_, rfl⟩
      rw [hB] at cj
      have hB0 : 0 ≤ B ∧ B ≤ 255 := by omega
      have HBB := hide hB
      clear hb hB
      obtain ⟨z, hz0, hz1, hat⟩ := lawsAtX a len cap 3 _ ((unhide HC).below hb7) (by omega)
      have HAT := hide hat
      clear hat
      obtain ⟨c, hc, hcne⟩ := xor_byte t[j] (1 + z % 255) (by omega) (by omega)
      rw [unhide HBB] at hc
      have hch := sum_change t.data.toList j c (by simpa using hjt) (fun e => hcne e)
      obtain ⟨S2, hS2⟩ : ∃ S2 : Int, (65536 * ((Mth.sums (t.data.toList.set j c)).2 : Int) + ((Mth.sums (t.data.toList.set j c)).1 : Int)) = S2 := ⟨_, rfl⟩
      have hSS : S2 ≠ S := by
        rw [← hS2, ← unhide HS]
        intro e
        apply hch
        omega
      have HS2 := hide hS2
      have hbk := conv_changed t w7.drew wc.heap.size j bcap c hjt (fun j hj => unhide HCE j hj)
      have hbk' : (convert 22 9 (.slice (some ⟨wc.heap.size, 0, none⟩) t.size bcap)).run Tryd.prog (w7.setCell ⟨wc.heap.size, j, none⟩ (.int .u8 (c.toNat : Int))).drew = .ok (.string ⟨(t.data.toList.set j c).toArray⟩) (w7.setCell ⟨wc.heap.size, j, none⟩ (.int .u8 (c.toNat : Int))).drew := hbk
      have HBK := hide hbk'
      have hsz : (⟨(t.data.toList.set j c).toArray⟩ : ByteArray).size ≤ maxLen := by
        show (t.data.toList.set j c).toArray.size ≤ maxLen
        simp
        exact htm
      clear hbk hbk' hch hcne hS2
      have hzz : IntKind.u8.wrap (IntKind.i64.wrap (1 + z.tmod 255)) = 1 + z % 255 := by
        rw [Int.tmod_eq_emod_of_nonneg hz0, IntWalk.i64_in _ ⟨by omega, by omega⟩, IntWalk.u8_in _ ⟨by omega, by omega⟩]
      have HZZ := hide hzz
      have HC' := hide hc
      clear hzz hc
      go_region_with (go_at_call 34; refine (unhide HAT _ ?_).mono ?_; rfl; rintro e w8 ⟨rfl, rfl⟩)
      all_goals
        rw [unhide HZZ, unhide HC']
        have hbk := unhide HBK
        have hbb : Below w.heap.size w (w7.setCell ⟨wc.heap.size, j, none⟩ (.int .u8 (c.toNat : Int))).drew := (hb7.setCell (p := ⟨wc.heap.size, j, none⟩) hbd.size _).drew
        have HW := hide hbb
        clear hbb
        go_wp2_with fail
        refine (implCheckSum _ _ hsz).mono ?_
        rintro e w8 ⟨he, rfl⟩
        have he2 := he.trans (congrArg (fun x => Ending.returned (.int .u32 x)) (unhide HS2))
        clear he
        subst he2
        go_wp2_with fail
        refine (implCheckSum t _ htm).mono ?_
        rintro e w8 ⟨he, rfl⟩
        rw [unhide HS] at he
        subst he
        go_wp2
        go_ret
        exact ⟨by simp [hSS], unhide HW⟩
end Go.Proofs.YthjpjamihlopeaaDoor
