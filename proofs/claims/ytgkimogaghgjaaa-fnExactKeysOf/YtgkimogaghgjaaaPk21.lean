/- Parts. -/
import Derived.Test.YtgkimogaghgjaaaPk7
import Derived.Test.YtgkimogaghgjaaaPk20
namespace Go.Proofs.Ytgkimogaghgjaaa
open Go.RowKit
open Mth

/-- The keys of all purses, in the order of nodes. -/
def keysA (ks : List Kp) : List ByteArray := ks.flatMap (fun k => k.node.pu.map (fun p => p.k))
theorem keysA_append (a b : List Kp) : keysA (a ++ b) = keysA a ++ keysA b := by simp [keysA]
theorem keysA_one (k : Kp) : keysA [k] = k.node.pu.map (fun p => p.k) := by simp [keysA]
theorem keysA_size {ks : List Kp} {z : Nat} (h : ∀ k ∈ ks, KpSz k z) : ∀ x ∈ keysA ks, x.size ≤ z := fun x hx => by
  simp only [keysA, List.mem_flatMap, List.mem_map] at hx
  obtain ⟨k, hk, p, hp, rfl⟩ := hx
  exact (h k hk).n.pk p hp
/-- How many keys a heap has. -/
def hpLen (w : World) (hb : Nat) : Nat := match w.cell? ⟨hb, 0, none⟩ with
  | some (.slice _ n _) => n
  | _ => 0
theorem HpW.len {w : World} {hb B n c : Nat} {a : Option Addr} {l : List ByteArray} (h : HpW w hb B (.slice a n c) l) : hpLen w hb = n := by
  unfold hpLen; rw [h.head]
theorem HpW.under {w w' : World} {hb B g cap B2 : Nat} {l : List ByteArray} (h : HpW w hb B (.slice (some ⟨g, 0, none⟩) l.length cap) l) (hbel : Below B2 w w') (h1 : hb < B2) (h2 : g < B2) : HpW w' hb B (.slice (some ⟨g, 0, none⟩) l.length cap) l := by
  refine ⟨by rw [hbel.block hb h1]; exact h.h, ⟨h.o.1, ?_⟩, h.b⟩
  rcases h.o.2 with ⟨h', _⟩ | ⟨g', cap', cur, h', hb', hgg, hr⟩
  · simp at h'
  · simp only [Value.slice.injEq, Option.some.injEq, Addr.mk.injEq, and_true, true_and] at h'
    obtain ⟨rfl, rfl⟩ := h'
    exact .inr ⟨g, cap, cur, rfl, hb', by rw [hbel.block g h2]; exact hgg, hr⟩
abbrev zeroKeeper : Array Value := (encK zeroK).toArray
theorem there_alloc22 (w : World) : (w.alloc (.cells zeroKeeper 63)).there w.heap.size 0 22 := there_blk (cs := encK zeroK) (heap_alloc_new w _)
set_option maxRecDepth 100000 in
set_option maxHeartbeats 4000000 in
theorem implKeysOf (X : Wd) (A : WA) (w : World) (hz : WdSz X 1048576) (ha : WdAt w A X) :
    Calls Try.prog 11 #[wdv X A] w fun e w' => ∃ a cap K, e = .returned (.slice a K.length cap) ∧ w'.ownsRow w.heap.size 9 1 (.slice a K.length cap) K.length (GR.flat encStr K) ∧ K.Pairwise sl ∧ (∀ x, x ∈ K ↔ x ∈ keysA X.ks) ∧ K.length ≤ 1099511627776 ∧ Below w.heap.size w w' := by
  have hkl := hz.k
  have HKS := hide hz.kk
  have HKA := hide ha.ks
  have HKE := hide ha.ke
  have HLN := hide ha.len
  have HB0 := hide (heap_alloc_new w (.cells (wdc X A) 38))
  have HL0 := hide (below_one w (.cells (wdc X A) 38))
  clear ha hz
  obtain ⟨up, ks, net, td, bk⟩ := X
  obtain ⟨u, uc, k, kc, L, n, nc, t, tc, b, bc⟩ := A
  dsimp only at HKS HKA HKE HLN hkl ⊢
  obtain ⟨hA0, hA1, hA2⟩ := allocs2 w (.cells #[.slice u up.length uc, .slice k ks.length kc, .slice n net.length nc, .slice t td.length tc, .slice b bk.length bc] 38) (.cells #[.slice none 0 0] 74)
  have hA3 : ((w.alloc (.cells #[.slice u up.length uc, .slice k ks.length kc, .slice n net.length nc, .slice t td.length tc, .slice b bk.length bc] 38)).alloc (.cells #[.slice none 0 0] 74)).heap.size = w.heap.size + 2 := by simp
  clear HB0 HL0
  go_enter Try.func11, Try.ntmps11
  go_upto_region 2 with fail
  refine wp_at (fun W0 hW => ?_)
  rw [← hW] at hA0 hA1 hA2 hA3
  have HP : Hid (HpW W0 (w.heap.size + 1) (w.heap.size + 2) (.slice none 0 0) []) := ⟨hA1, World.ownsRow_nil _ _ _ _, by omega⟩
  have HB := hide hA2
  obtain ⟨c0, c1, c2, c3, c4⟩ := at5 hA0
  clear hW hA0 hA1 hA2
  generalize hhb : w.heap.size + 1 = hb at *
  go_wp2_with fail
  clear c0 c1 c2 c3 c4
  go_loopw [13] (fun ix wr => ∃ (i : Nat) (v : Value) (l : List ByteArray), ix = .int .i64 i ∧ i ≤ ks.length ∧ HpW wr hb (w.heap.size + 2) v l ∧ IsHeap l ∧ (∀ x, x ∈ l ↔ x ∈ keysA (ks.take i)) ∧ l.length ≤ i * 1048576 ∧ w.heap.size + 2 ≤ wr.heap.size ∧ Below w.heap.size w wr) (fun ix _ => ks.length - (intOf ix).toNat)
  case atStart => exact ⟨0, _, [], rfl, Nat.zero_le _, unhide HP, isHeap_nil, fun x => by simp [keysA], by simp, by omega, unhide HB⟩
  case round =>
    obtain ⟨i, v, l, rfl, hik, hpw, hhp, hmem, hlen, hsz, hbel⟩ := hrel
    have HPW := hide hpw
    have HHP := hide hhp
    have HMEM := hide hmem
    have HBL := hide hbel
    clear hpw hhp hmem hbel HP HB
    by_cases hlt : i < ks.length
    · have hltL : i < L.length := by rw [unhide HLN]; exact hlt
      obtain ⟨g, off, rfl, hgw, hrg⟩ := ((unhide HKA).below (unhide HBL)).range i hltL
      have hat := (unhide HKA).each L[i] (List.getElem_mem hltL)
      have hke : L[i].1 = ks[i] := by
        have h := congrArg (fun z => z[i]?) (unhide HKE)
        simpa [hlt, hltL] using h
      have hkz := unhide HKS ks[i] (List.getElem_mem hlt)
      rw [← hke] at hkz
      have HT := hide (show keysA (ks.take (i + 1)) = keysA (ks.take i) ++ L[i].1.node.pu.map (fun p => p.k) by rw [List.take_succ_eq_append_getElem hlt, keysA_append, keysA_one, hke])
      clear hke
      generalize L[i] = pu at *
      have h13 : (encK pu)[13]? = some (.slice pu.2.n.p pu.1.node.pu.length pu.2.n.cp) := rfl
      have HRG := hide hrg
      have HI : Hid ((Try.prog.info? 63).map (·.size) = some (encK pu).length) := infoKI
      have HI2 : Hid ((Try.prog.info? 63).map (·.size) = some (encK pu).toArray.size) := infoKI
      have HONE : Hid ((encK pu).toArray.all (·.oneCell') = true) := all_oneCell_toArray (encK_one pu)
      have HTH : Hid ((wr.alloc (.cells zeroKeeper 63)).there wr.heap.size 0 (encK pu).toArray.size) := there_alloc22 wr
      have HVL := hide (show (encK pu).length = 22 from rfl)
      have H13 := hide h13
      clear hrg h13
      generalize encK pu = V at *
      go_upto_region 5 with (first | refine wpList_load_mid rfl 63 _ rfl g (off + i * 22) rfl V _ (unhide HRG) Try.underlying63 rfl (unhide HI) ?_ | refine wpList_store_mid rfl 63 _ _ rfl wr.heap.size 0 V.toArray rfl rfl (unhide HTH) (unhide HI2) (unhide HONE) ?_)
      refine wp_at (fun W1 hW => ?_)
      have h13 : W1.cell? ⟨wr.heap.size, 13, none⟩ = some (.slice pu.2.n.p pu.1.node.pu.length pu.2.n.cp) := by
        rw [hW]
        have h := World.rangeAt_setCells_same (wr.alloc (.cells zeroKeeper 63)) wr.heap.size 0 V (unhide HTH) 13 _ (unhide H13)
        rw [Nat.zero_add] at h
        exact h
      have hb1 : Below wr.heap.size wr W1 := by
        rw [hW, setCells_W]
        exact (below_one wr (.cells zeroKeeper 63)).trans ((setW_keeps V (wr.alloc (.cells zeroKeeper 63)) 0).below (B := wr.heap.size) (fun x hx => by simp at hx; omega) (by simp))
      have HPW1 := hide ((unhide HPW).below hb1)
      have HBL1 := hide ((unhide HBL).trans (hb1.mono (unhide HBL).size))
      have HPA := hide hat.kn.p
      have hpz := hkz.n.p
      have HPK := hide hkz.n.pk
      have hsz1 : w.heap.size + 2 ≤ W1.heap.size := Nat.le_trans hsz hb1.size
      clear hW hb1 hat hkz HRG HI HI2 HONE HTH HVL H13 HPW HBL
      generalize pu.2.n.p = pa at *
      generalize pu.2.n.cp = pc at *
      generalize pu.1.node.pu = P at *
      go_wp2_with fail
      clear h13
      go_loopw [21] (fun jx wq => ∃ (j : Nat) (v : Value) (l : List ByteArray), jx = .int .i64 j ∧ j ≤ P.length ∧ HpW wq hb (w.heap.size + 2) v l ∧ IsHeap l ∧ (∀ x, x ∈ l ↔ x ∈ keysA (ks.take i) ∨ x ∈ (P.take j).map (fun p => p.k)) ∧ l.length ≤ i * 1048576 + j ∧ w.heap.size + 2 ≤ wq.heap.size ∧ Below w.heap.size w wq) (fun jx _ => P.length - (intOf jx).toNat)
      case atStart => exact ⟨0, v, l, rfl, Nat.zero_le _, unhide HPW1, unhide HHP, fun x => by rw [unhide HMEM x]; simp, by rw [Nat.add_zero]; exact hlen, hsz1, unhide HBL1⟩
      case round =>
        clear hlen hsz hsz1 HPW1 HHP HMEM HBL1
        obtain ⟨j, v, l, rfl, hjk, hpw, hhp, hmem, hlen, hsz, hbel⟩ := hrel
        have HPW := hide hpw
        have HMEM := hide hmem
        have HBL := hide hbel
        by_cases hjt : j < P.length
        · have hll : l.length + 1 ≤ 4398046511104 := by have := Nat.mul_le_mul_right 1048576 hik; omega
          obtain ⟨pg, po, rfl, hpg, s0, s1, s2, s3⟩ := PursesAt.four (GR.At.below (unhide HPA) hbel) j hjt
          have HTK := hide (List.take_succ_eq_append_getElem hjt)
          generalize P[j] = pq at *
          have HPS := hide (fun w1 (h : Below wr.heap.size wr w1) => hpPush hb (w.heap.size + 2) v l pq.k w1 (hpw.below h) hll hhp (Nat.le_trans hsz h.size))
          obtain ⟨pk, pm, pf, ps⟩ := pq
          dsimp only at s0 s1 s2 s3 HPS
          clear hpw hhp hmem hbel
          go_wp2_with fail
          refine (unhide HPS _ (below_one wr _)).mono ?_
          rintro e w5 ⟨rfl, g5, cap5, l5, hl5, hm5, hh5, hw5, hb5⟩
          have HBL5 := hide ((unhide HBL).trans (((below_one wr (.cells #[.string pk, .int .i64 pm, .int .i64 pf, .int .i64 ps] 52)).mono (unhide HBL).size).trans (hb5.mono (by omega))))
          have hsz5 : w.heap.size + 2 ≤ w5.heap.size := by have := hb5.size; have : (wr.alloc (.cells #[.string pk, .int .i64 pm, .int .i64 pf, .int .i64 ps] 52)).heap.size = wr.heap.size + 1 := by simp
                                                           omega
          have HW5 := hide hw5
          have HH5 := hide hh5
          have HM5 := hide hm5
          have HL5 := hide (show l5.length ≤ i * 1048576 + (j + 1) by omega)
          clear hb5 hw5 hh5 hm5 hl5 s0 s1 s2 s3 HPS
          go_wp2_with fail
          go_roundw
          case rel =>
            refine ⟨j + 1, _, l5, by go_num, by omega, unhide HW5, unhide HH5, fun x => ?_, unhide HL5, hsz5, unhide HBL5⟩
            rw [unhide HM5 x, unhide HMEM x, unhide HTK]
            simp [or_assoc]
          case measure => simp [intOf]; omega
        · have hje : j = P.length := by omega
          subst hje
          have hnlt : decide ((P.length : Int) < (P.length : Int)) = false := by simp
          have HM2 := hide (show ∀ x, x ∈ l ↔ x ∈ keysA (ks.take (i + 1)) from fun x => by rw [unhide HMEM x, unhide HT, List.take_length, List.mem_append])
          have HHP := hide hhp
          have HL2 := hide (show l.length ≤ (i + 1) * 1048576 by rw [Nat.add_mul]; omega)
          clear hpw hhp hmem hbel HMEM
          go_wp2_with fail
          go_roundw
          case rel => exact ⟨i + 1, v, l, by go_num, by omega, unhide HPW, unhide HHP, unhide HM2, unhide HL2, hsz, unhide HBL⟩
          case measure => simp [intOf]; omega
    · have hie : i = ks.length := by omega
      subst hie
      have hnlt : decide ((ks.length : Int) < (ks.length : Int)) = false := by simp
      have HM0 := hide (show Half (keysA ks) [] l from ⟨List.Pairwise.nil, fun x => by rw [unhide HMEM x, List.take_length]; simp, fun y hy => by simp at hy⟩)
      have hN : l.length ≤ 1099511627776 := by have := Nat.mul_le_mul_right 1048576 hkl; omega
      obtain ⟨va, vc, rfl, _⟩ := GR.own_at encStr_length (unhide HPW).o
      have HKZ := hide (keysA_size (unhide HKS))
      obtain ⟨i0, hi, hz0, hz1, hz2⟩ := info_parts infoStrS
      clear HMEM hlen hik hnlt
      have hnlt : decide ((ks.length : Int) < (ks.length : Int)) = false := by simp
      obtain ⟨B2, hB2⟩ : ∃ B2, B2 = wr.heap.size := ⟨_, rfl⟩
      have HGB : Hid (∀ x, (Value.slice va l.length vc).ownBlock = some x → x < B2) := fun x hx => by rw [hB2]; exact ((unhide HPW).o.lt x hx).2
      have hbB2 : hb < B2 := by omega
      have hwB2 : w.heap.size ≤ B2 := by omega
      have hle2 : B2 ≤ wr.heap.size := by omega
      clear hB2
      go_wp2_with fail
      go_loopw [8] (fun kv wq => ∃ (ka : Option Addr) (kc2 : Nat) (K : List ByteArray) (la : Option Addr) (lc : Nat) (l' : List ByteArray), kv = .slice ka K.length kc2 ∧ wq.ownsRow B2 9 1 (.slice ka K.length kc2) K.length (GR.flat encStr K) ∧ HpW wq hb (w.heap.size + 2) (.slice la l'.length lc) l' ∧ (∀ x, (Value.slice la l'.length lc).ownBlock = some x → x < B2) ∧ IsHeap l' ∧ Half (keysA ks) K l' ∧ K.length + l'.length ≤ 1099511627776 ∧ B2 ≤ wq.heap.size ∧ Below w.heap.size w wq) (fun _ wq => hpLen wq hb)
      case atStart => exact ⟨none, 0, [], va, vc, l, rfl, World.ownsRow_nil _ _ _ _, unhide HPW, unhide HGB, unhide HHP, unhide HM0, by simpa using hN, hle2, unhide HBL⟩
      case round =>
        clear HPW HGB HHP HM0 HBL hN hle2 hsz
        obtain ⟨ka, kc2, K, la, lc, l', rfl, hown, hpw, hgb, hhp, hhf, hn, hwz, hbel⟩ := hrel
        have HOWN := hide hown
        have HPW2 := hide hpw
        have HHF := hide hhf
        have HBL2 := hide hbel
        have HLEN := hide hpw.len
        have hd0 := hpw.head
        by_cases hl0 : 0 < l'.length
        · obtain ⟨g, rfl⟩ : ∃ g, la = some ⟨g, 0, none⟩ := by
            rcases hpw.o.2 with ⟨_, hn0⟩ | ⟨g, cap, cur, hv, _⟩
            · omega
            · simp only [Value.slice.injEq] at hv
              exact ⟨g, hv.1⟩
          have hdl : decide ((0 : Int) < (l'.length : Int)) = true := decide_eq_true (by omega)
          have HPOP := hide (hpPop hb g lc (w.heap.size + 2) l' wr hpw hl0 (by omega) hhp)
          have HHP2 := hide hhp
          have hgl : g < B2 := hgb g rfl
          have hgw : w.heap.size ≤ g := by have := (hpw.o.lt g rfl).1; omega
          have hks : (hg l' 0).size ≤ 1048576 := unhide HKZ _ ((hhf.mem _).2 (.inr (mem_hg.2 ⟨0, hl0, rfl⟩)))
          have HTAKE := hide (fun l2 (h1 : ∀ x, x ∈ l' ↔ x = hg l' 0 ∨ x ∈ l2) h2 => hhf.take (l' := l2) hhp h1 h2)
          have HPASS := hide (fun l2 (h1 : ∀ x, x ∈ l' ↔ x = hg l' 0 ∨ x ∈ l2) h2 => hhf.pass (l' := l2) h1 h2)
          generalize hg l' 0 = key at *
          clear hpw hgb hhp hhf hown hbel
          go_wp2_with fail
          refine (unhide HPOP).mono ?_
          rintro e w5 ⟨rfl, l5, hl5, hm5, hh5, hw5, hk5⟩
          have HW5 := hide hw5
          have HH5 := hide hh5
          have HM5 := hide hm5
          have HBL5 := hide ((unhide HBL2).trans (hk5.below (B := w.heap.size) (fun x hx => by simp at hx; omega) (unhide HBL2).size))
          have HOWN5 : Hid (w5.ownsRow B2 9 1 (.slice ka K.length kc2) K.length (GR.flat encStr K)) := by
            refine ⟨(unhide HOWN).1, ?_⟩
            rcases (unhide HOWN).2 with h | ⟨g', cap', cur, hv, hb', hgg, hr⟩
            · exact .inl h
            · exact .inr ⟨g', cap', cur, hv, hb', hk5.obj hgg (fun hm => by simp at hm; omega), hr⟩
          have hsz5 : B2 ≤ w5.heap.size := Nat.le_trans hwz hk5.size
          have HLN5 := hide hl5
          have HLEN5 := hide hw5.len
          clear hw5 hh5 hm5 hk5 hl5 hd0 HPOP HOWN HPW2 HBL2
          by_cases hK0 : K.length = 0
          · have hKn : K = [] := List.eq_nil_of_length_eq_zero hK0
            subst hKn
            have HHF2 := hide (unhide HTAKE l5 (unhide HM5) (fun h => by simp at h))
            clear HTAKE HPASS
            go_wp2_with fail
            refine (clone key w5 (by omega)).mono ?_
            rintro e w6 ⟨rfl, hb6⟩
            have HW6 := hide ((unhide HW5).below hb6)
            have HBL6 := hide ((unhide HBL5).trans (hb6.mono (unhide HBL5).size))
            have HOWN6 : Hid (w6.ownsRow B2 9 1 (.slice ka 0 kc2) 0 []) := GR.own_below (unhide HOWN5) hb6
            have hsz6 : B2 ≤ w6.heap.size := Nat.le_trans hsz5 hb6.size
            clear hb6 HW5 HBL5 HOWN5
            go_wp2_with (at_builtin; refine wpList_append_own _ rfl _ _ 26 rfl B2 9 i0 (.string ByteArray.empty) 1 16 Try.underlying26 hi hz0 hz1 hz2 rfl (by decide) _ _ _ rfl ((unhide HOWN6).alloc _) ⟨w6.heap.size, 0, none⟩ 1 1 [.string key] rfl rfl ?c1 ?c2 ?c3 ?c4 ?c5 ?_)
            case c1 => exact cell_one_new _ _ _
            case c2 => intro u hu; simp at hu; subst hu; rfl
            case c3 => unfold maxLen; omega
            case c4 => omega
            case c5 => simp; omega
            intro v' w7 hown' hgrow _
            have hB7 : Below B2 w6 w7 := GR.below_append (Below.refl B2 w6) hsz6 (unhide HOWN6) hgrow
            have HO7 : Hid (w7.ownsRow B2 9 1 v' [key].length (GR.flat encStr [key])) := hown'
            obtain ⟨ka7, kc7, hv7, _⟩ := GR.own_at encStr_length (unhide HO7)
            have HO8 := HO7
            rw [hv7] at HO8
            subst hv7
            have HW7 := hide ((unhide HW6).under hB7 hbB2 hgl)
            have HBL7 := hide ((unhide HBL6).trans (hB7.mono hwB2))
            have hsz7 : B2 ≤ w7.heap.size := Nat.le_trans hsz6 hB7.size
            clear hown' hgrow hB7 HW6 HBL6 HOWN6
            go_wp2_with fail
            go_roundw
            case rel =>
              refine ⟨ka7, kc7, [key], some ⟨g, 0, none⟩, lc, l5, rfl, unhide HO8, unhide HW7, fun x hx => by simp [Value.ownBlock] at hx; omega, unhide HH5, unhide HHF2, ?_, hsz7, unhide HBL7⟩
              rw [unhide HLN5]
              simp at hn ⊢
              omega
            case measure =>
              rw [(unhide HW7).len, unhide HLEN, unhide HLN5]
              omega
          · have hdk : decide ((K.length : Int) = 0) = false := decide_eq_false (by omega)
            obtain ⟨g2, rfl⟩ : ∃ g2, ka = some ⟨g2, 0, none⟩ := by
              rcases (unhide HOWN5).2 with ⟨_, hn0⟩ | ⟨g', cap, cur, hv, _⟩
              · omega
              · simp only [Value.slice.injEq] at hv
                exact ⟨g', hv.1⟩
            have y0 : w5.cell? ⟨g2, K.length - 1, none⟩ = some (.string (hg K (K.length - 1))) := by
              rw [(unhide HOWN5).cellAt (K.length - 1) (by omega), flatS_at K _ (by omega)]
            have hKl : ((K.length : Int) - 1) = ((K.length - 1 : Nat) : Int) := by omega
            have hKm : hg K (K.length - 1) ∈ K := mem_hg.2 ⟨K.length - 1, by omega, rfl⟩
            by_cases hcmp : hg K (K.length - 1) = key
            · have HHF2 := hide (unhide HPASS l5 (unhide HM5) (by rw [← hcmp]; exact hKm))
              rw [hcmp] at y0
              clear HTAKE HPASS hcmp hKm
              go_wp2_with fail
              go_roundw
              case rel => exact ⟨_, kc2, K, some ⟨g, 0, none⟩, lc, l5, rfl, unhide HOWN5, unhide HW5, fun x hx => by simp [Value.ownBlock] at hx; omega, unhide HH5, unhide HHF2, by rw [unhide HLN5]; omega, hsz5, unhide HBL5⟩
              case measure =>
                rw [(unhide HW5).len, unhide HLEN, unhide HLN5]
                omega
            · have HHF2 := hide (unhide HTAKE l5 (unhide HM5) (fun _ => hcmp))
              have hcb : ((hg K (K.length - 1)).toList == key.toList) = false := beq_eq_false_iff_ne.2 (fun e => hcmp (sl_inj e))
              generalize hg K (K.length - 1) = kl at *
              clear HTAKE HPASS
              go_wp2_with fail
              refine (clone key w5 (by omega)).mono ?_
              rintro e w6 ⟨rfl, hb6⟩
              have HW6 := hide ((unhide HW5).below hb6)
              have HBL6 := hide ((unhide HBL5).trans (hb6.mono (unhide HBL5).size))
              have HOWN6 := hide (GR.own_below (unhide HOWN5) hb6)
              have hsz6 : B2 ≤ w6.heap.size := Nat.le_trans hsz5 hb6.size
              clear hb6 HW5 HBL5 HOWN5
              go_wp2_with (at_builtin; refine wpList_append_own _ rfl _ _ 26 rfl B2 9 i0 (.string ByteArray.empty) 1 16 Try.underlying26 hi hz0 hz1 hz2 rfl (by decide) _ _ _ rfl ((unhide HOWN6).alloc _) ⟨w6.heap.size, 0, none⟩ 1 1 [.string key] rfl rfl ?c1 ?c2 ?c3 ?c4 ?c5 ?_)
              case c1 => exact cell_one_new _ _ _
              case c2 => intro u hu; simp at hu; subst hu; rfl
              case c3 => unfold maxLen; omega
              case c4 => omega
              case c5 => simp; omega
              intro v' w7 hown' hgrow _
              have hB7 : Below B2 w6 w7 := GR.below_append (Below.refl B2 w6) hsz6 (unhide HOWN6) hgrow
              have HO7 : Hid (w7.ownsRow B2 9 1 v' (K ++ [key]).length (GR.flat encStr (K ++ [key]))) := by rw [GR.flat_append, GR.flat_one, List.length_append]; exact hown'
              obtain ⟨ka7, kc7, hv7, _⟩ := GR.own_at encStr_length (unhide HO7)
              have HO8 := HO7
              rw [hv7] at HO8
              rw [List.length_append] at hv7
              subst hv7
              have HW7 := hide ((unhide HW6).under hB7 hbB2 hgl)
              have HBL7 := hide ((unhide HBL6).trans (hB7.mono hwB2))
              have hsz7 : B2 ≤ w7.heap.size := Nat.le_trans hsz6 hB7.size
              clear hown' hgrow hB7 HW6 HBL6 HOWN6
              go_wp2_with fail
              go_roundw
              case rel =>
                refine ⟨ka7, kc7, K ++ [key], some ⟨g, 0, none⟩, lc, l5, by rw [List.length_append], unhide HO8, unhide HW7, fun x hx => by simp [Value.ownBlock] at hx; omega, unhide HH5, unhide HHF2, ?_, hsz7, unhide HBL7⟩
                rw [List.length_append, unhide HLN5]
                simp
                omega
              case measure =>
                rw [(unhide HW7).len, unhide HLEN, unhide HLN5]
                omega
        · have hle : l' = [] := List.eq_nil_of_length_eq_zero (by omega)
          subst hle
          have hd1 : decide ((0 : Int) < (([] : List ByteArray).length : Int)) = false := by simp
          have HFIN : Hid (∃ a cap K', Ending.returned (.slice ka K.length kc2) = .returned (.slice a K'.length cap) ∧ wr.ownsRow w.heap.size 9 1 (.slice a K'.length cap) K'.length (GR.flat encStr K') ∧ K'.Pairwise sl ∧ (∀ x, x ∈ K' ↔ x ∈ keysA ks) ∧ K'.length ≤ 1099511627776 ∧ Below w.heap.size w wr) :=
            ⟨ka, kc2, K, rfl, GR.own_lower hown hwB2, hhf.asc, fun x => by rw [hhf.mem x]; simp, by omega, hbel⟩
          clear hpw hgb hhp hhf hown hbel HOWN HHF HBL2 HLEN
          go_wp2_with fail
          go_ret
          exact unhide HFIN
end Go.Proofs.Ytgkimogaghgjaaa
