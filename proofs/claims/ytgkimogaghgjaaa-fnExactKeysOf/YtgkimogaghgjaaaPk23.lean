/- Parts. -/
import Derived.Test.YtgkimogaghgjaaaPk1
import Derived.Test.YtgkimogaghgjaaaPk21
import Derived.Test.YtgkimogaghgjaaaPk22
import Derived.Deep.CutBlock
import Derived.Deep.CutRange
import Derived.Deep.AppendLies
namespace Go.Proofs.Ytgkimogaghgjaaa
open Go.RowKit
open Mth

theorem encStr_one (x : ByteArray) : ∀ u ∈ encStr x, u.oneCell' = true := fun u hu => by simp at hu; subst hu; rfl
theorem flatStr_one (l : List ByteArray) : ∀ u ∈ GR.flat encStr l, u.oneCell' = true := GR.flat_oneCell encStr_one l
set_option maxRecDepth 100000 in
set_option maxHeartbeats 8000000 in
theorem specKeysOf (X : Wd) (A : WA) (w : World) (hz : WdSz X 1048576) (ha : WdAt w A X) :
    Calls Try.prog 10 #[wdv X A] w fun e w' => ∃ a cap K, e = .returned (.slice a K.length cap) ∧ StrsAt w' a K ∧ K.Pairwise sl ∧ (∀ x, x ∈ K ↔ x ∈ keysA X.ks) ∧ K.length ≤ 1099511627776 ∧ Below w.heap.size w w' := by
  have hkl := hz.k
  have HKS := hide hz.kk
  have HKA := hide ha.ks
  have HKE := hide ha.ke
  have HLN := hide ha.len
  clear ha hz
  obtain ⟨up, ks, net, td, bk⟩ := X
  obtain ⟨u, uc, k, kc, L, n, nc, t, tc, b, bc⟩ := A
  dsimp only at HKS HKA HKE HLN hkl ⊢
  have hP0 := heap_alloc_new w (.cells #[.slice u up.length uc, .slice k ks.length kc, .slice n net.length nc, .slice t td.length tc, .slice b bk.length bc] 38)
  have hB0 := below_one w (.cells #[.slice u up.length uc, .slice k ks.length kc, .slice n net.length nc, .slice t td.length tc, .slice b bk.length bc] 38)
  have hS0 : (w.alloc (.cells #[.slice u up.length uc, .slice k ks.length kc, .slice n net.length nc, .slice t td.length tc, .slice b bk.length bc] 38)).heap.size = w.heap.size + 1 := by simp
  go_enter Try.func10, Try.ntmps10
  go_upto_region 1 with fail
  refine wp_at (fun W0 hW => ?_)
  rw [← hW] at hP0 hB0 hS0
  have HP0 := hide hP0
  have HB0 := hide hB0
  clear hW hP0 hB0
  have HC0 := hide (below_one W0 (.cells #[] 9))
  go_wp2_with fail
  go_loopw [3, 4] (fun ov ix wr => ∃ (i gr cr : Nat) (K : List ByteArray), ov = .slice (some ⟨gr, 0, none⟩) K.length cr ∧ ix = .int .i64 i ∧ i ≤ ks.length ∧ K.length ≤ cr ∧ StrsAt wr (some ⟨gr, 0, none⟩) K ∧ K.Pairwise sl ∧ (∀ x, x ∈ K ↔ x ∈ keysA (ks.take i)) ∧ K.length ≤ i * 1048576 ∧ Below (w.heap.size + 1) W0 wr) (fun _ ix _ => ks.length - (intOf ix).toNat)
  case atStart => exact ⟨0, _, 0, [], rfl, rfl, Nat.zero_le _, Nat.le_refl _, GR.at_nil _ _, List.Pairwise.nil, fun x => by simp [keysA], by simp, (unhide HC0).mono (by omega)⟩
  case round =>
    obtain ⟨i, gr, cr, K, rfl, rfl, hik, hcr, hat, hasc, hmem, hlen, hbel⟩ := hrel
    have HAT := hide hat
    have HASC := hide hasc
    have HMEM := hide hmem
    have HBL := hide hbel
    have HPB : Hid (wr.heap[w.heap.size]? = some (.cells #[.slice u up.length uc, .slice k ks.length kc, .slice n net.length nc, .slice t td.length tc, .slice b bk.length bc] 38 (0, 0))) := by
      unfold Hid
      rw [hbel.block w.heap.size (by omega)]
      exact unhide HP0
    have HWB := hide ((unhide HB0).trans (hbel.mono (by omega)))
    obtain ⟨c0, c1, c2, c3, c4⟩ := at5 (unhide HPB)
    clear hat hasc hmem hbel HC0
    by_cases hlt : i < ks.length
    · have hltL : i < L.length := by rw [unhide HLN]; exact hlt
      obtain ⟨g, off, rfl, hgw, hrg⟩ := ((unhide HKA).below (unhide HWB)).range i hltL
      have hkp := (unhide HKA).each L[i] (List.getElem_mem hltL)
      have hke : L[i].1 = ks[i] := by
        have h := congrArg (fun z => z[i]?) (unhide HKE)
        simpa [hlt, hltL] using h
      have hkz := unhide HKS ks[i] (List.getElem_mem hlt)
      rw [← hke] at hkz
      have HT := hide (show keysA (ks.take (i + 1)) = keysA (ks.take i) ++ L[i].1.node.pu.map (fun p => p.k) by rw [List.take_succ_eq_append_getElem hlt, keysA_append, keysA_one, hke])
      clear hke
      generalize L[i] = pu at *
      have h13 : wr.cell? ⟨g, off + i * 22 + 13, none⟩ = some (.slice pu.2.n.p pu.1.node.pu.length pu.2.n.cp) := hrg 13 _ rfl
      have HPA := hide hkp.kn.p
      have hpz := hkz.n.p
      clear hrg hkp hkz
      generalize pu.2.n.p = pa at *
      generalize pu.2.n.cp = pc at *
      generalize pu.1.node.pu = P at *
      go_wp2_with fail
      clear c0 c1 c2 c3 c4 h13
      go_loopw [3, 6] (fun ov jx wr => ∃ (j gr cr : Nat) (K : List ByteArray), ov = .slice (some ⟨gr, 0, none⟩) K.length cr ∧ jx = .int .i64 j ∧ j ≤ P.length ∧ K.length ≤ cr ∧ StrsAt wr (some ⟨gr, 0, none⟩) K ∧ K.Pairwise sl ∧ (∀ x, x ∈ K ↔ x ∈ keysA (ks.take i) ∨ x ∈ (P.take j).map (fun p => p.k)) ∧ K.length ≤ i * 1048576 + j ∧ Below (w.heap.size + 1) W0 wr) (fun _ jx _ => P.length - (intOf jx).toNat)
      case atStart => exact ⟨0, gr, cr, K, rfl, rfl, Nat.zero_le _, hcr, unhide HAT, unhide HASC, fun x => by rw [unhide HMEM x]; simp, by rw [Nat.add_zero]; exact hlen, unhide HBL⟩
      case round =>
        clear hcr hlen HAT HASC HMEM HBL HPB HWB
        obtain ⟨j, gr, cr, K, rfl, rfl, hjk, hcr, hat, hasc, hmem, hlen, hbel⟩ := hrel
        have HAT := hide hat
        have HASC := hide hasc
        have HMEM := hide hmem
        have HBL := hide hbel
        have HWB := hide ((unhide HB0).trans (hbel.mono (by omega)))
        have hKz : K.length ≤ 2199023255552 := by have := Nat.mul_le_mul_right 1048576 hkl; have := Nat.mul_le_mul_right 1048576 hik; omega
        clear hat hasc hmem hbel
        by_cases hjt : j < P.length
        · obtain ⟨pg, po, rfl, hpg, s0, s1, s2, s3⟩ := PursesAt.four (GR.At.below (unhide HPA) (unhide HWB)) j hjt
          have HTK := hide (List.take_succ_eq_append_getElem hjt)
          generalize P[j] = pq at *
          obtain ⟨kx, pm, pf, ps⟩ := pq
          dsimp only at s0 s1 s2 s3 HTK
          clear s1 s2 s3
          have HGE0 := hide (Below.refl wr.heap.size wr)
          go_upto_block 4 with fail
          go_cut [7] from 23 to 78 (fun at_ wx => ∃ p : Nat, at_ = .int .i64 p ∧ p ≤ K.length ∧ (∀ y (hy : y < K.length), y < p → sl K[y] kx) ∧ (∀ (h : p < K.length), ¬ sl K[p] kx) ∧ Ge wr wx)
          case first =>
            go_wp2_with fail
            go_loopw [7] (fun at_ wr' => ∃ p q : Nat, at_ = .int .i64 p ∧ p ≤ K.length ∧ (∀ y (hy : y < K.length), y < p → sl K[y] kx) ∧ wr' = wr.drewN q) (fun at_ _ => K.length - (intOf at_).toNat)
            case atStart => exact ⟨0, 0, rfl, Nat.zero_le _, fun y _ h => by omega, rfl⟩
            case round =>
              obtain ⟨p, q, rfl, hp, hlo, rfl⟩ := hrel
              have HLO := hide hlo
              clear hlo
              by_cases hplt : p < K.length
              · obtain ⟨g', off', e0, hg', y0⟩ := StrsAt.one (unhide HAT) p hplt
                cases e0
                rw [Nat.zero_add] at y0
                have HKP := hide (show ∀ (h : p < K.length), K[p] = K[p] from fun _ => rfl)
                have HMORE := hide (fun (h : sl K[p] kx) => show ∀ y (hy : y < K.length), y < p + 1 → sl K[y] kx from fun y hy h2 => by
                  by_cases e : y = p
                  · subst e; exact h
                  · exact unhide HLO y hy (by omega))
                have HNO := hide (fun (h : ¬ sl K[p] kx) => show ∀ (_ : p < K.length), ¬ sl K[p] kx from fun _ => h)
                have hdp : decide ((p : Int) < (K.length : Int)) = true := decide_eq_true (by omega)
                have hlf := less_iff K[p] kx
                have hlg := less_false_iff K[p] kx
                generalize K[p] = kp at *
                clear HKP
                cases hcmp : Op.bytesLess kp.toList kx.toList with
                | true =>
                  have HM2 := hide (unhide HMORE (hlf.1 hcmp))
                  clear hlf hlg HMORE HNO
                  go_wp2_with fail
                  go_quiet (fail)
                  go_wp2_with fail
                  go_roundw
                  case rel => exact ⟨p + 1, _, by go_num, by omega, unhide HM2, rfl⟩
                  case measure => simp [intOf]; omega
                | false =>
                  have HM2 := hide (unhide HNO (hlg.1 hcmp))
                  clear hlf hlg HMORE HNO
                  go_wp2_with fail
                  go_quiet (fail)
                  go_wp2_with fail
                  go_meet
                  case rel => exact ⟨p, rfl, hp, unhide HLO, unhide HM2, ⟨rfl, rfl, rfl, Nat.le_refl _, fun _ _ => rfl⟩⟩
              · have hpe : p = K.length := by omega
                subst hpe
                have hdp : decide ((K.length : Int) < (K.length : Int)) = false := by simp
                go_wp2_with fail
                go_quiet (fail)
                go_wp2_with fail
                go_meet
                case rel => exact ⟨K.length, rfl, Nat.le_refl _, unhide HLO, fun h => absurd h (Nat.lt_irrefl _), ⟨rfl, rfl, rfl, Nat.le_refl _, fun _ _ => rfl⟩⟩
          case rest =>
            obtain ⟨pos, rfl, hpos, hlo, hhi, hge⟩ := hcut
            have HLO := hide hlo
            have HHI := hide hhi
            have HGE := hide hge
            clear hlo hhi hge
            have y1 := (Below.cell (p := ⟨pg, po + j * 4, none⟩) (unhide HGE) hpg).trans s0
            have HAT2 := hide (GR.At.below (unhide HAT) (unhide HGE))
            have hpgc := Nat.lt_of_lt_of_le hpg (unhide HGE).size
            have HBLc := hide ((unhide HBL).trans ((unhide HGE).mono (by have := (unhide HBL).size; omega)))
            clear s0
            by_cases hnew : ∀ (h : pos < K.length), K[pos] ≠ kx
            · have HNEW := hide (ins_asc (unhide HASC) kx pos (unhide HLO) (fun h => ⟨unhide HHI h, hnew h⟩))
              have HMN := hide (fun y => ins_mem K kx pos y)
              have HLN2 := hide (show (K.take pos ++ kx :: K.drop pos).length = K.length + 1 by rw [List.length_append, List.length_cons, List.length_take, List.length_drop]; omega)
              have HFIN : Hid (∀ (gz cz : Nat) (z : World), K.length + 1 ≤ cz → StrsAt z (some ⟨gz, 0, none⟩) (K.take pos ++ kx :: K.drop pos) → Below (w.heap.size + 1) W0 z → ∃ (j' gr' cr' : Nat) (K' : List ByteArray), Value.slice (some ⟨gz, 0, none⟩) (K.length + 1) cz = .slice (some ⟨gr', 0, none⟩) K'.length cr' ∧ Value.int .i64 ((j : Int) + 1) = .int .i64 j' ∧ j' ≤ P.length ∧ K'.length ≤ cr' ∧ StrsAt z (some ⟨gr', 0, none⟩) K' ∧ K'.Pairwise sl ∧ (∀ x, x ∈ K' ↔ x ∈ keysA (ks.take i) ∨ x ∈ (P.take j').map (fun p => p.k)) ∧ K'.length ≤ i * 1048576 + j' ∧ Below (w.heap.size + 1) W0 z) := fun gz cz z h1 h2 h3 => by
                refine ⟨j + 1, gz, cz, K.take pos ++ kx :: K.drop pos, by rw [unhide HLN2], by go_num, by omega, by rw [unhide HLN2]; exact h1, h2, unhide HNEW, fun x => ?_, by rw [unhide HLN2]; omega, h3⟩
                rw [unhide HMN x, unhide HMEM x, unhide HTK]
                simp [or_assoc]
              have HQ12 : Hid (K.length = pos ∨ ∃ kp, wc.cell? ⟨gr, pos, none⟩ = some (.string kp) ∧ (kp.toList == kx.toList) = false ∧ pos < K.length) := by
                by_cases e : pos < K.length
                · obtain ⟨g', off', e0, hg', y0⟩ := StrsAt.one (unhide HAT2) pos e
                  cases e0
                  rw [Nat.zero_add] at y0
                  exact .inr ⟨_, y0, beq_eq_false_iff_ne.2 (fun h => hnew e (sl_inj h)), e⟩
                · exact .inl (by omega)
              clear HASC HLO HHI HMEM HTK HNEW HMN hnew
              go_upto_region 12 with fail
              go_cut [62] from 23 to 78 (fun tv wx => tv = .bool true ∧ Ge wc wx)
              case first =>
                rcases unhide HQ12 with e | ⟨kp, y0, hkp, e⟩
                · subst e
                  have hdp : decide ((K.length : Int) = (K.length : Int)) = true := by simp
                  go_wp2_with fail
                  go_quiet (fail)
                  go_wp2_with fail
                  go_meet
                  case rel => exact ⟨rfl, ⟨rfl, rfl, rfl, Nat.le_refl _, fun _ _ => rfl⟩⟩
                · have hdp : ((pos : Int) == (K.length : Int)) = false := beq_eq_false_iff_ne.2 (by omega)
                  go_wp2_with fail
                  go_quiet (fail)
                  go_wp2_with fail
                  go_meet
                  case rel => exact ⟨rfl, ⟨rfl, rfl, rfl, Nat.le_refl _, fun _ _ => rfl⟩⟩
              case rest =>
                obtain ⟨rfl, hge2⟩ := hcut
                have y2 := (Below.cell (p := ⟨pg, po + j * 4, none⟩) hge2 hpgc).trans y1
                have HAT3 := hide (GR.At.below (unhide HAT2) hge2)
                have hpgd := Nat.lt_of_lt_of_le hpgc hge2.size
                have HBLd := hide ((unhide HBLc).trans (hge2.mono (by have := (unhide HBLc).size; omega)))
                clear hge2 HQ12 HAT2 HBLc y1 hpgc
                go_upto_region 13 with fail
                have hwb : wc.heap.size ≤ wc.heap.size := Nat.le_refl _
                have z0 := cell_und (b := wc.heap.size) hpgd y2
                have hpc : pos ≤ cr := by omega
                have HTL := hide (GR.At.takeS (unhide HAT3) pos)
                obtain ⟨AD, hAD, hDR⟩ : ∃ AD, (if cr = pos then some (⟨gr, 0, none⟩ : Addr) else some ⟨gr, pos, none⟩) = AD ∧ StrsAt wc AD (K.drop pos) := by
                  by_cases hcz : cr = pos
                  · refine ⟨_, rfl, ?_⟩
                    rw [show K.drop pos = [] by apply List.drop_eq_nil_of_le; omega]
                    exact GR.at_nil _ _
                  · refine ⟨_, rfl, ?_⟩
                    rw [if_neg hcz]
                    have h := GR.At.dropS (unhide HAT3) pos
                    rw [Nat.mul_one] at h
                    exact h
                have HDR := hide hDR
                clear hDR
                refine wp_region_mixB 16 wc.heap.size (by kernel_rfl) ?_
                show wpMixB _ _ _ _ _ _ 17 (Array.replicate 17 false) _ _
                refine wpMixB_take 1 20 hwb rfl (by kernel_rfl) (by kernel_rfl) (by kernel_rfl) (by kernel_rfl) (by kernel_rfl) (fun _ _ _ _ h => h) (fun K' hK => ?_)
                go_simp
                first
                  | (refine hK _ ?_; clear hK K')
                  | (apply Exists.intro
                     refine ⟨fun _ => ?_, hK _ ?_⟩
                     (first | rfl | fail)
                     clear hK K')
                refine wpMixB_take 2 20 hwb rfl (by kernel_rfl) (by kernel_rfl) (by kernel_rfl) (by kernel_rfl) (by kernel_rfl) (fun _ _ _ _ h => h) (fun K' hK => ?_)
                go_simp
                first
                  | (refine hK _ ?_; clear hK K')
                  | (apply Exists.intro
                     refine ⟨fun _ => ?_, hK _ ?_⟩
                     (first | rfl | fail)
                     clear hK K')
                refine wpMixB_take 3 20 hwb rfl (by kernel_rfl) (by kernel_rfl) (by kernel_rfl) (by kernel_rfl) (by kernel_rfl) (fun _ _ _ _ h => h) (fun K' hK => ?_)
                go_simp
                first
                  | (refine hK _ ?_; clear hK K')
                  | (apply Exists.intro
                     refine ⟨fun _ => ?_, hK _ ?_⟩
                     (first | rfl | fail)
                     clear hK K')
                refine wpMixB_take 5 20 hwb rfl (by kernel_rfl) (by kernel_rfl) (by kernel_rfl) (by kernel_rfl) (by kernel_rfl) (fun _ _ _ _ h => h) (fun K' hK => ?_)
                go_simp
                first
                  | (refine hK _ ?_; clear hK K')
                  | (apply Exists.intro
                     refine ⟨fun _ => ?_, hK _ ?_⟩
                     (first | rfl | fail)
                     clear hK K')
                refine wpMixB_take 6 20 hwb rfl (by kernel_rfl) (by kernel_rfl) (by kernel_rfl) (by kernel_rfl) (by kernel_rfl) (fun _ _ _ _ h => h) (fun K' hK => ?_)
                go_simp
                first
                  | (refine hK _ ?_; clear hK K')
                  | (apply Exists.intro
                     refine ⟨fun _ => ?_, hK _ ?_⟩
                     (first | rfl | fail)
                     clear hK K')
                refine wpMixB_take 7 20 hwb rfl (by kernel_rfl) (by kernel_rfl) (by kernel_rfl) (by kernel_rfl) (by kernel_rfl) (fun _ _ _ _ h => h) (fun K' hK => ?_)
                go_simp
                first
                  | (refine hK _ ?_; clear hK K')
                  | (apply Exists.intro
                     refine ⟨fun _ => ?_, hK _ ?_⟩
                     (first | rfl | fail)
                     clear hK K')
                refine wpMixB_take 8 20 hwb rfl (by kernel_rfl) (by kernel_rfl) (by kernel_rfl) (by kernel_rfl) (by kernel_rfl) (fun _ _ _ _ h => h) (fun K' hK => ?_)
                go_simp
                first
                  | (refine hK _ ?_; clear hK K')
                  | (apply Exists.intro
                     refine ⟨fun _ => ?_, hK _ ?_⟩
                     (first | rfl | fail)
                     clear hK K')
                refine wpMixB_take 9 20 hwb rfl (by kernel_rfl) (by kernel_rfl) (by kernel_rfl) (by kernel_rfl) (by kernel_rfl) (fun _ _ _ _ h => h) (fun K' hK => ?_)
                go_simp
                first
                  | (refine hK _ ?_; clear hK K')
                  | (apply Exists.intro
                     refine ⟨fun _ => ?_, hK _ ?_⟩
                     (first | rfl | fail)
                     clear hK K')
                refine wpMixB_take 12 20 hwb rfl (by kernel_rfl) (by kernel_rfl) (by kernel_rfl) (by kernel_rfl) (by kernel_rfl) (fun _ _ _ _ h => h) (fun K' hK => ?_)
                go_simp
                first
                  | (refine hK _ ?_; clear hK K')
                  | (apply Exists.intro
                     refine ⟨fun _ => ?_, hK _ ?_⟩
                     (first | rfl | fail)
                     clear hK K')
                refine wpMixB_take 13 20 hwb rfl (by kernel_rfl) (by kernel_rfl) (by kernel_rfl) (by kernel_rfl) (by kernel_rfl) (fun _ _ _ _ h => h) (fun K' hK => ?_)
                go_simp
                first
                  | (refine hK _ ?_; clear hK K')
                  | (apply Exists.intro
                     refine ⟨fun _ => ?_, hK _ ?_⟩
                     (first | rfl | fail)
                     clear hK K')
                refine wpMixB_take 14 20 hwb rfl (by kernel_rfl) (by kernel_rfl) (by kernel_rfl) (by kernel_rfl) (by kernel_rfl) (fun _ _ _ _ h => h) (fun K' hK => ?_)
                go_simp
                first
                  | (refine hK _ ?_; clear hK K')
                  | (apply Exists.intro
                     refine ⟨fun _ => ?_, hK _ ?_⟩
                     (first | rfl | fail)
                     clear hK K')
                clear z0
                have hlt1 : (K.take pos).length = pos := by rw [List.length_take]; omega
                have hld1 : (K.drop pos).length = K.length - pos := by rw [List.length_drop]
                have hL1 : (K.take pos ++ [kx]).length = pos + 1 := by rw [List.length_append, hlt1]; rfl
                have hL2 : (K.take pos ++ [kx] ++ K.drop pos).length = pos + 1 + (K.length - pos) := by rw [List.length_append, hL1, hld1]
                obtain ⟨i0, hi, hz0, hz1, hz2⟩ := info_parts infoStrS
                have HG0 := hide (Below.refl wc.heap.size wc)
                refine wpMixB_two 0 10 rfl rfl (by kernel_rfl) (by rfl) (by rfl) (by decide) (by decide) (fun x1 hx1 => ?_) (fun x1 hx1 => ?_)
                · go_simp
                  have HGx1 := hide ((unhide HG0).trans (hx1.mono (unhide HG0).size))
                  have hsx1 : wc.heap.size ≤ x1.heap.size := (unhide HGx1).size
                  clear hx1
                  refine ⟨(below_one x1 _).mono hsx1, ?_⟩
                  have hby1 := below_one x1 (.cells #[] 9)
                  have HVy1 := hide (show (x1.alloc (.cells #[] 9)).ownsRow wc.heap.size 9 1 (.slice (some ⟨x1.heap.size, 0, none⟩) 0 0) 0 (GR.flat encStr []) from World.ownsRow_lit (base := wc.heap.size) (e := 9) (size := 1) x1 #[] 0 hsx1 (by unfold maxLen; omega) (by simp))
                  have HGy1 := hide ((unhide HGx1).trans (hby1.mono (unhide HGx1).size))
                  clear hby1
                  generalize hyy1 : x1.alloc (.cells #[] 9) = y1 at *
                  clear hyy1
                  refine wpMixB_two 4 10 rfl rfl (by kernel_rfl) (by rfl) (by rfl) (by decide) (by decide) (fun x2 hx2 => ?_) (fun x2 hx2 => ?_)
                  · have HGx2 := hide ((unhide HGy1).trans (hx2.mono (unhide HGy1).size))
                    have hsx2 : wc.heap.size ≤ x2.heap.size := (unhide HGx2).size
                    have HVx2 := hide (GR.own_below (unhide HVy1) hx2)
                    clear hx2
                    obtain ⟨v2, y2, hry2, hoy2, hgy2, hwy2⟩ := runAppRow encStr_length (by omega) x2 wc.heap.size 26 26 9 i0 (.string ByteArray.empty) 16 Try.underlying26 hi hz0 hz1 hz2 rfl (.slice (some ⟨x1.heap.size, 0, none⟩) 0 0) 0 (GR.flat encStr ([])) (unhide HVx2) (some ⟨gr, 0, none⟩) (K.take pos) cr (GR.At.below (unhide HTL) (unhide HGx2)) (flatStr_one _) (by unfold maxLen; omega) (by omega) hsx2
                    rw [hlt1] at hry2 hoy2
                    refine Lib.wp_append_run x2 (.tmp 63) (.tmp 66) 26 26 rfl _ _ (by simp [Act.eval]) (by simp [Act.eval]) v2 y2 hry2 ?_
                    refine ⟨(Below.refl _ _).grown hgy2 hsx2 (fun b hb => ((unhide HVx2).lt b hb).1), ?_⟩
                    go_simp
                    have HGy2 := hide ((unhide HGx2).grown hgy2 hsx2 (fun b hb => ((unhide HVx2).lt b hb).1))
                    have HVy2 : Hid (y2.ownsRow wc.heap.size 9 1 v2 (pos) (GR.flat encStr (K.take pos))) := hide (by simpa [GR.flat_nil] using hoy2)
                    obtain ⟨avR, cvR, hsly2, _⟩ := GR.own_at (enc := encStr) (sz := 1) (l := K.take pos) encStr_length (by rw [hlt1]; exact unhide HVy2)
                    rw [hlt1] at hsly2
                    subst hsly2
                    clear hry2 hoy2 hgy2 hwy2
                    refine wpMixB_one 10 rfl (by kernel_rfl) (by rfl) (by decide) (fun x3 hx3 => ?_)
                    go_simp
                    have HGx3 := hide ((unhide HGy2).trans (hx3.mono (unhide HGy2).size))
                    have hsx3 : wc.heap.size ≤ x3.heap.size := (unhide HGx3).size
                    have HVx3 := hide (GR.own_below (unhide HVy2) hx3)
                    clear hx3
                    refine ⟨(below_one x3 _).mono hsx3, ?_⟩
                    have hby3 := below_one x3 (.cells #[.string kx] 9)
                    have HQy3 := hide (heap_alloc_new x3 (.cells #[.string kx] 9))
                    have HVy3 := hide (GR.own_below (unhide HVx3) hby3)
                    have HEy3 := hide (show ∀ b, ((.slice avR (pos) cvR : Value)).ownBlock = some b → b ≠ x3.heap.size from fun b hb => by have := ((unhide HVx3).lt b hb).2; omega)
                    have HGy3 := hide ((unhide HGx3).trans (hby3.mono (unhide HGx3).size))
                    clear hby3
                    generalize hyy3 : x3.alloc (.cells #[.string kx] 9) = y3 at *
                    clear hyy3
                    generalize x3.heap.size = rb at *
                    refine wpMixB_one 11 rfl (by kernel_rfl) (by rfl) (by decide) (fun x4 hx4 => ?_)
                    have HGx4 := hide ((unhide HGy3).trans (hx4.mono (unhide HGy3).size))
                    have hsx4 : wc.heap.size ≤ x4.heap.size := (unhide HGx4).size
                    have HVx4 := hide (GR.own_below (unhide HVy3) hx4)
                    have HQx4 := hide (obj_step (unhide HQy3) hx4)
                    clear hx4
                    obtain ⟨v4, y4, hry4, hoy4, hgy4, hwy4⟩ := run_append_where x4 wc.heap.size 26 26 9 i0 (.string ByteArray.empty) 1 16 Try.underlying26 hi hz0 hz1 hz2 rfl (by decide) (.slice avR (pos) cvR) (pos) (GR.flat encStr (K.take pos)) (unhide HVx4) ⟨rb, 0, none⟩ 1 1 (encStr kx) rfl (World.news_of_block (unhide HQx4)) (encStr_one _) (by unfold maxLen; omega) (by omega) hsx4
                    refine Lib.wp_append_run x4 (.tmp 67) (.tmp 73) 26 26 rfl _ _ (by simp [Act.eval]) (by simp [Act.eval]) v4 y4 hry4 ?_
                    refine ⟨(Below.refl _ _).grown hgy4 hsx4 (fun b hb => ((unhide HVx4).lt b hb).1), ?_⟩
                    go_simp
                    have HGy4 := hide ((unhide HGx4).grown hgy4 hsx4 (fun b hb => ((unhide HVx4).lt b hb).1))
                    have HVy4 : Hid (y4.ownsRow wc.heap.size 9 1 v4 (pos + 1) (GR.flat encStr (K.take pos ++ [kx]))) := hide (by rw [GR.flat_append, GR.flat_one]; exact hoy4)
                    have HQy4 := hide (show y4.heap[rb]? = some (.cells #[.string kx] 9 (0, 0)) from by rw [hgy4.block _ (obj_lt (unhide HQx4)) (fun hm => unhide HEy3 _ hm.symm rfl)]; exact unhide HQx4)
                    have HEy4 := hide (show ∀ b, (v4).ownBlock = some b → b ≠ rb from fun b hb => (hwy4 b hb).elim (fun h => unhide HEy3 b h) (fun h => by have := obj_lt (unhide HQx4); omega))
                    obtain ⟨avO, cvO, hsly4, _⟩ := GR.own_at (enc := encStr) (sz := 1) (l := K.take pos ++ [kx]) encStr_length (by rw [hL1]; exact unhide HVy4)
                    rw [hL1] at hsly4
                    subst hsly4
                    clear hry4 hoy4 hgy4 hwy4
                    refine wpMixB_one 15 rfl (by kernel_rfl) (by rfl) (by decide) (fun x5 hx5 => ?_)
                    have HGx5 := hide ((unhide HGy4).trans (hx5.mono (unhide HGy4).size))
                    have hsx5 : wc.heap.size ≤ x5.heap.size := (unhide HGx5).size
                    have HVx5 := hide (GR.own_below (unhide HVy4) hx5)
                    have HQx5 := hide (obj_step (unhide HQy4) hx5)
                    clear hx5
                    obtain ⟨v5, y5, hry5, hoy5, hgy5, hwy5⟩ := runAppRow encStr_length (by omega) x5 wc.heap.size 26 26 9 i0 (.string ByteArray.empty) 16 Try.underlying26 hi hz0 hz1 hz2 rfl (.slice avO (pos + 1) cvO) (pos + 1) (GR.flat encStr (K.take pos ++ [kx])) (unhide HVx5) AD (K.drop pos) (cr - pos) (GR.At.below (unhide HDR) (unhide HGx5)) (flatStr_one _) (by unfold maxLen; omega) (by omega) hsx5
                    rw [hld1] at hry5 hoy5
                    refine Lib.wp_append_run x5 (.tmp 74) (.tmp 77) 26 26 rfl _ _ (by simp [Act.eval]) (by simp [Act.eval]) v5 y5 hry5 ?_
                    refine ⟨(Below.refl _ _).grown hgy5 hsx5 (fun b hb => ((unhide HVx5).lt b hb).1), ?_⟩
                    go_simp
                    have HGy5 := hide ((unhide HGx5).grown hgy5 hsx5 (fun b hb => ((unhide HVx5).lt b hb).1))
                    have HVy5 : Hid (y5.ownsRow wc.heap.size 9 1 v5 (pos + 1 + (K.length - pos)) (GR.flat encStr (K.take pos ++ [kx] ++ K.drop pos))) := hide (by rw [GR.flat_append]; exact hoy5)
                    have HQy5 := hide (show y5.heap[rb]? = some (.cells #[.string kx] 9 (0, 0)) from by rw [hgy5.block _ (obj_lt (unhide HQx5)) (fun hm => unhide HEy4 _ hm.symm rfl)]; exact unhide HQx5)
                    have HEy5 := hide (show ∀ b, (v5).ownBlock = some b → b ≠ rb from fun b hb => (hwy5 b hb).elim (fun h => unhide HEy4 b h) (fun h => by have := obj_lt (unhide HQx5); omega))
                    obtain ⟨avT, cvT, hsly5, _⟩ := GR.own_at (enc := encStr) (sz := 1) (l := K.take pos ++ [kx] ++ K.drop pos) encStr_length (by rw [hL2]; exact unhide HVy5)
                    rw [hL2] at hsly5
                    subst hsly5
                    clear hry5 hoy5 hgy5 hwy5
                    refine wpMixB_leave (by kernel_rfl) (fun z hz => ?_)
                    have HGz := hide ((unhide HGy5).trans (hz.mono (unhide HGy5).size))
                    have HVz := hide (GR.own_below (unhide HVy5) hz)
                    clear hz
                    refine wpAny_one 16 rfl (by kernel_rfl) (by rfl) ?_
                    go_simp
                    refine wpAny_done (by kernel_rfl) ?_
                    go_simp
                    go_wp2_with fail
                    go_roundw
                    case rel =>
                      obtain ⟨gz, hgz, hcz⟩ : ∃ gz, avT = some ⟨gz, 0, none⟩ ∧ K.length + 1 ≤ cvT := by
                        rcases (unhide HVz).2 with ⟨_, hn⟩ | ⟨g, cap, cur, hv, _, _, hnc, _⟩
                        · omega
                        · simp only [Value.slice.injEq] at hv
                          exact ⟨g, hv.1, by omega⟩
                      have hat : StrsAt z avT (K.take pos ++ [kx] ++ K.drop pos) := by
                        obtain ⟨a', c', hv, h⟩ := GR.own_at (enc := encStr) (sz := 1) (l := K.take pos ++ [kx] ++ K.drop pos) encStr_length (by rw [hL2]; exact unhide HVz)
                        simp only [Value.slice.injEq] at hv
                        rw [hv.1]
                        exact h
                      rw [List.append_assoc] at hat
                      rw [hgz] at hat ⊢
                      rw [show pos + 1 + (K.length - pos) = K.length + 1 by omega]
                      exact unhide HFIN gz cvT z hcz hat ((unhide HBLd).trans ((unhide HGz).mono (by have := (unhide HBLd).size; omega)))
                    case measure => simp [intOf]; omega

                  · go_simp
                    have HGx2 := hide ((unhide HGy1).trans (hx2.mono (unhide HGy1).size))
                    have hsx2 : wc.heap.size ≤ x2.heap.size := (unhide HGx2).size
                    have HVx2 := hide (GR.own_below (unhide HVy1) hx2)
                    clear hx2
                    refine ⟨(below_one x2 _).mono hsx2, ?_⟩
                    have hby2 := below_one x2 (.cells #[.string kx] 9)
                    have HQy2 := hide (heap_alloc_new x2 (.cells #[.string kx] 9))
                    have HVy2 := hide (GR.own_below (unhide HVx2) hby2)
                    have HEy2 := hide (show ∀ b, ((.slice (some ⟨x1.heap.size, 0, none⟩) 0 0 : Value)).ownBlock = some b → b ≠ x2.heap.size from fun b hb => by have := ((unhide HVx2).lt b hb).2; omega)
                    have HGy2 := hide ((unhide HGx2).trans (hby2.mono (unhide HGx2).size))
                    clear hby2
                    generalize hyy2 : x2.alloc (.cells #[.string kx] 9) = y2 at *
                    clear hyy2
                    refine wpMixB_one 4 rfl (by kernel_rfl) (by rfl) (by decide) (fun x3 hx3 => ?_)
                    have HGx3 := hide ((unhide HGy2).trans (hx3.mono (unhide HGy2).size))
                    have hsx3 : wc.heap.size ≤ x3.heap.size := (unhide HGx3).size
                    have HVx3 := hide (GR.own_below (unhide HVy2) hx3)
                    have HQx3 := hide (obj_step (unhide HQy2) hx3)
                    clear hx3
                    obtain ⟨v3, y3, hry3, hoy3, hgy3, hwy3⟩ := runAppRow encStr_length (by omega) x3 wc.heap.size 26 26 9 i0 (.string ByteArray.empty) 16 Try.underlying26 hi hz0 hz1 hz2 rfl (.slice (some ⟨x1.heap.size, 0, none⟩) 0 0) 0 (GR.flat encStr ([])) (unhide HVx3) (some ⟨gr, 0, none⟩) (K.take pos) cr (GR.At.below (unhide HTL) (unhide HGx3)) (flatStr_one _) (by unfold maxLen; omega) (by omega) hsx3
                    rw [hlt1] at hry3 hoy3
                    refine Lib.wp_append_run x3 (.tmp 63) (.tmp 66) 26 26 rfl _ _ (by simp [Act.eval]) (by simp [Act.eval]) v3 y3 hry3 ?_
                    refine ⟨(Below.refl _ _).grown hgy3 hsx3 (fun b hb => ((unhide HVx3).lt b hb).1), ?_⟩
                    go_simp
                    have HGy3 := hide ((unhide HGx3).grown hgy3 hsx3 (fun b hb => ((unhide HVx3).lt b hb).1))
                    have HVy3 : Hid (y3.ownsRow wc.heap.size 9 1 v3 (pos) (GR.flat encStr (K.take pos))) := hide (by simpa [GR.flat_nil] using hoy3)
                    have HQy3 := hide (show y3.heap[x2.heap.size]? = some (.cells #[.string kx] 9 (0, 0)) from by rw [hgy3.block _ (obj_lt (unhide HQx3)) (fun hm => unhide HEy2 _ hm.symm rfl)]; exact unhide HQx3)
                    have HEy3 := hide (show ∀ b, (v3).ownBlock = some b → b ≠ x2.heap.size from fun b hb => (hwy3 b hb).elim (fun h => unhide HEy2 b h) (fun h => by have := obj_lt (unhide HQx3); omega))
                    obtain ⟨avR, cvR, hsly3, _⟩ := GR.own_at (enc := encStr) (sz := 1) (l := K.take pos) encStr_length (by rw [hlt1]; exact unhide HVy3)
                    rw [hlt1] at hsly3
                    subst hsly3
                    clear hry3 hoy3 hgy3 hwy3
                    generalize x2.heap.size = rb at *
                    refine wpMixB_one 11 rfl (by kernel_rfl) (by rfl) (by decide) (fun x4 hx4 => ?_)
                    have HGx4 := hide ((unhide HGy3).trans (hx4.mono (unhide HGy3).size))
                    have hsx4 : wc.heap.size ≤ x4.heap.size := (unhide HGx4).size
                    have HVx4 := hide (GR.own_below (unhide HVy3) hx4)
                    have HQx4 := hide (obj_step (unhide HQy3) hx4)
                    clear hx4
                    obtain ⟨v4, y4, hry4, hoy4, hgy4, hwy4⟩ := run_append_where x4 wc.heap.size 26 26 9 i0 (.string ByteArray.empty) 1 16 Try.underlying26 hi hz0 hz1 hz2 rfl (by decide) (.slice avR (pos) cvR) (pos) (GR.flat encStr (K.take pos)) (unhide HVx4) ⟨rb, 0, none⟩ 1 1 (encStr kx) rfl (World.news_of_block (unhide HQx4)) (encStr_one _) (by unfold maxLen; omega) (by omega) hsx4
                    refine Lib.wp_append_run x4 (.tmp 67) (.tmp 73) 26 26 rfl _ _ (by simp [Act.eval]) (by simp [Act.eval]) v4 y4 hry4 ?_
                    refine ⟨(Below.refl _ _).grown hgy4 hsx4 (fun b hb => ((unhide HVx4).lt b hb).1), ?_⟩
                    go_simp
                    have HGy4 := hide ((unhide HGx4).grown hgy4 hsx4 (fun b hb => ((unhide HVx4).lt b hb).1))
                    have HVy4 : Hid (y4.ownsRow wc.heap.size 9 1 v4 (pos + 1) (GR.flat encStr (K.take pos ++ [kx]))) := hide (by rw [GR.flat_append, GR.flat_one]; exact hoy4)
                    have HQy4 := hide (show y4.heap[rb]? = some (.cells #[.string kx] 9 (0, 0)) from by rw [hgy4.block _ (obj_lt (unhide HQx4)) (fun hm => unhide HEy3 _ hm.symm rfl)]; exact unhide HQx4)
                    have HEy4 := hide (show ∀ b, (v4).ownBlock = some b → b ≠ rb from fun b hb => (hwy4 b hb).elim (fun h => unhide HEy3 b h) (fun h => by have := obj_lt (unhide HQx4); omega))
                    obtain ⟨avO, cvO, hsly4, _⟩ := GR.own_at (enc := encStr) (sz := 1) (l := K.take pos ++ [kx]) encStr_length (by rw [hL1]; exact unhide HVy4)
                    rw [hL1] at hsly4
                    subst hsly4
                    clear hry4 hoy4 hgy4 hwy4
                    refine wpMixB_one 15 rfl (by kernel_rfl) (by rfl) (by decide) (fun x5 hx5 => ?_)
                    have HGx5 := hide ((unhide HGy4).trans (hx5.mono (unhide HGy4).size))
                    have hsx5 : wc.heap.size ≤ x5.heap.size := (unhide HGx5).size
                    have HVx5 := hide (GR.own_below (unhide HVy4) hx5)
                    have HQx5 := hide (obj_step (unhide HQy4) hx5)
                    clear hx5
                    obtain ⟨v5, y5, hry5, hoy5, hgy5, hwy5⟩ := runAppRow encStr_length (by omega) x5 wc.heap.size 26 26 9 i0 (.string ByteArray.empty) 16 Try.underlying26 hi hz0 hz1 hz2 rfl (.slice avO (pos + 1) cvO) (pos + 1) (GR.flat encStr (K.take pos ++ [kx])) (unhide HVx5) AD (K.drop pos) (cr - pos) (GR.At.below (unhide HDR) (unhide HGx5)) (flatStr_one _) (by unfold maxLen; omega) (by omega) hsx5
                    rw [hld1] at hry5 hoy5
                    refine Lib.wp_append_run x5 (.tmp 74) (.tmp 77) 26 26 rfl _ _ (by simp [Act.eval]) (by simp [Act.eval]) v5 y5 hry5 ?_
                    refine ⟨(Below.refl _ _).grown hgy5 hsx5 (fun b hb => ((unhide HVx5).lt b hb).1), ?_⟩
                    go_simp
                    have HGy5 := hide ((unhide HGx5).grown hgy5 hsx5 (fun b hb => ((unhide HVx5).lt b hb).1))
                    have HVy5 : Hid (y5.ownsRow wc.heap.size 9 1 v5 (pos + 1 + (K.length - pos)) (GR.flat encStr (K.take pos ++ [kx] ++ K.drop pos))) := hide (by rw [GR.flat_append]; exact hoy5)
                    have HQy5 := hide (show y5.heap[rb]? = some (.cells #[.string kx] 9 (0, 0)) from by rw [hgy5.block _ (obj_lt (unhide HQx5)) (fun hm => unhide HEy4 _ hm.symm rfl)]; exact unhide HQx5)
                    have HEy5 := hide (show ∀ b, (v5).ownBlock = some b → b ≠ rb from fun b hb => (hwy5 b hb).elim (fun h => unhide HEy4 b h) (fun h => by have := obj_lt (unhide HQx5); omega))
                    obtain ⟨avT, cvT, hsly5, _⟩ := GR.own_at (enc := encStr) (sz := 1) (l := K.take pos ++ [kx] ++ K.drop pos) encStr_length (by rw [hL2]; exact unhide HVy5)
                    rw [hL2] at hsly5
                    subst hsly5
                    clear hry5 hoy5 hgy5 hwy5
                    refine wpMixB_leave (by kernel_rfl) (fun z hz => ?_)
                    have HGz := hide ((unhide HGy5).trans (hz.mono (unhide HGy5).size))
                    have HVz := hide (GR.own_below (unhide HVy5) hz)
                    clear hz
                    refine wpAny_one 16 rfl (by kernel_rfl) (by rfl) ?_
                    go_simp
                    refine wpAny_done (by kernel_rfl) ?_
                    go_simp
                    go_wp2_with fail
                    go_roundw
                    case rel =>
                      obtain ⟨gz, hgz, hcz⟩ : ∃ gz, avT = some ⟨gz, 0, none⟩ ∧ K.length + 1 ≤ cvT := by
                        rcases (unhide HVz).2 with ⟨_, hn⟩ | ⟨g, cap, cur, hv, _, _, hnc, _⟩
                        · omega
                        · simp only [Value.slice.injEq] at hv
                          exact ⟨g, hv.1, by omega⟩
                      have hat : StrsAt z avT (K.take pos ++ [kx] ++ K.drop pos) := by
                        obtain ⟨a', c', hv, h⟩ := GR.own_at (enc := encStr) (sz := 1) (l := K.take pos ++ [kx] ++ K.drop pos) encStr_length (by rw [hL2]; exact unhide HVz)
                        simp only [Value.slice.injEq] at hv
                        rw [hv.1]
                        exact h
                      rw [List.append_assoc] at hat
                      rw [hgz] at hat ⊢
                      rw [show pos + 1 + (K.length - pos) = K.length + 1 by omega]
                      exact unhide HFIN gz cvT z hcz hat ((unhide HBLd).trans ((unhide HGz).mono (by have := (unhide HBLd).size; omega)))
                    case measure => simp [intOf]; omega


                · go_simp
                  have HGx1 := hide ((unhide HG0).trans (hx1.mono (unhide HG0).size))
                  have hsx1 : wc.heap.size ≤ x1.heap.size := (unhide HGx1).size
                  clear hx1
                  refine ⟨(below_one x1 _).mono hsx1, ?_⟩
                  have hby1 := below_one x1 (.cells #[.string kx] 9)
                  have HQy1 := hide (heap_alloc_new x1 (.cells #[.string kx] 9))
                  have HGy1 := hide ((unhide HGx1).trans (hby1.mono (unhide HGx1).size))
                  clear hby1
                  generalize hyy1 : x1.alloc (.cells #[.string kx] 9) = y1 at *
                  clear hyy1
                  refine wpMixB_one 0 rfl (by kernel_rfl) (by rfl) (by decide) (fun x2 hx2 => ?_)
                  go_simp
                  have HGx2 := hide ((unhide HGy1).trans (hx2.mono (unhide HGy1).size))
                  have hsx2 : wc.heap.size ≤ x2.heap.size := (unhide HGx2).size
                  have HQx2 := hide (obj_step (unhide HQy1) hx2)
                  clear hx2
                  refine ⟨(below_one x2 _).mono hsx2, ?_⟩
                  have hby2 := below_one x2 (.cells #[] 9)
                  have HVy2 := hide (show (x2.alloc (.cells #[] 9)).ownsRow wc.heap.size 9 1 (.slice (some ⟨x2.heap.size, 0, none⟩) 0 0) 0 (GR.flat encStr []) from World.ownsRow_lit (base := wc.heap.size) (e := 9) (size := 1) x2 #[] 0 hsx2 (by unfold maxLen; omega) (by simp))
                  have HQy2 := hide (obj_step (unhide HQx2) hby2)
                  have hrby2 := obj_lt (unhide HQx2)
                  have HEy2 := hide (show ∀ b, (Value.slice (some ⟨x2.heap.size, 0, none⟩) 0 0).ownBlock = some b → b ≠ x1.heap.size from fun b hb => by simp [Value.ownBlock] at hb; omega)
                  have HGy2 := hide ((unhide HGx2).trans (hby2.mono (unhide HGx2).size))
                  clear hby2
                  generalize hyy2 : x2.alloc (.cells #[] 9) = y2 at *
                  clear hyy2
                  refine wpMixB_one 4 rfl (by kernel_rfl) (by rfl) (by decide) (fun x3 hx3 => ?_)
                  have HGx3 := hide ((unhide HGy2).trans (hx3.mono (unhide HGy2).size))
                  have hsx3 : wc.heap.size ≤ x3.heap.size := (unhide HGx3).size
                  have HVx3 := hide (GR.own_below (unhide HVy2) hx3)
                  have HQx3 := hide (obj_step (unhide HQy2) hx3)
                  clear hx3
                  obtain ⟨v3, y3, hry3, hoy3, hgy3, hwy3⟩ := runAppRow encStr_length (by omega) x3 wc.heap.size 26 26 9 i0 (.string ByteArray.empty) 16 Try.underlying26 hi hz0 hz1 hz2 rfl (.slice (some ⟨x2.heap.size, 0, none⟩) 0 0) 0 (GR.flat encStr ([])) (unhide HVx3) (some ⟨gr, 0, none⟩) (K.take pos) cr (GR.At.below (unhide HTL) (unhide HGx3)) (flatStr_one _) (by unfold maxLen; omega) (by omega) hsx3
                  rw [hlt1] at hry3 hoy3
                  refine Lib.wp_append_run x3 (.tmp 63) (.tmp 66) 26 26 rfl _ _ (by simp [Act.eval]) (by simp [Act.eval]) v3 y3 hry3 ?_
                  refine ⟨(Below.refl _ _).grown hgy3 hsx3 (fun b hb => ((unhide HVx3).lt b hb).1), ?_⟩
                  go_simp
                  have HGy3 := hide ((unhide HGx3).grown hgy3 hsx3 (fun b hb => ((unhide HVx3).lt b hb).1))
                  have HVy3 : Hid (y3.ownsRow wc.heap.size 9 1 v3 (pos) (GR.flat encStr (K.take pos))) := hide (by simpa [GR.flat_nil] using hoy3)
                  have HQy3 := hide (show y3.heap[x1.heap.size]? = some (.cells #[.string kx] 9 (0, 0)) from by rw [hgy3.block _ (obj_lt (unhide HQx3)) (fun hm => unhide HEy2 _ hm.symm rfl)]; exact unhide HQx3)
                  have HEy3 := hide (show ∀ b, (v3).ownBlock = some b → b ≠ x1.heap.size from fun b hb => (hwy3 b hb).elim (fun h => unhide HEy2 b h) (fun h => by have := obj_lt (unhide HQx3); omega))
                  obtain ⟨avR, cvR, hsly3, _⟩ := GR.own_at (enc := encStr) (sz := 1) (l := K.take pos) encStr_length (by rw [hlt1]; exact unhide HVy3)
                  rw [hlt1] at hsly3
                  subst hsly3
                  clear hry3 hoy3 hgy3 hwy3
                  generalize x1.heap.size = rb at *
                  refine wpMixB_one 11 rfl (by kernel_rfl) (by rfl) (by decide) (fun x4 hx4 => ?_)
                  have HGx4 := hide ((unhide HGy3).trans (hx4.mono (unhide HGy3).size))
                  have hsx4 : wc.heap.size ≤ x4.heap.size := (unhide HGx4).size
                  have HVx4 := hide (GR.own_below (unhide HVy3) hx4)
                  have HQx4 := hide (obj_step (unhide HQy3) hx4)
                  clear hx4
                  obtain ⟨v4, y4, hry4, hoy4, hgy4, hwy4⟩ := run_append_where x4 wc.heap.size 26 26 9 i0 (.string ByteArray.empty) 1 16 Try.underlying26 hi hz0 hz1 hz2 rfl (by decide) (.slice avR (pos) cvR) (pos) (GR.flat encStr (K.take pos)) (unhide HVx4) ⟨rb, 0, none⟩ 1 1 (encStr kx) rfl (World.news_of_block (unhide HQx4)) (encStr_one _) (by unfold maxLen; omega) (by omega) hsx4
                  refine Lib.wp_append_run x4 (.tmp 67) (.tmp 73) 26 26 rfl _ _ (by simp [Act.eval]) (by simp [Act.eval]) v4 y4 hry4 ?_
                  refine ⟨(Below.refl _ _).grown hgy4 hsx4 (fun b hb => ((unhide HVx4).lt b hb).1), ?_⟩
                  go_simp
                  have HGy4 := hide ((unhide HGx4).grown hgy4 hsx4 (fun b hb => ((unhide HVx4).lt b hb).1))
                  have HVy4 : Hid (y4.ownsRow wc.heap.size 9 1 v4 (pos + 1) (GR.flat encStr (K.take pos ++ [kx]))) := hide (by rw [GR.flat_append, GR.flat_one]; exact hoy4)
                  have HQy4 := hide (show y4.heap[rb]? = some (.cells #[.string kx] 9 (0, 0)) from by rw [hgy4.block _ (obj_lt (unhide HQx4)) (fun hm => unhide HEy3 _ hm.symm rfl)]; exact unhide HQx4)
                  have HEy4 := hide (show ∀ b, (v4).ownBlock = some b → b ≠ rb from fun b hb => (hwy4 b hb).elim (fun h => unhide HEy3 b h) (fun h => by have := obj_lt (unhide HQx4); omega))
                  obtain ⟨avO, cvO, hsly4, _⟩ := GR.own_at (enc := encStr) (sz := 1) (l := K.take pos ++ [kx]) encStr_length (by rw [hL1]; exact unhide HVy4)
                  rw [hL1] at hsly4
                  subst hsly4
                  clear hry4 hoy4 hgy4 hwy4
                  refine wpMixB_one 15 rfl (by kernel_rfl) (by rfl) (by decide) (fun x5 hx5 => ?_)
                  have HGx5 := hide ((unhide HGy4).trans (hx5.mono (unhide HGy4).size))
                  have hsx5 : wc.heap.size ≤ x5.heap.size := (unhide HGx5).size
                  have HVx5 := hide (GR.own_below (unhide HVy4) hx5)
                  have HQx5 := hide (obj_step (unhide HQy4) hx5)
                  clear hx5
                  obtain ⟨v5, y5, hry5, hoy5, hgy5, hwy5⟩ := runAppRow encStr_length (by omega) x5 wc.heap.size 26 26 9 i0 (.string ByteArray.empty) 16 Try.underlying26 hi hz0 hz1 hz2 rfl (.slice avO (pos + 1) cvO) (pos + 1) (GR.flat encStr (K.take pos ++ [kx])) (unhide HVx5) AD (K.drop pos) (cr - pos) (GR.At.below (unhide HDR) (unhide HGx5)) (flatStr_one _) (by unfold maxLen; omega) (by omega) hsx5
                  rw [hld1] at hry5 hoy5
                  refine Lib.wp_append_run x5 (.tmp 74) (.tmp 77) 26 26 rfl _ _ (by simp [Act.eval]) (by simp [Act.eval]) v5 y5 hry5 ?_
                  refine ⟨(Below.refl _ _).grown hgy5 hsx5 (fun b hb => ((unhide HVx5).lt b hb).1), ?_⟩
                  go_simp
                  have HGy5 := hide ((unhide HGx5).grown hgy5 hsx5 (fun b hb => ((unhide HVx5).lt b hb).1))
                  have HVy5 : Hid (y5.ownsRow wc.heap.size 9 1 v5 (pos + 1 + (K.length - pos)) (GR.flat encStr (K.take pos ++ [kx] ++ K.drop pos))) := hide (by rw [GR.flat_append]; exact hoy5)
                  have HQy5 := hide (show y5.heap[rb]? = some (.cells #[.string kx] 9 (0, 0)) from by rw [hgy5.block _ (obj_lt (unhide HQx5)) (fun hm => unhide HEy4 _ hm.symm rfl)]; exact unhide HQx5)
                  have HEy5 := hide (show ∀ b, (v5).ownBlock = some b → b ≠ rb from fun b hb => (hwy5 b hb).elim (fun h => unhide HEy4 b h) (fun h => by have := obj_lt (unhide HQx5); omega))
                  obtain ⟨avT, cvT, hsly5, _⟩ := GR.own_at (enc := encStr) (sz := 1) (l := K.take pos ++ [kx] ++ K.drop pos) encStr_length (by rw [hL2]; exact unhide HVy5)
                  rw [hL2] at hsly5
                  subst hsly5
                  clear hry5 hoy5 hgy5 hwy5
                  refine wpMixB_leave (by kernel_rfl) (fun z hz => ?_)
                  have HGz := hide ((unhide HGy5).trans (hz.mono (unhide HGy5).size))
                  have HVz := hide (GR.own_below (unhide HVy5) hz)
                  clear hz
                  refine wpAny_one 16 rfl (by kernel_rfl) (by rfl) ?_
                  go_simp
                  refine wpAny_done (by kernel_rfl) ?_
                  go_simp
                  go_wp2_with fail
                  go_roundw
                  case rel =>
                    obtain ⟨gz, hgz, hcz⟩ : ∃ gz, avT = some ⟨gz, 0, none⟩ ∧ K.length + 1 ≤ cvT := by
                      rcases (unhide HVz).2 with ⟨_, hn⟩ | ⟨g, cap, cur, hv, _, _, hnc, _⟩
                      · omega
                      · simp only [Value.slice.injEq] at hv
                        exact ⟨g, hv.1, by omega⟩
                    have hat : StrsAt z avT (K.take pos ++ [kx] ++ K.drop pos) := by
                      obtain ⟨a', c', hv, h⟩ := GR.own_at (enc := encStr) (sz := 1) (l := K.take pos ++ [kx] ++ K.drop pos) encStr_length (by rw [hL2]; exact unhide HVz)
                      simp only [Value.slice.injEq] at hv
                      rw [hv.1]
                      exact h
                    rw [List.append_assoc] at hat
                    rw [hgz] at hat ⊢
                    rw [show pos + 1 + (K.length - pos) = K.length + 1 by omega]
                    exact unhide HFIN gz cvT z hcz hat ((unhide HBLd).trans ((unhide HGz).mono (by have := (unhide HBLd).size; omega)))
                  case measure => simp [intOf]; omega
            · obtain ⟨e, hkx⟩ : ∃ h : pos < K.length, K[pos] = kx := by
                by_cases e : pos < K.length
                · refine ⟨e, ?_⟩
                  by_cases h : K[pos] = kx
                  · exact h
                  · exact absurd (fun _ => h) hnew
                · exact absurd (fun h => absurd h e) hnew
              have HKM := hide (show kx ∈ K by rw [← hkx]; exact List.getElem_mem e)
              obtain ⟨g', off', e0, hg', y0⟩ := StrsAt.one (unhide HAT2) pos e
              cases e0
              rw [Nat.zero_add, hkx] at y0
              have HF2 : Hid (∀ z, Ge wc z → ∃ (j' gr' cr' : Nat) (K' : List ByteArray), Value.slice (some ⟨gr, 0, none⟩) K.length cr = .slice (some ⟨gr', 0, none⟩) K'.length cr' ∧ Value.int .i64 ((j : Int) + 1) = .int .i64 j' ∧ j' ≤ P.length ∧ K'.length ≤ cr' ∧ StrsAt z (some ⟨gr', 0, none⟩) K' ∧ K'.Pairwise sl ∧ (∀ x, x ∈ K' ↔ x ∈ keysA (ks.take i) ∨ x ∈ (P.take j').map (fun p => p.k)) ∧ K'.length ≤ i * 1048576 + j' ∧ Below (w.heap.size + 1) W0 z) := fun z hz => by
                refine ⟨j + 1, gr, cr, K, rfl, by go_num, by omega, hcr, GR.At.below (unhide HAT2) hz, unhide HASC, fun x => ?_, by omega, (unhide HBLc).trans (hz.mono (by have := (unhide HBLc).size; omega))⟩
                rw [unhide HTK, List.map_append, List.mem_append, ← or_assoc, ← unhide HMEM x]
                constructor
                · exact .inl
                · rintro (h | h)
                  · exact h
                  · simp at h; subst h; exact unhide HKM
              clear HASC HLO HHI HMEM HTK HKM hnew hkx HAT HAT2 HBLc
              have hdp : ((pos : Int) == (K.length : Int)) = false := beq_eq_false_iff_ne.2 (by omega)
              go_wp2_with fail
              go_quiet (fail)
              go_wp2_with fail
              go_roundw
              case rel => exact unhide HF2 _ ⟨rfl, rfl, rfl, Nat.le_refl _, fun _ _ => rfl⟩
              case measure => simp [intOf]; omega
        · have hje : j = P.length := by omega
          subst hje
          have hnlt : decide ((P.length : Int) < (P.length : Int)) = false := by simp
          have HM2 := hide (show ∀ x, x ∈ K ↔ x ∈ keysA (ks.take (i + 1)) from fun x => by rw [unhide HMEM x, unhide HT, List.take_length, List.mem_append])
          have HL2 := hide (show K.length ≤ (i + 1) * 1048576 by rw [Nat.add_mul]; omega)
          go_wp2_with fail
          go_roundw
          case rel => exact ⟨i + 1, gr, cr, K, rfl, by go_num, by omega, hcr, unhide HAT, unhide HASC, unhide HM2, unhide HL2, unhide HBL⟩
          case measure => simp [intOf]; omega
    · have hie : i = ks.length := by omega
      subst hie
      have hnlt : decide ((ks.length : Int) < (ks.length : Int)) = false := by simp
      have HFIN : Hid (∃ a cap K', Ending.returned (.slice (some ⟨gr, 0, none⟩) K.length cr) = .returned (.slice a K'.length cap) ∧ StrsAt wr a K' ∧ K'.Pairwise sl ∧ (∀ x, x ∈ K' ↔ x ∈ keysA ks) ∧ K'.length ≤ 1099511627776 ∧ Below w.heap.size w wr) :=
        ⟨_, cr, K, rfl, unhide HAT, unhide HASC, fun x => by rw [unhide HMEM x, List.take_length], by have := Nat.mul_le_mul_right 1048576 hkl; omega, unhide HWB⟩
      go_wp2_with fail
      go_ret
      exact unhide HFIN
end Go.Proofs.Ytgkimogaghgjaaa
