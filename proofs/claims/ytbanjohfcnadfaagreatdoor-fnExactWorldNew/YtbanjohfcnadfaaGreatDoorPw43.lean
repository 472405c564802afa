/- Parts. -/
import Derived.Test.YtbanjohfcnadfaaGreatDoorPw35
import Derived.Test.YtbanjohfcnadfaaGreatDoorPw42
import Derived.Test.YtbanjohfcnadfaaGreatDoorPw32
import Derived.Test.YtbanjohfcnadfaaGreatDoorPw28
namespace Go.Proofs.YtbanjohfcnadfaaGreatDoor
open Go.RowKit
open Mth

set_option maxRecDepth 100000 in
set_option maxHeartbeats 8000000 in
theorem specWorldNew (a : Option Addr) (cap : Nat) (l : List Int) (w : World) (hl : l.length ≤ 1048600) (ha : IntsAt w a l) :
    Calls Tryz.prog 5 #[trv a l cap] w (GivesWN w l) := by
  have HA := hide ha
  clear ha
  go_enter Tryz.func5, Tryz.ntmps5
  go_upto_region 1 with fail
  refine wp_at (fun W0 hW => ?_)
  obtain ⟨e1, e2, e3⟩ : W0.heap[w.heap.size]? = some (.cells #[.slice a l.length cap] 26 (0, 0)) ∧ W0.heap[w.heap.size + 1]? = some (.cells zw5 32 (0, 0)) ∧ Below w.heap.size w W0 := by
    subst hW
    exact allocsE2 w (.cells #[.slice a l.length cap] 26) (.cells zw5 32)
  have HT := hide e1
  have HR := hide e2
  have HB := hide e3
  have t0 := (one_at e1).1
  have hw0 := obj_lt e2
  clear hW e1 e2 e3
  go_wp2_with fail
  refine (specTreeOk a cap l W0 hl (GR.At.below (unhide HA) (unhide HB))).mono ?_
  rintro e W1 ⟨rfl, hb1⟩
  have HT1 := hide (obj_step (unhide HT) hb1)
  have HR1 := hide (obj_step (unhide HR) hb1)
  have HB1 := hide ((unhide HB).trans (hb1.mono (unhide HB).size))
  have hw1 := Nat.lt_of_lt_of_le hw0 hb1.size
  clear hb1 t0 HT HR HB hw0
  cases htb : treeB l
  · have HTB := hide htb
    clear htb
    go_upto_region 2 with fail
    refine wp_region_list ?_
    show wpList _ _ _ [_, _, _] _ _
    refine wpList_plain rfl (fun K hK => ?_)
    go_simp
    refine hK _ _ ?_
    clear hK K
    refine wpList_store_mid rfl 32 (.tmp 2) (.tmp 12) rfl (w.heap.size + 1) 0 zw5 rfl rfl (fun j hj => ⟨blk22 (unhide HR1) hj, obj_free (unhide HR1) _⟩) (by kernel_rfl) (by kernel_rfl) ?_
    have hrg := World.rangeAt_setCells_same W1 (w.heap.size + 1) 0 zw5.toList (fun j hj => ⟨blk22 (unhide HR1) hj, obj_free (unhide HR1) _⟩)
    have hbb := setCells_below (B := w.heap.size) (show w.heap.size ≤ w.heap.size + 1 by omega) zw5.toList w W1 0 (unhide HB1)
    have HRG := hide hrg
    have HBB := hide hbb
    clear hrg hbb
    generalize W1.setCells (w.heap.size + 1) 0 zw5.toList = W2 at *
    go_wp2_with fail
    refine bodyPost_ret (v := .tuple #[.agg zw5, .bool false]) ?_ rfl (GivesWN.no (unhide HTB) (unhide HBB))
    exact results_two (p := 2) (q := 3) rfl _ W2 (w.heap.size + 1) zw5.toList _ rfl (unhide HRG) Tryz.underlying32 rfl (by kernel_rfl)
  · have HTB := hide htb
    have hl30 := (TreeP.of htb).le
    clear htb
    obtain ⟨t1, _⟩ := one_at (unhide HT1)
    obtain ⟨i0, hi, hz0, hz1, hz2⟩ := info_parts infoInt
    obtain ⟨ua, uc, W2, hrun, ho2, hb2, _⟩ := run_copy_row (P := Tryz.prog) (enc := encNum) encNum_length (by omega) W1 22 3 i0 (.int .i64 0) 8 Tryz.underlying22 hi hz0 hz1 hz2 rfl a l cap (GR.At.below (unhide HA) (unhide HB1)) (by intro u hu; rw [flat_num] at hu; obtain ⟨z, _, rfl⟩ := List.mem_map.1 hu; rfl) (by unfold maxLen; omega) (by omega)
    clear hi hz0 hz1 hz2
    have hwl := obj_lt (unhide HT1)
    go_upto_region 4 with (at_builtin; refine wpList_append_eq rfl _ _ 22 rfl _ _ rfl rfl _ _ (hrun _) ?_)
    clear hrun
    have HO2 := hide ho2
    have HT2 := hide (obj_step (unhide HT1) hb2)
    have HR2 := hide (obj_step (unhide HR1) hb2)
    have HB2 := hide ((unhide HB1).trans (hb2.mono (unhide HB1).size))
    have hw2 := Nat.lt_of_lt_of_le hw1 hb2.size
    have h12 := hb2.size
    clear hb2 ho2 t1 HT1 HR1
    refine wp_at (fun W3 hW => ?_)
    have hW' : W3 = W2.alloc (.cells (wn5 (.slice ua l.length uc) (.slice none 0 0)) 32) := hW
    have hb3 : Below W2.heap.size W2 W3 := by rw [hW']; exact below_one W2 _
    have HG3 : Hid (W3.heap[W2.heap.size]? = some (.cells (wn5 (.slice ua l.length uc) (.slice none 0 0)) 32 (0, 0))) := by rw [hW']; exact heap_alloc_new W2 _
    have hw3 := obj_lt (unhide HG3)
    clear hW hW'
    have HO3 := hide (GR.own_below (unhide HO2) hb3)
    have HT3 := hide (obj_step (unhide HT2) hb3)
    have HR3 := hide (obj_step (unhide HR2) hb3)
    have HB3 := hide ((unhide HB2).trans (hb3.mono (unhide HB2).size))
    have HOB := hide (fun b (hb : (Value.slice ua l.length uc).ownBlock = some b) => (unhide HO2).lt b hb)
    clear hb3 HO2 HT2 HR2 HB2
    generalize W2.heap.size = g4 at *
    obtain ⟨t3, _⟩ := one_at (unhide HT3)
    go_wp2_with fail
    refine (specTreeNodes a cap l W3 hl (GR.At.below (unhide HA) (unhide HB3))).mono ?_
    rintro e W4 ⟨nv, NS, rfl, hNm, hNL, hb4⟩
    obtain ⟨na, nc, ng, rfl, hNR, hNrg⟩ := hNL.nr
    obtain ⟨hsm, hlen⟩ := small_of hNm
    have HSM := hide hsm
    have HNM := hide hNm
    have HNR := hide hNR
    have HNG := hide (show ∀ x ∈ fp ng NS ++ fpN NS, x ∉ [g4] from fun x hx hm => by have h1 := (hNrg x hx).1; have h2 := List.mem_singleton.1 hm; omega)
    have HO4 := hide (GR.own_below (unhide HO3) hb4)
    have HR4 := hide (obj_step (unhide HR3) hb4)
    have HG4 := hide (obj_step (unhide HG3) hb4)
    have HB4 := hide ((unhide HB3).trans (hb4.mono (unhide HB3).size))
    have hw4 := hb4.size
    clear hsm hNm hNL hNR hNrg hb4 t3 HO3 HR3 HG3 HB3 HT3 HA
    go_wp2_with fail
    go_loopw [6] (fun i wr => ∃ (k : Nat) (kv : Value) (K : List KdI), k ≤ NS.length ∧ i = .int .i64 k ∧ K.map (fun x => x.1) = (NS.take k).map (fun x => keepK x.1) ∧ KL wr W4.heap.size kv K ∧ wr.heap[g4]? = some (.cells (wn5 (.slice ua l.length uc) kv) 32 (0, 0)) ∧ KeepsL [g4] W4 wr) (fun i _ => NS.length - (intOf i).toNat)
    case atStart => exact ⟨0, .slice none 0 0, [], Nat.zero_le _, rfl, rfl, KL.nil (World.ownsRow_nil _ _ _ _), unhide HG4, KeepsL.refl _ _⟩
    case round =>
      obtain ⟨k, kv, K, hk, rfl, hKm, hKL, hG, hkp⟩ := hrel
      obtain ⟨w1, hw1'⟩ : ∃ x, x = wr := ⟨_, rfl⟩
      subst hw1'
      have HKM := hide hKm
      have HKL := hide hKL
      have HG := hide hG
      have HKP := hide hkp
      have h41 := hkp.size
      clear hKm hKL hG hkp
      by_cases hlt : k < NS.length
      · obtain ⟨e0, hg0, hc0, hN0⟩ := node_one ((unhide HNR).keeps (unhide HKP) (unhide HNG)) k hlt
        have HSK := hide (unhide HSM NS[k] (List.getElem_mem hlt)).sz
        have HMK := hide (show (NS.take (k + 1)).map (fun x => keepK x.1) = (NS.take k).map (fun x => keepK x.1) ++ [keepK NS[k].1] by rw [List.take_succ_eq_append_getElem hlt, List.map_append]; rfl)
        have hklen : K.length ≤ 1000 := by have h := congrArg List.length (unhide HKM); simp at h; omega
        subst e0
        generalize NS[k] = x at *
        obtain ⟨nx, Ax, Gx⟩ := x
        dsimp only at HSK hN0 HMK
        have HN0 := hide hN0.at
        have HKK := hide (show keepK nx = newE (newK nx) from rfl)
        have a0 := hc0 0 (by omega)
        have a1 := hc0 1 (by omega)
        have a2 := hc0 2 (by omega)
        have a3 := hc0 3 (by omega)
        have a4 := hc0 4 (by omega)
        have a5 := hc0 5 (by omega)
        have a6 := hc0 6 (by omega)
        have a7 := hc0 7 (by omega)
        have a8 := hc0 8 (by omega)
        simp only [Nat.add_zero] at a0
        simp only [enc9, r9, List.getElem?_cons_zero, List.getElem?_cons_succ] at a0 a1 a2 a3 a4 a5 a6 a7 a8
        clear hc0 hN0
        have HIM := hide (specKeeperNewW nx Ax w1 (unhide HSK) (unhide HN0))
        unfold GivesW at HIM
        go_wp2_with fail
        refine (unhide HIM).mono ?_
        rintro e w7 ⟨A2, A1, G2, G1, rfl, m2, m1, nd2, nd1, hdis, hrng, hb7⟩
        have hbx : Below w1.heap.size w1 w7 := hb7
        have HKW0 := hide (show KdW w7 (newE (newK nx), (A2, G2), (A1, G1)) from ⟨m2, m1⟩)
        have HND := hide (show (allK (newE (newK nx), (A2, G2), (A1, G1))).Nodup from List.nodup_append.2 ⟨nd2, nd1, fun x hx y hy e => hdis x hx (by rw [e]; exact hy)⟩)
        have HRG := hide (show ∀ b ∈ allK (newE (newK nx), (A2, G2), (A1, G1)), w1.heap.size ≤ b from fun b hb => hrng b hb)
        clear m2 m1 nd2 nd1 hdis hrng hb7 a0 a1 a2 a3 a4 a5 a6 a7 a8 HIM
        generalize newK nx = nn at *
        have h17 := hbx.size
        have HBX := hide hbx
        clear hbx
        obtain ⟨VS, hVS⟩ : ∃ VS, IsK VS nn A2 A1 := ⟨_, rfl⟩
        rw [hVS.agg]
        have HVS := hide hVS
        clear hVS
        rename_i hKK
        refine hKK _ _ ?_
        clear hKK
        refine BigFrame.wpList_want (by rfl) (fun K hK => ?_)
        go_simp
        refine hK _ _ ?_
        clear hK K
        refine BigFrame.wpList_want (by rfl) (fun K hK => ?_)
        go_simp
        refine hK _ _ ?_
        clear hK K
        refine BigFrame.wpList_want (by rfl) (fun K hK => ?_)
        go_simp
        refine hK _ _ ?_
        clear hK K
        refine BigFrame.wpList_want (by rfl) (fun K hK => ?_)
        go_simp
        refine hK _ _ ?_
        clear hK K
        refine kStore (by rfl) (.tmp 7) (.tmp 33) rfl w7.heap.size rfl VS rfl (unhide HVS).len (unhide HVS).one (heap_alloc_new w7 _) (fun W8 hW8 hR8 => ?_)
        have hb8 : Below w7.heap.size w7 W8 := by subst hW8; exact setCells_below (Nat.le_refl _) _ _ _ _ (below_one w7 _)
        have HR8 := hide hR8
        have HKW := hide ((unhide HKW0).below hb8)
        have HBX8 := hide ((unhide HBX).trans (hb8.mono (unhide HBX).size))
        have HG8 := hide (obj_step (unhide HG) (unhide HBX8))
        have h78 := hb8.size
        clear hW8 hR8 hb8 HKW0 HBX
        obtain ⟨v', w9, hrun, hKL9, hg9⟩ := KL.more (x := (newE nn, (A2, G2), (A1, G1))) (unhide HKL) (by omega) hklen (unhide HBX8) (unhide HKW) (unhide HND) (fun b hb => ⟨unhide HRG b hb, (unhide HKW).lt b hb⟩)
        have hlo9 : ∀ b, kv.ownBlock = some b → W4.heap.size ≤ b := fun b hb => ((unhide HKL).blk_lt b hb).1
        have hk8 := (KeepsL.of_below (F := [g4]) (unhide HBX8)).trans (KeepsL.of_below (below_one W8 (.cells (encN (newE nn, (A2, G2), (A1, G1))).toArray 54)))
        have hk9 := grown_low ((unhide HKP).trans hk8) hg9 hlo9 (Nat.le_refl _)
        have hG9 : w9.heap[g4]? = some (.cells (wn5 (.slice ua l.length uc) kv) 32 (0, 0)) := by
          refine (hg9.block g4 (by simp; have := obj_lt (unhide HG8); omega) (fun e => by have := hlo9 g4 e.symm; omega)).trans ?_
          exact (below_one W8 _).block g4 (obj_lt (unhide HG8)) |>.trans (unhide HG8)
        have HKL9 := hide (hKL9.keeps (KeepsL.set (g := g4) (i := 1) v') (fun x hx => by rw [List.mem_singleton.1 hx]; omega))
        have HG9 := hide (five_set v' hG9)
        have HK9 := hide (hk9.trans (KeepsL.set (i := 1) v'))
        have cc := cell_of_row W8 g4 1 _ 32 (0, 0) (unhide HG8)
        have cc1 : W8.cell? ⟨g4, 1, none⟩ = some kv := cc
        have dd := cell_of_row w9 g4 1 _ 32 (0, 0) hG9
        have dd1 : w9.cell? ⟨g4, 1, none⟩ = some kv := dd
        have df1 : w9.frozen? ⟨g4, 1, none⟩ = false := obj_free hG9 1
        have hsh : ∃ xa xn xc, v' = .slice xa xn xc := by obtain ⟨xa, xc, xg, e, _⟩ := hKL9.kr; exact ⟨xa, _, xc, e⟩
        clear hk8 hk9 hlo9 hKL9 hg9 hG9 HKW HND HRG HG8 HBX8 cc dd
        go_upto_region 9 with fail
        refine wp_region_list ?_
        show wpList _ _ _ [_, _, _, _, _, _, _] _ _
        refine BigFrame.wpList_want (by rfl) (fun K hK => ?_)
        go_simp
        refine hK _ _ ?_
        clear hK K
        refine BigFrame.wpList_want (by rfl) (fun K hK => ?_)
        go_simp
        refine hK _ _ ?_
        clear hK K
        refine kLoad (by rfl) (.tmp 7) rfl w7.heap.size rfl VS (unhide HVS).len (unhide HR8) ?_
        have hVS2 := unhide HVS
        unfold IsK at hVS2
        subst hVS2
        have hrun2 : (Builtin.append_ #[27, 27] 27 #[kv, .slice (some ⟨W8.heap.size, 0, none⟩) 1 1]).run Tryz.prog (W8.alloc (.cells (nkc nn A2 A1) 54)) = .ok v' w9 := hrun
        clear hrun
        obtain ⟨xa, xn, xc, rfl⟩ := hsh
        go_wp2_with (at_builtin; refine wpList_append_eqN rfl _ _ 27 rfl _ _ rfl rfl _ _ hrun2 ?_)
        go_roundw
        case rel => exact ⟨k + 1, _, K ++ [(newE nn, (A2, G2), (A1, G1))], by omega, by go_num, by rw [List.map_append, unhide HKM, unhide HMK, unhide HKK]; rfl, unhide HKL9, unhide HG9, unhide HK9⟩
        case measure => simp [intOf]; omega
      · have hke : k = NS.length := by omega
        subst hke
        have hnlt : decide ((NS.length : Int) < (NS.length : Int)) = false := by simp
        have hKm2 := unhide HKM
        rw [List.take_length] at hKm2
        have HKM2 := hide hKm2
        clear hKm2
        obtain ⟨ka, kc, kg, rfl, _, _⟩ := (unhide HKL).kr
        have HR9 := hide ((unhide HKP).obj (unhide HR4) (fun hm => by have := List.mem_singleton.1 hm; omega))
        go_upto_region 10 with fail
        refine wp_region_list ?_
        show wpList _ _ _ [_, _, _] _ _
        refine wpList_load_mid rfl 32 (.tmp 4) rfl g4 0 rfl (wn5 (.slice ua l.length uc) (.slice ka K.length kc)).toList _ (range_row (unhide HG) (fun j v hj => by rw [Nat.zero_add]; simpa using hj)) Tryz.underlying32 rfl (by kernel_rfl) ?_
        refine wpList_store_mid rfl 32 (.tmp 2) (.tmp 41) rfl (w.heap.size + 1) 0 (wn5 (.slice ua l.length uc) (.slice ka K.length kc)) rfl rfl (fun j hj => ⟨blk22 (unhide HR9) hj, obj_free (unhide HR9) _⟩) (by kernel_rfl) (by kernel_rfl) ?_
        have hrg := World.rangeAt_setCells_same w1 (w.heap.size + 1) 0 (wn5 (.slice ua l.length uc) (.slice ka K.length kc)).toList (fun j hj => ⟨blk22 (unhide HR9) hj, obj_free (unhide HR9) _⟩)
        have hks : KeepsL [w.heap.size + 1] w1 (w1.setCells (w.heap.size + 1) 0 (wn5 (.slice ua l.length uc) (.slice ka K.length kc)).toList) := setCells_keeps _ _ _ _
        have HKL10 := hide ((unhide HKL).keeps hks (fun x hx => by rw [List.mem_singleton.1 hx]; omega))
        have HO10 := hide (own_off (own_off (unhide HO4) (unhide HKP) (fun b hb hm => by have h1 := unhide HOB b hb; have h2 := List.mem_singleton.1 hm; omega)) hks (fun b hb hm => by have h1 := unhide HOB b hb; have h2 := List.mem_singleton.1 hm; omega))
        have HB10 := hide (keeps_below ((unhide HB4).trans ((unhide HKP).below (B := w.heap.size) (fun x hx => by rw [List.mem_singleton.1 hx]; omega) (unhide HB4).size)) hks (by omega))
        have HRG := hide hrg
        clear hrg hks
        generalize w1.setCells (w.heap.size + 1) 0 (wn5 (.slice ua l.length uc) (.slice ka K.length kc)).toList = W10 at *
        go_wp2_with fail
        refine bodyPost_ret (v := .tuple #[.agg (wn5 (.slice ua l.length uc) (.slice ka K.length kc)), .bool true]) ?_ rfl (GivesWN.yes (unhide HTB) (by rw [unhide HKM2, keepsT, ← unhide HNM, List.map_map]; rfl) (GR.own_lower (unhide HO10) (by omega)) ((unhide HKL10).lower (by have := (unhide HB4).size; omega)) (fun b hb => by
          have h1 := unhide HOB b hb
          exact ⟨fun e => by have := ((unhide HKL).blk_lt b e).1; omega, fun hm => by have := ((unhide HKL).rng b hm).1; omega⟩) (unhide HB10))
        exact results_two (p := 2) (q := 3) rfl _ W10 (w.heap.size + 1) (wn5 (.slice ua l.length uc) (.slice ka K.length kc)).toList _ rfl (unhide HRG) Tryz.underlying32 rfl (by kernel_rfl)
end Go.Proofs.YtbanjohfcnadfaaGreatDoor
