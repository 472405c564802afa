/-
  What the program's ReadTree comes to.
-/
import Derived.Test.YtccpcmhideijpaaDoorTrReadS
namespace Go.Proofs.YtccpcmhideijpaaDoor
open Go.RowKit
open Mth

set_option maxRecDepth 100000 in
set_option maxHeartbeats 4000000 in
theorem implReadTree_no (s : ByteArray) (w : World) (h0 : s.size = 0) :
    Calls Tryd.prog 6 #[.string s] w (GivesTr w (rdTree (upOf s))) := by
  have HU := hide (upOf_no s h0)
  have he := eq_empty s h0
  generalize upOf s = U at *
  subst he
  go_enter Tryd.func6, Tryd.ntmps6
  go_wp2_with fail
  refine bodyPost_atT (fun W' hW' => ?_)
  have e1 := tr_step (tr_step (heap_alloc_new w (.cells #[.slice (some ⟨w.heap.size + 1, 0, none⟩) 1 1] 24)) (below_one' _ (.cells #[.int .i64 (-1)] 3))) (below_one' _ (.cells #[.slice (some ⟨w.heap.size + 1, 0, none⟩) 1 1] 24))
  have e2 := tr_step (heap_alloc_new (w.alloc (.cells #[.slice (some ⟨w.heap.size + 1, 0, none⟩) 1 1] 24)) (.cells #[.int .i64 (-1)] 3)) (below_one' _ (.cells #[.slice (some ⟨w.heap.size + 1, 0, none⟩) 1 1] 24))
  rw [World.size_alloc] at e2
  rw [← hW'] at e1 e2
  have r0 := (one_at e1).1
  refine bodyPost_ret (v := .tuple #[.agg #[.slice (some ⟨w.heap.size + 1, 0, none⟩) 1 1], .bool true]) (by simp [results, Tryd.results6, go_sem, r0]) rfl ?_
  rw [unhide HU, show rdTree [-1] = ([-1], true) from rfl]
  refine ⟨_, rfl, ⟨rfl, .inr ⟨w.heap.size + 1, 1, #[.int .i64 (-1)], rfl, by omega, e2, Nat.le_refl _, by decide, rfl, rfl⟩⟩, ?_⟩
  rw [hW']
  exact ((below_one' w _).alloc (by simp) _).alloc (by simp; omega) _
set_option maxRecDepth 100000 in
set_option maxHeartbeats 4000000 in
theorem implReadTree_yes (s : ByteArray) (w : World) (h0 : s.size ≠ 0) (hs : s.size ≤ 1048576) (hM : MaxLenIs w) (hH : Handle w) :
    Calls Tryd.prog 6 #[.string s] w (GivesTr w (rdTree (upOf s))) := by
  obtain ⟨i0, hi, hz0, hz1, hz2⟩ := info_parts infoIntR
  have hne := not_empty s (by omega)
  have HW := hide (fun W (hb : Below w.heap.size w W) => implWords s W hs (hM.below hb))
  have HHA := hide (fun W (hb : Below w.heap.size w W) => hH.below hb)
  have hp := words_pos s
  have hmx := words_max s hs
  have HSZ := hide (words_size s)
  have HUL := hide (upOf_len s hs)
  have HU := hide (upOf_yes s h0)
  clear hM hH
  generalize words s = xs at *
  generalize upOf s = U at *
  have HTO := hide (fun a cap (W : World) (ha : IntsAt W a U) => implOk a cap U W (by have := unhide HUL; omega) ha)
  go_enter Tryd.func6, Tryd.ntmps6
  go_wp2_with fail
  generalize hW : ((w.alloc (.cells #[.slice none 0 0] 24)).alloc (.cells #[.int .i64 (-1)] 3)).alloc (.cells #[.slice (some ⟨w.heap.size + 1, 0, none⟩) 1 1] 24) = W0 at *
  have hS0 : RdSt w W0 (w.heap.size + 1 + 1) (.slice (some ⟨w.heap.size + 1, 0, none⟩) 1 1) [-1] := by
    have e1 := heap_alloc_new w (.cells #[.slice none 0 0] 24)
    have e2 := heap_alloc_new (w.alloc (.cells #[.slice none 0 0] 24)) (.cells #[.int .i64 (-1)] 3)
    have e3 := heap_alloc_new ((w.alloc (.cells #[.slice none 0 0] 24)).alloc (.cells #[.int .i64 (-1)] 3)) (.cells #[.slice (some ⟨w.heap.size + 1, 0, none⟩) 1 1] 24)
    simp only [World.size_alloc] at e2 e3
    have e2' := tr_step e2 (below_one' _ (.cells #[.slice (some ⟨w.heap.size + 1, 0, none⟩) 1 1] 24))
    have e1' := tr_step (tr_step e1 (below_one' _ (.cells #[.int .i64 (-1)] 3))) (below_one' _ (.cells #[.slice (some ⟨w.heap.size + 1, 0, none⟩) 1 1] 24))
    rw [hW] at e1' e2' e3
    refine ⟨?_, by omega, e1', e3, ⟨rfl, .inr ⟨w.heap.size + 1, 1, #[.int .i64 (-1)], rfl, Nat.le_refl _, e2', Nat.le_refl _, by decide, rfl, rfl⟩⟩, fun x hx => by simp [Value.ownBlock] at hx; omega⟩
    rw [← hW]
    exact ((below_one' w _).alloc (by simp) _).alloc (by simp; omega) _
  have HS0 := hide hS0
  clear hS0 hW
  refine (unhide HW _ (unhide HS0).keep).mono ?_
  rintro e w1 ⟨rfl, hblk1, hb1⟩
  have HS1 := hide ((unhide HS0).step hb1)
  have HCW := hide (fun i hi => hblk1.cell i hi)
  have hgw2 := hblk1.lt
  have HZ0 := hide (tr_lt (unhide HS0).tbl)
  have hgw1 : W0.heap.size ≤ W0.heap.size := Nat.le_refl _
  clear hblk1 hb1 HW HS0
  go_wp2_with fail
  go_loopw [15] (fun i wr => ∃ (k : Nat) (v : Value), k ≤ xs.length ∧ i = .int .i64 k ∧ RdSt w wr (w.heap.size + 1 + 1) v (upsOf (xs.take k)) ∧ (∀ i (hi : i < xs.length), wr.cell? ⟨W0.heap.size, i, none⟩ = some (.string xs[i])) ∧ W0.heap.size < wr.heap.size ∧ (∀ x, v.ownBlock = some x → x ≠ W0.heap.size)) (fun i _ => xs.length - (intOf i).toNat)
  case atStart => exact ⟨0, _, Nat.zero_le _, rfl, unhide HS1, unhide HCW, hgw2, fun x hx => by have := unhide HZ0; simp [Value.ownBlock] at hx; omega⟩
  case round =>
    obtain ⟨k, v, hk, rfl, hst, hcell, hgl, hvg⟩ := hrel
    have HVG := hide hvg
    clear hvg
    have HST := hide hst
    have HCE := hide hcell
    clear hst hcell HCW
    by_cases hlt : k < xs.length
    · obtain ⟨av, cv, hv, _⟩ := GR.own_at encNum_length (unhide HST).own
      have HLN := hide (show (upsOf (xs.take k)).length = k + 1 by rw [upsOf_len, List.length_take]; omega)
      rw [unhide HLN] at hv
      subst hv
      have HTK := hide (upsOf_take xs k hlt)
      have q1 := unhide HCE k hlt
      have hxs : xs[k].size ≤ s.size := unhide HSZ _ (List.getElem_mem hlt)
      generalize xs[k] = x at *
      have HRD := hide (fun W (hb : Ge wr W) => implReadDec x W (by unfold maxLen; omega) (unhide HHA _ ((unhide HST).keep.trans (hb.mono (unhide HST).keep.size))))
      generalize readDec x.data.toList = r at *
      have t1 := (one_at (unhide HST).tbl).1
      have z1 := cell_regrown t1
      clear t1
      go_upto_region 7 with fail
      refine wp_region_anyG (by kernel_rfl) ?_
      show wpAnyG _ _ _ _ 8 (Array.replicate 8 false) _ _
      refine wpAnyG_pure 0 rfl (by kernel_rfl) (by kernel_rfl) (by kernel_rfl) (fun _ _ _ _ h => h) (fun K hK => ?_)
      go_simp
      first
        | (refine hK _ ?_; clear hK K)
        | (apply Exists.intro
           refine ⟨fun _ => rfl, hK _ ?_⟩
           clear hK K)
      refine wpAnyG_pure 2 rfl (by kernel_rfl) (by kernel_rfl) (by kernel_rfl) (fun _ _ _ _ h => h) (fun K hK => ?_)
      go_simp
      first
        | (refine hK _ ?_; clear hK K)
        | (apply Exists.intro
           refine ⟨fun _ => rfl, hK _ ?_⟩
           clear hK K)
      refine wpAnyG_mixE 5 ?_
      refine wpMixE_take 1 20 rfl (by kernel_rfl) (by kernel_rfl) (by kernel_rfl) (by kernel_rfl) (by kernel_rfl) (fun _ _ _ _ h => h) (fun K hK => ?_)
      go_simp
      first
        | (refine hK _ ?_; clear hK K)
        | (apply Exists.intro
           refine ⟨fun _ => ?_, hK _ ?_⟩
           (fail)
           clear hK K)
      clear z1
      refine wpMixE_one 3 rfl (by kernel_rfl) (by rfl) (fun x9 hx9 => ?_)
      go_simp
      refine (unhide HRD x9 hx9).mono ?_
      rintro e y9 ⟨rfl, hby9⟩
      refine ⟨hby9, ?_⟩
      have HG9 := hide (Ge.trans hx9 hby9)
      clear hx9 hby9
      refine wpMixE_one 4 rfl (by kernel_rfl) (by rfl) (fun x0 hx0' => ?_)
      go_simp
      refine ⟨below_one' x0 _, ?_⟩
      have hx0 := Ge.trans (unhide HG9) hx0'
      clear hx0'
      have HSX := hide (((unhide HST).step hx0).step (below_one' x0 (.cells #[.int .i64 r] 3)))
      have HNX := hide (heap_alloc_new x0 (.cells #[.int .i64 r] 3))
      have HGE := hide (Ge.trans hx0 (below_one' x0 (.cells #[.int .i64 r] 3)))
      clear hx0
      generalize x0.alloc (.cells #[.int .i64 r] 3) = y at *
      refine wpMixE_leave (by kernel_rfl) (fun z hz => ?_)
      have HSZ2 := hide ((unhide HSX).step hz)
      have HNZ := hide (tr_step (unhide HNX) hz)
      have HGZ := hide (Ge.trans (unhide HGE) hz)
      clear hz HSX HNX HGE
      refine wpAny_one 5 rfl (by kernel_rfl) (by rfl) ?_
      refine wp_append_where z (.tmp 20) (.tmp 23) 22 rfl (w.heap.size + 1) 3 i0 (.int .i64 0) 1 8 Tryd.underlying22 hi hz0 hz1 hz2 rfl (by decide) (.slice av (k + 1) cv) (k + 1) (GR.flat encNum (upsOf (xs.take k))) (by simp [Act.eval]) (by have h := (unhide HSZ2).own; rw [unhide HLN] at h; exact h) ⟨x0.heap.size, 0, none⟩ 1 1 [.int .i64 r] (by simp [Act.eval]) rfl (World.news_of_block (unhide HNZ)) (by intro u hu; simp at hu; subst hu; rfl) (by unfold maxLen; omega) (by omega) (by have h := (unhide HSZ2).keep.size; have h2 := tr_lt (unhide HSZ2).res; omega) ?_
      intro v6 w6 hown6 hgr6 hwh6
      obtain ⟨hb6, hS6⟩ := (unhide HSZ2).app r (by rw [unhide HLN]; exact hown6) hgr6 hwh6
      obtain ⟨va6, vc6, hv6, _⟩ := GR.own_at encNum_length hS6.own
      rw [List.length_append, unhide HLN] at hv6
      have hv7 : v6 = .slice va6 (k + 1 + 1) vc6 := hv6
      subst hv7
      clear hv6
      have HS6 := hide hS6
      obtain ⟨kc, kf⟩ := one_at hb6
      have HW6 := hide hgr6
      have HV6 := hide hwh6
      clear hown6 hgr6 hwh6 hb6 hS6
      refine wpAny_one 6 rfl (by kernel_rfl) (by rfl) ?_
      go_simp
      refine wpAny_one 7 rfl (by kernel_rfl) (by rfl) ?_
      go_simp
      refine wpAny_done (by kernel_rfl) ?_
      go_simp
      go_wp2_with fail
      have hzg : W0.heap.size < z.heap.size := Nat.lt_of_lt_of_le hgl (unhide HGZ).size
      have hgb : w6.heap[W0.heap.size]? = wr.heap[W0.heap.size]? := by
        rw [(unhide HW6).block W0.heap.size hzg (fun hm => unhide HVG W0.heap.size hm.symm rfl)]
        exact (unhide HGZ).block W0.heap.size hgl
      go_roundw
      case rel =>
        refine ⟨k + 1, _, by omega, by go_num, by rw [unhide HTK]; exact unhide HS6, fun i hi => ?_, ?_, fun x hx => ?_⟩
        · have h2 : (w6.setCell ⟨w.heap.size + 1 + 1, 0, none⟩ (.slice va6 (k + 1 + 1) vc6)).heap[W0.heap.size]? = wr.heap[W0.heap.size]? := (Below.heap_setCell _ _ _ _ (by have := unhide HZ0; simp; omega)).trans hgb
          have h3 := unhide HCE i hi
          unfold World.cell? at h3 ⊢
          rw [h2]
          exact h3
        · have := (unhide HW6).size
          simp [World.setCell]
          omega
        · rcases unhide HV6 x hx with h | h
          · exact unhide HVG x h
          · omega
      case measure => simp [intOf]; omega
    · have hke : k = xs.length := by omega
      subst hke
      rw [List.take_length, ← unhide HU] at HST
      obtain ⟨av, cv, hv, hat⟩ := GR.own_at encNum_length (unhide HST).own
      subst hv
      have HAT := hide hat
      have HS2 := HST
      clear hat
      have t1 := (one_at (unhide HS2).tbl).1
      go_wp2_with fail
      refine (unhide HTO _ _ _ (unhide HAT)).mono ?_
      rintro e w3 ⟨rfl, hb3⟩
      have HS3 := hide ((unhide HS2).step hb3)
      have t3 := (one_at (unhide HS3).tbl).1
      obtain ⟨r3, f3⟩ := one_at (unhide HS3).res
      clear t1 hb3 HS2 HTO
      cases htb : treeB U
      · have HR := hide (show rdTree U = ([], false) by unfold rdTree; rw [htb]; rfl)
        clear htb
        go_wp2_with fail
        refine bodyPost_atT (fun W' hW' => ?_)
        have h1 : W'.heap[w.heap.size]? = some (.cells #[.slice none 0 0] 24 (0, 0)) := by rw [hW']; exact one_set _ (unhide HS3).res
        have r0 := (one_at h1).1
        refine bodyPost_ret (v := .tuple #[.agg #[.slice none 0 0], .bool false]) (by simp [results, Tryd.results6, go_sem, r0]) rfl ?_
        rw [unhide HR]
        refine ⟨_, rfl, World.ownsRow_nil _ _ _ _, ?_⟩
        rw [hW']
        exact (unhide HS3).keep.setCell (p := ⟨w.heap.size, 0, none⟩) (Nat.le_refl _) _
      · have HR := hide (show rdTree U = (U, true) by unfold rdTree; rw [htb]; rfl)
        clear htb
        go_wp2_with fail
        refine bodyPost_atT (fun W' hW' => ?_)
        have h1 : W'.heap[w.heap.size]? = some (.cells #[.slice av U.length cv] 24 (0, 0)) := by rw [hW']; exact one_set _ (unhide HS3).res
        have r0 := (one_at h1).1
        refine bodyPost_ret (v := .tuple #[.agg #[.slice av U.length cv], .bool true]) (by simp [results, Tryd.results6, go_sem, r0]) rfl ?_
        rw [unhide HR]
        refine ⟨_, rfl, ?_, ?_⟩
        · rw [hW']
          exact own_set (B := w.heap.size) (GR.own_lower (unhide HS3).own (by omega)) (fun x hx => by have := ((unhide HS3).own.lt x hx).1; omega)
        · rw [hW']
          exact (unhide HS3).keep.setCell (p := ⟨w.heap.size, 0, none⟩) (Nat.le_refl _) _
theorem implReadTree (s : ByteArray) (w : World) (hs : s.size ≤ 1048576) (hM : MaxLenIs w) (hH : Handle w) :
    Calls Tryd.prog 6 #[.string s] w (GivesTr w (rdTree (upOf s))) := by
  by_cases h0 : s.size = 0
  · exact implReadTree_no s w h0
  · exact implReadTree_yes s w h0 hs hM hH
end Go.Proofs.YtccpcmhideijpaaDoor
