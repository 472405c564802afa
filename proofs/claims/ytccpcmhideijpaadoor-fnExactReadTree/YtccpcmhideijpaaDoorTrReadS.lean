/-
  What the model's ReadTree comes to.
-/
import Derived.Test.YtccpcmhideijpaaDoorTrSt
import Derived.Test.YtccpcmhideijpaaDoorWordsI
import Derived.Test.YtccpcmhideijpaaDoorReadDecI
import Derived.Deep.Cut
import Derived.Deep.AppendLies
namespace Go.Proofs.YtccpcmhideijpaaDoor
open Go.RowKit
open Mth

/-- The list of parents of a text, up to a word. -/
def upsOf (xs : List ByteArray) : List Int := -1 :: xs.map (fun x => readDec x.data.toList)
def upOf (s : ByteArray) : List Int := upsOf (if s.size = 0 then [] else words s)
def rdTree (l : List Int) : List Int × Bool := if treeB l = true then (l, true) else ([], false)
theorem upsOf_snoc (xs : List ByteArray) (x : ByteArray) : upsOf (xs ++ [x]) = upsOf xs ++ [readDec x.data.toList] := by simp [upsOf]
theorem upsOf_len (xs : List ByteArray) : (upsOf xs).length = xs.length + 1 := by simp [upsOf]
theorem upsOf_take (xs : List ByteArray) (k : Nat) (hk : k < xs.length) : upsOf (xs.take (k + 1)) = upsOf (xs.take k) ++ [readDec xs[k].data.toList] := by
  rw [List.take_succ_eq_append_getElem hk, upsOf_snoc]
theorem upOf_len (s : ByteArray) (hs : s.size ≤ 1048576) : (upOf s).length ≤ 1048578 := by
  unfold upOf
  rw [upsOf_len]
  have := words_max s hs
  split <;> simp <;> omega
theorem upOf_no (s : ByteArray) (h : s.size = 0) : upOf s = [-1] := by unfold upOf; rw [if_pos h]; rfl
theorem upOf_yes (s : ByteArray) (h : s.size ≠ 0) : upOf s = upsOf (words s) := by unfold upOf; rw [if_neg h]
set_option maxRecDepth 100000 in
set_option maxHeartbeats 4000000 in
theorem specReadTree (s : ByteArray) (w : World) (hs : s.size ≤ 1048576) :
    Calls Tryd.prog 5 #[.string s] w (GivesTr w (rdTree (upOf s))) := by
  obtain ⟨i0, hi, hz0, hz1, hz2⟩ := info_parts infoIntR
  have HW := hide (fun W => specWords s W hs)
  have hp := words_pos s
  have hmx := words_max s hs
  have HSZ := hide (words_size s)
  have HUL := hide (upOf_len s hs)
  have HUN := hide (upOf_no s)
  have HUY := hide (upOf_yes s)
  generalize words s = xs at *
  generalize upOf s = U at *
  have HTO := hide (fun a cap (W : World) (ha : IntsAt W a U) => specTreeOk a cap U W (by have := unhide HUL; omega) ha)
  have hsz3 : s.size ≤ 1048576 := hs
  go_enter Tryd.func5, Tryd.ntmps5
  go_wp2_with fail
  generalize hW : ((w.alloc (.cells #[.slice none 0 0] 24)).alloc (.cells #[.int .i64 (-1)] 3)).alloc (.cells #[.slice (some ⟨w.heap.size + 1, 0, none⟩) 1 1] 24) = W0 at *
  have hS0 : RdSt w W0 (w.heap.size + 1 + 1) (.slice (some ⟨w.heap.size + 1, 0, none⟩) 1 1) [-1] := by
    have e1 := heap_alloc_new w (.cells #[.slice none 0 0] 24)
    have e2 := heap_alloc_new (w.alloc (.cells #[.slice none 0 0] 24)) (.cells #[.int .i64 (-1)] 3)
    have e3 := heap_alloc_new ((w.alloc (.cells #[.slice none 0 0] 24)).alloc (.cells #[.int .i64 (-1)] 3)) (.cells #[.slice (some ⟨w.heap.size + 1, 0, none⟩) 1 1] 24)
    simp only [World.size_alloc] at e2 e3
    have e2' := tr_step e2 (below_one' _ (.cells #[.slice (some ⟨w.heap.size + 1, 0, none⟩) 1 1] 24))
    have e1' := tr_step (tr_step e1 (below_one' _ (.cells #[.int .i64 (-1)] 3))) (below_one' _ (.cells #[.slice (some ⟨w.heap.size + 1, 0, none⟩) 1 1] 24))
    rw [hW] at e1' e2' e3
    refine ⟨?_, by omega, e1', e3, ⟨rfl, .inr ⟨w.heap.size + 1, 1, #[.int .i64 (-1)], rfl, Nat.le_refl _, e2', Nat.le_refl _, by decide, rfl, rfl⟩⟩, fun x hx => by simp [Value.ownBlock] at hx; omega⟩
    rw [← hW]
    exact ((below_one' w _).alloc (by simp) _).alloc (by simp; omega) _
  have HS0 := hide hS0
  clear hS0 hW
  refine (unhide HW _).mono ?_
  rintro e w1 ⟨v1, rfl, hown1, hb1⟩
  obtain ⟨gw, cw, rfl, hgw1, hgw2, hcw⟩ := own_cells hown1 hp
  have HS1 := hide ((unhide HS0).step hb1)
  have HCW := hide hcw
  have HZ0 := hide (tr_lt (unhide HS0).tbl)
  clear hown1 hcw hb1 HW HS0
  by_cases h0 : s.size = 0
  · have HU := hide (unhide HUN h0)
    have he := eq_empty s h0
    clear HUN HUY
    subst he
    go_wp2_with fail
    go_loopw [6] (fun i wr => i = .int .i64 0 ∧ wr = w1) (fun i _ => 0)
    case atStart => exact ⟨rfl, rfl⟩
    case round =>
      obtain ⟨rfl, rfl⟩ := hrel
      have HS2 := hide (show RdSt w wr (w.heap.size + 1 + 1) (.slice (some ⟨w.heap.size + 1, 0, none⟩) U.length 1) U by rw [unhide HU]; exact unhide HS1)
      have hSL : (.slice (some ⟨w.heap.size + 1, 0, none⟩) 1 1 : Value) = .slice (some ⟨w.heap.size + 1, 0, none⟩) U.length 1 := by rw [unhide HU]; rfl
      obtain ⟨av, cv, hv, hat⟩ := GR.own_at encNum_length (unhide HS2).own
      cases hv
      have HAT := hide hat
      clear hat HS1
      have t1 := (one_at (unhide HS2).tbl).1
      go_wp2_with fail
      refine (unhide HTO _ _ _ (unhide HAT)).mono ?_
      rintro e w3 ⟨rfl, hb3⟩
      have HS3 := hide ((unhide HS2).step hb3)
      have t3 := (one_at (unhide HS3).tbl).1
      obtain ⟨r3, f3⟩ := one_at (unhide HS3).res
      clear t1 hb3 HS2 HTO
      cases htb : treeB U
      · have HR := hide (show rdTree U = ([], false) by unfold rdTree; rw [htb]; rfl)
        clear htb
        go_wp2_with fail
        refine bodyPost_atT (fun W' hW' => ?_)
        have h1 : W'.heap[w.heap.size]? = some (.cells #[.slice none 0 0] 24 (0, 0)) := by rw [hW']; exact one_set _ (unhide HS3).res
        have r0 := (one_at h1).1
        refine bodyPost_ret (v := .tuple #[.agg #[.slice none 0 0], .bool false]) (by simp [results, Tryd.results5, go_sem, r0]) rfl ?_
        rw [unhide HR]
        refine ⟨_, rfl, World.ownsRow_nil _ _ _ _, ?_⟩
        rw [hW']
        exact (unhide HS3).keep.setCell (p := ⟨w.heap.size, 0, none⟩) (Nat.le_refl _) _
      · have HR := hide (show rdTree U = (U, true) by unfold rdTree; rw [htb]; rfl)
        clear htb
        go_wp2_with fail
        refine bodyPost_atT (fun W' hW' => ?_)
        have h1 : W'.heap[w.heap.size]? = some (.cells #[.slice (some ⟨w.heap.size + 1, 0, none⟩) U.length 1] 24 (0, 0)) := by rw [hW']; exact one_set _ (unhide HS3).res
        have r0 := (one_at h1).1
        refine bodyPost_ret (v := .tuple #[.agg #[.slice (some ⟨w.heap.size + 1, 0, none⟩) U.length 1], .bool true]) (by simp [results, Tryd.results5, go_sem, r0]) rfl ?_
        rw [unhide HR]
        refine ⟨_, rfl, ?_, ?_⟩
        · rw [hW']
          exact own_set (B := w.heap.size) (GR.own_lower (unhide HS3).own (by omega)) (fun x hx => by have := ((unhide HS3).own.lt x hx).1; omega)
        · rw [hW']
          exact (unhide HS3).keep.setCell (p := ⟨w.heap.size, 0, none⟩) (Nat.le_refl _) _
  have HU := hide (unhide HUY h0)
  have hne := not_empty s (by omega)
  clear HUN HUY
  go_wp2_with fail
  go_loopw [6] (fun i wr => ∃ (k : Nat) (v : Value), k ≤ xs.length ∧ i = .int .i64 k ∧ RdSt w wr (w.heap.size + 1 + 1) v (upsOf (xs.take k)) ∧ (∀ i (hi : i < xs.length), wr.cell? ⟨gw, i, none⟩ = some (.string xs[i])) ∧ gw < wr.heap.size ∧ (∀ x, v.ownBlock = some x → x ≠ gw)) (fun i _ => xs.length - (intOf i).toNat)
  case atStart => exact ⟨0, _, Nat.zero_le _, rfl, unhide HS1, unhide HCW, hgw2, fun x hx => by have := unhide HZ0; simp [Value.ownBlock] at hx; omega⟩
  case round =>
    obtain ⟨k, v, hk, rfl, hst, hcell, hgl, hvg⟩ := hrel
    have HVG := hide hvg
    clear hvg
    have HST := hide hst
    have HCE := hide hcell
    clear hst hcell HCW
    by_cases hlt : k < xs.length
    · obtain ⟨av, cv, hv, _⟩ := GR.own_at encNum_length (unhide HST).own
      have HLN := hide (show (upsOf (xs.take k)).length = k + 1 by rw [upsOf_len, List.length_take]; omega)
      rw [unhide HLN] at hv
      subst hv
      have HTK := hide (upsOf_take xs k hlt)
      have q1 := unhide HCE k hlt
      have hxs : xs[k].size ≤ s.size := unhide HSZ _ (List.getElem_mem hlt)
      generalize xs[k] = x at *
      have HRD := hide (fun W => (specReadDec x W (by unfold maxLen; omega)).mono (fun e w' h => (⟨h.1, h.2 ▸ Below.refl _ _⟩ : e = .returned (.int .i64 (readDec x.data.toList)) ∧ Below W.heap.size W w')))
      generalize readDec x.data.toList = r at *
      have t1 := (one_at (unhide HST).tbl).1
      have z1 := cell_regrown t1
      have y1 := cell_regrown q1
      clear t1 q1
      go_upto_region 6 with fail
      refine wp_region_anyG (by kernel_rfl) ?_
      show wpAnyG _ _ _ _ 11 (Array.replicate 11 false) _ _
      refine wpAnyG_pure 0 rfl (by kernel_rfl) (by kernel_rfl) (by kernel_rfl) (fun _ _ _ _ h => h) (fun K hK => ?_)
      go_simp
      first
        | (refine hK _ ?_; clear hK K)
        | (apply Exists.intro
           refine ⟨fun _ => rfl, hK _ ?_⟩
           clear hK K)
      refine wpAnyG_pure 2 rfl (by kernel_rfl) (by kernel_rfl) (by kernel_rfl) (fun _ _ _ _ h => h) (fun K hK => ?_)
      go_simp
      first
        | (refine hK _ ?_; clear hK K)
        | (apply Exists.intro
           refine ⟨fun _ => rfl, hK _ ?_⟩
           clear hK K)
      refine wpAnyG_pure 3 rfl (by kernel_rfl) (by kernel_rfl) (by kernel_rfl) (fun _ _ _ _ h => h) (fun K hK => ?_)
      go_simp
      first
        | (refine hK _ ?_; clear hK K)
        | (apply Exists.intro
           refine ⟨fun _ => rfl, hK _ ?_⟩
           clear hK K)
      refine wpAnyG_mixE 8 ?_
      refine wpMixE_take 1 20 rfl (by kernel_rfl) (by kernel_rfl) (by kernel_rfl) (by kernel_rfl) (by kernel_rfl) (fun _ _ _ _ h => h) (fun K hK => ?_)
      go_simp
      first
        | (refine hK _ ?_; clear hK K)
        | (apply Exists.intro
           refine ⟨fun _ => ?_, hK _ ?_⟩
           (fail)
           clear hK K)
      refine wpMixE_take 4 20 rfl (by kernel_rfl) (by kernel_rfl) (by kernel_rfl) (by kernel_rfl) (by kernel_rfl) (fun _ _ _ _ h => h) (fun K hK => ?_)
      go_simp
      first
        | (refine hK _ ?_; clear hK K)
        | (apply Exists.intro
           refine ⟨fun _ => ?_, hK _ ?_⟩
           (fail)
           clear hK K)
      refine wpMixE_take 5 20 rfl (by kernel_rfl) (by kernel_rfl) (by kernel_rfl) (by kernel_rfl) (by kernel_rfl) (fun _ _ _ _ h => h) (fun K hK => ?_)
      go_simp
      first
        | (refine hK _ ?_; clear hK K)
        | (apply Exists.intro
           refine ⟨fun _ => ?_, hK _ ?_⟩
           (fail)
           clear hK K)
      refine wpMixE_take 6 20 rfl (by kernel_rfl) (by kernel_rfl) (by kernel_rfl) (by kernel_rfl) (by kernel_rfl) (fun _ _ _ _ h => h) (fun K hK => ?_)
      go_simp
      first
        | (refine hK _ ?_; clear hK K)
        | (apply Exists.intro
           refine ⟨fun _ => ?_, hK _ ?_⟩
           (exact unhide HRD _)
           clear hK K)
      clear z1 y1
      refine wpMixE_one 7 rfl (by kernel_rfl) (by rfl) (fun x0 hx0 => ?_)
      go_simp
      refine ⟨below_one' x0 _, ?_⟩
      have HSX := hide (((unhide HST).step hx0).step (below_one' x0 (.cells #[.int .i64 r] 3)))
      have HNX := hide (heap_alloc_new x0 (.cells #[.int .i64 r] 3))
      have HGE := hide (Ge.trans hx0 (below_one' x0 (.cells #[.int .i64 r] 3)))
      clear hx0
      generalize x0.alloc (.cells #[.int .i64 r] 3) = y at *
      refine wpMixE_leave (by kernel_rfl) (fun z hz => ?_)
      have HSZ2 := hide ((unhide HSX).step hz)
      have HNZ := hide (tr_step (unhide HNX) hz)
      have HGZ := hide (Ge.trans (unhide HGE) hz)
      clear hz HSX HNX HGE
      refine wpAny_one 8 rfl (by kernel_rfl) (by rfl) ?_
      refine wp_append_where z (.tmp 22) (.tmp 28) 22 rfl (w.heap.size + 1) 3 i0 (.int .i64 0) 1 8 Tryd.underlying22 hi hz0 hz1 hz2 rfl (by decide) (.slice av (k + 1) cv) (k + 1) (GR.flat encNum (upsOf (xs.take k))) (by simp [Act.eval]) (by have h := (unhide HSZ2).own; rw [unhide HLN] at h; exact h) ⟨x0.heap.size, 0, none⟩ 1 1 [.int .i64 r] (by simp [Act.eval]) rfl (World.news_of_block (unhide HNZ)) (by intro u hu; simp at hu; subst hu; rfl) (by unfold maxLen; omega) (by omega) (by have h := (unhide HSZ2).keep.size; have h2 := tr_lt (unhide HSZ2).res; omega) ?_
      intro v6 w6 hown6 hgr6 hwh6
      obtain ⟨hb6, hS6⟩ := (unhide HSZ2).app r (by rw [unhide HLN]; exact hown6) hgr6 hwh6
      obtain ⟨va6, vc6, hv6, _⟩ := GR.own_at encNum_length hS6.own
      rw [List.length_append, unhide HLN] at hv6
      have hv7 : v6 = .slice va6 (k + 1 + 1) vc6 := hv6
      subst hv7
      clear hv6
      have HS6 := hide hS6
      obtain ⟨kc, kf⟩ := one_at hb6
      have HW6 := hide hgr6
      have HV6 := hide hwh6
      clear hown6 hgr6 hwh6 hb6 hS6
      refine wpAny_one 9 rfl (by kernel_rfl) (by rfl) ?_
      go_simp
      refine wpAny_one 10 rfl (by kernel_rfl) (by rfl) ?_
      go_simp
      refine wpAny_done (by kernel_rfl) ?_
      go_simp
      go_wp2_with fail
      have hzg : gw < z.heap.size := Nat.lt_of_lt_of_le hgl (unhide HGZ).size
      have hgb : w6.heap[gw]? = wr.heap[gw]? := by
        rw [(unhide HW6).block gw hzg (fun hm => unhide HVG gw hm.symm rfl)]
        exact (unhide HGZ).block gw hgl
      go_roundw
      case rel =>
        refine ⟨k + 1, _, by omega, by go_num, by rw [unhide HTK]; exact unhide HS6, fun i hi => ?_, ?_, fun x hx => ?_⟩
        · have h2 : (w6.setCell ⟨w.heap.size + 1 + 1, 0, none⟩ (.slice va6 (k + 1 + 1) vc6)).heap[gw]? = wr.heap[gw]? := (Below.heap_setCell _ _ _ _ (by have := unhide HZ0; simp; omega)).trans hgb
          have h3 := unhide HCE i hi
          unfold World.cell? at h3 ⊢
          rw [h2]
          exact h3
        · have := (unhide HW6).size
          simp [World.setCell]
          omega
        · rcases unhide HV6 x hx with h | h
          · exact unhide HVG x h
          · omega
      case measure => simp [intOf]; omega
    · have hke : k = xs.length := by omega
      subst hke
      rw [List.take_length, ← unhide HU] at HST
      obtain ⟨av, cv, hv, hat⟩ := GR.own_at encNum_length (unhide HST).own
      subst hv
      have HAT := hide hat
      have HS2 := HST
      clear hat
      have t1 := (one_at (unhide HS2).tbl).1
      go_wp2_with fail
      refine (unhide HTO _ _ _ (unhide HAT)).mono ?_
      rintro e w3 ⟨rfl, hb3⟩
      have HS3 := hide ((unhide HS2).step hb3)
      have t3 := (one_at (unhide HS3).tbl).1
      obtain ⟨r3, f3⟩ := one_at (unhide HS3).res
      clear t1 hb3 HS2 HTO
      cases htb : treeB U
      · have HR := hide (show rdTree U = ([], false) by unfold rdTree; rw [htb]; rfl)
        clear htb
        go_wp2_with fail
        refine bodyPost_atT (fun W' hW' => ?_)
        have h1 : W'.heap[w.heap.size]? = some (.cells #[.slice none 0 0] 24 (0, 0)) := by rw [hW']; exact one_set _ (unhide HS3).res
        have r0 := (one_at h1).1
        refine bodyPost_ret (v := .tuple #[.agg #[.slice none 0 0], .bool false]) (by simp [results, Tryd.results5, go_sem, r0]) rfl ?_
        rw [unhide HR]
        refine ⟨_, rfl, World.ownsRow_nil _ _ _ _, ?_⟩
        rw [hW']
        exact (unhide HS3).keep.setCell (p := ⟨w.heap.size, 0, none⟩) (Nat.le_refl _) _
      · have HR := hide (show rdTree U = (U, true) by unfold rdTree; rw [htb]; rfl)
        clear htb
        go_wp2_with fail
        refine bodyPost_atT (fun W' hW' => ?_)
        have h1 : W'.heap[w.heap.size]? = some (.cells #[.slice av U.length cv] 24 (0, 0)) := by rw [hW']; exact one_set _ (unhide HS3).res
        have r0 := (one_at h1).1
        refine bodyPost_ret (v := .tuple #[.agg #[.slice av U.length cv], .bool true]) (by simp [results, Tryd.results5, go_sem, r0]) rfl ?_
        rw [unhide HR]
        refine ⟨_, rfl, ?_, ?_⟩
        · rw [hW']
          exact own_set (B := w.heap.size) (GR.own_lower (unhide HS3).own (by omega)) (fun x hx => by have := ((unhide HS3).own.lt x hx).1; omega)
        · rw [hW']
          exact (unhide HS3).keep.setCell (p := ⟨w.heap.size, 0, none⟩) (Nat.le_refl _) _
end Go.Proofs.YtccpcmhideijpaaDoor
