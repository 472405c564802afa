/- Parts. -/
import Derived.Test.YtbanjohfcnadfaaGreatDoorPw20
import Derived.Test.YtbanjohfcnadfaaGreatDoorPw10
import Derived.Deep.AppendLies
namespace Go.Proofs.YtbanjohfcnadfaaGreatDoor
open Go.RowKit
open Mth

/-- What NodeNew gives. -/
def GivesN (w : World) (R : Nd × Bool) (e : Ending) (w' : World) : Prop := ∃ A', e = .returned (.tuple #[ndv R.1 A', .bool R.2]) ∧ ∃ G, NodeW w' A' G R.1 ∧ G.Sep R.1 w.heap.size w'.heap.size ∧ Below w.heap.size w w'
abbrev zc9 : Array Value := #[.int .i64 0, .int .i64 0, .slice none 0 0, .int .i64 0, .slice none 0 0, .slice none 0 0, .slice none 0 0, .int .i64 0, .slice none 0 0]
theorem nodeAt_new {w : World} {B B2 : Nat} {id par : Int} {kv v : Value} {kids fs : List Int} (hk : w.ownsRow B 3 1 kv kids.length (GR.flat encNum kids)) (hs : w.ownsRow B2 101 3 v fs.length (GR.flat encR3 (fs.map r3of))) : ∃ A, Value.agg (nnc id par kv v) = ndv (nnode id par kids fs) A ∧ NodeAt w A (nnode id par kids fs) := by
  obtain ⟨a1, c1, g1, rfl, hW1, _⟩ := GR.W.of_own encNum_length hk
  obtain ⟨a2, c2, g2, rfl, hW2, _⟩ := SeenW.new hs
  exact ⟨⟨a1, none, none, a2, none, c1, 0, 0, c2, 0⟩, by simp [nnc, ndv, ndc, nnode], ⟨hW1.at, GR.at_nil _ _, GR.at_nil _ _, hW2.at, GR.at_nil _ _⟩⟩
theorem mem_one {x g : Nat} (h : x ∈ [g]) : x = g := by simpa using h
theorem sz_new {id par : Int} {kids fs : List Int} (h1 : kids.length ≤ 1048600) (h2 : fs.length ≤ 1048600) : NdSz (nnode id par kids fs) 1048600 :=
  ⟨h1, by simp [nnode], by simp [nnode], by simpa [nnode] using h2, by simp [nnode], fun x hx => by simp [nnode] at hx, fun x hx => by simp [nnode] at hx, fun x hx => by simp only [nnode, List.mem_map] at hx; obtain ⟨y, _, rfl⟩ := hx; simp, fun x hx => by simp [nnode] at hx⟩
set_option maxRecDepth 100000 in
set_option maxHeartbeats 4000000 in
theorem implNodeNew (id par : Int) (a : Option Addr) (cap : Nat) (kids : List Int) (w : World) (hl : kids.length ≤ 1048576) (ha : IntsAt w a kids) :
    Calls Tryz.prog 43 #[.int .i64 id, .int .i64 par, .slice a kids.length cap] w (GivesN w (newN id par kids)) := by
  obtain ⟨i0, hi, hz0, hz1, hz2⟩ := info_parts infoSeen
  have HCL := hide (cloneInts a cap kids (w.alloc (.cells zc9 50)) (by omega) (GR.At.below ha (below_one w _)))
  have HRB := hide (heap_alloc_new w (.cells zc9 50))
  clear ha
  obtain ⟨RN, hRN⟩ : ∃ R, newN id par kids = R := ⟨_, rfl⟩
  rw [hRN]
  have HRN := hide hRN
  clear hRN
  unfold GivesN
  go_enter Tryz.func43, Tryz.ntmps43
  go_wp2_with fail
  refine (unhide HCL).mono ?_
  rintro e w1 ⟨kv, rfl, hown, hb1⟩
  obtain ⟨ka, kc, rfl, _⟩ := GR.own_at (enc := encNum) (sz := 1) encNum_length hown
  have HB1 := hide ((below_one w _).trans (hb1.mono (by simp)))
  have HO1 := hide (GR.own_lower (b' := w.heap.size + 1) hown (by simp))
  have HR1 := hide (obj_step (unhide HRB) hb1)
  clear hown hb1 HCL HRB
  go_upto_region 2 with fail
  refine wp_at (fun W1 hW1 => ?_)
  have hbw : Below w1.heap.size w1 W1 := by rw [hW1]; exact below_one w1 _
  have HN1 : Hid (W1.heap[w1.heap.size]? = some (.cells (nnc id par (.slice ka kids.length kc) (.slice none 0 0)) 50 (0, 0))) := by rw [hW1]; exact heap_alloc_new _ _
  have HO2 := hide (GR.own_below (unhide HO1) hbw)
  have HR2 := hide (obj_step (unhide HR1) hbw)
  have HB2 := hide ((unhide HB1).trans (hbw.mono (unhide HB1).size))
  have HKL : Hid (∀ x, (Value.slice ka kids.length kc).ownBlock = some x → x < w1.heap.size) := fun x hx => ((unhide HO1).lt x hx).2
  have hrlt := obj_lt (unhide HR1)
  clear hW1 hbw HR1 HO1 HB1
  obtain ⟨A1, hA1, hNA1⟩ := nodeAt_new (id := id) (par := par) (fs := []) (v := .slice none 0 0) (unhide HO2) (World.ownsRow_nil W1 W1.heap.size 101 3)
  have HNB := hide (implNeighbours (nnode id par kids []) A1 W1 (by show kids.length ≤ 1048600; omega) hNA1.k)
  rw [← hA1] at HNB
  have hln : (nbrs (nnode id par kids [])).length ≤ 1048600 := by unfold nbrs nnode; dsimp only; split <;> simp <;> omega
  have HSL := hide (srt_length (nbrs (nnode id par kids [])))
  have HFS : Hid (∀ fs, fs = srt (nbrs (nnode id par kids [])) → (placeB (nnode id par kids []) = true → newN id par kids = (nnode id par kids fs, true) ∧ ndOk (nnode id par kids fs) = true) ∧ (placeB (nnode id par kids []) = false → newN id par kids = (zeroNd, false) ∧ ndOk (nnode id par kids fs) = false)) := fun fs hf => ⟨fun h => ⟨new_yes h hf, ok_new id par kids fs h hf⟩, fun h => ⟨new_no h, ok_not id par kids fs h⟩⟩
  generalize srt (nbrs (nnode id par kids [])) = F at *
  generalize (nbrs (nnode id par kids [])).length = NL at *
  generalize placeB (nnode id par kids []) = PB at *
  rw [unhide HRN] at HFS
  clear hA1 hNA1
  obtain ⟨c0, c1, c2, c3, c4, c5, c6, c7, c8⟩ := nine (unhide HN1)
  go_wp2_with fail
  refine (unhide HNB).mono ?_
  rintro e w2 ⟨fv, rfl, hfo, hb2⟩
  have hFL := unhide HSL
  subst hFL
  obtain ⟨fa, fc, rfl, hF⟩ := GR.own_at (enc := encNum) (sz := 1) encNum_length hfo
  have HF := hide hF
  have HNN := hide (show NN w2 w2 w1.heap.size id par (.slice ka kids.length kc) (.slice none 0 0) [] from ⟨KeepsL.refl _ _, obj_step (unhide HN1) hb2, World.ownsRow_nil _ _ _ _, Nat.lt_of_lt_of_le (obj_lt (unhide HN1)) hb2.size⟩)
  have HO3 := hide (GR.own_below (unhide HO2) hb2)
  have HR3 := hide (obj_step (unhide HR2) hb2)
  have HB3 := hide ((unhide HB2).trans (hb2.mono (unhide HB2).size))
  have hw12 : w1.heap.size < w2.heap.size := Nat.lt_of_lt_of_le (obj_lt (unhide HN1)) hb2.size
  have HFN : Hid (∀ x, fa = some x → x.block ≠ w1.heap.size) := fun x hx e => by
    rcases hfo.2 with ⟨h, _⟩ | ⟨g, cap, cur, hv, hg, _⟩
    · injection h with h1
      rw [h1] at hx
      cases hx
    · injection hv with h1
      rw [h1] at hx
      injection hx with hx
      have := obj_lt (unhide HN1)
      rw [← hx] at e
      dsimp only at e
      omega
  clear hfo hb2 hF HNB HN1 c0 c1 c2 c3 c4 c5 c6 c7 c8 HR2 HO2 HB2 HSL
  go_wp2_with fail
  go_loopw [19] (fun i wr => ∃ (k : Nat) (v : Value), k ≤ F.length ∧ i = .int .i64 k ∧ NN w2 wr w1.heap.size id par (.slice ka kids.length kc) v (F.take k)) (fun i _ => F.length - (intOf i).toNat)
  case atStart => exact ⟨0, .slice none 0 0, Nat.zero_le _, rfl, unhide HNN⟩
  case round =>
    obtain ⟨k, v, hk, rfl, hN⟩ := hrel
    have HN := hide hN
    obtain ⟨c0, c1, c2, c3, c4, c5, c6, c7, c8⟩ := nine hN.blk
    have hkw := hN.keep.size
    clear hN
    by_cases hlt : k < F.length
    · have hFk : ∃ g off, fa = some ⟨g, off, none⟩ ∧ g < wr.heap.size ∧ wr.cell? ⟨g, off + k, none⟩ = some (.int .i64 F[k]) := by
        obtain ⟨g, off, e, hg, hc⟩ := IntsAt.one (unhide HF) k hlt
        refine ⟨g, off, e, by omega, ?_⟩
        have hne := unhide HFN _ e
        rw [← hc]
        exact World.cell?_of_block (w := w2) ((unhide HN).keep.block g hg (by simpa using hne))
      obtain ⟨g, off, e0, hg, q0⟩ := hFk
      have HT := hide (List.take_succ_eq_append_getElem hlt)
      have hln2 : (F.take k).length = k := by simp; omega
      have HLN2 := hide hln2
      generalize F[k] = x at *
      subst e0
      have hown := (unhide HN).own
      have hf6 := obj_free (unhide HN).blk 6
      clear hln2
      go_wp2_with (at_builtin; refine wpList_append_own _ rfl _ _ 47 rfl w2.heap.size 101 i0 (.agg #[.int .i64 0, .int .i64 0, .slice none 0 0]) 3 40 Tryz.underlying47 hi hz0 hz1 hz2 rfl (by decide) _ _ _ rfl (hown.alloc _) ⟨wr.heap.size, 0, none⟩ 1 1 (encR3 (r3of x)) rfl rfl ?c1 ?c2 ?c3 ?c4 ?c5 ?_)
      case c1 => exact World.news_of_block (heap_alloc_new wr _)
      case c2 => exact r3_one x
      case c3 => rw [unhide HLN2]; unfold maxLen; omega
      case c4 => rw [unhide HLN2]; omega
      case c5 => simp; omega
      intro v' w5 hown' hgrow _
      have hown2 : w5.ownsRow w2.heap.size 101 3 v' ((F.take k).length + 1) (GR.flat encR3 ((F.take k).map r3of) ++ encR3 (r3of x)) := by rw [unhide HLN2, List.map_take]; exact hown'
      obtain ⟨va, vc, hv, _⟩ := GR.own_at (enc := encR3) (sz := 3) (l := (F.take k ++ [x]).map r3of) encR3_length (by
        have e2 : GR.flat encR3 ((F.take k ++ [x]).map r3of) = GR.flat encR3 ((F.take k).map r3of) ++ encR3 (r3of x) := by rw [List.map_append, GR.flat_append]; simp [GR.flat]
        rw [e2, List.length_map, List.length_append]
        exact hown2)
      rw [List.length_map, List.length_append, unhide HLN2] at hv
      have hv' : v' = .slice va (k + 1) vc := hv
      clear hv
      subst hv'
      have HA5 := hide ((unhide HN).app x hown2 hgrow)
      have hb5 : w5.heap[w1.heap.size]? = some (.cells (nnc id par (.slice ka kids.length kc) v) 50 (0, 0)) := by
        rw [hgrow.block w1.heap.size (by simp; omega) (fun e => by have := (hown.lt _ e.symm).1; omega), Below.heap_alloc _ _ _ (by omega)]
        exact (unhide HN).blk
      obtain ⟨e0, e1, e2, e3, e4, e5, e6, e7, e8⟩ := nine hb5
      have g6 := obj_free hb5 6
      clear hown' hown2 hgrow hb5 hown c0 c1 c2 c3 c4 c5 c6 c7 c8 hf6
      go_wp2_with fail
      go_roundw
      case rel => exact ⟨k + 1, .slice va (k + 1) vc, by omega, by go_num, by rw [unhide HT]; exact unhide HA5⟩
      case measure => simp [intOf]; omega
    · have hke : k = F.length := by omega
      subst hke
      have hnlt : decide ((F.length : Int) < (F.length : Int)) = false := by simp
      have hN2 := unhide HN
      rw [List.take_length] at hN2
      obtain ⟨va, vc, hv, _⟩ := GR.own_at (enc := encR3) (sz := 3) (l := F.map r3of) encR3_length (by rw [List.length_map]; exact hN2.own)
      rw [List.length_map] at hv
      subst hv
      have HN2 := hide hN2
      have HO4 : Hid (wr.ownsRow (w.heap.size + 1) 3 1 (.slice ka kids.length kc) kids.length (GR.flat encNum kids)) := (unhide HO3).kept (row := some w1.heap.size) ⟨hN2.keep.os, hN2.keep.tape, hN2.keep.output, hN2.keep.size, fun j hj hjn => hN2.keep.block j hj (fun e => hjn (by rw [mem_one e]))⟩ (by
        cases hv : (Value.slice ka kids.length kc).ownBlock with
        | none => exact .inl rfl
        | some j => exact .inr (fun e => by have := unhide HKL j hv; injection e with e; omega))
      have HR4 : Hid (wr.heap[w.heap.size]? = some (.cells zc9 50 (0, 0))) := hN2.keep.obj (unhide HR3) (by simp; omega)
      have HB4 : Hid (Below w.heap.size w wr) := (unhide HB3).trans (hN2.keep.below (fun x hx => by have := mem_one hx; omega) (unhide HB3).size)
      obtain ⟨A4, hA4, hNA4⟩ := nodeAt_new (id := id) (par := par) (unhide HO4) hN2.own
      have HOK := hide (implNodeOk (nnode id par kids F) A4 wr (sz_new (by omega) (by omega)) hNA4)
      rw [← hA4] at HOK
      obtain ⟨hY, hX⟩ := unhide HFS F rfl
      have HY := hide hY
      have HX := hide hX
      clear hN2 hA4 hNA4 hY hX HFS HN
      generalize ndOk (nnode id par kids F) = OK at *
      go_wp2_with fail
      refine (unhide HOK).mono ?_
      rintro e w5 ⟨rfl, hb5⟩
      have HN5 := hide ((unhide HN2).step hb5)
      have HO5 := hide (GR.own_below (unhide HO4) hb5)
      have HR5 := hide (obj_step (unhide HR4) hb5)
      have HB5 := hide ((unhide HB4).trans (hb5.mono (unhide HB4).size))
      clear hb5 c0 c1 c2 c3 c4 c5 c6 c7 c8 HOK
      obtain ⟨c0, c1, c2, c3, c4, c5, c6, c7, c8⟩ := nine (unhide HN5).blk
      obtain ⟨r0, r1, r2, r3, r4, r5, r6, r7, r8⟩ := nine (unhide HR5)
      have f0 := obj_free (unhide HR5) 0
      have f1 := obj_free (unhide HR5) 1
      have f2 := obj_free (unhide HR5) 2
      have f3 := obj_free (unhide HR5) 3
      have f4 := obj_free (unhide HR5) 4
      have f5 := obj_free (unhide HR5) 5
      have f6 := obj_free (unhide HR5) 6
      have f7 := obj_free (unhide HR5) 7
      have f8 := obj_free (unhide HR5) 8
      cases hPB : PB
      · obtain ⟨e1, e2⟩ := unhide HX hPB
        subst e1 e2
        clear hPB HX HY
        go_wp2_with fail
        refine bodyPost_atN (fun W' hW' => ?_)
        have hR := nine_set (b0 := .int .i64 0) (b1 := .int .i64 0) (b2 := .slice none 0 0) (b3 := .int .i64 0) (b4 := .slice none 0 0) (b5 := .slice none 0 0) (b6 := .slice none 0 0) (b7 := .int .i64 0) (b8 := .slice none 0 0) (unhide HR5)
        have hK := nine_keeps (w := w5) (g := w.heap.size) (b0 := .int .i64 0) (b1 := .int .i64 0) (b2 := .slice none 0 0) (b3 := .int .i64 0) (b4 := .slice none 0 0) (b5 := .slice none 0 0) (b6 := .slice none 0 0) (b7 := .int .i64 0) (b8 := .slice none 0 0)
        rw [← hW'] at hR hK
        obtain ⟨x0, x1, x2, x3, x4, x5, x6, x7, x8⟩ := nine hR
        refine bodyPost_ret (v := .tuple #[ndv zeroNd ⟨none, none, none, none, none, 0, 0, 0, 0, 0⟩, .bool false]) (by simp [results, Tryz.results43, go_sem, x0, x1, x2, x3, x4, x5, x6, x7, x8, zeroNd]) rfl ⟨_, rfl, ⟨0, 0, 0, 0, 0, fun _ => 0⟩, NodeW.zero.1, ⟨(NodeW.zero (w := W')).2.nodup, fun x hx => absurd hx (by simp [Blks.all, zeroNd, fp, fpI])⟩, (unhide HB5).trans (hK.below (fun x hx => by have := mem_one hx; omega) (unhide HB5).size)⟩
      · obtain ⟨e1, e2⟩ := unhide HY hPB
        subst e1 e2
        clear hPB HX HY
        go_wp2_with fail
        refine bodyPost_atN (fun W' hW' => ?_)
        have hR := nine_set (b0 := .int .i64 id) (b1 := .int .i64 par) (b2 := (.slice ka kids.length kc)) (b3 := .int .i64 1) (b4 := .slice none 0 0) (b5 := .slice none 0 0) (b6 := .slice va F.length vc) (b7 := .int .i64 0) (b8 := .slice none 0 0) (unhide HR5)
        have hK := nine_keeps (w := w5) (g := w.heap.size) (b0 := .int .i64 id) (b1 := .int .i64 par) (b2 := (.slice ka kids.length kc)) (b3 := .int .i64 1) (b4 := .slice none 0 0) (b5 := .slice none 0 0) (b6 := .slice va F.length vc) (b7 := .int .i64 0) (b8 := .slice none 0 0)
        rw [← hW'] at hR hK
        obtain ⟨x0, x1, x2, x3, x4, x5, x6, x7, x8⟩ := nine hR
        have hBW := (unhide HB5).trans (hK.below (B := w.heap.size) (fun x hx => by have := mem_one hx; omega) (unhide HB5).size)
        obtain ⟨A9, G9, e9, hNW, hSP⟩ := NodeW.new (id := id) (par := par) (unhide HO5) (fun x hx => by have := unhide HKL x hx; omega) (unhide HN5).own (B2 := w2.heap.size) (by omega)
        have e9' := e9
        unfold nnc at e9'
        have hN9 : NodeW W' A9 G9 (nnode id par kids F) := hNW.keeps hK (fun x hx hx2 => by
          have h1 := hSP.rng x hx
          have h2 := mem_one hx2
          omega)
        refine bodyPost_ret (v := .tuple #[ndv (nnode id par kids F) A9, .bool true]) (by rw [← e9]; simp [results, Tryz.results43, go_sem, x0, x1, x2, x3, x4, x5, x6, x7, x8]) rfl ⟨_, rfl, G9, hN9, ⟨hSP.nodup, fun x hx => ?_⟩, hBW⟩
        have h1 := hSP.rng x hx
        have h2 := hK.size
        omega
end Go.Proofs.YtbanjohfcnadfaaGreatDoor
