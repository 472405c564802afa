/-
  The draw of a list of purses: the first loop, in which the model's own calls make it; then what is put beside it.
-/
import Derived.Test.YtpglekkaplfdgaaDoorDrawPu
import Derived.Test.YtpglekkaplfdgaaDoorDecS
import Derived.Deep.DeepCutAuto
import Derived.Deep.CutBlock
namespace Go.Proofs.YtpglekkaplfdgaaDoor
open Go.RowKit
open Mth

abbrev puKeys : List ByteArray := [⟨#[97]⟩, ⟨#[98]⟩, ⟨#[107, 49]⟩]
abbrev puKeys2 : List ByteArray := [⟨#[97]⟩, ⟨#[122, 122]⟩, ⟨#[]⟩]
theorem puKeys_size : ∀ x ∈ puKeys, x.size ≤ 10 := by decide
theorem puKeys2_size : ∀ x ∈ puKeys2, x.size ≤ 10 := by decide
theorem PR.form_at {w wr : World} {c g cap : Nat} {l : List Pu} (h : PR w wr c (.slice (some ⟨g, 0, none⟩) l.length cap) l) : PursesAt wr (some ⟨g, 0, none⟩) l := by
  obtain ⟨g', cap', e, _, _, _, hat⟩ := h.form
  injection e with e1 e2 e3
  injection e1 with e1
  injection e1 with e1 _
  subst e1
  exact hat
theorem PursesAt.at0 {w : World} {g : Nat} {p : Pu} {r : List Pu} (h : PursesAt w (some ⟨g, 0, none⟩) (p :: r)) : w.cell? ⟨g, 0, none⟩ = some (.string p.k) ∧ w.cell? ⟨g, 1, none⟩ = some (.int .i64 p.m) ∧ w.cell? ⟨g, 2, none⟩ = some (.int .i64 p.f) ∧ w.cell? ⟨g, 3, none⟩ = some (.int .i64 p.s) := by
  obtain ⟨g1, o1, e1, _, s0, s1, s2, s3⟩ := PursesAt.four h 0 (by simp)
  injection e1 with e1
  injection e1 with e1 e2
  subst e1 e2
  exact ⟨by simpa using s0, by simpa using s1, by simpa using s2, by simpa using s3⟩
theorem PR.spec {w wr : World} {c : Nat} {v : Value} {l : List Pu} (h : PR w wr c v l) : ∀ p ∈ l, p.k.size ≤ 1048576 := fun p hp => by have := h.keys p hp; omega

/-- How long a slice is. -/
def lenV : Value → Nat
  | .slice _ n _ => n
  | _ => 0
theorem decAny (n : Int) (w : World) (h0 : 0 ≤ n) (h1 : n ≤ 1000) : Calls Tryd.prog 59 #[.int .i64 n] w fun e w' => ∃ s : ByteArray, e = .returned (.string s) ∧ s.size ≤ 25 ∧ w = w' := by
  refine (specDec n w (by omega) (by omega)).mono ?_
  rintro e w' ⟨rfl, rfl⟩
  refine ⟨_, rfl, ?_, rfl⟩
  have := Lib.itoa_length_le n (by omega) (by omega)
  have h2 : ((Lib.itoa n).toArray).size ≤ 25 := by rw [List.size_toArray]; omega
  exact h2
theorem PR.setF {w wr : World} {c g cap : Nat} {p : Pu} {r : List Pu} (z : Int) (h : PR w wr c (.slice (some ⟨g, 0, none⟩) (p :: r).length cap) (p :: r)) : PR w (wr.setCell ⟨g, 2, none⟩ (.int .i64 z)) c (.slice (some ⟨g, 0, none⟩) (p :: r).length cap) (⟨p.k, p.m, z, p.s⟩ :: r) := by
  have hst := (h.own.stored 2 (.int .i64 z)).1
  rw [show (GR.flat encP (p :: r)).set 2 (.int .i64 z) = GR.flat encP (⟨p.k, p.m, z, p.s⟩ :: r) by rw [GR.flat_cons, GR.flat_cons]; rfl] at hst
  have hgl : w.heap.size ≤ g := (h.own.lt g rfl).1
  have hgw : g < wr.heap.size := (h.own.lt g rfl).2
  have hlow := h.low
  refine ⟨h.nn, hst, fun q hq => ?_, ?_, ?_, h.low⟩
  · rcases List.mem_cons.1 hq with rfl | hq
    · exact h.keys p (List.mem_cons_self)
    · exact h.keys q (List.mem_cons_of_mem _ hq)
  · exact h.cur.below (B := w.heap.size) ((Below.refl _ _).setCell (p := ⟨g, 2, none⟩) hgl _) hlow
  · refine ⟨h.keeps.os, h.keeps.tape, h.keeps.output, by rw [Fo.setCell_size]; exact h.keeps.size, fun k hk hne => ?_⟩
    rw [Below.heap_setCell _ _ _ _ (by show k ≠ g; omega)]
    exact h.keeps.block k hk hne

set_option maxRecDepth 100000 in
set_option maxHeartbeats 8000000 in
theorem l03Purses (c : Nat) (w : World) (hc : Cur w c) :
    Calls Tryd.prog 46 #[.pointer (some ⟨c, 0, none⟩)] w fun e w' => ∃ v l, e = .returned v ∧ l.length ≤ 30 ∧ PR w w' c v l := by
  obtain ⟨i0, hi, hz0, hz1, hz2⟩ := info_parts infoPu
  have HC := hide hc
  have hcl := hc.lt
  have hlit : (w.alloc (.cells #[] 32)).ownsRow w.heap.size 32 4 (.slice (some ⟨w.heap.size, 0, none⟩) 0 0) 0 [] := World.ownsRow_lit (base := w.heap.size) (e := 32) (size := 4) w #[] 0 (Nat.le_refl _) (by decide) rfl
  have HP0 := hide (show PR w (w.alloc (.cells #[] 32)) c (.slice (some ⟨w.heap.size, 0, none⟩) 0 0) [] from ⟨(by intro h; cases h), hlit, fun p hp => by simp at hp, cur_new hc _, keeps_new _, hc.lt⟩)
  clear hc hlit
  go_enter Tryd.func46, Tryd.ntmps46
  go_wp2_with fail
  refine (l01Below c 7 _ (unhide HP0).cur (by omega) (by omega)).mono ?_
  rintro e w1 ⟨x, rfl, hx0, hx1, hc1, hk1⟩
  have HP1 := hide ((unhide HP0).draw hc1 hk1)
  obtain ⟨nn, rfl⟩ := Int.eq_ofNat_of_zero_le hx0
  have hnn : nn < 7 := by omega
  clear hc1 hk1 HP0 hx0 hx1
  go_upto_block 0 with fail
  go_cut [3] (fun v wx => ∃ l, l.length ≤ 7 ∧ PR w wx c v l)
  case first =>
    go_wp2_with fail
    go_loopw [3, 5] (fun v i wr => ∃ (k : Nat) (l : List Pu), k ≤ nn ∧ i = .int .i64 k ∧ l.length ≤ k ∧ PR w wr c v l) (fun _ i _ => nn - (intOf i).toNat)
    case atStart => exact ⟨0, [], Nat.zero_le _, rfl, Nat.le_refl _, unhide HP1⟩
    case round =>
      obtain ⟨k, l, hk, rfl, hlk, hPR⟩ := hrel
      obtain ⟨g, cap, rfl, hcap, hgl, hgw, _⟩ := hPR.form
      have HPR := hide hPR
      clear hPR
      by_cases hlt : k < nn
      · go_wp2_with fail
        refine (l01Pick c wr.heap.size 3 puKeys _ (cur_new (unhide HPR).cur _) (by have := (unhide HPR).cur.lt; omega) (by decide) (by decide) (fun i hi => lit_strs wr puKeys _ i hi) (by simp)).mono ?_
        rintro e w2 ⟨key, rfl, hkey, hc2, hk2⟩
        have hks := puKeys_size key hkey
        have HP2 := hide (((unhide HPR).grow (below_one' wr _)).draw hc2 hk2)
        clear hc2 hk2 hkey HPR
        go_wp2_with fail
        refine (l01Below c 20 _ (unhide HP2).cur (by omega) (by omega)).mono ?_
        rintro e w3 ⟨y, rfl, hy0, hy1, hc3, hk3⟩
        have HP3 := hide ((unhide HP2).draw hc3 hk3)
        clear hc3 hk3 HP2
        go_wp2_with fail
        refine (l01Below c 4 _ (unhide HP3).cur (by omega) (by omega)).mono ?_
        rintro e w4 ⟨z, rfl, hz0', hz1', hc4, hk4⟩
        have HP4 := hide ((unhide HP3).draw hc4 hk4)
        clear hc4 hk4 HP3
        have hzc : z = 0 ∨ z = 1 ∨ z = 2 ∨ z = 3 := by omega
        clear hz0' hz1'
        rcases hzc with rfl | rfl | rfl | rfl
        · have HSP := hide (specMint g 0 cap l key (1 + y) w4 (by omega) hcap (unhide HP4).spec (by omega) (unhide HP4).form_at)
          have HLN := hide (addP_len1 l key (1) (1) (0) (1 + y))
          go_wp2_with fail
          refine (unhide HSP).mono ?_
          intro e w5 hgv
          obtain ⟨v', rfl, hP5⟩ := (unhide HP4).give (by omega) hgv
          obtain ⟨g', cap', rfl, _, _, _, _⟩ := hP5.form
          have HP5 := hide hP5
          clear hgv hP5 HSP HP4
          go_wp2_with fail
          go_roundw
          case rel => exact ⟨k + 1, _, by omega, by go_num, by have := unhide HLN; omega, unhide HP5⟩
          case measure => simp [intOf]; omega
        · have HSP := hide (specGain g 0 cap l key (1 + y) w4 (by omega) hcap (unhide HP4).spec (by omega) (unhide HP4).form_at)
          have HLN := hide (addP_len1 l key (0) (1) (0) (1 + y))
          go_wp2_with fail
          refine (unhide HSP).mono ?_
          intro e w5 hgv
          obtain ⟨v', rfl, hP5⟩ := (unhide HP4).give (by omega) hgv
          obtain ⟨g', cap', rfl, _, _, _, _⟩ := hP5.form
          have HP5 := hide hP5
          clear hgv hP5 HSP HP4
          go_wp2_with fail
          go_roundw
          case rel => exact ⟨k + 1, _, by omega, by go_num, by have := unhide HLN; omega, unhide HP5⟩
          case measure => simp [intOf]; omega
        · have HSP := hide (specSpend g 0 cap l key (1 + y) w4 (by omega) hcap (unhide HP4).spec (by omega) (unhide HP4).form_at)
          have HLN := hide (addP_len1 l key (0) (-1) (1) (1 + y))
          go_wp2_with fail
          refine (unhide HSP).mono ?_
          intro e w5 hgv
          obtain ⟨v', rfl, hP5⟩ := (unhide HP4).give (by omega) hgv
          obtain ⟨g', cap', rfl, _, _, _, _⟩ := hP5.form
          have HP5 := hide hP5
          clear hgv hP5 HSP HP4
          go_wp2_with fail
          go_roundw
          case rel => exact ⟨k + 1, _, by omega, by go_num, by have := unhide HLN; omega, unhide HP5⟩
          case measure => simp [intOf]; omega
        · have HSP := hide (specPart g 0 cap l key (1 + y) w4 (by omega) hcap (unhide HP4).spec (by omega) (unhide HP4).form_at)
          have HLN := hide (addP_len1 l key (0) (-1) (0) (1 + y))
          go_wp2_with fail
          refine (unhide HSP).mono ?_
          intro e w5 hgv
          obtain ⟨v', rfl, hP5⟩ := (unhide HP4).give (by omega) hgv
          obtain ⟨g', cap', rfl, _, _, _, _⟩ := hP5.form
          have HP5 := hide hP5
          clear hgv hP5 HSP HP4
          go_wp2_with fail
          go_roundw
          case rel => exact ⟨k + 1, _, by omega, by go_num, by have := unhide HLN; omega, unhide HP5⟩
          case measure => simp [intOf]; omega
      · have hke : k = nn := by omega
        subst hke
        have hnlt : decide ((k : Int) < (k : Int)) = false := by simp
        go_wp2_with fail
        go_meet
        case rel => exact ⟨l, by omega, unhide HPR⟩
  case rest =>
    obtain ⟨l, hl, hPR⟩ := hcut
    obtain ⟨g, cap, rfl, hcap, hgl, hgw, _⟩ := hPR.form
    have HPR := hide hPR
    clear hPR HP1
    go_wp2_with fail
    refine (l01Below c 16 _ (unhide HPR).cur (by omega) (by omega)).mono ?_
    rintro e w2 ⟨x, rfl, hx0, hx1, hc2, hk2⟩
    have HP2 := hide ((unhide HPR).draw hc2 hk2)
    have hgw2 : g < w2.heap.size := Nat.lt_of_lt_of_le hgw hk2.size
    clear hc2 hk2 HPR hgw
    by_cases hxa : x = 0
    · subst hxa
      go_wp2_with fail
      refine (l01Pick c w2.heap.size 3 puKeys2 _ (cur_new (unhide HP2).cur _) (by have := (unhide HP2).cur.lt; omega) (by decide) (by decide) (fun i hi => lit_strs w2 puKeys2 _ i hi) (by simp)).mono ?_
      rintro e w3 ⟨key, rfl, hkey, hc3, hk3⟩
      have hks := puKeys2_size key hkey
      have HP3 := hide (((unhide HP2).grow (below_one' w2 _)).draw hc3 hk3)
      clear hc3 hk3 hkey HP2
      go_wp2_with fail
      refine (l01PickInt c w3.heap.size 3 [-1, 5, 1000000000] _ (cur_new (unhide HP3).cur _) (by have := (unhide HP3).cur.lt; omega) (by decide) (by decide) (fun i hi => lit_ints w3 [-1, 5, 1000000000] _ i hi) (by simp)).mono ?_
      rintro e w4 ⟨fz, rfl, _, hc4, hk4⟩
      have HP4 := hide (((unhide HP3).grow (below_one' w3 _)).draw hc4 hk4)
      clear hc4 hk4 HP3
      go_wp2_with (at_builtin; refine wpList_append_own _ rfl _ _ 24 rfl w.heap.size 32 i0 (.agg #[.string ByteArray.empty, .int .i64 0, .int .i64 0, .int .i64 0]) 4 40 Tryd.underlying24 hi hz0 hz1 hz2 rfl (by decide) _ l.length (GR.flat encP l) rfl ((unhide HP4).own.alloc _) ⟨w4.heap.size, 0, none⟩ 1 1 (encP ⟨key, 0, fz, 0⟩) rfl rfl (World.news_of_block (heap_alloc_new w4 _)) (encP_one1 ⟨key, 0, fz, 0⟩) (by unfold maxLen; omega) (by omega) (by have := (unhide HP4).keeps.size; simp; omega) ?_; intro v' w5 hown hgrow hnil)
      have HP5 := hide ((unhide HP4).app (p := ⟨key, 0, fz, 0⟩) (by show key.size ≤ 100; omega) hown hgrow (by first | exact hnil | exact fun h => absurd (hnil.1 h).2 (by decide)))
      clear hown hgrow hnil
      go_wp2_with fail
      go_ret
      exact ⟨v', _, rfl, by rw [List.length_append]; simp; omega, unhide HP5⟩
    by_cases hxb : x = 1
    · subst hxb
      cases l with
      | nil =>
        go_wp2_with fail
        go_ret
        exact ⟨_, [], rfl, by simp, unhide HP2⟩
      | cons p r =>
        have hpos : decide ((0 : Int) < (((p :: r).length : Nat) : Int)) = true := decide_eq_true (by simp <;> omega)
        go_wp2_with fail
        refine (l01PickInt c w2.heap.size 3 [1000000000, 999999995, 1000000001] _ (cur_new (unhide HP2).cur _) (by have := (unhide HP2).cur.lt; omega) (by decide) (by decide) (fun i hi => lit_ints w2 [1000000000, 999999995, 1000000001] _ i hi) (by simp)).mono ?_
        rintro e w3 ⟨fz, rfl, _, hc3, hk3⟩
        have hP3 := ((unhide HP2).grow (below_one' w2 _)).draw hc3 hk3
        have HP3 := hide hP3
        obtain ⟨pc0, pc1, pc2, pc3⟩ := PursesAt.at0 hP3.form_at
        have hfz : w3.frozen? ⟨g, 2, none⟩ = false := hP3.own.frozenAt 2
        clear hc3 hk3 HP2 hP3
        go_wp2_with fail
        go_ret
        exact ⟨_, _, rfl, by simp at hl ⊢; omega, (unhide HP3).setF fz⟩
    by_cases hxc : x = 2
    · subst hxc
      go_wp2_with fail
      go_loopw [3] (fun v wr => ∃ l : List Pu, l.length ≤ 22 ∧ PR w wr c v l) (fun v _ => 40 - lenV v)
      case atStart => exact ⟨l, by omega, unhide HP2⟩
      case round =>
        clear hgl hgw2 hcap HP2 hl
        obtain ⟨l2, hl2, hPR⟩ := hrel
        obtain ⟨g2, cap2, rfl, hcap2, hgl2, hgw2, _⟩ := hPR.form
        have HPR := hide hPR
        clear hPR
        go_wp2_with fail
        refine (l01Below c 2 _ (unhide HPR).cur (by omega) (by omega)).mono ?_
        rintro e w3 ⟨y, rfl, hy0, hy1, hc3, hk3⟩
        have HP3 := hide ((unhide HPR).draw hc3 hk3)
        clear hc3 hk3 HPR
        by_cases hlt : (l2.length : Int) < 20 + y
        · go_wp2_with fail
          refine (decAny _ _ (by omega) (by omega)).mono ?_
          rintro e w4 ⟨ds, rfl, hds, rfl⟩
          have hks : ((⟨#[122]⟩ : ByteArray) ++ ds).size ≤ 100 := by rw [ByteArray.size_append]; show 1 + ds.size ≤ 100; omega
          go_wp2_with (at_builtin; refine wpList_append_own _ rfl _ _ 24 rfl w.heap.size 32 i0 (.agg #[.string ByteArray.empty, .int .i64 0, .int .i64 0, .int .i64 0]) 4 40 Tryd.underlying24 hi hz0 hz1 hz2 rfl (by decide) _ l2.length (GR.flat encP l2) rfl ((unhide HP3).own.alloc _) ⟨w3.heap.size, 0, none⟩ 1 1 (encP ⟨(⟨#[122]⟩ : ByteArray) ++ ds, 0, 0, 0⟩) rfl rfl (World.news_of_block (heap_alloc_new w3 _)) (encP_one1 ⟨(⟨#[122]⟩ : ByteArray) ++ ds, 0, 0, 0⟩) (by unfold maxLen; omega) (by omega) (by have := (unhide HP3).keeps.size; simp; omega) ?_; intro v' w5 hown hgrow hnil)
          have hP5 := (unhide HP3).app (p := ⟨(⟨#[122]⟩ : ByteArray) ++ ds, 0, 0, 0⟩) hks hown hgrow (by first | exact hnil | exact fun h => absurd (hnil.1 h).2 (by decide))
          obtain ⟨g5, cap5, rfl, _, _, _, _⟩ := hP5.form
          have HP5 := hide hP5
          clear hown hgrow hnil hP5
          go_wp2_with fail
          go_roundw
          case rel => exact ⟨_, by rw [List.length_append]; simp; omega, unhide HP5⟩
          case measure => simp [lenV]; omega
        · go_wp2_with fail
          go_ret
          exact ⟨_, l2, rfl, by omega, unhide HP3⟩
    · have hxd : ¬ x = 0 := hxa
      go_wp2_with fail
      go_ret
      exact ⟨_, l, rfl, by omega, unhide HP2⟩
end Go.Proofs.YtpglekkaplfdgaaDoor
