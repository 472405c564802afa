/- Parts. -/
import Derived.Test.YtgkimogaghgjaaaPk6
import Derived.Laws.AppendOwnNone
import Derived.Maps.AppendAt
namespace Go.Proofs.Ytgkimogaghgjaaa
open Go.RowKit
open Mth

set_option maxRecDepth 100000 in
set_option maxHeartbeats 4000000 in
theorem hpPush (hb B : Nat) (v : Value) (l : List ByteArray) (key : ByteArray) (w : World) (hw : HpW w hb B v l) (hl : l.length + 1 ≤ 4398046511104) (hh : IsHeap l) (hB : B ≤ w.heap.size) :
    Calls Try.prog 32 #[.pointer (some ⟨hb, 0, none⟩), .string key] w fun e w' => e = .returned (.tuple #[]) ∧ ∃ g cap l', l'.length = l.length + 1 ∧ (∀ x, x ∈ l' ↔ x ∈ l ∨ x = key) ∧ IsHeap l' ∧ HpW w' hb B (.slice (some ⟨g, 0, none⟩) l'.length cap) l' ∧ Below hb w w' := by
  obtain ⟨va, vc, rfl, _⟩ := GR.own_at encStr_length hw.o
  have HW := hide hw
  have HH := hide hh
  have c0 := hw.head
  have f0 := obj_free hw.h 0
  have hbl := obj_lt hw.h
  have hbB := hw.b
  clear hw hh
  obtain ⟨i0, hi, hz0, hz1, hz2⟩ := info_parts infoStrS
  go_enter Try.func32, Try.ntmps32
  go_wp2_with (at_builtin; refine wpList_append_own _ rfl _ _ 26 rfl B 9 i0 (.string ByteArray.empty) 1 16 Try.underlying26 hi hz0 hz1 hz2 rfl (by decide) _ _ _ rfl ((unhide HW).o.alloc _) ⟨w.heap.size, 0, none⟩ 1 1 [.string key] rfl rfl ?c1 ?c2 ?c3 ?c4 ?c5 ?_)
  case c1 => exact cell_one_new _ _ _
  case c2 => intro u hu; simp at hu; subst hu; rfl
  case c3 => unfold maxLen; omega
  case c4 => omega
  case c5 => simp; omega
  intro v' w1 hown' hgrow _
  obtain ⟨g, cap, rfl⟩ : ∃ g cap, v' = .slice (some ⟨g, 0, none⟩) (l.length + 1) cap := by
    rcases hown'.2 with ⟨_, hn⟩ | ⟨g, cap, cur, hv, _⟩
    · omega
    · exact ⟨g, cap, hv⟩
  have hB1 : Below B w w1 := GR.below_append (Below.refl B w) hB (unhide HW).o hgrow
  have HF := hide (show GR.flat encStr l ++ [Value.string key] = GR.flat encStr (l ++ [key]) by rw [GR.flat_append, GR.flat_one])
  rw [unhide HF] at hown'
  have hh1 : w1.heap[hb]? = some (.cells #[.slice va l.length vc] 74 (0, 0)) := by rw [hB1.block hb hbB]; exact (unhide HW).h
  have HO := hide hown'
  have HHD := hide hh1
  have HB1 := hide hB1
  have HU := hide (up_start (unhide HH) key)
  have d0 : w1.cell? ⟨hb, 0, none⟩ = some (.slice va l.length vc) := by rw [cell_of_row w1 hb _ _ _ (0, 0) hh1]; rfl
  have e0 := obj_free hh1 0
  have hbl1 := obj_lt hh1
  have HLN := hide (show (l ++ [key]).length = l.length + 1 by simp)
  have HMM := hide (show ∀ x, x ∈ l ++ [key] ↔ x ∈ l ∨ x = key from fun x => by simp)
  clear hown' hgrow hB1 hh1 HF HW HH c0 f0
  generalize l ++ [key] = l2 at *
  generalize hn : l.length + 1 = n at *
  go_upto_region 1 with fail
  refine wp_at (fun W2 hW => ?_)
  have HW2 : Hid (HpW W2 hb B (.slice (some ⟨g, 0, none⟩) l2.length cap) l2) := by
    rw [hW, unhide HLN]
    refine ⟨?_, ?_, hbB⟩
    · unfold World.setCell
      simp only [Array.getElem?_modify]
      rw [if_pos trivial, unhide HHD]
      simp
    · rw [unhide HLN]
      exact ownsRow_setCell_below (unhide HO) (a := ⟨hb, 0, none⟩) (by simpa using hbB) _
  have HB2 : Hid (Below hb w W2) := by
    rw [hW]
    exact ((unhide HB1).mono (Nat.le_of_lt hbB)).setCell (p := ⟨hb, 0, none⟩) (Nat.le_refl _) _
  have c0 : W2.cell? ⟨hb, 0, none⟩ = some (.slice (some ⟨g, 0, none⟩) n cap) := by rw [(unhide HW2).head, unhide HLN]
  have hn1 : ((n : Int) - 1) = ((n - 1 : Nat) : Int) := by omega
  have hul : l.length = n - 1 := by omega
  rw [hul] at HU
  have hln : n ≤ 4398046511104 := hl
  have hn0 : 0 < n := by omega
  clear hW HO HHD HB1 d0 e0 hbl1 hl hul
  go_wp2_with fail
  go_loopw [4] (fun at_ wr => ∃ (a : Nat) (l' : List ByteArray), at_ = .int .i64 a ∧ l'.length = n ∧ a < l'.length ∧ UpTo l' a ∧ (∀ x, x ∈ l' ↔ x ∈ l2) ∧ HpW wr hb B (.slice (some ⟨g, 0, none⟩) l'.length cap) l' ∧ Below hb w wr) (fun at_ _ => (intOf at_).toNat)
  case atStart => exact ⟨n - 1, l2, by go_num, unhide HLN, by rw [unhide HLN]; omega, unhide HU, fun x => Iff.rfl, unhide HW2, unhide HB2⟩
  case round =>
    obtain ⟨a, l', rfl, hll, hal, hu, hmem, hw', hkp⟩ := hrel
    have HUP := hide hu
    have HM2 := hide hmem
    have HBL := hide hkp
    have HWR := hide hw'
    clear hu hmem hkp hw' c0 HW2 HB2 HU
    by_cases ha0 : 0 < a
    · have hd0 : decide ((0 : Int) < (a : Int)) = true := decide_eq_true (by omega)
      have hq1 : (((a : Int) - 1).tdiv 2) = (((a - 1) / 2 : Nat) : Int) := by
        rw [show ((a : Int) - 1) = ((a - 1 : Nat) : Int) by omega]
        exact (Int.natCast_ediv _ _).symm ▸ (Int.tdiv_eq_ediv_of_nonneg (by omega)).trans rfl
      have hpl : (a - 1) / 2 < l'.length := by omega
      have c0 := (unhide HWR).head
      have c1 := (unhide HWR).key a hal
      have c2 := (unhide HWR).key ((a - 1) / 2) hpl
      have f1 := (unhide HWR).o.frozenAt a
      have f2 := (unhide HWR).o.frozenAt ((a - 1) / 2)
      have HU1 := hide (fun h => up_step (unhide HUP) ha0 hal h)
      have HE1 := hide (fun h => up_end (unhide HUP) (.inr h))
      have HS : Hid (HpW ((wr.setCell ⟨g, (a - 1) / 2, none⟩ (.string (hg l' a))).setCell ⟨g, a, none⟩ (.string (hg l' ((a - 1) / 2)))) hb B (.slice (some ⟨g, 0, none⟩) (swp l' ((a - 1) / 2) a).length cap) (swp l' ((a - 1) / 2) a)) := by
        have h1 := (unhide HWR).set ((a - 1) / 2) (hg l' a)
        rw [show l'.length = (l'.set ((a - 1) / 2) (hg l' a)).length by simp] at h1
        have h2 := h1.set a (hg l' ((a - 1) / 2))
        rw [show (l'.set ((a - 1) / 2) (hg l' a)).length = (swp l' ((a - 1) / 2) a).length by simp [swp]] at h2
        exact h2
      have hgb : hb ≤ g := Nat.le_trans (Nat.le_of_lt hbB) ((unhide HWR).o.lt g rfl).1
      have HKS : Hid (Below hb w ((wr.setCell ⟨g, (a - 1) / 2, none⟩ (.string (hg l' a))).setCell ⟨g, a, none⟩ (.string (hg l' ((a - 1) / 2))))) :=
        ((unhide HBL).setCell (p := ⟨g, (a - 1) / 2, none⟩) hgb _).setCell (p := ⟨g, a, none⟩) hgb _
      have HMS := hide (fun x => (swp_mem l' ((a - 1) / 2) a hpl hal x).trans (unhide HM2 x))
      have hpa : (a - 1) / 2 < a := by omega
      have hpp : 2 * ((a - 1) / 2) + 1 ≤ a ∧ a ≤ 2 * ((a - 1) / 2) + 2 := by omega
      generalize (a - 1) / 2 = p at *
      have hlv := sle_false_iff (hg l' p) (hg l' a)
      unfold sle at hlv
      generalize hg l' a = ka at *
      generalize hg l' p = kp at *
      cases hcmp : (Op.bytesLess kp.toList ka.toList || kp.toList == ka.toList) with
      | true =>
        have HF := hide (unhide HE1 (fun h => by have := hlv.2 h; rw [hcmp] at this; cases this))
        clear hlv HU1 HE1
        go_wp2_with fail
        go_quiet (fail)
        go_wp2_with fail
        exact bodyPost_ret (v := .tuple #[]) (by simp [results, Try.results32, go_sem]) rfl ⟨rfl, g, cap, l', by rw [hll, hn], fun x => (unhide HM2 x).trans (unhide HMM x), unhide HF, (unhide HWR).below (drewN_below _ _), (unhide HBL).trans ((drewN_below _ _).mono (Nat.le_trans (Nat.le_of_lt hbl) (unhide HBL).size))⟩
      | false =>
        have HF := hide (unhide HU1 (hlv.1 hcmp))
        clear hlv HU1 HE1
        go_wp2_with fail
        go_quiet (fail)
        go_wp2_with fail
        go_region
        go_wp2_with fail
        go_roundw
        case rel => exact ⟨p, swp l' p a, rfl, by rw [swp_length]; exact hll, by rw [swp_length]; exact hpl, unhide HF, unhide HMS, (unhide HS).below ⟨rfl, rfl, rfl, Nat.le_refl _, fun _ _ => rfl⟩, (unhide HKS).trans ⟨rfl, rfl, rfl, Nat.le_refl _, fun _ _ => rfl⟩⟩
        case measure => simp [intOf]; omega
    · have hd0 : decide ((0 : Int) < (a : Int)) = false := decide_eq_false (by omega)
      have HF := hide (up_end (unhide HUP) (.inl (by omega)))
      go_wp2_with fail
      exact bodyPost_end (v := .tuple #[]) (by simp [results, Try.results32, go_sem]) rfl ⟨rfl, g, cap, l', by rw [hll, hn], fun x => (unhide HM2 x).trans (unhide HMM x), unhide HF, unhide HWR, unhide HBL⟩
end Go.Proofs.Ytgkimogaghgjaaa
