/- Parts. -/
import Derived.Test.YtgkimogaghgjaaaPk5
namespace Go.Proofs.Ytgkimogaghgjaaa
open Go.RowKit
open Mth

theorem HpW.cut {w : World} {hb B g cap n : Nat} {l : List ByteArray} (h : HpW w hb B (.slice (some ⟨g, 0, none⟩) l.length cap) l) (k : Nat) (hk : k ≤ l.length) (hn : n = k) : HpW (w.setCell ⟨hb, 0, none⟩ (.slice (some ⟨g, 0, none⟩) n cap)) hb B (.slice (some ⟨g, 0, none⟩) (l.take k).length cap) (l.take k) := by
  have hlen : (l.take k).length = k := by simp; omega
  have hgB := (h.o.lt g rfl).1
  subst hn
  refine ⟨?_, ?_, h.b⟩
  · rw [hlen]
    unfold World.setCell
    simp only [Array.getElem?_modify]
    rw [if_pos trivial, h.h]
    simp
  · rw [hlen]
    have ho := ownsRow_setCell_below h.o (a := ⟨hb, 0, none⟩) (by simpa using h.b) (.slice (some ⟨g, 0, none⟩) n cap)
    refine ⟨by rw [flatS, List.length_map, hlen, Nat.mul_one], ?_⟩
    rcases ho.2 with ⟨h', _⟩ | ⟨g', cap', cur, h', hb', hgg, hnc, hcm, hcs, htake⟩
    · simp at h'
    · simp only [Value.slice.injEq, Option.some.injEq, Addr.mk.injEq, and_true, true_and] at h'
      obtain ⟨rfl, rfl⟩ := h'
      refine .inr ⟨g, cap, cur, rfl, hb', hgg, by omega, hcm, hcs, ?_⟩
      rw [flatS, List.map_take, ← flatS, ← htake, List.take_take, Nat.mul_one, Nat.mul_one, Nat.min_eq_left hk]
theorem HpW.keepsL {w w' : World} {hb B g cap : Nat} {l : List ByteArray} (h : HpW w hb B (.slice (some ⟨g, 0, none⟩) l.length cap) l) {F : List Nat} (hk : KeepsL F w w') (h1 : hb ∉ F) (h2 : g ∉ F) : HpW w' hb B (.slice (some ⟨g, 0, none⟩) l.length cap) l := by
  refine ⟨hk.obj h.h h1, ?_, h.b⟩
  refine ⟨h.o.1, ?_⟩
  rcases h.o.2 with ⟨h', _⟩ | ⟨g', cap', cur, h', hb', hgg, hr⟩
  · simp at h'
  · simp only [Value.slice.injEq, Option.some.injEq, Addr.mk.injEq, and_true, true_and] at h'
    obtain ⟨rfl, rfl⟩ := h'
    exact .inr ⟨g, cap, cur, rfl, hb', hk.obj hgg h2, hr⟩
theorem keepsL_drewN (F : List Nat) (w : World) (n : Nat) : KeepsL F w (w.drewN n) := ⟨rfl, rfl, rfl, Nat.le_refl _, fun _ _ _ => rfl⟩
set_option maxRecDepth 100000 in
set_option maxHeartbeats 4000000 in
theorem hpPop (hb g cap B : Nat) (l : List ByteArray) (w : World) (hw : HpW w hb B (.slice (some ⟨g, 0, none⟩) l.length cap) l) (hl0 : 0 < l.length) (hl : l.length ≤ 4398046511104) (hh : IsHeap l) :
    Calls Try.prog 33 #[.pointer (some ⟨hb, 0, none⟩)] w fun e w' => e = .returned (.string (hg l 0)) ∧ ∃ l', l'.length = l.length - 1 ∧ (∀ x, x ∈ l ↔ x = hg l 0 ∨ x ∈ l') ∧ IsHeap l' ∧ HpW w' hb B (.slice (some ⟨g, 0, none⟩) l'.length cap) l' ∧ KeepsL [hb, g] w w' := by
  have HW := hide hw
  have HH := hide hh
  have hcap : l.length ≤ cap := by
    rcases hw.o.2 with ⟨h', _⟩ | ⟨g', cap', cur, h', _, _, hnc, _⟩
    · simp at h'
    · simp only [Value.slice.injEq] at h'; omega
  have hne : hb ≠ g := by have := hw.b; have := (hw.o.lt g rfl).1; omega
  have c0 := hw.head
  have c1 := hw.key 0 hl0
  have c2 := hw.key (l.length - 1) (by omega)
  have f1 := hw.o.frozenAt 0
  have f0 := obj_free hw.h 0
  have hgl := (hw.o.lt g rfl).2
  have hbl := obj_lt hw.h
  clear hw hh
  have hlast : ((l.length : Int) - 1) = ((l.length - 1 : Nat) : Int) := by omega
  obtain ⟨k0, hk0⟩ : ∃ k0, hg l 0 = k0 := ⟨_, rfl⟩
  obtain ⟨k1, hk1⟩ : ∃ k1, hg l (l.length - 1) = k1 := ⟨_, rfl⟩
  rw [hk0] at c1 ⊢
  rw [hk1] at c2
  have HK0 := hide hk0
  have HK1 := hide hk1
  clear hk0 hk1
  go_enter Try.func33, Try.ntmps33
  go_wp2_with fail
  go_quiet (fail)
  go_wp2_with fail
  go_region
  go_upto_region 4 with fail
  refine wp_at (fun W1 hW => ?_)
  have HL1 := hide (show ((l.set 0 k1).take (l.length - 1)).length = l.length - 1 by simp)
  have HW1 : Hid (HpW W1 hb B (.slice (some ⟨g, 0, none⟩) ((l.set 0 k1).take (l.length - 1)).length cap) ((l.set 0 k1).take (l.length - 1))) := by
    rw [hW]
    have h1 := ((unhide HW).below (drewN_below w (nq + 1))).set 0 k1
    rw [show l.length = (l.set 0 k1).length by simp] at h1
    exact h1.cut (l.length - 1) (by simp) rfl
  have HK : Hid (KeepsL [hb, g] w W1) := by
    rw [hW]
    exact ((keepsL_drewN _ w (nq + 1)).trans ((KeepsL.set _).mono (fun x hx => by simp at hx; simp [hx]))).trans ((KeepsL.set _).mono (fun x hx => by simp at hx; simp [hx]))
  have HD := hide (down_start (unhide HH) hl0)
  have HM := hide (fun x => pop_mem (l := l) hl0 x)
  rw [unhide HK1] at HD HM
  rw [unhide HK0] at HM
  clear hW c0 c1 c2 f0 f1 hlast HH HW HK0 HK1
  generalize (l.set 0 k1).take (l.length - 1) = l1 at *
  have hl1 : l1.length ≤ 4398046511104 := by rw [unhide HL1]; omega
  go_wp2_with fail
  go_loopw [5] (fun at_ wr => ∃ (a : Nat) (l' : List ByteArray), at_ = .int .i64 a ∧ l'.length = l1.length ∧ (a < l'.length ∨ a = 0) ∧ DownTo l' a ∧ (∀ x, x ∈ l' ↔ x ∈ l1) ∧ HpW wr hb B (.slice (some ⟨g, 0, none⟩) l'.length cap) l' ∧ KeepsL [hb, g] w wr) (fun at_ _ => l1.length - (intOf at_).toNat)
  case atStart => exact ⟨0, l1, rfl, rfl, .inr rfl, unhide HD, fun x => Iff.rfl, unhide HW1, unhide HK⟩
  case round =>
    obtain ⟨a, l', rfl, hll, hal, hd, hmem, hw', hkp⟩ := hrel
    have HDN := hide hd
    have HMM := hide hmem
    have HKP := hide hkp
    have HLL := hide hll
    have HC := hide (hpLeast hb g cap B a l' wr hw' hal (by omega))
    have HWR := hide hw'
    clear hd hmem hkp hw' HW1 HD HK
    go_wp2_with fail
    refine (unhide HC).mono ?_
    rintro e w5 ⟨m, rfl, hm, hle, hall, hb5⟩
    have HW5 := hide ((unhide HWR).below hb5)
    have HK5 := hide ((unhide HKP).trans (KeepsL.of_below hb5))
    have HLE := hide hle
    have HALL := hide hall
    clear hb5 HWR HKP HC hle hall
    by_cases hma : m = a
    · subst hma
      have hdd : decide ((m : Int) = (m : Int)) = true := by simp
      go_wp2_with fail
      go_ret
      refine ⟨rfl, l', by rw [hll, unhide HL1], fun x => ?_, down_end (unhide HDN) (unhide HALL), unhide HW5, unhide HK5⟩
      rw [unhide HM x, unhide HMM x]
    · have hdd : decide ((m : Int) = (a : Int)) = false := decide_eq_false (by omega)
      obtain ⟨hm0, hml, hmp⟩ := hm.resolve_left hma
      have hal' : a < l'.length := by omega
      have c0 := (unhide HW5).head
      have c1 := (unhide HW5).key a hal'
      have c2 := (unhide HW5).key m hml
      have f1 := (unhide HW5).o.frozenAt a
      have f2 := (unhide HW5).o.frozenAt m
      have HS : Hid (HpW ((w5.setCell ⟨g, m, none⟩ (.string (hg l' a))).setCell ⟨g, a, none⟩ (.string (hg l' m))) hb B (.slice (some ⟨g, 0, none⟩) (swp l' m a).length cap) (swp l' m a)) := by
        have h1 := (unhide HW5).set m (hg l' a)
        rw [show l'.length = (l'.set m (hg l' a)).length by simp] at h1
        have h2 := h1.set a (hg l' m)
        rw [show (l'.set m (hg l' a)).length = (swp l' m a).length by simp [swp]] at h2
        exact h2
      have HKS : Hid (KeepsL [hb, g] w ((w5.setCell ⟨g, m, none⟩ (.string (hg l' a))).setCell ⟨g, a, none⟩ (.string (hg l' m)))) :=
        ((unhide HK5).trans ((KeepsL.set _).mono (fun x hx => by simp at hx; simp [hx]))).trans ((KeepsL.set _).mono (fun x hx => by simp at hx; simp [hx]))
      have HDS := hide (down_step (unhide HDN) hm0 hml hmp (unhide HLE) (unhide HALL))
      have HMS := hide (fun x => (swp_mem l' m a hml hal' x).trans (unhide HMM x))
      generalize hg l' a = ka at *
      generalize hg l' m = km at *
      go_wp2_with fail
      go_region
      go_wp2_with fail
      go_roundw
      case rel => exact ⟨m, swp l' m a, rfl, by rw [swp_length]; exact hll, .inl (by rw [swp_length]; exact hml), unhide HDS, unhide HMS, (unhide HS).below ⟨rfl, rfl, rfl, Nat.le_refl _, fun _ _ => rfl⟩, (unhide HKS).trans ⟨rfl, rfl, rfl, Nat.le_refl _, fun _ _ _ => rfl⟩⟩
      case measure => simp [intOf]; omega
end Go.Proofs.Ytgkimogaghgjaaa
