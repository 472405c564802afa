/- Parts. -/
import Derived.Test.YtikdkijggejnfaaGreatDoorPj23
namespace Go.Proofs.YtikdkijggejnfaaGreatDoor
open Go.RowKit
open Mth

theorem gives_end {w wr w' : World} {s : ByteArray} {v : Value} {L : List Op5} {a : Nat} (ho : wr.ownsRow w.heap.size 25 11 v L.length (GR.flat encO L)) (hb : Below w.heap.size w wr) (hS : Sofar s a L) (hs : stB s a = false) (hz : Below wr.heap.size wr w') : GivesO w s (.returned (.tuple #[v, .int .i64 a])) w' := by
  have e := sofar_end hS hs
  exact ⟨v, by rw [e], by rw [e]; exact own_below ho hz, hb.trans (hz.mono hb.size)⟩
theorem gives_big {w wr : World} {s : ByteArray} {v : Value} (ho : wr.ownsRow w.heap.size 25 11 v ([] : List Op5).length (GR.flat encO [])) (hb : Below w.heap.size w wr) (h : 60000 < s.size) : GivesO w s (.returned (.tuple #[v, .int .i64 (0 : Nat)])) wr := by
  have e : rdAll s = ([], 0) := by unfold rdAll; rw [if_neg (by omega)]
  exact ⟨v, by rw [e], by rw [e]; exact ho, hb⟩
set_option maxRecDepth 100000 in
set_option maxHeartbeats 4000000 in
theorem specRead (s : ByteArray) (hs : s.size ≤ maxLen) (w : World) : Calls Tryz.prog 11 #[.string s] w (GivesO w s) := by
  obtain ⟨i0, hi, hz0, hz1, hz2⟩ := info_parts infoOp
  have hs2 : s.size ≤ 9223372036854775807 := by unfold maxLen at hs; omega
  have HG := hide (fun i w1 => specRt s i hs w1)
  clear hs
  go_enter Tryz.func11, Tryz.ntmps11
  go_wp2_with fail
  go_loopw [4, 5] (fun v at_ wr => ∃ (a : Nat) (L : List Op5), at_ = .int .i64 a ∧ wr.ownsRow w.heap.size 25 11 v L.length (GR.flat encO L) ∧ Below w.heap.size w wr ∧ ((s.size ≤ 60000 ∧ Sofar s a L) ∨ (60000 < s.size ∧ a = 0 ∧ L = []))) (fun _ at_ _ => s.size - (intOf at_).toNat)
  case atStart =>
    refine ⟨0, [], rfl, World.ownsRow_lit _ #[] 0 (Nat.le_refl _) (by decide) rfl, (Below.refl _ _).alloc (Nat.le_refl _) _, ?_⟩
    by_cases h : s.size ≤ 60000
    · exact .inl ⟨h, sofar_start s h⟩
    · exact .inr ⟨by omega, rfl, rfl⟩
  case round =>
    obtain ⟨a, L, rfl, hown, hbel, hcase⟩ := hrel
    obtain ⟨va, vc, rfl, _⟩ := GR.own_at (enc := encO) (sz := 11) (l := L) encO_length hown
    have HOWN := hide hown
    have HBL := hide hbel
    clear hown hbel
    rcases hcase with ⟨hsm, hS⟩ | ⟨hbig, rfl, rfl⟩
    case' inr =>
      have hb1 : decide ((s.size : Int) ≤ 60000) = false := by simp; omega
      go_wp2_with fail
      exact bodyPost_ret (v := .tuple #[.slice va 0 vc, .int .i64 0]) (by simp [results, Tryz.results11, go_sem]) rfl (gives_big (unhide HOWN) (unhide HBL) hbig)
    have hb1 : decide ((s.size : Int) ≤ 60000) = true := by simp; omega
    have ha := hS.2.1
    have HS := hide hS
    clear hS
    by_cases h4 : a + 4 < s.size
    case' neg =>
      have hb2 : decide ((4 : Int) < (s.size : Int) - (a : Int)) = false := by simp; omega
      have HST := hide (st_short h4)
      go_wp2_with fail
      exact bodyPost_ret (v := .tuple #[.slice va L.length vc, .int .i64 a]) (by simp [results, Tryz.results11, go_sem]) rfl (gives_end (unhide HOWN) (unhide HBL) (unhide HS) (unhide HST) (Below.refl _ _))
    have hb2 : decide ((4 : Int) < (s.size : Int) - (a : Int)) = true := by simp; omega
    have h4i : (a : Int) + 4 < (s.size : Int) := by omega
    have hw4 : IntKind.i64.wrap ((a : Int) + 4) = (a : Int) + 4 := IntWalk.i64_in _ ⟨by omega, by omega⟩
    have hw5 : 0 ≤ (a : Int) + 4 ∧ (a : Int) + 4 ≤ (s.size : Int) := by omega
    have hw6 : (a : Int) ≤ (a : Int) + 4 := by omega
    have hw7 : ((a : Int) + 4).toNat = a + 4 := by omega
    have HGA := hide (fun w1 => unhide HG ((a : Int) + 4) w1)
    have hTX := rtS_size s ((a : Int) + 4)
    have hEl := rtE_le s ((a : Int) + 4)
    have hTX2 : (rtS s ((a : Int) + 4)).size ≤ maxLen := Nat.le_trans hTX (by unfold maxLen; omega)
    have HOP := hide (fun w1 => specGetOp (rtS s ((a : Int) + 4)) hTX2 w1)
    have HC := hide (fun w1 => specCheckSum (rtS s ((a : Int) + 4)) w1 hTX2)
    have e : (65536 * (sums (rtS s ((a : Int) + 4)).data.toList).2 + (sums (rtS s ((a : Int) + 4)).data.toList).1 : Int) = (sumN (rtS s ((a : Int) + 4)) : Int) := by unfold sumN; omega
    rw [e] at HC
    have HW := hide (fun w1 => l04Word (sumN (rtS s ((a : Int) + 4))) (sumN_lt _) w1)
    have hspec := stB_spec s a h4
    have HNX0 := hide (fun h : stB s a = true => (show _ ∧ _ from ⟨sofar_step (unhide HS) h, st_parts h⟩))
    unfold gopV at HOP
    have HOC := hide (show gopB (rtS s ((a : Int) + 4)) = true → getOp (rtS s ((a : Int) + 4)) = opC (rtS s ((a : Int) + 4)) from fun h => by unfold getOp; rw [if_pos h])
    clear e hTX hTX2 HG
    by_cases hE : rtE s ((a : Int) + 4) < 0
    case' pos =>
      have HST := hide (show stB s a = false by rw [hspec, decide_eq_false (by omega)]; rfl)
      have hd : decide (rtE s ((a : Int) + 4) < 0) = true := decide_eq_true hE
      clear hspec HNX0 HOC
      generalize rtE s ((a : Int) + 4) = E at *
      generalize wordB (sumN (rtS s ((a : Int) + 4))) = bW at *
      generalize sumN (rtS s ((a : Int) + 4)) = nn at *
      generalize gopB (rtS s ((a : Int) + 4)) = OK at *
      generalize getOp (rtS s ((a : Int) + 4)) = oc at *
      generalize rtS s ((a : Int) + 4) = TX at *
      obtain ⟨K, no, k, n, ⟨mK, mF, mT, mI, mL, mk, mN⟩⟩ := oc
      go_wp2_with fail
      refine (unhide HGA _).mono ?_
      rintro e w1 ⟨rfl, hb1⟩
      have HB1 := hide hb1
      clear hb1
      go_wp2_with fail
      refine (unhide HOP _).mono ?_
      rintro e w2 ⟨rfl, hb2⟩
      have HB2 := hide ((unhide HB1).trans (hb2.mono (unhide HB1).size))
      clear hb2 HB1
      go_upto_region 6 with fail
      refine wp_at (fun W hW => ?_)
      have HBW : Hid (Below wr.heap.size wr W) := by rw [hW]; exact (unhide HB2).trans ((below_one w2 _).mono (unhide HB2).size)
      have HOW : Hid (W.heap[w2.heap.size]? = some (.cells #[.int .i64 K, .int .i64 no, .string k, .int .i64 n, .int .i64 mK, .int .i64 mF, .int .i64 mT, .int .i64 mI, .int .i64 mL, .string mk, .int .i64 mN] 25 (0, 0))) := by rw [hW]; exact heap_alloc_new w2 _
      clear hW HB2
      refine wp_region_mix (by kernel_rfl) ?_
      show wpMix _ _ _ _ 17 (Array.replicate 17 false) _ _
      refine wpMix_take 0 rfl (by kernel_rfl) (by kernel_rfl) (by kernel_rfl) (fun _ _ _ _ h => h) (fun K hK => ?_)
      go_simp
      first
        | (refine hK _ ?_; clear hK K)
        | (apply Exists.intro
           refine ⟨fun _ => ?_, hK _ ?_⟩
           (fail)
           clear hK K)
      refine wpMix_take 1 rfl (by kernel_rfl) (by kernel_rfl) (by kernel_rfl) (fun _ _ _ _ h => h) (fun K hK => ?_)
      go_simp
      first
        | (refine hK _ ?_; clear hK K)
        | (apply Exists.intro
           refine ⟨fun _ => ?_, hK _ ?_⟩
           (fail)
           clear hK K)
      refine wpMix_take 2 rfl (by kernel_rfl) (by kernel_rfl) (by kernel_rfl) (fun _ _ _ _ h => h) (fun K hK => ?_)
      go_simp
      first
        | (refine hK _ ?_; clear hK K)
        | (apply Exists.intro
           refine ⟨fun _ => ?_, hK _ ?_⟩
           (fail)
           clear hK K)
      refine wpMix_take 3 rfl (by kernel_rfl) (by kernel_rfl) (by kernel_rfl) (fun _ _ _ _ h => h) (fun K hK => ?_)
      go_simp
      first
        | (refine hK _ ?_; clear hK K)
        | (apply Exists.intro
           refine ⟨fun _ => ?_, hK _ ?_⟩
           (fail)
           clear hK K)
      refine wpMix_take 4 rfl (by kernel_rfl) (by kernel_rfl) (by kernel_rfl) (fun _ _ _ _ h => h) (fun K hK => ?_)
      go_simp
      first
        | (refine hK _ ?_; clear hK K)
        | (apply Exists.intro
           refine ⟨fun _ => ?_, hK _ ?_⟩
           (fail)
           clear hK K)
      refine wpMix_take 5 rfl (by kernel_rfl) (by kernel_rfl) (by kernel_rfl) (fun _ _ _ _ h => h) (fun K hK => ?_)
      go_simp
      first
        | (refine hK _ ?_; clear hK K)
        | (apply Exists.intro
           refine ⟨fun _ => ?_, hK _ ?_⟩
           (fail)
           clear hK K)
      refine wpMix_take 6 rfl (by kernel_rfl) (by kernel_rfl) (by kernel_rfl) (fun _ _ _ _ h => h) (fun K hK => ?_)
      go_simp
      first
        | (refine hK _ ?_; clear hK K)
        | (apply Exists.intro
           refine ⟨fun _ => ?_, hK _ ?_⟩
           (fail)
           clear hK K)
      refine wpMix_take 7 rfl (by kernel_rfl) (by kernel_rfl) (by kernel_rfl) (fun _ _ _ _ h => h) (fun K hK => ?_)
      go_simp
      first
        | (refine hK _ ?_; clear hK K)
        | (apply Exists.intro
           refine ⟨fun _ => ?_, hK _ ?_⟩
           (fail)
           clear hK K)
      refine wpMix_take 8 rfl (by kernel_rfl) (by kernel_rfl) (by kernel_rfl) (fun _ _ _ _ h => h) (fun K hK => ?_)
      go_simp
      first
        | (refine hK _ ?_; clear hK K)
        | (apply Exists.intro
           refine ⟨fun _ => ?_, hK _ ?_⟩
           (fail)
           clear hK K)
      refine wpMix_take 9 rfl (by kernel_rfl) (by kernel_rfl) (by kernel_rfl) (fun _ _ _ _ h => h) (fun K hK => ?_)
      go_simp
      first
        | (refine hK _ ?_; clear hK K)
        | (apply Exists.intro
           refine ⟨fun _ => ?_, hK _ ?_⟩
           (fail)
           clear hK K)
      refine wpMix_take 10 rfl (by kernel_rfl) (by kernel_rfl) (by kernel_rfl) (fun _ _ _ _ h => h) (fun K hK => ?_)
      go_simp
      first
        | (refine hK _ ?_; clear hK K)
        | (apply Exists.intro
           refine ⟨fun _ => ?_, hK _ ?_⟩
           (fail)
           clear hK K)
      refine wpMix_take 11 rfl (by kernel_rfl) (by kernel_rfl) (by kernel_rfl) (fun _ _ _ _ h => h) (fun K hK => ?_)
      go_simp
      first
        | (refine hK _ ?_; clear hK K)
        | (apply Exists.intro
           refine ⟨fun _ => ?_, hK _ ?_⟩
           ((simp only [hw4]; rw [if_pos hw5, if_pos hw6, hw7]; exact ⟨rfl, rfl⟩))
           clear hK K)
      refine wpMix_take 12 rfl (by kernel_rfl) (by kernel_rfl) (by kernel_rfl) (fun _ _ _ _ h => h) (fun K hK => ?_)
      go_simp
      first
        | (refine hK _ ?_; clear hK K)
        | (apply Exists.intro
           refine ⟨fun _ => ?_, hK _ ?_⟩
           (fail)
           clear hK K)
      refine wpMix_take 13 rfl (by kernel_rfl) (by kernel_rfl) (by kernel_rfl) (fun _ _ _ _ h => h) (fun K hK => ?_)
      go_simp
      first
        | (refine hK _ ?_; clear hK K)
        | (apply Exists.intro
           refine ⟨fun _ => ?_, hK _ ?_⟩
           ((first | exact (unhide HC _).mono (fun e z ⟨he, hz⟩ => ⟨he, hz ▸ Below.refl _ _⟩) | exact unhide HW _))
           clear hK K)
      refine wpMix_take 14 rfl (by kernel_rfl) (by kernel_rfl) (by kernel_rfl) (fun _ _ _ _ h => h) (fun K hK => ?_)
      go_simp
      first
        | (refine hK _ ?_; clear hK K)
        | (apply Exists.intro
           refine ⟨fun _ => ?_, hK _ ?_⟩
           ((first | exact (unhide HC _).mono (fun e z ⟨he, hz⟩ => ⟨he, hz ▸ Below.refl _ _⟩) | exact unhide HW _))
           clear hK K)
      refine wpMix_take 15 rfl (by kernel_rfl) (by kernel_rfl) (by kernel_rfl) (fun _ _ _ _ h => h) (fun K hK => ?_)
      go_simp
      first
        | (refine hK _ ?_; clear hK K)
        | (apply Exists.intro
           refine ⟨fun _ => ?_, hK _ ?_⟩
           (fail)
           clear hK K)
      refine wpMix_take 16 rfl (by kernel_rfl) (by kernel_rfl) (by kernel_rfl) (fun _ _ _ _ h => h) (fun K hK => ?_)
      go_simp
      first
        | (refine hK _ ?_; clear hK K)
        | (apply Exists.intro
           refine ⟨fun _ => ?_, hK _ ?_⟩
           (fail)
           clear hK K)
      refine wpMix_done (by kernel_rfl) (fun z hz => ?_)
      have HBZ := hide ((unhide HBW).trans (hz.mono (unhide HBW).size))
      clear hz HBW HOW
      go_simp
      go_wp2_with fail
      exact bodyPost_ret (v := .tuple #[.slice va L.length vc, .int .i64 a]) (by simp [results, Tryz.results11, go_sem]) rfl (gives_end (unhide HOWN) (unhide HBL) (unhide HS) (unhide HST) (unhide HBZ))
    have hd : decide (rtE s ((a : Int) + 4) < 0) = false := decide_eq_false hE
    have hd2 : decide (0 ≤ rtE s ((a : Int) + 4)) = true := decide_eq_true (by omega)
    rw [hd2, Bool.true_and] at hspec
    clear hd2
    cases hok : gopB (rtS s ((a : Int) + 4))
    case' false =>
      have HST := hide (show stB s a = false by rw [hspec, hok]; rfl)
      rw [hok] at HOP
      clear hspec HNX0 HOC hok
      generalize rtE s ((a : Int) + 4) = E at *
      generalize wordB (sumN (rtS s ((a : Int) + 4))) = bW at *
      generalize sumN (rtS s ((a : Int) + 4)) = nn at *
      generalize getOp (rtS s ((a : Int) + 4)) = oc at *
      generalize rtS s ((a : Int) + 4) = TX at *
      obtain ⟨K, no, k, n, ⟨mK, mF, mT, mI, mL, mk, mN⟩⟩ := oc
      go_wp2_with fail
      refine (unhide HGA _).mono ?_
      rintro e w1 ⟨rfl, hb1⟩
      have HB1 := hide hb1
      clear hb1
      go_wp2_with fail
      refine (unhide HOP _).mono ?_
      rintro e w2 ⟨rfl, hb2⟩
      have HB2 := hide ((unhide HB1).trans (hb2.mono (unhide HB1).size))
      clear hb2 HB1
      go_upto_region 6 with fail
      refine wp_at (fun W hW => ?_)
      have HBW : Hid (Below wr.heap.size wr W) := by rw [hW]; exact (unhide HB2).trans ((below_one w2 _).mono (unhide HB2).size)
      have HOW : Hid (W.heap[w2.heap.size]? = some (.cells #[.int .i64 K, .int .i64 no, .string k, .int .i64 n, .int .i64 mK, .int .i64 mF, .int .i64 mT, .int .i64 mI, .int .i64 mL, .string mk, .int .i64 mN] 25 (0, 0))) := by rw [hW]; exact heap_alloc_new w2 _
      clear hW HB2
      refine wp_region_mix (by kernel_rfl) ?_
      show wpMix _ _ _ _ 17 (Array.replicate 17 false) _ _
      refine wpMix_take 0 rfl (by kernel_rfl) (by kernel_rfl) (by kernel_rfl) (fun _ _ _ _ h => h) (fun K hK => ?_)
      go_simp
      first
        | (refine hK _ ?_; clear hK K)
        | (apply Exists.intro
           refine ⟨fun _ => ?_, hK _ ?_⟩
           (fail)
           clear hK K)
      refine wpMix_take 1 rfl (by kernel_rfl) (by kernel_rfl) (by kernel_rfl) (fun _ _ _ _ h => h) (fun K hK => ?_)
      go_simp
      first
        | (refine hK _ ?_; clear hK K)
        | (apply Exists.intro
           refine ⟨fun _ => ?_, hK _ ?_⟩
           (fail)
           clear hK K)
      refine wpMix_take 2 rfl (by kernel_rfl) (by kernel_rfl) (by kernel_rfl) (fun _ _ _ _ h => h) (fun K hK => ?_)
      go_simp
      first
        | (refine hK _ ?_; clear hK K)
        | (apply Exists.intro
           refine ⟨fun _ => ?_, hK _ ?_⟩
           (fail)
           clear hK K)
      refine wpMix_take 3 rfl (by kernel_rfl) (by kernel_rfl) (by kernel_rfl) (fun _ _ _ _ h => h) (fun K hK => ?_)
      go_simp
      first
        | (refine hK _ ?_; clear hK K)
        | (apply Exists.intro
           refine ⟨fun _ => ?_, hK _ ?_⟩
           (fail)
           clear hK K)
      refine wpMix_take 4 rfl (by kernel_rfl) (by kernel_rfl) (by kernel_rfl) (fun _ _ _ _ h => h) (fun K hK => ?_)
      go_simp
      first
        | (refine hK _ ?_; clear hK K)
        | (apply Exists.intro
           refine ⟨fun _ => ?_, hK _ ?_⟩
           (fail)
           clear hK K)
      refine wpMix_take 5 rfl (by kernel_rfl) (by kernel_rfl) (by kernel_rfl) (fun _ _ _ _ h => h) (fun K hK => ?_)
      go_simp
      first
        | (refine hK _ ?_; clear hK K)
        | (apply Exists.intro
           refine ⟨fun _ => ?_, hK _ ?_⟩
           (fail)
           clear hK K)
      refine wpMix_take 6 rfl (by kernel_rfl) (by kernel_rfl) (by kernel_rfl) (fun _ _ _ _ h => h) (fun K hK => ?_)
      go_simp
      first
        | (refine hK _ ?_; clear hK K)
        | (apply Exists.intro
           refine ⟨fun _ => ?_, hK _ ?_⟩
           (fail)
           clear hK K)
      refine wpMix_take 7 rfl (by kernel_rfl) (by kernel_rfl) (by kernel_rfl) (fun _ _ _ _ h => h) (fun K hK => ?_)
      go_simp
      first
        | (refine hK _ ?_; clear hK K)
        | (apply Exists.intro
           refine ⟨fun _ => ?_, hK _ ?_⟩
           (fail)
           clear hK K)
      refine wpMix_take 8 rfl (by kernel_rfl) (by kernel_rfl) (by kernel_rfl) (fun _ _ _ _ h => h) (fun K hK => ?_)
      go_simp
      first
        | (refine hK _ ?_; clear hK K)
        | (apply Exists.intro
           refine ⟨fun _ => ?_, hK _ ?_⟩
           (fail)
           clear hK K)
      refine wpMix_take 9 rfl (by kernel_rfl) (by kernel_rfl) (by kernel_rfl) (fun _ _ _ _ h => h) (fun K hK => ?_)
      go_simp
      first
        | (refine hK _ ?_; clear hK K)
        | (apply Exists.intro
           refine ⟨fun _ => ?_, hK _ ?_⟩
           (fail)
           clear hK K)
      refine wpMix_take 10 rfl (by kernel_rfl) (by kernel_rfl) (by kernel_rfl) (fun _ _ _ _ h => h) (fun K hK => ?_)
      go_simp
      first
        | (refine hK _ ?_; clear hK K)
        | (apply Exists.intro
           refine ⟨fun _ => ?_, hK _ ?_⟩
           (fail)
           clear hK K)
      refine wpMix_take 11 rfl (by kernel_rfl) (by kernel_rfl) (by kernel_rfl) (fun _ _ _ _ h => h) (fun K hK => ?_)
      go_simp
      first
        | (refine hK _ ?_; clear hK K)
        | (apply Exists.intro
           refine ⟨fun _ => ?_, hK _ ?_⟩
           ((simp only [hw4]; rw [if_pos hw5, if_pos hw6, hw7]; exact ⟨rfl, rfl⟩))
           clear hK K)
      refine wpMix_take 12 rfl (by kernel_rfl) (by kernel_rfl) (by kernel_rfl) (fun _ _ _ _ h => h) (fun K hK => ?_)
      go_simp
      first
        | (refine hK _ ?_; clear hK K)
        | (apply Exists.intro
           refine ⟨fun _ => ?_, hK _ ?_⟩
           (fail)
           clear hK K)
      refine wpMix_take 13 rfl (by kernel_rfl) (by kernel_rfl) (by kernel_rfl) (fun _ _ _ _ h => h) (fun K hK => ?_)
      go_simp
      first
        | (refine hK _ ?_; clear hK K)
        | (apply Exists.intro
           refine ⟨fun _ => ?_, hK _ ?_⟩
           ((first | exact (unhide HC _).mono (fun e z ⟨he, hz⟩ => ⟨he, hz ▸ Below.refl _ _⟩) | exact unhide HW _))
           clear hK K)
      refine wpMix_take 14 rfl (by kernel_rfl) (by kernel_rfl) (by kernel_rfl) (fun _ _ _ _ h => h) (fun K hK => ?_)
      go_simp
      first
        | (refine hK _ ?_; clear hK K)
        | (apply Exists.intro
           refine ⟨fun _ => ?_, hK _ ?_⟩
           ((first | exact (unhide HC _).mono (fun e z ⟨he, hz⟩ => ⟨he, hz ▸ Below.refl _ _⟩) | exact unhide HW _))
           clear hK K)
      refine wpMix_take 15 rfl (by kernel_rfl) (by kernel_rfl) (by kernel_rfl) (fun _ _ _ _ h => h) (fun K hK => ?_)
      go_simp
      first
        | (refine hK _ ?_; clear hK K)
        | (apply Exists.intro
           refine ⟨fun _ => ?_, hK _ ?_⟩
           (fail)
           clear hK K)
      refine wpMix_take 16 rfl (by kernel_rfl) (by kernel_rfl) (by kernel_rfl) (fun _ _ _ _ h => h) (fun K hK => ?_)
      go_simp
      first
        | (refine hK _ ?_; clear hK K)
        | (apply Exists.intro
           refine ⟨fun _ => ?_, hK _ ?_⟩
           (fail)
           clear hK K)
      refine wpMix_done (by kernel_rfl) (fun z hz => ?_)
      have HBZ := hide ((unhide HBW).trans (hz.mono (unhide HBW).size))
      clear hz HBW HOW
      go_simp
      go_wp2_with fail
      exact bodyPost_ret (v := .tuple #[.slice va L.length vc, .int .i64 a]) (by simp [results, Tryz.results11, go_sem]) rfl (gives_end (unhide HOWN) (unhide HBL) (unhide HS) (unhide HST) (unhide HBZ))
    rw [hok, Bool.true_and] at hspec
    rw [hok] at HOP
    have hoc := unhide HOC hok
    clear HOC hok
    by_cases hq : s.extract a (a + 4) = wordB (sumN (rtS s ((a : Int) + 4)))
    case' neg =>
      have HST := hide (show stB s a = false by rw [hspec, decide_eq_false hq])
      have hqq : ((s.extract a (a + 4)).toList == (wordB (sumN (rtS s ((a : Int) + 4)))).toList) = false := by
        rw [beq_eq_false_iff_ne]
        intro h
        rw [ByteArray.toList_eq, ByteArray.toList_eq] at h
        exact hq (ByteArray.ext (Array.ext' h))
      clear hspec HNX0 hq hoc
      generalize rtE s ((a : Int) + 4) = E at *
      generalize wordB (sumN (rtS s ((a : Int) + 4))) = bW at *
      generalize sumN (rtS s ((a : Int) + 4)) = nn at *
      generalize getOp (rtS s ((a : Int) + 4)) = oc at *
      generalize rtS s ((a : Int) + 4) = TX at *
      obtain ⟨K, no, k, n, ⟨mK, mF, mT, mI, mL, mk, mN⟩⟩ := oc
      go_wp2_with fail
      refine (unhide HGA _).mono ?_
      rintro e w1 ⟨rfl, hb1⟩
      have HB1 := hide hb1
      clear hb1
      go_wp2_with fail
      refine (unhide HOP _).mono ?_
      rintro e w2 ⟨rfl, hb2⟩
      have HB2 := hide ((unhide HB1).trans (hb2.mono (unhide HB1).size))
      clear hb2 HB1
      go_upto_region 6 with fail
      refine wp_at (fun W hW => ?_)
      have HBW : Hid (Below wr.heap.size wr W) := by rw [hW]; exact (unhide HB2).trans ((below_one w2 _).mono (unhide HB2).size)
      have HOW : Hid (W.heap[w2.heap.size]? = some (.cells #[.int .i64 K, .int .i64 no, .string k, .int .i64 n, .int .i64 mK, .int .i64 mF, .int .i64 mT, .int .i64 mI, .int .i64 mL, .string mk, .int .i64 mN] 25 (0, 0))) := by rw [hW]; exact heap_alloc_new w2 _
      clear hW HB2
      refine wp_region_mix (by kernel_rfl) ?_
      show wpMix _ _ _ _ 17 (Array.replicate 17 false) _ _
      refine wpMix_take 0 rfl (by kernel_rfl) (by kernel_rfl) (by kernel_rfl) (fun _ _ _ _ h => h) (fun K hK => ?_)
      go_simp
      first
        | (refine hK _ ?_; clear hK K)
        | (apply Exists.intro
           refine ⟨fun _ => ?_, hK _ ?_⟩
           (fail)
           clear hK K)
      refine wpMix_take 1 rfl (by kernel_rfl) (by kernel_rfl) (by kernel_rfl) (fun _ _ _ _ h => h) (fun K hK => ?_)
      go_simp
      first
        | (refine hK _ ?_; clear hK K)
        | (apply Exists.intro
           refine ⟨fun _ => ?_, hK _ ?_⟩
           (fail)
           clear hK K)
      refine wpMix_take 2 rfl (by kernel_rfl) (by kernel_rfl) (by kernel_rfl) (fun _ _ _ _ h => h) (fun K hK => ?_)
      go_simp
      first
        | (refine hK _ ?_; clear hK K)
        | (apply Exists.intro
           refine ⟨fun _ => ?_, hK _ ?_⟩
           (fail)
           clear hK K)
      refine wpMix_take 3 rfl (by kernel_rfl) (by kernel_rfl) (by kernel_rfl) (fun _ _ _ _ h => h) (fun K hK => ?_)
      go_simp
      first
        | (refine hK _ ?_; clear hK K)
        | (apply Exists.intro
           refine ⟨fun _ => ?_, hK _ ?_⟩
           (fail)
           clear hK K)
      refine wpMix_take 4 rfl (by kernel_rfl) (by kernel_rfl) (by kernel_rfl) (fun _ _ _ _ h => h) (fun K hK => ?_)
      go_simp
      first
        | (refine hK _ ?_; clear hK K)
        | (apply Exists.intro
           refine ⟨fun _ => ?_, hK _ ?_⟩
           (fail)
           clear hK K)
      refine wpMix_take 5 rfl (by kernel_rfl) (by kernel_rfl) (by kernel_rfl) (fun _ _ _ _ h => h) (fun K hK => ?_)
      go_simp
      first
        | (refine hK _ ?_; clear hK K)
        | (apply Exists.intro
           refine ⟨fun _ => ?_, hK _ ?_⟩
           (fail)
           clear hK K)
      refine wpMix_take 6 rfl (by kernel_rfl) (by kernel_rfl) (by kernel_rfl) (fun _ _ _ _ h => h) (fun K hK => ?_)
      go_simp
      first
        | (refine hK _ ?_; clear hK K)
        | (apply Exists.intro
           refine ⟨fun _ => ?_, hK _ ?_⟩
           (fail)
           clear hK K)
      refine wpMix_take 7 rfl (by kernel_rfl) (by kernel_rfl) (by kernel_rfl) (fun _ _ _ _ h => h) (fun K hK => ?_)
      go_simp
      first
        | (refine hK _ ?_; clear hK K)
        | (apply Exists.intro
           refine ⟨fun _ => ?_, hK _ ?_⟩
           (fail)
           clear hK K)
      refine wpMix_take 8 rfl (by kernel_rfl) (by kernel_rfl) (by kernel_rfl) (fun _ _ _ _ h => h) (fun K hK => ?_)
      go_simp
      first
        | (refine hK _ ?_; clear hK K)
        | (apply Exists.intro
           refine ⟨fun _ => ?_, hK _ ?_⟩
           (fail)
           clear hK K)
      refine wpMix_take 9 rfl (by kernel_rfl) (by kernel_rfl) (by kernel_rfl) (fun _ _ _ _ h => h) (fun K hK => ?_)
      go_simp
      first
        | (refine hK _ ?_; clear hK K)
        | (apply Exists.intro
           refine ⟨fun _ => ?_, hK _ ?_⟩
           (fail)
           clear hK K)
      refine wpMix_take 10 rfl (by kernel_rfl) (by kernel_rfl) (by kernel_rfl) (fun _ _ _ _ h => h) (fun K hK => ?_)
      go_simp
      first
        | (refine hK _ ?_; clear hK K)
        | (apply Exists.intro
           refine ⟨fun _ => ?_, hK _ ?_⟩
           (fail)
           clear hK K)
      refine wpMix_take 11 rfl (by kernel_rfl) (by kernel_rfl) (by kernel_rfl) (fun _ _ _ _ h => h) (fun K hK => ?_)
      go_simp
      first
        | (refine hK _ ?_; clear hK K)
        | (apply Exists.intro
           refine ⟨fun _ => ?_, hK _ ?_⟩
           ((simp only [hw4]; rw [if_pos hw5, if_pos hw6, hw7]; exact ⟨rfl, rfl⟩))
           clear hK K)
      refine wpMix_take 12 rfl (by kernel_rfl) (by kernel_rfl) (by kernel_rfl) (fun _ _ _ _ h => h) (fun K hK => ?_)
      go_simp
      first
        | (refine hK _ ?_; clear hK K)
        | (apply Exists.intro
           refine ⟨fun _ => ?_, hK _ ?_⟩
           (fail)
           clear hK K)
      refine wpMix_take 13 rfl (by kernel_rfl) (by kernel_rfl) (by kernel_rfl) (fun _ _ _ _ h => h) (fun K hK => ?_)
      go_simp
      first
        | (refine hK _ ?_; clear hK K)
        | (apply Exists.intro
           refine ⟨fun _ => ?_, hK _ ?_⟩
           ((first | exact (unhide HC _).mono (fun e z ⟨he, hz⟩ => ⟨he, hz ▸ Below.refl _ _⟩) | exact unhide HW _))
           clear hK K)
      refine wpMix_take 14 rfl (by kernel_rfl) (by kernel_rfl) (by kernel_rfl) (fun _ _ _ _ h => h) (fun K hK => ?_)
      go_simp
      first
        | (refine hK _ ?_; clear hK K)
        | (apply Exists.intro
           refine ⟨fun _ => ?_, hK _ ?_⟩
           ((first | exact (unhide HC _).mono (fun e z ⟨he, hz⟩ => ⟨he, hz ▸ Below.refl _ _⟩) | exact unhide HW _))
           clear hK K)
      refine wpMix_take 15 rfl (by kernel_rfl) (by kernel_rfl) (by kernel_rfl) (fun _ _ _ _ h => h) (fun K hK => ?_)
      go_simp
      first
        | (refine hK _ ?_; clear hK K)
        | (apply Exists.intro
           refine ⟨fun _ => ?_, hK _ ?_⟩
           (fail)
           clear hK K)
      refine wpMix_take 16 rfl (by kernel_rfl) (by kernel_rfl) (by kernel_rfl) (fun _ _ _ _ h => h) (fun K hK => ?_)
      go_simp
      first
        | (refine hK _ ?_; clear hK K)
        | (apply Exists.intro
           refine ⟨fun _ => ?_, hK _ ?_⟩
           (fail)
           clear hK K)
      refine wpMix_done (by kernel_rfl) (fun z hz => ?_)
      have HBZ := hide ((unhide HBW).trans (hz.mono (unhide HBW).size))
      clear hz HBW HOW
      go_simp
      go_wp2_with fail
      exact bodyPost_ret (v := .tuple #[.slice va L.length vc, .int .i64 a]) (by simp [results, Tryz.results11, go_sem]) rfl (gives_end (unhide HOWN) (unhide HBL) (unhide HS) (unhide HST) (unhide HBZ))
    have hqq : ((s.extract a (a + 4)).toList == (wordB (sumN (rtS s ((a : Int) + 4)))).toList) = true := by rw [hq]; simp
    have hst : stB s a = true := by rw [hspec, decide_eq_true hq]
    obtain ⟨hN1, _, hf1, hf2, hf3, hf4, _⟩ := unhide HNX0 hst
    have hE5 : rtE s ((a : Int) + 4) = ((rtE s ((a : Int) + 4)).toNat : Nat) := by omega
    have hE6 : a < (rtE s ((a : Int) + 4)).toNat := by omega
    have hE7 : (rtE s ((a : Int) + 4)).toNat ≤ s.size := by omega
    rw [hf1, hf2, ← hoc] at hN1
    have HNX := hide hN1
    have hd0 : ¬ (((rtE s ((a : Int) + 4)).toNat : Nat) : Int) < 0 := by omega
    rw [hE5] at HGA
    clear hspec HNX0 hq hst hN1 hf1 hf2 hf3 hf4 hoc hd hE hE5 hEl
    have hd := decide_eq_false hd0
    generalize (rtE s ((a : Int) + 4)).toNat = E at *
    generalize wordB (sumN (rtS s ((a : Int) + 4))) = bW at *
    generalize sumN (rtS s ((a : Int) + 4)) = nn at *
    generalize getOp (rtS s ((a : Int) + 4)) = oc at *
    generalize rtS s ((a : Int) + 4) = TX at *
    obtain ⟨K, no, k, n, ⟨mK, mF, mT, mI, mL, mk, mN⟩⟩ := oc
    go_wp2_with fail
    refine (unhide HGA _).mono ?_
    rintro e w1 ⟨rfl, hb1⟩
    have HB1 := hide hb1
    clear hb1
    go_wp2_with fail
    refine (unhide HOP _).mono ?_
    rintro e w2 ⟨rfl, hb2⟩
    have HB2 := hide ((unhide HB1).trans (hb2.mono (unhide HB1).size))
    clear hb2 HB1
    go_upto_region 6 with fail
    refine wp_at (fun W hW => ?_)
    have HBW : Hid (Below wr.heap.size wr W) := by rw [hW]; exact (unhide HB2).trans ((below_one w2 _).mono (unhide HB2).size)
    have HOW : Hid (W.heap[w2.heap.size]? = some (.cells #[.int .i64 K, .int .i64 no, .string k, .int .i64 n, .int .i64 mK, .int .i64 mF, .int .i64 mT, .int .i64 mI, .int .i64 mL, .string mk, .int .i64 mN] 25 (0, 0))) := by rw [hW]; exact heap_alloc_new w2 _
    clear hW HB2
    refine wp_region_mix (by kernel_rfl) ?_
    show wpMix _ _ _ _ 17 (Array.replicate 17 false) _ _
    refine wpMix_take 0 rfl (by kernel_rfl) (by kernel_rfl) (by kernel_rfl) (fun _ _ _ _ h => h) (fun K hK => ?_)
    go_simp
    first
      | (refine hK _ ?_; clear hK K)
      | (apply Exists.intro
         refine ⟨fun _ => ?_, hK _ ?_⟩
         (fail)
         clear hK K)
    refine wpMix_take 1 rfl (by kernel_rfl) (by kernel_rfl) (by kernel_rfl) (fun _ _ _ _ h => h) (fun K hK => ?_)
    go_simp
    first
      | (refine hK _ ?_; clear hK K)
      | (apply Exists.intro
         refine ⟨fun _ => ?_, hK _ ?_⟩
         (fail)
         clear hK K)
    refine wpMix_take 2 rfl (by kernel_rfl) (by kernel_rfl) (by kernel_rfl) (fun _ _ _ _ h => h) (fun K hK => ?_)
    go_simp
    first
      | (refine hK _ ?_; clear hK K)
      | (apply Exists.intro
         refine ⟨fun _ => ?_, hK _ ?_⟩
         (fail)
         clear hK K)
    refine wpMix_take 3 rfl (by kernel_rfl) (by kernel_rfl) (by kernel_rfl) (fun _ _ _ _ h => h) (fun K hK => ?_)
    go_simp
    first
      | (refine hK _ ?_; clear hK K)
      | (apply Exists.intro
         refine ⟨fun _ => ?_, hK _ ?_⟩
         (fail)
         clear hK K)
    refine wpMix_take 4 rfl (by kernel_rfl) (by kernel_rfl) (by kernel_rfl) (fun _ _ _ _ h => h) (fun K hK => ?_)
    go_simp
    first
      | (refine hK _ ?_; clear hK K)
      | (apply Exists.intro
         refine ⟨fun _ => ?_, hK _ ?_⟩
         (fail)
         clear hK K)
    refine wpMix_take 5 rfl (by kernel_rfl) (by kernel_rfl) (by kernel_rfl) (fun _ _ _ _ h => h) (fun K hK => ?_)
    go_simp
    first
      | (refine hK _ ?_; clear hK K)
      | (apply Exists.intro
         refine ⟨fun _ => ?_, hK _ ?_⟩
         (fail)
         clear hK K)
    refine wpMix_take 6 rfl (by kernel_rfl) (by kernel_rfl) (by kernel_rfl) (fun _ _ _ _ h => h) (fun K hK => ?_)
    go_simp
    first
      | (refine hK _ ?_; clear hK K)
      | (apply Exists.intro
         refine ⟨fun _ => ?_, hK _ ?_⟩
         (fail)
         clear hK K)
    refine wpMix_take 7 rfl (by kernel_rfl) (by kernel_rfl) (by kernel_rfl) (fun _ _ _ _ h => h) (fun K hK => ?_)
    go_simp
    first
      | (refine hK _ ?_; clear hK K)
      | (apply Exists.intro
         refine ⟨fun _ => ?_, hK _ ?_⟩
         (fail)
         clear hK K)
    refine wpMix_take 8 rfl (by kernel_rfl) (by kernel_rfl) (by kernel_rfl) (fun _ _ _ _ h => h) (fun K hK => ?_)
    go_simp
    first
      | (refine hK _ ?_; clear hK K)
      | (apply Exists.intro
         refine ⟨fun _ => ?_, hK _ ?_⟩
         (fail)
         clear hK K)
    refine wpMix_take 9 rfl (by kernel_rfl) (by kernel_rfl) (by kernel_rfl) (fun _ _ _ _ h => h) (fun K hK => ?_)
    go_simp
    first
      | (refine hK _ ?_; clear hK K)
      | (apply Exists.intro
         refine ⟨fun _ => ?_, hK _ ?_⟩
         (fail)
         clear hK K)
    refine wpMix_take 10 rfl (by kernel_rfl) (by kernel_rfl) (by kernel_rfl) (fun _ _ _ _ h => h) (fun K hK => ?_)
    go_simp
    first
      | (refine hK _ ?_; clear hK K)
      | (apply Exists.intro
         refine ⟨fun _ => ?_, hK _ ?_⟩
         (fail)
         clear hK K)
    refine wpMix_take 11 rfl (by kernel_rfl) (by kernel_rfl) (by kernel_rfl) (fun _ _ _ _ h => h) (fun K hK => ?_)
    go_simp
    first
      | (refine hK _ ?_; clear hK K)
      | (apply Exists.intro
         refine ⟨fun _ => ?_, hK _ ?_⟩
         ((simp only [hw4]; rw [if_pos hw5, if_pos hw6, hw7]; exact ⟨rfl, rfl⟩))
         clear hK K)
    refine wpMix_take 12 rfl (by kernel_rfl) (by kernel_rfl) (by kernel_rfl) (fun _ _ _ _ h => h) (fun K hK => ?_)
    go_simp
    first
      | (refine hK _ ?_; clear hK K)
      | (apply Exists.intro
         refine ⟨fun _ => ?_, hK _ ?_⟩
         (fail)
         clear hK K)
    refine wpMix_take 13 rfl (by kernel_rfl) (by kernel_rfl) (by kernel_rfl) (fun _ _ _ _ h => h) (fun K hK => ?_)
    go_simp
    first
      | (refine hK _ ?_; clear hK K)
      | (apply Exists.intro
         refine ⟨fun _ => ?_, hK _ ?_⟩
         ((first | exact (unhide HC _).mono (fun e z ⟨he, hz⟩ => ⟨he, hz ▸ Below.refl _ _⟩) | exact unhide HW _))
         clear hK K)
    refine wpMix_take 14 rfl (by kernel_rfl) (by kernel_rfl) (by kernel_rfl) (fun _ _ _ _ h => h) (fun K hK => ?_)
    go_simp
    first
      | (refine hK _ ?_; clear hK K)
      | (apply Exists.intro
         refine ⟨fun _ => ?_, hK _ ?_⟩
         ((first | exact (unhide HC _).mono (fun e z ⟨he, hz⟩ => ⟨he, hz ▸ Below.refl _ _⟩) | exact unhide HW _))
         clear hK K)
    refine wpMix_take 15 rfl (by kernel_rfl) (by kernel_rfl) (by kernel_rfl) (fun _ _ _ _ h => h) (fun K hK => ?_)
    go_simp
    first
      | (refine hK _ ?_; clear hK K)
      | (apply Exists.intro
         refine ⟨fun _ => ?_, hK _ ?_⟩
         (fail)
         clear hK K)
    refine wpMix_take 16 rfl (by kernel_rfl) (by kernel_rfl) (by kernel_rfl) (fun _ _ _ _ h => h) (fun K hK => ?_)
    go_simp
    first
      | (refine hK _ ?_; clear hK K)
      | (apply Exists.intro
         refine ⟨fun _ => ?_, hK _ ?_⟩
         (fail)
         clear hK K)
    refine wpMix_done (by kernel_rfl) (fun z hz => ?_)
    have HBZ := hide ((unhide HBW).trans (hz.mono (unhide HBW).size))
    have HOZ := hide (blk_step (unhide HOW) hz)
    clear hz HBW HOW
    obtain ⟨⟨c0, c1, c2, c3, c4, c5, c6, c7, c8, c9, c10⟩, _⟩ := eleven_at (unhide HOZ)
    have hzl := blk_lt (unhide HOZ)
    have HOWZ := hide (own_below (unhide HOWN) (unhide HBZ))
    have HBLZ := hide ((unhide HBL).trans ((unhide HBZ).mono (unhide HBL).size))
    have hLl := (unhide HS).1
    go_simp
    go_wp2_with (at_builtin; refine wpList_append_own _ rfl _ _ 34 rfl w.heap.size 25 i0 (.agg #[.int .i64 0, .int .i64 0, .string ByteArray.empty, .int .i64 0, .int .i64 0, .int .i64 0, .int .i64 0, .int .i64 0, .int .i64 0, .string ByteArray.empty, .int .i64 0]) 11 104 Tryz.underlying34 hi hz0 hz1 hz2 rfl (by decide) _ _ _ rfl ((unhide HOWZ).alloc _) ⟨z.heap.size, 0, none⟩ 1 1 (encO ⟨K, no, k, n, ⟨mK, mF, mT, mI, mL, mk, mN⟩⟩) rfl rfl ?c1 ?c2 ?c3 ?c4 ?c5 ?_)
    case c1 => exact World.news_of_block (heap_alloc_new z _)
    case c2 => exact encO_one _
    case c3 => unfold maxLen; omega
    case c4 => omega
    case c5 => have := (unhide HBLZ).size; simp; omega
    intro v' w6 hown' hgrow _
    have HBL6 := hide (GR.below_append (unhide HBLZ) (unhide HBLZ).size (unhide HOWZ) hgrow)
    have HOWN6 : Hid (w6.ownsRow w.heap.size 25 11 v' (L ++ [(⟨K, no, k, n, ⟨mK, mF, mT, mI, mL, mk, mN⟩⟩ : Op5)]).length (GR.flat encO (L ++ [(⟨K, no, k, n, ⟨mK, mF, mT, mI, mL, mk, mN⟩⟩ : Op5)]))) := by rw [List.length_append, flatO_snoc]; exact hown'
    clear hgrow hown' HOWZ HBLZ HBL HOWN HBZ HOZ c0 c1 c2 c3 c4 c5 c6 c7 c8 c9 c10
    go_wp2_with fail
    go_roundw
    case rel => exact ⟨E, _, rfl, unhide HOWN6, unhide HBL6, .inl ⟨hsm, unhide HNX⟩⟩
    case measure => simp [intOf]; omega
end Go.Proofs.YtikdkijggejnfaaGreatDoor
