/-
  The law's walk: FnNums returns true at every code.
-/
import Derived.Test.YthjpjamihlopeaaDoorNumsParts
import Derived.Test.YthjpjamihlopeaaDoorDrawTexts
import Derived.Deep.DeepCutAuto
import Derived.Deep.QuietTactic
import Derived.BigQuiet
import Derived.Lib.QuietBelow
namespace Go.Proofs.YthjpjamihlopeaaDoor
open Go.RowKit

theorem _root_.Go.RowKit.Below.drewN {B q : Nat} {a w : World} (h : Below B a w) : Below B a (w.drewN q) := ⟨h.os, h.tape, h.output, h.size, h.block⟩
theorem big_no (a : Option Addr) (len cap : Nat) (w : World) (h : len ≤ 1048576) : Calls Tryd.prog 5 #[.slice a len cap] w fun e w' => e = .returned (.bool false) ∧ w = w' := by
  go_enter Tryd.func5, Tryd.ntmps5
  go_wp2
  go_ret
  exact ⟨by simp; omega, rfl⟩
theorem big_yes (a : Option Addr) (len cap : Nat) (w : World) (h : 1048576 < len) : Calls Tryd.prog 5 #[.slice a len cap] w fun e w' => e = .returned (.bool true) ∧ w = w' := by
  go_enter Tryd.func5, Tryd.ntmps5
  go_wp2
  go_ret
  exact ⟨by simp; omega, rfl⟩

set_option maxRecDepth 100000 in
set_option maxHeartbeats 4000000 in
theorem fnNums_go (a : Option Addr) (len cap : Nat) (w : World) (hcode : CodeOk w a len) (hH : Handle w) :
    Calls Tryd.prog 3 #[.slice a len cap] w fun e w' => e = .returned (.bool true) ∧ Below w.heap.size w w' := by
  have HC := hide hcode
  have HH := hide hH
  have hl := hcode.1
  clear hcode hH
  go_enter Tryd.func3, Tryd.ntmps3
  go_wp2_with fail
  refine (big_no a len cap _ hl).mono ?_
  rintro e w0 ⟨rfl, rfl⟩
  go_wp2_with fail
  refine (drawPutNum a len cap _ (unhide HC)).mono ?_
  rintro e w1 ⟨n, rfl, hn0, hn1, hb1⟩
  go_wp2_with fail
  refine (implPutAny n _).mono ?_
  rintro e w2 ⟨rfl, hb2'⟩
  have hb2 := hb1.trans (hb2'.mono hb1.size)
  clear hb2' hb1
  go_wp2_with fail
  refine (drawGetNum a len cap _ ((unhide HC).below hb2)).mono ?_
  rintro e w3 ⟨u, i, rfl, hu, hi0, hi1, hb3'⟩
  have hb3 := hb2.trans (hb3'.mono hb2.size)
  clear hb3' hb2
  have hum : u.size ≤ maxLen := by unfold maxLen; omega
  go_wp2_with fail
  refine (implGetNumI u i _ hum ((unhide HH).below hb3)).mono ?_
  rintro e w4 ⟨he4, hb4'⟩
  rw [getRes_two] at he4
  subst he4
  have hb4 := hb3.trans (hb4'.mono hb3.size)
  clear hb4' hb3
  go_wp2_with fail
  refine (specGetNumI u i _ hum).mono ?_
  rintro e w5 ⟨he5, hb5'⟩
  rw [getRes_two] at he5
  subst he5
  have hb5 := hb4.trans (hb5'.mono hb4.size)
  clear hb5' hb4
  go_wp2_with fail
  refine (drawPutText a len cap _ ((unhide HC).below hb5)).mono ?_
  rintro e w6 ⟨x, rfl, hx, hb6'⟩
  have hb6 := hb5.trans (hb6'.mono hb5.size)
  clear hb6' hb5
  go_wp2_with fail
  refine (implPutTAny x _).mono ?_
  rintro e w7 ⟨rfl, hb7'⟩
  have hb7 := hb6.trans (hb7'.mono hb6.size)
  clear hb7' hb6
  go_wp2_with fail
  refine (drawGetText a len cap _ ((unhide HC).below hb7)).mono ?_
  rintro e w8 ⟨v, k, rfl, hv, hk0, hk1, hb8'⟩
  have hb8 := hb7.trans (hb8'.mono hb7.size)
  clear hb8' hb7
  have hvm : v.size ≤ maxLen := by unfold maxLen; omega
  go_wp2_with fail
  refine (implGetText v k _ hvm ((unhide HH).below hb8)).mono ?_
  rintro e w9 ⟨he9, hb9'⟩
  rw [textRes_two] at he9
  subst he9
  have hb9 := hb8.trans (hb9'.mono hb8.size)
  clear hb9' hb8
  go_wp2_with fail
  refine (specGetText v k _ hvm).mono ?_
  rintro e wa ⟨hea, hba'⟩
  rw [textRes_two] at hea
  subst hea
  have hba := hb9.trans (hba'.mono hb9.size)
  clear hba' hb9
  go_wp2_with fail
  refine (specPutAny n _).mono ?_
  rintro e wb ⟨rfl, hbb'⟩
  have hbb := hba.trans (hbb'.mono hba.size)
  clear hbb' hba
  go_wp2_with fail
  refine (specPutTAny x _).mono ?_
  rintro e wc ⟨rfl, hbc'⟩
  have hbc := hbb.trans (hbc'.mono hbb.size)
  clear hbc' hbb
  go_wp2_with fail
  have P1 := hide (num_prop u i)
  have P2 := hide (txt_prop v k)
  generalize numN (getAt u i) = N1 at *
  generalize numT (getAt u i) i = T1 at *
  generalize txtS (textOf v k.toNat (getAt v k)) = S2 at *
  generalize txtE (textOf v k.toNat (getAt v k)) = E2 at *
  have cN : ∀ d os, Calls Tryd.prog 7 #[.int .i64 N1] (Sort.grow (redrawn wc d) os) fun e w'' => e = .returned (.string (putS N1)) ∧ ∃ p : Regrown, w'' = Sort.grow (redrawn wc p.d) p.os := fun d os => Calls.regrown_of (implPutAny N1 _)
  have cT : ∀ d os, Calls Tryd.prog 12 #[.string S2] (Sort.grow (redrawn wc d) os) fun e w'' => e = .returned (.string (putT S2)) ∧ ∃ p : Regrown, w'' = Sort.grow (redrawn wc p.d) p.os := fun d os => Calls.regrown_of (implPutTAny S2 _)
  go_cut [120] (fun r wx => r = .bool false ∧ Below w.heap.size w wx)
  case first =>
    rcases unhide P1 with h1 | ⟨h1, h2, h3, h4, h5⟩
    · have g1 : decide (0 < T1) = false := by simp; omega
      rcases unhide P2 with j1 | ⟨j1, j2, j3, j4, j5⟩
      · have g2 : decide (0 < E2) = false := by simp; omega
        refine wp_region_quiet_below (by kernel_rfl) (by kernel_rfl) ?_
        repeat (first | go_big_quiet_step (first | exact cN _ _ | exact cT _ _) | quiet_step (first | exact cN _ _ | exact cT _ _))
        refine wpQuiet_nil ?_
        intro _ hw'
        obtain ⟨⟨dq, osq⟩, hw''⟩ := hw'
        subst hw''
        go_wp2_with fail
        go_meet
        case rel => exact ⟨rfl, hbc.trans ((below_regrown _ dq osq).mono hbc.size)⟩
      · have c2 : ((putT S2).toList == (v.extract k.toNat E2.toNat).toList) = true := by rw [j5]; simp
        have g2 : decide (0 < E2) = true := by simp; omega
        clear j5
        refine wp_region_quiet_below (by kernel_rfl) (by kernel_rfl) ?_
        repeat (first | go_big_quiet_step (first | exact cN _ _ | exact cT _ _) | quiet_step (first | exact cN _ _ | exact cT _ _))
        refine wpQuiet_nil ?_
        intro _ hw'
        obtain ⟨⟨dq, osq⟩, hw''⟩ := hw'
        subst hw''
        go_wp2_with fail
        go_meet
        case rel => exact ⟨rfl, hbc.trans ((below_regrown _ dq osq).mono hbc.size)⟩
    · have c1 : ((putS N1).toList == (u.extract i.toNat T1.toNat).toList) = true := by rw [h5]; simp
      have g1 : decide (0 < T1) = true := by simp; omega
      clear h5
      rcases unhide P2 with j1 | ⟨j1, j2, j3, j4, j5⟩
      · have g2 : decide (0 < E2) = false := by simp; omega
        refine wp_region_quiet_below (by kernel_rfl) (by kernel_rfl) ?_
        repeat (first | go_big_quiet_step (first | exact cN _ _ | exact cT _ _) | quiet_step (first | exact cN _ _ | exact cT _ _))
        refine wpQuiet_nil ?_
        intro _ hw'
        obtain ⟨⟨dq, osq⟩, hw''⟩ := hw'
        subst hw''
        go_wp2_with fail
        go_meet
        case rel => exact ⟨rfl, hbc.trans ((below_regrown _ dq osq).mono hbc.size)⟩
      · have c2 : ((putT S2).toList == (v.extract k.toNat E2.toNat).toList) = true := by rw [j5]; simp
        have g2 : decide (0 < E2) = true := by simp; omega
        clear j5
        refine wp_region_quiet_below (by kernel_rfl) (by kernel_rfl) ?_
        repeat (first | go_big_quiet_step (first | exact cN _ _ | exact cT _ _) | quiet_step (first | exact cN _ _ | exact cT _ _))
        refine wpQuiet_nil ?_
        intro _ hw'
        obtain ⟨⟨dq, osq⟩, hw''⟩ := hw'
        subst hw''
        go_wp2_with fail
        go_meet
        case rel => exact ⟨rfl, hbc.trans ((below_regrown _ dq osq).mono hbc.size)⟩
  case rest =>
    obtain ⟨rfl, hbd⟩ := hcut
    have hps := putS_size n
    have hpt := putT_size x
    by_cases hr : 0 ≤ n ∧ n ≤ 4000000000
    · obtain ⟨hs0, hback⟩ := num_back n hr
      have HBK := hide hback
      clear hback
      go_wp2_with fail
      refine (implGetNumI _ 1 _ (size_ends _ (by omega)) ((unhide HH).below hbd)).mono ?_
      rintro e wd ⟨hed, hbe'⟩
      rw [unhide HBK] at hed
      subst hed
      have hbx := hbd.trans (hbe'.mono hbd.size)
      have HHX := hide ((unhide HH).below hbx)
      clear hbe' hbd
      by_cases hx1000 : x.size ≤ 1000
      · obtain ⟨hl0, hback⟩ := text_back x hx1000
        have HB := hide hback
        clear hback
        go_wp2_with fail
        refine (implGetText _ 1 _ (size_ends _ (putT_size x)) (unhide HHX)).mono ?_
        rintro e we ⟨hee, hbe⟩
        rw [unhide HB] at hee
        subst hee
        go_wp2
        go_ret
        exact ⟨rfl, hbx.trans (hbe.mono hbx.size)⟩
      · have hE := text_out x hx1000
        have hgt : decide (1000 < (x.size : Int)) = true := by simp; omega
        go_wp2
        go_ret
        exact ⟨rfl, hbx⟩
    · have hE0 := num_out n hr
      have hbx := hbd
      have HHX := hide ((unhide HH).below hbx)
      clear hbd
      by_cases hx1000 : x.size ≤ 1000
      · obtain ⟨hl0, hback⟩ := text_back x hx1000
        have HB := hide hback
        clear hback
        go_wp2_with fail
        refine (implGetText _ 1 _ (size_ends _ (putT_size x)) (unhide HHX)).mono ?_
        rintro e we ⟨hee, hbe⟩
        rw [unhide HB] at hee
        subst hee
        go_wp2
        go_ret
        exact ⟨rfl, hbx.trans (hbe.mono hbx.size)⟩
      · have hE := text_out x hx1000
        have hgt : decide (1000 < (x.size : Int)) = true := by simp; omega
        go_wp2
        go_ret
        exact ⟨rfl, hbx⟩
end Go.Proofs.YthjpjamihlopeaaDoor
