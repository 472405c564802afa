/-
  The law FnDemand: it returns true at every code.
-/
import Derived.Test.YtmflajfddjnmhaaDmDraw3
import Derived.Test.YtmflajfddjnmhaaDmI2
import Derived.Test.YtmflajfddjnmhaaDmMath2
import Derived.Test.YtmflajfddjnmhaaLawHelp
import Derived.Test.YtmflajfddjnmhaaCodeRow
import Derived.Lib.QuietBelow
namespace Go.Proofs.Ytmflajfddjnmhaa
open Go.RowKit
open Mth

/-- Where the walk stands: demands lie in blocks of their own. -/
structure DSt (w : World) (fs : List (Nat × Dm)) (W : World) : Prop where
  bel : Below w.heap.size w W
  own : ∀ x ∈ fs, W.heap[x.1]? = some (dmo x.2)
theorem DSt.step {w W W' : World} {fs : List (Nat × Dm)} (h : DSt w fs W) (hb : Below W.heap.size W W') : DSt w fs W' := ⟨h.bel.trans (hb.mono h.bel.size), fun x hx => dm_step (h.own x hx) hb⟩
theorem DSt.put {w W : World} {fs : List (Nat × Dm)} (h : DSt w fs W) (m : Dm) : DSt w ((W.heap.size, m) :: fs) (W.alloc (dmo m)) := by
  refine ⟨h.bel.alloc h.bel.size _, fun x hx => ?_⟩
  rcases List.mem_cons.1 hx with rfl | hx
  · exact heap_alloc_new W _
  · rw [Below.heap_alloc _ _ _ (dm_lt (h.own x hx))]
    exact h.own x hx
theorem DSt.get {w W : World} {fs : List (Nat × Dm)} (h : DSt w fs W) {g : Nat} {d : Dm} (hm : (g, d) ∈ fs) :
    W.cell? ⟨g, 0, none⟩ = some (.int .i64 d.A) ∧ W.cell? ⟨g, 1, none⟩ = some (.int .i64 d.C) ∧ W.cell? ⟨g, 2, none⟩ = some (.int .i64 d.O) := (dm_at (h.own (g, d) hm)).1
theorem atB (a : Option Addr) (len cap i : Nat) (w : World) (hcode : CodeOk w a len) (hi : i ≤ 1000) : ∃ x : Int, 0 ≤ x ∧ x ≤ 255 ∧ ∀ w' : World, Below w.heap.size w w' → Calls Try.prog 27 #[.slice a len cap, .int .i64 i] w' fun e w'' => e = .returned (.int .i64 x) ∧ w' = w'' := by
  have hl := hcode.1
  by_cases hlt : i < len
  · obtain ⟨b, off, z, rfl, hb, z0, z1, hz⟩ := hcode.2 i hlt
    refine ⟨z, z0, z1, fun w' hw => ?_⟩
    have hz' : w'.cell? ⟨b, off + i, none⟩ = some (.int .u8 z) := (hw.cell (p := ⟨b, off + i, none⟩) hb).trans hz
    clear hcode hz hw
    go_enter Try.func27, Try.ntmps27
    go_wp2
    go_ret
    exact ⟨rfl, rfl⟩
  · refine ⟨((i : Int) * 7 + (len : Int)) % 256, by omega, by omega, fun w' hw => ?_⟩
    clear hcode hw
    go_enter Try.func27, Try.ntmps27
    go_wp2
    go_ret
    exact ⟨rfl, rfl⟩
theorem dm_loop {w W : World} {g : Nat} {d d' : Dm} (h : DSt w [(g, d)] W) (hg : w.heap.size ≤ g) : DSt w [(g, d')] (((W.setCell ⟨g, 0, none⟩ (.int .i64 d'.A)).setCell ⟨g, 1, none⟩ (.int .i64 d'.C)).setCell ⟨g, 2, none⟩ (.int .i64 d'.O)) := by
  refine ⟨dm_below h.bel hg, fun x hx => ?_⟩
  obtain rfl := List.mem_singleton.1 hx
  exact dm_all (h.own (g, d) (by simp))
theorem DSt.tail {w W : World} {p : Nat × Dm} {fs : List (Nat × Dm)} (h : DSt w (p :: fs) W) : DSt w [p] W := ⟨h.bel, fun x hx => h.own x (by simp at hx; simp [hx])⟩

/-- The last part: a steady demand. -/
def DmGoal (w : World) : Ending → World → Prop := fun e w' => e = .returned (.bool true) ∧ Below w.heap.size w w'

set_option maxRecDepth 100000 in
set_option maxHeartbeats 8000000 in
theorem fnDemand_go (a : Option Addr) (len cap : Nat) (w : World) (hcode : CodeOk w a len) : Calls Try.prog 3 #[.slice a len cap] w (DmGoal w) := by
  have hl := hcode.1
  have HC := hide hcode
  clear hcode
  go_enter Try.func3, Try.ntmps3
  go_wp2_with fail
  refine (bigNo a len cap _ hl).mono ?_
  rintro e w0 ⟨rfl, rfl⟩
  go_wp2_with fail
  refine (drawDemandAsk a len cap _ (unhide HC)).mono ?_
  rintro e w1 ⟨d, n, rfl, hb1⟩
  have HS1 := hide (show DSt w [] w1 from ⟨hb1, by simp⟩)
  clear hb1
  have HAI := hide (fun w1 => implDemandAsk d n w1)
  have HAS := hide (fun w1 => specDemandAsk d n w1)
  have HTI := hide (fun w1 => implDemandTick d w1)
  have HTS := hide (fun w1 => specDemandTick d w1)
  have HOI := hide (fun w1 => implDemandOk d w1)
  have HOS := hide (fun w1 => specDemandOk d w1)
  have HKA := hide (fun w1 => implDemandOk (d.ask n) w1)
  have HKT := hide (fun w1 => implDemandOk d.tick w1)
  have HKD := hide (show decide d.Ok = true → decide (d.ask n).Ok = true ∧ decide d.tick.Ok = true from fun h => ⟨decide_eq_true (ask_ok (of_decide_eq_true h) n), decide_eq_true (tick_ok (of_decide_eq_true h))⟩)
  generalize decide d.Ok = bO at *
  generalize decide (d.ask n).Ok = bA at *
  generalize decide d.tick.Ok = bT at *
  generalize d.ask n = va at *
  generalize d.tick = vt at *
  obtain ⟨Ad, Cd, Od⟩ := d
  obtain ⟨Aa, Ca, Oa⟩ := va
  obtain ⟨At, Ct, Ot⟩ := vt
  go_upto_region 4 with fail
  refine dm_wp (fun W4 hW4 => ?_)
  have HS4 : Hid (DSt w [(w1.heap.size, ⟨Ad, Cd, Od⟩)] W4) := by subst hW4; exact (unhide HS1).put _
  clear hW4 HS1
  generalize w1.heap.size = gd at *
  obtain ⟨c0, c1, c2⟩ := (unhide HS4).get (g := gd) (d := ⟨Ad, Cd, Od⟩) (by simp)
  dsimp only at c0 c1 c2
  go_wp2_with fail
  refine (unhide HAI _).mono ?_
  rintro e w2 ⟨rfl, hb2⟩
  have HS2 := hide ((unhide HS4).step hb2)
  clear hb2 HS4 c0 c1 c2 HAI
  go_upto_region 5 with fail
  refine dm_wp (fun W5 hW5 => ?_)
  have HS5 : Hid (DSt w [(w2.heap.size, ⟨Aa, Ca, Oa⟩), (gd, ⟨Ad, Cd, Od⟩)] W5) := by subst hW5; exact (unhide HS2).put _
  clear hW5 HS2
  generalize w2.heap.size = ga at *
  obtain ⟨c0, c1, c2⟩ := (unhide HS5).get (g := gd) (d := ⟨Ad, Cd, Od⟩) (by simp)
  dsimp only at c0 c1 c2
  go_wp2_with fail
  refine (unhide HTI _).mono ?_
  rintro e w3 ⟨rfl, hb3⟩
  have HS3 := hide ((unhide HS5).step hb3)
  clear hb3 HS5 c0 c1 c2 HTI
  go_upto_region 6 with fail
  refine dm_wp (fun W6 hW6 => ?_)
  have HS6 : Hid (DSt w [(w3.heap.size, ⟨At, Ct, Ot⟩), (ga, ⟨Aa, Ca, Oa⟩), (gd, ⟨Ad, Cd, Od⟩)] W6) := by subst hW6; exact (unhide HS3).put _
  clear hW6 HS3
  generalize w3.heap.size = gt at *
  go_wp2_with fail
  refine (drawForecast a len cap _ ((unhide HC).below (unhide HS6).bel)).mono ?_
  rintro e w4 ⟨f, ticks, rfl, hb4⟩
  have HS7 := hide ((unhide HS6).step hb4)
  clear hb4 HS6
  have HFI := hide (fun w1 => implForecast f ticks w1)
  have HFS := hide (fun w1 => specForecast f ticks w1)
  generalize f.fore ticks = vf at *
  obtain ⟨Af, Cf, Of⟩ := f
  go_upto_region 7 with fail
  refine dm_wp (fun W7 hW7 => ?_)
  have HS8 : Hid (DSt w [(w4.heap.size, ⟨Af, Cf, Of⟩), (gt, ⟨At, Ct, Ot⟩), (ga, ⟨Aa, Ca, Oa⟩), (gd, ⟨Ad, Cd, Od⟩)] W7) := by subst hW7; exact (unhide HS7).put _
  clear hW7 HS7
  generalize w4.heap.size = gf at *
  go_wp2_with fail
  refine (drawLack a len cap _ ((unhide HC).below (unhide HS8).bel)).mono ?_
  rintro e w5 ⟨x, free, low, high, rfl, hb5⟩
  have HS9 := hide ((unhide HS8).step hb5)
  clear hb5 HS8
  have HLI := hide (fun w1 => implLack x free low high w1)
  have HLS := hide (fun w1 => specLack x free low high w1)
  have HL0 := hide (show 0 < x.lack free low high → 0 ≤ free ∧ free ≤ 1000000000 ∧ x.lack free low high ≤ 1000000000 from fun h => by obtain ⟨h1, h2, h3, h4, h5, h6, h7⟩ := lack_pos h; have := fore_bound x high; exact ⟨h4.1, h4.2, by have := h4.1; omega⟩)
  have HL1 := hide (show 0 < x.lack free low high → ¬ 0 < x.over free high from lack_over)
  have HL2 := hide (show 0 < x.lack free low high → free + x.lack free low high ≤ 1000000000 ∧ x.lack (free + x.lack free low high) low high = 0 from lack_again)
  have HLO := hide (fun w1 => implSurplus x free high w1)
  have HLA := hide (fun w1 => implLack x (free + x.lack free low high) low high w1)
  generalize x.lack (free + x.lack free low high) low high = vq at *
  generalize x.lack free low high = vl at *
  generalize x.over free high = vo at *
  obtain ⟨Ax, Cx, Ox⟩ := x
  go_upto_region 8 with fail
  refine dm_wp (fun W8 hW8 => ?_)
  have HS10 : Hid (DSt w [(w5.heap.size, ⟨Ax, Cx, Ox⟩), (gf, ⟨Af, Cf, Of⟩), (gt, ⟨At, Ct, Ot⟩), (ga, ⟨Aa, Ca, Oa⟩), (gd, ⟨Ad, Cd, Od⟩)] W8) := by subst hW8; exact (unhide HS9).put _
  clear hW8 HS9
  generalize w5.heap.size = gx at *
  obtain ⟨c0, c1, c2⟩ := (unhide HS10).get (g := gx) (d := ⟨Ax, Cx, Ox⟩) (by simp)
  dsimp only at c0 c1 c2
  go_wp2_with fail
  refine (unhide HLI _).mono ?_
  rintro e w6 ⟨rfl, hb6⟩
  have HS11 := hide ((unhide HS10).step hb6)
  clear hb6 HS10 c0 c1 c2 HLI
  go_wp2_with fail
  refine (drawSurplus a len cap _ ((unhide HC).below (unhide HS11).bel)).mono ?_
  rintro e w7 ⟨y, has, most, rfl, hb7⟩
  have HS12 := hide ((unhide HS11).step hb7)
  clear hb7 HS11
  have HYI := hide (fun w1 => implSurplus y has most w1)
  have HYS := hide (fun w1 => specSurplus y has most w1)
  generalize y.over has most = vy at *
  obtain ⟨Ay, Cy, Oy⟩ := y
  go_upto_region 10 with fail
  refine dm_wp (fun W10 hW10 => ?_)
  have HS13 : Hid (DSt w [(w7.heap.size, ⟨Ay, Cy, Oy⟩), (gx, ⟨Ax, Cx, Ox⟩), (gf, ⟨Af, Cf, Of⟩), (gt, ⟨At, Ct, Ot⟩), (ga, ⟨Aa, Ca, Oa⟩), (gd, ⟨Ad, Cd, Od⟩)] W10) := by subst hW10; exact (unhide HS12).put _
  clear hW10 HS12
  generalize w7.heap.size = gy at *
  obtain ⟨c0, c1, c2⟩ := (unhide HS13).get (g := gy) (d := ⟨Ay, Cy, Oy⟩) (by simp)
  dsimp only at c0 c1 c2
  go_wp2_with fail
  refine (unhide HYI _).mono ?_
  rintro e w8 ⟨rfl, hb8⟩
  have HSV := hide ((unhide HS13).step hb8)
  clear hb8 HS13 c0 c1 c2 HYI
  go_upto_region 11 with fail
  go_cut [103] (fun r wx => r = .bool false ∧ DSt w [(gy, ⟨Ay, Cy, Oy⟩), (gx, ⟨Ax, Cx, Ox⟩), (gf, ⟨Af, Cf, Of⟩), (gt, ⟨At, Ct, Ot⟩), (ga, ⟨Aa, Ca, Oa⟩), (gd, ⟨Ad, Cd, Od⟩)] wx)
  case first =>
    obtain ⟨qd0, qd1, qd2⟩ := (unhide HSV).get (g := gd) (d := ⟨Ad, Cd, Od⟩) (by simp)
    dsimp only at qd0 qd1 qd2
    have yd0 := cell_regrown qd0
    have yd1 := cell_regrown qd1
    have yd2 := cell_regrown qd2
    have hzd := dm_lt ((unhide HSV).own (gd, ⟨Ad, Cd, Od⟩) (by simp))
    clear qd0 qd1 qd2
    obtain ⟨qa0, qa1, qa2⟩ := (unhide HSV).get (g := ga) (d := ⟨Aa, Ca, Oa⟩) (by simp)
    dsimp only at qa0 qa1 qa2
    have ya0 := cell_regrown qa0
    have ya1 := cell_regrown qa1
    have ya2 := cell_regrown qa2
    have hza := dm_lt ((unhide HSV).own (ga, ⟨Aa, Ca, Oa⟩) (by simp))
    clear qa0 qa1 qa2
    obtain ⟨qt0, qt1, qt2⟩ := (unhide HSV).get (g := gt) (d := ⟨At, Ct, Ot⟩) (by simp)
    dsimp only at qt0 qt1 qt2
    have yt0 := cell_regrown qt0
    have yt1 := cell_regrown qt1
    have yt2 := cell_regrown qt2
    have hzt := dm_lt ((unhide HSV).own (gt, ⟨At, Ct, Ot⟩) (by simp))
    clear qt0 qt1 qt2
    obtain ⟨qf0, qf1, qf2⟩ := (unhide HSV).get (g := gf) (d := ⟨Af, Cf, Of⟩) (by simp)
    dsimp only at qf0 qf1 qf2
    have yf0 := cell_regrown qf0
    have yf1 := cell_regrown qf1
    have yf2 := cell_regrown qf2
    have hzf := dm_lt ((unhide HSV).own (gf, ⟨Af, Cf, Of⟩) (by simp))
    clear qf0 qf1 qf2
    obtain ⟨qx0, qx1, qx2⟩ := (unhide HSV).get (g := gx) (d := ⟨Ax, Cx, Ox⟩) (by simp)
    dsimp only at qx0 qx1 qx2
    have yx0 := cell_regrown qx0
    have yx1 := cell_regrown qx1
    have yx2 := cell_regrown qx2
    have hzx := dm_lt ((unhide HSV).own (gx, ⟨Ax, Cx, Ox⟩) (by simp))
    clear qx0 qx1 qx2
    obtain ⟨qy0, qy1, qy2⟩ := (unhide HSV).get (g := gy) (d := ⟨Ay, Cy, Oy⟩) (by simp)
    dsimp only at qy0 qy1 qy2
    have yy0 := cell_regrown qy0
    have yy1 := cell_regrown qy1
    have yy2 := cell_regrown qy2
    have hzy := dm_lt ((unhide HSV).own (gy, ⟨Ay, Cy, Oy⟩) (by simp))
    clear qy0 qy1 qy2
    have kA : ∀ d os, Calls Try.prog 19 #[.agg #[.int .i64 Ad, .int .i64 Cd, .int .i64 Od], .int .i64 n] (Sort.grow (redrawn w8 d) os) fun e w'' => e = .returned (.agg #[.int .i64 Aa, .int .i64 Ca, .int .i64 Oa]) ∧ ∃ p : Regrown, w'' = Sort.grow (redrawn w8 p.d) p.os := fun d os => Calls.regrown_of (unhide HAS _)
    have kT : ∀ d os, Calls Try.prog 20 #[.agg #[.int .i64 Ad, .int .i64 Cd, .int .i64 Od]] (Sort.grow (redrawn w8 d) os) fun e w'' => e = .returned (.agg #[.int .i64 At, .int .i64 Ct, .int .i64 Ot]) ∧ ∃ p : Regrown, w'' = Sort.grow (redrawn w8 p.d) p.os := fun d os => Calls.regrown_of (unhide HTS _)
    have kF : ∀ d os, Calls Try.prog 21 #[.agg #[.int .i64 Af, .int .i64 Cf, .int .i64 Of], .int .i64 ticks] (Sort.grow (redrawn w8 d) os) fun e w'' => e = .returned (.int .i64 vf) ∧ ∃ p : Regrown, w'' = Sort.grow (redrawn w8 p.d) p.os := fun d os => Calls.regrown_of (unhide HFI _)
    have kG : ∀ d os, Calls Try.prog 22 #[.agg #[.int .i64 Af, .int .i64 Cf, .int .i64 Of], .int .i64 ticks] (Sort.grow (redrawn w8 d) os) fun e w'' => e = .returned (.int .i64 vf) ∧ ∃ p : Regrown, w'' = Sort.grow (redrawn w8 p.d) p.os := fun d os => Calls.regrown_of (unhide HFS _)
    have kL : ∀ d os, Calls Try.prog 23 #[.agg #[.int .i64 Ax, .int .i64 Cx, .int .i64 Ox], .int .i64 free, .int .i64 low, .int .i64 high] (Sort.grow (redrawn w8 d) os) fun e w'' => e = .returned (.int .i64 vl) ∧ ∃ p : Regrown, w'' = Sort.grow (redrawn w8 p.d) p.os := fun d os => Calls.regrown_of (unhide HLS _)
    have kY : ∀ d os, Calls Try.prog 24 #[.agg #[.int .i64 Ay, .int .i64 Cy, .int .i64 Oy], .int .i64 has, .int .i64 most] (Sort.grow (redrawn w8 d) os) fun e w'' => e = .returned (.int .i64 vy) ∧ ∃ p : Regrown, w'' = Sort.grow (redrawn w8 p.d) p.os := fun d os => Calls.regrown_of (unhide HYS _)
    have kO : ∀ d os, Calls Try.prog 25 #[.agg #[.int .i64 Ad, .int .i64 Cd, .int .i64 Od]] (Sort.grow (redrawn w8 d) os) fun e w'' => e = .returned (.bool bO) ∧ ∃ p : Regrown, w'' = Sort.grow (redrawn w8 p.d) p.os := fun d os => Calls.regrown_of (unhide HOI _)
    have kP : ∀ d os, Calls Try.prog 26 #[.agg #[.int .i64 Ad, .int .i64 Cd, .int .i64 Od]] (Sort.grow (redrawn w8 d) os) fun e w'' => e = .returned (.bool bO) ∧ ∃ p : Regrown, w'' = Sort.grow (redrawn w8 p.d) p.os := fun d os => Calls.regrown_of (unhide HOS _)
    clear HAS HTS HFI HFS HLS HYS HOI HOS HKA HKT HKD HL0 HL1 HL2 HLO HLA
    refine wp_region_quiet_below (by kernel_rfl) (by kernel_rfl) ?_
    repeat (first | go_big_quiet_step (first | (go_at_call 19; exact kA _ _) | (go_at_call 20; exact kT _ _) | (go_at_call 21; exact kF _ _) | (go_at_call 22; exact kG _ _) | (go_at_call 23; exact kL _ _) | (go_at_call 24; exact kY _ _) | (go_at_call 25; exact kO _ _) | (go_at_call 26; exact kP _ _)) | quiet_step (first | (go_at_call 19; exact kA _ _) | (go_at_call 20; exact kT _ _) | (go_at_call 21; exact kF _ _) | (go_at_call 22; exact kG _ _) | (go_at_call 23; exact kL _ _) | (go_at_call 24; exact kY _ _) | (go_at_call 25; exact kO _ _) | (go_at_call 26; exact kP _ _)))
    refine wpQuiet_nil ?_
    intro _ hw'
    obtain ⟨⟨dq, osq⟩, hw''⟩ := hw'
    subst hw''
    have HBL := hide ((unhide HSV).step (below_regrown w8 dq osq))
    clear kA kT kF kG kL kY kO kP yd0 yd1 yd2 ya0 ya1 ya2 yt0 yt1 yt2 yf0 yf1 yf2 yx0 yx1 yx2 yy0 yy1 yy2
    go_wp2_with fail
    go_meet
    case rel => exact ⟨by simp, unhide HBL⟩
  case rest =>
  obtain ⟨rfl, hst⟩ := hcut
  clear HSV HAS HTS HFI HFS HLS HYS HOI
  have HS := hide hst
  clear hst
  as_aux_lemma =>
  obtain ⟨c0, c1, c2⟩ := (unhide HS).get (g := gd) (d := ⟨Ad, Cd, Od⟩) (by simp)
  dsimp only at c0 c1 c2
  go_upto_region 13 with fail
  go_cut [115] (fun r wx => r = .bool false ∧ DSt w [(gy, ⟨Ay, Cy, Oy⟩), (gx, ⟨Ax, Cx, Ox⟩)] wx)
  case first =>
    cases bO
    case' false =>
      clear HKD HKA HKT
      go_wp2_with (go_at_call 26; refine (unhide HOS _).mono ?_; rintro e wa ⟨rfl, hba⟩; have HSa := hide ((unhide HS).step hba); clear hba)
      go_meet
      case rel => exact ⟨rfl, (unhide HSa).bel, fun p hp => (unhide HSa).own p (by simp at hp ⊢; rcases hp with h | h <;> simp [h])⟩
    case' true =>
      obtain ⟨rfl, rfl⟩ := unhide HKD rfl
      go_wp2_with (first | (go_at_call 26; refine (unhide HOS _).mono ?_; rintro e wa ⟨rfl, hba⟩; have HSa := hide ((unhide HS).step hba); clear hba; obtain ⟨i0, i1, i2⟩ := (unhide HSa).get (g := ga) (d := ⟨Aa, Ca, Oa⟩) (by simp); dsimp only at i0 i1 i2) | (go_at_call_of 25 Aa; refine (unhide HKA _).mono ?_; rintro e wb ⟨rfl, hbb⟩; have HSb := hide ((unhide HSa).step hbb); clear hbb; obtain ⟨j0, j1, j2⟩ := (unhide HSb).get (g := gt) (d := ⟨At, Ct, Ot⟩) (by simp); dsimp only at j0 j1 j2) | (go_at_call_of 25 At; refine (unhide HKT _).mono ?_; rintro e wd ⟨rfl, hbd⟩; have HSd := hide ((unhide HSb).step hbd); clear hbd))
      go_meet
      case rel => exact ⟨rfl, (unhide HSd).bel, fun p hp => (unhide HSd).own p (by simp at hp ⊢; rcases hp with h | h <;> simp [h])⟩
  case rest =>
  obtain ⟨rfl, hst⟩ := hcut
  clear HS HOS HKA HKT HKD c0 c1 c2
  have HS := hide hst
  clear hst
  as_aux_lemma =>
  obtain ⟨c0, c1, c2⟩ := (unhide HS).get (g := gx) (d := ⟨Ax, Cx, Ox⟩) (by simp)
  dsimp only at c0 c1 c2
  go_upto_region 15 with fail
  go_cut [124] (fun r wx => r = .bool false ∧ DSt w [(gy, ⟨Ay, Cy, Oy⟩), (gx, ⟨Ax, Cx, Ox⟩)] wx)
  case first =>
    by_cases hp : 0 < vl
    · have hq := unhide HL1 hp
      have gq : decide (0 < vo) = false := by simp; omega
      have gp : decide (0 < vl) = true := decide_eq_true hp
      clear hq
      go_wp2_with (go_at_call 18; refine (unhide HLO _).mono ?_; rintro e wa ⟨rfl, hba⟩; have HSa := hide ((unhide HS).step hba); clear hba)
      go_meet
      case rel => exact ⟨rfl, unhide HSa⟩
    · have gp : decide (0 < vl) = false := decide_eq_false hp
      go_wp2_with fail
      go_meet
      case rel => exact ⟨rfl, unhide HS⟩
  case rest =>
  obtain ⟨rfl, hst⟩ := hcut
  clear HS HL1 HLO c0 c1 c2
  have HS := hide hst
  clear hst
  as_aux_lemma =>
  obtain ⟨c0, c1, c2⟩ := (unhide HS).get (g := gx) (d := ⟨Ax, Cx, Ox⟩) (by simp)
  dsimp only at c0 c1 c2
  go_upto_region 17 with fail
  go_cut [142] (fun r wx => r = .bool false ∧ Below w.heap.size w wx)
  case first =>
    by_cases hp : 0 < vl
    · obtain ⟨f0, f1, f2⟩ := unhide HL0 hp
      obtain ⟨f3, rfl⟩ := unhide HL2 hp
      have gp : decide (0 < vl) = true := decide_eq_true hp
      go_wp2_with (go_at_call 16; refine (unhide HLA _).mono ?_; rintro e wa ⟨rfl, hba⟩; have HSa := hide ((unhide HS).step hba); clear hba)
      go_meet
      case rel => exact ⟨by simp; omega, (unhide HSa).bel⟩
    · have gp : decide (0 < vl) = false := decide_eq_false hp
      go_wp2_with fail
      go_meet
      case rel => exact ⟨rfl, (unhide HS).bel⟩
  case rest =>
  obtain ⟨rfl, hst⟩ := hcut
  clear HS HL0 HL2 HLA c0 c1 c2
  have HB := hide hst
  clear hst
  as_aux_lemma =>
  have hCs : w.heap.size ≤ wc.heap.size := (unhide HB).size
  go_upto_region 20 with fail
  refine dm_wp (fun WS hWS => ?_)
  have HS : Hid (DSt w [(wc.heap.size, steady 0 0)] WS) := by subst hWS; exact (show DSt w [] wc from ⟨unhide HB, by simp⟩).put _
  clear hWS
  generalize wc.heap.size = gs at *
  obtain ⟨m, m0, m1, hm⟩ := atB a len cap 3 w (unhide HC) (by omega)
  obtain ⟨x4, x40, x41, hx⟩ := atB a len cap 4 w (unhide HC) (by omega)
  have HAT := hide hm
  have HAX := hide hx
  clear hm hx
  have HS0 : Hid (DSt w [(gs, steady m 0)] WS) := HS
  clear HS
  go_wp2_with fail
  refine (unhide HAT _ (unhide HS0).bel).mono ?_
  rintro e wq ⟨rfl, rfl⟩
  clear HAT
  obtain ⟨x5, hx5⟩ := Int.eq_ofNat_of_zero_le x40
  subst hx5
  have hx20 : IntKind.i64.wrap ((x5 : Int).tmod 20) = ((x5 % 20 : Nat) : Int) := by rw [Int.tmod_eq_emod_of_nonneg (by omega), IntWalk.i64_in _ ⟨by omega, by omega⟩]; omega
  obtain ⟨N, hN, hN20⟩ : ∃ N : Nat, 1 + x5 % 20 = N ∧ N ≤ 20 := ⟨_, rfl, by omega⟩
  go_wp2_with fail
  go_loopw [20] (fun j wr => ∃ k : Nat, k ≤ N ∧ j = .int .i64 k ∧ DSt w [(gs, steady m k)] wr) (fun j _ => N - (intOf j).toNat)
  case atStart => exact ⟨0, Nat.zero_le _, rfl, unhide HS0⟩
  case round =>
    obtain ⟨k, hk, rfl, hM⟩ := hrel
    have HM := hide hM
    clear hM HS0
    by_cases hlt : k < N
    · have HSS := hide (steady_step (m := m) (k := k) m0 m1 (by omega))
      have HIA := hide (fun w1 => implDemandAsk (steady m k) (16 * m) w1)
      have HIT := hide (fun w1 => implDemandTick ((steady m k).ask (16 * m)) w1)
      rw [unhide HSS] at HIT
      clear HSS
      generalize (steady m k).ask (16 * m) = va at *
      generalize hs1 : steady m (k + 1) = s1 at *
      have Hs1 := hide hs1
      clear hs1
      generalize steady m k = s0 at *
      obtain ⟨A0, C0, O0⟩ := s0
      obtain ⟨A1, C1, O1⟩ := s1
      obtain ⟨A2, C2, O2⟩ := va
      obtain ⟨⟨c0, c1, c2⟩, k0, k1, k2⟩ := dm_at ((unhide HM).own (gs, ⟨A0, C0, O0⟩) (by simp))
      dsimp only at c0 c1 c2
      have HNW := hide hN
      go_wp2_with fail
      refine (unhide HAX _ (unhide HM).bel).mono ?_
      rintro e wq ⟨rfl, rfl⟩
      go_wp2_with fail
      refine (unhide HIA _).mono ?_
      rintro e wa ⟨rfl, hba⟩
      have HMa := hide ((unhide HM).step hba)
      clear hba c0 c1 c2 k0 k1 k2
      go_wp2_with fail
      refine (unhide HIT _).mono ?_
      rintro e wb ⟨rfl, hbb⟩
      have HMb := hide ((unhide HMa).step hbb)
      clear hbb HMa HM
      obtain ⟨⟨c0, c1, c2⟩, k0, k1, k2⟩ := dm_at ((unhide HMb).own (gs, ⟨A0, C0, O0⟩) (by simp))
      dsimp only at c0 c1 c2
      go_wp2_with fail
      go_roundw
      case rel => exact ⟨k + 1, by omega, by go_num, by rw [unhide Hs1]; exact dm_loop (d' := ⟨A1, C1, O1⟩) (unhide HMb) (by omega)⟩
      case measure => simp [intOf]; omega
    · obtain rfl : k = N := by omega
      have HFF := hide (fun w1 => implForecast (steady m k) 3 w1)
      rw [steady_fore m0 m1 (by omega) (by omega)] at HFF
      generalize steady m k = s0 at *
      obtain ⟨A0, C0, O0⟩ := s0
      obtain ⟨⟨c0, c1, c2⟩, k0, k1, k2⟩ := dm_at ((unhide HM).own (gs, ⟨A0, C0, O0⟩) (by simp))
      dsimp only at c0 c1 c2
      go_wp2_with fail
      refine (unhide HAX _ (unhide HM).bel).mono ?_
      rintro e wq ⟨rfl, rfl⟩
      go_wp2_with fail
      refine (unhide HFF _).mono ?_
      rintro e wa ⟨rfl, hba⟩
      have HMa := hide ((unhide HM).step hba)
      clear hba
      go_wp2_with fail
      go_ret
      exact ⟨by simp, (unhide HMa).bel⟩

set_option maxRecDepth 100000 in
theorem fnDemand_all (a : Option Addr) (len cap : Nat) (zs : List Int) (w : World) (hz : IsRow .u8 w a len cap zs) :
    Calls Try.prog 3 #[.slice a len cap] w fun e w' => e = .returned (.bool true) ∧ Below w.heap.size w w' := by
  by_cases hl : len ≤ 1048576
  · exact fnDemand_go a len cap w (code_ok hz hl)
  · have hl' : 1048576 < len := by omega
    clear hz
    go_enter Try.func3, Try.ntmps3
    go_wp2_with (go_at_call 10; refine (bigYes a len cap _ hl').mono ?_; rintro e w0 ⟨rfl, rfl⟩)
    go_ret
    exact ⟨rfl, Below.refl _ _⟩
end Go.Proofs.Ytmflajfddjnmhaa
