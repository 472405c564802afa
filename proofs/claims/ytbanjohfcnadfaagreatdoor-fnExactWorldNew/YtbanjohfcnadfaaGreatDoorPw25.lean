/- Parts. -/
import Derived.Test.YtbanjohfcnadfaaGreatDoorPw23
import Derived.Test.YtbanjohfcnadfaaGreatDoorPw24
import Derived.Test.YtbanjohfcnadfaaGreatDoorPw1
import Derived.Test.YtbanjohfcnadfaaGreatDoorPw19
import Derived.Lib.QuietBelow
import Derived.Conc.MuLone
import Derived.Conc.MuLib
import Derived.KernelRfl
import Derived.Defers
namespace Go.Proofs.YtbanjohfcnadfaaGreatDoor
open Go.RowKit
open Mth

theorem hkc_cells {w : World} {g : Nat} {n : Nd} {A1 A2 : Ads} {st : Int} {lk rt : Bool} {t : TypeId} (h : w.heap[g]? = some (.cells (hkc n A1 A2 st lk rt) t (0, 0))) (i : Nat) : w.cell? ⟨g, i, none⟩ = (hkc n A1 A2 st lk rt)[i]? := cell_of_row w g i _ t (0, 0) h
theorem hkc_range {w : World} {g : Nat} {n : Nd} {A1 A2 : Ads} {st : Int} {lk rt : Bool} {t : TypeId} (h : w.heap[g]? = some (.cells (hkc n A1 A2 st lk rt) t (0, 0))) : w.rangeAt g 0 (ndc n A1).toList ∧ w.rangeAt g 11 (ndc n A2).toList := by
  refine ⟨range_row h (fun j v hj => ?_), range_row h (fun j v hj => ?_)⟩
  · have hj9 : j < 9 := (List.getElem?_eq_some_iff.1 hj).1
    rcases nine_cases hj9 with rfl | rfl | rfl | rfl | rfl | rfl | rfl | rfl | rfl <;> exact hj
  · have hj9 : j < 9 := (List.getElem?_eq_some_iff.1 hj).1
    rcases nine_cases hj9 with rfl | rfl | rfl | rfl | rfl | rfl | rfl | rfl | rfl <;> exact hj

set_option maxRecDepth 100000 in
set_option maxHeartbeats 4000000 in
theorem look0 (n : Nd) (A1 A2 : Ads) (g : Nat) (st : Int) (lk rt : Bool) (w : World) (hz : NdSz n 1048576) (h1 : NodeAt w A1 n) (h2 : NodeAt w A2 n) (hg : w.heap[g]? = some (.cells (hkc n A1 A2 st lk rt) 122 (0, 0))) :
    Calls Tryz.prog 105 #[.pointer (some ⟨g, 0, none⟩)] w fun e w' => e = .returned (.bool (ndOk n)) ∧ Below w.heap.size w w' := by
  have HO1 := hide (fun W (h : Below w.heap.size w W) => implNodeOk n A1 W (hz.mono (by omega)) (h1.below h))
  have HO2 := hide (fun W (h : Below w.heap.size w W) => implNodeOk n A2 W (hz.mono (by omega)) (h2.below h))
  have HRP := hide (fun W (hok : ndOk n = true) (h : Below w.heap.size w W) => replayed0 n A2 W hz hok (h2.below h))
  have HSM := hide (fun W (h : Below w.heap.size w W) A' (ha : NodeAt W A' n) => nodeSame n A1 A' W hz (h1.below h) ha)
  have HK := hide hg
  have hgl := obj_lt hg
  clear hz h1 h2 hg
  have p0 : w.cell? ⟨g, 0, none⟩ = some (.int .i64 n.id) := hkc_cells (unhide HK) 0
  have p1 : w.cell? ⟨g, 1, none⟩ = some (.int .i64 n.par) := hkc_cells (unhide HK) 1
  have p2 : w.cell? ⟨g, 2, none⟩ = some (.slice A1.k n.kids.length A1.ck) := hkc_cells (unhide HK) 2
  have p3 : w.cell? ⟨g, 3, none⟩ = some (.int .i64 n.next) := hkc_cells (unhide HK) 3
  have p4 : w.cell? ⟨g, 4, none⟩ = some (.slice A1.p n.pu.length A1.cp) := hkc_cells (unhide HK) 4
  have p5 : w.cell? ⟨g, 5, none⟩ = some (.slice A1.o n.out.length A1.co) := hkc_cells (unhide HK) 5
  have p6 : w.cell? ⟨g, 6, none⟩ = some (.slice A1.s n.seen.length A1.cs) := hkc_cells (unhide HK) 6
  have p7 : w.cell? ⟨g, 7, none⟩ = some (.int .i64 n.old) := hkc_cells (unhide HK) 7
  have p8 : w.cell? ⟨g, 8, none⟩ = some (.slice A1.r n.reqs.length A1.cr) := hkc_cells (unhide HK) 8
  have p11 : w.cell? ⟨g, 11, none⟩ = some (.int .i64 n.id) := hkc_cells (unhide HK) 11
  have p12 : w.cell? ⟨g, 12, none⟩ = some (.int .i64 n.par) := hkc_cells (unhide HK) 12
  have p13 : w.cell? ⟨g, 13, none⟩ = some (.slice A2.k n.kids.length A2.ck) := hkc_cells (unhide HK) 13
  have p14 : w.cell? ⟨g, 14, none⟩ = some (.int .i64 n.next) := hkc_cells (unhide HK) 14
  have p15 : w.cell? ⟨g, 15, none⟩ = some (.slice A2.p n.pu.length A2.cp) := hkc_cells (unhide HK) 15
  have p16 : w.cell? ⟨g, 16, none⟩ = some (.slice A2.o n.out.length A2.co) := hkc_cells (unhide HK) 16
  have p17 : w.cell? ⟨g, 17, none⟩ = some (.slice A2.s n.seen.length A2.cs) := hkc_cells (unhide HK) 17
  have p18 : w.cell? ⟨g, 18, none⟩ = some (.int .i64 n.old) := hkc_cells (unhide HK) 18
  have p19 : w.cell? ⟨g, 19, none⟩ = some (.slice A2.r n.reqs.length A2.cr) := hkc_cells (unhide HK) 19
  have p20 : w.cell? ⟨g, 20, none⟩ = some (.string ByteArray.empty) := hkc_cells (unhide HK) 20
  have p21 : w.cell? ⟨g, 21, none⟩ = some (.int .i64 0) := hkc_cells (unhide HK) 21
  have y0 := cell_regrown p0
  have y1 := cell_regrown p1
  have y2 := cell_regrown p2
  have y3 := cell_regrown p3
  have y4 := cell_regrown p4
  have y5 := cell_regrown p5
  have y6 := cell_regrown p6
  have y7 := cell_regrown p7
  have y8 := cell_regrown p8
  have y11 := cell_regrown p11
  have y12 := cell_regrown p12
  have y13 := cell_regrown p13
  have y14 := cell_regrown p14
  have y15 := cell_regrown p15
  have y16 := cell_regrown p16
  have y17 := cell_regrown p17
  have y18 := cell_regrown p18
  have y19 := cell_regrown p19
  have y20 := cell_regrown p20
  have y21 := cell_regrown p21
  have k2 : ∀ d os, Calls Tryz.prog 74 #[ndv n A2] (Sort.grow (redrawn w d) os) fun e w'' => e = .returned (.bool (ndOk n)) ∧ ∃ p : Regrown, w'' = Sort.grow (redrawn w p.d) p.os := fun d os => Calls.regrown_of (unhide HO2 _ (below_regrown w d os))
  have k1 : ∀ d os, Calls Tryz.prog 74 #[ndv n A1] (Sort.grow (redrawn w d) os) fun e w'' => e = .returned (.bool (ndOk n)) ∧ ∃ p : Regrown, w'' = Sort.grow (redrawn w p.d) p.os := fun d os => Calls.regrown_of (unhide HO1 _ (below_regrown w d os))
  clear p0 p1 p2 p3 p4 p5 p6 p7 p8 p11 p12 p13 p14 p15 p16 p17 p18 p19 p20 p21 HO1 HO2
  obtain ⟨a1k, a1p, a1o, a1s, a1r, a1ck, a1cp, a1co, a1cs, a1cr⟩ := A1
  obtain ⟨a2k, a2p, a2o, a2s, a2r, a2ck, a2cp, a2co, a2cs, a2cr⟩ := A2
  dsimp only at *
  cases hok : ndOk n
  · rw [hok] at k1 k2
    clear hok HRP HSM HK
    go_enter Tryz.func105, Tryz.ntmps105
    go_upto_region 1 with fail
    refine wp_region_quiet_below (by kernel_rfl) (by kernel_rfl) ?_
    repeat (first | go_big_quiet_step (exact k2 _ _) | quiet_step (exact k2 _ _))
    refine wpQuiet_nil ?_
    intro _ hw'
    obtain ⟨⟨dq, osq⟩, hw''⟩ := hw'
    subst hw''
    clear k1 k2 y0 y1 y2 y3 y4 y5 y6 y7 y8 y11 y12 y13 y14 y15 y16 y17 y18 y19 y20 y21
    go_wp2_with fail
    go_ret
    exact ⟨rfl, below_regrown _ dq osq⟩
  · rw [hok] at k1 k2
    have HRP' := hide (fun W => unhide HRP W hok)
    clear HRP hok
    go_enter Tryz.func105, Tryz.ntmps105
    go_upto_region 1 with fail
    refine wp_region_quiet_below (by kernel_rfl) (by kernel_rfl) ?_
    repeat (first | go_big_quiet_step (first | (go_at_call_of 74 a2k; exact k2 _ _) | (go_at_call_of 74 a1k; exact k1 _ _)) | quiet_step (first | (go_at_call_of 74 a2k; exact k2 _ _) | (go_at_call_of 74 a1k; exact k1 _ _)))
    refine wpQuiet_nil ?_
    intro _ hw'
    obtain ⟨⟨dq, osq⟩, hw''⟩ := hw'
    subst hw''
    clear k1 k2 y0 y1 y2 y3 y4 y5 y6 y7 y8 y11 y12 y13 y14 y15 y16 y17 y18 y19 y20 y21
    have HB1 := hide (below_regrown w dq osq)
    generalize Sort.grow (redrawn w dq) osq = V at *
    have HKV := hide (obj_step (unhide HK) (unhide HB1))
    have v20 : V.cell? ⟨g, 20, none⟩ = some (.string ByteArray.empty) := hkc_cells (unhide HKV) 20
    clear HK
    go_wp2_with fail
    refine (implRead0 _).mono ?_
    rintro e V2 ⟨rfl, hb2⟩
    have HB2 := hide (Below.trans (unhide HB1) (hb2.mono (unhide HB1).size))
    have HK2 := hide (obj_step (unhide HKV) hb2)
    clear hb2 HB1 HKV v20 hgl
    have hgl := obj_lt (unhide HK2)
    have y20 := cell_regrown (show V2.cell? ⟨g, 20, none⟩ = some (.string ByteArray.empty) from hkc_cells (unhide HK2) 20)
    obtain ⟨hr0, hr1⟩ := hkc_range (unhide HK2)
    go_upto_region 4 with fail
    refine wp_region_mix (by kernel_rfl) ?_
    show wpMix _ _ _ _ 21 (Array.replicate 21 false) _ _
    refine wpMix_take 0 rfl (by kernel_rfl) (by kernel_rfl) (by kernel_rfl) (fun _ _ _ _ h => h) (fun K hK => ?_)
    go_simp
    first
      | (refine hK _ ?_; clear hK K)
      | (apply Exists.intro
         refine ⟨fun _ => ?_, hK _ ?_⟩
         (rfl)
         clear hK K)
    refine wpMix_take 1 rfl (by kernel_rfl) (by kernel_rfl) (by kernel_rfl) (fun _ _ _ _ h => h) (fun K hK => ?_)
    go_simp
    first
      | (refine hK _ ?_; clear hK K)
      | (apply Exists.intro
         refine ⟨fun _ => ?_, hK _ ?_⟩
         (rfl)
         clear hK K)
    refine wpMix_take 2 rfl (by kernel_rfl) (by kernel_rfl) (by kernel_rfl) (fun _ _ _ _ h => h) (fun K hK => ?_)
    go_simp
    first
      | (refine hK _ ?_; clear hK K)
      | (apply Exists.intro
         refine ⟨fun _ => ?_, hK _ ?_⟩
         (rfl)
         clear hK K)
    refine wpMix_take 3 rfl (by kernel_rfl) (by kernel_rfl) (by kernel_rfl) (fun _ _ _ _ h => h) (fun K hK => ?_)
    go_simp
    first
      | (refine hK _ ?_; clear hK K)
      | (apply Exists.intro
         refine ⟨fun _ => ?_, hK _ ?_⟩
         (rfl)
         clear hK K)
    refine wpMix_take 4 rfl (by kernel_rfl) (by kernel_rfl) (by kernel_rfl) (fun _ _ _ _ h => h) (fun K hK => ?_)
    go_simp
    first
      | (refine hK _ ?_; clear hK K)
      | (apply Exists.intro
         refine ⟨fun _ => ?_, hK _ ?_⟩
         (rfl)
         clear hK K)
    refine wpMix_take 5 rfl (by kernel_rfl) (by kernel_rfl) (by kernel_rfl) (fun _ _ _ _ h => h) (fun K hK => ?_)
    go_simp
    first
      | (refine hK _ ?_; clear hK K)
      | (apply Exists.intro
         refine ⟨fun _ => ?_, hK _ ?_⟩
         (rfl)
         clear hK K)
    refine wpMix_take 6 rfl (by kernel_rfl) (by kernel_rfl) (by kernel_rfl) (fun _ _ _ _ h => h) (fun K hK => ?_)
    go_simp
    first
      | (refine hK _ ?_; clear hK K)
      | (apply Exists.intro
         refine ⟨fun _ => ?_, hK _ ?_⟩
         (rfl)
         clear hK K)
    refine wpMix_take 7 rfl (by kernel_rfl) (by kernel_rfl) (by kernel_rfl) (fun _ _ _ _ h => h) (fun K hK => ?_)
    go_simp
    first
      | (refine hK _ ?_; clear hK K)
      | (apply Exists.intro
         refine ⟨fun _ => ?_, hK _ ?_⟩
         (rfl)
         clear hK K)
    refine wpMix_take 8 rfl (by kernel_rfl) (by kernel_rfl) (by kernel_rfl) (fun _ _ _ _ h => h) (fun K hK => ?_)
    go_simp
    first
      | (refine hK _ ?_; clear hK K)
      | (apply Exists.intro
         refine ⟨fun _ => ?_, hK _ ?_⟩
         (rfl)
         clear hK K)
    refine wpMix_take 9 rfl (by kernel_rfl) (by kernel_rfl) (by kernel_rfl) (fun _ _ _ _ h => h) (fun K hK => ?_)
    go_simp
    first
      | (refine hK _ ?_; clear hK K)
      | (apply Exists.intro
         refine ⟨fun _ => ?_, hK _ ?_⟩
         (rfl)
         clear hK K)
    refine wpMix_take 10 rfl (by kernel_rfl) (by kernel_rfl) (by kernel_rfl) (fun _ _ _ _ h => h) (fun K hK => ?_)
    go_simp
    first
      | (refine hK _ ?_; clear hK K)
      | (apply Exists.intro
         refine ⟨fun _ => ?_, hK _ ?_⟩
         (rfl)
         clear hK K)
    refine wpMix_mid 11 rfl (by kernel_rfl) (by kernel_rfl) (by kernel_rfl) (fun _ _ _ _ h => h) (by rfl) 50 _ rfl g 0 rfl (ndc n ⟨a1k, a1p, a1o, a1s, a1r, a1ck, a1cp, a1co, a1cs, a1cr⟩).toList _ hr0 hgl Tryz.underlying50 rfl (by kernel_rfl) ?_
    refine wpMix_take 12 rfl (by kernel_rfl) (by kernel_rfl) (by kernel_rfl) (fun _ _ _ _ h => h) (fun K hK => ?_)
    go_simp
    first
      | (refine hK _ ?_; clear hK K)
      | (apply Exists.intro
         refine ⟨fun _ => ?_, hK _ ?_⟩
         (rfl)
         clear hK K)
    refine wpMix_take 13 rfl (by kernel_rfl) (by kernel_rfl) (by kernel_rfl) (fun _ _ _ _ h => h) (fun K hK => ?_)
    go_simp
    first
      | (refine hK _ ?_; clear hK K)
      | (apply Exists.intro
         refine ⟨fun _ => ?_, hK _ ?_⟩
         (rfl)
         clear hK K)
    refine wpMix_take 14 rfl (by kernel_rfl) (by kernel_rfl) (by kernel_rfl) (fun _ _ _ _ h => h) (fun K hK => ?_)
    go_simp
    first
      | (refine hK _ ?_; clear hK K)
      | (apply Exists.intro
         refine ⟨fun _ => ?_, hK _ ?_⟩
         (rfl)
         clear hK K)
    refine wpMix_mid 15 rfl (by kernel_rfl) (by kernel_rfl) (by kernel_rfl) (fun _ _ _ _ h => h) (by rfl) 50 _ rfl g 11 rfl (ndc n ⟨a2k, a2p, a2o, a2s, a2r, a2ck, a2cp, a2co, a2cs, a2cr⟩).toList _ hr1 hgl Tryz.underlying50 rfl (by kernel_rfl) ?_
    refine wpMix_take 16 rfl (by kernel_rfl) (by kernel_rfl) (by kernel_rfl) (fun _ _ _ _ h => h) (fun K hK => ?_)
    go_simp
    first
      | (refine hK _ ?_; clear hK K)
      | (apply Exists.intro
         refine ⟨fun _ => ?_, hK _ ?_⟩
         (rfl)
         clear hK K)
    clear y20 hr0 hr1
    refine wpMix_one 17 rfl (by kernel_rfl) (by rfl) (fun x17 hx17 => ?_)
    go_simp
    have g17 : Below w.heap.size w x17 := Ge.trans (show Ge w V2 from unhide HB2) hx17
    refine (unhide HRP' x17 g17).mono ?_
    rintro e z17 ⟨A', rfl, hA', hy17⟩
    refine ⟨hy17, ?_⟩
    have HA' := hide hA'
    have HG := hide (show Below w.heap.size w z17 from Ge.trans (show Ge w x17 from g17) hy17)
    clear hA' hx17 hy17 g17 HB2 HRP' HK2
    refine wpMix_one 18 rfl (by kernel_rfl) (by rfl) (fun x18 hx18 => ?_)
    go_simp
    have g18 : Below w.heap.size w x18 := Ge.trans (show Ge w z17 from unhide HG) hx18
    refine (unhide HSM x18 g18 A' ((unhide HA').below hx18)).mono ?_
    rintro e z18 ⟨rfl, hy18⟩
    refine ⟨hy18, ?_⟩
    have HG2 := hide (show Below w.heap.size w z18 from Ge.trans (show Ge w x18 from g18) hy18)
    clear hx18 hy18 g18 HSM HG HA'
    refine wpMix_take 19 rfl (by kernel_rfl) (by kernel_rfl) (by kernel_rfl) (fun _ _ _ _ h => h) (fun K hK => ?_)
    go_simp
    first
      | (refine hK _ ?_; clear hK K)
      | (apply Exists.intro
         refine ⟨fun _ => ?_, hK _ ?_⟩
         (rfl)
         clear hK K)
    refine wpMix_one 20 rfl (by kernel_rfl) (by rfl) (fun x20 hx20 => ?_)
    go_simp
    refine ⟨Below.refl _ _, ?_⟩
    refine wpMix_done (by kernel_rfl) (fun z hz => ?_)
    have HG3 := hide (show Below w.heap.size w z from Ge.trans (show Ge w z18 from unhide HG2) (Ge.trans hx20 hz))
    clear hx20 hz HG2
    go_wp2_with fail
    go_ret
    exact ⟨rfl, unhide HG3⟩

abbrev muL : Go.Conc.Locks.MuLink := { lock := 79, unlock := 80, ilock := 103, iunlock := 104, lockSlow := 126, unlockSlow := 129, disable := 122, enable := 124, acquire := 125, relMerge := 127, cas32 := 123, add32 := 128, tMutex := 120, tIMutex := 118, tPMutex := 136, tPIMutex := 148, tPI32 := 150, tUP := 152, tNoCopy := 115, tU32 := 116 }
set_option maxRecDepth 100000 in
theorem muLib : Go.Conc.Locks.MuLib Tryz.prog muL where
  f_lock := Tryz.func79.trans (by kernel_rfl)
  f_unlock := Tryz.func80.trans (by kernel_rfl)
  f_ilock := Tryz.func103.trans (by kernel_rfl)
  f_iunlock := Tryz.func104.trans (by kernel_rfl)
  f_disable := Tryz.func122.trans (by kernel_rfl)
  f_enable := Tryz.func124.trans (by kernel_rfl)
  f_acquire := Tryz.func125.trans (by kernel_rfl)
  f_relMerge := Tryz.func127.trans (by kernel_rfl)
  f_cas32 := Tryz.func123.trans (by kernel_rfl)
  f_add32 := Tryz.func128.trans (by kernel_rfl)
  underlying_tIMutex := by kernel_rfl
  runUnderlying_tIMutex := fun _ => by kernel_rfl
  sizeOf_tIMutex := fun _ => by kernel_rfl
  isAgg_tIMutex := fun _ => by kernel_rfl
  zeroValue_tIMutex := fun _ => by kernel_rfl
  underlying_tMutex := by kernel_rfl
  runUnderlying_tMutex := fun _ => by kernel_rfl
  sizeOf_tMutex := fun _ => by kernel_rfl
  isAgg_tMutex := fun _ => by kernel_rfl
  zeroValue_tMutex := fun _ => by kernel_rfl
  underlying_tPMutex := by kernel_rfl
  runUnderlying_tPMutex := fun _ => by kernel_rfl
  sizeOf_tPMutex := fun _ => by kernel_rfl
  isAgg_tPMutex := fun _ => by kernel_rfl
  zeroValue_tPMutex := fun _ => by kernel_rfl
  underlying_tPIMutex := by kernel_rfl
  runUnderlying_tPIMutex := fun _ => by kernel_rfl
  sizeOf_tPIMutex := fun _ => by kernel_rfl
  isAgg_tPIMutex := fun _ => by kernel_rfl
  zeroValue_tPIMutex := fun _ => by kernel_rfl
  underlying_tPI32 := by kernel_rfl
  runUnderlying_tPI32 := fun _ => by kernel_rfl
  sizeOf_tPI32 := fun _ => by kernel_rfl
  isAgg_tPI32 := fun _ => by kernel_rfl
  zeroValue_tPI32 := fun _ => by kernel_rfl
  underlying_tUP := by kernel_rfl
  runUnderlying_tUP := fun _ => by kernel_rfl
  sizeOf_tUP := fun _ => by kernel_rfl
  isAgg_tUP := fun _ => by kernel_rfl
  zeroValue_tUP := fun _ => by kernel_rfl
  underlying_tNoCopy := by kernel_rfl
  runUnderlying_tNoCopy := fun _ => by kernel_rfl
  sizeOf_tNoCopy := fun _ => by kernel_rfl
  isAgg_tNoCopy := fun _ => by kernel_rfl
  zeroValue_tNoCopy := fun _ => by kernel_rfl
  underlying_t21 := by kernel_rfl
  runUnderlying_t21 := fun _ => by kernel_rfl
  sizeOf_t21 := fun _ => by kernel_rfl
  isAgg_t21 := fun _ => by kernel_rfl
  zeroValue_t21 := fun _ => by kernel_rfl
  room_tIMutex := by kernel_rfl
open Go.RowKit Go.MuLone

abbrev hkB (w : World) (g : Nat) (n : Nd) (A1 A2 : Ads) (st : Int) (lk rt : Bool) : Prop := w.heap[g]? = some (.cells (hkc n A1 A2 st lk rt) 122 (0, 0))
theorem hkB.lock {w : World} {g : Nat} {n : Nd} {A1 A2 : Ads} {st : Int} {lk rt : Bool} (h : hkB w g n A1 A2 st lk rt) (st' : Int) : hkB (w.setCell ⟨g, 9, none⟩ (.int .i32 st')) g n A1 A2 st' lk rt := blk_setO h 9 _
theorem hkB.look {w : World} {g : Nat} {n : Nd} {A1 A2 : Ads} {st : Int} {lk rt : Bool} (h : hkB w g n A1 A2 st lk rt) (b : Bool) : hkB ((w.setCell ⟨g, 24, none⟩ (.bool true)).setCell ⟨g, 25, none⟩ (.bool b)) g n A1 A2 st true b := by
  have h1 : hkB (w.setCell ⟨g, 24, none⟩ (.bool true)) g n A1 A2 st true rt := blk_setO h 24 _
  exact blk_setO h1 25 _

set_option maxRecDepth 100000 in
set_option maxHeartbeats 2000000 in
theorem isRight0 (n : Nd) (A1 A2 : Ads) (g : Nat) (st : Int) (w : World) (hz : NdSz n 1048576) (h1 : NodeAt w A1 n) (h2 : NodeAt w A2 n) (hg : hkB w g n A1 A2 st false false) :
    Calls Tryz.prog 81 #[.pointer (some ⟨g, 0, none⟩)] w fun e w' => e = .returned (.bool (ndOk n)) ∧ hkB w' g n A1 A2 st true (ndOk n) ∧ KeepsL [g] w w' := by
  have HL := hide (look0 n A1 A2 g st false false w hz h1 h2 hg)
  have HG := hide hg
  have p24 : w.cell? ⟨g, 24, none⟩ = some (.bool false) := hkc_cells hg 24
  clear hz h1 h2 hg
  generalize ndOk n = b at *
  go_enter Tryz.func81, Tryz.ntmps81
  go_wp2_with fail
  refine (unhide HL).mono ?_
  rintro e w1 ⟨rfl, hb1⟩
  have HG1 := hide (obj_step (unhide HG) hb1)
  have HK1 := hide (KeepsL.of_below (F := [g]) hb1)
  clear hb1 p24 HL HG
  have q24 : w1.cell? ⟨g, 24, none⟩ = some (.bool false) := hkc_cells (unhide HG1) 24
  have q25 : w1.cell? ⟨g, 25, none⟩ = some (.bool false) := hkc_cells (unhide HG1) 25
  have f24 := obj_free (unhide HG1) 24
  have f25 := obj_free (unhide HG1) 25
  go_wp2_with fail
  go_ret
  exact ⟨rfl, (show hkB w1 g n A1 A2 st false false from unhide HG1).look b, (unhide HK1).trans ((KeepsL.set _).trans (KeepsL.set _))⟩

set_option maxRecDepth 100000 in
set_option maxHeartbeats 2000000 in
theorem ok0 (n : Nd) (A1 A2 : Ads) (g : Nat) (w : World) (hz : NdSz n 1048576) (h1 : ∀ w', KeepsL [g] w w' → NodeAt w' A1 n ∧ NodeAt w' A2 n) (hg : hkB w g n A1 A2 0 false false) :
    Calls Tryz.prog 46 #[.pointer (some ⟨g, 0, none⟩)] w fun e w' => e = .returned (.bool (ndOk n)) ∧ hkB w' g n A1 A2 0 true (ndOk n) ∧ KeepsL [g] w w' := by
  have c9 : w.cell? ⟨g, 9, none⟩ = some (.int .i32 0) := hkc_cells hg 9
  have f9 := obj_free hg 9
  have HG1 := hide (hkB.lock hg 1)
  have HK1 := hide (show KeepsL [g] w (w.setCell ⟨g, 9, none⟩ (.int .i32 1)) from KeepsL.set _)
  have HA := hide h1
  have HZ := hide hz
  clear h1 hz hg
  go_enter_defers Tryz.func46, Tryz.ntmps46
  go_wp2_with (go_at_call 79; refine (lock_free muLib ⟨g, 9, none⟩ _ c9 f9).mono ?_; rintro e w' ⟨rfl, rfl⟩)
  generalize w.setCell ⟨g, 9, none⟩ (.int .i32 1) = W1 at *
  obtain ⟨ha1, ha2⟩ := unhide HA W1 (unhide HK1)
  refine (isRight0 n A1 A2 g 1 W1 (unhide HZ) ha1 ha2 (unhide HG1)).mono ?_
  rintro e W2 ⟨rfl, hg2, hk2⟩
  have HG2 := hide hg2
  have HK2 := hide ((unhide HK1).trans hk2)
  clear hg2 hk2 ha1 ha2 HG1 HK1 HA HZ c9 f9
  go_wp2_with fail
  refine leaves_cons (f := 80) (args := #[.pointer (some ⟨g, 9, none⟩)]) (by simp) (by simp [go_sem]) ?_
  refine (unlock_deferred muLib ⟨g, 9, none⟩ .returning _ (hkc_cells (unhide HG2) 9) (obj_free (unhide HG2) 9)).mono ?_
  rintro e u' w'' ⟨rfl, rfl, rfl⟩
  exact ⟨_, results_tmp rfl _ _ _, rfl, (show hkB W2 g n A1 A2 1 true (ndOk n) from unhide HG2).lock 0, (unhide HK2).trans (KeepsL.set _)⟩

section
variable {P : Program} {ops : Array Oper} {Q : Exit → Act → World → Prop} {md : Region.Mode} {E : Nat}

end
end Go.Proofs.YtbanjohfcnadfaaGreatDoor
