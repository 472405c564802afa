/- Parts. -/
import Derived.Test.YtikdkijggejnfaaGreatDoorPj2
import Derived.Test.YtikdkijggejnfaaGreatDoorPj3
import Derived.Test.YtikdkijggejnfaaGreatDoorPj7
import Derived.Test.YtikdkijggejnfaaGreatDoorPj4
import Derived.Test.YtikdkijggejnfaaGreatDoorPj10
import Derived.Test.YtikdkijggejnfaaGreatDoorPj18
import Derived.Test.YtikdkijggejnfaaGreatDoorPj5
import Derived.Test.YtikdkijggejnfaaGreatDoorPj6
import Derived.Test.YtikdkijggejnfaaGreatDoorPj12
namespace Go.Proofs.YtikdkijggejnfaaGreatDoor
open Go.RowKit


theorem implPutNum_none (n : Int) (w : World) (h : n < 0 ∨ 4000000000 < n) :
    Calls Tryz.prog 40 #[.int .i64 n] w fun e w' => e = .returned (.string ByteArray.empty) ∧ w = w' := by
  by_cases h1 : n < 0
  · clear h
    go_enter Tryz.func40, Tryz.ntmps40
    go_wp2
    go_ret
    exact ⟨rfl, rfl⟩
  · have h2 : 4000000000 < n := by omega
    clear h
    go_enter Tryz.func40, Tryz.ntmps40
    go_wp2
    go_ret
    exact ⟨rfl, rfl⟩

set_option maxRecDepth 100000 in
set_option maxHeartbeats 1000000 in
theorem implPutNum (n : Nat) (w : World) (h : n ≤ 4000000000) :
    Calls Tryz.prog 40 #[.int .i64 n] w fun e w' => e = .returned (.string ⟨(Mth.put n).toArray⟩) ∧ Below w.heap.size w w' := by
  obtain ⟨i0, hi, hz0, hz1, hz2⟩ := info_parts infoU8
  have hlo : decide ((n : Int) < 0) = false := by simp
  have hhi : decide (4000000000 < (n : Int)) = false := by simp; omega
  go_enter Tryz.func40, Tryz.ntmps40
  go_wp2
  go_loopw [0, 3] (fun m v wr => ∃ f cur pre, f ≤ 5 ∧ cur ≤ 4000000000 ∧ cur < 128 ^ (f + 1) ∧ pre.length + f = 5 ∧ pre ++ Mth.putF f cur = Mth.put n ∧ m = .int .i64 (cur : Nat) ∧ wr.ownsRow w.heap.size 5 1 v pre.length (pre.map bv) ∧ Below w.heap.size w wr) (fun m _ _ => (intOf m).toNat)
  case atStart => exact ⟨5, n, [], by omega, by omega, by omega, rfl, rfl, rfl, World.ownsRow_nil _ _ _ _, Below.refl _ _⟩
  case round =>
    obtain ⟨f, cur, pre, hf, hc9, hcur, hpf, hput, rfl, hown, hbel⟩ := hrel
    have HP := hide hput
    clear hput
    by_cases hbig : cur ≤ 127
    · have HE := hide (Mth.put_end n f cur pre hbig (unhide HP))
      go_wp2_with (at_builtin; refine wpList_append_own _ rfl _ _ 30 rfl w.heap.size 5 i0 (.int .u8 0) 1 1 Tryz.underlying30 hi hz0 hz1 hz2 rfl (by decide) _ _ _ rfl (hown.alloc _) ⟨wr.heap.size, 0, none⟩ 1 1 [.int .u8 (cur : Int)] rfl rfl ?c1 ?c2 ?c3 ?c4 ?c5 ?_)
      case c1 => exact cell_one_new _ _ _
      case c2 => intro u hu; simp at hu; subst hu; rfl
      case c3 => unfold maxLen; omega
      case c4 => omega
      case c5 => have := hbel.size; simp; omega
      intro v' w1 hown' hgrow _
      have hbel' := below_append hbel hown hgrow
      have hown2 := own_snoc (UInt8.ofNat cur) (by rw [Mth.toNat_byte _ (by omega)]) hown'
      rw [unhide HE] at hown2
      have hconv := conv_owned 30 9 Tryz.underlying30 Tryz.underlying5 Tryz.underlying9 hown2
      clear hown' hgrow hown hown2 hbel HE
      go_wp2
      go_ret
      exact ⟨rfl, hbel'⟩
    · obtain ⟨f', rfl, hc2, hl2, hp2⟩ := Mth.put_round n f cur pre hcur hbig hpf (unhide HP)
      have HP2 := hide hp2
      clear hp2 HP
      go_wp2_with (at_builtin; refine wpList_append_own _ rfl _ _ 30 rfl w.heap.size 5 i0 (.int .u8 0) 1 1 Tryz.underlying30 hi hz0 hz1 hz2 rfl (by decide) _ _ _ rfl (hown.alloc _) ⟨wr.heap.size, 0, none⟩ 1 1 [.int .u8 ((cur : Int) % 128 + 128)] rfl rfl ?d1 ?d2 ?d3 ?d4 ?d5 ?_)
      case d1 => exact cell_one_new _ _ _
      case d2 => intro u hu; simp at hu; subst hu; rfl
      case d3 => unfold maxLen; omega
      case d4 => omega
      case d5 => have := hbel.size; simp; omega
      intro v' w1 hown' hgrow _
      have hbel' := below_append hbel hown hgrow
      have hown2 := own_snoc (UInt8.ofNat (128 + cur % 128)) (by rw [Mth.toNat_byte _ (by omega)]; omega) hown'
      clear hown' hgrow hown hbel
      go_wp2
      go_roundw
      case rel => exact ⟨f', cur / 128, _, by omega, by omega, hc2, hl2, unhide HP2, by go_num, hown2, hbel'⟩
      case measure => simp [intOf]; omega

theorem implPutText_none (s : ByteArray) (w : World) (h : 1000 < s.size) :
    Calls Tryz.prog 41 #[.string s] w fun e w' => e = .returned (.string ByteArray.empty) ∧ w = w' := by
  go_enter Tryz.func41, Tryz.ntmps41
  go_wp2
  go_ret
  exact ⟨rfl, rfl⟩
set_option maxRecDepth 100000 in
set_option maxHeartbeats 400000 in
theorem implPutText (s : ByteArray) (w : World) (h : s.size ≤ 1000) :
    Calls Tryz.prog 41 #[.string s] w fun e w' => e = .returned (.string (putText s)) ∧ Below w.heap.size w w' := by
  have hl := Mth.put_length s.size
  have hadd := fun w1 => run_string_add_sum (P := Tryz.prog) w1 ⟨(Mth.put s.size).toArray⟩ s (by rw [size_of_list]; omega)
  simp only [add_put] at hadd
  go_enter Tryz.func41, Tryz.ntmps41
  go_wp2_with (go_at_call 40; refine (implPutNum s.size _ (by omega)).mono ?_; rintro e w' ⟨rfl, hbel⟩)
  go_ret
  exact ⟨rfl, by assumption⟩

theorem implPutAny (n : Int) (w : World) : Calls Tryz.prog 40 #[.int .i64 n] w fun e w' => e = .returned (.string (putS n)) ∧ Below w.heap.size w w' := by
  unfold putS
  by_cases h : 0 ≤ n ∧ n ≤ 4000000000
  · rw [if_pos h]
    obtain ⟨m, rfl⟩ := Int.eq_ofNat_of_zero_le h.1
    exact implPutNum m w (by omega)
  · rw [if_neg h]
    exact (implPutNum_none n w (by omega)).mono fun e w' ⟨he, hw⟩ => ⟨he, hw ▸ Below.refl _ _⟩
theorem implPutTAny (s : ByteArray) (w : World) : Calls Tryz.prog 41 #[.string s] w fun e w' => e = .returned (.string (putT s)) ∧ Below w.heap.size w w' := by
  unfold putT
  by_cases h : s.size ≤ 1000
  · rw [if_pos h]; exact implPutText s w h
  · rw [if_neg h]; exact (implPutText_none s w (by omega)).mono fun e w' ⟨he, hw⟩ => ⟨he, hw ▸ Below.refl _ _⟩
open Mth

set_option maxRecDepth 100000 in
set_option maxHeartbeats 2000000 in
theorem implPutMsg_no (m : Mg) (w : World) (h : mgOk m = false) : Calls Tryz.prog 42 #[mgv m] w fun e w' => e = .returned (.string ByteArray.empty) ∧ Below w.heap.size w w' := by
  have HO := hide (fun w1 => implMsgOk m w1)
  rw [h] at HO
  clear h
  obtain ⟨K, F, T, I, L, k, N⟩ := m
  go_enter Tryz.func42, Tryz.ntmps42
  go_wp2_with fail
  refine (unhide HO _).mono ?_
  rintro e w1 ⟨rfl, hb1⟩
  have hB := (below_one w _).trans (hb1.mono (by simp))
  clear hb1
  go_wp2_with fail
  go_ret
  exact ⟨rfl, hB⟩

set_option maxRecDepth 100000 in
set_option maxHeartbeats 4000000 in
theorem implPutMsg_yes (m : Mg) (w : World) (h : mgOk m = true) : Calls Tryz.prog 42 #[mgv m] w fun e w' => e = .returned (.string (mgBytes m)) ∧ Below w.heap.size w w' := by
  have hK := kind_in h
  have HO := hide (fun w1 => implMsgOk m w1)
  rw [h] at HO
  clear h
  obtain ⟨K, F, T, I, L, k, N⟩ := m
  obtain ⟨hK0, hK2⟩ := hK
  dsimp only at hK0 hK2
  have hw8 : IntKind.u8.wrap K = K := by
    have h3 : K = 0 ∨ K = 1 ∨ K = 2 := by omega
    rcases h3 with rfl | rfl | rfl <;> rfl
  have HK := hide (And.intro hK0 hK2)
  show Calls Tryz.prog 42 #[mgv ⟨K, F, T, I, L, k, N⟩] w fun e w' => e = .returned (.string (kb K ++ putS F ++ putS T ++ putS I ++ putS L ++ putT k ++ putS N)) ∧ Below w.heap.size w w'
  have N1 := hide (fun w1 => implPutAny F w1)
  have N2 := hide (fun w1 => implPutAny T w1)
  have N3 := hide (fun w1 => implPutAny I w1)
  have N4 := hide (fun w1 => implPutAny L w1)
  have N5 := hide (fun w1 => implPutTAny k w1)
  have N6 := hide (fun w1 => implPutAny N w1)
  have s1 := putS_size F
  have s2 := putS_size T
  have s3 := putS_size I
  have s4 := putS_size L
  have s5 := putT_size k
  have s6 := putS_size N
  have s0 := kb_size K
  have HCV := hide (fun w1 g => conv_kind w1 g K ⟨hK0, hK2⟩)
  generalize putS F = bF at *
  generalize putS T = bT at *
  generalize putS I = bI at *
  generalize putS L = bL at *
  generalize putT k = bk at *
  generalize putS N = bN at *
  generalize kb K = bK at *
  have A1 := hide (fun w1 => run_string_add_sum (P := Tryz.prog) w1 bK bF (by omega))
  have A2 := hide (fun w1 => run_string_add_sum (P := Tryz.prog) w1 (bK ++ bF) bT (by rw [ByteArray.size_append]; omega))
  have A3 := hide (fun w1 => run_string_add_sum (P := Tryz.prog) w1 (bK ++ bF ++ bT) bI (by simp only [ByteArray.size_append]; omega))
  have A4 := hide (fun w1 => run_string_add_sum (P := Tryz.prog) w1 (bK ++ bF ++ bT ++ bI) bL (by simp only [ByteArray.size_append]; omega))
  have A5 := hide (fun w1 => run_string_add_sum (P := Tryz.prog) w1 (bK ++ bF ++ bT ++ bI ++ bL) bk (by simp only [ByteArray.size_append]; omega))
  have A6 := hide (fun w1 => run_string_add_sum (P := Tryz.prog) w1 (bK ++ bF ++ bT ++ bI ++ bL ++ bk) bN (by simp only [ByteArray.size_append]; omega))
  clear s0 s1 s2 s3 s4 s5 s6
  go_enter Tryz.func42, Tryz.ntmps42
  go_wp2_with fail
  refine (unhide HO _).mono ?_
  rintro e w1 ⟨rfl, hb1⟩
  have hA := blk_step (heap_alloc_new w _) hb1
  have hB := (below_one w _).trans (hb1.mono (by simp))
  obtain ⟨c0, c1, c2, c3, c4, c5, c6⟩ := cells7 hA
  have hz := blk_lt hA
  clear hb1
  have hcv := fun hc => unhide HCV (w1.alloc (.cells #[.int .u8 K] 5)) w1.heap.size hc
  have hcv := hcv (by simp)
  go_upto_region 4 with fail
  refine wp_at (fun V hV => ?_)
  have hblk : V.heap[w.heap.size]? = some (.cells #[.int .i64 K, .int .i64 F, .int .i64 T, .int .i64 I, .int .i64 L, .string k, .int .i64 N] 23 (0, 0)) := by rw [hV, Below.heap_alloc _ _ _ hz]; exact hA
  have HBV := hide (show Below w.heap.size w V by rw [hV]; exact hB.alloc hB.size _)
  have hgV := blk_lt hblk
  obtain ⟨p0, p1, p2, p3, p4, p5, p6⟩ := cells7 hblk
  clear hV hblk hA hB c0 c1 c2 c3 c4 c5 c6 hz hcv HCV
  have y1 := cell_regrown p1
  have y2 := cell_regrown p2
  have y3 := cell_regrown p3
  have y4 := cell_regrown p4
  have y5 := cell_regrown p5
  have y6 := cell_regrown p6
  have n1 : ∀ d os, Calls Tryz.prog 40 #[.int .i64 F] (Sort.grow (redrawn V d) os) fun e w'' => e = .returned (.string bF) ∧ ∃ p : Regrown, w'' = Sort.grow (redrawn V p.d) p.os := fun d os => Calls.regrown_of (unhide N1 _)
  have n2 : ∀ d os, Calls Tryz.prog 40 #[.int .i64 T] (Sort.grow (redrawn V d) os) fun e w'' => e = .returned (.string bT) ∧ ∃ p : Regrown, w'' = Sort.grow (redrawn V p.d) p.os := fun d os => Calls.regrown_of (unhide N2 _)
  have n3 : ∀ d os, Calls Tryz.prog 40 #[.int .i64 I] (Sort.grow (redrawn V d) os) fun e w'' => e = .returned (.string bI) ∧ ∃ p : Regrown, w'' = Sort.grow (redrawn V p.d) p.os := fun d os => Calls.regrown_of (unhide N3 _)
  have n4 : ∀ d os, Calls Tryz.prog 40 #[.int .i64 L] (Sort.grow (redrawn V d) os) fun e w'' => e = .returned (.string bL) ∧ ∃ p : Regrown, w'' = Sort.grow (redrawn V p.d) p.os := fun d os => Calls.regrown_of (unhide N4 _)
  have n5 : ∀ d os, Calls Tryz.prog 41 #[.string k] (Sort.grow (redrawn V d) os) fun e w'' => e = .returned (.string bk) ∧ ∃ p : Regrown, w'' = Sort.grow (redrawn V p.d) p.os := fun d os => Calls.regrown_of (unhide N5 _)
  have n6 : ∀ d os, Calls Tryz.prog 40 #[.int .i64 N] (Sort.grow (redrawn V d) os) fun e w'' => e = .returned (.string bN) ∧ ∃ p : Regrown, w'' = Sort.grow (redrawn V p.d) p.os := fun d os => Calls.regrown_of (unhide N6 _)
  have a1 := unhide A1
  have a2 := unhide A2
  have a3 := unhide A3
  have a4 := unhide A4
  have a5 := unhide A5
  have a6 := unhide A6
  clear A1 A2 A3 A4 A5 A6 N1 N2 N3 N4 N5 N6 p0 p1 p2 p3 p4 p5 p6
  refine wp_region_quiet_below (by kernel_rfl) (by kernel_rfl) ?_
  repeat (first | go_big_quiet_step (first | (go_at_call_of 40 F; exact n1 _ _) | (go_at_call_of 40 T; exact n2 _ _) | (go_at_call_of 40 I; exact n3 _ _) | (go_at_call_of 40 L; exact n4 _ _) | (go_at_call_of 41 k; exact n5 _ _) | (go_at_call_of 40 N; exact n6 _ _)) | quiet_step (first | (go_at_call_of 40 F; exact n1 _ _) | (go_at_call_of 40 T; exact n2 _ _) | (go_at_call_of 40 I; exact n3 _ _) | (go_at_call_of 40 L; exact n4 _ _) | (go_at_call_of 41 k; exact n5 _ _) | (go_at_call_of 40 N; exact n6 _ _)))
  refine wpQuiet_nil ?_
  intro _ hw'
  obtain ⟨⟨dq, osq⟩, hw''⟩ := hw'
  subst hw''
  have HBL5 := hide ((unhide HBV).trans ((below_regrown _ dq osq).mono (unhide HBV).size))
  clear y1 y2 y3 y4 y5 y6 n1 n2 n3 n4 n5 n6 a1 a2 a3 a4 a5 a6
  go_wp2_with fail
  go_ret
  exact ⟨rfl, unhide HBL5⟩

theorem implPutMsg (m : Mg) (w : World) : Calls Tryz.prog 42 #[mgv m] w fun e w' => e = .returned (.string (putMsg m)) ∧ Below w.heap.size w w' := by
  cases h : mgOk m
  · rw [putMsg_no h]; exact implPutMsg_no m w h
  · rw [putMsg_yes h]; exact implPutMsg_yes m w h

set_option maxRecDepth 100000 in
set_option maxHeartbeats 2000000 in
theorem implPutOp_no (o : Op5) (w : World) (h : opOk o = false) : Calls Tryz.prog 12 #[opw o] w fun e w' => e = .returned (.string ByteArray.empty) ∧ Below w.heap.size w w' := by
  have HO := hide (fun w1 => implOpOkW o w1)
  rw [h] at HO
  clear h
  obtain ⟨K, no, k, n, ⟨mK, mF, mT, mI, mL, mk, mN⟩⟩ := o
  go_enter Tryz.func12, Tryz.ntmps12
  go_wp2_with fail
  refine (unhide HO _).mono ?_
  rintro e w1 ⟨rfl, hb1⟩
  have hB := (below_one w _).trans (hb1.mono (by simp))
  clear hb1
  go_wp2_with fail
  go_ret
  exact ⟨rfl, hB⟩

set_option maxRecDepth 100000 in
set_option maxHeartbeats 4000000 in
theorem implPutOp_yes (o : Op5) (w : World) (h : opOk o = true) : Calls Tryz.prog 12 #[opw o] w fun e w' => e = .returned (.string (opBytes o)) ∧ Below w.heap.size w w' := by
  have hK := opKind_in h
  have HO := hide (fun w1 => implOpOkW o w1)
  have NM := hide (fun w1 => implPutMsg o.m w1)
  rw [h] at HO
  clear h
  obtain ⟨K, no, k, n, m⟩ := o
  obtain ⟨hK0, hK6⟩ := hK
  dsimp only at hK0 hK6 NM
  have hw8 := wrap_kind6 K hK0 hK6
  show Calls Tryz.prog 12 #[opw ⟨K, no, k, n, m⟩] w fun e w' => e = .returned (.string (kb K ++ putS no ++ putT k ++ putS n ++ putT (putMsg m))) ∧ Below w.heap.size w w'
  have N1 := hide (fun w1 => implPutAny no w1)
  have N2 := hide (fun w1 => implPutTAny k w1)
  have N3 := hide (fun w1 => implPutAny n w1)
  have N4 := hide (fun w1 => implPutTAny (putMsg m) w1)
  have s1 := putS_size no
  have s2 := putT_size k
  have s3 := putS_size n
  have s4 := putT_size (putMsg m)
  have s0 := kb_size K
  have HCV := hide (fun w1 g => conv_kind6 w1 g K ⟨hK0, hK6⟩)
  generalize putS no = b1 at *
  generalize putT k = b2 at *
  generalize putS n = b3 at *
  generalize putT (putMsg m) = b4 at *
  generalize putMsg m = bM at *
  generalize kb K = bK at *
  obtain ⟨mK, mF, mT, mI, mL, mk, mN⟩ := m
  have a1 := fun w1 => run_string_add_sum (P := Tryz.prog) w1 bK b1 (by omega)
  have a2 := fun w1 => run_string_add_sum (P := Tryz.prog) w1 (bK ++ b1) b2 (by simp only [ByteArray.size_append]; omega)
  have a3 := fun w1 => run_string_add_sum (P := Tryz.prog) w1 (bK ++ b1 ++ b2) b3 (by simp only [ByteArray.size_append]; omega)
  have a4 := fun w1 => run_string_add_sum (P := Tryz.prog) w1 (bK ++ b1 ++ b2 ++ b3) b4 (by simp only [ByteArray.size_append]; omega)
  have HA := hide (And.intro a1 (And.intro a2 (And.intro a3 a4)))
  clear s0 s1 s2 s3 s4 a1 a2 a3 a4 hK0 hK6
  go_enter Tryz.func12, Tryz.ntmps12
  go_wp2_with fail
  refine (unhide HO _).mono ?_
  rintro e w1 ⟨rfl, hb1⟩
  have hA := blk_step (heap_alloc_new w _) hb1
  have hB := (below_one w _).trans (hb1.mono (by simp))
  obtain ⟨c0, c1, c2, c3, c4, c5, c6, c7, c8, c9, c10⟩ := elevenP hA
  have hz := blk_lt hA
  clear hb1
  have hcv := fun hc => unhide HCV (w1.alloc (.cells #[.int .u8 K] 5)) w1.heap.size hc
  have hcv := hcv (by simp)
  go_upto_region 4 with fail
  refine wp_at (fun V hV => ?_)
  have hblk : V.heap[w.heap.size]? = some (.cells #[.int .i64 K, .int .i64 no, .string k, .int .i64 n, .int .i64 mK, .int .i64 mF, .int .i64 mT, .int .i64 mI, .int .i64 mL, .string mk, .int .i64 mN] 25 (0, 0)) := by rw [hV, Below.heap_alloc _ _ _ hz]; exact hA
  have HBV := hide (show Below w.heap.size w V by rw [hV]; exact hB.alloc hB.size _)
  have hgV := blk_lt hblk
  obtain ⟨p0, p1, p2, p3, p4, p5, p6, p7, p8, p9, p10⟩ := elevenP hblk
  clear hV hblk hA hB c0 c1 c2 c3 c4 c5 c6 c7 c8 c9 c10 hz hcv HCV
  have y0 := cell_regrown p0
  have y1 := cell_regrown p1
  have y2 := cell_regrown p2
  have y3 := cell_regrown p3
  have y4 := cell_regrown p4
  have y5 := cell_regrown p5
  have y6 := cell_regrown p6
  have y7 := cell_regrown p7
  have y8 := cell_regrown p8
  have y9 := cell_regrown p9
  have y10 := cell_regrown p10
  obtain ⟨a1, a2, a3, a4⟩ := unhide HA
  clear p0 p1 p2 p3 p4 p5 p6 p7 p8 p9 p10 HA
  refine wp_region_mix (by kernel_rfl) ?_
  show wpMix _ _ _ _ 19 (Array.replicate 19 false) _ _
  refine wpMix_take 0 rfl (by kernel_rfl) (by kernel_rfl) (by kernel_rfl) (fun _ _ _ _ h => h) (fun K hK => ?_)
  go_simp
  first
    | (refine hK _ ?_; clear hK K)
    | (apply Exists.intro
       refine ⟨fun _ => ?_, hK _ ?_⟩
       (fail)
       clear hK K)
  refine wpMix_take 1 rfl (by kernel_rfl) (by kernel_rfl) (by kernel_rfl) (fun _ _ _ _ h => h) (fun K hK => ?_)
  go_simp
  first
    | (refine hK _ ?_; clear hK K)
    | (apply Exists.intro
       refine ⟨fun _ => ?_, hK _ ?_⟩
       (fail)
       clear hK K)
  refine wpMix_take 2 rfl (by kernel_rfl) (by kernel_rfl) (by kernel_rfl) (fun _ _ _ _ h => h) (fun K hK => ?_)
  go_simp
  first
    | (refine hK _ ?_; clear hK K)
    | (apply Exists.intro
       refine ⟨fun _ => ?_, hK _ ?_⟩
       (fail)
       clear hK K)
  refine wpMix_take 3 rfl (by kernel_rfl) (by kernel_rfl) (by kernel_rfl) (fun _ _ _ _ h => h) (fun K hK => ?_)
  go_simp
  first
    | (refine hK _ ?_; clear hK K)
    | (apply Exists.intro
       refine ⟨fun _ => ?_, hK _ ?_⟩
       (exact unhide N1 _)
       clear hK K)
  refine wpMix_take 4 rfl (by kernel_rfl) (by kernel_rfl) (by kernel_rfl) (fun _ _ _ _ h => h) (fun K hK => ?_)
  go_simp
  first
    | (refine hK _ ?_; clear hK K)
    | (apply Exists.intro
       refine ⟨fun _ => ?_, hK _ ?_⟩
       (fail)
       clear hK K)
  refine wpMix_take 5 rfl (by kernel_rfl) (by kernel_rfl) (by kernel_rfl) (fun _ _ _ _ h => h) (fun K hK => ?_)
  go_simp
  first
    | (refine hK _ ?_; clear hK K)
    | (apply Exists.intro
       refine ⟨fun _ => ?_, hK _ ?_⟩
       (fail)
       clear hK K)
  refine wpMix_take 6 rfl (by kernel_rfl) (by kernel_rfl) (by kernel_rfl) (fun _ _ _ _ h => h) (fun K hK => ?_)
  go_simp
  first
    | (refine hK _ ?_; clear hK K)
    | (apply Exists.intro
       refine ⟨fun _ => ?_, hK _ ?_⟩
       (fail)
       clear hK K)
  refine wpMix_take 7 rfl (by kernel_rfl) (by kernel_rfl) (by kernel_rfl) (fun _ _ _ _ h => h) (fun K hK => ?_)
  go_simp
  first
    | (refine hK _ ?_; clear hK K)
    | (apply Exists.intro
       refine ⟨fun _ => ?_, hK _ ?_⟩
       (exact unhide N2 _)
       clear hK K)
  refine wpMix_take 8 rfl (by kernel_rfl) (by kernel_rfl) (by kernel_rfl) (fun _ _ _ _ h => h) (fun K hK => ?_)
  go_simp
  first
    | (refine hK _ ?_; clear hK K)
    | (apply Exists.intro
       refine ⟨fun _ => ?_, hK _ ?_⟩
       (fail)
       clear hK K)
  refine wpMix_take 9 rfl (by kernel_rfl) (by kernel_rfl) (by kernel_rfl) (fun _ _ _ _ h => h) (fun K hK => ?_)
  go_simp
  first
    | (refine hK _ ?_; clear hK K)
    | (apply Exists.intro
       refine ⟨fun _ => ?_, hK _ ?_⟩
       (fail)
       clear hK K)
  refine wpMix_take 10 rfl (by kernel_rfl) (by kernel_rfl) (by kernel_rfl) (fun _ _ _ _ h => h) (fun K hK => ?_)
  go_simp
  first
    | (refine hK _ ?_; clear hK K)
    | (apply Exists.intro
       refine ⟨fun _ => ?_, hK _ ?_⟩
       (fail)
       clear hK K)
  refine wpMix_take 11 rfl (by kernel_rfl) (by kernel_rfl) (by kernel_rfl) (fun _ _ _ _ h => h) (fun K hK => ?_)
  go_simp
  first
    | (refine hK _ ?_; clear hK K)
    | (apply Exists.intro
       refine ⟨fun _ => ?_, hK _ ?_⟩
       (exact unhide N3 _)
       clear hK K)
  refine wpMix_take 12 rfl (by kernel_rfl) (by kernel_rfl) (by kernel_rfl) (fun _ _ _ _ h => h) (fun K hK => ?_)
  go_simp
  first
    | (refine hK _ ?_; clear hK K)
    | (apply Exists.intro
       refine ⟨fun _ => ?_, hK _ ?_⟩
       (fail)
       clear hK K)
  refine wpMix_take 13 rfl (by kernel_rfl) (by kernel_rfl) (by kernel_rfl) (fun _ _ _ _ h => h) (fun K hK => ?_)
  go_simp
  first
    | (refine hK _ ?_; clear hK K)
    | (apply Exists.intro
       refine ⟨fun _ => ?_, hK _ ?_⟩
       (fail)
       clear hK K)
  refine wpMix_take 14 rfl (by kernel_rfl) (by kernel_rfl) (by kernel_rfl) (fun _ _ _ _ h => h) (fun K hK => ?_)
  go_simp
  first
    | (refine hK _ ?_; clear hK K)
    | (apply Exists.intro
       refine ⟨fun _ => ?_, hK _ ?_⟩
       (fail)
       clear hK K)
  refine wpMix_take 15 rfl (by kernel_rfl) (by kernel_rfl) (by kernel_rfl) (fun _ _ _ _ h => h) (fun K hK => ?_)
  go_simp
  first
    | (refine hK _ ?_; clear hK K)
    | (apply Exists.intro
       refine ⟨fun _ => ?_, hK _ ?_⟩
       (exact unhide NM _)
       clear hK K)
  refine wpMix_take 16 rfl (by kernel_rfl) (by kernel_rfl) (by kernel_rfl) (fun _ _ _ _ h => h) (fun K hK => ?_)
  go_simp
  first
    | (refine hK _ ?_; clear hK K)
    | (apply Exists.intro
       refine ⟨fun _ => ?_, hK _ ?_⟩
       (exact unhide N4 _)
       clear hK K)
  refine wpMix_take 17 rfl (by kernel_rfl) (by kernel_rfl) (by kernel_rfl) (fun _ _ _ _ h => h) (fun K hK => ?_)
  go_simp
  first
    | (refine hK _ ?_; clear hK K)
    | (apply Exists.intro
       refine ⟨fun _ => ?_, hK _ ?_⟩
       (fail)
       clear hK K)
  refine wpMix_take 18 rfl (by kernel_rfl) (by kernel_rfl) (by kernel_rfl) (fun _ _ _ _ h => h) (fun K hK => ?_)
  go_simp
  first
    | (refine hK _ ?_; clear hK K)
    | (apply Exists.intro
       refine ⟨fun _ => ?_, hK _ ?_⟩
       (fail)
       clear hK K)
  refine wpMix_done (by kernel_rfl) (fun z hz => ?_)
  have HBZ := hide (Ge.trans (unhide HBV) hz)
  clear hz HBV a1 a2 a3 a4 y0 y1 y2 y3 y4 y5 y6 y7 y8 y9 y10
  go_simp
  go_wp2_with fail
  go_ret
  exact ⟨rfl, unhide HBZ⟩

theorem implPutOp (o : Op5) (w : World) : Calls Tryz.prog 12 #[opw o] w fun e w' => e = .returned (.string (putOp o)) ∧ Below w.heap.size w w' := by
  cases h : opOk o
  · rw [putOp_no h]; exact implPutOp_no o w h
  · rw [putOp_yes h]; exact implPutOp_yes o w h

set_option maxRecDepth 100000 in
set_option maxHeartbeats 2000000 in
theorem framed (s : ByteArray) (hs : s.size ≤ maxLen) (w : World) : Calls Tryz.prog 57 #[.string s] w fun e w' => e = .returned (.string (frameT s)) ∧ Below w.heap.size w w' := by
  unfold frameT
  have hn := sumN_lt s
  have HS := hide (fun w1 => sumBytes s hs w1)
  have HP := hide (fun w1 => implPutTAny s w1)
  have hp := putT_size s
  have HCV := hide (fun w1 g => conv_four w1 g (sumN s) 4 hn)
  have hw := wordB_size (sumN s)
  generalize sumN s = n at *
  generalize putT s = bT at *
  generalize wordB n = bW at *
  have HA := hide (fun w1 => run_string_add_sum (P := Tryz.prog) w1 bW bT (by omega))
  clear hn hp hw hs
  go_enter Tryz.func57, Tryz.ntmps57
  go_upto_region 1 with fail
  refine wp_region_mix (by kernel_rfl) ?_
  show wpMix _ _ _ _ 7 (Array.replicate 7 false) _ _
  refine wpMix_take 0 rfl (by kernel_rfl) (by kernel_rfl) (by kernel_rfl) (fun _ _ _ _ h => h) (fun K hK => ?_)
  go_simp
  first
    | (refine hK _ ?_; clear hK K)
    | (apply Exists.intro
       refine ⟨fun _ => ?_, hK _ ?_⟩
       (fail)
       clear hK K)
  refine wpMix_take 3 rfl (by kernel_rfl) (by kernel_rfl) (by kernel_rfl) (fun _ _ _ _ h => h) (fun K hK => ?_)
  go_simp
  first
    | (refine hK _ ?_; clear hK K)
    | (apply Exists.intro
       refine ⟨fun _ => ?_, hK _ ?_⟩
       (fail)
       clear hK K)
  refine wpMix_one 1 rfl (by kernel_rfl) (by rfl) (fun x hx => ?_)
  go_simp
  refine (unhide HS _).mono ?_
  rintro e y ⟨g, rfl, hg, hblk, hby⟩
  refine ⟨hby, ?_⟩
  have HBY := hide (Ge.trans hx hby)
  have hgy := blk_lt hblk
  obtain ⟨c0, c1, c2, c3⟩ := cells4 hblk
  have hcv := fun d os => unhide HCV (Sort.grow (redrawn y d) os) g (cell_regrown c0 d os) (cell_regrown c1 d os) (cell_regrown c2 d os) (cell_regrown c3 d os)
  have a1 := unhide HA
  clear hx hby hblk c0 c1 c2 c3 HCV HA hg HS
  refine wpMix_take 4 rfl (by kernel_rfl) (by kernel_rfl) (by kernel_rfl) (fun _ _ _ _ h => h) (fun K hK => ?_)
  go_simp
  first
    | (refine hK _ ?_; clear hK K)
    | (apply Exists.intro
       refine ⟨fun _ => ?_, hK _ ?_⟩
       (exact unhide HP _)
       clear hK K)
  refine wpMix_take 2 rfl (by kernel_rfl) (by kernel_rfl) (by kernel_rfl) (fun _ _ _ _ h => h) (fun K hK => ?_)
  go_simp
  first
    | (refine hK _ ?_; clear hK K)
    | (apply Exists.intro
       refine ⟨fun _ => ?_, hK _ ?_⟩
       (fail)
       clear hK K)
  refine wpMix_take 5 rfl (by kernel_rfl) (by kernel_rfl) (by kernel_rfl) (fun _ _ _ _ h => h) (fun K hK => ?_)
  go_simp
  first
    | (refine hK _ ?_; clear hK K)
    | (apply Exists.intro
       refine ⟨fun _ => ?_, hK _ ?_⟩
       (fail)
       clear hK K)
  refine wpMix_take 6 rfl (by kernel_rfl) (by kernel_rfl) (by kernel_rfl) (fun _ _ _ _ h => h) (fun K hK => ?_)
  go_simp
  first
    | (refine hK _ ?_; clear hK K)
    | (apply Exists.intro
       refine ⟨fun _ => ?_, hK _ ?_⟩
       (fail)
       clear hK K)
  refine wpMix_done (by kernel_rfl) (fun z hz => ?_)
  have HBZ := hide (Ge.trans (unhide HBY) hz)
  clear hz HBY hcv a1
  go_simp
  go_wp2_with fail
  go_ret
  exact ⟨rfl, unhide HBZ⟩


set_option maxRecDepth 100000 in
set_option maxHeartbeats 2000000 in
theorem implWrite (s : ByteArray) (o : Op5) (w : World) (hl : s.size ≤ 1048576) : Calls Tryz.prog 21 #[.string s, opw o] w fun e w' => e = .returned (wrV s o) ∧ Below w.heap.size w w' := by
  have HM := hide (fun w1 => implPutOp o w1)
  have hsz : (putOp o).size ≤ maxLen := by
    unfold putOp
    split
    · exact Nat.le_trans (opBytes_le o) (by unfold maxLen; omega)
    · exact Nat.zero_le _
  have HF := hide (fun w1 => framed (putOp o) hsz w1)
  have HL := hide (fun w1 => clone s w1 (by omega))
  have hfl := frameT_le (putOp o)
  clear hsz
  cases h : opOk o
  · rw [show wrV s o = .tuple #[.string s, .bool false] by unfold wrV; rw [wr_no (wr_bad h), wr_bad h]]
    rw [putOp_no h] at HM HF
    clear h hfl
    generalize frameT ByteArray.empty = r at *
    obtain ⟨K, no, k, n, ⟨mK, mF, mT, mI, mL, mk, mN⟩⟩ := o
    go_enter Tryz.func21, Tryz.ntmps21
    go_wp2_with fail
    refine (unhide HM _).mono ?_
    rintro e w1 ⟨rfl, hb1⟩
    have hB := (below_one w _).trans (hb1.mono (by simp))
    clear hb1
    go_wp2_with fail
    refine (unhide HF _).mono ?_
    rintro e w2 ⟨rfl, hb2⟩
    have hB2 := hB.trans (hb2.mono hB.size)
    clear hb2 hB
    go_wp2_with fail
    refine (unhide HL _).mono ?_
    rintro e w3 ⟨rfl, hb3⟩
    have hB3 := hB2.trans (hb3.mono hB2.size)
    clear hb3 hB2
    go_wp2_with fail
    go_ret2
    exact ⟨rfl, hB3⟩
  · have hX : entryB o = frameT (putOp o) := by unfold entryB; rw [putOp_yes h]
    have hne := not_empty (putOp o) (by rw [putOp_yes h]; exact opBytes_pos o)
    rw [show wrV s o = .tuple #[.string (wrT s o), .bool (wrB s o)] from rfl]
    unfold wrT
    rw [wr_ok h, hX]
    clear h hX
    generalize frameT (putOp o) = r at *
    generalize putOp o = b at *
    have HR1 := hide (fun h : (s.size + r.size : Int) ≤ 60000 => show (if decide ((s.size + r.size : Int) ≤ 60000) = true then s ++ r else s) = s ++ r ∧ decide ((s.size + r.size : Int) ≤ 60000) = true from ⟨if_pos (decide_eq_true h), decide_eq_true h⟩)
    have HR2 := hide (fun h : 60000 < (s.size + r.size : Int) => show (if decide ((s.size + r.size : Int) ≤ 60000) = true then s ++ r else s) = s ∧ decide ((s.size + r.size : Int) ≤ 60000) = false from ⟨if_neg (by rw [decide_eq_false (by omega)]; simp), decide_eq_false (by omega)⟩)
    have a2 := fun w1 => run_string_add_sum (P := Tryz.prog) w1 s r (by omega)
    obtain ⟨K, no, k, n, ⟨mK, mF, mT, mI, mL, mk, mN⟩⟩ := o
    generalize (if decide ((s.size + r.size : Int) ≤ 60000) = true then s ++ r else s) = RT at *
    generalize decide ((s.size + r.size : Int) ≤ 60000) = RB at *
    go_enter Tryz.func21, Tryz.ntmps21
    go_wp2_with fail
    refine (unhide HM _).mono ?_
    rintro e w1 ⟨rfl, hb1⟩
    have hB := (below_one w _).trans (hb1.mono (by simp))
    clear hb1
    go_wp2_with fail
    refine (unhide HF _).mono ?_
    rintro e w2 ⟨rfl, hb2⟩
    have hB2 := hB.trans (hb2.mono hB.size)
    clear hb2 hB
    by_cases hc : (s.size + r.size : Int) ≤ 60000
    · obtain ⟨e1, rfl⟩ := unhide HR1 hc
      have HE := hide e1
      clear e1 HR1 HR2
      have hd : decide ((60000 : Int) < s.size + r.size) = false := decide_eq_false (by omega)
      have hd2 : ¬ ((60000 : Int) < s.size + r.size) := by omega
      go_wp2_with fail
      go_ret2
      exact ⟨by rw [unhide HE]; rfl, hB2⟩
    · obtain ⟨e1, rfl⟩ := unhide HR2 (by omega)
      have HE := hide e1
      clear e1 HR1 HR2
      have hd : decide ((60000 : Int) < s.size + r.size) = true := decide_eq_true (by omega)
      have hd2 : ((60000 : Int) < s.size + r.size) := by omega
      go_wp2_with fail
      refine (unhide HL _).mono ?_
      rintro e w3 ⟨rfl, hb3⟩
      have hB3 := hB2.trans (hb3.mono hB2.size)
      clear hb3 hB2
      go_wp2_with fail
      go_ret2
      exact ⟨by rw [unhide HE]; rfl, hB3⟩
end Go.Proofs.YtikdkijggejnfaaGreatDoor
