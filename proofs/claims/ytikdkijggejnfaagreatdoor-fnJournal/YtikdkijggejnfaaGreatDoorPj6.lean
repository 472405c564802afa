/- Parts. -/
import Derived.Test.YtikdkijggejnfaaGreatDoorPj4
import Derived.Test.YtikdkijggejnfaaGreatDoorPj5
import Derived.Test.YtikdkijggejnfaaGreatDoorPj1
import Derived.BigQuiet
import Derived.Deep.DeepCutAuto
import Derived.Deep.AppendLies
namespace Go.Proofs.YtikdkijggejnfaaGreatDoor
open Go.RowKit
open Mth

set_option maxRecDepth 100000 in
set_option maxHeartbeats 2000000 in
theorem specPutMsg_no (m : Mg) (w : World) (hs : m.k.size ≤ maxLen) (h : mgOk m = false) : Calls Tryz.prog 50 #[mgv m] w fun e w' => e = .returned (.string ByteArray.empty) ∧ Below w.heap.size w w' := by
  have HO := hide (fun w1 => specMsgOk m w1 hs)
  rw [h] at HO
  clear h hs
  obtain ⟨K, F, T, I, L, k, N⟩ := m
  go_enter Tryz.func50, Tryz.ntmps50
  go_wp2_with fail
  refine (unhide HO _).mono ?_
  rintro e w1 ⟨rfl, hb1⟩
  have hB := (below_one w _).trans (hb1.mono (by simp))
  clear hb1
  go_wp2_with fail
  go_ret
  exact ⟨rfl, hB⟩

set_option maxRecDepth 100000 in
set_option maxHeartbeats 4000000 in
theorem specPutMsg_yes (m : Mg) (w : World) (hs : m.k.size ≤ maxLen) (h : mgOk m = true) : Calls Tryz.prog 50 #[mgv m] w fun e w' => e = .returned (.string (mgBytes m)) ∧ Below w.heap.size w w' := by
  have hK := kind_in h
  have HO := hide (fun w1 => specMsgOk m w1 hs)
  rw [h] at HO
  clear h hs
  obtain ⟨K, F, T, I, L, k, N⟩ := m
  obtain ⟨hK0, hK2⟩ := hK
  dsimp only at hK0 hK2
  have hw8 : IntKind.u8.wrap K = K := by
    have h3 : K = 0 ∨ K = 1 ∨ K = 2 := by omega
    rcases h3 with rfl | rfl | rfl <;> rfl
  show Calls Tryz.prog 50 #[mgv ⟨K, F, T, I, L, k, N⟩] w fun e w' => e = .returned (.string (kb K ++ putS F ++ putS T ++ putS I ++ putS L ++ putT k ++ putS N)) ∧ Below w.heap.size w w'
  have N1 := hide (fun w1 => specPutAny F w1)
  have N2 := hide (fun w1 => specPutAny T w1)
  have N3 := hide (fun w1 => specPutAny I w1)
  have N4 := hide (fun w1 => specPutAny L w1)
  have N5 := hide (fun w1 => specPutTAny k w1)
  have N6 := hide (fun w1 => specPutAny N w1)
  have s1 := putS_size F
  have s2 := putS_size T
  have s3 := putS_size I
  have s4 := putS_size L
  have s5 := putT_size k
  have s6 := putS_size N
  have s0 := kb_size K
  have HCV := hide (fun w1 g => conv_kind w1 g K ⟨hK0, hK2⟩)
  generalize putS F = bF at *
  generalize putS T = bT at *
  generalize putS I = bI at *
  generalize putS L = bL at *
  generalize putT k = bk at *
  generalize putS N = bN at *
  generalize kb K = bK at *
  have a1 := fun w1 => run_string_add_sum (P := Tryz.prog) w1 bK bF (by omega)
  have a2 := fun w1 => run_string_add_sum (P := Tryz.prog) w1 (bK ++ bF) bT (by rw [ByteArray.size_append]; omega)
  have a3 := fun w1 => run_string_add_sum (P := Tryz.prog) w1 (bK ++ bF ++ bT) bI (by simp only [ByteArray.size_append]; omega)
  have a4 := fun w1 => run_string_add_sum (P := Tryz.prog) w1 (bK ++ bF ++ bT ++ bI) bL (by simp only [ByteArray.size_append]; omega)
  have a5 := fun w1 => run_string_add_sum (P := Tryz.prog) w1 (bK ++ bF ++ bT ++ bI ++ bL) bk (by simp only [ByteArray.size_append]; omega)
  have a6 := fun w1 => run_string_add_sum (P := Tryz.prog) w1 (bK ++ bF ++ bT ++ bI ++ bL ++ bk) bN (by simp only [ByteArray.size_append]; omega)
  have HA := hide (And.intro a1 (And.intro a2 (And.intro a3 (And.intro a4 (And.intro a5 a6)))))
  clear s0 s1 s2 s3 s4 s5 s6 a1 a2 a3 a4 a5 a6 hK0 hK2
  go_enter Tryz.func50, Tryz.ntmps50
  go_wp2_with fail
  refine (unhide HO _).mono ?_
  rintro e w1 ⟨rfl, hb1⟩
  have hA := blk_step (heap_alloc_new w _) hb1
  have hB := (below_one w _).trans (hb1.mono (by simp))
  obtain ⟨c0, c1, c2, c3, c4, c5, c6⟩ := cells7 hA
  have hz := blk_lt hA
  clear hb1
  go_upto_region 3 with fail
  refine wp_at (fun V hV => ?_)
  have hblk : V.heap[w.heap.size]? = some (.cells #[.int .i64 K, .int .i64 F, .int .i64 T, .int .i64 I, .int .i64 L, .string k, .int .i64 N] 23 (0, 0)) := by rw [hV]; exact hA
  have HBV := hide (show Below w.heap.size w V by rw [hV]; exact hB)
  have hgV := blk_lt hblk
  obtain ⟨p0, p1, p2, p3, p4, p5, p6⟩ := cells7 hblk
  clear hV hblk hA hB c0 c1 c2 c3 c4 c5 c6 hz
  have y0 := cell_regrown p0
  have y1 := cell_regrown p1
  have y2 := cell_regrown p2
  have y3 := cell_regrown p3
  have y4 := cell_regrown p4
  have y5 := cell_regrown p5
  have y6 := cell_regrown p6
  clear p0 p1 p2 p3 p4 p5 p6
  refine wp_region_mix (by kernel_rfl) ?_
  show wpMix _ _ _ _ 30 (Array.replicate 30 false) _ _
  refine wpMix_take 0 rfl (by kernel_rfl) (by kernel_rfl) (by kernel_rfl) (fun _ _ _ _ h => h) (fun K hK => ?_)
  go_simp
  first
    | (refine hK _ ?_; clear hK K)
    | (apply Exists.intro
       refine ⟨fun _ => ?_, hK _ ?_⟩
       (fail)
       clear hK K)
  refine wpMix_take 1 rfl (by kernel_rfl) (by kernel_rfl) (by kernel_rfl) (fun _ _ _ _ h => h) (fun K hK => ?_)
  go_simp
  first
    | (refine hK _ ?_; clear hK K)
    | (apply Exists.intro
       refine ⟨fun _ => ?_, hK _ ?_⟩
       (fail)
       clear hK K)
  refine wpMix_take 2 rfl (by kernel_rfl) (by kernel_rfl) (by kernel_rfl) (fun _ _ _ _ h => h) (fun K hK => ?_)
  go_simp
  first
    | (refine hK _ ?_; clear hK K)
    | (apply Exists.intro
       refine ⟨fun _ => ?_, hK _ ?_⟩
       (fail)
       clear hK K)
  refine wpMix_take 5 rfl (by kernel_rfl) (by kernel_rfl) (by kernel_rfl) (fun _ _ _ _ h => h) (fun K hK => ?_)
  go_simp
  first
    | (refine hK _ ?_; clear hK K)
    | (apply Exists.intro
       refine ⟨fun _ => ?_, hK _ ?_⟩
       (fail)
       clear hK K)
  refine wpMix_take 6 rfl (by kernel_rfl) (by kernel_rfl) (by kernel_rfl) (fun _ _ _ _ h => h) (fun K hK => ?_)
  go_simp
  first
    | (refine hK _ ?_; clear hK K)
    | (apply Exists.intro
       refine ⟨fun _ => ?_, hK _ ?_⟩
       (fail)
       clear hK K)
  refine wpMix_take 7 rfl (by kernel_rfl) (by kernel_rfl) (by kernel_rfl) (fun _ _ _ _ h => h) (fun K hK => ?_)
  go_simp
  first
    | (refine hK _ ?_; clear hK K)
    | (apply Exists.intro
       refine ⟨fun _ => ?_, hK _ ?_⟩
       (exact unhide N1 _)
       clear hK K)
  refine wpMix_take 9 rfl (by kernel_rfl) (by kernel_rfl) (by kernel_rfl) (fun _ _ _ _ h => h) (fun K hK => ?_)
  go_simp
  first
    | (refine hK _ ?_; clear hK K)
    | (apply Exists.intro
       refine ⟨fun _ => ?_, hK _ ?_⟩
       (fail)
       clear hK K)
  refine wpMix_take 10 rfl (by kernel_rfl) (by kernel_rfl) (by kernel_rfl) (fun _ _ _ _ h => h) (fun K hK => ?_)
  go_simp
  first
    | (refine hK _ ?_; clear hK K)
    | (apply Exists.intro
       refine ⟨fun _ => ?_, hK _ ?_⟩
       (fail)
       clear hK K)
  refine wpMix_take 11 rfl (by kernel_rfl) (by kernel_rfl) (by kernel_rfl) (fun _ _ _ _ h => h) (fun K hK => ?_)
  go_simp
  first
    | (refine hK _ ?_; clear hK K)
    | (apply Exists.intro
       refine ⟨fun _ => ?_, hK _ ?_⟩
       (exact unhide N2 _)
       clear hK K)
  refine wpMix_take 13 rfl (by kernel_rfl) (by kernel_rfl) (by kernel_rfl) (fun _ _ _ _ h => h) (fun K hK => ?_)
  go_simp
  first
    | (refine hK _ ?_; clear hK K)
    | (apply Exists.intro
       refine ⟨fun _ => ?_, hK _ ?_⟩
       (fail)
       clear hK K)
  refine wpMix_take 14 rfl (by kernel_rfl) (by kernel_rfl) (by kernel_rfl) (fun _ _ _ _ h => h) (fun K hK => ?_)
  go_simp
  first
    | (refine hK _ ?_; clear hK K)
    | (apply Exists.intro
       refine ⟨fun _ => ?_, hK _ ?_⟩
       (fail)
       clear hK K)
  refine wpMix_take 15 rfl (by kernel_rfl) (by kernel_rfl) (by kernel_rfl) (fun _ _ _ _ h => h) (fun K hK => ?_)
  go_simp
  first
    | (refine hK _ ?_; clear hK K)
    | (apply Exists.intro
       refine ⟨fun _ => ?_, hK _ ?_⟩
       (exact unhide N3 _)
       clear hK K)
  refine wpMix_take 17 rfl (by kernel_rfl) (by kernel_rfl) (by kernel_rfl) (fun _ _ _ _ h => h) (fun K hK => ?_)
  go_simp
  first
    | (refine hK _ ?_; clear hK K)
    | (apply Exists.intro
       refine ⟨fun _ => ?_, hK _ ?_⟩
       (fail)
       clear hK K)
  refine wpMix_take 18 rfl (by kernel_rfl) (by kernel_rfl) (by kernel_rfl) (fun _ _ _ _ h => h) (fun K hK => ?_)
  go_simp
  first
    | (refine hK _ ?_; clear hK K)
    | (apply Exists.intro
       refine ⟨fun _ => ?_, hK _ ?_⟩
       (fail)
       clear hK K)
  refine wpMix_take 19 rfl (by kernel_rfl) (by kernel_rfl) (by kernel_rfl) (fun _ _ _ _ h => h) (fun K hK => ?_)
  go_simp
  first
    | (refine hK _ ?_; clear hK K)
    | (apply Exists.intro
       refine ⟨fun _ => ?_, hK _ ?_⟩
       (exact unhide N4 _)
       clear hK K)
  refine wpMix_take 21 rfl (by kernel_rfl) (by kernel_rfl) (by kernel_rfl) (fun _ _ _ _ h => h) (fun K hK => ?_)
  go_simp
  first
    | (refine hK _ ?_; clear hK K)
    | (apply Exists.intro
       refine ⟨fun _ => ?_, hK _ ?_⟩
       (fail)
       clear hK K)
  refine wpMix_take 22 rfl (by kernel_rfl) (by kernel_rfl) (by kernel_rfl) (fun _ _ _ _ h => h) (fun K hK => ?_)
  go_simp
  first
    | (refine hK _ ?_; clear hK K)
    | (apply Exists.intro
       refine ⟨fun _ => ?_, hK _ ?_⟩
       (fail)
       clear hK K)
  refine wpMix_take 23 rfl (by kernel_rfl) (by kernel_rfl) (by kernel_rfl) (fun _ _ _ _ h => h) (fun K hK => ?_)
  go_simp
  first
    | (refine hK _ ?_; clear hK K)
    | (apply Exists.intro
       refine ⟨fun _ => ?_, hK _ ?_⟩
       (exact unhide N5 _)
       clear hK K)
  refine wpMix_take 25 rfl (by kernel_rfl) (by kernel_rfl) (by kernel_rfl) (fun _ _ _ _ h => h) (fun K hK => ?_)
  go_simp
  first
    | (refine hK _ ?_; clear hK K)
    | (apply Exists.intro
       refine ⟨fun _ => ?_, hK _ ?_⟩
       (fail)
       clear hK K)
  refine wpMix_take 26 rfl (by kernel_rfl) (by kernel_rfl) (by kernel_rfl) (fun _ _ _ _ h => h) (fun K hK => ?_)
  go_simp
  first
    | (refine hK _ ?_; clear hK K)
    | (apply Exists.intro
       refine ⟨fun _ => ?_, hK _ ?_⟩
       (fail)
       clear hK K)
  refine wpMix_take 27 rfl (by kernel_rfl) (by kernel_rfl) (by kernel_rfl) (fun _ _ _ _ h => h) (fun K hK => ?_)
  go_simp
  first
    | (refine hK _ ?_; clear hK K)
    | (apply Exists.intro
       refine ⟨fun _ => ?_, hK _ ?_⟩
       (exact unhide N6 _)
       clear hK K)
  clear y0 y1 y2 y3 y4 y5 y6 N1 N2 N3 N4 N5 N6
  refine wpMix_one 3 rfl (by kernel_rfl) (by rfl) (fun x hx => ?_)
  go_simp
  refine ⟨below_one x _, ?_⟩
  have HBX := hide (Ge.trans (Ge.trans (unhide HBV) hx) (below_one x (.cells #[.int .u8 K] 5)))
  have hcx : (x.alloc (.cells #[.int .u8 K] 5)).cell? ⟨x.heap.size, 0, none⟩ = some (.int .u8 K) := by simp
  have hcv := fun d os => unhide HCV (Sort.grow (redrawn (x.alloc (.cells #[.int .u8 K] 5)) d) os) x.heap.size (cell_regrown hcx d os)
  obtain ⟨a1, a2, a3, a4, a5, a6⟩ := unhide HA
  clear hx HBV HCV HA hcx
  generalize hy : x.alloc (.cells #[.int .u8 K] 5) = y at *
  refine wpMix_take 4 rfl (by kernel_rfl) (by kernel_rfl) (by kernel_rfl) (fun _ _ _ _ h => h) (fun K hK => ?_)
  go_simp
  first
    | (refine hK _ ?_; clear hK K)
    | (apply Exists.intro
       refine ⟨fun _ => ?_, hK _ ?_⟩
       (fail)
       clear hK K)
  refine wpMix_take 8 rfl (by kernel_rfl) (by kernel_rfl) (by kernel_rfl) (fun _ _ _ _ h => h) (fun K hK => ?_)
  go_simp
  first
    | (refine hK _ ?_; clear hK K)
    | (apply Exists.intro
       refine ⟨fun _ => ?_, hK _ ?_⟩
       (fail)
       clear hK K)
  refine wpMix_take 12 rfl (by kernel_rfl) (by kernel_rfl) (by kernel_rfl) (fun _ _ _ _ h => h) (fun K hK => ?_)
  go_simp
  first
    | (refine hK _ ?_; clear hK K)
    | (apply Exists.intro
       refine ⟨fun _ => ?_, hK _ ?_⟩
       (fail)
       clear hK K)
  refine wpMix_take 16 rfl (by kernel_rfl) (by kernel_rfl) (by kernel_rfl) (fun _ _ _ _ h => h) (fun K hK => ?_)
  go_simp
  first
    | (refine hK _ ?_; clear hK K)
    | (apply Exists.intro
       refine ⟨fun _ => ?_, hK _ ?_⟩
       (fail)
       clear hK K)
  refine wpMix_take 20 rfl (by kernel_rfl) (by kernel_rfl) (by kernel_rfl) (fun _ _ _ _ h => h) (fun K hK => ?_)
  go_simp
  first
    | (refine hK _ ?_; clear hK K)
    | (apply Exists.intro
       refine ⟨fun _ => ?_, hK _ ?_⟩
       (fail)
       clear hK K)
  refine wpMix_take 24 rfl (by kernel_rfl) (by kernel_rfl) (by kernel_rfl) (fun _ _ _ _ h => h) (fun K hK => ?_)
  go_simp
  first
    | (refine hK _ ?_; clear hK K)
    | (apply Exists.intro
       refine ⟨fun _ => ?_, hK _ ?_⟩
       (fail)
       clear hK K)
  refine wpMix_take 28 rfl (by kernel_rfl) (by kernel_rfl) (by kernel_rfl) (fun _ _ _ _ h => h) (fun K hK => ?_)
  go_simp
  first
    | (refine hK _ ?_; clear hK K)
    | (apply Exists.intro
       refine ⟨fun _ => ?_, hK _ ?_⟩
       (fail)
       clear hK K)
  refine wpMix_take 29 rfl (by kernel_rfl) (by kernel_rfl) (by kernel_rfl) (fun _ _ _ _ h => h) (fun K hK => ?_)
  go_simp
  first
    | (refine hK _ ?_; clear hK K)
    | (apply Exists.intro
       refine ⟨fun _ => ?_, hK _ ?_⟩
       (fail)
       clear hK K)
  refine wpMix_done (by kernel_rfl) (fun z hz => ?_)
  have HBZ := hide (Ge.trans (unhide HBX) hz)
  clear hz HBX hcv a1 a2 a3 a4 a5 a6
  go_simp
  go_wp2_with fail
  go_ret
  exact ⟨rfl, unhide HBZ⟩

theorem specPutMsg (m : Mg) (w : World) (hs : m.k.size ≤ maxLen) : Calls Tryz.prog 50 #[mgv m] w fun e w' => e = .returned (.string (putMsg m)) ∧ Below w.heap.size w w' := by
  cases h : mgOk m
  · rw [putMsg_no h]; exact specPutMsg_no m w hs h
  · rw [putMsg_yes h]; exact specPutMsg_yes m w hs h


set_option maxRecDepth 100000 in
set_option maxHeartbeats 400000 in
theorem implCheckSum (s : ByteArray) (w : World) (hs : s.size ≤ maxLen) :
    Calls Tryz.prog 102 #[.string s] w fun e w' => e = .returned (.int .u32 (65536 * (Mth.sums s.data.toList).2 + (Mth.sums s.data.toList).1)) ∧ w = w' := by
  unfold maxLen at hs
  go_enter Tryz.func102, Tryz.ntmps102
  go_wp2
  go_loop [3, 4, 8] (fun a b i => ∃ k : Nat, k ≤ s.size ∧ i = .int .i64 k ∧ a = .int .u32 (Mth.sums (s.data.toList.take k)).1 ∧ b = .int .u32 (Mth.sums (s.data.toList.take k)).2) (fun _ _ i => s.size - (intOf i).toNat)
  case atStart => exact ⟨0, Nat.zero_le _, rfl, rfl, rfl⟩
  case round =>
    obtain ⟨k, hk, rfl, rfl, rfl⟩ := hrel
    have hb := Mth.sums_lt (s.data.toList.take k)
    by_cases hlt : k < s.size
    · have HS : Hid (Mth.sums (s.data.toList.take (k + 1)) = Mth.sumStep (Mth.sums (s.data.toList.take k)) s[k]) := by rw [Mth.take_snoc s k hlt]; exact Mth.sums_snoc _ _
      have hc : s[k].toNat < 256 := s[k].toNat_lt
      go_wp2
      go_round
      case rel => exact ⟨k + 1, by omega, by go_num, by rw [HS.out]; simp [Mth.sumStep], by rw [HS.out]; simp [Mth.sumStep]⟩
      case measure => simp [intOf]; omega
    · rw [Mth.take_all s k hlt]
      rw [Mth.take_all s k hlt] at hb
      go_wp2
      go_ret
      exact ⟨ret_int (by omega), rfl⟩

set_option maxRecDepth 100000 in
set_option maxHeartbeats 400000 in
theorem specCheckSum (s : ByteArray) (w : World) (hs : s.size ≤ maxLen) :
    Calls Tryz.prog 39 #[.string s] w fun e w' => e = .returned (.int .u32 (65536 * (Mth.sums s.data.toList).2 + (Mth.sums s.data.toList).1)) ∧ w = w' := by
  unfold maxLen at hs
  go_enter Tryz.func39, Tryz.ntmps39
  go_wp2
  go_loop [3, 4, 5] (fun a b i => ∃ k : Nat, k ≤ s.size ∧ i = .int .i64 k ∧ a = .int .i64 (Mth.sums (s.data.toList.take k)).1 ∧ b = .int .i64 (Mth.sums (s.data.toList.take k)).2) (fun _ _ i => s.size - (intOf i).toNat)
  case atStart => exact ⟨0, Nat.zero_le _, rfl, rfl, rfl⟩
  case round =>
    obtain ⟨k, hk, rfl, rfl, rfl⟩ := hrel
    have hb := Mth.sums_lt (s.data.toList.take k)
    by_cases hlt : k < s.size
    · have HS : Hid (Mth.sums (s.data.toList.take (k + 1)) = Mth.sumStep (Mth.sums (s.data.toList.take k)) s[k]) := by rw [Mth.take_snoc s k hlt]; exact Mth.sums_snoc _ _
      have hc : s[k].toNat < 256 := s[k].toNat_lt
      go_wp2
      go_round
      case rel => exact ⟨k + 1, by omega, by go_num, by rw [HS.out]; simp [Mth.sumStep], by rw [HS.out]; simp [Mth.sumStep]⟩
      case measure => simp [intOf]; omega
    · rw [Mth.take_all s k hlt]
      rw [Mth.take_all s k hlt] at hb
      go_wp2
      go_ret
      exact ⟨ret_int (by omega), rfl⟩

def sumN (s : ByteArray) : Nat := 65536 * (sums s.data.toList).2 + (sums s.data.toList).1
theorem sumN_lt (s : ByteArray) : sumN s < 4294967296 := by
  have := sums_lt s.data.toList
  unfold sumN
  omega
/-- The four bytes of a number below 2^32. -/
def four (n : Nat) : List UInt8 := [UInt8.ofNat (n / 16777216), UInt8.ofNat (n / 65536 % 256), UInt8.ofNat (n / 256 % 256), UInt8.ofNat (n % 256)]
def wordB (n : Nat) : ByteArray := ⟨(four n).toArray⟩
theorem wordB_size (n : Nat) : (wordB n).size = 4 := rfl
theorem conv_four (w : World) (g n cap : Nat) (h : n < 4294967296) (c0 : w.cell? ⟨g, 0, none⟩ = some (.int .u8 ((n : Int) / 16777216))) (c1 : w.cell? ⟨g, 1, none⟩ = some (.int .u8 ((n : Int) / 65536 % 256)))
    (c2 : w.cell? ⟨g, 2, none⟩ = some (.int .u8 ((n : Int) / 256 % 256))) (c3 : w.cell? ⟨g, 3, none⟩ = some (.int .u8 ((n : Int) % 256))) :
    (convert 30 9 (.slice (some ⟨g, 0, none⟩) 4 cap)).run Tryz.prog w = .ok (.string (wordB n)) w := by
  refine run_convert_bytes_back (P := Tryz.prog) w 30 9 5 ⟨g, 0, none⟩ cap (four n) Tryz.underlying30 Tryz.underlying5 Tryz.underlying9 ?_
  intro j hj
  have hj4 : j < 4 := hj
  have hcase : j = 0 ∨ j = 1 ∨ j = 2 ∨ j = 3 := by omega
  rcases hcase with rfl | rfl | rfl | rfl
  · show w.cell? ⟨g, 0, none⟩ = _
    rw [c0]; simp only [four, List.getElem_cons_zero]; rw [toNat_byte _ (by omega)]; rfl
  · show w.cell? ⟨g, 1, none⟩ = _
    rw [c1]; simp only [four, List.getElem_cons_succ, List.getElem_cons_zero]; rw [toNat_byte _ (by omega)]; rfl
  · show w.cell? ⟨g, 2, none⟩ = _
    rw [c2]; simp only [four, List.getElem_cons_succ, List.getElem_cons_zero]; rw [toNat_byte _ (by omega)]; rfl
  · show w.cell? ⟨g, 3, none⟩ = _
    rw [c3]; simp only [four, List.getElem_cons_succ, List.getElem_cons_zero]; rw [toNat_byte _ (by omega)]; rfl

set_option maxRecDepth 100000 in
set_option maxHeartbeats 2000000 in
theorem l04Word (n : Nat) (h : n < 4294967296) (w : World) : Calls Tryz.prog 38 #[.int .u32 n] w fun e w' => e = .returned (.string (wordB n)) ∧ Below w.heap.size w w' := by
  have hcv := conv_four (w.alloc (.cells #[.int .u8 ((n : Int) / 16777216), .int .u8 ((n : Int) / 65536 % 256), .int .u8 ((n : Int) / 256 % 256), .int .u8 ((n : Int) % 256)] 5)) w.heap.size n 4 h (by simp) (by simp) (by simp) (by simp)
  go_enter Tryz.func38, Tryz.ntmps38
  go_wp2_with fail
  go_ret
  exact ⟨rfl, below_one w _⟩

set_option maxRecDepth 100000 in
set_option maxHeartbeats 2000000 in
theorem sumBytes (s : ByteArray) (hs : s.size ≤ maxLen) (w : World) : Calls Tryz.prog 82 #[.string s] w fun e w' => ∃ g, e = .returned (.slice (some ⟨g, 0, none⟩) 4 4) ∧ w.heap.size ≤ g ∧ w'.heap[g]? = some (.cells #[.int .u8 ((sumN s : Int) / 16777216), .int .u8 ((sumN s : Int) / 65536 % 256), .int .u8 ((sumN s : Int) / 256 % 256), .int .u8 ((sumN s : Int) % 256)] 5 (0, 0)) ∧ Below w.heap.size w w' := by
  have hn := sumN_lt s
  have HC := hide (fun w1 => implCheckSum s w1 hs)
  have e : (65536 * (sums s.data.toList).2 + (sums s.data.toList).1 : Int) = (sumN s : Int) := by unfold sumN; omega
  rw [e] at HC
  clear e hs
  generalize sumN s = n at *
  go_enter Tryz.func82, Tryz.ntmps82
  go_wp2_with fail
  refine (unhide HC _).mono ?_
  rintro e w1 ⟨rfl, rfl⟩
  go_wp2_with fail
  go_ret
  exact ⟨w.heap.size, rfl, Nat.le_refl _, heap_alloc_new w _, below_one w _⟩

def frameT (s : ByteArray) : ByteArray := wordB (sumN s) ++ putT s
theorem mgBytes_pos (m : Mg) : 0 < (mgBytes m).size := by
  unfold mgBytes
  simp only [ByteArray.size_append, kb_size]
  omega

def restOf (s : ByteArray) : ByteArray := s.extract 4 (min s.size 1006)
def unT (s : ByteArray) : ByteArray := rtS (restOf s) 0
def unZ (s : ByteArray) : Int := rtE (restOf s) 0
theorem rest_size (s : ByteArray) : (restOf s).size = min s.size 1006 - 4 := by
  unfold restOf
  rw [ByteArray.size_extract]
  omega
theorem put_two (n : Nat) (h : n ≤ 1000) : (Mth.put n).length ≤ 2 := by
  unfold Mth.put
  by_cases h1 : n ≤ 127
  · rw [putF_small _ _ h1]; simp
  · rw [putF_great _ _ h1, putF_small _ _ (by omega)]; simp
theorem putT_two (s : ByteArray) : (putT s).size ≤ 1002 := by
  unfold putT
  split
  · rename_i h
    unfold putText
    have := put_two s.size h
    rw [size_of_list, List.length_append, size_toList]
    omega
  · decide
theorem rtS_size (s : ByteArray) (i : Int) : (rtS s i).size ≤ 1000 := by
  by_cases h : 0 ≤ rtE s i
  · exact (text_piece h).2.2.2.1
  · unfold rtE at h
    unfold rtS
    cases hG : textOf s i.toNat (getAt s i) with
    | none => simp [txtS]
    | some p => rw [hG] at h; exact absurd (by simp [txtE]) h
theorem rtE_le (s : ByteArray) (i : Int) : rtE s i ≤ s.size := by
  by_cases h : 0 ≤ rtE s i
  · exact (text_piece h).2.2.1
  · omega

/-- The place ahead of the j-th number. -/
def posN (s : ByteArray) : Nat → Int
  | 0 => 1
  | j + 1 => rdE s (posN s j)
def numsL (s : ByteArray) (j : Nat) : List Value := (List.range j).map fun i => .int .i64 (rdN s (posN s i))
theorem numsL_succ (s : ByteArray) (j : Nat) : numsL s (j + 1) = numsL s j ++ [.int .i64 (rdN s (posN s j))] := by unfold numsL; rw [List.range_succ, List.map_append]; rfl
theorem infoInt : (Tryz.prog.info? 3).map (fun i => (i.zero, i.size, i.bytes)) = some (some (.int .i64 0), 1, 8) := by kernel_rfl
theorem own_below {w w' : World} {base size n : Nat} {e : TypeId} {v : Value} {xs : List Value} (h : w.ownsRow base e size v n xs) (hb : Below w.heap.size w w') : w'.ownsRow base e size v n xs := by
  refine h.kept (row := none) ⟨hb.os, hb.tape, hb.output, hb.size, fun k hk _ => hb.block k hk⟩ ?_
  cases hv : v.ownBlock with
  | none => exact .inl rfl
  | some k => right; simp
theorem specRd (s : ByteArray) (i : Int) (hs : s.size ≤ maxLen) (w : World) : Calls Tryz.prog 46 #[.string s, .int .i64 i] w fun e w' => e = .returned (.tuple #[.int .i64 (rdN s i), .int .i64 (rdE s i)]) ∧ Below w.heap.size w w' := by
  have h := specGetNumI s i w hs
  rw [getRes_two] at h
  exact h
theorem specRt (s : ByteArray) (i : Int) (hs : s.size ≤ maxLen) (w : World) : Calls Tryz.prog 37 #[.string s, .int .i64 i] w fun e w' => e = .returned (.tuple #[.string (rtS s i), .int .i64 (rtE s i)]) ∧ Below w.heap.size w w' := by
  have h := specGetText s i w hs
  rw [textRes_two] at h
  exact h

set_option maxRecDepth 100000 in
set_option maxHeartbeats 2000000 in
theorem l04Nums (s : ByteArray) (hs : s.size ≤ maxLen) (w : World) : Calls Tryz.prog 71 #[.string s, .int .i64 1, .int .i64 4] w fun e w' =>
    ∃ g cap, e = .returned (.tuple #[.slice (some ⟨g, 0, none⟩) 4 cap, .int .i64 (posN s 4)]) ∧ g < w'.heap.size ∧ (w'.cell? ⟨g, 0, none⟩ = some (.int .i64 (rdN s (posN s 0))) ∧ w'.cell? ⟨g, 1, none⟩ = some (.int .i64 (rdN s (posN s 1))) ∧ w'.cell? ⟨g, 2, none⟩ = some (.int .i64 (rdN s (posN s 2))) ∧ w'.cell? ⟨g, 3, none⟩ = some (.int .i64 (rdN s (posN s 3)))) ∧ Below w.heap.size w w' := by
  obtain ⟨i0, hi, hz0, hz1, hz2⟩ := info_parts infoInt
  have HG := hide (fun i w1 => specRd s i hs w1)
  clear hs
  go_enter Tryz.func71, Tryz.ntmps71
  go_wp2_with fail
  go_loopw [8, 9, 10] (fun v a k wr => ∃ j, j ≤ 4 ∧ k = .int .i64 (j : Nat) ∧ a = .int .i64 (posN s j) ∧ wr.ownsRow w.heap.size 3 1 v j (numsL s j) ∧ Below w.heap.size w wr) (fun _ _ k _ => 4 - (intOf k).toNat)
  case atStart => exact ⟨0, by omega, rfl, rfl, World.ownsRow_lit _ #[] 0 (Nat.le_refl _) (by decide) rfl, (Below.refl _ _).alloc (Nat.le_refl _) _⟩
  case round =>
    obtain ⟨j, hj, rfl, rfl, hown, hbel⟩ := hrel
    by_cases hlt : j < 4
    · have HN := hide (numsL_succ s j)
      have HP := hide (show posN s (j + 1) = rdE s (posN s j) from rfl)
      have hg := fun w1 => unhide HG (posN s j) w1
      generalize rdN s (posN s j) = x at *
      generalize rdE s (posN s j) = a' at *
      generalize posN s j = a at *
      have HGA := hide hg
      clear hg
      go_wp2_with fail
      refine (unhide HGA _).mono ?_
      rintro e w5 ⟨rfl, hb5⟩
      have hown5 := own_below hown hb5
      have hbel5 := hbel.trans (hb5.mono hbel.size)
      clear hb5 hown hbel
      go_wp2_with (at_builtin; refine wpList_append_own _ rfl _ _ 47 rfl w.heap.size 3 i0 (.int .i64 0) 1 8 Tryz.underlying47 hi hz0 hz1 hz2 rfl (by decide) _ _ _ rfl (hown5.alloc _) ⟨w5.heap.size, 0, none⟩ 1 1 [.int .i64 x] rfl rfl ?c1 ?c2 ?c3 ?c4 ?c5 ?_)
      case c1 => exact cell_one_new _ _ _
      case c2 => intro u hu; simp at hu; subst hu; rfl
      case c3 => unfold maxLen; omega
      case c4 => omega
      case c5 => have := hbel5.size; simp; omega
      intro v' w6 hown' hgrow _
      have hbel' := below_append hbel5 hown5 hgrow
      rw [← unhide HN] at hown'
      clear hgrow hown5 hbel5 HN
      go_wp2_with fail
      go_roundw
      case rel => exact ⟨j + 1, by omega, by go_num, by rw [unhide HP], hown', hbel'⟩
      case measure => simp [intOf]; omega
    · obtain rfl : j = 4 := by omega
      obtain ⟨g, cap, rfl, _, _⟩ := World.ownsRow.form hown (by omega)
      have hc := hide (hown.cells (g := g) rfl)
      have hlt := (hown.lt g rfl).2
      have HB := hide hbel
      clear hown hbel
      go_wp2_with fail
      exact bodyPost_ret (v := .tuple #[.slice (some ⟨g, 0, none⟩) 4 cap, .int .i64 (posN s 4)]) (by simp [results, Tryz.results71, go_sem]) rfl ⟨g, cap, rfl, hlt, ⟨unhide hc 0 _ rfl, unhide hc 1 _ rfl, unhide hc 2 _ rfl, unhide hc 3 _ rfl⟩, unhide HB⟩

theorem as_want_want (v : Value) (w : World) : (Instr.typeAssert (.iface 131 v) 110 131 true).run Tryz.prog w = .ok (.tuple #[v, .bool true]) w := by kernel_rfl
theorem as_pay_want (v : Value) (w : World) : (Instr.typeAssert (.iface 133 v) 110 131 true).run Tryz.prog w = .ok (.tuple #[.agg #[.int .i64 0, .int .i64 0, .string ⟨#[]⟩, .int .i64 0], .bool false]) w := by kernel_rfl
theorem as_pay_pay (v : Value) (w : World) : (Instr.typeAssert (.iface 133 v) 110 133 true).run Tryz.prog w = .ok (.tuple #[v, .bool true]) w := by kernel_rfl
theorem as_ack_want (v : Value) (w : World) : (Instr.typeAssert (.iface 135 v) 110 131 true).run Tryz.prog w = .ok (.tuple #[.agg #[.int .i64 0, .int .i64 0, .string ⟨#[]⟩, .int .i64 0], .bool false]) w := by kernel_rfl
theorem as_ack_pay (v : Value) (w : World) : (Instr.typeAssert (.iface 135 v) 110 133 true).run Tryz.prog w = .ok (.tuple #[.agg #[.int .i64 0, .int .i64 0, .int .i64 0, .int .i64 0, .string ⟨#[]⟩, .int .i64 0], .bool false]) w := by kernel_rfl
theorem as_ack_ack (v : Value) (w : World) : (Instr.typeAssert (.iface 135 v) 110 135 true).run Tryz.prog w = .ok (.tuple #[v, .bool true]) w := by kernel_rfl
set_option maxRecDepth 100000 in
set_option maxHeartbeats 2000000 in
theorem msgOf_want (F T : Int) (k : ByteArray) (N : Int) (w : World) : Calls Tryz.prog 110 #[.iface 131 (.agg #[.int .i64 F, .int .i64 T, .string k, .int .i64 N])] w fun e w' => e = .returned (mgv ⟨0, F, T, 0, 0, k, N⟩) ∧ Below w.heap.size w w' := by
  have f0 := as_want_want (.agg #[.int .i64 F, .int .i64 T, .string k, .int .i64 N])
  go_enter Tryz.func110, Tryz.ntmps110
  go_wp2_with fail
  refine bodyPost_ret (v := .agg #[.int .i64 0, .int .i64 F, .int .i64 T, .int .i64 0, .int .i64 0, .string k, .int .i64 N]) (by simp [results, Tryz.results110, go_sem]; try rfl) rfl ⟨rfl, ?_⟩
  exact ((Below.refl _ _).alloc (Nat.le_refl _) _).alloc (by simp) _

set_option maxRecDepth 100000 in
set_option maxHeartbeats 2000000 in
theorem msgOf_pay (F T I L : Int) (k : ByteArray) (N : Int) (w : World) : Calls Tryz.prog 110 #[.iface 133 (.agg #[.int .i64 F, .int .i64 T, .int .i64 I, .int .i64 L, .string k, .int .i64 N])] w fun e w' => e = .returned (mgv ⟨1, F, T, I, L, k, N⟩) ∧ Below w.heap.size w w' := by
  have f0 := as_pay_want (.agg #[.int .i64 F, .int .i64 T, .int .i64 I, .int .i64 L, .string k, .int .i64 N])
  have f1 := as_pay_pay (.agg #[.int .i64 F, .int .i64 T, .int .i64 I, .int .i64 L, .string k, .int .i64 N])
  go_enter Tryz.func110, Tryz.ntmps110
  go_wp2_with fail
  refine bodyPost_ret (v := .agg #[.int .i64 1, .int .i64 F, .int .i64 T, .int .i64 I, .int .i64 L, .string k, .int .i64 N]) (by simp [results, Tryz.results110, go_sem]; try rfl) rfl ⟨rfl, ?_⟩
  exact ((Below.refl _ _).alloc (Nat.le_refl _) _).alloc (by simp) _

set_option maxRecDepth 100000 in
set_option maxHeartbeats 2000000 in
theorem msgOf_ack (F T I : Int) (w : World) : Calls Tryz.prog 110 #[.iface 135 (.agg #[.int .i64 F, .int .i64 T, .int .i64 I])] w fun e w' => e = .returned (mgv ⟨2, F, T, I, 0, ByteArray.empty, 0⟩) ∧ Below w.heap.size w w' := by
  have f0 := as_ack_want (.agg #[.int .i64 F, .int .i64 T, .int .i64 I])
  have f1 := as_ack_pay (.agg #[.int .i64 F, .int .i64 T, .int .i64 I])
  have f2 := as_ack_ack (.agg #[.int .i64 F, .int .i64 T, .int .i64 I])
  go_enter Tryz.func110, Tryz.ntmps110
  go_wp2_with fail
  refine bodyPost_ret (v := .agg #[.int .i64 2, .int .i64 F, .int .i64 T, .int .i64 I, .int .i64 0, .string ByteArray.empty, .int .i64 0]) (by simp [results, Tryz.results110, go_sem]; try rfl) rfl ⟨rfl, ?_⟩
  exact ((Below.refl _ _).alloc (Nat.le_refl _) _).alloc (by simp) _

end Go.Proofs.YtikdkijggejnfaaGreatDoor
