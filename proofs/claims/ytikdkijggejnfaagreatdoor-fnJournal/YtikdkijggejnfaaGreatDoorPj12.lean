/- Parts. -/
import Derived.Test.YtikdkijggejnfaaGreatDoorPj10
import Derived.Test.YtikdkijggejnfaaGreatDoorPj11
import Derived.Test.YtikdkijggejnfaaGreatDoorPj6
import Derived.Test.YtikdkijggejnfaaGreatDoorPj1
import Derived.Test.YtikdkijggejnfaaGreatDoorPj4
import Derived.Lib.ItoaNum
import Derived.Lib.ItoaLen
import Derived.Laws.DeepStrings4
import Derived.Lib.Join
namespace Go.Proofs.YtikdkijggejnfaaGreatDoor
open Go.RowKit
open Mth

set_option maxRecDepth 100000 in
theorem specOpOkW (o : Op5) (w : World) (hs : o.k.size ≤ maxLen) (hm : o.m.k.size ≤ maxLen) : Calls Tryz.prog 18 #[opw o] w fun e w' => e = .returned (.bool (opOk o)) ∧ Below w.heap.size w w' := by
  have HO := hide (fun w1 => specOpOk o w1 hs hm)
  generalize opOk o = r at *
  obtain ⟨K, no, k, n, ⟨mK, mF, mT, mI, mL, mk, mN⟩⟩ := o
  go_enter Tryz.func18, Tryz.ntmps18
  go_wp2_with fail
  refine (unhide HO _).mono ?_
  rintro e w1 ⟨rfl, hb1⟩
  have hB := (below_one w _).trans (hb1.mono (by simp))
  clear hb1 HO
  go_wp2_with fail
  go_ret
  exact ⟨rfl, hB⟩
set_option maxRecDepth 100000 in
set_option maxHeartbeats 2000000 in
theorem specPutOp_no (o : Op5) (w : World) (hs : o.k.size ≤ maxLen) (hm : o.m.k.size ≤ maxLen) (h : opOk o = false) : Calls Tryz.prog 16 #[opw o] w fun e w' => e = .returned (.string ByteArray.empty) ∧ Below w.heap.size w w' := by
  have HO := hide (fun w1 => specOpOkW o w1 hs hm)
  rw [h] at HO
  clear h hs hm
  obtain ⟨K, no, k, n, ⟨mK, mF, mT, mI, mL, mk, mN⟩⟩ := o
  go_enter Tryz.func16, Tryz.ntmps16
  go_wp2_with fail
  refine (unhide HO _).mono ?_
  rintro e w1 ⟨rfl, hb1⟩
  have hB := (below_one w _).trans (hb1.mono (by simp))
  clear hb1
  go_wp2_with fail
  go_ret
  exact ⟨rfl, hB⟩

set_option maxRecDepth 100000 in
set_option maxHeartbeats 4000000 in
theorem specPutOp_yes (o : Op5) (w : World) (hs : o.k.size ≤ maxLen) (hm : o.m.k.size ≤ maxLen) (h : opOk o = true) : Calls Tryz.prog 16 #[opw o] w fun e w' => e = .returned (.string (opBytes o)) ∧ Below w.heap.size w w' := by
  have hK := opKind_in h
  have HO := hide (fun w1 => specOpOkW o w1 hs hm)
  have NM := hide (fun w1 => specPutMsg o.m w1 hm)
  rw [h] at HO
  clear h hs hm
  obtain ⟨K, no, k, n, m⟩ := o
  obtain ⟨hK0, hK6⟩ := hK
  dsimp only at hK0 hK6 NM
  have hw8 := wrap_kind6 K hK0 hK6
  show Calls Tryz.prog 16 #[opw ⟨K, no, k, n, m⟩] w fun e w' => e = .returned (.string (kb K ++ putS no ++ putT k ++ putS n ++ putT (putMsg m))) ∧ Below w.heap.size w w'
  have N1 := hide (fun w1 => specPutAny no w1)
  have N2 := hide (fun w1 => specPutTAny k w1)
  have N3 := hide (fun w1 => specPutAny n w1)
  have N4 := hide (fun w1 => specPutTAny (putMsg m) w1)
  have s1 := putS_size no
  have s2 := putT_size k
  have s3 := putS_size n
  have s4 := putT_size (putMsg m)
  have s0 := kb_size K
  have HCV := hide (fun w1 g => conv_kind6 w1 g K ⟨hK0, hK6⟩)
  generalize putS no = b1 at *
  generalize putT k = b2 at *
  generalize putS n = b3 at *
  generalize putT (putMsg m) = b4 at *
  generalize putMsg m = bM at *
  generalize kb K = bK at *
  obtain ⟨mK, mF, mT, mI, mL, mk, mN⟩ := m
  have a1 := fun w1 => run_string_add_sum (P := Tryz.prog) w1 bK b1 (by omega)
  have a2 := fun w1 => run_string_add_sum (P := Tryz.prog) w1 (bK ++ b1) b2 (by simp only [ByteArray.size_append]; omega)
  have a3 := fun w1 => run_string_add_sum (P := Tryz.prog) w1 (bK ++ b1 ++ b2) b3 (by simp only [ByteArray.size_append]; omega)
  have a4 := fun w1 => run_string_add_sum (P := Tryz.prog) w1 (bK ++ b1 ++ b2 ++ b3) b4 (by simp only [ByteArray.size_append]; omega)
  have HA := hide (And.intro a1 (And.intro a2 (And.intro a3 a4)))
  clear s0 s1 s2 s3 s4 a1 a2 a3 a4 hK0 hK6
  go_enter Tryz.func16, Tryz.ntmps16
  go_wp2_with fail
  refine (unhide HO _).mono ?_
  rintro e w1 ⟨rfl, hb1⟩
  have hA := blk_step (heap_alloc_new w _) hb1
  have hB := (below_one w _).trans (hb1.mono (by simp))
  obtain ⟨c0, c1, c2, c3, c4, c5, c6, c7, c8, c9, c10⟩ := elevenP hA
  have hz := blk_lt hA
  clear hb1
  go_upto_region 3 with fail
  refine wp_at (fun V hV => ?_)
  have hblk : V.heap[w.heap.size]? = some (.cells #[.int .i64 K, .int .i64 no, .string k, .int .i64 n, .int .i64 mK, .int .i64 mF, .int .i64 mT, .int .i64 mI, .int .i64 mL, .string mk, .int .i64 mN] 25 (0, 0)) := by rw [hV]; exact hA
  have HBV := hide (show Below w.heap.size w V by rw [hV]; exact hB)
  have hgV := blk_lt hblk
  obtain ⟨p0, p1, p2, p3, p4, p5, p6, p7, p8, p9, p10⟩ := elevenP hblk
  clear hV hblk hA hB c0 c1 c2 c3 c4 c5 c6 c7 c8 c9 c10 hz
  have y0 := cell_regrown p0
  have y1 := cell_regrown p1
  have y2 := cell_regrown p2
  have y3 := cell_regrown p3
  have y4 := cell_regrown p4
  have y5 := cell_regrown p5
  have y6 := cell_regrown p6
  have y7 := cell_regrown p7
  have y8 := cell_regrown p8
  have y9 := cell_regrown p9
  have y10 := cell_regrown p10
  clear p0 p1 p2 p3 p4 p5 p6 p7 p8 p9 p10
  refine wp_region_mix (by kernel_rfl) ?_
  show wpMix _ _ _ _ 23 (Array.replicate 23 false) _ _
  refine wpMix_take 0 rfl (by kernel_rfl) (by kernel_rfl) (by kernel_rfl) (fun _ _ _ _ h => h) (fun K hK => ?_)
  go_simp
  first
    | (refine hK _ ?_; clear hK K)
    | (apply Exists.intro
       refine ⟨fun _ => ?_, hK _ ?_⟩
       (fail)
       clear hK K)
  refine wpMix_take 1 rfl (by kernel_rfl) (by kernel_rfl) (by kernel_rfl) (fun _ _ _ _ h => h) (fun K hK => ?_)
  go_simp
  first
    | (refine hK _ ?_; clear hK K)
    | (apply Exists.intro
       refine ⟨fun _ => ?_, hK _ ?_⟩
       (fail)
       clear hK K)
  refine wpMix_take 2 rfl (by kernel_rfl) (by kernel_rfl) (by kernel_rfl) (fun _ _ _ _ h => h) (fun K hK => ?_)
  go_simp
  first
    | (refine hK _ ?_; clear hK K)
    | (apply Exists.intro
       refine ⟨fun _ => ?_, hK _ ?_⟩
       (fail)
       clear hK K)
  refine wpMix_take 5 rfl (by kernel_rfl) (by kernel_rfl) (by kernel_rfl) (fun _ _ _ _ h => h) (fun K hK => ?_)
  go_simp
  first
    | (refine hK _ ?_; clear hK K)
    | (apply Exists.intro
       refine ⟨fun _ => ?_, hK _ ?_⟩
       (fail)
       clear hK K)
  refine wpMix_take 6 rfl (by kernel_rfl) (by kernel_rfl) (by kernel_rfl) (fun _ _ _ _ h => h) (fun K hK => ?_)
  go_simp
  first
    | (refine hK _ ?_; clear hK K)
    | (apply Exists.intro
       refine ⟨fun _ => ?_, hK _ ?_⟩
       (fail)
       clear hK K)
  refine wpMix_take 7 rfl (by kernel_rfl) (by kernel_rfl) (by kernel_rfl) (fun _ _ _ _ h => h) (fun K hK => ?_)
  go_simp
  first
    | (refine hK _ ?_; clear hK K)
    | (apply Exists.intro
       refine ⟨fun _ => ?_, hK _ ?_⟩
       (exact unhide N1 _)
       clear hK K)
  refine wpMix_take 9 rfl (by kernel_rfl) (by kernel_rfl) (by kernel_rfl) (fun _ _ _ _ h => h) (fun K hK => ?_)
  go_simp
  first
    | (refine hK _ ?_; clear hK K)
    | (apply Exists.intro
       refine ⟨fun _ => ?_, hK _ ?_⟩
       (fail)
       clear hK K)
  refine wpMix_take 10 rfl (by kernel_rfl) (by kernel_rfl) (by kernel_rfl) (fun _ _ _ _ h => h) (fun K hK => ?_)
  go_simp
  first
    | (refine hK _ ?_; clear hK K)
    | (apply Exists.intro
       refine ⟨fun _ => ?_, hK _ ?_⟩
       (fail)
       clear hK K)
  refine wpMix_take 11 rfl (by kernel_rfl) (by kernel_rfl) (by kernel_rfl) (fun _ _ _ _ h => h) (fun K hK => ?_)
  go_simp
  first
    | (refine hK _ ?_; clear hK K)
    | (apply Exists.intro
       refine ⟨fun _ => ?_, hK _ ?_⟩
       (exact unhide N2 _)
       clear hK K)
  refine wpMix_take 13 rfl (by kernel_rfl) (by kernel_rfl) (by kernel_rfl) (fun _ _ _ _ h => h) (fun K hK => ?_)
  go_simp
  first
    | (refine hK _ ?_; clear hK K)
    | (apply Exists.intro
       refine ⟨fun _ => ?_, hK _ ?_⟩
       (fail)
       clear hK K)
  refine wpMix_take 14 rfl (by kernel_rfl) (by kernel_rfl) (by kernel_rfl) (fun _ _ _ _ h => h) (fun K hK => ?_)
  go_simp
  first
    | (refine hK _ ?_; clear hK K)
    | (apply Exists.intro
       refine ⟨fun _ => ?_, hK _ ?_⟩
       (fail)
       clear hK K)
  refine wpMix_take 15 rfl (by kernel_rfl) (by kernel_rfl) (by kernel_rfl) (fun _ _ _ _ h => h) (fun K hK => ?_)
  go_simp
  first
    | (refine hK _ ?_; clear hK K)
    | (apply Exists.intro
       refine ⟨fun _ => ?_, hK _ ?_⟩
       (exact unhide N3 _)
       clear hK K)
  refine wpMix_take 17 rfl (by kernel_rfl) (by kernel_rfl) (by kernel_rfl) (fun _ _ _ _ h => h) (fun K hK => ?_)
  go_simp
  first
    | (refine hK _ ?_; clear hK K)
    | (apply Exists.intro
       refine ⟨fun _ => ?_, hK _ ?_⟩
       (fail)
       clear hK K)
  refine wpMix_take 18 rfl (by kernel_rfl) (by kernel_rfl) (by kernel_rfl) (fun _ _ _ _ h => h) (fun K hK => ?_)
  go_simp
  first
    | (refine hK _ ?_; clear hK K)
    | (apply Exists.intro
       refine ⟨fun _ => ?_, hK _ ?_⟩
       (fail)
       clear hK K)
  refine wpMix_take 19 rfl (by kernel_rfl) (by kernel_rfl) (by kernel_rfl) (fun _ _ _ _ h => h) (fun K hK => ?_)
  go_simp
  first
    | (refine hK _ ?_; clear hK K)
    | (apply Exists.intro
       refine ⟨fun _ => ?_, hK _ ?_⟩
       (exact unhide NM _)
       clear hK K)
  refine wpMix_take 20 rfl (by kernel_rfl) (by kernel_rfl) (by kernel_rfl) (fun _ _ _ _ h => h) (fun K hK => ?_)
  go_simp
  first
    | (refine hK _ ?_; clear hK K)
    | (apply Exists.intro
       refine ⟨fun _ => ?_, hK _ ?_⟩
       (exact unhide N4 _)
       clear hK K)
  clear y0 y1 y2 y3 y4 y5 y6 y7 y8 y9 y10 N1 N2 N3 N4 NM
  refine wpMix_one 3 rfl (by kernel_rfl) (by rfl) (fun x hx => ?_)
  go_simp
  refine ⟨below_one x _, ?_⟩
  have HBX := hide (Ge.trans (Ge.trans (unhide HBV) hx) (below_one x (.cells #[.int .u8 K] 5)))
  have hcx : (x.alloc (.cells #[.int .u8 K] 5)).cell? ⟨x.heap.size, 0, none⟩ = some (.int .u8 K) := by simp
  have hcv := fun d os => unhide HCV (Sort.grow (redrawn (x.alloc (.cells #[.int .u8 K] 5)) d) os) x.heap.size (cell_regrown hcx d os)
  obtain ⟨a1, a2, a3, a4⟩ := unhide HA
  clear hx HBV HCV HA hcx
  generalize hy : x.alloc (.cells #[.int .u8 K] 5) = y at *
  refine wpMix_take 4 rfl (by kernel_rfl) (by kernel_rfl) (by kernel_rfl) (fun _ _ _ _ h => h) (fun K hK => ?_)
  go_simp
  first
    | (refine hK _ ?_; clear hK K)
    | (apply Exists.intro
       refine ⟨fun _ => ?_, hK _ ?_⟩
       (fail)
       clear hK K)
  refine wpMix_take 8 rfl (by kernel_rfl) (by kernel_rfl) (by kernel_rfl) (fun _ _ _ _ h => h) (fun K hK => ?_)
  go_simp
  first
    | (refine hK _ ?_; clear hK K)
    | (apply Exists.intro
       refine ⟨fun _ => ?_, hK _ ?_⟩
       (fail)
       clear hK K)
  refine wpMix_take 12 rfl (by kernel_rfl) (by kernel_rfl) (by kernel_rfl) (fun _ _ _ _ h => h) (fun K hK => ?_)
  go_simp
  first
    | (refine hK _ ?_; clear hK K)
    | (apply Exists.intro
       refine ⟨fun _ => ?_, hK _ ?_⟩
       (fail)
       clear hK K)
  refine wpMix_take 16 rfl (by kernel_rfl) (by kernel_rfl) (by kernel_rfl) (fun _ _ _ _ h => h) (fun K hK => ?_)
  go_simp
  first
    | (refine hK _ ?_; clear hK K)
    | (apply Exists.intro
       refine ⟨fun _ => ?_, hK _ ?_⟩
       (fail)
       clear hK K)
  refine wpMix_take 21 rfl (by kernel_rfl) (by kernel_rfl) (by kernel_rfl) (fun _ _ _ _ h => h) (fun K hK => ?_)
  go_simp
  first
    | (refine hK _ ?_; clear hK K)
    | (apply Exists.intro
       refine ⟨fun _ => ?_, hK _ ?_⟩
       (fail)
       clear hK K)
  refine wpMix_take 22 rfl (by kernel_rfl) (by kernel_rfl) (by kernel_rfl) (fun _ _ _ _ h => h) (fun K hK => ?_)
  go_simp
  first
    | (refine hK _ ?_; clear hK K)
    | (apply Exists.intro
       refine ⟨fun _ => ?_, hK _ ?_⟩
       (fail)
       clear hK K)
  refine wpMix_done (by kernel_rfl) (fun z hz => ?_)
  have HBZ := hide (Ge.trans (unhide HBX) hz)
  clear hz HBX hcv a1 a2 a3 a4
  go_simp
  go_wp2_with fail
  go_ret
  exact ⟨rfl, unhide HBZ⟩

theorem specPutOp (o : Op5) (w : World) (hs : o.k.size ≤ maxLen) (hm : o.m.k.size ≤ maxLen) : Calls Tryz.prog 16 #[opw o] w fun e w' => e = .returned (.string (putOp o)) ∧ Below w.heap.size w w' := by
  cases h : opOk o
  · rw [putOp_no h]; exact specPutOp_no o w hs hm h
  · rw [putOp_yes h]; exact specPutOp_yes o w hs hm h
end Go.Proofs.YtikdkijggejnfaaGreatDoor
namespace Go.Proofs.YtikdkijggejnfaaGreatDoor
open Go.RowKit
open Mth

/-- An operation's entry in a log. -/
def entryB (o : Op5) : ByteArray := frameT (opBytes o)
def wrB (s : ByteArray) (o : Op5) : Bool := opOk o && decide ((s.size + (entryB o).size : Int) ≤ 60000)
def wrT (s : ByteArray) (o : Op5) : ByteArray := if wrB s o = true then s ++ entryB o else s
theorem wr_no {s : ByteArray} {o : Op5} (h : wrB s o = false) : wrT s o = s := by unfold wrT; rw [if_neg (by rw [h]; simp)]
theorem wr_yes {s : ByteArray} {o : Op5} (h : wrB s o = true) : wrT s o = s ++ entryB o := by unfold wrT; rw [if_pos h]
theorem wr_bad {s : ByteArray} {o : Op5} (h : opOk o = false) : wrB s o = false := by unfold wrB; rw [h, Bool.false_and]
theorem wr_ok {s : ByteArray} {o : Op5} (h : opOk o = true) : wrB s o = decide ((s.size + (entryB o).size : Int) ≤ 60000) := by unfold wrB; rw [h, Bool.true_and]
theorem frameT_le (s : ByteArray) : (frameT s).size ≤ 1010 := by
  unfold frameT
  have h1 := wordB_size (sumN s)
  have h2 := putT_size s
  rw [ByteArray.size_append]
  omega
abbrev wrV (s : ByteArray) (o : Op5) : Value := .tuple #[.string (wrT s o), .bool (wrB s o)]

set_option maxRecDepth 100000 in
set_option maxHeartbeats 2000000 in
theorem specWrite (s : ByteArray) (o : Op5) (w : World) (hl : s.size ≤ 1048576) (hs : o.k.size ≤ maxLen) (hm : o.m.k.size ≤ maxLen) : Calls Tryz.prog 22 #[.string s, opw o] w fun e w' => e = .returned (wrV s o) ∧ Below w.heap.size w w' := by
  have HM := hide (fun w1 => specPutOp o w1 hs hm)
  have hsz : (putOp o).size ≤ maxLen := by
    unfold putOp
    split
    · exact Nat.le_trans (opBytes_le o) (by unfold maxLen; omega)
    · exact Nat.zero_le _
  have HC := hide (fun w1 => specCheckSum (putOp o) w1 hsz)
  have e : (65536 * (sums (putOp o).data.toList).2 + (sums (putOp o).data.toList).1 : Int) = (sumN (putOp o) : Int) := by unfold sumN; omega
  rw [e] at HC
  have HW := hide (fun w1 => l04Word (sumN (putOp o)) (sumN_lt _) w1)
  have HT := hide (fun w1 => specPutTAny (putOp o) w1)
  have hp := putT_size (putOp o)
  have hw := wordB_size (sumN (putOp o))
  have HF : Hid (frameT (putOp o) = wordB (sumN (putOp o)) ++ putT (putOp o)) := rfl
  have ha := fun w1 => run_string_add_sum (P := Tryz.prog) w1 (wordB (sumN (putOp o))) (putT (putOp o)) (by omega)
  have hfl := frameT_le (putOp o)
  clear e hsz hs hm
  cases h : opOk o
  · rw [show wrV s o = .tuple #[.string s, .bool false] by unfold wrV; rw [wr_no (wr_bad h), wr_bad h]]
    rw [putOp_no h] at HM HC HW HT ha
    clear h HF hfl hp hw
    generalize wordB (sumN ByteArray.empty) = bW at *
    generalize sumN ByteArray.empty = n at *
    generalize putT ByteArray.empty = bT at *
    obtain ⟨K, no, k, n, ⟨mK, mF, mT, mI, mL, mk, mN⟩⟩ := o
    go_enter Tryz.func22, Tryz.ntmps22
    go_wp2_with fail
    refine (unhide HM _).mono ?_
    rintro e w1 ⟨rfl, hb1⟩
    have hB := (below_one w _).trans (hb1.mono (by simp))
    clear hb1
    go_wp2_with fail
    refine (unhide HC _).mono ?_
    rintro e w2 ⟨rfl, rfl⟩
    go_wp2_with fail
    refine (unhide HW _).mono ?_
    rintro e w2 ⟨rfl, hb2⟩
    have hB2 := hB.trans (hb2.mono hB.size)
    clear hb2 hB
    go_wp2_with fail
    refine (unhide HT _).mono ?_
    rintro e w3 ⟨rfl, hb3⟩
    have hB3 := hB2.trans (hb3.mono hB2.size)
    clear hb3 hB2
    go_wp2_with fail
    go_ret2
    exact ⟨rfl, hB3⟩
  · have hX : entryB o = frameT (putOp o) := by unfold entryB; rw [putOp_yes h]
    have hne := not_empty (putOp o) (by rw [putOp_yes h]; exact opBytes_pos o)
    rw [unhide HF] at hX hfl
    rw [show wrV s o = .tuple #[.string (wrT s o), .bool (wrB s o)] from rfl]
    unfold wrT
    rw [wr_ok h, hX]
    clear h HF hX hp hw
    generalize wordB (sumN (putOp o)) ++ putT (putOp o) = r at *
    generalize wordB (sumN (putOp o)) = bW at *
    generalize sumN (putOp o) = n at *
    generalize putT (putOp o) = bT at *
    generalize putOp o = b at *
    have HR1 := hide (fun h : (s.size + r.size : Int) ≤ 60000 => show (if decide ((s.size + r.size : Int) ≤ 60000) = true then s ++ r else s) = s ++ r ∧ decide ((s.size + r.size : Int) ≤ 60000) = true from ⟨if_pos (decide_eq_true h), decide_eq_true h⟩)
    have HR2 := hide (fun h : 60000 < (s.size + r.size : Int) => show (if decide ((s.size + r.size : Int) ≤ 60000) = true then s ++ r else s) = s ∧ decide ((s.size + r.size : Int) ≤ 60000) = false from ⟨if_neg (by rw [decide_eq_false (by omega)]; simp), decide_eq_false (by omega)⟩)
    have a2 := fun w1 => run_string_add_sum (P := Tryz.prog) w1 s r (by omega)
    obtain ⟨K, no, k, n, ⟨mK, mF, mT, mI, mL, mk, mN⟩⟩ := o
    generalize (if decide ((s.size + r.size : Int) ≤ 60000) = true then s ++ r else s) = RT at *
    generalize decide ((s.size + r.size : Int) ≤ 60000) = RB at *
    go_enter Tryz.func22, Tryz.ntmps22
    go_wp2_with fail
    refine (unhide HM _).mono ?_
    rintro e w1 ⟨rfl, hb1⟩
    have hB := (below_one w _).trans (hb1.mono (by simp))
    clear hb1
    go_wp2_with fail
    refine (unhide HC _).mono ?_
    rintro e w2 ⟨rfl, rfl⟩
    go_wp2_with fail
    refine (unhide HW _).mono ?_
    rintro e w2 ⟨rfl, hb2⟩
    have hB2 := hB.trans (hb2.mono hB.size)
    clear hb2 hB
    go_wp2_with fail
    refine (unhide HT _).mono ?_
    rintro e w3 ⟨rfl, hb3⟩
    have hB3 := hB2.trans (hb3.mono hB2.size)
    clear hb3 hB2
    by_cases hc : (s.size + r.size : Int) ≤ 60000
    · obtain ⟨e1, rfl⟩ := unhide HR1 hc
      have HE := hide e1
      clear e1 HR1 HR2
      have hd : decide ((60000 : Int) - r.size < s.size) = false := decide_eq_false (by omega)
      have hd2 : ¬ ((60000 : Int) - r.size < s.size) := by omega
      go_wp2_with fail
      go_ret2
      exact ⟨by rw [unhide HE]; rfl, hB3⟩
    · obtain ⟨e1, rfl⟩ := unhide HR2 (by omega)
      have HE := hide e1
      clear e1 HR1 HR2
      have hd : decide ((60000 : Int) - r.size < s.size) = true := decide_eq_true (by omega)
      have hd2 : ((60000 : Int) - r.size < s.size) := by omega
      go_wp2_with fail
      go_ret2
      exact ⟨by rw [unhide HE]; rfl, hB3⟩
end Go.Proofs.YtikdkijggejnfaaGreatDoor
namespace Go.Proofs.YtikdkijggejnfaaGreatDoor.Mth
open Go.Lib (decDigits itoa)

theorem digits_small (v : Nat) (h : v < 10) : decDigits v = [UInt8.ofNat (48 + v)] := by rw [decDigits, dif_pos h]
theorem digits_big (v : Nat) (h : ¬ v < 10) : decDigits v = decDigits (v / 10) ++ [UInt8.ofNat (48 + v % 10)] := by rw [decDigits, dif_neg h]
end Go.Proofs.YtikdkijggejnfaaGreatDoor.Mth
namespace Go.Proofs.YtikdkijggejnfaaGreatDoor
open Go.RowKit
open Go.Lib (decDigits itoa)

/-- The digits that are still to come; none for nought. -/
def leftDigits (a : Nat) : List UInt8 := if a = 0 then [] else decDigits a
theorem left_step (a : Nat) (l t : List UInt8) (h0 : a ≠ 0) (h : leftDigits a ++ l = t) : leftDigits (a / 10) ++ (UInt8.ofNat (48 + a % 10) :: l) = t := by
  unfold leftDigits at *
  rw [if_neg h0] at h
  by_cases hs : a < 10
  · have e1 : a / 10 = 0 := by omega
    have e2 : a % 10 = a := by omega
    rw [Mth.digits_small a hs] at h
    rw [e1, e2, if_pos rfl]; simpa using h
  · rw [Mth.digits_big a hs] at h
    rw [if_neg (by omega), ← h]; simp
/-- A digit cut out of the ten. -/
theorem ten_at : ∀ d : Fin 10, (ByteArray.mk #[48, 49, 50, 51, 52, 53, 54, 55, 56, 57]).extract d.1 (d.1 + 1) = ⟨#[UInt8.ofNat (48 + d.1)]⟩ := by decide +kernel
theorem ten_add (d : Nat) (hd : d < 10) (l : List UInt8) : (ByteArray.mk #[48, 49, 50, 51, 52, 53, 54, 55, 56, 57]).extract d (d + 1) ++ ⟨l.toArray⟩ = ⟨(UInt8.ofNat (48 + d) :: l).toArray⟩ := by
  rw [ten_at ⟨d, hd⟩]
  apply ByteArray.ext
  simp

set_option maxHeartbeats 1000000 in
set_option maxRecDepth 100000 in
theorem specDec_pos (n : Nat) (w : World) (h0 : 0 < n) (hn : (n : Int) ≤ 9223372036854775807) :
    Calls Tryz.prog 55 #[.int .i64 n] w fun e w' => e = .returned (.string ⟨(decDigits n).toArray⟩) ∧ w = w' := by
  have hlen : (decDigits n).length ≤ 21 := by have := Lib.itoa_length_le n (by omega) hn; rw [Lib.itoa, if_neg (by omega)] at this; simpa using this
  have hne : ((n : Int) == 0) = false := beq_eq_false_iff_ne.2 (by omega)
  go_enter Tryz.func55, Tryz.ntmps55
  go_wp2
  go_loop [3, 4] (fun o m => ∃ (a : Nat) (l : List UInt8), a ≤ n ∧ m = .int .i64 a ∧ o = .string ⟨l.toArray⟩ ∧ leftDigits a ++ l = decDigits n) (fun _ m => (intOf m).toNat)
  case atStart => exact ⟨n, [], Nat.le_refl _, rfl, rfl, by unfold leftDigits; rw [if_neg (by omega)]; simp⟩
  case round =>
    obtain ⟨a, l, ha, rfl, rfl, hl⟩ := hrel
    have HL := hide hl
    have hll : l.length ≤ 21 := by have := congrArg List.length hl; rw [List.length_append] at this; omega
    clear hl
    by_cases hz : a = 0
    · subst hz
      have HE := hide (show l = decDigits n by have := unhide HL; simpa [leftDigits] using this)
      clear HL
      go_wp2
      go_ret
      exact ⟨ret_string (by rw [unhide HE]), rfl⟩
    · have HS := hide (left_step a l _ hz (unhide HL))
      have hA := hide (ten_add (a % 10) (by omega) l)
      have hne2 : ((a : Int) == 0) = false := beq_eq_false_iff_ne.2 (by omega)
      clear HL
      go_wp2
      go_round
      case rel => exact ⟨a / 10, _, by omega, by go_num, by rw [unhide hA], unhide HS⟩
      case measure => simp [intOf]; omega

theorem neg_tmod (a : Nat) : (-(a : Int)).tmod 10 = -((a : Int) % 10) := by rw [Int.neg_tmod, Int.tmod_eq_emod_of_nonneg (by omega)]
theorem neg_tdiv (a : Nat) : (-(a : Int)).tdiv 10 = -((a : Int) / 10) := by rw [Int.neg_tdiv, Int.tdiv_eq_ediv_of_nonneg (by omega)]
theorem minus_add (l : List UInt8) : (ByteArray.mk #[45]) ++ ⟨l.toArray⟩ = ⟨(45 :: l).toArray⟩ := by
  apply ByteArray.ext; simp

set_option maxHeartbeats 1000000 in
set_option maxRecDepth 100000 in
theorem specDec_neg (n : Nat) (w : World) (h0 : 0 < n) (hn : (n : Int) ≤ 9223372036854775808) :
    Calls Tryz.prog 55 #[.int .i64 (-(n : Int))] w fun e w' => e = .returned (.string ⟨(45 :: decDigits n).toArray⟩) ∧ w = w' := by
  have hlen : (decDigits n).length ≤ 21 := by have := Lib.itoa_length_le (-(n : Int)) (by omega) (by omega); rw [Lib.itoa, if_pos (by omega)] at this; simp at this; omega
  have hne : (-(n : Int) == 0) = false := beq_eq_false_iff_ne.2 (by omega)
  go_enter Tryz.func55, Tryz.ntmps55
  go_wp2
  go_loop [3, 4] (fun o m => ∃ (a : Nat) (l : List UInt8), a ≤ n ∧ m = .int .i64 (-(a : Int)) ∧ o = .string ⟨l.toArray⟩ ∧ leftDigits a ++ l = decDigits n) (fun _ m => (intOf m).natAbs)
  case atStart => exact ⟨n, [], Nat.le_refl _, rfl, rfl, by unfold leftDigits; rw [if_neg (by omega)]; simp⟩
  case round =>
    obtain ⟨a, l, ha, rfl, rfl, hl⟩ := hrel
    have HL := hide hl
    have hll : l.length ≤ 21 := by have := congrArg List.length hl; rw [List.length_append] at this; omega
    clear hl
    by_cases hz : a = 0
    · subst hz
      have HE := hide (show l = decDigits n by have := unhide HL; simpa [leftDigits] using this)
      have hA := hide (minus_add l)
      clear HL
      go_wp2
      go_ret
      exact ⟨ret_string (by rw [← unhide HE]; exact unhide hA), rfl⟩
    · have HS := hide (left_step a l _ hz (unhide HL))
      have hA := hide (ten_add (a % 10) (by omega) l)
      have hne2 : (-(a : Int) == 0) = false := beq_eq_false_iff_ne.2 (by omega)
      have hm := neg_tmod a
      have hq := neg_tdiv a
      clear HL
      have E1 := hide (show (-((a : Int) % 10)).toNat = a % 10 ∨ a % 10 ≠ 0 by omega)
      have E2 := hide (show (-((a : Int) % 10) + 1).toNat = a % 10 + 1 ∨ a % 10 ≠ 0 by omega)
      by_cases hd : a % 10 = 0
      · have E1' := hide ((unhide E1).resolve_right (fun h => h hd))
        have E2' := hide ((unhide E2).resolve_right (fun h => h hd))
        go_wp2
        go_round
        case rel => exact ⟨a / 10, _, by omega, by go_num, by rw [unhide E1', unhide E2', unhide hA], unhide HS⟩
        case measure => simp [intOf]; omega
      · go_wp2
        go_round
        case rel => exact ⟨a / 10, _, by omega, by go_num, by rw [unhide hA], unhide HS⟩
        case measure => simp [intOf]; omega

theorem specDec_zero (w : World) : Calls Tryz.prog 55 #[.int .i64 0] w fun e w' => e = .returned (.string ⟨#[48]⟩) ∧ w = w' := by
  go_enter Tryz.func55, Tryz.ntmps55
  go_wp2
  go_ret
  exact ⟨rfl, rfl⟩

/-- The decimal text of every number. -/
theorem specDec (n : Int) (w : World) (h0 : -9223372036854775808 ≤ n) (h1 : n ≤ 9223372036854775807) : Calls Tryz.prog 55 #[.int .i64 n] w fun e w' => e = .returned (.string ⟨(itoa n).toArray⟩) ∧ w = w' := by
  rcases Int.lt_trichotomy n 0 with h | h | h
  · obtain ⟨k, hk⟩ : ∃ k : Nat, n = -(k : Int) := ⟨n.natAbs, by omega⟩
    subst hk
    have e : itoa (-(k : Int)) = 45 :: decDigits k := by unfold itoa; rw [if_pos h]; simp
    rw [e]
    exact specDec_neg k w (by omega) (by omega)
  · subst h
    have e : itoa 0 = [48] := by unfold itoa; rw [if_neg (by omega)]; exact Mth.digits_small 0 (by omega)
    rw [e]
    exact specDec_zero w
  · obtain ⟨k, rfl⟩ := Int.eq_ofNat_of_zero_le (show 0 ≤ n by omega)
    have e : itoa (k : Int) = decDigits k := by unfold itoa; rw [if_neg (by omega)]; rfl
    have h' : 0 < k := by omega
    show Calls _ _ #[.int .i64 (k : Int)] w fun e w' => e = .returned (.string ⟨(itoa (k : Int)).toArray⟩) ∧ w = w'
    rw [e]
    exact specDec_pos k w h' h1
end Go.Proofs.YtikdkijggejnfaaGreatDoor
namespace Go.Proofs.YtikdkijggejnfaaGreatDoor
open Go.RowKit
open Mth

def dec (n : Int) : ByteArray := ⟨(Lib.itoa n).toArray⟩
theorem dec_size (n : Int) (h0 : 0 ≤ n) (h1 : n ≤ 1000000000) : (dec n).size ≤ 21 := by
  unfold dec
  show (Lib.itoa n).toArray.size ≤ 21
  have := Lib.itoa_length_le n (by omega) (by omega)
  simpa using this

def txWant (dF dT k dN : ByteArray) : ByteArray := (⟨#[119, 97, 110, 116]⟩ : ByteArray) ++ ((⟨#[32]⟩ : ByteArray) ++ dF ++ (⟨#[32, 62, 32]⟩ : ByteArray) ++ dT) ++ (⟨#[32]⟩ : ByteArray) ++ k ++ (⟨#[32]⟩ : ByteArray) ++ dN
def txPay (dF dT dI dL k dN : ByteArray) : ByteArray := (⟨#[112, 97, 121]⟩ : ByteArray) ++ ((⟨#[32]⟩ : ByteArray) ++ dF ++ (⟨#[32, 62, 32]⟩ : ByteArray) ++ dT) ++ (⟨#[32]⟩ : ByteArray) ++ dI ++ (⟨#[32]⟩ : ByteArray) ++ dL ++ (⟨#[32]⟩ : ByteArray) ++ k ++ (⟨#[32]⟩ : ByteArray) ++ dN
def txAck (dF dT dI : ByteArray) : ByteArray := (⟨#[97, 99, 107]⟩ : ByteArray) ++ ((⟨#[32]⟩ : ByteArray) ++ dF ++ (⟨#[32, 62, 32]⟩ : ByteArray) ++ dT) ++ (⟨#[32]⟩ : ByteArray) ++ dI
def msgTx (m : Mg) : ByteArray :=
  if mgOk m = true then
    (if m.K = 0 then txWant (dec m.F) (dec m.T) m.k (dec m.N)
     else if m.K = 1 then txPay (dec m.F) (dec m.T) (dec m.I) (dec m.L) m.k (dec m.N)
     else txAck (dec m.F) (dec m.T) (dec m.I))
  else ByteArray.empty
theorem msgTx_no {m : Mg} (h : mgOk m = false) : msgTx m = ByteArray.empty := by unfold msgTx; rw [if_neg (by rw [h]; simp)]
/-- What a right message's numbers are. -/
theorem mg_parts {m : Mg} (h : mgOk m = true) : (0 ≤ m.F ∧ m.F ≤ 29) ∧ (0 ≤ m.T ∧ m.T ≤ 29) ∧
    ((m.K = 0 ∧ (1 ≤ m.N ∧ m.N ≤ 1000000000) ∧ m.k.size ≤ 10) ∨ (m.K = 1 ∧ (1 ≤ m.N ∧ m.N ≤ 1000000000) ∧ (1 ≤ m.I ∧ m.I ≤ 1000000000) ∧ (1 ≤ m.L ∧ m.L ≤ m.I) ∧ m.k.size ≤ 10) ∨ (m.K = 2 ∧ (1 ≤ m.I ∧ m.I ≤ 1000000000))) := by
  have hkey : ∀ s : ByteArray, keyOk s.data.toList = true → s.size ≤ 10 := by
    intro s hs
    unfold keyOk at hs
    simp only [Bool.and_eq_true, decide_eq_true_iff] at hs
    have := size_toList s
    omega
  unfold mgOk rtB ndB at h
  simp only [Bool.and_eq_true, decide_eq_true_iff] at h
  obtain ⟨⟨⟨hF, hT⟩, _⟩, h⟩ := h
  refine ⟨hF, hT, ?_⟩
  split at h
  · rename_i h0
    simp only [Bool.and_eq_true, smB, decide_eq_true_iff] at h
    exact .inl ⟨h0, h.1.1.2, hkey _ h.1.1.1⟩
  · split at h
    · rename_i h0
      simp only [Bool.and_eq_true, smB, decide_eq_true_iff] at h
      exact .inr (.inl ⟨h0, h.1.1.2, h.1.2, h.2, hkey _ h.1.1.1⟩)
    · split at h
      · rename_i h0
        simp only [Bool.and_eq_true, smB, decide_eq_true_iff] at h
        exact .inr (.inr ⟨h0, h.1.1.1⟩)
      · cases h

theorem joinWant (dF dT k dN : ByteArray) : (⟨(Lib.join (([(⟨#[119, 97, 110, 116]⟩ : ByteArray), dF, (⟨#[62]⟩ : ByteArray), dT, k, dN] : List ByteArray).map (·.data.toList)) [32]).toArray⟩ : ByteArray) = txWant dF dT k dN := by
  apply ByteArray.ext
  apply Array.ext'
  simp [Lib.join, List.intercalate, List.intersperse, txWant]
theorem joinPay (dF dT dI dL k dN : ByteArray) : (⟨(Lib.join (([(⟨#[112, 97, 121]⟩ : ByteArray), dF, (⟨#[62]⟩ : ByteArray), dT, dI, dL, k, dN] : List ByteArray).map (·.data.toList)) [32]).toArray⟩ : ByteArray) = txPay dF dT dI dL k dN := by
  apply ByteArray.ext
  apply Array.ext'
  simp [Lib.join, List.intercalate, List.intersperse, txPay]
theorem joinAck (dF dT dI : ByteArray) : (⟨(Lib.join (([(⟨#[97, 99, 107]⟩ : ByteArray), dF, (⟨#[62]⟩ : ByteArray), dT, dI] : List ByteArray).map (·.data.toList)) [32]).toArray⟩ : ByteArray) = txAck dF dT dI := by
  apply ByteArray.ext
  apply Array.ext'
  simp [Lib.join, List.intercalate, List.intersperse, txAck]
end Go.Proofs.YtikdkijggejnfaaGreatDoor
