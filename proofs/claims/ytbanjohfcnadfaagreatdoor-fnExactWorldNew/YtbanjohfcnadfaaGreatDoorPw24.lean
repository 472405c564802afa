/- Parts. -/
import Derived.Test.YtbanjohfcnadfaaGreatDoorPw5
import Derived.Test.YtbanjohfcnadfaaGreatDoorPw8
import Derived.Test.YtbanjohfcnadfaaGreatDoorPw14
import Derived.Test.YtbanjohfcnadfaaGreatDoorPw19
import Derived.Shelf.Abstract
import Derived.Defers
import Derived.Recover
import Derived.Deep.QuietTactic
import Derived.Laws.IdiomStrings
namespace Go.Proofs.YtbanjohfcnadfaaGreatDoor
open Go.RowKit
open Mth

theorem allocs2B (w : World) (a b : Obj) : Below w.heap.size w ((w.alloc a).alloc b) := ((Below.refl _ _).alloc (Nat.le_refl _) _).alloc (by simp) _
set_option maxRecDepth 100000 in
set_option maxHeartbeats 2000000 in
theorem equalInts (a b : Option Addr) (ca cb : Nat) (l : List Int) (w : World) (hl : l.length ≤ 1048600) (ha : IntsAt w a l) (hb : IntsAt w b l) :
    Calls Tryz.prog 161 #[.slice a l.length ca, .slice b l.length cb] w fun e w' => e = .returned (.bool true) ∧ Below w.heap.size w w' := by
  have HA := hide ha
  have HB := hide hb
  clear ha hb
  go_enter Tryz.func161, Tryz.ntmps161
  go_wp2_with fail
  go_loopw [13] (fun i wr => ∃ k : Nat, k ≤ l.length ∧ i = .int .i64 k ∧ Below w.heap.size w wr) (fun i _ => l.length - (intOf i).toNat)
  case atStart => exact ⟨0, Nat.zero_le _, rfl, Below.refl _ _⟩
  case round =>
    obtain ⟨k, hk, rfl, hbel⟩ := hrel
    have HBL := hide hbel
    clear hbel
    by_cases hlt : k < l.length
    · obtain ⟨g1, o1, rfl, hg1, s0⟩ := IntsAt.one (GR.At.below (unhide HA) (unhide HBL)) k hlt
      obtain ⟨g2, o2, rfl, hg2, t0⟩ := IntsAt.one (GR.At.below (unhide HB) (unhide HBL)) k hlt
      generalize l[k] = z at *
      go_upto_region 6 with fail
      go_quiet (fail)
      go_wp2_with fail
      go_roundw
      case rel => exact ⟨k + 1, by omega, by go_num, ⟨(unhide HBL).os, (unhide HBL).tape, (unhide HBL).output, (unhide HBL).size, (unhide HBL).block⟩⟩
      case measure => simp [intOf]; omega
    · have hke : k = l.length := by omega
      subst hke
      have hnlt : decide ((l.length : Int) < (l.length : Int)) = false := by simp
      go_wp2_with fail
      go_ret
      exact ⟨rfl, unhide HBL⟩

set_option maxRecDepth 100000 in
set_option maxHeartbeats 2000000 in
theorem equalPus (a b : Option Addr) (ca cb : Nat) (l : List Pu) (w : World) (hl : l.length ≤ 1048600) (ha : PursesAt w a l) (hb : PursesAt w b l) :
    Calls Tryz.prog 162 #[.slice a l.length ca, .slice b l.length cb] w fun e w' => e = .returned (.bool true) ∧ Below w.heap.size w w' := by
  have HA := hide ha
  have HB := hide hb
  clear ha hb
  go_enter Tryz.func162, Tryz.ntmps162
  go_wp2_with fail
  go_loopw [13] (fun i wr => ∃ k : Nat, k ≤ l.length ∧ i = .int .i64 k ∧ Below w.heap.size w wr) (fun i _ => l.length - (intOf i).toNat)
  case atStart => exact ⟨0, Nat.zero_le _, rfl, Below.refl _ _⟩
  case round =>
    obtain ⟨k, hk, rfl, hbel⟩ := hrel
    have HBL := hide hbel
    clear hbel
    by_cases hlt : k < l.length
    · obtain ⟨g1, o1, rfl, hg1, s0, s1, s2, s3⟩ := PursesAt.four (GR.At.below (unhide HA) (unhide HBL)) k hlt
      obtain ⟨g2, o2, rfl, hg2, t0, t1, t2, t3⟩ := PursesAt.four (GR.At.below (unhide HB) (unhide HBL)) k hlt
      generalize l[k] = pu at *
      obtain ⟨p0, p1, p2, p3⟩ := pu
      dsimp only at s0 s1 s2 s3 t0 t1 t2 t3
      go_upto_region 6 with fail
      go_quiet (fail)
      go_wp2_with fail
      go_roundw
      case rel => exact ⟨k + 1, by omega, by go_num, ⟨(unhide HBL).os, (unhide HBL).tape, (unhide HBL).output, (unhide HBL).size, (unhide HBL).block⟩⟩
      case measure => simp [intOf]; omega
    · have hke : k = l.length := by omega
      subst hke
      have hnlt : decide ((l.length : Int) < (l.length : Int)) = false := by simp
      go_wp2_with fail
      go_ret
      exact ⟨rfl, unhide HBL⟩

set_option maxRecDepth 100000 in
set_option maxHeartbeats 2000000 in
theorem equalSents (a b : Option Addr) (ca cb : Nat) (l : List Snt) (w : World) (hl : l.length ≤ 1048600) (ha : SentAt w a l) (hb : SentAt w b l) :
    Calls Tryz.prog 163 #[.slice a l.length ca, .slice b l.length cb] w fun e w' => e = .returned (.bool true) ∧ Below w.heap.size w w' := by
  have HA := hide ha
  have HB := hide hb
  clear ha hb
  go_enter Tryz.func163, Tryz.ntmps163
  go_wp2_with fail
  go_loopw [13] (fun i wr => ∃ k : Nat, k ≤ l.length ∧ i = .int .i64 k ∧ Below w.heap.size w wr) (fun i _ => l.length - (intOf i).toNat)
  case atStart => exact ⟨0, Nat.zero_le _, rfl, Below.refl _ _⟩
  case round =>
    obtain ⟨k, hk, rfl, hbel⟩ := hrel
    have HBL := hide hbel
    clear hbel
    by_cases hlt : k < l.length
    · obtain ⟨g1, o1, rfl, hg1, s0, s1, s2, s3⟩ := SentAt.four (GR.At.below (unhide HA) (unhide HBL)) k hlt
      obtain ⟨g2, o2, rfl, hg2, t0, t1, t2, t3⟩ := SentAt.four (GR.At.below (unhide HB) (unhide HBL)) k hlt
      generalize l[k] = pu at *
      obtain ⟨p0, p1, p2, p3⟩ := pu
      dsimp only at s0 s1 s2 s3 t0 t1 t2 t3
      go_upto_region 6 with fail
      go_quiet (fail)
      go_wp2_with fail
      go_roundw
      case rel => exact ⟨k + 1, by omega, by go_num, ⟨(unhide HBL).os, (unhide HBL).tape, (unhide HBL).output, (unhide HBL).size, (unhide HBL).block⟩⟩
      case measure => simp [intOf]; omega
    · have hke : k = l.length := by omega
      subst hke
      have hnlt : decide ((l.length : Int) < (l.length : Int)) = false := by simp
      go_wp2_with fail
      go_ret
      exact ⟨rfl, unhide HBL⟩

set_option maxRecDepth 100000 in
set_option maxHeartbeats 2000000 in
theorem equalReqs (a b : Option Addr) (ca cb : Nat) (l : List Rq) (w : World) (hl : l.length ≤ 1048600) (ha : ReqAt w a l) (hb : ReqAt w b l) :
    Calls Tryz.prog 166 #[.slice a l.length ca, .slice b l.length cb] w fun e w' => e = .returned (.bool true) ∧ Below w.heap.size w w' := by
  have HA := hide ha
  have HB := hide hb
  clear ha hb
  go_enter Tryz.func166, Tryz.ntmps166
  go_wp2_with fail
  go_loopw [13] (fun i wr => ∃ k : Nat, k ≤ l.length ∧ i = .int .i64 k ∧ Below w.heap.size w wr) (fun i _ => l.length - (intOf i).toNat)
  case atStart => exact ⟨0, Nat.zero_le _, rfl, Below.refl _ _⟩
  case round =>
    obtain ⟨k, hk, rfl, hbel⟩ := hrel
    have HBL := hide hbel
    clear hbel
    by_cases hlt : k < l.length
    · obtain ⟨g1, o1, rfl, hg1, s0, s1, s2, s3⟩ := ReqAt.four (GR.At.below (unhide HA) (unhide HBL)) k hlt
      obtain ⟨g2, o2, rfl, hg2, t0, t1, t2, t3⟩ := ReqAt.four (GR.At.below (unhide HB) (unhide HBL)) k hlt
      generalize l[k] = pu at *
      obtain ⟨p0, p1, p2, p3⟩ := pu
      dsimp only at s0 s1 s2 s3 t0 t1 t2 t3
      go_upto_region 6 with fail
      go_quiet (fail)
      go_wp2_with fail
      go_roundw
      case rel => exact ⟨k + 1, by omega, by go_num, ⟨(unhide HBL).os, (unhide HBL).tape, (unhide HBL).output, (unhide HBL).size, (unhide HBL).block⟩⟩
      case measure => simp [intOf]; omega
    · have hke : k = l.length := by omega
      subst hke
      have hnlt : decide ((l.length : Int) < (l.length : Int)) = false := by simp
      go_wp2_with fail
      go_ret
      exact ⟨rfl, unhide HBL⟩

set_option maxRecDepth 100000 in
set_option maxHeartbeats 2000000 in
theorem seenSame (f l : Int) (ids : List Int) (a b : Option Addr) (ca cb : Nat) (w : World) (hl : ids.length ≤ 1048600) (ha : IntsAt w a ids) (hb : IntsAt w b ids) :
    Calls Tryz.prog 165 #[.agg #[.int .i64 f, .int .i64 l, .slice a ids.length ca], .agg #[.int .i64 f, .int .i64 l, .slice b ids.length cb]] w fun e w' => e = .returned (.bool true) ∧ Below w.heap.size w w' := by
  have HA := hide ha
  have HB := hide hb
  clear ha hb
  go_enter Tryz.func165, Tryz.ntmps165
  go_wp2_with fail
  have hbz := allocs2B w (.cells #[.int .i64 f, .int .i64 l, .slice a ids.length ca] 101) (.cells #[.int .i64 f, .int .i64 l, .slice b ids.length cb] 101)
  refine (equalInts a b ca cb ids _ hl ((unhide HA).below hbz) ((unhide HB).below hbz)).mono ?_
  rintro e w1 ⟨rfl, hb1⟩
  have HBL := hide (hbz.trans (hb1.mono hbz.size))
  clear hb1 hbz
  go_wp2_with fail
  go_ret
  exact ⟨rfl, unhide HBL⟩

set_option maxRecDepth 100000 in
set_option maxHeartbeats 2000000 in
theorem equalSeens (a b : Option Addr) (ca cb : Nat) (l : List Sn) (w : World) (hl : l.length ≤ 1048600) (hi : ∀ s ∈ l, s.ids.length ≤ 1048600) (ha : SeenAt w a l) (hb : SeenAt w b l) :
    Calls Tryz.prog 164 #[.slice a l.length ca, .slice b l.length cb, .func (.func 165) #[] #[]] w fun e w' => e = .returned (.bool true) ∧ Below w.heap.size w w' := by
  have HA := hide ha
  have HB := hide hb
  have HI := hide hi
  clear ha hb hi
  go_enter Tryz.func164, Tryz.ntmps164
  go_wp2_with fail
  go_loopw [17] (fun i wr => ∃ k : Nat, k ≤ l.length ∧ i = .int .i64 k ∧ Below w.heap.size w wr) (fun i _ => l.length - (intOf i).toNat)
  case atStart => exact ⟨0, Nat.zero_le _, rfl, Below.refl _ _⟩
  case round =>
    obtain ⟨k, hk, rfl, hbel⟩ := hrel
    have HBL := hide hbel
    clear hbel
    by_cases hlt : k < l.length
    · obtain ⟨g1, o1, b1, c1, rfl, hg1, s0, s1, s2, i1⟩ := (unhide HA).below (unhide HBL) k hlt
      obtain ⟨g2, o2, b2, c2, rfl, hg2, t0, t1, t2, i2⟩ := (unhide HB).below (unhide HBL) k hlt
      have hil := unhide HI l[k] (List.getElem_mem hlt)
      generalize l[k] = sn at *
      obtain ⟨sf, sl, ids⟩ := sn
      dsimp only at s0 s1 s2 t0 t1 t2 i1 i2 hil
      have HI1 := hide i1
      have HI2 := hide i2
      clear i1 i2
      go_wp2_with fail
      have hbz := allocs2B wr (.cells #[.int .i64 sf, .int .i64 sl, .slice b1 ids.length c1] 101) (.cells #[.int .i64 sf, .int .i64 sl, .slice b2 ids.length c2] 101)
      refine (seenSame sf sl ids b1 b2 c1 c2 _ hil ((unhide HI1).below hbz) ((unhide HI2).below hbz)).mono ?_
      rintro e w1 ⟨rfl, hb1⟩
      have hbl := hbz.trans (hb1.mono hbz.size)
      have HBL2 := hide ((unhide HBL).trans (hbl.mono (unhide HBL).size))
      clear hb1 hbz hbl
      go_wp2_with fail
      go_roundw
      case rel => exact ⟨k + 1, by omega, by go_num, unhide HBL2⟩
      case measure => simp [intOf]; omega
    · have hke : k = l.length := by omega
      subst hke
      have hnlt : decide ((l.length : Int) < (l.length : Int)) = false := by simp
      go_wp2_with fail
      go_ret
      exact ⟨rfl, unhide HBL⟩

set_option maxRecDepth 100000 in
set_option maxHeartbeats 4000000 in
theorem nodeSame (n : Nd) (A B : Ads) (w : World) (hz : NdSz n 1048576) (ha : NodeAt w A n) (hb : NodeAt w B n) :
    Calls Tryz.prog 131 #[ndv n A, ndv n B] w fun e w' => e = .returned (.bool true) ∧ Below w.heap.size w w' := by
  have HZ := hide hz
  have HA := hide ha
  have HB := hide hb
  clear ha hb hz
  go_enter Tryz.func131, Tryz.ntmps131
  have h1 : ((w.alloc (.cells (ndc n A) 50)).alloc (.cells (ndc n B) 50)).heap[w.heap.size]? = some (.cells (ndc n A) 50 (0, 0)) := (Below.heap_alloc _ _ _ (by simp)).trans (heap_alloc_new w _)
  have h2 : ((w.alloc (.cells (ndc n A) 50)).alloc (.cells (ndc n B) 50)).heap[w.heap.size + 1]? = some (.cells (ndc n B) 50 (0, 0)) := by
    have h := heap_alloc_new (w.alloc (.cells (ndc n A) 50)) (.cells (ndc n B) 50)
    rwa [show (w.alloc (.cells (ndc n A) 50)).heap.size = w.heap.size + 1 by simp] at h
  have hbz := allocs2B w (.cells (ndc n A) 50) (.cells (ndc n B) 50)
  go_wp2_with fail
  generalize (w.alloc (.cells (ndc n A) 50)).alloc (.cells (ndc n B) 50) = W0 at *
  have HO0 := hide h1
  have HP0 := hide h2
  have HBL0 := hide hbz
  clear h1 h2 hbz
  refine (equalInts A.k B.k A.ck B.ck n.kids _ (Nat.le_trans (unhide HZ).k (by omega)) ((unhide HA).below (unhide HBL0)).k ((unhide HB).below (unhide HBL0)).k).mono ?_
  rintro e W1 ⟨rfl, hb1⟩
  have HO1 := hide (obj_step (unhide HO0) hb1)
  have HP1 := hide (obj_step (unhide HP0) hb1)
  have HBL1 := hide ((unhide HBL0).trans (hb1.mono (unhide HBL0).size))
  clear hb1 HO0 HP0 HBL0
  obtain ⟨c0, c1, c2, c3, c4, c5, c6, c7, c8⟩ := nine (unhide HO1)
  obtain ⟨d0, d1, d2, d3, d4, d5, d6, d7, d8⟩ := nine (unhide HP1)
  go_wp2_with fail
  clear c0 c1 c2 c3 c4 c5 c6 c7 c8 d0 d1 d2 d3 d4 d5 d6 d7 d8
  refine (equalPus A.p B.p A.cp B.cp n.pu _ (Nat.le_trans (unhide HZ).p (by omega)) ((unhide HA).below (unhide HBL1)).p ((unhide HB).below (unhide HBL1)).p).mono ?_
  rintro e W2 ⟨rfl, hb2⟩
  have HO2 := hide (obj_step (unhide HO1) hb2)
  have HP2 := hide (obj_step (unhide HP1) hb2)
  have HBL2 := hide ((unhide HBL1).trans (hb2.mono (unhide HBL1).size))
  clear hb2 HO1 HP1 HBL1
  obtain ⟨c0, c1, c2, c3, c4, c5, c6, c7, c8⟩ := nine (unhide HO2)
  obtain ⟨d0, d1, d2, d3, d4, d5, d6, d7, d8⟩ := nine (unhide HP2)
  go_wp2_with fail
  clear c0 c1 c2 c3 c4 c5 c6 c7 c8 d0 d1 d2 d3 d4 d5 d6 d7 d8
  refine (equalSents A.o B.o A.co B.co n.out _ (Nat.le_trans (unhide HZ).o (by omega)) ((unhide HA).below (unhide HBL2)).o ((unhide HB).below (unhide HBL2)).o).mono ?_
  rintro e W3 ⟨rfl, hb3⟩
  have HO3 := hide (obj_step (unhide HO2) hb3)
  have HP3 := hide (obj_step (unhide HP2) hb3)
  have HBL3 := hide ((unhide HBL2).trans (hb3.mono (unhide HBL2).size))
  clear hb3 HO2 HP2 HBL2
  obtain ⟨c0, c1, c2, c3, c4, c5, c6, c7, c8⟩ := nine (unhide HO3)
  obtain ⟨d0, d1, d2, d3, d4, d5, d6, d7, d8⟩ := nine (unhide HP3)
  go_wp2_with fail
  clear c0 c1 c2 c3 c4 c5 c6 c7 c8 d0 d1 d2 d3 d4 d5 d6 d7 d8
  refine (equalSeens A.s B.s A.cs B.cs n.seen _ (Nat.le_trans (unhide HZ).s (by omega)) (fun s hs => Nat.le_trans ((unhide HZ).sk s hs) (by omega)) ((unhide HA).below (unhide HBL3)).s ((unhide HB).below (unhide HBL3)).s).mono ?_
  rintro e W4 ⟨rfl, hb4⟩
  have HO4 := hide (obj_step (unhide HO3) hb4)
  have HP4 := hide (obj_step (unhide HP3) hb4)
  have HBL4 := hide ((unhide HBL3).trans (hb4.mono (unhide HBL3).size))
  clear hb4 HO3 HP3 HBL3
  obtain ⟨c0, c1, c2, c3, c4, c5, c6, c7, c8⟩ := nine (unhide HO4)
  obtain ⟨d0, d1, d2, d3, d4, d5, d6, d7, d8⟩ := nine (unhide HP4)
  go_wp2_with fail
  clear c0 c1 c2 c3 c4 c5 c6 c7 c8 d0 d1 d2 d3 d4 d5 d6 d7 d8
  refine (equalReqs A.r B.r A.cr B.cr n.reqs _ (Nat.le_trans (unhide HZ).r (by omega)) ((unhide HA).below (unhide HBL4)).r ((unhide HB).below (unhide HBL4)).r).mono ?_
  rintro e W5 ⟨rfl, hb5⟩
  have HO5 := hide (obj_step (unhide HO4) hb5)
  have HP5 := hide (obj_step (unhide HP4) hb5)
  have HBL5 := hide ((unhide HBL4).trans (hb5.mono (unhide HBL4).size))
  clear hb5 HO4 HP4 HBL4
  go_wp2_with fail
  go_ret
  exact ⟨rfl, unhide HBL5⟩

theorem two_cells {w : World} {g : Nat} {v0 v1 : Value} {t : TypeId} (h : w.heap[g]? = some (.cells #[v0, v1] t (0, 0))) : w.cell? ⟨g, 0, none⟩ = some v0 ∧ w.cell? ⟨g, 1, none⟩ = some v1 := by
  have hc : ∀ i, w.cell? ⟨g, i, none⟩ = #[v0, v1][i]? := fun i => cell_of_row w g i _ t (0, 0) h
  exact ⟨hc 0, hc 1⟩
set_option maxRecDepth 100000 in
theorem catch0 (w : World) : CallsD Tryz.prog 175 #[] .returning w fun e u' w' => e = .returned (.tuple #[]) ∧ u' = .returning ∧ w = w' := by
  refine callsD_of_wpS Tryz.func175 rfl fun c₀ cs hu => ?_
  apply wpS_seq
  apply wpS_region
  simp [wpOpsS, go_sem, recoverD, hu, Tryz.ntmps175, Exit.thenS]
  refine wpS_of_wp ?_
  show Code.wp _ _ _ { tmps := #[.nilIface, undef, undef, .nilIface, undef, undef, undef, undef, undef, undef, undef, undef, undef, undef], defers := [] } _
  have hnil : ∀ W : World, (binOp BinOp.eql 20 .nilIface .nilIface).run Tryz.prog W = .ok (.bool true) W := fun _ => by kernel_rfl
  go_wp2_with fail
  cases c₀
  simp_all [bodyPostS, results, Tryz.results175]
theorem convNone (w : World) : ∃ (cap : Nat) (w1 : World), (convert 9 129 (.string ByteArray.empty)).run Tryz.prog w = .ok (.slice (some ⟨w.heap.size, 0, none⟩) 0 cap) w1 ∧ Below w.heap.size w w1 := by
  refine ⟨_, _, run_bytes_of_string (P := Tryz.prog) w 9 129 5 ByteArray.empty Tryz.underlying9 Tryz.underlying129 Tryz.underlying5, ?_⟩
  exact ((Below.refl _ w).drew).alloc (Nat.le_refl _) _
set_option maxRecDepth 100000 in
set_option maxHeartbeats 1000000 in
theorem readAll0 (fb : Nat) (w : World) (hf : w.heap[fb]? = some (.cells #[.slice none 0 0, .int .i64 0] 181 (0, 0))) :
    Calls Tryz.prog 160 #[.pointer (some ⟨fb, 0, none⟩), .string ByteArray.empty] w fun e w' => e = .returned (.tuple #[]) ∧ Below w.heap.size w w' := by
  obtain ⟨cap, w1, hconv, hbel⟩ := convNone w
  have hf1 := obj_step hf hbel
  have HBL := hide hbel
  clear hf hbel
  go_enter Tryz.func160, Tryz.ntmps160
  go_wp2_with fail
  have HF := hide hf1
  go_loopw [] (fun wr => wr.heap[fb]? = some (.cells #[.slice none 0 0, .int .i64 0] 181 (0, 0)) ∧ Below w.heap.size w wr) (fun _ => 0)
  case atStart => exact ⟨unhide HF, unhide HBL⟩
  case round =>
    obtain ⟨h1, h2⟩ := hrel
    have HB2 := hide h2
    obtain ⟨c0, c1⟩ := two_cells h1
    clear h1 h2 hconv hf1
    have hlt : decide ((0 : Int) < ((0 : Nat) : Int)) = false := by simp
    go_wp2_with fail
    exact bodyPost_end (v := .tuple #[]) (by simp [results, Tryz.results160, go_sem]) rfl ⟨rfl, unhide HB2⟩
set_option maxRecDepth 100000 in
theorem readClosure0 (a fb : Nat) (w : World) (hf : w.heap[fb]? = some (.cells #[.slice none 0 0, .int .i64 0] 181 (0, 0))) (ha : w.cell? ⟨a, 0, none⟩ = some (.string ByteArray.empty)) :
    Calls Tryz.prog 159 #[.pointer (some ⟨fb, 0, none⟩), .pointer (some ⟨a, 0, none⟩)] w fun e w' => e = .returned (.tuple #[]) ∧ Below w.heap.size w w' := by
  have HR := hide (readAll0 fb w hf)
  clear hf
  go_enter Tryz.func159, Tryz.ntmps159
  go_wp2_with fail
  refine (unhide HR).mono ?_
  rintro e w1 ⟨rfl, hb⟩
  have HF := hide hb
  clear hb
  go_wp2_with fail
  exact bodyPost_end (v := .tuple #[]) (by simp [results, Tryz.results159, go_sem]) rfl ⟨rfl, unhide HF⟩
set_option maxRecDepth 100000 in
set_option maxHeartbeats 2000000 in
theorem wasRead0 (a fb : Nat) (w : World) (hf : w.heap[fb]? = some (.cells #[.slice none 0 0, .int .i64 0] 181 (0, 0))) (ha : w.cell? ⟨a, 0, none⟩ = some (.string ByteArray.empty)) :
    Calls Tryz.prog 158 #[.func (.func 159) #[] #[.pointer (some ⟨fb, 0, none⟩), .pointer (some ⟨a, 0, none⟩)]] w fun e w' => e = .returned (.bool true) ∧ Below w.heap.size w w' := by
  have HC := hide (readClosure0 a fb w hf ha)
  clear ha hf
  have hdf : ∀ (fn : Fn) (first cap : Array Value) (w : World), (Instr.makeFunc fn first cap).run Tryz.prog w = .ok (.func fn first cap) w := fun _ _ _ _ => rfl
  go_enter_defers Tryz.func158, Tryz.ntmps158
  go_wp2_with fail
  refine (unhide HC).mono ?_
  rintro e w1 ⟨rfl, hb⟩
  have HF := hide hb
  clear hb HC
  go_wp2_with fail
  refine leaves_cons (f := 175) (args := #[]) (by simp) (by simp [go_sem]) ?_
  refine (catch0 _).mono ?_
  rintro e u' w'' ⟨rfl, rfl, rfl⟩
  simp [Leaves, settle, results, Tryz.results158, go_sem]
  exact unhide HF
set_option maxRecDepth 100000 in
set_option maxHeartbeats 2000000 in
theorem implRead0 (w : World) : Calls Tryz.prog 130 #[.string ByteArray.empty] w fun e w' => e = .returned (.tuple #[.slice none 0 0, .int .i64 0]) ∧ Below w.heap.size w w' := by
  obtain ⟨hA, hF, hB⟩ := allocsE2 w (.cells #[.string ByteArray.empty] 9) (.cells #[.slice none 0 0, .int .i64 0] 181)
  have HW := hide (wasRead0 w.heap.size (w.heap.size + 1) _ hF (cell_of_row _ w.heap.size 0 _ 9 (0, 0) hA))
  have HB := hide hB
  have HF := hide hF
  clear hA hF hB
  have hmf : ∀ (fn : Fn) (first cap : Array Value) (w : World), (Instr.makeFunc fn first cap).run Tryz.prog w = .ok (.func fn first cap) w := fun _ _ _ _ => rfl
  go_enter Tryz.func130, Tryz.ntmps130
  go_wp2_with fail
  refine (unhide HW).mono ?_
  rintro e w1 ⟨rfl, hb⟩
  have hv := obj_step (unhide HF) hb
  have HBL := hide ((unhide HB).trans (hb.mono (unhide HB).size))
  obtain ⟨c0, c1⟩ := two_cells hv
  clear hb hv HW HB HF
  go_wp2_with fail
  go_quiet (fail)
  go_wp2_with fail
  exact bodyPost_ret (v := .tuple #[.slice none 0 0, .int .i64 0]) (by simp [results, Tryz.results130, go_sem]) rfl ⟨rfl, ⟨(unhide HBL).os, (unhide HBL).tape, (unhide HBL).output, (unhide HBL).size, (unhide HBL).block⟩⟩
end Go.Proofs.YtbanjohfcnadfaaGreatDoor
