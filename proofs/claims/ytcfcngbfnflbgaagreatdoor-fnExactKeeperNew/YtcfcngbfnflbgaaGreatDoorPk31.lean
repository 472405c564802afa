/- Parts. -/
import Derived.Test.YtcfcngbfnflbgaaGreatDoorPk30
import Derived.Test.YtcfcngbfnflbgaaGreatDoorPk27
import Derived.Test.YtcfcngbfnflbgaaGreatDoorPk17
import Derived.Test.YtcfcngbfnflbgaaGreatDoorPk1
import Derived.Test.YtcfcngbfnflbgaaGreatDoorPk21
import Derived.Test.YtcfcngbfnflbgaaGreatDoorPk12
import Derived.Test.YtcfcngbfnflbgaaGreatDoorPk13
import Derived.ProofKit
import Derived.Deep.DeepCutAuto
import Derived.Deep.RegionHeld
namespace Go.Proofs.YtcfcngbfnflbgaaGreatDoor
open Go.RowKit
open Mth

theorem all_mk {G : Blks} {n : Nd} {s x : Nat} (h : x ∈ G.all (mNodeK s n)) : x ∈ G.all n := by
  rcases Blks.mem_all.1 h with h1 | h1 | h1 | h1 | h1 | h1
  · exact Blks.mem_all.2 (.inl (fp_mks h1))
  · exact Blks.mem_all.2 (.inr (.inl (fp_mks h1)))
  · exact Blks.mem_all.2 (.inr (.inr (.inl (fp_mks h1))))
  · exact Blks.mem_all.2 (.inr (.inr (.inr (.inl (fp_mS h1)))))
  · exact Blks.mem_all.2 (.inr (.inr (.inr (.inr (.inl (fpI_mS h1))))))
  · exact Blks.mem_all.2 (.inr (.inr (.inr (.inr (.inr (fp_mks h1))))))
/-- A node that is right, or none, is marked by few numbers. -/
def Few (n : Nd) : Prop := NdSz n 1048576 ∧ eNodeK 1 n ≤ 50000000
theorem few_zero : Few zeroNd := ⟨⟨by simp [zeroNd], by simp [zeroNd], by simp [zeroNd], by simp [zeroNd], by simp [zeroNd], fun x hx => by simp [zeroNd] at hx, fun x hx => by simp [zeroNd] at hx, fun x hx => by simp [zeroNd] at hx, fun x hx => by simp [zeroNd] at hx⟩, by simp [eNodeK, sRk, sSk, sOk, sPk, eSeen, zeroNd]⟩
theorem few_ok {n : Nd} (hz : NdSz n 1048576) (hok : ndOk n = true) : Few n := by
  refine ⟨hz, ?_⟩
  unfold ndOk at hok
  simp only [Bool.and_eq_true] at hok
  obtain ⟨⟨⟨⟨⟨h1, _⟩, h3⟩, _⟩, _⟩, _⟩ := hok
  unfold placeB at h1
  simp only [Bool.and_eq_true, decide_eq_true_eq] at h1
  unfold toldB at h3
  rw [Bool.and_eq_true, decide_eq_true_eq] at h3
  have hids : ∀ x ∈ n.seen, x.ids.length ≤ 40 := fun x hx => by
    have h := chk_mem h3.2 x hx
    simp only [Bool.and_eq_true] at h
    have h2 := h.2
    unfold snB at h2
    simp only [Bool.and_eq_true, decide_eq_true_eq] at h2
    exact h2.1.2
  have hs : n.seen.length ≤ 31 := by have := h3.1; split at this <;> omega
  have h := (eSeen_le (sSk 1 n) 40 n.seen hids).2
  have hm : n.seen.length * (40 + 2) ≤ 31 * (40 + 2) := Nat.mul_le_mul_right _ hs
  have k1 := hz.k
  have k2 := hz.p
  have k3 := hz.o
  have k4 := hz.r
  unfold eNodeK sRk
  generalize eSeen (sSk 1 n) n.seen = z at *
  unfold sSk sOk sPk at h
  omega
theorem eNodeK_pos {s : Nat} {n : Nd} (hz : NdSz n 1048576) (hs : 0 < s) : 0 < eNodeK s n := by
  have h := (eSeen_le (sSk s n) 1048576 n.seen hz.sk).1
  unfold eNodeK sRk
  generalize eSeen (sSk s n) n.seen = z at *
  unfold sSk sOk sPk at h
  omega

set_option maxRecDepth 100000 in
theorem markMsg0 (k : Int) (w : World) : Calls Tryz.prog 40 #[.slice none 0 0, .int .i64 k] w fun e w' => e = .returned (.int .i64 k) ∧ w = w' := by
  go_enter Tryz.func40, Tryz.ntmps40
  go_wp2_with fail
  go_loopw [1, 5] (fun lf i wr => lf = .int .i64 k ∧ i = .int .i64 0 ∧ wr = w) (fun _ _ _ => 0)
  case atStart => exact ⟨rfl, rfl, rfl⟩
  case round =>
    obtain ⟨rfl, rfl, rfl⟩ := hrel
    have hnlt : decide ((0 : Int) < ((0 : Nat) : Int)) = false := by simp
    go_wp2_with fail
    go_ret
    exact ⟨rfl, rfl⟩

set_option maxRecDepth 100000 in
theorem markAns0 (k : Int) (w : World) : Calls Tryz.prog 41 #[.slice none 0 0, .int .i64 k] w fun e w' => e = .returned (.int .i64 k) ∧ w = w' := by
  go_enter Tryz.func41, Tryz.ntmps41
  go_wp2_with fail
  go_loopw [1, 5] (fun lf i wr => lf = .int .i64 k ∧ i = .int .i64 0 ∧ wr = w) (fun _ _ _ => 0)
  case atStart => exact ⟨rfl, rfl, rfl⟩
  case round =>
    obtain ⟨rfl, rfl, rfl⟩ := hrel
    have hnlt : decide ((0 : Int) < ((0 : Nat) : Int)) = false := by simp
    go_wp2_with fail
    go_ret
    exact ⟨rfl, rfl⟩

set_option maxRecDepth 100000 in
theorem heldMsg0 (k : Int) (w : World) : Calls Tryz.prog 43 #[.slice none 0 0, .int .i64 k] w fun e w' => e = .returned (.int .i64 k) ∧ w = w' := by
  go_enter Tryz.func43, Tryz.ntmps43
  go_wp2_with fail
  go_loopw [1, 5] (fun lf i wr => lf = .int .i64 k ∧ i = .int .i64 0 ∧ wr = w) (fun _ _ _ => 0)
  case atStart => exact ⟨rfl, rfl, rfl⟩
  case round =>
    obtain ⟨rfl, rfl, rfl⟩ := hrel
    have hnlt : decide ((0 : Int) < ((0 : Nat) : Int)) = false := by simp
    go_wp2_with fail
    go_ret
    exact ⟨rfl, rfl⟩

set_option maxRecDepth 100000 in
theorem heldAns0 (k : Int) (w : World) : Calls Tryz.prog 44 #[.slice none 0 0, .int .i64 k] w fun e w' => e = .returned (.int .i64 k) ∧ w = w' := by
  go_enter Tryz.func44, Tryz.ntmps44
  go_wp2_with fail
  go_loopw [1, 5] (fun lf i wr => lf = .int .i64 k ∧ i = .int .i64 0 ∧ wr = w) (fun _ _ _ => 0)
  case atStart => exact ⟨rfl, rfl, rfl⟩
  case round =>
    obtain ⟨rfl, rfl, rfl⟩ := hrel
    have hnlt : decide ((0 : Int) < ((0 : Nat) : Int)) = false := by simp
    go_wp2_with fail
    go_ret
    exact ⟨rfl, rfl⟩

theorem all_lt {w : World} {A : Ads} {G : Blks} {n : Nd} (h : NodeW w A G n) : ∀ x ∈ G.all n, x < w.heap.size := fun x hx => by
  rcases Blks.mem_all.1 hx with h1 | h1 | h1 | h1 | h1 | h1
  · exact W_lt h.k x h1
  · exact W_lt h.p x h1
  · exact W_lt h.o x h1
  · exact SeenW_lt h.s x (List.mem_append.2 (.inl h1))
  · exact SeenW_lt h.s x (List.mem_append.2 (.inr h1))
  · exact W_lt h.r x h1
/-- A keeper's two nodes in rows of their own. -/
structure TwoW (w : World) (n : Nd) (A2 A1 : Ads) (G2 G1 : Blks) (s2 s1 : Nat) : Prop where
  b : NodeW w A2 G2 (mNodeK s2 n)
  n : NodeW w A1 G1 (mNodeK s1 n)

set_option maxRecDepth 100000 in
set_option maxHeartbeats 4000000 in
theorem markKeeper0 (n : Nd) (A2 A1 : Ads) (G2 G1 : Blks) (w : World) (hf : Few n) (hnd : (G2.all n).Nodup) (hnd1 : (G1.all n).Nodup) (hd : ∀ x ∈ G2.all n, x ∉ G1.all n) (h2 : NodeW w A2 G2 n) (h1 : NodeW w A1 G1 n) :
    Calls Tryz.prog 11 #[.agg (nkc n A2 A1), .int .i64 1] w fun e w' => e = .returned (.int .i64 (eNodeK (eNodeK 1 n) n : Nat)) ∧ TwoW w' n A2 A1 G2 G1 1 (eNodeK 1 n) ∧ KeepsL (G2.all n ++ G1.all n) w w' := by
  have hz : NdSz n 1048600 := hf.1.mono (by omega)
  have hb0 := below_one w (.cells (nkc n A2 A1) 39)
  have e0 := heap_alloc_new w (.cells (nkc n A2 A1) 39)
  have HW := hide e0
  have HMB := hide (fun W (h : NodeW W A2 G2 n) => markNodeK 1 (by omega) (by omega) n A2 G2 W hz hnd h)
  have HMN := hide (fun W (h : NodeW W A1 G1 n) => markNodeK (eNodeK 1 n) (eNodeK_pos hf.1 (by omega)) hf.2 n A1 G1 W hz hnd1 h)
  have H2 := hide (NodeW.below h2 hb0)
  have H1 := hide (NodeW.below h1 hb0)
  have HB := hide hb0
  have HD := hide hd
  have HL := hide (show (∀ x ∈ G2.all n, x < w.heap.size) ∧ ∀ x ∈ G1.all n, x < w.heap.size from ⟨all_lt h2, all_lt h1⟩)
  clear hz hb0 e0 hf hnd hnd1 hd h2 h1
  go_enter Tryz.func11, Tryz.ntmps11
  go_upto_region 1 with fail
  generalize w.alloc (.cells (nkc n A2 A1) 39) = W0 at *
  have c0 : W0.cell? ⟨w.heap.size, 0, none⟩ = some (.int .i64 n.id) := cell_of_row W0 w.heap.size 0 _ 39 (0, 0) (unhide HW)
  have c1 : W0.cell? ⟨w.heap.size, 1, none⟩ = some (.int .i64 n.par) := cell_of_row W0 w.heap.size 1 _ 39 (0, 0) (unhide HW)
  have c2 : W0.cell? ⟨w.heap.size, 2, none⟩ = some (.slice A2.k n.kids.length A2.ck) := cell_of_row W0 w.heap.size 2 _ 39 (0, 0) (unhide HW)
  have c3 : W0.cell? ⟨w.heap.size, 3, none⟩ = some (.int .i64 n.next) := cell_of_row W0 w.heap.size 3 _ 39 (0, 0) (unhide HW)
  have c4 : W0.cell? ⟨w.heap.size, 4, none⟩ = some (.slice A2.p n.pu.length A2.cp) := cell_of_row W0 w.heap.size 4 _ 39 (0, 0) (unhide HW)
  have c5 : W0.cell? ⟨w.heap.size, 5, none⟩ = some (.slice A2.o n.out.length A2.co) := cell_of_row W0 w.heap.size 5 _ 39 (0, 0) (unhide HW)
  have c6 : W0.cell? ⟨w.heap.size, 6, none⟩ = some (.slice A2.s n.seen.length A2.cs) := cell_of_row W0 w.heap.size 6 _ 39 (0, 0) (unhide HW)
  have c7 : W0.cell? ⟨w.heap.size, 7, none⟩ = some (.int .i64 n.old) := cell_of_row W0 w.heap.size 7 _ 39 (0, 0) (unhide HW)
  have c8 : W0.cell? ⟨w.heap.size, 8, none⟩ = some (.slice A2.r n.reqs.length A2.cr) := cell_of_row W0 w.heap.size 8 _ 39 (0, 0) (unhide HW)
  go_wp2_with fail
  refine (unhide HMB W0 (unhide H2)).mono ?_
  rintro e W1 ⟨rfl, hm, hk⟩
  have HM := hide hm
  have H11 := hide (NodeW.keeps (unhide H1) hk (fun x hx hx2 => unhide HD x hx2 hx))
  have HW1 := hide (hk.obj (unhide HW) (fun hx => by have := (unhide HL).1 _ hx; omega))
  have HK1 := hide (show KeepsL (G2.all n ++ G1.all n) w W1 from (KeepsL.of_below (unhide HB)).trans (hk.mono (fun x hx => List.mem_append.2 (.inl hx))))
  clear hm hk H1 H2 HW HMB HB
  clear c0 c1 c2 c3 c4 c5 c6 c7 c8
  have c9 : W1.cell? ⟨w.heap.size, 9, none⟩ = some (.int .i64 n.id) := cell_of_row W1 w.heap.size 9 _ 39 (0, 0) (unhide HW1)
  have c10 : W1.cell? ⟨w.heap.size, 10, none⟩ = some (.int .i64 n.par) := cell_of_row W1 w.heap.size 10 _ 39 (0, 0) (unhide HW1)
  have c11 : W1.cell? ⟨w.heap.size, 11, none⟩ = some (.slice A1.k n.kids.length A1.ck) := cell_of_row W1 w.heap.size 11 _ 39 (0, 0) (unhide HW1)
  have c12 : W1.cell? ⟨w.heap.size, 12, none⟩ = some (.int .i64 n.next) := cell_of_row W1 w.heap.size 12 _ 39 (0, 0) (unhide HW1)
  have c13 : W1.cell? ⟨w.heap.size, 13, none⟩ = some (.slice A1.p n.pu.length A1.cp) := cell_of_row W1 w.heap.size 13 _ 39 (0, 0) (unhide HW1)
  have c14 : W1.cell? ⟨w.heap.size, 14, none⟩ = some (.slice A1.o n.out.length A1.co) := cell_of_row W1 w.heap.size 14 _ 39 (0, 0) (unhide HW1)
  have c15 : W1.cell? ⟨w.heap.size, 15, none⟩ = some (.slice A1.s n.seen.length A1.cs) := cell_of_row W1 w.heap.size 15 _ 39 (0, 0) (unhide HW1)
  have c16 : W1.cell? ⟨w.heap.size, 16, none⟩ = some (.int .i64 n.old) := cell_of_row W1 w.heap.size 16 _ 39 (0, 0) (unhide HW1)
  have c17 : W1.cell? ⟨w.heap.size, 17, none⟩ = some (.slice A1.r n.reqs.length A1.cr) := cell_of_row W1 w.heap.size 17 _ 39 (0, 0) (unhide HW1)
  go_wp2_with fail
  refine (unhide HMN W1 (unhide H11)).mono ?_
  rintro e W2 ⟨rfl, hm, hk⟩
  have HM2 := hide hm
  have HMb := hide (NodeW.keeps (unhide HM) hk (fun x hx hx2 => unhide HD x (all_mk hx) hx2))
  have HW2 := hide (hk.obj (unhide HW1) (fun hx => by have := (unhide HL).2 _ hx; omega))
  have HK2 := hide (show KeepsL (G2.all n ++ G1.all n) w W2 from (unhide HK1).trans (hk.mono (fun x hx => List.mem_append.2 (.inr hx))))
  clear hm hk H11 HW1 HMN HM HK1
  clear c9 c10 c11 c12 c13 c14 c15 c16 c17
  have c20 : W2.cell? ⟨w.heap.size, 20, none⟩ = some (.slice none 0 0) := cell_of_row W2 w.heap.size 20 _ 39 (0, 0) (unhide HW2)
  have c21 : W2.cell? ⟨w.heap.size, 21, none⟩ = some (.slice none 0 0) := cell_of_row W2 w.heap.size 21 _ 39 (0, 0) (unhide HW2)
  go_wp2_with (first | (go_at_call 40; refine (markMsg0 _ _).mono ?_; rintro e w5 ⟨rfl, rfl⟩) | (go_at_call 41; refine (markAns0 _ _).mono ?_; rintro e w5 ⟨rfl, rfl⟩))
  go_ret
  exact ⟨rfl, ⟨unhide HMb, unhide HM2⟩, unhide HK2⟩

set_option maxRecDepth 100000 in
set_option maxHeartbeats 4000000 in
theorem heldKeeper0 (n : Nd) (A2 A1 : Ads) (G2 G1 : Blks) (w : World) (hf : Few n) (h : TwoW w n A2 A1 G2 G1 1 (eNodeK 1 n)) :
    Calls Tryz.prog 12 #[.agg (nkc n A2 A1), .int .i64 1] w fun e w' => e = .returned (.int .i64 (eNodeK (eNodeK 1 n) n : Nat)) ∧ Below w.heap.size w w' := by
  have hz : NdSz n 1048600 := hf.1.mono (by omega)
  have hb0 := below_one w (.cells (nkc n A2 A1) 39)
  have e0 := heap_alloc_new w (.cells (nkc n A2 A1) 39)
  have HW := hide e0
  have HMB := hide (fun W (hb : Below w.heap.size w W) => heldNodeK 1 (by omega) (by omega) n A2 G2 W hz (h.b.below hb))
  have HMN := hide (fun W (hb : Below w.heap.size w W) => heldNodeK (eNodeK 1 n) (eNodeK_pos hf.1 (by omega)) hf.2 n A1 G1 W hz (h.n.below hb))
  have HB := hide hb0
  clear hz hb0 e0 hf h
  have g1 : decide (((eNodeK 1 n : Nat) : Int) < 0) = false := by simp
  have g2 : decide (((eNodeK (eNodeK 1 n) n : Nat) : Int) < 0) = false := by simp
  generalize eNodeK (eNodeK 1 n) n = E2 at *
  generalize eNodeK 1 n = E1 at *
  go_enter Tryz.func12, Tryz.ntmps12
  go_upto_region 1 with fail
  generalize w.alloc (.cells (nkc n A2 A1) 39) = W0 at *
  have c0 : W0.cell? ⟨w.heap.size, 0, none⟩ = some (.int .i64 n.id) := cell_of_row W0 w.heap.size 0 _ 39 (0, 0) (unhide HW)
  have c1 : W0.cell? ⟨w.heap.size, 1, none⟩ = some (.int .i64 n.par) := cell_of_row W0 w.heap.size 1 _ 39 (0, 0) (unhide HW)
  have c2 : W0.cell? ⟨w.heap.size, 2, none⟩ = some (.slice A2.k n.kids.length A2.ck) := cell_of_row W0 w.heap.size 2 _ 39 (0, 0) (unhide HW)
  have c3 : W0.cell? ⟨w.heap.size, 3, none⟩ = some (.int .i64 n.next) := cell_of_row W0 w.heap.size 3 _ 39 (0, 0) (unhide HW)
  have c4 : W0.cell? ⟨w.heap.size, 4, none⟩ = some (.slice A2.p n.pu.length A2.cp) := cell_of_row W0 w.heap.size 4 _ 39 (0, 0) (unhide HW)
  have c5 : W0.cell? ⟨w.heap.size, 5, none⟩ = some (.slice A2.o n.out.length A2.co) := cell_of_row W0 w.heap.size 5 _ 39 (0, 0) (unhide HW)
  have c6 : W0.cell? ⟨w.heap.size, 6, none⟩ = some (.slice A2.s n.seen.length A2.cs) := cell_of_row W0 w.heap.size 6 _ 39 (0, 0) (unhide HW)
  have c7 : W0.cell? ⟨w.heap.size, 7, none⟩ = some (.int .i64 n.old) := cell_of_row W0 w.heap.size 7 _ 39 (0, 0) (unhide HW)
  have c8 : W0.cell? ⟨w.heap.size, 8, none⟩ = some (.slice A2.r n.reqs.length A2.cr) := cell_of_row W0 w.heap.size 8 _ 39 (0, 0) (unhide HW)
  go_wp2_with fail
  refine (unhide HMB W0 (unhide HB)).mono ?_
  rintro e W1 ⟨rfl, hb⟩
  have HW1 := hide (obj_step (unhide HW) hb)
  have HB1 := hide ((unhide HB).trans (hb.mono (unhide HB).size))
  clear hb HW HMB HB
  clear c0 c1 c2 c3 c4 c5 c6 c7 c8
  have c9 : W1.cell? ⟨w.heap.size, 9, none⟩ = some (.int .i64 n.id) := cell_of_row W1 w.heap.size 9 _ 39 (0, 0) (unhide HW1)
  have c10 : W1.cell? ⟨w.heap.size, 10, none⟩ = some (.int .i64 n.par) := cell_of_row W1 w.heap.size 10 _ 39 (0, 0) (unhide HW1)
  have c11 : W1.cell? ⟨w.heap.size, 11, none⟩ = some (.slice A1.k n.kids.length A1.ck) := cell_of_row W1 w.heap.size 11 _ 39 (0, 0) (unhide HW1)
  have c12 : W1.cell? ⟨w.heap.size, 12, none⟩ = some (.int .i64 n.next) := cell_of_row W1 w.heap.size 12 _ 39 (0, 0) (unhide HW1)
  have c13 : W1.cell? ⟨w.heap.size, 13, none⟩ = some (.slice A1.p n.pu.length A1.cp) := cell_of_row W1 w.heap.size 13 _ 39 (0, 0) (unhide HW1)
  have c14 : W1.cell? ⟨w.heap.size, 14, none⟩ = some (.slice A1.o n.out.length A1.co) := cell_of_row W1 w.heap.size 14 _ 39 (0, 0) (unhide HW1)
  have c15 : W1.cell? ⟨w.heap.size, 15, none⟩ = some (.slice A1.s n.seen.length A1.cs) := cell_of_row W1 w.heap.size 15 _ 39 (0, 0) (unhide HW1)
  have c16 : W1.cell? ⟨w.heap.size, 16, none⟩ = some (.int .i64 n.old) := cell_of_row W1 w.heap.size 16 _ 39 (0, 0) (unhide HW1)
  have c17 : W1.cell? ⟨w.heap.size, 17, none⟩ = some (.slice A1.r n.reqs.length A1.cr) := cell_of_row W1 w.heap.size 17 _ 39 (0, 0) (unhide HW1)
  go_wp2_with fail
  refine (unhide HMN W1 (unhide HB1)).mono ?_
  rintro e W2 ⟨rfl, hb⟩
  have HW2 := hide (obj_step (unhide HW1) hb)
  have HB2 := hide ((unhide HB1).trans (hb.mono (unhide HB1).size))
  clear hb HW1 HMN HB1
  clear c9 c10 c11 c12 c13 c14 c15 c16 c17
  have c20 : W2.cell? ⟨w.heap.size, 20, none⟩ = some (.slice none 0 0) := cell_of_row W2 w.heap.size 20 _ 39 (0, 0) (unhide HW2)
  have c21 : W2.cell? ⟨w.heap.size, 21, none⟩ = some (.slice none 0 0) := cell_of_row W2 w.heap.size 21 _ 39 (0, 0) (unhide HW2)
  go_wp2_with (first | (go_at_call 43; refine (heldMsg0 _ _).mono ?_; rintro e w5 ⟨rfl, rfl⟩) | (go_at_call 44; refine (heldAns0 _ _).mono ?_; rintro e w5 ⟨rfl, rfl⟩))
  go_ret
  exact ⟨rfl, unhide HB2⟩

namespace Mth
/-- An operation: kind, number, key, amount, message. -/
structure Op5 where
  K : Int
  no : Int
  k : ByteArray
  n : Int
  m : Mg
end Mth
abbrev opw (o : Op5) : Value := .agg #[.int .i64 o.K, .int .i64 o.no, .string o.k, .int .i64 o.n, .int .i64 o.m.K, .int .i64 o.m.F, .int .i64 o.m.T, .int .i64 o.m.I, .int .i64 o.m.L, .string o.m.k, .int .i64 o.m.N]
open Go.WideShapes



/-- An answer; what was told; what was given back. -/
structure An where
  o : Op5
  c : Int
abbrev encMg (x : Mg) : List Value := [.int .i64 x.K, .int .i64 x.F, .int .i64 x.T, .int .i64 x.I, .int .i64 x.L, .string x.k, .int .i64 x.N]
abbrev encAn (x : An) : List Value := [.int .i64 x.o.K, .int .i64 x.o.no, .string x.o.k, .int .i64 x.o.n, .int .i64 x.o.m.K, .int .i64 x.o.m.F, .int .i64 x.o.m.T, .int .i64 x.o.m.I, .int .i64 x.o.m.L, .string x.o.m.k, .int .i64 x.o.m.N, .int .i64 x.c]
abbrev anv (x : An) : Value := .agg #[.int .i64 x.o.K, .int .i64 x.o.no, .string x.o.k, .int .i64 x.o.n, .int .i64 x.o.m.K, .int .i64 x.o.m.F, .int .i64 x.o.m.T, .int .i64 x.o.m.I, .int .i64 x.o.m.L, .string x.o.m.k, .int .i64 x.o.m.N, .int .i64 x.c]
theorem eqMsgW (m : Mg) (w : World) : Calls Tryz.prog 69 #[mgv m, mgv m] w fun e w' => e = .returned (.bool true) ∧ Below w.heap.size w w' := by
  obtain ⟨mK, mF, mT, mI, mL, mk, mN⟩ := m
  go_enter Tryz.func69, Tryz.ntmps69
  go_wp2_with fail
  go_ret
  exact ⟨rfl, ((Below.refl _ _).alloc (Nat.le_refl _) _).alloc (by simp) _⟩
set_option maxRecDepth 100000 in
set_option maxHeartbeats 2000000 in
theorem eqOpW (o : Op5) (w : World) : Calls Tryz.prog 95 #[opw o, opw o] w fun e w' => e = .returned (.bool true) ∧ Below w.heap.size w w' := by
  obtain ⟨K, no, k, n, m⟩ := o
  have HQ := hide (fun w1 => eqMsgW m w1)
  obtain ⟨mK, mF, mT, mI, mL, mk, mN⟩ := m
  go_enter Tryz.func95, Tryz.ntmps95
  go_wp2_with fail
  refine (unhide HQ _).mono ?_
  rintro e w1 ⟨rfl, hb1⟩
  have hB := ((below_one w _).trans ((below_one (w.alloc _) _).mono (by simp))).trans (hb1.mono (by simp; omega))
  clear hb1
  go_wp2_with fail
  go_ret
  exact ⟨rfl, hB⟩
set_option maxRecDepth 100000 in
set_option maxHeartbeats 2000000 in
theorem eqAnswerW (x : An) (w : World) : Calls Tryz.prog 70 #[anv x, anv x] w fun e w' => e = .returned (.bool true) ∧ Below w.heap.size w w' := by
  have HQ := hide (fun w1 => eqOpW x.o w1)
  obtain ⟨⟨oK, ono, ok, on, ⟨mK, mF, mT, mI, mL, mk, mN⟩⟩, ac⟩ := x
  have hB0 := (below_one w (.cells #[.int .i64 oK, .int .i64 ono, .string ok, .int .i64 on, .int .i64 mK, .int .i64 mF, .int .i64 mT, .int .i64 mI, .int .i64 mL, .string mk, .int .i64 mN, .int .i64 ac] 122)).trans ((below_one (w.alloc (.cells #[.int .i64 oK, .int .i64 ono, .string ok, .int .i64 on, .int .i64 mK, .int .i64 mF, .int .i64 mT, .int .i64 mI, .int .i64 mL, .string mk, .int .i64 mN, .int .i64 ac] 122)) (.cells #[.int .i64 oK, .int .i64 ono, .string ok, .int .i64 on, .int .i64 mK, .int .i64 mF, .int .i64 mT, .int .i64 mI, .int .i64 mL, .string mk, .int .i64 mN, .int .i64 ac] 122)).mono (by simp))
  have HB0 := hide hB0
  have h1 := obj_step (heap_alloc_new w (.cells #[.int .i64 oK, .int .i64 ono, .string ok, .int .i64 on, .int .i64 mK, .int .i64 mF, .int .i64 mT, .int .i64 mI, .int .i64 mL, .string mk, .int .i64 mN, .int .i64 ac] 122)) (below_one (w.alloc (.cells #[.int .i64 oK, .int .i64 ono, .string ok, .int .i64 on, .int .i64 mK, .int .i64 mF, .int .i64 mT, .int .i64 mI, .int .i64 mL, .string mk, .int .i64 mN, .int .i64 ac] 122)) (.cells #[.int .i64 oK, .int .i64 ono, .string ok, .int .i64 on, .int .i64 mK, .int .i64 mF, .int .i64 mT, .int .i64 mI, .int .i64 mL, .string mk, .int .i64 mN, .int .i64 ac] 122))
  have h2 := heap_alloc_new (w.alloc (.cells #[.int .i64 oK, .int .i64 ono, .string ok, .int .i64 on, .int .i64 mK, .int .i64 mF, .int .i64 mT, .int .i64 mI, .int .i64 mL, .string mk, .int .i64 mN, .int .i64 ac] 122)) (.cells #[.int .i64 oK, .int .i64 ono, .string ok, .int .i64 on, .int .i64 mK, .int .i64 mF, .int .i64 mT, .int .i64 mI, .int .i64 mL, .string mk, .int .i64 mN, .int .i64 ac] 122)
  have hS : (w.alloc (.cells #[.int .i64 oK, .int .i64 ono, .string ok, .int .i64 on, .int .i64 mK, .int .i64 mF, .int .i64 mT, .int .i64 mI, .int .i64 mL, .string mk, .int .i64 mN, .int .i64 ac] 122)).heap.size = w.heap.size + 1 := by simp
  rw [hS] at h2
  have HA1 := hide h1
  have HA2 := hide h2
  clear hB0 h1 h2 hS
  go_enter Tryz.func70, Tryz.ntmps70
  go_wp2_with fail
  refine (unhide HQ _).mono ?_
  rintro e w1 ⟨rfl, hb1⟩
  have HB1 := hide ((unhide HB0).trans (hb1.mono (unhide HB0).size))
  have c1 : w1.cell? ⟨w.heap.size, 11, none⟩ = some (.int .i64 ac) := cell_of_row _ _ 11 _ _ _ (obj_step (unhide HA1) hb1)
  have c2 : w1.cell? ⟨w.heap.size + 1, 11, none⟩ = some (.int .i64 ac) := cell_of_row _ _ 11 _ _ _ (obj_step (unhide HA2) hb1)
  clear hb1 HA1 HA2
  go_wp2_with fail
  go_ret
  exact ⟨rfl, unhide HB1⟩
end Go.Proofs.YtcfcngbfnflbgaaGreatDoor
