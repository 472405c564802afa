/- Parts. -/
import Derived.Test.YtikdkijggejnfaaGreatDoorPj10
import Derived.Test.YtikdkijggejnfaaGreatDoorPj18
import Derived.Test.YtikdkijggejnfaaGreatDoorPj5
import Derived.Test.YtikdkijggejnfaaGreatDoorPj8
import Derived.Test.YtikdkijggejnfaaGreatDoorPj15
import Derived.BigQuiet
import Derived.Deep.QuietTactic
namespace Go.Proofs.YtikdkijggejnfaaGreatDoor
open Go.RowKit
open Mth

/-- All blocks but one read as before; new ones may lie behind. -/
structure Keep1 (g : Nat) (w w' : World) : Prop where
  os : w'.os = w.os
  tape : w'.tape = w.tape
  output : w'.output = w.output
  size : w.heap.size ≤ w'.heap.size
  block : ∀ k, k < w.heap.size → k ≠ g → w'.heap[k]? = w.heap[k]?
theorem Keep1.of_below {g : Nat} {w w' : World} (h : Below w.heap.size w w') : Keep1 g w w' := ⟨h.os, h.tape, h.output, h.size, fun k hk _ => h.block k hk⟩
theorem Keep1.trans {g : Nat} {a b c : World} (h : Keep1 g a b) (k : Keep1 g b c) : Keep1 g a c :=
  ⟨k.os.trans h.os, k.tape.trans h.tape, k.output.trans h.output, Nat.le_trans h.size k.size, fun i hi hg => (k.block i (Nat.lt_of_lt_of_le hi h.size) hg).trans (h.block i hi hg)⟩
theorem Keep1.set {g i : Nat} {w : World} (v : Value) : Keep1 g w (w.setCell ⟨g, i, none⟩ v) := ⟨rfl, rfl, rfl, by simp [World.setCell], fun k _ hg => Below.heap_setCell _ _ _ _ hg⟩
theorem Keep1.below {g B : Nat} {a w w' : World} (hb : Below B a w) (h : Keep1 g w w') (hg : B ≤ g) (hB : B ≤ w.heap.size) : Below B a w' :=
  ⟨h.os.trans hb.os, h.tape.trans hb.tape, h.output.trans hb.output, Nat.le_trans hb.size h.size, fun k hk => (h.block k (by omega) (by omega)).trans (hb.block k hk)⟩
theorem Keep1.obj {g k : Nat} {w w' : World} {o : Obj} (h : Keep1 g w w') (hk : w.heap[k]? = some o) (hne : k ≠ g) : w'.heap[k]? = some o := by rw [h.block k (blk_lt hk) hne]; exact hk
/-- How a reader that fails ends. -/
abbrev pnc (p : Int) : Ending := .panicked [{ v := .iface 83 (.agg #[.int .i64 p]), recovered := false }]
abbrev RdAt (w : World) (g : Nat) (s : ByteArray) (i : Int) : Prop := w.heap[g]? = some (.cells #[.string s, .int .i64 i] 90 (0, 0))
theorem RdAt.two {w : World} {g : Nat} {s : ByteArray} {i : Int} (h : RdAt w g s i) : w.cell? ⟨g, 0, none⟩ = some (.string s) ∧ w.cell? ⟨g, 1, none⟩ = some (.int .i64 i) ∧ w.frozen? ⟨g, 0, none⟩ = false ∧ w.frozen? ⟨g, 1, none⟩ = false := by
  have hf : ∀ i, w.frozen? ⟨g, i, none⟩ = false := fun i => by unfold World.frozen?; rw [h]; simp
  have hc : ∀ j, w.cell? ⟨g, j, none⟩ = #[Value.string s, Value.int .i64 i][j]? := fun j => cell_of_row w g j _ 90 (0, 0) h
  exact ⟨hc 0, hc 1, hf 0, hf 1⟩
theorem RdAt.set {w : World} {g : Nat} {s : ByteArray} {i : Int} (h : RdAt w g s i) (j : Int) : RdAt (w.setCell ⟨g, 1, none⟩ (.int .i64 j)) g s j := blk_set h 1 (.int .i64 j)
theorem drewN_belowR (w : World) (n : Nat) : Below w.heap.size w (w.drewN n) := ⟨rfl, rfl, rfl, Nat.le_refl _, fun _ _ => rfl⟩
theorem rdFail (g : Nat) (s : ByteArray) (i : Int) (w : World) (h : RdAt w g s i) : Calls Tryz.prog 95 #[.pointer (some ⟨g, 0, none⟩)] w fun e w' => e = pnc i ∧ w = w' := by
  obtain ⟨c0, c1, f0, f1⟩ := h.two
  clear h
  go_enter Tryz.func95, Tryz.ntmps95
  go_wp2_with fail
  exact ⟨rfl, rfl, rfl⟩
theorem rdGo_no (g : Nat) (s : ByteArray) (i n : Int) (w : World) (h : RdAt w g s i) (hn : n < 0) : Calls Tryz.prog 112 #[.pointer (some ⟨g, 0, none⟩), .int .i64 n] w fun e w' => e = pnc i ∧ w = w' := by
  have HF := hide (fun w1 h => rdFail g s i w1 h)
  have H := hide h
  clear h
  go_enter Tryz.func112, Tryz.ntmps112
  go_wp2_with fail
  refine (unhide HF _ (unhide H)).mono ?_
  rintro e w1 ⟨rfl, rfl⟩
  go_wp2_with fail
  exact ⟨rfl, rfl, rfl⟩
theorem rdGo_yes (g : Nat) (s : ByteArray) (i n : Int) (w : World) (h : RdAt w g s i) (hn : 0 ≤ n) : Calls Tryz.prog 112 #[.pointer (some ⟨g, 0, none⟩), .int .i64 n] w fun e w' => e = .returned (.tuple #[]) ∧ w.setCell ⟨g, 1, none⟩ (.int .i64 n) = w' := by
  obtain ⟨c0, c1, f0, f1⟩ := h.two
  have hn2 : ¬ n < 0 := by omega
  clear h
  go_enter Tryz.func112, Tryz.ntmps112
  go_wp2_with fail
  exact bodyPost_end (v := .tuple #[]) (by simp [results, Tryz.results112, go_sem]) rfl ⟨rfl, rfl⟩
theorem rdKind_no (g : Nat) (s : ByteArray) (w : World) (h : RdAt w g s 0) (hs : s.size = 0) : Calls Tryz.prog 91 #[.pointer (some ⟨g, 0, none⟩)] w fun e w' => e = pnc 0 ∧ Below w.heap.size w w' := by
  have HF := hide (fun w1 h => rdFail g s 0 w1 h)
  obtain ⟨c0, c1, f0, f1⟩ := h.two
  have H := hide h
  have he : ((0 : Int) == (s.size : Int)) = true := by simp [hs]
  clear h
  go_enter Tryz.func91, Tryz.ntmps91
  go_upto_region 1 with fail
  go_quiet (fail)
  go_wp2_with fail
  refine (unhide HF _ (blk_step (unhide H) (drewN_belowR w _))).mono ?_
  rintro e w1 ⟨rfl, rfl⟩
  go_wp2_with fail
  exact ⟨rfl, rfl, drewN_belowR w _⟩
set_option maxHeartbeats 1000000 in
theorem rdKind_yes (g : Nat) (s : ByteArray) (w : World) (h : RdAt w g s 0) (hs : 0 < s.size) : Calls Tryz.prog 91 #[.pointer (some ⟨g, 0, none⟩)] w fun e w' => e = .returned (.int .i64 (s[0].toNat : Int)) ∧ RdAt w' g s 1 ∧ Keep1 g w w' := by
  obtain ⟨c0, c1, f0, f1⟩ := h.two
  have H := hide h
  have he : ((0 : Int) == (s.size : Int)) = false := by simp; omega
  have he2 : ¬ ((0 : Int) = (s.size : Int)) := by omega
  have hi0 : (0 : Int) < (s.size : Int) := by omega
  have hb0 : s[0].toNat < 256 := s[0].toNat_lt
  have hw64 : wrap64 (s[0].toNat : Int) = (s[0].toNat : Int) := IntWalk.wrap64_in _ ⟨by omega, by omega⟩
  clear h
  go_enter Tryz.func91, Tryz.ntmps91
  go_upto_region 1 with fail
  go_quiet (fail)
  go_upto_region 4 with fail
  refine wp_at (fun V hV => ?_)
  have HRV : Hid (RdAt V g s 1) := by rw [hV]; exact (show RdAt (w.drewN _) g s 0 from unhide H).set 1
  have HKV : Hid (Keep1 g w V) := by rw [hV]; exact (Keep1.of_below (drewN_belowR w _)).trans (Keep1.set _)
  clear hV c0 c1 f0 f1
  obtain ⟨c0, c1, f0, f1⟩ := (unhide HRV).two
  go_quiet (fail)
  go_wp2_with fail
  go_ret
  exact ⟨rfl, blk_step (unhide HRV) (drewN_belowR V _), (unhide HKV).trans (Keep1.of_below (drewN_belowR V _))⟩

set_option maxRecDepth 100000 in
set_option maxHeartbeats 2000000 in
theorem rdNum_no (g : Nat) (s : ByteArray) (i : Int) (w : World) (hs : s.size ≤ maxLen) (h : RdAt w g s i) (hH : Handle w) (hE : rdE s i < 0) : Calls Tryz.prog 92 #[.pointer (some ⟨g, 0, none⟩)] w fun e w' => e = pnc i ∧ Below w.heap.size w w' := by
  have HC := hide (fun w1 h => implRd s i hs w1 h)
  have HG := hide (fun w1 h => rdGo_no g s i (rdE s i) w1 h hE)
  have HTG := hide (fun p : Regrown => hH.below (below_regrown w p.d p.os))
  have H := hide h
  obtain ⟨c0, c1, f0, f1⟩ := h.two
  clear h hs hH hE f0 f1
  generalize rdE s i = E at *
  generalize rdN s i = R at *
  go_enter Tryz.func92, Tryz.ntmps92
  go_upto_region 1 with fail
  have y0 := cell_regrown c0
  have y1 := cell_regrown c1
  clear c0 c1
  refine wp_region_mix (by kernel_rfl) ?_
  show wpMix _ _ _ _ 14 (Array.replicate 14 false) _ _
  refine wpMix_take 0 rfl (by kernel_rfl) (by kernel_rfl) (by kernel_rfl) (fun _ _ _ _ h => h) (fun K hK => ?_)
  go_simp
  first
    | (refine hK _ ?_; clear hK K)
    | (apply Exists.intro
       refine ⟨fun _ => ?_, hK _ ?_⟩
       (fail)
       clear hK K)
  refine wpMix_take 1 rfl (by kernel_rfl) (by kernel_rfl) (by kernel_rfl) (fun _ _ _ _ h => h) (fun K hK => ?_)
  go_simp
  first
    | (refine hK _ ?_; clear hK K)
    | (apply Exists.intro
       refine ⟨fun _ => ?_, hK _ ?_⟩
       (fail)
       clear hK K)
  refine wpMix_take 2 rfl (by kernel_rfl) (by kernel_rfl) (by kernel_rfl) (fun _ _ _ _ h => h) (fun K hK => ?_)
  go_simp
  first
    | (refine hK _ ?_; clear hK K)
    | (apply Exists.intro
       refine ⟨fun _ => ?_, hK _ ?_⟩
       (fail)
       clear hK K)
  refine wpMix_take 3 rfl (by kernel_rfl) (by kernel_rfl) (by kernel_rfl) (fun _ _ _ _ h => h) (fun K hK => ?_)
  go_simp
  first
    | (refine hK _ ?_; clear hK K)
    | (apply Exists.intro
       refine ⟨fun _ => ?_, hK _ ?_⟩
       (fail)
       clear hK K)
  refine wpMix_take 4 rfl (by kernel_rfl) (by kernel_rfl) (by kernel_rfl) (fun _ _ _ _ h => h) (fun K hK => ?_)
  go_simp
  first
    | (refine hK _ ?_; clear hK K)
    | (apply Exists.intro
       refine ⟨fun _ => ?_, hK _ ?_⟩
       (fail)
       clear hK K)
  refine wpMix_take 5 rfl (by kernel_rfl) (by kernel_rfl) (by kernel_rfl) (fun _ _ _ _ h => h) (fun K hK => ?_)
  go_simp
  first
    | (refine hK _ ?_; clear hK K)
    | (apply Exists.intro
       refine ⟨fun _ => ?_, hK _ ?_⟩
       (fail)
       clear hK K)
  refine wpMix_take 6 rfl (by kernel_rfl) (by kernel_rfl) (by kernel_rfl) (fun _ _ _ _ h => h) (fun K hK => ?_)
  go_simp
  first
    | (refine hK _ ?_; clear hK K)
    | (apply Exists.intro
       refine ⟨fun _ => ?_, hK _ ?_⟩
       (fail)
       clear hK K)
  refine wpMix_take 7 rfl (by kernel_rfl) (by kernel_rfl) (by kernel_rfl) (fun _ _ _ _ h => h) (fun K hK => ?_)
  go_simp
  first
    | (refine hK _ ?_; clear hK K)
    | (apply Exists.intro
       refine ⟨fun _ => ?_, hK _ ?_⟩
       (fail)
       clear hK K)
  refine wpMix_take 8 rfl (by kernel_rfl) (by kernel_rfl) (by kernel_rfl) (fun _ _ _ _ h => h) (fun K hK => ?_)
  go_simp
  first
    | (refine hK _ ?_; clear hK K)
    | (apply Exists.intro
       refine ⟨fun _ => ?_, hK _ ?_⟩
       (exact unhide HC _ (unhide HTG _))
       clear hK K)
  refine wpMix_take 9 rfl (by kernel_rfl) (by kernel_rfl) (by kernel_rfl) (fun _ _ _ _ h => h) (fun K hK => ?_)
  go_simp
  first
    | (refine hK _ ?_; clear hK K)
    | (apply Exists.intro
       refine ⟨fun _ => ?_, hK _ ?_⟩
       (fail)
       clear hK K)
  refine wpMix_take 10 rfl (by kernel_rfl) (by kernel_rfl) (by kernel_rfl) (fun _ _ _ _ h => h) (fun K hK => ?_)
  go_simp
  first
    | (refine hK _ ?_; clear hK K)
    | (apply Exists.intro
       refine ⟨fun _ => ?_, hK _ ?_⟩
       (fail)
       clear hK K)
  refine wpMix_take 11 rfl (by kernel_rfl) (by kernel_rfl) (by kernel_rfl) (fun _ _ _ _ h => h) (fun K hK => ?_)
  go_simp
  first
    | (refine hK _ ?_; clear hK K)
    | (apply Exists.intro
       refine ⟨fun _ => ?_, hK _ ?_⟩
       (fail)
       clear hK K)
  refine wpMix_take 12 rfl (by kernel_rfl) (by kernel_rfl) (by kernel_rfl) (fun _ _ _ _ h => h) (fun K hK => ?_)
  go_simp
  first
    | (refine hK _ ?_; clear hK K)
    | (apply Exists.intro
       refine ⟨fun _ => ?_, hK _ ?_⟩
       (fail)
       clear hK K)
  refine wpMix_take 13 rfl (by kernel_rfl) (by kernel_rfl) (by kernel_rfl) (fun _ _ _ _ h => h) (fun K hK => ?_)
  go_simp
  first
    | (refine hK _ ?_; clear hK K)
    | (apply Exists.intro
       refine ⟨fun _ => ?_, hK _ ?_⟩
       (fail)
       clear hK K)
  refine wpMix_done (by kernel_rfl) (fun z hz => ?_)
  have HZ := hide hz
  have HRZ := hide (blk_step (unhide H) hz)
  clear hz y0 y1 HTG HC H
  go_simp
  go_wp2_with fail
  refine (unhide HG _ (unhide HRZ)).mono ?_
  rintro e w1 ⟨rfl, rfl⟩
  go_wp2_with fail
  exact ⟨rfl, rfl, unhide HZ⟩
set_option maxRecDepth 100000 in
set_option maxHeartbeats 2000000 in
theorem rdNum_yes (g : Nat) (s : ByteArray) (i : Int) (w : World) (hs : s.size ≤ maxLen) (h : RdAt w g s i) (hH : Handle w) (hE : 0 ≤ rdE s i) : Calls Tryz.prog 92 #[.pointer (some ⟨g, 0, none⟩)] w fun e w' => e = .returned (.int .i64 (rdN s i)) ∧ RdAt w' g s (rdE s i) ∧ Keep1 g w w' := by
  have HC := hide (fun w1 h => implRd s i hs w1 h)
  have HG := hide (fun w1 h => rdGo_yes g s i (rdE s i) w1 h hE)
  have HTG := hide (fun p : Regrown => hH.below (below_regrown w p.d p.os))
  have H := hide h
  obtain ⟨c0, c1, f0, f1⟩ := h.two
  clear h hs hH hE f0 f1
  generalize rdE s i = E at *
  generalize rdN s i = R at *
  go_enter Tryz.func92, Tryz.ntmps92
  go_upto_region 1 with fail
  have y0 := cell_regrown c0
  have y1 := cell_regrown c1
  clear c0 c1
  refine wp_region_mix (by kernel_rfl) ?_
  show wpMix _ _ _ _ 14 (Array.replicate 14 false) _ _
  refine wpMix_take 0 rfl (by kernel_rfl) (by kernel_rfl) (by kernel_rfl) (fun _ _ _ _ h => h) (fun K hK => ?_)
  go_simp
  first
    | (refine hK _ ?_; clear hK K)
    | (apply Exists.intro
       refine ⟨fun _ => ?_, hK _ ?_⟩
       (fail)
       clear hK K)
  refine wpMix_take 1 rfl (by kernel_rfl) (by kernel_rfl) (by kernel_rfl) (fun _ _ _ _ h => h) (fun K hK => ?_)
  go_simp
  first
    | (refine hK _ ?_; clear hK K)
    | (apply Exists.intro
       refine ⟨fun _ => ?_, hK _ ?_⟩
       (fail)
       clear hK K)
  refine wpMix_take 2 rfl (by kernel_rfl) (by kernel_rfl) (by kernel_rfl) (fun _ _ _ _ h => h) (fun K hK => ?_)
  go_simp
  first
    | (refine hK _ ?_; clear hK K)
    | (apply Exists.intro
       refine ⟨fun _ => ?_, hK _ ?_⟩
       (fail)
       clear hK K)
  refine wpMix_take 3 rfl (by kernel_rfl) (by kernel_rfl) (by kernel_rfl) (fun _ _ _ _ h => h) (fun K hK => ?_)
  go_simp
  first
    | (refine hK _ ?_; clear hK K)
    | (apply Exists.intro
       refine ⟨fun _ => ?_, hK _ ?_⟩
       (fail)
       clear hK K)
  refine wpMix_take 4 rfl (by kernel_rfl) (by kernel_rfl) (by kernel_rfl) (fun _ _ _ _ h => h) (fun K hK => ?_)
  go_simp
  first
    | (refine hK _ ?_; clear hK K)
    | (apply Exists.intro
       refine ⟨fun _ => ?_, hK _ ?_⟩
       (fail)
       clear hK K)
  refine wpMix_take 5 rfl (by kernel_rfl) (by kernel_rfl) (by kernel_rfl) (fun _ _ _ _ h => h) (fun K hK => ?_)
  go_simp
  first
    | (refine hK _ ?_; clear hK K)
    | (apply Exists.intro
       refine ⟨fun _ => ?_, hK _ ?_⟩
       (fail)
       clear hK K)
  refine wpMix_take 6 rfl (by kernel_rfl) (by kernel_rfl) (by kernel_rfl) (fun _ _ _ _ h => h) (fun K hK => ?_)
  go_simp
  first
    | (refine hK _ ?_; clear hK K)
    | (apply Exists.intro
       refine ⟨fun _ => ?_, hK _ ?_⟩
       (fail)
       clear hK K)
  refine wpMix_take 7 rfl (by kernel_rfl) (by kernel_rfl) (by kernel_rfl) (fun _ _ _ _ h => h) (fun K hK => ?_)
  go_simp
  first
    | (refine hK _ ?_; clear hK K)
    | (apply Exists.intro
       refine ⟨fun _ => ?_, hK _ ?_⟩
       (fail)
       clear hK K)
  refine wpMix_take 8 rfl (by kernel_rfl) (by kernel_rfl) (by kernel_rfl) (fun _ _ _ _ h => h) (fun K hK => ?_)
  go_simp
  first
    | (refine hK _ ?_; clear hK K)
    | (apply Exists.intro
       refine ⟨fun _ => ?_, hK _ ?_⟩
       (exact unhide HC _ (unhide HTG _))
       clear hK K)
  refine wpMix_take 9 rfl (by kernel_rfl) (by kernel_rfl) (by kernel_rfl) (fun _ _ _ _ h => h) (fun K hK => ?_)
  go_simp
  first
    | (refine hK _ ?_; clear hK K)
    | (apply Exists.intro
       refine ⟨fun _ => ?_, hK _ ?_⟩
       (fail)
       clear hK K)
  refine wpMix_take 10 rfl (by kernel_rfl) (by kernel_rfl) (by kernel_rfl) (fun _ _ _ _ h => h) (fun K hK => ?_)
  go_simp
  first
    | (refine hK _ ?_; clear hK K)
    | (apply Exists.intro
       refine ⟨fun _ => ?_, hK _ ?_⟩
       (fail)
       clear hK K)
  refine wpMix_take 11 rfl (by kernel_rfl) (by kernel_rfl) (by kernel_rfl) (fun _ _ _ _ h => h) (fun K hK => ?_)
  go_simp
  first
    | (refine hK _ ?_; clear hK K)
    | (apply Exists.intro
       refine ⟨fun _ => ?_, hK _ ?_⟩
       (fail)
       clear hK K)
  refine wpMix_take 12 rfl (by kernel_rfl) (by kernel_rfl) (by kernel_rfl) (fun _ _ _ _ h => h) (fun K hK => ?_)
  go_simp
  first
    | (refine hK _ ?_; clear hK K)
    | (apply Exists.intro
       refine ⟨fun _ => ?_, hK _ ?_⟩
       (fail)
       clear hK K)
  refine wpMix_take 13 rfl (by kernel_rfl) (by kernel_rfl) (by kernel_rfl) (fun _ _ _ _ h => h) (fun K hK => ?_)
  go_simp
  first
    | (refine hK _ ?_; clear hK K)
    | (apply Exists.intro
       refine ⟨fun _ => ?_, hK _ ?_⟩
       (fail)
       clear hK K)
  refine wpMix_done (by kernel_rfl) (fun z hz => ?_)
  have HZ := hide hz
  have HRZ := hide (blk_step (unhide H) hz)
  clear hz y0 y1 HTG HC H
  go_simp
  go_wp2_with fail
  refine (unhide HG _ (unhide HRZ)).mono ?_
  rintro e w1 ⟨rfl, rfl⟩
  go_wp2_with fail
  go_ret
  exact ⟨rfl, RdAt.set (unhide HRZ) _, (Keep1.of_below (unhide HZ)).trans (Keep1.set _)⟩
set_option maxRecDepth 100000 in
set_option maxHeartbeats 2000000 in
theorem rdText_no (g : Nat) (s : ByteArray) (i : Int) (w : World) (hs : s.size ≤ maxLen) (h : RdAt w g s i) (hH : Handle w) (hE : rtE s i < 0) : Calls Tryz.prog 93 #[.pointer (some ⟨g, 0, none⟩)] w fun e w' => e = pnc i ∧ Below w.heap.size w w' := by
  have HC := hide (fun w1 h => implRt s i hs w1 h)
  have HG := hide (fun w1 h => rdGo_no g s i (rtE s i) w1 h hE)
  have HTG := hide (fun p : Regrown => hH.below (below_regrown w p.d p.os))
  have H := hide h
  obtain ⟨c0, c1, f0, f1⟩ := h.two
  clear h hs hH hE f0 f1
  generalize rtE s i = E at *
  generalize rtS s i = R at *
  go_enter Tryz.func93, Tryz.ntmps93
  go_upto_region 1 with fail
  have y0 := cell_regrown c0
  have y1 := cell_regrown c1
  clear c0 c1
  refine wp_region_mix (by kernel_rfl) ?_
  show wpMix _ _ _ _ 14 (Array.replicate 14 false) _ _
  refine wpMix_take 0 rfl (by kernel_rfl) (by kernel_rfl) (by kernel_rfl) (fun _ _ _ _ h => h) (fun K hK => ?_)
  go_simp
  first
    | (refine hK _ ?_; clear hK K)
    | (apply Exists.intro
       refine ⟨fun _ => ?_, hK _ ?_⟩
       (fail)
       clear hK K)
  refine wpMix_take 1 rfl (by kernel_rfl) (by kernel_rfl) (by kernel_rfl) (fun _ _ _ _ h => h) (fun K hK => ?_)
  go_simp
  first
    | (refine hK _ ?_; clear hK K)
    | (apply Exists.intro
       refine ⟨fun _ => ?_, hK _ ?_⟩
       (fail)
       clear hK K)
  refine wpMix_take 2 rfl (by kernel_rfl) (by kernel_rfl) (by kernel_rfl) (fun _ _ _ _ h => h) (fun K hK => ?_)
  go_simp
  first
    | (refine hK _ ?_; clear hK K)
    | (apply Exists.intro
       refine ⟨fun _ => ?_, hK _ ?_⟩
       (fail)
       clear hK K)
  refine wpMix_take 3 rfl (by kernel_rfl) (by kernel_rfl) (by kernel_rfl) (fun _ _ _ _ h => h) (fun K hK => ?_)
  go_simp
  first
    | (refine hK _ ?_; clear hK K)
    | (apply Exists.intro
       refine ⟨fun _ => ?_, hK _ ?_⟩
       (fail)
       clear hK K)
  refine wpMix_take 4 rfl (by kernel_rfl) (by kernel_rfl) (by kernel_rfl) (fun _ _ _ _ h => h) (fun K hK => ?_)
  go_simp
  first
    | (refine hK _ ?_; clear hK K)
    | (apply Exists.intro
       refine ⟨fun _ => ?_, hK _ ?_⟩
       (fail)
       clear hK K)
  refine wpMix_take 5 rfl (by kernel_rfl) (by kernel_rfl) (by kernel_rfl) (fun _ _ _ _ h => h) (fun K hK => ?_)
  go_simp
  first
    | (refine hK _ ?_; clear hK K)
    | (apply Exists.intro
       refine ⟨fun _ => ?_, hK _ ?_⟩
       (fail)
       clear hK K)
  refine wpMix_take 6 rfl (by kernel_rfl) (by kernel_rfl) (by kernel_rfl) (fun _ _ _ _ h => h) (fun K hK => ?_)
  go_simp
  first
    | (refine hK _ ?_; clear hK K)
    | (apply Exists.intro
       refine ⟨fun _ => ?_, hK _ ?_⟩
       (fail)
       clear hK K)
  refine wpMix_take 7 rfl (by kernel_rfl) (by kernel_rfl) (by kernel_rfl) (fun _ _ _ _ h => h) (fun K hK => ?_)
  go_simp
  first
    | (refine hK _ ?_; clear hK K)
    | (apply Exists.intro
       refine ⟨fun _ => ?_, hK _ ?_⟩
       (fail)
       clear hK K)
  refine wpMix_take 8 rfl (by kernel_rfl) (by kernel_rfl) (by kernel_rfl) (fun _ _ _ _ h => h) (fun K hK => ?_)
  go_simp
  first
    | (refine hK _ ?_; clear hK K)
    | (apply Exists.intro
       refine ⟨fun _ => ?_, hK _ ?_⟩
       (exact unhide HC _ (unhide HTG _))
       clear hK K)
  refine wpMix_take 9 rfl (by kernel_rfl) (by kernel_rfl) (by kernel_rfl) (fun _ _ _ _ h => h) (fun K hK => ?_)
  go_simp
  first
    | (refine hK _ ?_; clear hK K)
    | (apply Exists.intro
       refine ⟨fun _ => ?_, hK _ ?_⟩
       (fail)
       clear hK K)
  refine wpMix_take 10 rfl (by kernel_rfl) (by kernel_rfl) (by kernel_rfl) (fun _ _ _ _ h => h) (fun K hK => ?_)
  go_simp
  first
    | (refine hK _ ?_; clear hK K)
    | (apply Exists.intro
       refine ⟨fun _ => ?_, hK _ ?_⟩
       (fail)
       clear hK K)
  refine wpMix_take 11 rfl (by kernel_rfl) (by kernel_rfl) (by kernel_rfl) (fun _ _ _ _ h => h) (fun K hK => ?_)
  go_simp
  first
    | (refine hK _ ?_; clear hK K)
    | (apply Exists.intro
       refine ⟨fun _ => ?_, hK _ ?_⟩
       (fail)
       clear hK K)
  refine wpMix_take 12 rfl (by kernel_rfl) (by kernel_rfl) (by kernel_rfl) (fun _ _ _ _ h => h) (fun K hK => ?_)
  go_simp
  first
    | (refine hK _ ?_; clear hK K)
    | (apply Exists.intro
       refine ⟨fun _ => ?_, hK _ ?_⟩
       (fail)
       clear hK K)
  refine wpMix_take 13 rfl (by kernel_rfl) (by kernel_rfl) (by kernel_rfl) (fun _ _ _ _ h => h) (fun K hK => ?_)
  go_simp
  first
    | (refine hK _ ?_; clear hK K)
    | (apply Exists.intro
       refine ⟨fun _ => ?_, hK _ ?_⟩
       (fail)
       clear hK K)
  refine wpMix_done (by kernel_rfl) (fun z hz => ?_)
  have HZ := hide hz
  have HRZ := hide (blk_step (unhide H) hz)
  clear hz y0 y1 HTG HC H
  go_simp
  go_wp2_with fail
  refine (unhide HG _ (unhide HRZ)).mono ?_
  rintro e w1 ⟨rfl, rfl⟩
  go_wp2_with fail
  exact ⟨rfl, rfl, unhide HZ⟩
set_option maxRecDepth 100000 in
set_option maxHeartbeats 2000000 in
theorem rdText_yes (g : Nat) (s : ByteArray) (i : Int) (w : World) (hs : s.size ≤ maxLen) (h : RdAt w g s i) (hH : Handle w) (hE : 0 ≤ rtE s i) : Calls Tryz.prog 93 #[.pointer (some ⟨g, 0, none⟩)] w fun e w' => e = .returned (.string (rtS s i)) ∧ RdAt w' g s (rtE s i) ∧ Keep1 g w w' := by
  have HC := hide (fun w1 h => implRt s i hs w1 h)
  have HG := hide (fun w1 h => rdGo_yes g s i (rtE s i) w1 h hE)
  have HTG := hide (fun p : Regrown => hH.below (below_regrown w p.d p.os))
  have H := hide h
  obtain ⟨c0, c1, f0, f1⟩ := h.two
  clear h hs hH hE f0 f1
  generalize rtE s i = E at *
  generalize rtS s i = R at *
  go_enter Tryz.func93, Tryz.ntmps93
  go_upto_region 1 with fail
  have y0 := cell_regrown c0
  have y1 := cell_regrown c1
  clear c0 c1
  refine wp_region_mix (by kernel_rfl) ?_
  show wpMix _ _ _ _ 14 (Array.replicate 14 false) _ _
  refine wpMix_take 0 rfl (by kernel_rfl) (by kernel_rfl) (by kernel_rfl) (fun _ _ _ _ h => h) (fun K hK => ?_)
  go_simp
  first
    | (refine hK _ ?_; clear hK K)
    | (apply Exists.intro
       refine ⟨fun _ => ?_, hK _ ?_⟩
       (fail)
       clear hK K)
  refine wpMix_take 1 rfl (by kernel_rfl) (by kernel_rfl) (by kernel_rfl) (fun _ _ _ _ h => h) (fun K hK => ?_)
  go_simp
  first
    | (refine hK _ ?_; clear hK K)
    | (apply Exists.intro
       refine ⟨fun _ => ?_, hK _ ?_⟩
       (fail)
       clear hK K)
  refine wpMix_take 2 rfl (by kernel_rfl) (by kernel_rfl) (by kernel_rfl) (fun _ _ _ _ h => h) (fun K hK => ?_)
  go_simp
  first
    | (refine hK _ ?_; clear hK K)
    | (apply Exists.intro
       refine ⟨fun _ => ?_, hK _ ?_⟩
       (fail)
       clear hK K)
  refine wpMix_take 3 rfl (by kernel_rfl) (by kernel_rfl) (by kernel_rfl) (fun _ _ _ _ h => h) (fun K hK => ?_)
  go_simp
  first
    | (refine hK _ ?_; clear hK K)
    | (apply Exists.intro
       refine ⟨fun _ => ?_, hK _ ?_⟩
       (fail)
       clear hK K)
  refine wpMix_take 4 rfl (by kernel_rfl) (by kernel_rfl) (by kernel_rfl) (fun _ _ _ _ h => h) (fun K hK => ?_)
  go_simp
  first
    | (refine hK _ ?_; clear hK K)
    | (apply Exists.intro
       refine ⟨fun _ => ?_, hK _ ?_⟩
       (fail)
       clear hK K)
  refine wpMix_take 5 rfl (by kernel_rfl) (by kernel_rfl) (by kernel_rfl) (fun _ _ _ _ h => h) (fun K hK => ?_)
  go_simp
  first
    | (refine hK _ ?_; clear hK K)
    | (apply Exists.intro
       refine ⟨fun _ => ?_, hK _ ?_⟩
       (fail)
       clear hK K)
  refine wpMix_take 6 rfl (by kernel_rfl) (by kernel_rfl) (by kernel_rfl) (fun _ _ _ _ h => h) (fun K hK => ?_)
  go_simp
  first
    | (refine hK _ ?_; clear hK K)
    | (apply Exists.intro
       refine ⟨fun _ => ?_, hK _ ?_⟩
       (fail)
       clear hK K)
  refine wpMix_take 7 rfl (by kernel_rfl) (by kernel_rfl) (by kernel_rfl) (fun _ _ _ _ h => h) (fun K hK => ?_)
  go_simp
  first
    | (refine hK _ ?_; clear hK K)
    | (apply Exists.intro
       refine ⟨fun _ => ?_, hK _ ?_⟩
       (fail)
       clear hK K)
  refine wpMix_take 8 rfl (by kernel_rfl) (by kernel_rfl) (by kernel_rfl) (fun _ _ _ _ h => h) (fun K hK => ?_)
  go_simp
  first
    | (refine hK _ ?_; clear hK K)
    | (apply Exists.intro
       refine ⟨fun _ => ?_, hK _ ?_⟩
       (exact unhide HC _ (unhide HTG _))
       clear hK K)
  refine wpMix_take 9 rfl (by kernel_rfl) (by kernel_rfl) (by kernel_rfl) (fun _ _ _ _ h => h) (fun K hK => ?_)
  go_simp
  first
    | (refine hK _ ?_; clear hK K)
    | (apply Exists.intro
       refine ⟨fun _ => ?_, hK _ ?_⟩
       (fail)
       clear hK K)
  refine wpMix_take 10 rfl (by kernel_rfl) (by kernel_rfl) (by kernel_rfl) (fun _ _ _ _ h => h) (fun K hK => ?_)
  go_simp
  first
    | (refine hK _ ?_; clear hK K)
    | (apply Exists.intro
       refine ⟨fun _ => ?_, hK _ ?_⟩
       (fail)
       clear hK K)
  refine wpMix_take 11 rfl (by kernel_rfl) (by kernel_rfl) (by kernel_rfl) (fun _ _ _ _ h => h) (fun K hK => ?_)
  go_simp
  first
    | (refine hK _ ?_; clear hK K)
    | (apply Exists.intro
       refine ⟨fun _ => ?_, hK _ ?_⟩
       (fail)
       clear hK K)
  refine wpMix_take 12 rfl (by kernel_rfl) (by kernel_rfl) (by kernel_rfl) (fun _ _ _ _ h => h) (fun K hK => ?_)
  go_simp
  first
    | (refine hK _ ?_; clear hK K)
    | (apply Exists.intro
       refine ⟨fun _ => ?_, hK _ ?_⟩
       (fail)
       clear hK K)
  refine wpMix_take 13 rfl (by kernel_rfl) (by kernel_rfl) (by kernel_rfl) (fun _ _ _ _ h => h) (fun K hK => ?_)
  go_simp
  first
    | (refine hK _ ?_; clear hK K)
    | (apply Exists.intro
       refine ⟨fun _ => ?_, hK _ ?_⟩
       (fail)
       clear hK K)
  refine wpMix_done (by kernel_rfl) (fun z hz => ?_)
  have HZ := hide hz
  have HRZ := hide (blk_step (unhide H) hz)
  clear hz y0 y1 HTG HC H
  go_simp
  go_wp2_with fail
  refine (unhide HG _ (unhide HRZ)).mono ?_
  rintro e w1 ⟨rfl, rfl⟩
  go_wp2_with fail
  go_ret
  exact ⟨rfl, RdAt.set (unhide HRZ) _, (Keep1.of_below (unhide HZ)).trans (Keep1.set _)⟩
theorem seven_keep1 {w w0 : World} {g : Nat} {b0 b1 b2 b3 b4 b5 b6 : Value} (h : Keep1 g w0 w) : Keep1 g w0 (((((((w.setCell ⟨w0.heap.size, 0, none⟩ b0).setCell ⟨w0.heap.size, 1, none⟩ b1).setCell ⟨w0.heap.size, 2, none⟩ b2).setCell ⟨w0.heap.size, 3, none⟩ b3).setCell ⟨w0.heap.size, 4, none⟩ b4).setCell ⟨w0.heap.size, 5, none⟩ b5).setCell ⟨w0.heap.size, 6, none⟩ b6) := by
  have hb := seven_below (a := w) (w := w) (B := w0.heap.size) (g := w0.heap.size) (b0 := b0) (b1 := b1) (b2 := b2) (b3 := b3) (b4 := b4) (b5 := b5) (b6 := b6) (Below.refl _ _) (Nat.le_refl _)
  exact ⟨hb.os.trans h.os, hb.tape.trans h.tape, hb.output.trans h.output, Nat.le_trans h.size hb.size, fun k hk hg => (hb.block k hk).trans (h.block k hk hg)⟩
theorem seven_otherR {w : World} {h g : Nat} {b0 b1 b2 b3 b4 b5 b6 : Value} {o : Option Obj} (hne : g ≠ h) (e : w.heap[g]? = o) : (((((((w.setCell ⟨h, 0, none⟩ b0).setCell ⟨h, 1, none⟩ b1).setCell ⟨h, 2, none⟩ b2).setCell ⟨h, 3, none⟩ b3).setCell ⟨h, 4, none⟩ b4).setCell ⟨h, 5, none⟩ b5).setCell ⟨h, 6, none⟩ b6).heap[g]? = o :=
  one_other (one_other (one_other (one_other (one_other (one_other (one_other e hne) hne) hne) hne) hne) hne) hne
/-- The handle lies in a block that is not the reader's. -/
theorem hnd_keep {g : Nat} {w w' : World} (h : Handle w) (hk : Keep1 g w w') (_hg : g < w.heap.size) (hne : g ≠ 0) : Handle w' := by
  unfold Handle at h ⊢
  have hlt : 0 < w.heap.size := by
    rcases Nat.lt_or_ge 0 w.heap.size with h' | h'
    · exact h'
    · unfold World.cell? at h
      rw [Array.getElem?_eq_none h'] at h
      cases h
  rw [← h]
  exact World.cell?_of_block (w := w) (hk.block _ hlt (Ne.symm hne))
set_option maxRecDepth 100000 in
set_option maxHeartbeats 2000000 in
theorem rdMsg_cut (g : Nat) (s : ByteArray) (i : Int) (w : World) (hs : s.size ≤ maxLen) (h : RdAt w g s i) (hH : Handle w) (hE : rtE s i < 0) : Calls Tryz.prog 94 #[.pointer (some ⟨g, 0, none⟩)] w fun e w' => (∃ p, e = pnc p) ∧ Keep1 g w w' := by
  have HT := hide (fun w1 h h2 => rdText_no g s i w1 hs h h2 hE)
  have H := hide (blk_step h (below_one w (.cells #[.int .i64 0, .int .i64 0, .int .i64 0, .int .i64 0, .int .i64 0, .string ⟨#[]⟩, .int .i64 0] 23)))
  have HH := hide (hH.below (below_one w (.cells #[.int .i64 0, .int .i64 0, .int .i64 0, .int .i64 0, .int .i64 0, .string ⟨#[]⟩, .int .i64 0] 23)))
  clear h hH hE hs
  go_enter Tryz.func94, Tryz.ntmps94
  go_wp2_with fail
  refine (unhide HT _ (unhide H) (unhide HH)).mono ?_
  rintro e w1 ⟨rfl, hb1⟩
  have HB := hide (Keep1.of_below (g := g) ((below_one w _).trans (hb1.mono (by simp))))
  clear hb1
  go_wp2_with fail
  exact ⟨rfl, ⟨_, rfl⟩, unhide HB⟩
set_option maxRecDepth 100000 in
set_option maxHeartbeats 2000000 in
theorem rdMsg_nil (g : Nat) (s : ByteArray) (i : Int) (w : World) (hs : s.size ≤ maxLen) (hg : g < w.heap.size) (h : RdAt w g s i) (hH : Handle w) (hE : 0 ≤ rtE s i) (hb : (rtS s i).size = 0) : Calls Tryz.prog 94 #[.pointer (some ⟨g, 0, none⟩)] w fun e w' => e = .returned (mgv (getMg (rtS s i))) ∧ RdAt w' g s (rtE s i) ∧ Keep1 g w w' := by
  have HT := hide (fun w1 h h2 => rdText_yes g s i w1 hs h h2 hE)
  have H := hide (blk_step h (below_one w (.cells #[.int .i64 0, .int .i64 0, .int .i64 0, .int .i64 0, .int .i64 0, .string ⟨#[]⟩, .int .i64 0] 23)))
  have HH := hide (hH.below (below_one w (.cells #[.int .i64 0, .int .i64 0, .int .i64 0, .int .i64 0, .int .i64 0, .string ⟨#[]⟩, .int .i64 0] 23)))
  rw [(getMg_nil hb).1]
  rw [size_zero hb] at HT
  clear h hH hE hs hb
  generalize rtE s i = E at *
  have hg2 : w.heap.size ≠ g := by omega
  go_enter Tryz.func94, Tryz.ntmps94
  go_wp2_with fail
  refine (unhide HT _ (unhide H) (unhide HH)).mono ?_
  rintro e w1 ⟨rfl, hr1, hk1⟩
  have HR := hide (hk1.obj (heap_alloc_new w _) hg2)
  have HK := hide ((Keep1.of_below (below_one w _)).trans hk1)
  have HR1 := hide hr1
  clear hr1 hk1
  obtain ⟨⟨d0, d1, d2, d3, d4, d5, d6⟩, f0, f1, f2, f3, f4, f5, f6⟩ := seven_at (unhide HR)
  go_wp2_with fail
  refine bodyPost_atE (fun W' hW' => ?_)
  obtain ⟨⟨r0, r1, r2, r3, r4, r5, r6⟩, _⟩ := seven_at (show W'.heap[w.heap.size]? = some (.cells #[.int .i64 0, .int .i64 0, .int .i64 0, .int .i64 0, .int .i64 0, .string ⟨#[]⟩, .int .i64 0] 23 (0, 0)) by rw [hW']; exact seven_set (unhide HR))
  have hKK : Keep1 g w W' := by rw [hW']; exact seven_keep1 (unhide HK)
  have hRR : RdAt W' g s E := by rw [hW']; exact seven_otherR (Ne.symm hg2) (unhide HR1)
  exact bodyPost_ret (v := .agg #[.int .i64 0, .int .i64 0, .int .i64 0, .int .i64 0, .int .i64 0, .string ⟨#[]⟩, .int .i64 0]) (by simp [results, Tryz.results94, go_sem, r0, r1, r2, r3, r4, r5, r6]) rfl ⟨rfl, hRR, hKK⟩
set_option maxRecDepth 100000 in
set_option maxHeartbeats 2000000 in
theorem rdMsg_bad (g : Nat) (s : ByteArray) (i : Int) (w : World) (hs : s.size ≤ maxLen) (hg : g < w.heap.size) (hge : g ≠ 0) (h : RdAt w g s i) (hH : Handle w) (hE : 0 ≤ rtE s i) (hb : 0 < (rtS s i).size) (ho : getOk (rtS s i) = false) : Calls Tryz.prog 94 #[.pointer (some ⟨g, 0, none⟩)] w fun e w' => (∃ p, e = pnc p) ∧ Keep1 g w w' := by
  have HT := hide (fun w1 h h2 => rdText_yes g s i w1 hs h h2 hE)
  have HGM := hide (fun w1 h => implGetMsg (rtS s i) (Nat.le_trans (rtS_sizeO s i) (by unfold maxLen; omega)) w1 h)
  rw [getV_no ho] at HGM
  have HF := hide (fun w1 h => rdFail g s (rtE s i) w1 h)
  have H := hide (blk_step h (below_one w (.cells #[.int .i64 0, .int .i64 0, .int .i64 0, .int .i64 0, .int .i64 0, .string ⟨#[]⟩, .int .i64 0] 23)))
  have HH := hide hH
  have hne := not_empty _ hb
  clear h hH hE hs hb ho
  generalize rtE s i = E at *
  generalize rtS s i = B at *
  have hg2 : w.heap.size ≠ g := by omega
  go_enter Tryz.func94, Tryz.ntmps94
  go_wp2_with fail
  refine (unhide HT _ (unhide H) ((unhide HH).below (below_one w _))).mono ?_
  rintro e w1 ⟨rfl, hr1, hk1⟩
  have HK := hide ((Keep1.of_below (below_one w _)).trans hk1)
  have HR1 := hide hr1
  have HH1 := hide (hnd_keep (unhide HH) (unhide HK) hg hge)
  clear hr1 hk1
  go_wp2_with fail
  refine (unhide HGM _ (unhide HH1)).mono ?_
  rintro e w2 ⟨rfl, hb2⟩
  have HR2 := hide (blk_step (blk_step (unhide HR1) hb2) (below_one w2 (.cells #[.int .i64 0, .int .i64 0, .int .i64 0, .int .i64 0, .int .i64 0, .string ⟨#[]⟩, .int .i64 0] 23)))
  have HK2 := hide ((unhide HK).trans (Keep1.of_below ((hb2.trans ((below_one w2 (.cells #[.int .i64 0, .int .i64 0, .int .i64 0, .int .i64 0, .int .i64 0, .string ⟨#[]⟩, .int .i64 0] 23)).mono hb2.size)))))
  clear hb2
  go_wp2_with fail
  refine (unhide HF _ (unhide HR2)).mono ?_
  rintro e w3 ⟨rfl, rfl⟩
  go_wp2_with fail
  exact ⟨rfl, ⟨_, rfl⟩, unhide HK2⟩
set_option maxRecDepth 100000 in
set_option maxHeartbeats 2000000 in
theorem rdMsg_ok (g : Nat) (s : ByteArray) (i : Int) (w : World) (hs : s.size ≤ maxLen) (hg : g < w.heap.size) (hge : g ≠ 0) (h : RdAt w g s i) (hH : Handle w) (hE : 0 ≤ rtE s i) (hb : 0 < (rtS s i).size) (ho : getOk (rtS s i) = true) : Calls Tryz.prog 94 #[.pointer (some ⟨g, 0, none⟩)] w fun e w' => e = .returned (mgv (getMg (rtS s i))) ∧ RdAt w' g s (rtE s i) ∧ Keep1 g w w' := by
  have HT := hide (fun w1 h h2 => rdText_yes g s i w1 hs h h2 hE)
  have HGM := hide (fun w1 h => implGetMsg (rtS s i) (Nat.le_trans (rtS_sizeO s i) (by unfold maxLen; omega)) w1 h)
  unfold getV at HGM
  rw [ho] at HGM
  have H := hide (blk_step h (below_one w (.cells #[.int .i64 0, .int .i64 0, .int .i64 0, .int .i64 0, .int .i64 0, .string ⟨#[]⟩, .int .i64 0] 23)))
  have HH := hide hH
  have hne := not_empty _ hb
  clear h hH hE hs hb ho
  generalize rtE s i = E at *
  generalize getMg (rtS s i) = m at *
  generalize rtS s i = B at *
  obtain ⟨mK, mF, mT, mI, mL, mk, mN⟩ := m
  have hg2 : w.heap.size ≠ g := by omega
  go_enter Tryz.func94, Tryz.ntmps94
  go_wp2_with fail
  refine (unhide HT _ (unhide H) ((unhide HH).below (below_one w _))).mono ?_
  rintro e w1 ⟨rfl, hr1, hk1⟩
  have HR := hide (hk1.obj (heap_alloc_new w _) hg2)
  have HK := hide ((Keep1.of_below (below_one w _)).trans hk1)
  have HR1 := hide hr1
  have HH1 := hide (hnd_keep (unhide HH) (unhide HK) hg hge)
  clear hr1 hk1
  go_wp2_with fail
  refine (unhide HGM _ (unhide HH1)).mono ?_
  rintro e w2 ⟨rfl, hb2⟩
  have HR2 := hide (blk_step (unhide HR) hb2)
  have HA2 := hide (blk_step (unhide HR1) hb2)
  have HK2 := hide ((unhide HK).trans (Keep1.of_below hb2))
  have hz2 := blk_lt (unhide HR2)
  have hz3 := blk_lt (unhide HA2)
  clear hb2 HR HK HR1 HH1
  go_upto_region 7 with fail
  refine wp_at (fun V hV => ?_)
  have HMV : Hid (V.heap[w2.heap.size]? = some (.cells #[.int .i64 mK, .int .i64 mF, .int .i64 mT, .int .i64 mI, .int .i64 mL, .string mk, .int .i64 mN] 23 (0, 0))) := by rw [hV]; exact heap_alloc_new w2 _
  have HRV : Hid (V.heap[w.heap.size]? = some (.cells #[.int .i64 0, .int .i64 0, .int .i64 0, .int .i64 0, .int .i64 0, .string ⟨#[]⟩, .int .i64 0] 23 (0, 0))) := by rw [hV]; exact blk_step (unhide HR2) (below_one w2 _)
  have HAV : Hid (RdAt V g s E) := by rw [hV]; exact blk_step (unhide HA2) (below_one w2 _)
  have HKV : Hid (Keep1 g w V) := by rw [hV]; exact (unhide HK2).trans (Keep1.of_below (below_one w2 _))
  clear hV HR2 HA2 HK2
  have hz4 := blk_lt (unhide HMV)
  obtain ⟨q0, q1, q2, q3, q4, q5, q6⟩ := cells7 (unhide HMV)
  obtain ⟨⟨d0, d1, d2, d3, d4, d5, d6⟩, f0, f1, f2, f3, f4, f5, f6⟩ := seven_at (unhide HRV)
  go_wp2_with fail
  refine bodyPost_atE (fun W' hW' => ?_)
  obtain ⟨⟨r0, r1, r2, r3, r4, r5, r6⟩, _⟩ := seven_at (show W'.heap[w.heap.size]? = some (.cells #[.int .i64 mK, .int .i64 mF, .int .i64 mT, .int .i64 mI, .int .i64 mL, .string mk, .int .i64 mN] 23 (0, 0)) by rw [hW']; exact seven_set (unhide HRV))
  have hKK : Keep1 g w W' := by rw [hW']; exact seven_keep1 (unhide HKV)
  have hRR : RdAt W' g s E := by rw [hW']; exact seven_otherR (Ne.symm hg2) (unhide HAV)
  exact bodyPost_ret (v := .agg #[.int .i64 mK, .int .i64 mF, .int .i64 mT, .int .i64 mI, .int .i64 mL, .string mk, .int .i64 mN]) (by simp [results, Tryz.results94, go_sem, r0, r1, r2, r3, r4, r5, r6]) rfl ⟨rfl, hRR, hKK⟩
end Go.Proofs.YtikdkijggejnfaaGreatDoor
