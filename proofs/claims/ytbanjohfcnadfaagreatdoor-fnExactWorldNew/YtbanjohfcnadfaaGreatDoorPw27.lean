/- Parts. -/
import Derived.Test.YtbanjohfcnadfaaGreatDoorPw25
import Derived.Test.YtbanjohfcnadfaaGreatDoorPw26
namespace Go.Proofs.YtbanjohfcnadfaaGreatDoor
open Go.RowKit Go.MuLone
open Mth

abbrev zk22 : Array Value := #[.int .i64 0, .int .i64 0, .slice none 0 0, .int .i64 0, .slice none 0 0, .slice none 0 0, .slice none 0 0, .int .i64 0, .slice none 0 0, .int .i64 0, .int .i64 0, .slice none 0 0, .int .i64 0, .slice none 0 0, .slice none 0 0, .slice none 0 0, .int .i64 0, .slice none 0 0, .string ByteArray.empty, .int .i64 0, .slice none 0 0, .slice none 0 0]
theorem there_sub {w : World} {g n o k : Nat} (h : w.there g 0 n) (hk : o + k ≤ n) : w.there g o k := fun j hj => by
  have := h (o + j) (by omega)
  rwa [Nat.zero_add] at this
/-- Where handing out stands: the result's block may be written, the keeper's block lies. -/
structure OutS (w : World) (r g : Nat) (n : Nd) (A1 A2 : Ads) (lk rt : Bool) (Y : World) : Prop where
  there : Y.there r 0 22
  hk : hkB Y g n A1 A2 1 lk rt
  keeps : KeepsL [g] w Y
  lt : r < Y.heap.size
  new : w.heap.size ≤ r
  ne : g < r
theorem OutS.ge {w : World} {r g : Nat} {n : Nd} {A1 A2 : Ads} {lk rt : Bool} {Y X : World} (h : OutS w r g n A1 A2 lk rt Y) (hx : Ge Y X) : OutS w r g n A1 A2 lk rt X :=
  ⟨there_ge h.there h.lt hx, obj_step h.hk hx, h.keeps.trans (KeepsL.of_below hx), Nat.lt_of_lt_of_le h.lt (Below.size hx), h.new, h.ne⟩
theorem OutS.put {w : World} {r g : Nat} {n : Nd} {A1 A2 : Ads} {lk rt : Bool} {Y : World} (h : OutS w r g n A1 A2 lk rt Y) (vs : List Value) (o : Nat) : OutS w r g n A1 A2 lk rt (Y.setCells r o vs) := by
  have hb := setCells_below (B := r) (Nat.le_refl r) vs Y Y o (Below.refl _ _)
  refine ⟨World.there_setCells h.there r o vs, ?_, ?_, Nat.lt_of_lt_of_le h.lt hb.size, h.new, h.ne⟩
  · show (Y.setCells r o vs).heap[g]? = _
    rw [hb.block g h.ne]
    exact h.hk
  · have hk := h.keeps
    have hnew := h.new
    exact ⟨hb.os.trans hk.os, hb.tape.trans hk.tape, hb.output.trans hk.output, Nat.le_trans hk.size hb.size, fun x hx hF => (hb.block x (by omega)).trans (hk.block x hx hF)⟩
theorem OutS.one {w : World} {r g : Nat} {n : Nd} {A1 A2 : Ads} {lk rt : Bool} {Y : World} (h : OutS w r g n A1 A2 lk rt Y) (j : Nat) (hj : j < 22) : (∃ v, Y.cell? ⟨r, j, none⟩ = some v) ∧ Y.frozen? ⟨r, j, none⟩ = false := by
  have := h.there j hj
  rw [Nat.zero_add] at this
  exact ⟨Option.isSome_iff_exists.1 this.1, this.2⟩
theorem all22 {Y : World} {r : Nat} {n : Nd} {A1 A2 : Ads} (h0 : Y.rangeAt r 0 (ndc n A2).toList) (h9 : Y.rangeAt r 9 (ndc n A1).toList) (h18 : Y.rangeAt r 18 [.string ByteArray.empty]) (h19 : Y.rangeAt r 19 [.int .i64 0]) (h20 : Y.rangeAt r 20 [.slice none 0 0]) (h21 : Y.rangeAt r 21 [.slice none 0 0]) : Y.rangeAt r 0 (nkc n A2 A1).toList := fun j v hj => by
  have hl : j < 22 := (List.getElem?_eq_some_iff.1 hj).1
  by_cases h1 : j < 9
  · refine h0 j v ?_
    rcases nine_cases h1 with rfl | rfl | rfl | rfl | rfl | rfl | rfl | rfl | rfl <;> exact hj
  by_cases h2 : j < 18
  · obtain ⟨i, rfl⟩ : ∃ i, j = 9 + i := ⟨j - 9, by omega⟩
    rw [Nat.zero_add]
    refine h9 i v ?_
    rcases nine_cases (show i < 9 by omega) with rfl | rfl | rfl | rfl | rfl | rfl | rfl | rfl | rfl <;> exact hj
  have h3 : j = 18 ∨ j = 19 ∨ j = 20 ∨ j = 21 := by omega
  rcases h3 with rfl | rfl | rfl | rfl
  · exact h18 0 v hj
  · exact h19 0 v hj
  · exact h20 0 v hj
  · exact h21 0 v hj
theorem blk22 {w : World} {g : Nat} {cs : Array Value} {t : TypeId} (h : w.heap[g]? = some (.cells cs t (0, 0))) {j : Nat} (hj : j < cs.size) : (w.cell? ⟨g, 0 + j, none⟩).isSome = true := by
  rw [cell_of_row w g (0 + j) _ t (0, 0) h, Nat.zero_add]
  simp [hj]
set_option maxRecDepth 100000 in
set_option maxHeartbeats 8000000 in
theorem handOut0 (n : Nd) (A1 A2 : Ads) (g : Nat) (lk rt : Bool) (w : World) (hg : hkB w g n A1 A2 0 lk rt) :
    Calls Tryz.prog 47 #[.pointer (some ⟨g, 0, none⟩)] w fun e w' => e = .returned (.agg (nkc n A2 A1)) ∧ KeepsL [g] w w' := by
  have hgl := obj_lt hg
  have c9 : (w.alloc (.cells zk22 54)).cell? ⟨g, 9, none⟩ = some (.int .i32 0) := hkc_cells (obj_step hg (below_one w (.cells zk22 54))) 9
  have f9 := obj_free (obj_step hg (below_one w (.cells zk22 54))) 9
  have HG := hide hg
  clear hg
  go_enter_defers Tryz.func47, Tryz.ntmps47
  go_wp2_with (go_at_call 79; refine (lock_free muLib ⟨g, 9, none⟩ _ c9 f9).mono ?_; rintro e w' ⟨rfl, rfl⟩)
  clear c9 f9
  refine wp_at (fun W hW => ?_)
  have HG1 : Hid (hkB W g n A1 A2 1 lk rt) := by subst hW; exact obj_step ((show hkB w g n A1 A2 0 lk rt from unhide HG).lock 1) (below_one _ _)
  have HK1 : Hid (KeepsL [g] w W) := by subst hW; exact (KeepsL.set _).trans (KeepsL.of_below (below_one _ _))
  have HE1 : Hid (W.heap[w.heap.size]? = some (.cells zk22 54 (0, 0))) := by
    subst hW
    have h := heap_alloc_new (w.setCell ⟨g, 9, none⟩ (.int .i32 1)) (.cells zk22 54)
    rwa [show (w.setCell ⟨g, 9, none⟩ (.int .i32 1)).heap.size = w.heap.size by simp [World.setCell]] at h
  clear hW HG
  have hwl := obj_lt (unhide HE1)
  generalize hr : w.heap.size = r at *
  have hgr : g < r := by omega
  have hwb : r ≤ W.heap.size := by omega
  have q0 : W.cell? ⟨g, 0, none⟩ = some (.int .i64 n.id) := hkc_cells (unhide HG1) 0
  have q1 : W.cell? ⟨g, 1, none⟩ = some (.int .i64 n.par) := hkc_cells (unhide HG1) 1
  have q2 : W.cell? ⟨g, 2, none⟩ = some (.slice A1.k n.kids.length A1.ck) := hkc_cells (unhide HG1) 2
  have q3 : W.cell? ⟨g, 3, none⟩ = some (.int .i64 n.next) := hkc_cells (unhide HG1) 3
  have q4 : W.cell? ⟨g, 4, none⟩ = some (.slice A1.p n.pu.length A1.cp) := hkc_cells (unhide HG1) 4
  have q5 : W.cell? ⟨g, 5, none⟩ = some (.slice A1.o n.out.length A1.co) := hkc_cells (unhide HG1) 5
  have q6 : W.cell? ⟨g, 6, none⟩ = some (.slice A1.s n.seen.length A1.cs) := hkc_cells (unhide HG1) 6
  have q7 : W.cell? ⟨g, 7, none⟩ = some (.int .i64 n.old) := hkc_cells (unhide HG1) 7
  have q8 : W.cell? ⟨g, 8, none⟩ = some (.slice A1.r n.reqs.length A1.cr) := hkc_cells (unhide HG1) 8
  have q11 : W.cell? ⟨g, 11, none⟩ = some (.int .i64 n.id) := hkc_cells (unhide HG1) 11
  have q12 : W.cell? ⟨g, 12, none⟩ = some (.int .i64 n.par) := hkc_cells (unhide HG1) 12
  have q13 : W.cell? ⟨g, 13, none⟩ = some (.slice A2.k n.kids.length A2.ck) := hkc_cells (unhide HG1) 13
  have q14 : W.cell? ⟨g, 14, none⟩ = some (.int .i64 n.next) := hkc_cells (unhide HG1) 14
  have q15 : W.cell? ⟨g, 15, none⟩ = some (.slice A2.p n.pu.length A2.cp) := hkc_cells (unhide HG1) 15
  have q16 : W.cell? ⟨g, 16, none⟩ = some (.slice A2.o n.out.length A2.co) := hkc_cells (unhide HG1) 16
  have q17 : W.cell? ⟨g, 17, none⟩ = some (.slice A2.s n.seen.length A2.cs) := hkc_cells (unhide HG1) 17
  have q18 : W.cell? ⟨g, 18, none⟩ = some (.int .i64 n.old) := hkc_cells (unhide HG1) 18
  have q19 : W.cell? ⟨g, 19, none⟩ = some (.slice A2.r n.reqs.length A2.cr) := hkc_cells (unhide HG1) 19
  have q20 : W.cell? ⟨g, 20, none⟩ = some (.string ByteArray.empty) := hkc_cells (unhide HG1) 20
  have q21 : W.cell? ⟨g, 21, none⟩ = some (.int .i64 0) := hkc_cells (unhide HG1) 21
  have q22 : W.cell? ⟨g, 22, none⟩ = some (.slice none 0 0) := hkc_cells (unhide HG1) 22
  have q23 : W.cell? ⟨g, 23, none⟩ = some (.slice none 0 0) := hkc_cells (unhide HG1) 23
  have u0 := cell_und (b := r) hgr q0
  have u1 := cell_und (b := r) hgr q1
  have u2 := cell_und (b := r) hgr q2
  have u3 := cell_und (b := r) hgr q3
  have u4 := cell_und (b := r) hgr q4
  have u5 := cell_und (b := r) hgr q5
  have u6 := cell_und (b := r) hgr q6
  have u7 := cell_und (b := r) hgr q7
  have u8 := cell_und (b := r) hgr q8
  have u11 := cell_und (b := r) hgr q11
  have u12 := cell_und (b := r) hgr q12
  have u13 := cell_und (b := r) hgr q13
  have u14 := cell_und (b := r) hgr q14
  have u15 := cell_und (b := r) hgr q15
  have u16 := cell_und (b := r) hgr q16
  have u17 := cell_und (b := r) hgr q17
  have u18 := cell_und (b := r) hgr q18
  have u19 := cell_und (b := r) hgr q19
  have u20 := cell_und (b := r) hgr q20
  have u21 := cell_und (b := r) hgr q21
  have u22 := cell_und (b := r) hgr q22
  have u23 := cell_und (b := r) hgr q23
  clear q0 q1 q2 q3 q4 q5 q6 q7 q8 q11 q12 q13 q14 q15 q16 q17 q18 q19 q20 q21 q22 q23
  have HT := hide (show W.there r 0 22 from fun j hj => by have hs := blk22 (unhide HE1) hj; exact ⟨hs, obj_free (unhide HE1) _⟩)
  refine wp_calm ?_
  refine wp_region_mixB 36 r (by kernel_rfl) ?_
  show wpMixB _ _ _ _ _ _ 37 (Array.replicate 37 false) _ _
  refine wpMixB_take 0 60 hwb rfl (by kernel_rfl) (by kernel_rfl) (by kernel_rfl) (by kernel_rfl) (by kernel_rfl) (fun _ _ _ _ h => h) (fun K hK => ?_)
  go_simp
  first
    | (refine hK _ ?_; clear hK K)
    | (apply Exists.intro
       refine ⟨fun _ => ?_, hK _ ?_⟩
       (first | rfl | fail)
       clear hK K)
  refine wpMixB_take 1 60 hwb rfl (by kernel_rfl) (by kernel_rfl) (by kernel_rfl) (by kernel_rfl) (by kernel_rfl) (fun _ _ _ _ h => h) (fun K hK => ?_)
  go_simp
  first
    | (refine hK _ ?_; clear hK K)
    | (apply Exists.intro
       refine ⟨fun _ => ?_, hK _ ?_⟩
       (first | rfl | fail)
       clear hK K)
  refine wpMixB_take 2 60 hwb rfl (by kernel_rfl) (by kernel_rfl) (by kernel_rfl) (by kernel_rfl) (by kernel_rfl) (fun _ _ _ _ h => h) (fun K hK => ?_)
  go_simp
  first
    | (refine hK _ ?_; clear hK K)
    | (apply Exists.intro
       refine ⟨fun _ => ?_, hK _ ?_⟩
       (first | rfl | fail)
       clear hK K)
  refine wpMixB_take 3 60 hwb rfl (by kernel_rfl) (by kernel_rfl) (by kernel_rfl) (by kernel_rfl) (by kernel_rfl) (fun _ _ _ _ h => h) (fun K hK => ?_)
  go_simp
  first
    | (refine hK _ ?_; clear hK K)
    | (apply Exists.intro
       refine ⟨fun _ => ?_, hK _ ?_⟩
       (first | rfl | fail)
       clear hK K)
  refine wpMixB_take 4 60 hwb rfl (by kernel_rfl) (by kernel_rfl) (by kernel_rfl) (by kernel_rfl) (by kernel_rfl) (fun _ _ _ _ h => h) (fun K hK => ?_)
  go_simp
  first
    | (refine hK _ ?_; clear hK K)
    | (apply Exists.intro
       refine ⟨fun _ => ?_, hK _ ?_⟩
       (first | rfl | fail)
       clear hK K)
  refine wpMixB_take 5 60 hwb rfl (by kernel_rfl) (by kernel_rfl) (by kernel_rfl) (by kernel_rfl) (by kernel_rfl) (fun _ _ _ _ h => h) (fun K hK => ?_)
  go_simp
  first
    | (refine hK _ ?_; clear hK K)
    | (apply Exists.intro
       refine ⟨fun _ => ?_, hK _ ?_⟩
       (first | rfl | fail)
       clear hK K)
  refine wpMixB_take 6 60 hwb rfl (by kernel_rfl) (by kernel_rfl) (by kernel_rfl) (by kernel_rfl) (by kernel_rfl) (fun _ _ _ _ h => h) (fun K hK => ?_)
  go_simp
  first
    | (refine hK _ ?_; clear hK K)
    | (apply Exists.intro
       refine ⟨fun _ => ?_, hK _ ?_⟩
       (first | rfl | fail)
       clear hK K)
  refine wpMixB_take 7 60 hwb rfl (by kernel_rfl) (by kernel_rfl) (by kernel_rfl) (by kernel_rfl) (by kernel_rfl) (fun _ _ _ _ h => h) (fun K hK => ?_)
  go_simp
  first
    | (refine hK _ ?_; clear hK K)
    | (apply Exists.intro
       refine ⟨fun _ => ?_, hK _ ?_⟩
       (first | rfl | fail)
       clear hK K)
  refine wpMixB_take 8 60 hwb rfl (by kernel_rfl) (by kernel_rfl) (by kernel_rfl) (by kernel_rfl) (by kernel_rfl) (fun _ _ _ _ h => h) (fun K hK => ?_)
  go_simp
  first
    | (refine hK _ ?_; clear hK K)
    | (apply Exists.intro
       refine ⟨fun _ => ?_, hK _ ?_⟩
       (first | rfl | fail)
       clear hK K)
  refine wpMixB_take 9 60 hwb rfl (by kernel_rfl) (by kernel_rfl) (by kernel_rfl) (by kernel_rfl) (by kernel_rfl) (fun _ _ _ _ h => h) (fun K hK => ?_)
  go_simp
  first
    | (refine hK _ ?_; clear hK K)
    | (apply Exists.intro
       refine ⟨fun _ => ?_, hK _ ?_⟩
       (first | rfl | fail)
       clear hK K)
  refine wpMixB_take 10 60 hwb rfl (by kernel_rfl) (by kernel_rfl) (by kernel_rfl) (by kernel_rfl) (by kernel_rfl) (fun _ _ _ _ h => h) (fun K hK => ?_)
  go_simp
  first
    | (refine hK _ ?_; clear hK K)
    | (apply Exists.intro
       refine ⟨fun _ => ?_, hK _ ?_⟩
       (first | rfl | fail)
       clear hK K)
  refine wpMixB_take 11 60 hwb rfl (by kernel_rfl) (by kernel_rfl) (by kernel_rfl) (by kernel_rfl) (by kernel_rfl) (fun _ _ _ _ h => h) (fun K hK => ?_)
  go_simp
  first
    | (refine hK _ ?_; clear hK K)
    | (apply Exists.intro
       refine ⟨fun _ => ?_, hK _ ?_⟩
       (first | rfl | fail)
       clear hK K)
  refine wpMixB_take 12 60 hwb rfl (by kernel_rfl) (by kernel_rfl) (by kernel_rfl) (by kernel_rfl) (by kernel_rfl) (fun _ _ _ _ h => h) (fun K hK => ?_)
  go_simp
  first
    | (refine hK _ ?_; clear hK K)
    | (apply Exists.intro
       refine ⟨fun _ => ?_, hK _ ?_⟩
       (first | rfl | fail)
       clear hK K)
  refine wpMixB_take 13 60 hwb rfl (by kernel_rfl) (by kernel_rfl) (by kernel_rfl) (by kernel_rfl) (by kernel_rfl) (fun _ _ _ _ h => h) (fun K hK => ?_)
  go_simp
  first
    | (refine hK _ ?_; clear hK K)
    | (apply Exists.intro
       refine ⟨fun _ => ?_, hK _ ?_⟩
       (first | rfl | fail)
       clear hK K)
  refine wpMixB_take 14 60 hwb rfl (by kernel_rfl) (by kernel_rfl) (by kernel_rfl) (by kernel_rfl) (by kernel_rfl) (fun _ _ _ _ h => h) (fun K hK => ?_)
  go_simp
  first
    | (refine hK _ ?_; clear hK K)
    | (apply Exists.intro
       refine ⟨fun _ => ?_, hK _ ?_⟩
       (first | rfl | fail)
       clear hK K)
  refine wpMixB_take 15 60 hwb rfl (by kernel_rfl) (by kernel_rfl) (by kernel_rfl) (by kernel_rfl) (by kernel_rfl) (fun _ _ _ _ h => h) (fun K hK => ?_)
  go_simp
  first
    | (refine hK _ ?_; clear hK K)
    | (apply Exists.intro
       refine ⟨fun _ => ?_, hK _ ?_⟩
       (first | rfl | fail)
       clear hK K)
  refine wpMixB_take 16 60 hwb rfl (by kernel_rfl) (by kernel_rfl) (by kernel_rfl) (by kernel_rfl) (by kernel_rfl) (fun _ _ _ _ h => h) (fun K hK => ?_)
  go_simp
  first
    | (refine hK _ ?_; clear hK K)
    | (apply Exists.intro
       refine ⟨fun _ => ?_, hK _ ?_⟩
       (first | rfl | fail)
       clear hK K)
  refine wpMixB_take 17 60 hwb rfl (by kernel_rfl) (by kernel_rfl) (by kernel_rfl) (by kernel_rfl) (by kernel_rfl) (fun _ _ _ _ h => h) (fun K hK => ?_)
  go_simp
  first
    | (refine hK _ ?_; clear hK K)
    | (apply Exists.intro
       refine ⟨fun _ => ?_, hK _ ?_⟩
       (first | rfl | fail)
       clear hK K)
  refine wpMixB_take 18 60 hwb rfl (by kernel_rfl) (by kernel_rfl) (by kernel_rfl) (by kernel_rfl) (by kernel_rfl) (fun _ _ _ _ h => h) (fun K hK => ?_)
  go_simp
  first
    | (refine hK _ ?_; clear hK K)
    | (apply Exists.intro
       refine ⟨fun _ => ?_, hK _ ?_⟩
       (first | rfl | fail)
       clear hK K)
  refine wpMixB_take 19 60 hwb rfl (by kernel_rfl) (by kernel_rfl) (by kernel_rfl) (by kernel_rfl) (by kernel_rfl) (fun _ _ _ _ h => h) (fun K hK => ?_)
  go_simp
  first
    | (refine hK _ ?_; clear hK K)
    | (apply Exists.intro
       refine ⟨fun _ => ?_, hK _ ?_⟩
       (first | rfl | fail)
       clear hK K)
  refine wpMixB_take 20 60 hwb rfl (by kernel_rfl) (by kernel_rfl) (by kernel_rfl) (by kernel_rfl) (by kernel_rfl) (fun _ _ _ _ h => h) (fun K hK => ?_)
  go_simp
  first
    | (refine hK _ ?_; clear hK K)
    | (apply Exists.intro
       refine ⟨fun _ => ?_, hK _ ?_⟩
       (first | rfl | fail)
       clear hK K)
  refine wpMixB_take 21 60 hwb rfl (by kernel_rfl) (by kernel_rfl) (by kernel_rfl) (by kernel_rfl) (by kernel_rfl) (fun _ _ _ _ h => h) (fun K hK => ?_)
  go_simp
  first
    | (refine hK _ ?_; clear hK K)
    | (apply Exists.intro
       refine ⟨fun _ => ?_, hK _ ?_⟩
       (first | rfl | fail)
       clear hK K)
  refine wpMixB_take 22 60 hwb rfl (by kernel_rfl) (by kernel_rfl) (by kernel_rfl) (by kernel_rfl) (by kernel_rfl) (fun _ _ _ _ h => h) (fun K hK => ?_)
  go_simp
  first
    | (refine hK _ ?_; clear hK K)
    | (apply Exists.intro
       refine ⟨fun _ => ?_, hK _ ?_⟩
       (first | rfl | fail)
       clear hK K)
  refine wpMixB_take 23 60 hwb rfl (by kernel_rfl) (by kernel_rfl) (by kernel_rfl) (by kernel_rfl) (by kernel_rfl) (fun _ _ _ _ h => h) (fun K hK => ?_)
  go_simp
  first
    | (refine hK _ ?_; clear hK K)
    | (apply Exists.intro
       refine ⟨fun _ => ?_, hK _ ?_⟩
       (first | rfl | fail)
       clear hK K)
  clear u0 u1 u2 u3 u4 u5 u6 u7 u8 u11 u12 u13 u14 u15 u16 u17 u18 u19 u20 u21 u22 u23
  have HS0 := hide (show OutS w r g n A1 A2 lk rt W from ⟨unhide HT, unhide HG1, unhide HK1, hwl, by omega, hgr⟩)
  clear HT HG1 HK1 HE1
  refine wpMixB_put 24 rfl (by kernel_rfl) (by rfl) (by decide) 54 _ _ rfl r 0 zk22 rfl rfl (there_sub (unhide HS0).there (by simp)) (by kernel_rfl) (by kernel_rfl) (Nat.le_refl _) (unhide HS0).lt (fun X24 hX24 => ?_)
  have HS24 := hide (((unhide HS0).ge hX24).put (zk22).toList 0)
  clear hX24 HS0
  generalize X24.setCells r 0 zk22.toList = Y24 at *
  have hwb : r ≤ Y24.heap.size := Nat.le_of_lt (unhide HS24).lt
  refine wpMixB_take 25 60 hwb rfl (by kernel_rfl) (by kernel_rfl) (by kernel_rfl) (by kernel_rfl) (by kernel_rfl) (fun _ _ _ _ h => h) (fun K hK => ?_)
  go_simp
  first
    | (refine hK _ ?_; clear hK K)
    | (apply Exists.intro
       refine ⟨fun _ => ?_, hK _ ?_⟩
       (first | rfl | fail)
       clear hK K)
  refine wpMixB_put 26 rfl (by kernel_rfl) (by rfl) (by decide) 50 _ _ rfl r 0 (ndc n A2) rfl rfl (there_sub (unhide HS24).there (by simp)) (by kernel_rfl) (by kernel_rfl) (Nat.le_refl _) (unhide HS24).lt (fun X26 hX26 => ?_)
  have HS26 := hide (((unhide HS24).ge hX26).put ((ndc n A2)).toList 0)
  have R0 := World.rangeAt_setCells_same X26 r 0 (ndc n A2).toList (there_sub ((unhide HS24).ge hX26).there (by simp))
  clear hX26 HS24 hwb
  generalize X26.setCells r 0 (ndc n A2).toList = Y26 at *
  have hwb : r ≤ Y26.heap.size := Nat.le_of_lt (unhide HS26).lt
  have HR0 := hide R0
  clear R0
  refine wpMixB_take 27 60 hwb rfl (by kernel_rfl) (by kernel_rfl) (by kernel_rfl) (by kernel_rfl) (by kernel_rfl) (fun _ _ _ _ h => h) (fun K hK => ?_)
  go_simp
  first
    | (refine hK _ ?_; clear hK K)
    | (apply Exists.intro
       refine ⟨fun _ => ?_, hK _ ?_⟩
       (first | rfl | fail)
       clear hK K)
  refine wpMixB_put 28 rfl (by kernel_rfl) (by rfl) (by decide) 50 _ _ rfl r 9 (ndc n A1) rfl rfl (there_sub (unhide HS26).there (by simp)) (by kernel_rfl) (by kernel_rfl) (Nat.le_refl _) (unhide HS26).lt (fun X28 hX28 => ?_)
  have HS28 := hide (((unhide HS26).ge hX28).put ((ndc n A1)).toList 9)
  have R1 := World.rangeAt_setCells_same X28 r 9 (ndc n A1).toList (there_sub ((unhide HS26).ge hX28).there (by simp))
  have R0 := World.rangeAt_setCells_apart (rangeAt_below (unhide HR0) (unhide HS26).lt hX28) r 9 (ndc n A1).toList (.inr (.inl (by simp)))
  clear hX28 HS26 hwb HR0
  generalize X28.setCells r 9 (ndc n A1).toList = Y28 at *
  have hwb : r ≤ Y28.heap.size := Nat.le_of_lt (unhide HS28).lt
  have HR0 := hide R0
  have HR9 := hide R1
  clear R0 R1
  refine wpMixB_take 29 60 hwb rfl (by kernel_rfl) (by kernel_rfl) (by kernel_rfl) (by kernel_rfl) (by kernel_rfl) (fun _ _ _ _ h => h) (fun K hK => ?_)
  go_simp
  first
    | (refine hK _ ?_; clear hK K)
    | (apply Exists.intro
       refine ⟨fun _ => ?_, hK _ ?_⟩
       (first | rfl | fail)
       clear hK K)
  refine wpMixB_one 30 rfl (by kernel_rfl) (by rfl) (by decide) (fun x30 hx30 => ?_)
  have HSx := hide ((unhide HS28).ge hx30)
  obtain ⟨c30, f30⟩ := (unhide HSx).one 18 (by omega)
  obtain ⟨v30, c30⟩ := c30
  go_simp
  have HS30 := hide ((unhide HSx).put [.string ByteArray.empty] 18)
  have S0 := World.rangeAt_setCells_apart (rangeAt_below (unhide HR0) (unhide HS28).lt hx30) r 18 [.string ByteArray.empty] (.inr (.inl (by simp)))
  have S9 := World.rangeAt_setCells_apart (rangeAt_below (unhide HR9) (unhide HS28).lt hx30) r 18 [.string ByteArray.empty] (.inr (.inl (by simp)))
  have S18 := World.rangeAt_setCells_same x30 r 18 [.string ByteArray.empty] (there_sub (unhide HSx).there (by simp))
  have hbl : Below r x30 (x30.setCells r 18 [.string ByteArray.empty]) := setCells_below (Nat.le_refl _) _ _ _ _ (Below.refl _ _)
  refine ⟨hbl, ?_⟩
  clear hbl c30 f30 hx30 HSx HS28 hwb HR0 HR9
  change wpMixB _ _ _ _ _ _ _ _ _ (x30.setCells r 18 [.string ByteArray.empty])
  generalize x30.setCells r 18 [.string ByteArray.empty] = Y30 at *
  have hwb : r ≤ Y30.heap.size := Nat.le_of_lt (unhide HS30).lt
  have HR0 := hide S0
  clear S0
  have HR9 := hide S9
  clear S9
  have HR18 := hide S18
  clear S18
  refine wpMixB_take 31 60 hwb rfl (by kernel_rfl) (by kernel_rfl) (by kernel_rfl) (by kernel_rfl) (by kernel_rfl) (fun _ _ _ _ h => h) (fun K hK => ?_)
  go_simp
  first
    | (refine hK _ ?_; clear hK K)
    | (apply Exists.intro
       refine ⟨fun _ => ?_, hK _ ?_⟩
       (first | rfl | fail)
       clear hK K)
  refine wpMixB_one 32 rfl (by kernel_rfl) (by rfl) (by decide) (fun x32 hx32 => ?_)
  have HSx := hide ((unhide HS30).ge hx32)
  obtain ⟨c32, f32⟩ := (unhide HSx).one 19 (by omega)
  obtain ⟨v32, c32⟩ := c32
  go_simp
  have HS32 := hide ((unhide HSx).put [.int .i64 0] 19)
  have S0 := World.rangeAt_setCells_apart (rangeAt_below (unhide HR0) (unhide HS30).lt hx32) r 19 [.int .i64 0] (.inr (.inl (by simp)))
  have S9 := World.rangeAt_setCells_apart (rangeAt_below (unhide HR9) (unhide HS30).lt hx32) r 19 [.int .i64 0] (.inr (.inl (by simp)))
  have S18 := World.rangeAt_setCells_apart (rangeAt_below (unhide HR18) (unhide HS30).lt hx32) r 19 [.int .i64 0] (.inr (.inl (by simp)))
  have S19 := World.rangeAt_setCells_same x32 r 19 [.int .i64 0] (there_sub (unhide HSx).there (by simp))
  have hbl : Below r x32 (x32.setCells r 19 [.int .i64 0]) := setCells_below (Nat.le_refl _) _ _ _ _ (Below.refl _ _)
  refine ⟨hbl, ?_⟩
  clear hbl c32 f32 hx32 HSx HS30 hwb HR0 HR9 HR18
  change wpMixB _ _ _ _ _ _ _ _ _ (x32.setCells r 19 [.int .i64 0])
  generalize x32.setCells r 19 [.int .i64 0] = Y32 at *
  have hwb : r ≤ Y32.heap.size := Nat.le_of_lt (unhide HS32).lt
  have HR0 := hide S0
  clear S0
  have HR9 := hide S9
  clear S9
  have HR18 := hide S18
  clear S18
  have HR19 := hide S19
  clear S19
  refine wpMixB_take 33 60 hwb rfl (by kernel_rfl) (by kernel_rfl) (by kernel_rfl) (by kernel_rfl) (by kernel_rfl) (fun _ _ _ _ h => h) (fun K hK => ?_)
  go_simp
  first
    | (refine hK _ ?_; clear hK K)
    | (apply Exists.intro
       refine ⟨fun _ => ?_, hK _ ?_⟩
       (first | rfl | fail)
       clear hK K)
  refine wpMixB_one 34 rfl (by kernel_rfl) (by rfl) (by decide) (fun x34 hx34 => ?_)
  have HSx := hide ((unhide HS32).ge hx34)
  obtain ⟨c34, f34⟩ := (unhide HSx).one 20 (by omega)
  obtain ⟨v34, c34⟩ := c34
  go_simp
  have HS34 := hide ((unhide HSx).put [.slice none 0 0] 20)
  have S0 := World.rangeAt_setCells_apart (rangeAt_below (unhide HR0) (unhide HS32).lt hx34) r 20 [.slice none 0 0] (.inr (.inl (by simp)))
  have S9 := World.rangeAt_setCells_apart (rangeAt_below (unhide HR9) (unhide HS32).lt hx34) r 20 [.slice none 0 0] (.inr (.inl (by simp)))
  have S18 := World.rangeAt_setCells_apart (rangeAt_below (unhide HR18) (unhide HS32).lt hx34) r 20 [.slice none 0 0] (.inr (.inl (by simp)))
  have S19 := World.rangeAt_setCells_apart (rangeAt_below (unhide HR19) (unhide HS32).lt hx34) r 20 [.slice none 0 0] (.inr (.inl (by simp)))
  have S20 := World.rangeAt_setCells_same x34 r 20 [.slice none 0 0] (there_sub (unhide HSx).there (by simp))
  have hbl : Below r x34 (x34.setCells r 20 [.slice none 0 0]) := setCells_below (Nat.le_refl _) _ _ _ _ (Below.refl _ _)
  refine ⟨hbl, ?_⟩
  clear hbl c34 f34 hx34 HSx HS32 hwb HR0 HR9 HR18 HR19
  change wpMixB _ _ _ _ _ _ _ _ _ (x34.setCells r 20 [.slice none 0 0])
  generalize x34.setCells r 20 [.slice none 0 0] = Y34 at *
  have hwb : r ≤ Y34.heap.size := Nat.le_of_lt (unhide HS34).lt
  have HR0 := hide S0
  clear S0
  have HR9 := hide S9
  clear S9
  have HR18 := hide S18
  clear S18
  have HR19 := hide S19
  clear S19
  have HR20 := hide S20
  clear S20
  refine wpMixB_take 35 60 hwb rfl (by kernel_rfl) (by kernel_rfl) (by kernel_rfl) (by kernel_rfl) (by kernel_rfl) (fun _ _ _ _ h => h) (fun K hK => ?_)
  go_simp
  first
    | (refine hK _ ?_; clear hK K)
    | (apply Exists.intro
       refine ⟨fun _ => ?_, hK _ ?_⟩
       (first | rfl | fail)
       clear hK K)
  refine wpMixB_leave (by kernel_rfl) (fun x36 hx36 => ?_)
  have HSx := hide ((unhide HS34).ge hx36)
  obtain ⟨c36, f36⟩ := (unhide HSx).one 21 (by omega)
  obtain ⟨v36, c36⟩ := c36
  refine wpAny_one 36 rfl (by kernel_rfl) (by rfl) ?_
  go_simp
  refine wpAny_done (by kernel_rfl) ?_
  unfold calmQ
  dsimp only
  have HS36 := hide ((unhide HSx).put [.slice none 0 0] 21)
  have S0 := World.rangeAt_setCells_apart (rangeAt_below (unhide HR0) (unhide HS34).lt hx36) r 21 [.slice none 0 0] (.inr (.inl (by simp)))
  have S9 := World.rangeAt_setCells_apart (rangeAt_below (unhide HR9) (unhide HS34).lt hx36) r 21 [.slice none 0 0] (.inr (.inl (by simp)))
  have S18 := World.rangeAt_setCells_apart (rangeAt_below (unhide HR18) (unhide HS34).lt hx36) r 21 [.slice none 0 0] (.inr (.inl (by simp)))
  have S19 := World.rangeAt_setCells_apart (rangeAt_below (unhide HR19) (unhide HS34).lt hx36) r 21 [.slice none 0 0] (.inr (.inl (by simp)))
  have S20 := World.rangeAt_setCells_apart (rangeAt_below (unhide HR20) (unhide HS34).lt hx36) r 21 [.slice none 0 0] (.inr (.inl (by simp)))
  have S21 := World.rangeAt_setCells_same x36 r 21 [.slice none 0 0] (there_sub (unhide HSx).there (by simp))
  have HRR := hide (all22 S0 S9 S18 S19 S20 S21)
  clear S0 S9 S18 S19 S20 S21 c36 f36 hx36 HSx HS34 hwb HR0 HR9 HR18 HR19 HR20
  rw [show x36.setCell ⟨r, 21, none⟩ (.slice none 0 0) = x36.setCells r 21 [.slice none 0 0] from rfl]
  generalize x36.setCells r 21 [.slice none 0 0] = Y36 at *
  go_wp2_with fail
  refine leaves_cons (f := 80) (args := #[.pointer (some ⟨g, 9, none⟩)]) (by simp) (by simp [go_sem]) ?_
  refine (unlock_deferred muLib ⟨g, 9, none⟩ .returning _ (hkc_cells (unhide HS36).hk 9) (obj_free (unhide HS36).hk 9)).mono ?_
  rintro e u' w'' ⟨rfl, rfl, rfl⟩
  have hgne : r ≠ g := by omega
  exact ⟨_, results_cell_mid rfl _ _ r (nkc n A2 A1).toList _ rfl (fun j v hj => (World.cell?_setCell_far _ _ _ _ hgne.symm).trans (unhide HRR j v hj)) Tryz.underlying54 rfl (by kernel_rfl), rfl, (unhide HS36).keeps.trans (KeepsL.set _)⟩
end Go.Proofs.YtbanjohfcnadfaaGreatDoor
