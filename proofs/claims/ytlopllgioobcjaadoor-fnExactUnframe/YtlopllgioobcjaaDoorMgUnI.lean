/-
  The program's frameAt and Unframe.
-/
import Derived.Test.YtlopllgioobcjaaDoorMgUnM
import Derived.Test.YtlopllgioobcjaaDoorMgGetI
import Derived.Test.YtlopllgioobcjaaDoorMix
import Derived.Laws.IdiomStrings
namespace Go.Proofs.YtlopllgioobcjaaDoor
open Go.RowKit
open Mth

/-- The bytes of a text lie there. -/
def BytesAt (w : World) (g : Nat) (s : ByteArray) : Prop := ∀ i (hi : i < s.size), w.cell? ⟨g, i, none⟩ = some (.int .u8 (s[i].toNat : Int))
theorem BytesAt.below {w w' : World} {g : Nat} {s : ByteArray} (h : BytesAt w g s) (hg : g < w.heap.size) (hb : Below w.heap.size w w') : BytesAt w' g s := fun i hi => by rw [(bcell hb).1 g i hg]; exact h i hi
theorem add_off (b off i : Nat) : (⟨b, off, none⟩ : Addr).add i = ⟨b, off + i, none⟩ := by unfold Addr.add; split <;> simp_all
theorem conv_piece {w : World} {g : Nat} {s : ByteArray} (h : BytesAt w g s) (lo n cap : Nat) (hn : lo + n ≤ s.size) : (convert 50 9 (.slice (some ⟨g, lo, none⟩) n cap)).run Tryd.prog w = .ok (.string (s.extract lo (lo + n))) w := by
  have hl : (s.extract lo (lo + n)).data.toList.length = n := by rw [size_toList, ByteArray.size_extract]; omega
  have hc := run_convert_bytes_back (P := Tryd.prog) w 50 9 5 ⟨g, lo, none⟩ cap (s.extract lo (lo + n)).data.toList Tryd.underlying50 Tryd.underlying5 Tryd.underlying9 (fun j hj => by
    rw [add_off, h (lo + j) (by omega)]
    congr 3
    have e : (s.extract lo (lo + n)).data.toList[j] = s.data.toList[lo + j]'(by rw [size_toList]; omega) := by
      simp only [Lib.extract_data]
      rw [List.getElem_take, List.getElem_drop]
    rw [e]
    rfl)
  rw [hl] at hc
  exact hc
theorem conv_bytes (s : ByteArray) (w : World) : ∃ (cap : Nat) (w1 : World), (convert 9 50 (.string s)).run Tryd.prog w = .ok (.slice (some ⟨w.heap.size, 0, none⟩) s.size cap) w1 ∧ s.size ≤ cap ∧ BytesAt w1 w.heap.size s ∧ w.heap.size < w1.heap.size ∧ Below w.heap.size w w1 := by
  refine ⟨_, _, run_bytes_of_string (P := Tryd.prog) w 9 50 5 s Tryd.underlying9 Tryd.underlying50 Tryd.underlying5, ?_, ?_, ?_, ?_⟩
  · exact grownCap_ge w s.size 0 5
  · intro i hi
    have h := World.cell?_alloc_mark w.drew (bytesRow s (grownCap w s.size 0 5)) 5 ((bytesRow s (grownCap w s.size 0 5)).size, (bytesRow s (grownCap w s.size 0 5)).size + 1) i
    refine Eq.trans h ?_
    rw [bytesRow_at s _ i hi]
    rfl
  · simp
  · exact ((Below.refl _ w).drew).alloc (Nat.le_refl _) _
def frT (s : ByteArray) : ByteArray := if 4 ≤ s.size ∧ 0 ≤ unZ s ∧ wordB (sumN (unT s)) = s.extract 0 4 then unT s else ByteArray.empty
def frE (s : ByteArray) : Int := if 4 ≤ s.size ∧ 0 ≤ unZ s ∧ wordB (sumN (unT s)) = s.extract 0 4 then 4 + unZ s else -1

set_option maxRecDepth 100000 in
set_option maxHeartbeats 2000000 in
theorem frameAt_short (s : ByteArray) (g cap : Nat) (w : World) (h : s.size < 4) : Calls Tryd.prog 28 #[.slice (some ⟨g, 0, none⟩) s.size cap, .int .i64 0] w fun e w' => e = .returned (.tuple #[.string ByteArray.empty, .int .i64 (-1)]) ∧ Below w.heap.size w w' := by
  have h1 : (s.size : Int) ≤ 1006 := by omega
  have h2 : (s.size : Int) < 4 := by omega
  clear h
  go_enter Tryd.func28, Tryd.ntmps28
  go_wp2_with fail
  exact bodyPost_ret (v := .tuple #[.string ⟨#[]⟩, .int .i64 (-1)]) (by simp [results, Tryd.results28, go_sem]) rfl ⟨rfl, Below.refl _ _⟩

set_option maxRecDepth 100000 in
set_option maxHeartbeats 2000000 in
theorem frameAt_four_neg (s : ByteArray) (hs : s.size ≤ maxLen) (g cap : Nat) (hcap : s.size ≤ cap) (w : World) (h4 : s.size = 4) (hc : BytesAt w g s) (_hg : g < w.heap.size) (hH : Handle w) (hz : unZ s < 0) : Calls Tryd.prog 28 #[.slice (some ⟨g, 0, none⟩) s.size cap, .int .i64 0] w fun e w' => e = .returned (.tuple #[.string ByteArray.empty, .int .i64 (-1)]) ∧ Below w.heap.size w w' := by
  have hr : (convert 50 9 (.slice (some ⟨g, 0, none⟩) 0 0)).run Tryd.prog w = .ok (.string (restOf s)) w := by
    have h := conv_piece hc 0 0 0 (by omega)
    rw [h]
    congr 2
    unfold restOf
    rw [h4]
    apply ByteArray.ext
    apply Array.ext'
    rw [Lib.extract_data, Lib.extract_data]
    simp
  have hcap2 : (4 : Int) ≤ (cap : Int) := by omega
  have hrs : (restOf s).size ≤ maxLen := by have := rest_size s; omega
  have HG := hide (implRt (restOf s) 0 hrs w hH)
  have hub := rtE_le (restOf s) 0
  have hsz := rest_size s
  have hz1 : unZ s ≤ 1002 := by unfold unZ; omega
  have e1 : rtS (restOf s) 0 = unT s := rfl
  have e2 : rtE (restOf s) 0 = unZ s := rfl
  rw [e1, e2] at HG
  generalize unZ s = z at *
  clear e1 e2 hrs hub hsz hH hcap hs
  generalize unT s = tx at *
  generalize restOf s = rs at *
  have HC := hide hc
  clear hc
  rw [h4]
  clear h4
  go_enter Tryd.func28, Tryd.ntmps28
  go_wp2_with fail
  refine (unhide HG).mono ?_
  rintro e w1 ⟨rfl, hb1⟩
  clear hr HG
  go_upto_region 7 with fail
  refine wp_at (fun V hV => ?_)
  obtain rfl := hV
  have HBV := hide hb1
  clear hb1
  refine wp_region_mix (by kernel_rfl) ?_
  show wpMix _ _ _ _ 10 (Array.replicate 10 false) _ _
  refine wpMix_take 0 rfl (by kernel_rfl) (by kernel_rfl) (by kernel_rfl) (fun _ _ _ _ h => h) (fun K hK => ?_)
  go_simp
  first
    | (refine hK _ ?_; clear hK K)
    | (apply Exists.intro
       refine ⟨fun _ => ?_, hK _ ?_⟩
       (fail)
       clear hK K)
  refine wpMix_take 1 rfl (by kernel_rfl) (by kernel_rfl) (by kernel_rfl) (fun _ _ _ _ h => h) (fun K hK => ?_)
  go_simp
  first
    | (refine hK _ ?_; clear hK K)
    | (apply Exists.intro
       refine ⟨fun _ => ?_, hK _ ?_⟩
       (fail)
       clear hK K)
  refine wpMix_take 2 rfl (by kernel_rfl) (by kernel_rfl) (by kernel_rfl) (fun _ _ _ _ h => h) (fun K hK => ?_)
  go_simp
  first
    | (refine hK _ ?_; clear hK K)
    | (apply Exists.intro
       refine ⟨fun _ => ?_, hK _ ?_⟩
       (fail)
       clear hK K)
  refine wpMix_take 3 rfl (by kernel_rfl) (by kernel_rfl) (by kernel_rfl) (fun _ _ _ _ h => h) (fun K hK => ?_)
  go_simp
  first
    | (refine hK _ ?_; clear hK K)
    | (apply Exists.intro
       refine ⟨fun _ => ?_, hK _ ?_⟩
       (fail)
       clear hK K)
  refine wpMix_take 4 rfl (by kernel_rfl) (by kernel_rfl) (by kernel_rfl) (fun _ _ _ _ h => h) (fun K hK => ?_)
  go_simp
  first
    | (refine hK _ ?_; clear hK K)
    | (apply Exists.intro
       refine ⟨fun _ => ?_, hK _ ?_⟩
       (fail)
       clear hK K)
  refine wpMix_take 5 rfl (by kernel_rfl) (by kernel_rfl) (by kernel_rfl) (fun _ _ _ _ h => h) (fun K hK => ?_)
  go_simp
  first
    | (refine hK _ ?_; clear hK K)
    | (apply Exists.intro
       refine ⟨fun _ => ?_, hK _ ?_⟩
       (fail)
       clear hK K)
  refine wpMix_take 6 rfl (by kernel_rfl) (by kernel_rfl) (by kernel_rfl) (fun _ _ _ _ h => h) (fun K hK => ?_)
  go_simp
  first
    | (refine hK _ ?_; clear hK K)
    | (apply Exists.intro
       refine ⟨fun _ => ?_, hK _ ?_⟩
       (fail)
       clear hK K)
  refine wpMix_take 7 rfl (by kernel_rfl) (by kernel_rfl) (by kernel_rfl) (fun _ _ _ _ h => h) (fun K hK => ?_)
  go_simp
  first
    | (refine hK _ ?_; clear hK K)
    | (apply Exists.intro
       refine ⟨fun _ => ?_, hK _ ?_⟩
       (fail)
       clear hK K)
  refine wpMix_take 8 rfl (by kernel_rfl) (by kernel_rfl) (by kernel_rfl) (fun _ _ _ _ h => h) (fun K hK => ?_)
  go_simp
  first
    | (refine hK _ ?_; clear hK K)
    | (apply Exists.intro
       refine ⟨fun _ => ?_, hK _ ?_⟩
       (fail)
       clear hK K)
  refine wpMix_take 9 rfl (by kernel_rfl) (by kernel_rfl) (by kernel_rfl) (fun _ _ _ _ h => h) (fun K hK => ?_)
  go_simp
  first
    | (refine hK _ ?_; clear hK K)
    | (apply Exists.intro
       refine ⟨fun _ => ?_, hK _ ?_⟩
       (fail)
       clear hK K)
  refine wpMix_done (by kernel_rfl) (fun x hx => ?_)
  have HBZ := hide (Ge.trans (unhide HBV) hx)
  clear hx HBV
  go_simp
  go_wp2_with fail
  exact bodyPost_ret (v := .tuple #[.string ⟨#[]⟩, .int .i64 (-1)]) (by simp [results, Tryd.results28, go_sem]) rfl ⟨rfl, unhide HBZ⟩

set_option maxRecDepth 100000 in
set_option maxHeartbeats 2000000 in
theorem frameAt_mid_neg (s : ByteArray) (hs : s.size ≤ maxLen) (g cap : Nat) (hcap : s.size ≤ cap) (w : World) (h5 : 5 ≤ s.size) (h6 : s.size ≤ 1006) (hc : BytesAt w g s) (_hg : g < w.heap.size) (hH : Handle w) (hz : unZ s < 0) : Calls Tryd.prog 28 #[.slice (some ⟨g, 0, none⟩) s.size cap, .int .i64 0] w fun e w' => e = .returned (.tuple #[.string ByteArray.empty, .int .i64 (-1)]) ∧ Below w.heap.size w w' := by
  have hr : (convert 50 9 (.slice (some ⟨g, 4, none⟩) (s.size - 4) (s.size - 4))).run Tryd.prog w = .ok (.string (restOf s)) w := by
    have h := conv_piece hc 4 (s.size - 4) (s.size - 4) (by omega)
    rw [h]
    unfold restOf
    rw [Nat.min_eq_left h6, show 4 + (s.size - 4) = s.size by omega]
  have h1 : (s.size : Int) ≤ 1006 := by omega
  have h2 : ¬ ((s.size : Int) < 4) := by omega
  have h3 : (4 : Int) < (s.size : Int) := by omega
  have hcap2 : (s.size : Int) ≤ (cap : Int) := by omega
  have hrs : (restOf s).size ≤ maxLen := by have := rest_size s; omega
  have HG := hide (implRt (restOf s) 0 hrs w hH)
  have hub := rtE_le (restOf s) 0
  have hsz := rest_size s
  have hz1 : unZ s ≤ 1002 := by unfold unZ; omega
  have e1 : rtS (restOf s) 0 = unT s := rfl
  have e2 : rtE (restOf s) 0 = unZ s := rfl
  rw [e1, e2] at HG
  generalize unZ s = z at *
  clear e1 e2 hrs hub hsz hH hcap hs
  generalize unT s = tx at *
  generalize restOf s = rs at *
  have HC := hide hc
  clear hc
  go_enter Tryd.func28, Tryd.ntmps28
  go_wp2_with fail
  refine (unhide HG).mono ?_
  rintro e w1 ⟨rfl, hb1⟩
  clear hr HG
  go_upto_region 7 with fail
  refine wp_at (fun V hV => ?_)
  obtain rfl := hV
  have HBV := hide hb1
  clear hb1
  refine wp_region_mix (by kernel_rfl) ?_
  show wpMix _ _ _ _ 10 (Array.replicate 10 false) _ _
  refine wpMix_take 0 rfl (by kernel_rfl) (by kernel_rfl) (by kernel_rfl) (fun _ _ _ _ h => h) (fun K hK => ?_)
  go_simp
  first
    | (refine hK _ ?_; clear hK K)
    | (apply Exists.intro
       refine ⟨fun _ => ?_, hK _ ?_⟩
       (fail)
       clear hK K)
  refine wpMix_take 1 rfl (by kernel_rfl) (by kernel_rfl) (by kernel_rfl) (fun _ _ _ _ h => h) (fun K hK => ?_)
  go_simp
  first
    | (refine hK _ ?_; clear hK K)
    | (apply Exists.intro
       refine ⟨fun _ => ?_, hK _ ?_⟩
       (fail)
       clear hK K)
  refine wpMix_take 2 rfl (by kernel_rfl) (by kernel_rfl) (by kernel_rfl) (fun _ _ _ _ h => h) (fun K hK => ?_)
  go_simp
  first
    | (refine hK _ ?_; clear hK K)
    | (apply Exists.intro
       refine ⟨fun _ => ?_, hK _ ?_⟩
       (fail)
       clear hK K)
  refine wpMix_take 3 rfl (by kernel_rfl) (by kernel_rfl) (by kernel_rfl) (fun _ _ _ _ h => h) (fun K hK => ?_)
  go_simp
  first
    | (refine hK _ ?_; clear hK K)
    | (apply Exists.intro
       refine ⟨fun _ => ?_, hK _ ?_⟩
       (fail)
       clear hK K)
  refine wpMix_take 4 rfl (by kernel_rfl) (by kernel_rfl) (by kernel_rfl) (fun _ _ _ _ h => h) (fun K hK => ?_)
  go_simp
  first
    | (refine hK _ ?_; clear hK K)
    | (apply Exists.intro
       refine ⟨fun _ => ?_, hK _ ?_⟩
       (fail)
       clear hK K)
  refine wpMix_take 5 rfl (by kernel_rfl) (by kernel_rfl) (by kernel_rfl) (fun _ _ _ _ h => h) (fun K hK => ?_)
  go_simp
  first
    | (refine hK _ ?_; clear hK K)
    | (apply Exists.intro
       refine ⟨fun _ => ?_, hK _ ?_⟩
       (fail)
       clear hK K)
  refine wpMix_take 6 rfl (by kernel_rfl) (by kernel_rfl) (by kernel_rfl) (fun _ _ _ _ h => h) (fun K hK => ?_)
  go_simp
  first
    | (refine hK _ ?_; clear hK K)
    | (apply Exists.intro
       refine ⟨fun _ => ?_, hK _ ?_⟩
       (fail)
       clear hK K)
  refine wpMix_take 7 rfl (by kernel_rfl) (by kernel_rfl) (by kernel_rfl) (fun _ _ _ _ h => h) (fun K hK => ?_)
  go_simp
  first
    | (refine hK _ ?_; clear hK K)
    | (apply Exists.intro
       refine ⟨fun _ => ?_, hK _ ?_⟩
       (fail)
       clear hK K)
  refine wpMix_take 8 rfl (by kernel_rfl) (by kernel_rfl) (by kernel_rfl) (fun _ _ _ _ h => h) (fun K hK => ?_)
  go_simp
  first
    | (refine hK _ ?_; clear hK K)
    | (apply Exists.intro
       refine ⟨fun _ => ?_, hK _ ?_⟩
       (fail)
       clear hK K)
  refine wpMix_take 9 rfl (by kernel_rfl) (by kernel_rfl) (by kernel_rfl) (fun _ _ _ _ h => h) (fun K hK => ?_)
  go_simp
  first
    | (refine hK _ ?_; clear hK K)
    | (apply Exists.intro
       refine ⟨fun _ => ?_, hK _ ?_⟩
       (fail)
       clear hK K)
  refine wpMix_done (by kernel_rfl) (fun x hx => ?_)
  have HBZ := hide (Ge.trans (unhide HBV) hx)
  clear hx HBV
  go_simp
  go_wp2_with fail
  exact bodyPost_ret (v := .tuple #[.string ⟨#[]⟩, .int .i64 (-1)]) (by simp [results, Tryd.results28, go_sem]) rfl ⟨rfl, unhide HBZ⟩

set_option maxRecDepth 100000 in
set_option maxHeartbeats 2000000 in
theorem frameAt_mid_bad (s : ByteArray) (hs : s.size ≤ maxLen) (g cap : Nat) (hcap : s.size ≤ cap) (w : World) (h5 : 5 ≤ s.size) (h6 : s.size ≤ 1006) (hc : BytesAt w g s) (hg : g < w.heap.size) (hH : Handle w) (hz : 0 ≤ unZ s) (hq : ¬ wordB (sumN (unT s)) = s.extract 0 4) : Calls Tryd.prog 28 #[.slice (some ⟨g, 0, none⟩) s.size cap, .int .i64 0] w fun e w' => e = .returned (.tuple #[.string ByteArray.empty, .int .i64 (-1)]) ∧ Below w.heap.size w w' := by
  have hr : (convert 50 9 (.slice (some ⟨g, 4, none⟩) (s.size - 4) (s.size - 4))).run Tryd.prog w = .ok (.string (restOf s)) w := by
    have h := conv_piece hc 4 (s.size - 4) (s.size - 4) (by omega)
    rw [h]
    unfold restOf
    rw [Nat.min_eq_left h6, show 4 + (s.size - 4) = s.size by omega]
  have h1 : (s.size : Int) ≤ 1006 := by omega
  have h2 : ¬ ((s.size : Int) < 4) := by omega
  have h3 : (4 : Int) < (s.size : Int) := by omega
  have hcap2 : (s.size : Int) ≤ (cap : Int) := by omega
  have hrs : (restOf s).size ≤ maxLen := by have := rest_size s; omega
  have HG := hide (implRt (restOf s) 0 hrs w hH)
  have hub := rtE_le (restOf s) 0
  have hsz := rest_size s
  have hz1 : unZ s ≤ 1002 := by unfold unZ; omega
  have e1 : rtS (restOf s) 0 = unT s := rfl
  have e2 : rtE (restOf s) 0 = unZ s := rfl
  rw [e1, e2] at HG
  have hn := sumN_lt (unT s)
  have HS := hide (fun w1 => sumBytes (unT s) (Nat.le_trans (rtS_size _ _) (by unfold maxLen; omega)) w1)
  have HCV := hide (fun w1 g => conv_four w1 g (sumN (unT s)) 4 hn)
  have HCC := hide (fun w1 (hb : Below w.heap.size w w1) => conv_piece (hc.below hg hb) 0 4 4 (by omega))
  have hqq : ((wordB (sumN (unT s))).toList == (s.extract 0 (0 + 4)).toList) = false := by
    rw [beq_eq_false_iff_ne]
    intro h
    rw [ByteArray.toList_eq, ByteArray.toList_eq] at h
    exact hq (ByteArray.ext (Array.ext' h))
  generalize unZ s = z at *
  clear e1 e2 hrs hub hsz hH hcap hs
  generalize wordB (sumN (unT s)) = bW at *
  generalize sumN (unT s) = n at *
  generalize s.extract 0 (0 + 4) = hd at *
  have HQ := hide hq
  clear hn hq
  have hz2 : ¬ (z < 0) := by omega
  have hz3 : decide (z < 0) = false := decide_eq_false hz2
  generalize unT s = tx at *
  generalize restOf s = rs at *
  have HC := hide hc
  clear hc
  go_enter Tryd.func28, Tryd.ntmps28
  go_wp2_with fail
  refine (unhide HG).mono ?_
  rintro e w1 ⟨rfl, hb1⟩
  clear hr HG
  go_upto_region 7 with fail
  refine wp_at (fun V hV => ?_)
  obtain rfl := hV
  have HBV := hide hb1
  clear hb1
  have hcc := fun d os => unhide HCC (Sort.grow (redrawn V d) os) (Ge.trans (unhide HBV) (below_regrown V d os))
  refine wp_region_mix (by kernel_rfl) ?_
  show wpMix _ _ _ _ 10 (Array.replicate 10 false) _ _
  refine wpMix_take 0 rfl (by kernel_rfl) (by kernel_rfl) (by kernel_rfl) (fun _ _ _ _ h => h) (fun K hK => ?_)
  go_simp
  first
    | (refine hK _ ?_; clear hK K)
    | (apply Exists.intro
       refine ⟨fun _ => ?_, hK _ ?_⟩
       (fail)
       clear hK K)
  refine wpMix_take 1 rfl (by kernel_rfl) (by kernel_rfl) (by kernel_rfl) (fun _ _ _ _ h => h) (fun K hK => ?_)
  go_simp
  first
    | (refine hK _ ?_; clear hK K)
    | (apply Exists.intro
       refine ⟨fun _ => ?_, hK _ ?_⟩
       (fail)
       clear hK K)
  refine wpMix_take 2 rfl (by kernel_rfl) (by kernel_rfl) (by kernel_rfl) (fun _ _ _ _ h => h) (fun K hK => ?_)
  go_simp
  first
    | (refine hK _ ?_; clear hK K)
    | (apply Exists.intro
       refine ⟨fun _ => ?_, hK _ ?_⟩
       (fail)
       clear hK K)
  refine wpMix_take 3 rfl (by kernel_rfl) (by kernel_rfl) (by kernel_rfl) (fun _ _ _ _ h => h) (fun K hK => ?_)
  go_simp
  first
    | (refine hK _ ?_; clear hK K)
    | (apply Exists.intro
       refine ⟨fun _ => ?_, hK _ ?_⟩
       (fail)
       clear hK K)
  refine wpMix_take 6 rfl (by kernel_rfl) (by kernel_rfl) (by kernel_rfl) (fun _ _ _ _ h => h) (fun K hK => ?_)
  go_simp
  first
    | (refine hK _ ?_; clear hK K)
    | (apply Exists.intro
       refine ⟨fun _ => ?_, hK _ ?_⟩
       (fail)
       clear hK K)
  refine wpMix_take 7 rfl (by kernel_rfl) (by kernel_rfl) (by kernel_rfl) (fun _ _ _ _ h => h) (fun K hK => ?_)
  go_simp
  first
    | (refine hK _ ?_; clear hK K)
    | (apply Exists.intro
       refine ⟨fun _ => ?_, hK _ ?_⟩
       (fail)
       clear hK K)
  refine wpMix_one 4 rfl (by kernel_rfl) (by rfl) (fun x hx => ?_)
  go_simp
  refine (unhide HS _).mono ?_
  rintro e y ⟨g2, rfl, hg2, hblk, hby⟩
  refine ⟨hby, ?_⟩
  have HBY := hide (Ge.trans (Ge.trans (unhide HBV) hx) hby)
  have hgy := blk_lt hblk
  obtain ⟨c0, c1, c2, c3⟩ := cells4 hblk
  have hcv := fun d os => unhide HCV (Sort.grow (redrawn y d) os) g2 (cell_regrown c0 d os) (cell_regrown c1 d os) (cell_regrown c2 d os) (cell_regrown c3 d os)
  clear hx hby hblk c0 c1 c2 c3 HCV HBV HS hcc HCC hg2
  refine wpMix_take 5 rfl (by kernel_rfl) (by kernel_rfl) (by kernel_rfl) (fun _ _ _ _ h => h) (fun K hK => ?_)
  go_simp
  first
    | (refine hK _ ?_; clear hK K)
    | (apply Exists.intro
       refine ⟨fun _ => ?_, hK _ ?_⟩
       (fail)
       clear hK K)
  refine wpMix_take 8 rfl (by kernel_rfl) (by kernel_rfl) (by kernel_rfl) (fun _ _ _ _ h => h) (fun K hK => ?_)
  go_simp
  first
    | (refine hK _ ?_; clear hK K)
    | (apply Exists.intro
       refine ⟨fun _ => ?_, hK _ ?_⟩
       (fail)
       clear hK K)
  refine wpMix_take 9 rfl (by kernel_rfl) (by kernel_rfl) (by kernel_rfl) (fun _ _ _ _ h => h) (fun K hK => ?_)
  go_simp
  first
    | (refine hK _ ?_; clear hK K)
    | (apply Exists.intro
       refine ⟨fun _ => ?_, hK _ ?_⟩
       (fail)
       clear hK K)
  refine wpMix_done (by kernel_rfl) (fun x2 hx => ?_)
  have HBZ := hide (Ge.trans (unhide HBY) hx)
  clear hx HBY hcv
  go_simp
  go_wp2_with fail
  exact bodyPost_ret (v := .tuple #[.string ⟨#[]⟩, .int .i64 (-1)]) (by simp [results, Tryd.results28, go_sem]) rfl ⟨rfl, unhide HBZ⟩

set_option maxRecDepth 100000 in
set_option maxHeartbeats 2000000 in
theorem frameAt_mid_good (s : ByteArray) (hs : s.size ≤ maxLen) (g cap : Nat) (hcap : s.size ≤ cap) (w : World) (h5 : 5 ≤ s.size) (h6 : s.size ≤ 1006) (hc : BytesAt w g s) (hg : g < w.heap.size) (hH : Handle w) (hz : 0 ≤ unZ s) (hq : wordB (sumN (unT s)) = s.extract 0 4) : Calls Tryd.prog 28 #[.slice (some ⟨g, 0, none⟩) s.size cap, .int .i64 0] w fun e w' => e = .returned (.tuple #[.string (unT s), .int .i64 (4 + unZ s)]) ∧ Below w.heap.size w w' := by
  have hr : (convert 50 9 (.slice (some ⟨g, 4, none⟩) (s.size - 4) (s.size - 4))).run Tryd.prog w = .ok (.string (restOf s)) w := by
    have h := conv_piece hc 4 (s.size - 4) (s.size - 4) (by omega)
    rw [h]
    unfold restOf
    rw [Nat.min_eq_left h6, show 4 + (s.size - 4) = s.size by omega]
  have h1 : (s.size : Int) ≤ 1006 := by omega
  have h2 : ¬ ((s.size : Int) < 4) := by omega
  have h3 : (4 : Int) < (s.size : Int) := by omega
  have hcap2 : (s.size : Int) ≤ (cap : Int) := by omega
  have hrs : (restOf s).size ≤ maxLen := by have := rest_size s; omega
  have HG := hide (implRt (restOf s) 0 hrs w hH)
  have hub := rtE_le (restOf s) 0
  have hsz := rest_size s
  have hz1 : unZ s ≤ 1002 := by unfold unZ; omega
  have e1 : rtS (restOf s) 0 = unT s := rfl
  have e2 : rtE (restOf s) 0 = unZ s := rfl
  rw [e1, e2] at HG
  have hn := sumN_lt (unT s)
  have HS := hide (fun w1 => sumBytes (unT s) (Nat.le_trans (rtS_size _ _) (by unfold maxLen; omega)) w1)
  have HCV := hide (fun w1 g => conv_four w1 g (sumN (unT s)) 4 hn)
  have HCC := hide (fun w1 (hb : Below w.heap.size w w1) => conv_piece (hc.below hg hb) 0 4 4 (by omega))
  have hqq : ((wordB (sumN (unT s))).toList == (s.extract 0 (0 + 4)).toList) = true := by
    rw [hq]; simp
  generalize unZ s = z at *
  clear e1 e2 hrs hub hsz hH hcap hs
  generalize wordB (sumN (unT s)) = bW at *
  generalize sumN (unT s) = n at *
  generalize s.extract 0 (0 + 4) = hd at *
  have HQ := hide hq
  clear hn hq
  have hz2 : ¬ (z < 0) := by omega
  have hz3 : decide (z < 0) = false := decide_eq_false hz2
  generalize unT s = tx at *
  generalize restOf s = rs at *
  have HC := hide hc
  clear hc
  go_enter Tryd.func28, Tryd.ntmps28
  go_wp2_with fail
  refine (unhide HG).mono ?_
  rintro e w1 ⟨rfl, hb1⟩
  clear hr HG
  go_upto_region 7 with fail
  refine wp_at (fun V hV => ?_)
  obtain rfl := hV
  have HBV := hide hb1
  clear hb1
  have hcc := fun d os => unhide HCC (Sort.grow (redrawn V d) os) (Ge.trans (unhide HBV) (below_regrown V d os))
  refine wp_region_mix (by kernel_rfl) ?_
  show wpMix _ _ _ _ 10 (Array.replicate 10 false) _ _
  refine wpMix_take 0 rfl (by kernel_rfl) (by kernel_rfl) (by kernel_rfl) (fun _ _ _ _ h => h) (fun K hK => ?_)
  go_simp
  first
    | (refine hK _ ?_; clear hK K)
    | (apply Exists.intro
       refine ⟨fun _ => ?_, hK _ ?_⟩
       (fail)
       clear hK K)
  refine wpMix_take 1 rfl (by kernel_rfl) (by kernel_rfl) (by kernel_rfl) (fun _ _ _ _ h => h) (fun K hK => ?_)
  go_simp
  first
    | (refine hK _ ?_; clear hK K)
    | (apply Exists.intro
       refine ⟨fun _ => ?_, hK _ ?_⟩
       (fail)
       clear hK K)
  refine wpMix_take 2 rfl (by kernel_rfl) (by kernel_rfl) (by kernel_rfl) (fun _ _ _ _ h => h) (fun K hK => ?_)
  go_simp
  first
    | (refine hK _ ?_; clear hK K)
    | (apply Exists.intro
       refine ⟨fun _ => ?_, hK _ ?_⟩
       (fail)
       clear hK K)
  refine wpMix_take 3 rfl (by kernel_rfl) (by kernel_rfl) (by kernel_rfl) (fun _ _ _ _ h => h) (fun K hK => ?_)
  go_simp
  first
    | (refine hK _ ?_; clear hK K)
    | (apply Exists.intro
       refine ⟨fun _ => ?_, hK _ ?_⟩
       (fail)
       clear hK K)
  refine wpMix_take 6 rfl (by kernel_rfl) (by kernel_rfl) (by kernel_rfl) (fun _ _ _ _ h => h) (fun K hK => ?_)
  go_simp
  first
    | (refine hK _ ?_; clear hK K)
    | (apply Exists.intro
       refine ⟨fun _ => ?_, hK _ ?_⟩
       (fail)
       clear hK K)
  refine wpMix_take 7 rfl (by kernel_rfl) (by kernel_rfl) (by kernel_rfl) (fun _ _ _ _ h => h) (fun K hK => ?_)
  go_simp
  first
    | (refine hK _ ?_; clear hK K)
    | (apply Exists.intro
       refine ⟨fun _ => ?_, hK _ ?_⟩
       (fail)
       clear hK K)
  refine wpMix_one 4 rfl (by kernel_rfl) (by rfl) (fun x hx => ?_)
  go_simp
  refine (unhide HS _).mono ?_
  rintro e y ⟨g2, rfl, hg2, hblk, hby⟩
  refine ⟨hby, ?_⟩
  have HBY := hide (Ge.trans (Ge.trans (unhide HBV) hx) hby)
  have hgy := blk_lt hblk
  obtain ⟨c0, c1, c2, c3⟩ := cells4 hblk
  have hcv := fun d os => unhide HCV (Sort.grow (redrawn y d) os) g2 (cell_regrown c0 d os) (cell_regrown c1 d os) (cell_regrown c2 d os) (cell_regrown c3 d os)
  clear hx hby hblk c0 c1 c2 c3 HCV HBV HS hcc HCC hg2
  refine wpMix_take 5 rfl (by kernel_rfl) (by kernel_rfl) (by kernel_rfl) (fun _ _ _ _ h => h) (fun K hK => ?_)
  go_simp
  first
    | (refine hK _ ?_; clear hK K)
    | (apply Exists.intro
       refine ⟨fun _ => ?_, hK _ ?_⟩
       (fail)
       clear hK K)
  refine wpMix_take 8 rfl (by kernel_rfl) (by kernel_rfl) (by kernel_rfl) (fun _ _ _ _ h => h) (fun K hK => ?_)
  go_simp
  first
    | (refine hK _ ?_; clear hK K)
    | (apply Exists.intro
       refine ⟨fun _ => ?_, hK _ ?_⟩
       (fail)
       clear hK K)
  refine wpMix_take 9 rfl (by kernel_rfl) (by kernel_rfl) (by kernel_rfl) (fun _ _ _ _ h => h) (fun K hK => ?_)
  go_simp
  first
    | (refine hK _ ?_; clear hK K)
    | (apply Exists.intro
       refine ⟨fun _ => ?_, hK _ ?_⟩
       (fail)
       clear hK K)
  refine wpMix_done (by kernel_rfl) (fun x2 hx => ?_)
  have HBZ := hide (Ge.trans (unhide HBY) hx)
  clear hx HBY hcv
  go_simp
  go_wp2_with fail
  exact bodyPost_ret (v := .tuple #[.string tx, .int .i64 (4 + z)]) (by simp [results, Tryd.results28, go_sem]) rfl ⟨rfl, unhide HBZ⟩

set_option maxRecDepth 100000 in
set_option maxHeartbeats 2000000 in
theorem frameAt_long_neg (s : ByteArray) (hs : s.size ≤ maxLen) (g cap : Nat) (hcap : s.size ≤ cap) (w : World) (h7 : 1006 < s.size) (hc : BytesAt w g s) (_hg : g < w.heap.size) (hH : Handle w) (hz : unZ s < 0) : Calls Tryd.prog 28 #[.slice (some ⟨g, 0, none⟩) s.size cap, .int .i64 0] w fun e w' => e = .returned (.tuple #[.string ByteArray.empty, .int .i64 (-1)]) ∧ Below w.heap.size w w' := by
  have hr : (convert 50 9 (.slice (some ⟨g, 4, none⟩) 1002 1002)).run Tryd.prog w = .ok (.string (restOf s)) w := by
    have h := conv_piece hc 4 1002 1002 (by omega)
    rw [h]
    unfold restOf
    rw [Nat.min_eq_right (by omega)]
  have h1 : ¬ ((s.size : Int) ≤ 1006) := by omega
  have h3 : (1006 : Int) < (s.size : Int) := by omega
  have hcap2 : (1006 : Int) ≤ (cap : Int) := by omega
  have hrs : (restOf s).size ≤ maxLen := by have := rest_size s; omega
  have HG := hide (implRt (restOf s) 0 hrs w hH)
  have hub := rtE_le (restOf s) 0
  have hsz := rest_size s
  have hz1 : unZ s ≤ 1002 := by unfold unZ; omega
  have e1 : rtS (restOf s) 0 = unT s := rfl
  have e2 : rtE (restOf s) 0 = unZ s := rfl
  rw [e1, e2] at HG
  generalize unZ s = z at *
  clear e1 e2 hrs hub hsz hH hcap hs
  generalize unT s = tx at *
  generalize restOf s = rs at *
  have HC := hide hc
  clear hc
  go_enter Tryd.func28, Tryd.ntmps28
  go_wp2_with fail
  refine (unhide HG).mono ?_
  rintro e w1 ⟨rfl, hb1⟩
  clear hr HG
  go_upto_region 7 with fail
  refine wp_at (fun V hV => ?_)
  obtain rfl := hV
  have HBV := hide hb1
  clear hb1
  refine wp_region_mix (by kernel_rfl) ?_
  show wpMix _ _ _ _ 10 (Array.replicate 10 false) _ _
  refine wpMix_take 0 rfl (by kernel_rfl) (by kernel_rfl) (by kernel_rfl) (fun _ _ _ _ h => h) (fun K hK => ?_)
  go_simp
  first
    | (refine hK _ ?_; clear hK K)
    | (apply Exists.intro
       refine ⟨fun _ => ?_, hK _ ?_⟩
       (fail)
       clear hK K)
  refine wpMix_take 1 rfl (by kernel_rfl) (by kernel_rfl) (by kernel_rfl) (fun _ _ _ _ h => h) (fun K hK => ?_)
  go_simp
  first
    | (refine hK _ ?_; clear hK K)
    | (apply Exists.intro
       refine ⟨fun _ => ?_, hK _ ?_⟩
       (fail)
       clear hK K)
  refine wpMix_take 2 rfl (by kernel_rfl) (by kernel_rfl) (by kernel_rfl) (fun _ _ _ _ h => h) (fun K hK => ?_)
  go_simp
  first
    | (refine hK _ ?_; clear hK K)
    | (apply Exists.intro
       refine ⟨fun _ => ?_, hK _ ?_⟩
       (fail)
       clear hK K)
  refine wpMix_take 3 rfl (by kernel_rfl) (by kernel_rfl) (by kernel_rfl) (fun _ _ _ _ h => h) (fun K hK => ?_)
  go_simp
  first
    | (refine hK _ ?_; clear hK K)
    | (apply Exists.intro
       refine ⟨fun _ => ?_, hK _ ?_⟩
       (fail)
       clear hK K)
  refine wpMix_take 4 rfl (by kernel_rfl) (by kernel_rfl) (by kernel_rfl) (fun _ _ _ _ h => h) (fun K hK => ?_)
  go_simp
  first
    | (refine hK _ ?_; clear hK K)
    | (apply Exists.intro
       refine ⟨fun _ => ?_, hK _ ?_⟩
       (fail)
       clear hK K)
  refine wpMix_take 5 rfl (by kernel_rfl) (by kernel_rfl) (by kernel_rfl) (fun _ _ _ _ h => h) (fun K hK => ?_)
  go_simp
  first
    | (refine hK _ ?_; clear hK K)
    | (apply Exists.intro
       refine ⟨fun _ => ?_, hK _ ?_⟩
       (fail)
       clear hK K)
  refine wpMix_take 6 rfl (by kernel_rfl) (by kernel_rfl) (by kernel_rfl) (fun _ _ _ _ h => h) (fun K hK => ?_)
  go_simp
  first
    | (refine hK _ ?_; clear hK K)
    | (apply Exists.intro
       refine ⟨fun _ => ?_, hK _ ?_⟩
       (fail)
       clear hK K)
  refine wpMix_take 7 rfl (by kernel_rfl) (by kernel_rfl) (by kernel_rfl) (fun _ _ _ _ h => h) (fun K hK => ?_)
  go_simp
  first
    | (refine hK _ ?_; clear hK K)
    | (apply Exists.intro
       refine ⟨fun _ => ?_, hK _ ?_⟩
       (fail)
       clear hK K)
  refine wpMix_take 8 rfl (by kernel_rfl) (by kernel_rfl) (by kernel_rfl) (fun _ _ _ _ h => h) (fun K hK => ?_)
  go_simp
  first
    | (refine hK _ ?_; clear hK K)
    | (apply Exists.intro
       refine ⟨fun _ => ?_, hK _ ?_⟩
       (fail)
       clear hK K)
  refine wpMix_take 9 rfl (by kernel_rfl) (by kernel_rfl) (by kernel_rfl) (fun _ _ _ _ h => h) (fun K hK => ?_)
  go_simp
  first
    | (refine hK _ ?_; clear hK K)
    | (apply Exists.intro
       refine ⟨fun _ => ?_, hK _ ?_⟩
       (fail)
       clear hK K)
  refine wpMix_done (by kernel_rfl) (fun x hx => ?_)
  have HBZ := hide (Ge.trans (unhide HBV) hx)
  clear hx HBV
  go_simp
  go_wp2_with fail
  exact bodyPost_ret (v := .tuple #[.string ⟨#[]⟩, .int .i64 (-1)]) (by simp [results, Tryd.results28, go_sem]) rfl ⟨rfl, unhide HBZ⟩

set_option maxRecDepth 100000 in
set_option maxHeartbeats 2000000 in
theorem frameAt_long_bad (s : ByteArray) (hs : s.size ≤ maxLen) (g cap : Nat) (hcap : s.size ≤ cap) (w : World) (h7 : 1006 < s.size) (hc : BytesAt w g s) (hg : g < w.heap.size) (hH : Handle w) (hz : 0 ≤ unZ s) (hq : ¬ wordB (sumN (unT s)) = s.extract 0 4) : Calls Tryd.prog 28 #[.slice (some ⟨g, 0, none⟩) s.size cap, .int .i64 0] w fun e w' => e = .returned (.tuple #[.string ByteArray.empty, .int .i64 (-1)]) ∧ Below w.heap.size w w' := by
  have hr : (convert 50 9 (.slice (some ⟨g, 4, none⟩) 1002 1002)).run Tryd.prog w = .ok (.string (restOf s)) w := by
    have h := conv_piece hc 4 1002 1002 (by omega)
    rw [h]
    unfold restOf
    rw [Nat.min_eq_right (by omega)]
  have h1 : ¬ ((s.size : Int) ≤ 1006) := by omega
  have h3 : (1006 : Int) < (s.size : Int) := by omega
  have hcap2 : (1006 : Int) ≤ (cap : Int) := by omega
  have hrs : (restOf s).size ≤ maxLen := by have := rest_size s; omega
  have HG := hide (implRt (restOf s) 0 hrs w hH)
  have hub := rtE_le (restOf s) 0
  have hsz := rest_size s
  have hz1 : unZ s ≤ 1002 := by unfold unZ; omega
  have e1 : rtS (restOf s) 0 = unT s := rfl
  have e2 : rtE (restOf s) 0 = unZ s := rfl
  rw [e1, e2] at HG
  have hn := sumN_lt (unT s)
  have HS := hide (fun w1 => sumBytes (unT s) (Nat.le_trans (rtS_size _ _) (by unfold maxLen; omega)) w1)
  have HCV := hide (fun w1 g => conv_four w1 g (sumN (unT s)) 4 hn)
  have HCC := hide (fun w1 (hb : Below w.heap.size w w1) => conv_piece (hc.below hg hb) 0 4 4 (by omega))
  have hqq : ((wordB (sumN (unT s))).toList == (s.extract 0 (0 + 4)).toList) = false := by
    rw [beq_eq_false_iff_ne]
    intro h
    rw [ByteArray.toList_eq, ByteArray.toList_eq] at h
    exact hq (ByteArray.ext (Array.ext' h))
  generalize unZ s = z at *
  clear e1 e2 hrs hub hsz hH hcap hs
  generalize wordB (sumN (unT s)) = bW at *
  generalize sumN (unT s) = n at *
  generalize s.extract 0 (0 + 4) = hd at *
  have HQ := hide hq
  clear hn hq
  have hz2 : ¬ (z < 0) := by omega
  have hz3 : decide (z < 0) = false := decide_eq_false hz2
  generalize unT s = tx at *
  generalize restOf s = rs at *
  have HC := hide hc
  clear hc
  go_enter Tryd.func28, Tryd.ntmps28
  go_wp2_with fail
  refine (unhide HG).mono ?_
  rintro e w1 ⟨rfl, hb1⟩
  clear hr HG
  go_upto_region 7 with fail
  refine wp_at (fun V hV => ?_)
  obtain rfl := hV
  have HBV := hide hb1
  clear hb1
  have hcc := fun d os => unhide HCC (Sort.grow (redrawn V d) os) (Ge.trans (unhide HBV) (below_regrown V d os))
  refine wp_region_mix (by kernel_rfl) ?_
  show wpMix _ _ _ _ 10 (Array.replicate 10 false) _ _
  refine wpMix_take 0 rfl (by kernel_rfl) (by kernel_rfl) (by kernel_rfl) (fun _ _ _ _ h => h) (fun K hK => ?_)
  go_simp
  first
    | (refine hK _ ?_; clear hK K)
    | (apply Exists.intro
       refine ⟨fun _ => ?_, hK _ ?_⟩
       (fail)
       clear hK K)
  refine wpMix_take 1 rfl (by kernel_rfl) (by kernel_rfl) (by kernel_rfl) (fun _ _ _ _ h => h) (fun K hK => ?_)
  go_simp
  first
    | (refine hK _ ?_; clear hK K)
    | (apply Exists.intro
       refine ⟨fun _ => ?_, hK _ ?_⟩
       (fail)
       clear hK K)
  refine wpMix_take 2 rfl (by kernel_rfl) (by kernel_rfl) (by kernel_rfl) (fun _ _ _ _ h => h) (fun K hK => ?_)
  go_simp
  first
    | (refine hK _ ?_; clear hK K)
    | (apply Exists.intro
       refine ⟨fun _ => ?_, hK _ ?_⟩
       (fail)
       clear hK K)
  refine wpMix_take 3 rfl (by kernel_rfl) (by kernel_rfl) (by kernel_rfl) (fun _ _ _ _ h => h) (fun K hK => ?_)
  go_simp
  first
    | (refine hK _ ?_; clear hK K)
    | (apply Exists.intro
       refine ⟨fun _ => ?_, hK _ ?_⟩
       (fail)
       clear hK K)
  refine wpMix_take 6 rfl (by kernel_rfl) (by kernel_rfl) (by kernel_rfl) (fun _ _ _ _ h => h) (fun K hK => ?_)
  go_simp
  first
    | (refine hK _ ?_; clear hK K)
    | (apply Exists.intro
       refine ⟨fun _ => ?_, hK _ ?_⟩
       (fail)
       clear hK K)
  refine wpMix_take 7 rfl (by kernel_rfl) (by kernel_rfl) (by kernel_rfl) (fun _ _ _ _ h => h) (fun K hK => ?_)
  go_simp
  first
    | (refine hK _ ?_; clear hK K)
    | (apply Exists.intro
       refine ⟨fun _ => ?_, hK _ ?_⟩
       (fail)
       clear hK K)
  refine wpMix_one 4 rfl (by kernel_rfl) (by rfl) (fun x hx => ?_)
  go_simp
  refine (unhide HS _).mono ?_
  rintro e y ⟨g2, rfl, hg2, hblk, hby⟩
  refine ⟨hby, ?_⟩
  have HBY := hide (Ge.trans (Ge.trans (unhide HBV) hx) hby)
  have hgy := blk_lt hblk
  obtain ⟨c0, c1, c2, c3⟩ := cells4 hblk
  have hcv := fun d os => unhide HCV (Sort.grow (redrawn y d) os) g2 (cell_regrown c0 d os) (cell_regrown c1 d os) (cell_regrown c2 d os) (cell_regrown c3 d os)
  clear hx hby hblk c0 c1 c2 c3 HCV HBV HS hcc HCC hg2
  refine wpMix_take 5 rfl (by kernel_rfl) (by kernel_rfl) (by kernel_rfl) (fun _ _ _ _ h => h) (fun K hK => ?_)
  go_simp
  first
    | (refine hK _ ?_; clear hK K)
    | (apply Exists.intro
       refine ⟨fun _ => ?_, hK _ ?_⟩
       (fail)
       clear hK K)
  refine wpMix_take 8 rfl (by kernel_rfl) (by kernel_rfl) (by kernel_rfl) (fun _ _ _ _ h => h) (fun K hK => ?_)
  go_simp
  first
    | (refine hK _ ?_; clear hK K)
    | (apply Exists.intro
       refine ⟨fun _ => ?_, hK _ ?_⟩
       (fail)
       clear hK K)
  refine wpMix_take 9 rfl (by kernel_rfl) (by kernel_rfl) (by kernel_rfl) (fun _ _ _ _ h => h) (fun K hK => ?_)
  go_simp
  first
    | (refine hK _ ?_; clear hK K)
    | (apply Exists.intro
       refine ⟨fun _ => ?_, hK _ ?_⟩
       (fail)
       clear hK K)
  refine wpMix_done (by kernel_rfl) (fun x2 hx => ?_)
  have HBZ := hide (Ge.trans (unhide HBY) hx)
  clear hx HBY hcv
  go_simp
  go_wp2_with fail
  exact bodyPost_ret (v := .tuple #[.string ⟨#[]⟩, .int .i64 (-1)]) (by simp [results, Tryd.results28, go_sem]) rfl ⟨rfl, unhide HBZ⟩

set_option maxRecDepth 100000 in
set_option maxHeartbeats 2000000 in
theorem frameAt_long_good (s : ByteArray) (hs : s.size ≤ maxLen) (g cap : Nat) (hcap : s.size ≤ cap) (w : World) (h7 : 1006 < s.size) (hc : BytesAt w g s) (hg : g < w.heap.size) (hH : Handle w) (hz : 0 ≤ unZ s) (hq : wordB (sumN (unT s)) = s.extract 0 4) : Calls Tryd.prog 28 #[.slice (some ⟨g, 0, none⟩) s.size cap, .int .i64 0] w fun e w' => e = .returned (.tuple #[.string (unT s), .int .i64 (4 + unZ s)]) ∧ Below w.heap.size w w' := by
  have hr : (convert 50 9 (.slice (some ⟨g, 4, none⟩) 1002 1002)).run Tryd.prog w = .ok (.string (restOf s)) w := by
    have h := conv_piece hc 4 1002 1002 (by omega)
    rw [h]
    unfold restOf
    rw [Nat.min_eq_right (by omega)]
  have h1 : ¬ ((s.size : Int) ≤ 1006) := by omega
  have h3 : (1006 : Int) < (s.size : Int) := by omega
  have hcap2 : (1006 : Int) ≤ (cap : Int) := by omega
  have hrs : (restOf s).size ≤ maxLen := by have := rest_size s; omega
  have HG := hide (implRt (restOf s) 0 hrs w hH)
  have hub := rtE_le (restOf s) 0
  have hsz := rest_size s
  have hz1 : unZ s ≤ 1002 := by unfold unZ; omega
  have e1 : rtS (restOf s) 0 = unT s := rfl
  have e2 : rtE (restOf s) 0 = unZ s := rfl
  rw [e1, e2] at HG
  have hn := sumN_lt (unT s)
  have HS := hide (fun w1 => sumBytes (unT s) (Nat.le_trans (rtS_size _ _) (by unfold maxLen; omega)) w1)
  have HCV := hide (fun w1 g => conv_four w1 g (sumN (unT s)) 4 hn)
  have HCC := hide (fun w1 (hb : Below w.heap.size w w1) => conv_piece (hc.below hg hb) 0 4 4 (by omega))
  have hqq : ((wordB (sumN (unT s))).toList == (s.extract 0 (0 + 4)).toList) = true := by
    rw [hq]; simp
  generalize unZ s = z at *
  clear e1 e2 hrs hub hsz hH hcap hs
  generalize wordB (sumN (unT s)) = bW at *
  generalize sumN (unT s) = n at *
  generalize s.extract 0 (0 + 4) = hd at *
  have HQ := hide hq
  clear hn hq
  have hz2 : ¬ (z < 0) := by omega
  have hz3 : decide (z < 0) = false := decide_eq_false hz2
  generalize unT s = tx at *
  generalize restOf s = rs at *
  have HC := hide hc
  clear hc
  go_enter Tryd.func28, Tryd.ntmps28
  go_wp2_with fail
  refine (unhide HG).mono ?_
  rintro e w1 ⟨rfl, hb1⟩
  clear hr HG
  go_upto_region 7 with fail
  refine wp_at (fun V hV => ?_)
  obtain rfl := hV
  have HBV := hide hb1
  clear hb1
  have hcc := fun d os => unhide HCC (Sort.grow (redrawn V d) os) (Ge.trans (unhide HBV) (below_regrown V d os))
  refine wp_region_mix (by kernel_rfl) ?_
  show wpMix _ _ _ _ 10 (Array.replicate 10 false) _ _
  refine wpMix_take 0 rfl (by kernel_rfl) (by kernel_rfl) (by kernel_rfl) (fun _ _ _ _ h => h) (fun K hK => ?_)
  go_simp
  first
    | (refine hK _ ?_; clear hK K)
    | (apply Exists.intro
       refine ⟨fun _ => ?_, hK _ ?_⟩
       (fail)
       clear hK K)
  refine wpMix_take 1 rfl (by kernel_rfl) (by kernel_rfl) (by kernel_rfl) (fun _ _ _ _ h => h) (fun K hK => ?_)
  go_simp
  first
    | (refine hK _ ?_; clear hK K)
    | (apply Exists.intro
       refine ⟨fun _ => ?_, hK _ ?_⟩
       (fail)
       clear hK K)
  refine wpMix_take 2 rfl (by kernel_rfl) (by kernel_rfl) (by kernel_rfl) (fun _ _ _ _ h => h) (fun K hK => ?_)
  go_simp
  first
    | (refine hK _ ?_; clear hK K)
    | (apply Exists.intro
       refine ⟨fun _ => ?_, hK _ ?_⟩
       (fail)
       clear hK K)
  refine wpMix_take 3 rfl (by kernel_rfl) (by kernel_rfl) (by kernel_rfl) (fun _ _ _ _ h => h) (fun K hK => ?_)
  go_simp
  first
    | (refine hK _ ?_; clear hK K)
    | (apply Exists.intro
       refine ⟨fun _ => ?_, hK _ ?_⟩
       (fail)
       clear hK K)
  refine wpMix_take 6 rfl (by kernel_rfl) (by kernel_rfl) (by kernel_rfl) (fun _ _ _ _ h => h) (fun K hK => ?_)
  go_simp
  first
    | (refine hK _ ?_; clear hK K)
    | (apply Exists.intro
       refine ⟨fun _ => ?_, hK _ ?_⟩
       (fail)
       clear hK K)
  refine wpMix_take 7 rfl (by kernel_rfl) (by kernel_rfl) (by kernel_rfl) (fun _ _ _ _ h => h) (fun K hK => ?_)
  go_simp
  first
    | (refine hK _ ?_; clear hK K)
    | (apply Exists.intro
       refine ⟨fun _ => ?_, hK _ ?_⟩
       (fail)
       clear hK K)
  refine wpMix_one 4 rfl (by kernel_rfl) (by rfl) (fun x hx => ?_)
  go_simp
  refine (unhide HS _).mono ?_
  rintro e y ⟨g2, rfl, hg2, hblk, hby⟩
  refine ⟨hby, ?_⟩
  have HBY := hide (Ge.trans (Ge.trans (unhide HBV) hx) hby)
  have hgy := blk_lt hblk
  obtain ⟨c0, c1, c2, c3⟩ := cells4 hblk
  have hcv := fun d os => unhide HCV (Sort.grow (redrawn y d) os) g2 (cell_regrown c0 d os) (cell_regrown c1 d os) (cell_regrown c2 d os) (cell_regrown c3 d os)
  clear hx hby hblk c0 c1 c2 c3 HCV HBV HS hcc HCC hg2
  refine wpMix_take 5 rfl (by kernel_rfl) (by kernel_rfl) (by kernel_rfl) (fun _ _ _ _ h => h) (fun K hK => ?_)
  go_simp
  first
    | (refine hK _ ?_; clear hK K)
    | (apply Exists.intro
       refine ⟨fun _ => ?_, hK _ ?_⟩
       (fail)
       clear hK K)
  refine wpMix_take 8 rfl (by kernel_rfl) (by kernel_rfl) (by kernel_rfl) (fun _ _ _ _ h => h) (fun K hK => ?_)
  go_simp
  first
    | (refine hK _ ?_; clear hK K)
    | (apply Exists.intro
       refine ⟨fun _ => ?_, hK _ ?_⟩
       (fail)
       clear hK K)
  refine wpMix_take 9 rfl (by kernel_rfl) (by kernel_rfl) (by kernel_rfl) (fun _ _ _ _ h => h) (fun K hK => ?_)
  go_simp
  first
    | (refine hK _ ?_; clear hK K)
    | (apply Exists.intro
       refine ⟨fun _ => ?_, hK _ ?_⟩
       (fail)
       clear hK K)
  refine wpMix_done (by kernel_rfl) (fun x2 hx => ?_)
  have HBZ := hide (Ge.trans (unhide HBY) hx)
  clear hx HBY hcv
  go_simp
  go_wp2_with fail
  exact bodyPost_ret (v := .tuple #[.string tx, .int .i64 (4 + z)]) (by simp [results, Tryd.results28, go_sem]) rfl ⟨rfl, unhide HBZ⟩

theorem unZ_four (s : ByteArray) (h : s.size = 4) : unZ s < 0 := by
  have hsz := rest_size s
  have e1 : getAt (restOf s) 0 = none := by
    cases hG : getAt (restOf s) 0 with
    | none => rfl
    | some p =>
      obtain ⟨n, c⟩ := p
      obtain ⟨k, hk0, hk, hc, _⟩ := read_put hG
      omega
  unfold unZ rtE
  rw [e1]
  simp [textOf, txtE]
theorem frameAt (s : ByteArray) (hs : s.size ≤ maxLen) (g cap : Nat) (hcap : s.size ≤ cap) (w : World) (hc : BytesAt w g s) (hg : g < w.heap.size) (hH : Handle w) : Calls Tryd.prog 28 #[.slice (some ⟨g, 0, none⟩) s.size cap, .int .i64 0] w fun e w' => e = .returned (.tuple #[.string (frT s), .int .i64 (frE s)]) ∧ Below w.heap.size w w' := by
  unfold frT frE
  by_cases h4 : 4 ≤ s.size
  case' neg =>
    rw [if_neg (by omega), if_neg (by omega)]
    exact frameAt_short s g cap w (by omega)
  by_cases h5 : s.size = 4
  case' pos =>
    have hz := unZ_four s h5
    rw [if_neg (by omega), if_neg (by omega)]
    exact frameAt_four_neg s hs g cap hcap w h5 hc hg hH hz
  by_cases hz : 0 ≤ unZ s
  case' neg =>
    rw [if_neg (by omega), if_neg (by omega)]
    by_cases h6 : s.size ≤ 1006
    · exact frameAt_mid_neg s hs g cap hcap w (by omega) h6 hc hg hH (by omega)
    · exact frameAt_long_neg s hs g cap hcap w (by omega) hc hg hH (by omega)
  by_cases hq : wordB (sumN (unT s)) = s.extract 0 4
  case' neg =>
    rw [if_neg (fun h => hq h.2.2), if_neg (fun h => hq h.2.2)]
    by_cases h6 : s.size ≤ 1006
    · exact frameAt_mid_bad s hs g cap hcap w (by omega) h6 hc hg hH hz hq
    · exact frameAt_long_bad s hs g cap hcap w (by omega) hc hg hH hz hq
  rw [if_pos ⟨h4, hz, hq⟩, if_pos ⟨h4, hz, hq⟩]
  by_cases h6 : s.size ≤ 1006
  · exact frameAt_mid_good s hs g cap hcap w (by omega) h6 hc hg hH hz hq
  · exact frameAt_long_good s hs g cap hcap w (by omega) hc hg hH hz hq
end Go.Proofs.YtlopllgioobcjaaDoor
