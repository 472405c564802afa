/- Parts. -/
import Derived.Test.YtikdkijggejnfaaGreatDoorPj6
import Derived.Test.YtikdkijggejnfaaGreatDoorPj8
import Derived.Test.YtikdkijggejnfaaGreatDoorPj5
import Derived.Laws.IdiomStrings
namespace Go.Proofs.YtikdkijggejnfaaGreatDoor
open Go.RowKit
open Mth

/-- The bytes of a text lie there. -/
def BytesAt (w : World) (g : Nat) (s : ByteArray) : Prop := ∀ i (hi : i < s.size), w.cell? ⟨g, i, none⟩ = some (.int .u8 (s[i].toNat : Int))
theorem BytesAt.below {w w' : World} {g : Nat} {s : ByteArray} (h : BytesAt w g s) (hg : g < w.heap.size) (hb : Below w.heap.size w w') : BytesAt w' g s := fun i hi => by rw [(bcell hb).1 g i hg]; exact h i hi
theorem add_off (b off i : Nat) : (⟨b, off, none⟩ : Addr).add i = ⟨b, off + i, none⟩ := by unfold Addr.add; split <;> simp_all
theorem conv_piece {w : World} {g : Nat} {s : ByteArray} (h : BytesAt w g s) (lo n cap : Nat) (hn : lo + n ≤ s.size) : (convert 30 9 (.slice (some ⟨g, lo, none⟩) n cap)).run Tryz.prog w = .ok (.string (s.extract lo (lo + n))) w := by
  have hl : (s.extract lo (lo + n)).data.toList.length = n := by rw [size_toList, ByteArray.size_extract]; omega
  have hc := run_convert_bytes_back (P := Tryz.prog) w 30 9 5 ⟨g, lo, none⟩ cap (s.extract lo (lo + n)).data.toList Tryz.underlying30 Tryz.underlying5 Tryz.underlying9 (fun j hj => by
    rw [add_off, h (lo + j) (by omega)]
    congr 3
    have e : (s.extract lo (lo + n)).data.toList[j] = s.data.toList[lo + j]'(by rw [size_toList]; omega) := by
      simp only [Lib.extract_data]
      rw [List.getElem_take, List.getElem_drop]
    rw [e]
    rfl)
  rw [hl] at hc
  exact hc
theorem conv_bytes (s : ByteArray) (w : World) : ∃ (cap : Nat) (w1 : World), (convert 9 30 (.string s)).run Tryz.prog w = .ok (.slice (some ⟨w.heap.size, 0, none⟩) s.size cap) w1 ∧ s.size ≤ cap ∧ BytesAt w1 w.heap.size s ∧ w.heap.size < w1.heap.size ∧ Below w.heap.size w w1 := by
  refine ⟨_, _, run_bytes_of_string (P := Tryz.prog) w 9 30 5 s Tryz.underlying9 Tryz.underlying30 Tryz.underlying5, ?_, ?_, ?_, ?_⟩
  · exact grownCap_ge w s.size 0 5
  · intro i hi
    have h := World.cell?_alloc_mark w.drew (bytesRow s (grownCap w s.size 0 5)) 5 ((bytesRow s (grownCap w s.size 0 5)).size, (bytesRow s (grownCap w s.size 0 5)).size + 1) i
    refine Eq.trans h ?_
    rw [bytesRow_at s _ i hi]
    rfl
  · simp
  · exact ((Below.refl _ w).drew).alloc (Nat.le_refl _) _
/-- What stands behind a place. -/
def tl (s : ByteArray) (a : Nat) : ByteArray := s.extract a s.size
theorem tl_size (s : ByteArray) (a : Nat) : (tl s a).size = s.size - a := by unfold tl; rw [ByteArray.size_extract]; omega
theorem tl_cut (s : ByteArray) (a i j : Nat) (h : a + j ≤ s.size) : (tl s a).extract i j = s.extract (a + i) (a + j) := by
  apply ByteArray.ext
  apply Array.ext'
  unfold tl
  rw [Lib.extract_data, Lib.extract_data, Lib.extract_data]
  rw [List.drop_take, List.drop_drop, List.take_take]
  congr 1
  omega
/-- A frame stands at a place. -/
def faB (s : ByteArray) (a : Nat) : Prop := 4 ≤ (tl s a).size ∧ 0 ≤ unZ (tl s a) ∧ wordB (sumN (unT (tl s a))) = (tl s a).extract 0 4
instance (s : ByteArray) (a : Nat) : Decidable (faB s a) := by unfold faB; exact inferInstance
def faT (s : ByteArray) (a : Nat) : ByteArray := if faB s a then unT (tl s a) else ByteArray.empty
def faE (s : ByteArray) (a : Nat) : Int := if faB s a then a + 4 + unZ (tl s a) else -1
theorem rest_tl (s : ByteArray) (a : Nat) (h : a + 4 ≤ s.size) : restOf (tl s a) = s.extract (a + 4) (a + min (s.size - a) 1006) := by
  unfold restOf
  rw [tl_size, tl_cut _ _ _ _ (by omega)]

set_option maxRecDepth 100000 in
set_option maxHeartbeats 2000000 in
theorem frameAt_short (s : ByteArray) (a g cap : Nat) (w : World) (hs : s.size ≤ 60000) (ha : a ≤ s.size) (h : s.size < a + 4) : Calls Tryz.prog 67 #[.slice (some ⟨g, 0, none⟩) s.size cap, .int .i64 a] w fun e w' => e = .returned (.tuple #[.string ByteArray.empty, .int .i64 (-1)]) ∧ Below w.heap.size w w' := by
  have h1 : (s.size : Int) ≤ (a : Int) + 1006 := by omega
  have h2 : (s.size : Int) - (a : Int) < 4 := by omega
  clear h
  go_enter Tryz.func67, Tryz.ntmps67
  go_wp2_with fail
  exact bodyPost_ret (v := .tuple #[.string ⟨#[]⟩, .int .i64 (-1)]) (by simp [results, Tryz.results67, go_sem]) rfl ⟨rfl, Below.refl _ _⟩

set_option maxRecDepth 100000 in
set_option maxHeartbeats 2000000 in
theorem frameAt_four_neg (s : ByteArray) (hs : s.size ≤ 60000) (a g cap : Nat) (hcap : s.size ≤ cap) (w : World) (h4 : s.size = a + 4) (hc : BytesAt w g s) (_hg : g < w.heap.size) (hH : Handle w) (hz : unZ (tl s a) < 0) : Calls Tryz.prog 67 #[.slice (some ⟨g, 0, none⟩) s.size cap, .int .i64 a] w fun e w' => e = .returned (.tuple #[.string ByteArray.empty, .int .i64 (-1)]) ∧ Below w.heap.size w w' := by
  have hr : (convert 30 9 (.slice (some ⟨g, 0, none⟩) 0 0)).run Tryz.prog w = .ok (.string (restOf (tl s a))) w := by
    rw [rest_tl s a (by omega)]
    have h := conv_piece hc 0 0 0 (by omega)
    rw [h]
    congr 2
    rw [show min (s.size - a) 1006 = 4 by omega]
    apply ByteArray.ext
    apply Array.ext'
    rw [Lib.extract_data, Lib.extract_data]
    simp
  have ha : a ≤ 59996 := by omega
  have h1 : (a : Int) + 4 ≤ (a : Int) + 1006 := by omega
  have h2 : ¬ ((a : Int) + 4 - (a : Int) < 4) := by omega
  have hcap2 : (a : Int) + 4 ≤ (cap : Int) := by omega
  have hrs : (restOf (tl s a)).size ≤ maxLen := by have := rest_size (tl s a); rw [tl_size] at this; unfold maxLen; omega
  have HG := hide (implRt (restOf (tl s a)) 0 hrs w hH)
  have hub := rtE_le (restOf (tl s a)) 0
  have hsz := rest_size (tl s a)
  have hz1 : unZ (tl s a) ≤ 1002 := by unfold unZ; omega
  have e1 : rtS (restOf (tl s a)) 0 = unT (tl s a) := rfl
  have e2 : rtE (restOf (tl s a)) 0 = unZ (tl s a) := rfl
  rw [e1, e2] at HG
  generalize unZ (tl s a) = z at *
  clear e1 e2 hrs hub hsz hH hcap hs
  generalize unT (tl s a) = tx at *
  generalize restOf (tl s a) = rs at *
  have HC := hide hc
  clear hc
  rw [h4]
  clear h4
  go_enter Tryz.func67, Tryz.ntmps67
  go_wp2_with fail
  refine (unhide HG).mono ?_
  rintro e w1 ⟨rfl, hb1⟩
  clear hr HG
  go_upto_region 7 with fail
  refine wp_at (fun V hV => ?_)
  obtain rfl := hV
  have HBV := hide hb1
  clear hb1
  refine wp_region_mix (by kernel_rfl) ?_
  show wpMix _ _ _ _ 10 (Array.replicate 10 false) _ _
  refine wpMix_take 0 rfl (by kernel_rfl) (by kernel_rfl) (by kernel_rfl) (fun _ _ _ _ h => h) (fun K hK => ?_)
  go_simp
  first
    | (refine hK _ ?_; clear hK K)
    | (apply Exists.intro
       refine ⟨fun _ => ?_, hK _ ?_⟩
       (fail)
       clear hK K)
  refine wpMix_take 1 rfl (by kernel_rfl) (by kernel_rfl) (by kernel_rfl) (fun _ _ _ _ h => h) (fun K hK => ?_)
  go_simp
  first
    | (refine hK _ ?_; clear hK K)
    | (apply Exists.intro
       refine ⟨fun _ => ?_, hK _ ?_⟩
       (fail)
       clear hK K)
  refine wpMix_take 2 rfl (by kernel_rfl) (by kernel_rfl) (by kernel_rfl) (fun _ _ _ _ h => h) (fun K hK => ?_)
  go_simp
  first
    | (refine hK _ ?_; clear hK K)
    | (apply Exists.intro
       refine ⟨fun _ => ?_, hK _ ?_⟩
       (fail)
       clear hK K)
  refine wpMix_take 3 rfl (by kernel_rfl) (by kernel_rfl) (by kernel_rfl) (fun _ _ _ _ h => h) (fun K hK => ?_)
  go_simp
  first
    | (refine hK _ ?_; clear hK K)
    | (apply Exists.intro
       refine ⟨fun _ => ?_, hK _ ?_⟩
       (fail)
       clear hK K)
  refine wpMix_take 4 rfl (by kernel_rfl) (by kernel_rfl) (by kernel_rfl) (fun _ _ _ _ h => h) (fun K hK => ?_)
  go_simp
  first
    | (refine hK _ ?_; clear hK K)
    | (apply Exists.intro
       refine ⟨fun _ => ?_, hK _ ?_⟩
       (fail)
       clear hK K)
  refine wpMix_take 5 rfl (by kernel_rfl) (by kernel_rfl) (by kernel_rfl) (fun _ _ _ _ h => h) (fun K hK => ?_)
  go_simp
  first
    | (refine hK _ ?_; clear hK K)
    | (apply Exists.intro
       refine ⟨fun _ => ?_, hK _ ?_⟩
       (fail)
       clear hK K)
  refine wpMix_take 6 rfl (by kernel_rfl) (by kernel_rfl) (by kernel_rfl) (fun _ _ _ _ h => h) (fun K hK => ?_)
  go_simp
  first
    | (refine hK _ ?_; clear hK K)
    | (apply Exists.intro
       refine ⟨fun _ => ?_, hK _ ?_⟩
       (fail)
       clear hK K)
  refine wpMix_take 7 rfl (by kernel_rfl) (by kernel_rfl) (by kernel_rfl) (fun _ _ _ _ h => h) (fun K hK => ?_)
  go_simp
  first
    | (refine hK _ ?_; clear hK K)
    | (apply Exists.intro
       refine ⟨fun _ => ?_, hK _ ?_⟩
       (fail)
       clear hK K)
  refine wpMix_take 8 rfl (by kernel_rfl) (by kernel_rfl) (by kernel_rfl) (fun _ _ _ _ h => h) (fun K hK => ?_)
  go_simp
  first
    | (refine hK _ ?_; clear hK K)
    | (apply Exists.intro
       refine ⟨fun _ => ?_, hK _ ?_⟩
       (fail)
       clear hK K)
  refine wpMix_take 9 rfl (by kernel_rfl) (by kernel_rfl) (by kernel_rfl) (fun _ _ _ _ h => h) (fun K hK => ?_)
  go_simp
  first
    | (refine hK _ ?_; clear hK K)
    | (apply Exists.intro
       refine ⟨fun _ => ?_, hK _ ?_⟩
       (fail)
       clear hK K)
  refine wpMix_done (by kernel_rfl) (fun x hx => ?_)
  have HBZ := hide (Ge.trans (unhide HBV) hx)
  clear hx HBV
  go_simp
  go_wp2_with fail
  exact bodyPost_ret (v := .tuple #[.string ⟨#[]⟩, .int .i64 (-1)]) (by simp [results, Tryz.results67, go_sem]) rfl ⟨rfl, unhide HBZ⟩

set_option maxRecDepth 100000 in
set_option maxHeartbeats 2000000 in
theorem frameAt_mid_neg (s : ByteArray) (hs : s.size ≤ 60000) (a g cap : Nat) (hcap : s.size ≤ cap) (w : World) (h5 : a + 5 ≤ s.size) (h6 : s.size ≤ a + 1006) (hc : BytesAt w g s) (_hg : g < w.heap.size) (hH : Handle w) (hz : unZ (tl s a) < 0) : Calls Tryz.prog 67 #[.slice (some ⟨g, 0, none⟩) s.size cap, .int .i64 a] w fun e w' => e = .returned (.tuple #[.string ByteArray.empty, .int .i64 (-1)]) ∧ Below w.heap.size w w' := by
  have hr : (convert 30 9 (.slice (some ⟨g, a + 4, none⟩) (s.size - (a + 4)) (s.size - (a + 4)))).run Tryz.prog w = .ok (.string (restOf (tl s a))) w := by
    rw [rest_tl s a (by omega)]
    have h := conv_piece hc (a + 4) (s.size - (a + 4)) (s.size - (a + 4)) (by omega)
    rw [h, show a + min (s.size - a) 1006 = a + 4 + (s.size - (a + 4)) by omega]
  have h1 : (s.size : Int) ≤ (a : Int) + 1006 := by omega
  have h2 : ¬ ((s.size : Int) - (a : Int) < 4) := by omega
  have h3 : (a : Int) + 4 < (s.size : Int) := by omega
  have hcap2 : (s.size : Int) ≤ (cap : Int) := by omega
  have hrs : (restOf (tl s a)).size ≤ maxLen := by have := rest_size (tl s a); rw [tl_size] at this; unfold maxLen; omega
  have HG := hide (implRt (restOf (tl s a)) 0 hrs w hH)
  have hub := rtE_le (restOf (tl s a)) 0
  have hsz := rest_size (tl s a)
  have hz1 : unZ (tl s a) ≤ 1002 := by unfold unZ; omega
  have e1 : rtS (restOf (tl s a)) 0 = unT (tl s a) := rfl
  have e2 : rtE (restOf (tl s a)) 0 = unZ (tl s a) := rfl
  rw [e1, e2] at HG
  generalize unZ (tl s a) = z at *
  clear e1 e2 hrs hub hsz hH hcap
  generalize unT (tl s a) = tx at *
  generalize restOf (tl s a) = rs at *
  have HC := hide hc
  clear hc
  go_enter Tryz.func67, Tryz.ntmps67
  go_wp2_with fail
  refine (unhide HG).mono ?_
  rintro e w1 ⟨rfl, hb1⟩
  clear hr HG
  go_upto_region 7 with fail
  refine wp_at (fun V hV => ?_)
  obtain rfl := hV
  have HBV := hide hb1
  clear hb1
  refine wp_region_mix (by kernel_rfl) ?_
  show wpMix _ _ _ _ 10 (Array.replicate 10 false) _ _
  refine wpMix_take 0 rfl (by kernel_rfl) (by kernel_rfl) (by kernel_rfl) (fun _ _ _ _ h => h) (fun K hK => ?_)
  go_simp
  first
    | (refine hK _ ?_; clear hK K)
    | (apply Exists.intro
       refine ⟨fun _ => ?_, hK _ ?_⟩
       (fail)
       clear hK K)
  refine wpMix_take 1 rfl (by kernel_rfl) (by kernel_rfl) (by kernel_rfl) (fun _ _ _ _ h => h) (fun K hK => ?_)
  go_simp
  first
    | (refine hK _ ?_; clear hK K)
    | (apply Exists.intro
       refine ⟨fun _ => ?_, hK _ ?_⟩
       (fail)
       clear hK K)
  refine wpMix_take 2 rfl (by kernel_rfl) (by kernel_rfl) (by kernel_rfl) (fun _ _ _ _ h => h) (fun K hK => ?_)
  go_simp
  first
    | (refine hK _ ?_; clear hK K)
    | (apply Exists.intro
       refine ⟨fun _ => ?_, hK _ ?_⟩
       (fail)
       clear hK K)
  refine wpMix_take 3 rfl (by kernel_rfl) (by kernel_rfl) (by kernel_rfl) (fun _ _ _ _ h => h) (fun K hK => ?_)
  go_simp
  first
    | (refine hK _ ?_; clear hK K)
    | (apply Exists.intro
       refine ⟨fun _ => ?_, hK _ ?_⟩
       (fail)
       clear hK K)
  refine wpMix_take 4 rfl (by kernel_rfl) (by kernel_rfl) (by kernel_rfl) (fun _ _ _ _ h => h) (fun K hK => ?_)
  go_simp
  first
    | (refine hK _ ?_; clear hK K)
    | (apply Exists.intro
       refine ⟨fun _ => ?_, hK _ ?_⟩
       (fail)
       clear hK K)
  refine wpMix_take 5 rfl (by kernel_rfl) (by kernel_rfl) (by kernel_rfl) (fun _ _ _ _ h => h) (fun K hK => ?_)
  go_simp
  first
    | (refine hK _ ?_; clear hK K)
    | (apply Exists.intro
       refine ⟨fun _ => ?_, hK _ ?_⟩
       (fail)
       clear hK K)
  refine wpMix_take 6 rfl (by kernel_rfl) (by kernel_rfl) (by kernel_rfl) (fun _ _ _ _ h => h) (fun K hK => ?_)
  go_simp
  first
    | (refine hK _ ?_; clear hK K)
    | (apply Exists.intro
       refine ⟨fun _ => ?_, hK _ ?_⟩
       (fail)
       clear hK K)
  refine wpMix_take 7 rfl (by kernel_rfl) (by kernel_rfl) (by kernel_rfl) (fun _ _ _ _ h => h) (fun K hK => ?_)
  go_simp
  first
    | (refine hK _ ?_; clear hK K)
    | (apply Exists.intro
       refine ⟨fun _ => ?_, hK _ ?_⟩
       (fail)
       clear hK K)
  refine wpMix_take 8 rfl (by kernel_rfl) (by kernel_rfl) (by kernel_rfl) (fun _ _ _ _ h => h) (fun K hK => ?_)
  go_simp
  first
    | (refine hK _ ?_; clear hK K)
    | (apply Exists.intro
       refine ⟨fun _ => ?_, hK _ ?_⟩
       (fail)
       clear hK K)
  refine wpMix_take 9 rfl (by kernel_rfl) (by kernel_rfl) (by kernel_rfl) (fun _ _ _ _ h => h) (fun K hK => ?_)
  go_simp
  first
    | (refine hK _ ?_; clear hK K)
    | (apply Exists.intro
       refine ⟨fun _ => ?_, hK _ ?_⟩
       (fail)
       clear hK K)
  refine wpMix_done (by kernel_rfl) (fun x hx => ?_)
  have HBZ := hide (Ge.trans (unhide HBV) hx)
  clear hx HBV
  go_simp
  go_wp2_with fail
  exact bodyPost_ret (v := .tuple #[.string ⟨#[]⟩, .int .i64 (-1)]) (by simp [results, Tryz.results67, go_sem]) rfl ⟨rfl, unhide HBZ⟩

set_option maxRecDepth 100000 in
set_option maxHeartbeats 2000000 in
theorem frameAt_mid_bad (s : ByteArray) (hs : s.size ≤ 60000) (a g cap : Nat) (hcap : s.size ≤ cap) (w : World) (h5 : a + 5 ≤ s.size) (h6 : s.size ≤ a + 1006) (hc : BytesAt w g s) (hg : g < w.heap.size) (hH : Handle w) (hz : 0 ≤ unZ (tl s a)) (hq : ¬ wordB (sumN (unT (tl s a))) = (tl s a).extract 0 4) : Calls Tryz.prog 67 #[.slice (some ⟨g, 0, none⟩) s.size cap, .int .i64 a] w fun e w' => e = .returned (.tuple #[.string ByteArray.empty, .int .i64 (-1)]) ∧ Below w.heap.size w w' := by
  have hr : (convert 30 9 (.slice (some ⟨g, a + 4, none⟩) (s.size - (a + 4)) (s.size - (a + 4)))).run Tryz.prog w = .ok (.string (restOf (tl s a))) w := by
    rw [rest_tl s a (by omega)]
    have h := conv_piece hc (a + 4) (s.size - (a + 4)) (s.size - (a + 4)) (by omega)
    rw [h, show a + min (s.size - a) 1006 = a + 4 + (s.size - (a + 4)) by omega]
  have h1 : (s.size : Int) ≤ (a : Int) + 1006 := by omega
  have h2 : ¬ ((s.size : Int) - (a : Int) < 4) := by omega
  have h3 : (a : Int) + 4 < (s.size : Int) := by omega
  have hcap2 : (s.size : Int) ≤ (cap : Int) := by omega
  rw [tl_cut s a 0 4 (by omega)] at hq
  have hrs : (restOf (tl s a)).size ≤ maxLen := by have := rest_size (tl s a); rw [tl_size] at this; unfold maxLen; omega
  have HG := hide (implRt (restOf (tl s a)) 0 hrs w hH)
  have hub := rtE_le (restOf (tl s a)) 0
  have hsz := rest_size (tl s a)
  have hz1 : unZ (tl s a) ≤ 1002 := by unfold unZ; omega
  have e1 : rtS (restOf (tl s a)) 0 = unT (tl s a) := rfl
  have e2 : rtE (restOf (tl s a)) 0 = unZ (tl s a) := rfl
  rw [e1, e2] at HG
  have hn := sumN_lt (unT (tl s a))
  have HS := hide (fun w1 => sumBytes (unT (tl s a)) (Nat.le_trans (rtS_size _ _) (by unfold maxLen; omega)) w1)
  have HCV := hide (fun w1 g => conv_four w1 g (sumN (unT (tl s a))) 4 hn)
  have HCC := hide (fun w1 (hb : Below w.heap.size w w1) => conv_piece (hc.below hg hb) a 4 4 (by omega))
  have hqq : ((wordB (sumN (unT (tl s a)))).toList == (s.extract a (a + 4)).toList) = false := by
    rw [beq_eq_false_iff_ne]
    intro h
    rw [ByteArray.toList_eq, ByteArray.toList_eq] at h
    exact hq (ByteArray.ext (Array.ext' h))
  generalize unZ (tl s a) = z at *
  clear e1 e2 hrs hub hsz hH hcap
  generalize wordB (sumN (unT (tl s a))) = bW at *
  generalize sumN (unT (tl s a)) = n at *
  generalize s.extract a (a + 4) = hd at *
  have HQ := hide hq
  clear hn hq
  have hz2 : ¬ (z < 0) := by omega
  have hz3 : decide (z < 0) = false := decide_eq_false hz2
  generalize unT (tl s a) = tx at *
  generalize restOf (tl s a) = rs at *
  have HC := hide hc
  clear hc
  go_enter Tryz.func67, Tryz.ntmps67
  go_wp2_with fail
  refine (unhide HG).mono ?_
  rintro e w1 ⟨rfl, hb1⟩
  clear hr HG
  go_upto_region 7 with fail
  refine wp_at (fun V hV => ?_)
  obtain rfl := hV
  have HBV := hide hb1
  clear hb1
  have hcc := fun d os => unhide HCC (Sort.grow (redrawn V d) os) (Ge.trans (unhide HBV) (below_regrown V d os))
  refine wp_region_mix (by kernel_rfl) ?_
  show wpMix _ _ _ _ 10 (Array.replicate 10 false) _ _
  refine wpMix_take 0 rfl (by kernel_rfl) (by kernel_rfl) (by kernel_rfl) (fun _ _ _ _ h => h) (fun K hK => ?_)
  go_simp
  first
    | (refine hK _ ?_; clear hK K)
    | (apply Exists.intro
       refine ⟨fun _ => ?_, hK _ ?_⟩
       (fail)
       clear hK K)
  refine wpMix_take 1 rfl (by kernel_rfl) (by kernel_rfl) (by kernel_rfl) (fun _ _ _ _ h => h) (fun K hK => ?_)
  go_simp
  first
    | (refine hK _ ?_; clear hK K)
    | (apply Exists.intro
       refine ⟨fun _ => ?_, hK _ ?_⟩
       (fail)
       clear hK K)
  refine wpMix_take 2 rfl (by kernel_rfl) (by kernel_rfl) (by kernel_rfl) (fun _ _ _ _ h => h) (fun K hK => ?_)
  go_simp
  first
    | (refine hK _ ?_; clear hK K)
    | (apply Exists.intro
       refine ⟨fun _ => ?_, hK _ ?_⟩
       (fail)
       clear hK K)
  refine wpMix_take 3 rfl (by kernel_rfl) (by kernel_rfl) (by kernel_rfl) (fun _ _ _ _ h => h) (fun K hK => ?_)
  go_simp
  first
    | (refine hK _ ?_; clear hK K)
    | (apply Exists.intro
       refine ⟨fun _ => ?_, hK _ ?_⟩
       (fail)
       clear hK K)
  refine wpMix_take 6 rfl (by kernel_rfl) (by kernel_rfl) (by kernel_rfl) (fun _ _ _ _ h => h) (fun K hK => ?_)
  go_simp
  first
    | (refine hK _ ?_; clear hK K)
    | (apply Exists.intro
       refine ⟨fun _ => ?_, hK _ ?_⟩
       (fail)
       clear hK K)
  refine wpMix_take 7 rfl (by kernel_rfl) (by kernel_rfl) (by kernel_rfl) (fun _ _ _ _ h => h) (fun K hK => ?_)
  go_simp
  first
    | (refine hK _ ?_; clear hK K)
    | (apply Exists.intro
       refine ⟨fun _ => ?_, hK _ ?_⟩
       (fail)
       clear hK K)
  refine wpMix_one 4 rfl (by kernel_rfl) (by rfl) (fun x hx => ?_)
  go_simp
  refine (unhide HS _).mono ?_
  rintro e y ⟨g2, rfl, hg2, hblk, hby⟩
  refine ⟨hby, ?_⟩
  have HBY := hide (Ge.trans (Ge.trans (unhide HBV) hx) hby)
  have hgy := blk_lt hblk
  obtain ⟨c0, c1, c2, c3⟩ := cells4 hblk
  have hcv := fun d os => unhide HCV (Sort.grow (redrawn y d) os) g2 (cell_regrown c0 d os) (cell_regrown c1 d os) (cell_regrown c2 d os) (cell_regrown c3 d os)
  clear hx hby hblk c0 c1 c2 c3 HCV HBV HS hcc HCC hg2
  refine wpMix_take 5 rfl (by kernel_rfl) (by kernel_rfl) (by kernel_rfl) (fun _ _ _ _ h => h) (fun K hK => ?_)
  go_simp
  first
    | (refine hK _ ?_; clear hK K)
    | (apply Exists.intro
       refine ⟨fun _ => ?_, hK _ ?_⟩
       (fail)
       clear hK K)
  refine wpMix_take 8 rfl (by kernel_rfl) (by kernel_rfl) (by kernel_rfl) (fun _ _ _ _ h => h) (fun K hK => ?_)
  go_simp
  first
    | (refine hK _ ?_; clear hK K)
    | (apply Exists.intro
       refine ⟨fun _ => ?_, hK _ ?_⟩
       (fail)
       clear hK K)
  refine wpMix_take 9 rfl (by kernel_rfl) (by kernel_rfl) (by kernel_rfl) (fun _ _ _ _ h => h) (fun K hK => ?_)
  go_simp
  first
    | (refine hK _ ?_; clear hK K)
    | (apply Exists.intro
       refine ⟨fun _ => ?_, hK _ ?_⟩
       (fail)
       clear hK K)
  refine wpMix_done (by kernel_rfl) (fun x2 hx => ?_)
  have HBZ := hide (Ge.trans (unhide HBY) hx)
  clear hx HBY hcv
  go_simp
  go_wp2_with fail
  exact bodyPost_ret (v := .tuple #[.string ⟨#[]⟩, .int .i64 (-1)]) (by simp [results, Tryz.results67, go_sem]) rfl ⟨rfl, unhide HBZ⟩

set_option maxRecDepth 100000 in
set_option maxHeartbeats 2000000 in
theorem frameAt_mid_good (s : ByteArray) (hs : s.size ≤ 60000) (a g cap : Nat) (hcap : s.size ≤ cap) (w : World) (h5 : a + 5 ≤ s.size) (h6 : s.size ≤ a + 1006) (hc : BytesAt w g s) (hg : g < w.heap.size) (hH : Handle w) (hz : 0 ≤ unZ (tl s a)) (hq : wordB (sumN (unT (tl s a))) = (tl s a).extract 0 4) : Calls Tryz.prog 67 #[.slice (some ⟨g, 0, none⟩) s.size cap, .int .i64 a] w fun e w' => e = .returned (.tuple #[.string (unT (tl s a)), .int .i64 (a + 4 + unZ (tl s a))]) ∧ Below w.heap.size w w' := by
  have hr : (convert 30 9 (.slice (some ⟨g, a + 4, none⟩) (s.size - (a + 4)) (s.size - (a + 4)))).run Tryz.prog w = .ok (.string (restOf (tl s a))) w := by
    rw [rest_tl s a (by omega)]
    have h := conv_piece hc (a + 4) (s.size - (a + 4)) (s.size - (a + 4)) (by omega)
    rw [h, show a + min (s.size - a) 1006 = a + 4 + (s.size - (a + 4)) by omega]
  have h1 : (s.size : Int) ≤ (a : Int) + 1006 := by omega
  have h2 : ¬ ((s.size : Int) - (a : Int) < 4) := by omega
  have h3 : (a : Int) + 4 < (s.size : Int) := by omega
  have hcap2 : (s.size : Int) ≤ (cap : Int) := by omega
  rw [tl_cut s a 0 4 (by omega)] at hq
  have hrs : (restOf (tl s a)).size ≤ maxLen := by have := rest_size (tl s a); rw [tl_size] at this; unfold maxLen; omega
  have HG := hide (implRt (restOf (tl s a)) 0 hrs w hH)
  have hub := rtE_le (restOf (tl s a)) 0
  have hsz := rest_size (tl s a)
  have hz1 : unZ (tl s a) ≤ 1002 := by unfold unZ; omega
  have e1 : rtS (restOf (tl s a)) 0 = unT (tl s a) := rfl
  have e2 : rtE (restOf (tl s a)) 0 = unZ (tl s a) := rfl
  rw [e1, e2] at HG
  have hn := sumN_lt (unT (tl s a))
  have HS := hide (fun w1 => sumBytes (unT (tl s a)) (Nat.le_trans (rtS_size _ _) (by unfold maxLen; omega)) w1)
  have HCV := hide (fun w1 g => conv_four w1 g (sumN (unT (tl s a))) 4 hn)
  have HCC := hide (fun w1 (hb : Below w.heap.size w w1) => conv_piece (hc.below hg hb) a 4 4 (by omega))
  have hqq : ((wordB (sumN (unT (tl s a)))).toList == (s.extract a (a + 4)).toList) = true := by
    rw [hq]; simp
  generalize unZ (tl s a) = z at *
  clear e1 e2 hrs hub hsz hH hcap
  generalize wordB (sumN (unT (tl s a))) = bW at *
  generalize sumN (unT (tl s a)) = n at *
  generalize s.extract a (a + 4) = hd at *
  have HQ := hide hq
  clear hn hq
  have hz2 : ¬ (z < 0) := by omega
  have hz3 : decide (z < 0) = false := decide_eq_false hz2
  generalize unT (tl s a) = tx at *
  generalize restOf (tl s a) = rs at *
  have HC := hide hc
  clear hc
  go_enter Tryz.func67, Tryz.ntmps67
  go_wp2_with fail
  refine (unhide HG).mono ?_
  rintro e w1 ⟨rfl, hb1⟩
  clear hr HG
  go_upto_region 7 with fail
  refine wp_at (fun V hV => ?_)
  obtain rfl := hV
  have HBV := hide hb1
  clear hb1
  have hcc := fun d os => unhide HCC (Sort.grow (redrawn V d) os) (Ge.trans (unhide HBV) (below_regrown V d os))
  refine wp_region_mix (by kernel_rfl) ?_
  show wpMix _ _ _ _ 10 (Array.replicate 10 false) _ _
  refine wpMix_take 0 rfl (by kernel_rfl) (by kernel_rfl) (by kernel_rfl) (fun _ _ _ _ h => h) (fun K hK => ?_)
  go_simp
  first
    | (refine hK _ ?_; clear hK K)
    | (apply Exists.intro
       refine ⟨fun _ => ?_, hK _ ?_⟩
       (fail)
       clear hK K)
  refine wpMix_take 1 rfl (by kernel_rfl) (by kernel_rfl) (by kernel_rfl) (fun _ _ _ _ h => h) (fun K hK => ?_)
  go_simp
  first
    | (refine hK _ ?_; clear hK K)
    | (apply Exists.intro
       refine ⟨fun _ => ?_, hK _ ?_⟩
       (fail)
       clear hK K)
  refine wpMix_take 2 rfl (by kernel_rfl) (by kernel_rfl) (by kernel_rfl) (fun _ _ _ _ h => h) (fun K hK => ?_)
  go_simp
  first
    | (refine hK _ ?_; clear hK K)
    | (apply Exists.intro
       refine ⟨fun _ => ?_, hK _ ?_⟩
       (fail)
       clear hK K)
  refine wpMix_take 3 rfl (by kernel_rfl) (by kernel_rfl) (by kernel_rfl) (fun _ _ _ _ h => h) (fun K hK => ?_)
  go_simp
  first
    | (refine hK _ ?_; clear hK K)
    | (apply Exists.intro
       refine ⟨fun _ => ?_, hK _ ?_⟩
       (fail)
       clear hK K)
  refine wpMix_take 6 rfl (by kernel_rfl) (by kernel_rfl) (by kernel_rfl) (fun _ _ _ _ h => h) (fun K hK => ?_)
  go_simp
  first
    | (refine hK _ ?_; clear hK K)
    | (apply Exists.intro
       refine ⟨fun _ => ?_, hK _ ?_⟩
       (fail)
       clear hK K)
  refine wpMix_take 7 rfl (by kernel_rfl) (by kernel_rfl) (by kernel_rfl) (fun _ _ _ _ h => h) (fun K hK => ?_)
  go_simp
  first
    | (refine hK _ ?_; clear hK K)
    | (apply Exists.intro
       refine ⟨fun _ => ?_, hK _ ?_⟩
       (fail)
       clear hK K)
  refine wpMix_one 4 rfl (by kernel_rfl) (by rfl) (fun x hx => ?_)
  go_simp
  refine (unhide HS _).mono ?_
  rintro e y ⟨g2, rfl, hg2, hblk, hby⟩
  refine ⟨hby, ?_⟩
  have HBY := hide (Ge.trans (Ge.trans (unhide HBV) hx) hby)
  have hgy := blk_lt hblk
  obtain ⟨c0, c1, c2, c3⟩ := cells4 hblk
  have hcv := fun d os => unhide HCV (Sort.grow (redrawn y d) os) g2 (cell_regrown c0 d os) (cell_regrown c1 d os) (cell_regrown c2 d os) (cell_regrown c3 d os)
  clear hx hby hblk c0 c1 c2 c3 HCV HBV HS hcc HCC hg2
  refine wpMix_take 5 rfl (by kernel_rfl) (by kernel_rfl) (by kernel_rfl) (fun _ _ _ _ h => h) (fun K hK => ?_)
  go_simp
  first
    | (refine hK _ ?_; clear hK K)
    | (apply Exists.intro
       refine ⟨fun _ => ?_, hK _ ?_⟩
       (fail)
       clear hK K)
  refine wpMix_take 8 rfl (by kernel_rfl) (by kernel_rfl) (by kernel_rfl) (fun _ _ _ _ h => h) (fun K hK => ?_)
  go_simp
  first
    | (refine hK _ ?_; clear hK K)
    | (apply Exists.intro
       refine ⟨fun _ => ?_, hK _ ?_⟩
       (fail)
       clear hK K)
  refine wpMix_take 9 rfl (by kernel_rfl) (by kernel_rfl) (by kernel_rfl) (fun _ _ _ _ h => h) (fun K hK => ?_)
  go_simp
  first
    | (refine hK _ ?_; clear hK K)
    | (apply Exists.intro
       refine ⟨fun _ => ?_, hK _ ?_⟩
       (fail)
       clear hK K)
  refine wpMix_done (by kernel_rfl) (fun x2 hx => ?_)
  have HBZ := hide (Ge.trans (unhide HBY) hx)
  clear hx HBY hcv
  go_simp
  go_wp2_with fail
  exact bodyPost_ret (v := .tuple #[.string tx, .int .i64 (a + 4 + z)]) (by simp [results, Tryz.results67, go_sem]) rfl ⟨rfl, unhide HBZ⟩

set_option maxRecDepth 100000 in
set_option maxHeartbeats 2000000 in
theorem frameAt_long_neg (s : ByteArray) (hs : s.size ≤ 60000) (a g cap : Nat) (hcap : s.size ≤ cap) (w : World) (h7 : a + 1006 < s.size) (hc : BytesAt w g s) (_hg : g < w.heap.size) (hH : Handle w) (hz : unZ (tl s a) < 0) : Calls Tryz.prog 67 #[.slice (some ⟨g, 0, none⟩) s.size cap, .int .i64 a] w fun e w' => e = .returned (.tuple #[.string ByteArray.empty, .int .i64 (-1)]) ∧ Below w.heap.size w w' := by
  have hr : (convert 30 9 (.slice (some ⟨g, a + 4, none⟩) 1002 1002)).run Tryz.prog w = .ok (.string (restOf (tl s a))) w := by
    rw [rest_tl s a (by omega)]
    have h := conv_piece hc (a + 4) 1002 1002 (by omega)
    rw [h, show a + min (s.size - a) 1006 = a + 4 + 1002 by omega]
  have h1 : ¬ ((s.size : Int) ≤ (a : Int) + 1006) := by omega
  have h3 : (a : Int) + 1006 < (s.size : Int) := by omega
  have h31 : ¬ ((a : Int) + 1006 - (a : Int) < 4) := by omega
  have hcap2 : (s.size : Int) ≤ (cap : Int) := by omega
  have hrs : (restOf (tl s a)).size ≤ maxLen := by have := rest_size (tl s a); rw [tl_size] at this; unfold maxLen; omega
  have HG := hide (implRt (restOf (tl s a)) 0 hrs w hH)
  have hub := rtE_le (restOf (tl s a)) 0
  have hsz := rest_size (tl s a)
  have hz1 : unZ (tl s a) ≤ 1002 := by unfold unZ; omega
  have e1 : rtS (restOf (tl s a)) 0 = unT (tl s a) := rfl
  have e2 : rtE (restOf (tl s a)) 0 = unZ (tl s a) := rfl
  rw [e1, e2] at HG
  generalize unZ (tl s a) = z at *
  clear e1 e2 hrs hub hsz hH hcap
  generalize unT (tl s a) = tx at *
  generalize restOf (tl s a) = rs at *
  have HC := hide hc
  clear hc
  go_enter Tryz.func67, Tryz.ntmps67
  go_wp2_with fail
  refine (unhide HG).mono ?_
  rintro e w1 ⟨rfl, hb1⟩
  clear hr HG
  go_upto_region 7 with fail
  refine wp_at (fun V hV => ?_)
  obtain rfl := hV
  have HBV := hide hb1
  clear hb1
  refine wp_region_mix (by kernel_rfl) ?_
  show wpMix _ _ _ _ 10 (Array.replicate 10 false) _ _
  refine wpMix_take 0 rfl (by kernel_rfl) (by kernel_rfl) (by kernel_rfl) (fun _ _ _ _ h => h) (fun K hK => ?_)
  go_simp
  first
    | (refine hK _ ?_; clear hK K)
    | (apply Exists.intro
       refine ⟨fun _ => ?_, hK _ ?_⟩
       (fail)
       clear hK K)
  refine wpMix_take 1 rfl (by kernel_rfl) (by kernel_rfl) (by kernel_rfl) (fun _ _ _ _ h => h) (fun K hK => ?_)
  go_simp
  first
    | (refine hK _ ?_; clear hK K)
    | (apply Exists.intro
       refine ⟨fun _ => ?_, hK _ ?_⟩
       (fail)
       clear hK K)
  refine wpMix_take 2 rfl (by kernel_rfl) (by kernel_rfl) (by kernel_rfl) (fun _ _ _ _ h => h) (fun K hK => ?_)
  go_simp
  first
    | (refine hK _ ?_; clear hK K)
    | (apply Exists.intro
       refine ⟨fun _ => ?_, hK _ ?_⟩
       (fail)
       clear hK K)
  refine wpMix_take 3 rfl (by kernel_rfl) (by kernel_rfl) (by kernel_rfl) (fun _ _ _ _ h => h) (fun K hK => ?_)
  go_simp
  first
    | (refine hK _ ?_; clear hK K)
    | (apply Exists.intro
       refine ⟨fun _ => ?_, hK _ ?_⟩
       (fail)
       clear hK K)
  refine wpMix_take 4 rfl (by kernel_rfl) (by kernel_rfl) (by kernel_rfl) (fun _ _ _ _ h => h) (fun K hK => ?_)
  go_simp
  first
    | (refine hK _ ?_; clear hK K)
    | (apply Exists.intro
       refine ⟨fun _ => ?_, hK _ ?_⟩
       (fail)
       clear hK K)
  refine wpMix_take 5 rfl (by kernel_rfl) (by kernel_rfl) (by kernel_rfl) (fun _ _ _ _ h => h) (fun K hK => ?_)
  go_simp
  first
    | (refine hK _ ?_; clear hK K)
    | (apply Exists.intro
       refine ⟨fun _ => ?_, hK _ ?_⟩
       (fail)
       clear hK K)
  refine wpMix_take 6 rfl (by kernel_rfl) (by kernel_rfl) (by kernel_rfl) (fun _ _ _ _ h => h) (fun K hK => ?_)
  go_simp
  first
    | (refine hK _ ?_; clear hK K)
    | (apply Exists.intro
       refine ⟨fun _ => ?_, hK _ ?_⟩
       (fail)
       clear hK K)
  refine wpMix_take 7 rfl (by kernel_rfl) (by kernel_rfl) (by kernel_rfl) (fun _ _ _ _ h => h) (fun K hK => ?_)
  go_simp
  first
    | (refine hK _ ?_; clear hK K)
    | (apply Exists.intro
       refine ⟨fun _ => ?_, hK _ ?_⟩
       (fail)
       clear hK K)
  refine wpMix_take 8 rfl (by kernel_rfl) (by kernel_rfl) (by kernel_rfl) (fun _ _ _ _ h => h) (fun K hK => ?_)
  go_simp
  first
    | (refine hK _ ?_; clear hK K)
    | (apply Exists.intro
       refine ⟨fun _ => ?_, hK _ ?_⟩
       (fail)
       clear hK K)
  refine wpMix_take 9 rfl (by kernel_rfl) (by kernel_rfl) (by kernel_rfl) (fun _ _ _ _ h => h) (fun K hK => ?_)
  go_simp
  first
    | (refine hK _ ?_; clear hK K)
    | (apply Exists.intro
       refine ⟨fun _ => ?_, hK _ ?_⟩
       (fail)
       clear hK K)
  refine wpMix_done (by kernel_rfl) (fun x hx => ?_)
  have HBZ := hide (Ge.trans (unhide HBV) hx)
  clear hx HBV
  go_simp
  go_wp2_with fail
  exact bodyPost_ret (v := .tuple #[.string ⟨#[]⟩, .int .i64 (-1)]) (by simp [results, Tryz.results67, go_sem]) rfl ⟨rfl, unhide HBZ⟩

set_option maxRecDepth 100000 in
set_option maxHeartbeats 2000000 in
theorem frameAt_long_bad (s : ByteArray) (hs : s.size ≤ 60000) (a g cap : Nat) (hcap : s.size ≤ cap) (w : World) (h7 : a + 1006 < s.size) (hc : BytesAt w g s) (hg : g < w.heap.size) (hH : Handle w) (hz : 0 ≤ unZ (tl s a)) (hq : ¬ wordB (sumN (unT (tl s a))) = (tl s a).extract 0 4) : Calls Tryz.prog 67 #[.slice (some ⟨g, 0, none⟩) s.size cap, .int .i64 a] w fun e w' => e = .returned (.tuple #[.string ByteArray.empty, .int .i64 (-1)]) ∧ Below w.heap.size w w' := by
  have hr : (convert 30 9 (.slice (some ⟨g, a + 4, none⟩) 1002 1002)).run Tryz.prog w = .ok (.string (restOf (tl s a))) w := by
    rw [rest_tl s a (by omega)]
    have h := conv_piece hc (a + 4) 1002 1002 (by omega)
    rw [h, show a + min (s.size - a) 1006 = a + 4 + 1002 by omega]
  have h1 : ¬ ((s.size : Int) ≤ (a : Int) + 1006) := by omega
  have h3 : (a : Int) + 1006 < (s.size : Int) := by omega
  have h31 : ¬ ((a : Int) + 1006 - (a : Int) < 4) := by omega
  have hcap2 : (s.size : Int) ≤ (cap : Int) := by omega
  rw [tl_cut s a 0 4 (by omega)] at hq
  have hrs : (restOf (tl s a)).size ≤ maxLen := by have := rest_size (tl s a); rw [tl_size] at this; unfold maxLen; omega
  have HG := hide (implRt (restOf (tl s a)) 0 hrs w hH)
  have hub := rtE_le (restOf (tl s a)) 0
  have hsz := rest_size (tl s a)
  have hz1 : unZ (tl s a) ≤ 1002 := by unfold unZ; omega
  have e1 : rtS (restOf (tl s a)) 0 = unT (tl s a) := rfl
  have e2 : rtE (restOf (tl s a)) 0 = unZ (tl s a) := rfl
  rw [e1, e2] at HG
  have hn := sumN_lt (unT (tl s a))
  have HS := hide (fun w1 => sumBytes (unT (tl s a)) (Nat.le_trans (rtS_size _ _) (by unfold maxLen; omega)) w1)
  have HCV := hide (fun w1 g => conv_four w1 g (sumN (unT (tl s a))) 4 hn)
  have HCC := hide (fun w1 (hb : Below w.heap.size w w1) => conv_piece (hc.below hg hb) a 4 4 (by omega))
  have hqq : ((wordB (sumN (unT (tl s a)))).toList == (s.extract a (a + 4)).toList) = false := by
    rw [beq_eq_false_iff_ne]
    intro h
    rw [ByteArray.toList_eq, ByteArray.toList_eq] at h
    exact hq (ByteArray.ext (Array.ext' h))
  generalize unZ (tl s a) = z at *
  clear e1 e2 hrs hub hsz hH hcap
  generalize wordB (sumN (unT (tl s a))) = bW at *
  generalize sumN (unT (tl s a)) = n at *
  generalize s.extract a (a + 4) = hd at *
  have HQ := hide hq
  clear hn hq
  have hz2 : ¬ (z < 0) := by omega
  have hz3 : decide (z < 0) = false := decide_eq_false hz2
  generalize unT (tl s a) = tx at *
  generalize restOf (tl s a) = rs at *
  have HC := hide hc
  clear hc
  go_enter Tryz.func67, Tryz.ntmps67
  go_wp2_with fail
  refine (unhide HG).mono ?_
  rintro e w1 ⟨rfl, hb1⟩
  clear hr HG
  go_upto_region 7 with fail
  refine wp_at (fun V hV => ?_)
  obtain rfl := hV
  have HBV := hide hb1
  clear hb1
  have hcc := fun d os => unhide HCC (Sort.grow (redrawn V d) os) (Ge.trans (unhide HBV) (below_regrown V d os))
  refine wp_region_mix (by kernel_rfl) ?_
  show wpMix _ _ _ _ 10 (Array.replicate 10 false) _ _
  refine wpMix_take 0 rfl (by kernel_rfl) (by kernel_rfl) (by kernel_rfl) (fun _ _ _ _ h => h) (fun K hK => ?_)
  go_simp
  first
    | (refine hK _ ?_; clear hK K)
    | (apply Exists.intro
       refine ⟨fun _ => ?_, hK _ ?_⟩
       (fail)
       clear hK K)
  refine wpMix_take 1 rfl (by kernel_rfl) (by kernel_rfl) (by kernel_rfl) (fun _ _ _ _ h => h) (fun K hK => ?_)
  go_simp
  first
    | (refine hK _ ?_; clear hK K)
    | (apply Exists.intro
       refine ⟨fun _ => ?_, hK _ ?_⟩
       (fail)
       clear hK K)
  refine wpMix_take 2 rfl (by kernel_rfl) (by kernel_rfl) (by kernel_rfl) (fun _ _ _ _ h => h) (fun K hK => ?_)
  go_simp
  first
    | (refine hK _ ?_; clear hK K)
    | (apply Exists.intro
       refine ⟨fun _ => ?_, hK _ ?_⟩
       (fail)
       clear hK K)
  refine wpMix_take 3 rfl (by kernel_rfl) (by kernel_rfl) (by kernel_rfl) (fun _ _ _ _ h => h) (fun K hK => ?_)
  go_simp
  first
    | (refine hK _ ?_; clear hK K)
    | (apply Exists.intro
       refine ⟨fun _ => ?_, hK _ ?_⟩
       (fail)
       clear hK K)
  refine wpMix_take 6 rfl (by kernel_rfl) (by kernel_rfl) (by kernel_rfl) (fun _ _ _ _ h => h) (fun K hK => ?_)
  go_simp
  first
    | (refine hK _ ?_; clear hK K)
    | (apply Exists.intro
       refine ⟨fun _ => ?_, hK _ ?_⟩
       (fail)
       clear hK K)
  refine wpMix_take 7 rfl (by kernel_rfl) (by kernel_rfl) (by kernel_rfl) (fun _ _ _ _ h => h) (fun K hK => ?_)
  go_simp
  first
    | (refine hK _ ?_; clear hK K)
    | (apply Exists.intro
       refine ⟨fun _ => ?_, hK _ ?_⟩
       (fail)
       clear hK K)
  refine wpMix_one 4 rfl (by kernel_rfl) (by rfl) (fun x hx => ?_)
  go_simp
  refine (unhide HS _).mono ?_
  rintro e y ⟨g2, rfl, hg2, hblk, hby⟩
  refine ⟨hby, ?_⟩
  have HBY := hide (Ge.trans (Ge.trans (unhide HBV) hx) hby)
  have hgy := blk_lt hblk
  obtain ⟨c0, c1, c2, c3⟩ := cells4 hblk
  have hcv := fun d os => unhide HCV (Sort.grow (redrawn y d) os) g2 (cell_regrown c0 d os) (cell_regrown c1 d os) (cell_regrown c2 d os) (cell_regrown c3 d os)
  clear hx hby hblk c0 c1 c2 c3 HCV HBV HS hcc HCC hg2
  refine wpMix_take 5 rfl (by kernel_rfl) (by kernel_rfl) (by kernel_rfl) (fun _ _ _ _ h => h) (fun K hK => ?_)
  go_simp
  first
    | (refine hK _ ?_; clear hK K)
    | (apply Exists.intro
       refine ⟨fun _ => ?_, hK _ ?_⟩
       (fail)
       clear hK K)
  refine wpMix_take 8 rfl (by kernel_rfl) (by kernel_rfl) (by kernel_rfl) (fun _ _ _ _ h => h) (fun K hK => ?_)
  go_simp
  first
    | (refine hK _ ?_; clear hK K)
    | (apply Exists.intro
       refine ⟨fun _ => ?_, hK _ ?_⟩
       (fail)
       clear hK K)
  refine wpMix_take 9 rfl (by kernel_rfl) (by kernel_rfl) (by kernel_rfl) (fun _ _ _ _ h => h) (fun K hK => ?_)
  go_simp
  first
    | (refine hK _ ?_; clear hK K)
    | (apply Exists.intro
       refine ⟨fun _ => ?_, hK _ ?_⟩
       (fail)
       clear hK K)
  refine wpMix_done (by kernel_rfl) (fun x2 hx => ?_)
  have HBZ := hide (Ge.trans (unhide HBY) hx)
  clear hx HBY hcv
  go_simp
  go_wp2_with fail
  exact bodyPost_ret (v := .tuple #[.string ⟨#[]⟩, .int .i64 (-1)]) (by simp [results, Tryz.results67, go_sem]) rfl ⟨rfl, unhide HBZ⟩

set_option maxRecDepth 100000 in
set_option maxHeartbeats 2000000 in
theorem frameAt_long_good (s : ByteArray) (hs : s.size ≤ 60000) (a g cap : Nat) (hcap : s.size ≤ cap) (w : World) (h7 : a + 1006 < s.size) (hc : BytesAt w g s) (hg : g < w.heap.size) (hH : Handle w) (hz : 0 ≤ unZ (tl s a)) (hq : wordB (sumN (unT (tl s a))) = (tl s a).extract 0 4) : Calls Tryz.prog 67 #[.slice (some ⟨g, 0, none⟩) s.size cap, .int .i64 a] w fun e w' => e = .returned (.tuple #[.string (unT (tl s a)), .int .i64 (a + 4 + unZ (tl s a))]) ∧ Below w.heap.size w w' := by
  have hr : (convert 30 9 (.slice (some ⟨g, a + 4, none⟩) 1002 1002)).run Tryz.prog w = .ok (.string (restOf (tl s a))) w := by
    rw [rest_tl s a (by omega)]
    have h := conv_piece hc (a + 4) 1002 1002 (by omega)
    rw [h, show a + min (s.size - a) 1006 = a + 4 + 1002 by omega]
  have h1 : ¬ ((s.size : Int) ≤ (a : Int) + 1006) := by omega
  have h3 : (a : Int) + 1006 < (s.size : Int) := by omega
  have h31 : ¬ ((a : Int) + 1006 - (a : Int) < 4) := by omega
  have hcap2 : (s.size : Int) ≤ (cap : Int) := by omega
  rw [tl_cut s a 0 4 (by omega)] at hq
  have hrs : (restOf (tl s a)).size ≤ maxLen := by have := rest_size (tl s a); rw [tl_size] at this; unfold maxLen; omega
  have HG := hide (implRt (restOf (tl s a)) 0 hrs w hH)
  have hub := rtE_le (restOf (tl s a)) 0
  have hsz := rest_size (tl s a)
  have hz1 : unZ (tl s a) ≤ 1002 := by unfold unZ; omega
  have e1 : rtS (restOf (tl s a)) 0 = unT (tl s a) := rfl
  have e2 : rtE (restOf (tl s a)) 0 = unZ (tl s a) := rfl
  rw [e1, e2] at HG
  have hn := sumN_lt (unT (tl s a))
  have HS := hide (fun w1 => sumBytes (unT (tl s a)) (Nat.le_trans (rtS_size _ _) (by unfold maxLen; omega)) w1)
  have HCV := hide (fun w1 g => conv_four w1 g (sumN (unT (tl s a))) 4 hn)
  have HCC := hide (fun w1 (hb : Below w.heap.size w w1) => conv_piece (hc.below hg hb) a 4 4 (by omega))
  have hqq : ((wordB (sumN (unT (tl s a)))).toList == (s.extract a (a + 4)).toList) = true := by
    rw [hq]; simp
  generalize unZ (tl s a) = z at *
  clear e1 e2 hrs hub hsz hH hcap
  generalize wordB (sumN (unT (tl s a))) = bW at *
  generalize sumN (unT (tl s a)) = n at *
  generalize s.extract a (a + 4) = hd at *
  have HQ := hide hq
  clear hn hq
  have hz2 : ¬ (z < 0) := by omega
  have hz3 : decide (z < 0) = false := decide_eq_false hz2
  generalize unT (tl s a) = tx at *
  generalize restOf (tl s a) = rs at *
  have HC := hide hc
  clear hc
  go_enter Tryz.func67, Tryz.ntmps67
  go_wp2_with fail
  refine (unhide HG).mono ?_
  rintro e w1 ⟨rfl, hb1⟩
  clear hr HG
  go_upto_region 7 with fail
  refine wp_at (fun V hV => ?_)
  obtain rfl := hV
  have HBV := hide hb1
  clear hb1
  have hcc := fun d os => unhide HCC (Sort.grow (redrawn V d) os) (Ge.trans (unhide HBV) (below_regrown V d os))
  refine wp_region_mix (by kernel_rfl) ?_
  show wpMix _ _ _ _ 10 (Array.replicate 10 false) _ _
  refine wpMix_take 0 rfl (by kernel_rfl) (by kernel_rfl) (by kernel_rfl) (fun _ _ _ _ h => h) (fun K hK => ?_)
  go_simp
  first
    | (refine hK _ ?_; clear hK K)
    | (apply Exists.intro
       refine ⟨fun _ => ?_, hK _ ?_⟩
       (fail)
       clear hK K)
  refine wpMix_take 1 rfl (by kernel_rfl) (by kernel_rfl) (by kernel_rfl) (fun _ _ _ _ h => h) (fun K hK => ?_)
  go_simp
  first
    | (refine hK _ ?_; clear hK K)
    | (apply Exists.intro
       refine ⟨fun _ => ?_, hK _ ?_⟩
       (fail)
       clear hK K)
  refine wpMix_take 2 rfl (by kernel_rfl) (by kernel_rfl) (by kernel_rfl) (fun _ _ _ _ h => h) (fun K hK => ?_)
  go_simp
  first
    | (refine hK _ ?_; clear hK K)
    | (apply Exists.intro
       refine ⟨fun _ => ?_, hK _ ?_⟩
       (fail)
       clear hK K)
  refine wpMix_take 3 rfl (by kernel_rfl) (by kernel_rfl) (by kernel_rfl) (fun _ _ _ _ h => h) (fun K hK => ?_)
  go_simp
  first
    | (refine hK _ ?_; clear hK K)
    | (apply Exists.intro
       refine ⟨fun _ => ?_, hK _ ?_⟩
       (fail)
       clear hK K)
  refine wpMix_take 6 rfl (by kernel_rfl) (by kernel_rfl) (by kernel_rfl) (fun _ _ _ _ h => h) (fun K hK => ?_)
  go_simp
  first
    | (refine hK _ ?_; clear hK K)
    | (apply Exists.intro
       refine ⟨fun _ => ?_, hK _ ?_⟩
       (fail)
       clear hK K)
  refine wpMix_take 7 rfl (by kernel_rfl) (by kernel_rfl) (by kernel_rfl) (fun _ _ _ _ h => h) (fun K hK => ?_)
  go_simp
  first
    | (refine hK _ ?_; clear hK K)
    | (apply Exists.intro
       refine ⟨fun _ => ?_, hK _ ?_⟩
       (fail)
       clear hK K)
  refine wpMix_one 4 rfl (by kernel_rfl) (by rfl) (fun x hx => ?_)
  go_simp
  refine (unhide HS _).mono ?_
  rintro e y ⟨g2, rfl, hg2, hblk, hby⟩
  refine ⟨hby, ?_⟩
  have HBY := hide (Ge.trans (Ge.trans (unhide HBV) hx) hby)
  have hgy := blk_lt hblk
  obtain ⟨c0, c1, c2, c3⟩ := cells4 hblk
  have hcv := fun d os => unhide HCV (Sort.grow (redrawn y d) os) g2 (cell_regrown c0 d os) (cell_regrown c1 d os) (cell_regrown c2 d os) (cell_regrown c3 d os)
  clear hx hby hblk c0 c1 c2 c3 HCV HBV HS hcc HCC hg2
  refine wpMix_take 5 rfl (by kernel_rfl) (by kernel_rfl) (by kernel_rfl) (fun _ _ _ _ h => h) (fun K hK => ?_)
  go_simp
  first
    | (refine hK _ ?_; clear hK K)
    | (apply Exists.intro
       refine ⟨fun _ => ?_, hK _ ?_⟩
       (fail)
       clear hK K)
  refine wpMix_take 8 rfl (by kernel_rfl) (by kernel_rfl) (by kernel_rfl) (fun _ _ _ _ h => h) (fun K hK => ?_)
  go_simp
  first
    | (refine hK _ ?_; clear hK K)
    | (apply Exists.intro
       refine ⟨fun _ => ?_, hK _ ?_⟩
       (fail)
       clear hK K)
  refine wpMix_take 9 rfl (by kernel_rfl) (by kernel_rfl) (by kernel_rfl) (fun _ _ _ _ h => h) (fun K hK => ?_)
  go_simp
  first
    | (refine hK _ ?_; clear hK K)
    | (apply Exists.intro
       refine ⟨fun _ => ?_, hK _ ?_⟩
       (fail)
       clear hK K)
  refine wpMix_done (by kernel_rfl) (fun x2 hx => ?_)
  have HBZ := hide (Ge.trans (unhide HBY) hx)
  clear hx HBY hcv
  go_simp
  go_wp2_with fail
  exact bodyPost_ret (v := .tuple #[.string tx, .int .i64 (a + 4 + z)]) (by simp [results, Tryz.results67, go_sem]) rfl ⟨rfl, unhide HBZ⟩

theorem unZ_four (s : ByteArray) (h : s.size = 4) : unZ s < 0 := by
  have hsz := rest_size s
  have e1 : getAt (restOf s) 0 = none := by
    cases hG : getAt (restOf s) 0 with
    | none => rfl
    | some p =>
      obtain ⟨n, c⟩ := p
      obtain ⟨k, hk0, hk, hc, _⟩ := read_put hG
      omega
  unfold unZ rtE
  rw [e1]
  simp [textOf, txtE]
theorem frameAt (s : ByteArray) (hs : s.size ≤ 60000) (a : Nat) (ha : a ≤ s.size) (g cap : Nat) (hcap : s.size ≤ cap) (w : World) (hc : BytesAt w g s) (hg : g < w.heap.size) (hH : Handle w) : Calls Tryz.prog 67 #[.slice (some ⟨g, 0, none⟩) s.size cap, .int .i64 a] w fun e w' => e = .returned (.tuple #[.string (faT s a), .int .i64 (faE s a)]) ∧ Below w.heap.size w w' := by
  have ht := tl_size s a
  unfold faT faE
  by_cases h4 : 4 ≤ (tl s a).size
  case' neg =>
    have hn : ¬ faB s a := fun h => h4 h.1
    rw [if_neg hn, if_neg hn]
    exact frameAt_short s a g cap w hs ha (by omega)
  by_cases h5 : (tl s a).size = 4
  case' pos =>
    have hz := unZ_four (tl s a) h5
    have hn : ¬ faB s a := fun h => absurd h.2.1 (by omega)
    rw [if_neg hn, if_neg hn]
    exact frameAt_four_neg s hs a g cap hcap w (by omega) hc hg hH hz
  by_cases hz : 0 ≤ unZ (tl s a)
  case' neg =>
    have hn : ¬ faB s a := fun h => hz h.2.1
    rw [if_neg hn, if_neg hn]
    by_cases h6 : s.size ≤ a + 1006
    · exact frameAt_mid_neg s hs a g cap hcap w (by omega) h6 hc hg hH (by omega)
    · exact frameAt_long_neg s hs a g cap hcap w (by omega) hc hg hH (by omega)
  by_cases hq : wordB (sumN (unT (tl s a))) = (tl s a).extract 0 4
  case' neg =>
    have hn : ¬ faB s a := fun h => hq h.2.2
    rw [if_neg hn, if_neg hn]
    by_cases h6 : s.size ≤ a + 1006
    · exact frameAt_mid_bad s hs a g cap hcap w (by omega) h6 hc hg hH hz hq
    · exact frameAt_long_bad s hs a g cap hcap w (by omega) hc hg hH hz hq
  have hy : faB s a := ⟨h4, hz, hq⟩
  rw [if_pos hy, if_pos hy]
  by_cases h6 : s.size ≤ a + 1006
  · exact frameAt_mid_good s hs a g cap hcap w (by omega) h6 hc hg hH hz hq
  · exact frameAt_long_good s hs a g cap hcap w (by omega) hc hg hH hz hq
end Go.Proofs.YtikdkijggejnfaaGreatDoor
