/-
  Texts of ours in one, so that the claim keeps to its count: MgFat, MgRound, RdM, OpRowL, AppW, Mix2, RdI, RdJ, RdS, RdLaw.
-/
import Derived.Test.YtiinpdkgnflmeaaDoorMgUnM
import Derived.Test.YtiinpdkgnflmeaaDoorMgGetI
import Derived.Test.YtiinpdkgnflmeaaDoorMix
import Derived.Laws.IdiomStrings
import Derived.Test.YtiinpdkgnflmeaaDoorGrpRo
import Derived.Test.YtiinpdkgnflmeaaDoorGrpMk
import Derived.Test.YtiinpdkgnflmeaaDoorBase
import Derived.OneCell
import Derived.Laws.AppendOwnNone
import Derived.Maps.AppendAt
import Derived.Laws.OwnMore
import Derived.Lib.AppendZeros
import Derived.BigQuiet
namespace Go.Proofs.YtiinpdkgnflmeaaDoor
open Go.RowKit
open Mth

/-- The bytes of a text lie there. -/
def BytesAt (w : World) (g : Nat) (s : ByteArray) : Prop := ∀ i (hi : i < s.size), w.cell? ⟨g, i, none⟩ = some (.int .u8 (s[i].toNat : Int))
theorem BytesAt.below {w w' : World} {g : Nat} {s : ByteArray} (h : BytesAt w g s) (hg : g < w.heap.size) (hb : Below w.heap.size w w') : BytesAt w' g s := fun i hi => by rw [(bcell hb).1 g i hg]; exact h i hi
theorem add_off (b off i : Nat) : (⟨b, off, none⟩ : Addr).add i = ⟨b, off + i, none⟩ := by unfold Addr.add; split <;> simp_all
theorem conv_piece {w : World} {g : Nat} {s : ByteArray} (h : BytesAt w g s) (lo n cap : Nat) (hn : lo + n ≤ s.size) : (convert 68 9 (.slice (some ⟨g, lo, none⟩) n cap)).run Tryd.prog w = .ok (.string (s.extract lo (lo + n))) w := by
  have hl : (s.extract lo (lo + n)).data.toList.length = n := by rw [size_toList, ByteArray.size_extract]; omega
  have hc := run_convert_bytes_back (P := Tryd.prog) w 68 9 5 ⟨g, lo, none⟩ cap (s.extract lo (lo + n)).data.toList Tryd.underlying68 Tryd.underlying5 Tryd.underlying9 (fun j hj => by
    rw [add_off, h (lo + j) (by omega)]
    congr 3
    have e : (s.extract lo (lo + n)).data.toList[j] = s.data.toList[lo + j]'(by rw [size_toList]; omega) := by
      simp only [Lib.extract_data]
      rw [List.getElem_take, List.getElem_drop]
    rw [e]
    rfl)
  rw [hl] at hc
  exact hc
theorem conv_bytes (s : ByteArray) (w : World) : ∃ (cap : Nat) (w1 : World), (convert 9 68 (.string s)).run Tryd.prog w = .ok (.slice (some ⟨w.heap.size, 0, none⟩) s.size cap) w1 ∧ s.size ≤ cap ∧ BytesAt w1 w.heap.size s ∧ w.heap.size < w1.heap.size ∧ Below w.heap.size w w1 := by
  refine ⟨_, _, run_bytes_of_string (P := Tryd.prog) w 9 68 5 s Tryd.underlying9 Tryd.underlying68 Tryd.underlying5, ?_, ?_, ?_, ?_⟩
  · exact grownCap_ge w s.size 0 5
  · intro i hi
    have h := World.cell?_alloc_mark w.drew (bytesRow s (grownCap w s.size 0 5)) 5 ((bytesRow s (grownCap w s.size 0 5)).size, (bytesRow s (grownCap w s.size 0 5)).size + 1) i
    refine Eq.trans h ?_
    rw [bytesRow_at s _ i hi]
    rfl
  · simp
  · exact ((Below.refl _ w).drew).alloc (Nat.le_refl _) _
/-- What stands behind a place. -/
def tl (s : ByteArray) (a : Nat) : ByteArray := s.extract a s.size
theorem tl_size (s : ByteArray) (a : Nat) : (tl s a).size = s.size - a := by unfold tl; rw [ByteArray.size_extract]; omega
theorem tl_cut (s : ByteArray) (a i j : Nat) (h : a + j ≤ s.size) : (tl s a).extract i j = s.extract (a + i) (a + j) := by
  apply ByteArray.ext
  apply Array.ext'
  unfold tl
  rw [Lib.extract_data, Lib.extract_data, Lib.extract_data]
  rw [List.drop_take, List.drop_drop, List.take_take]
  congr 1
  omega
/-- A frame stands at a place. -/
def faB (s : ByteArray) (a : Nat) : Prop := 4 ≤ (tl s a).size ∧ 0 ≤ unZ (tl s a) ∧ wordB (sumN (unT (tl s a))) = (tl s a).extract 0 4
instance (s : ByteArray) (a : Nat) : Decidable (faB s a) := by unfold faB; exact inferInstance
def faT (s : ByteArray) (a : Nat) : ByteArray := if faB s a then unT (tl s a) else ByteArray.empty
def faE (s : ByteArray) (a : Nat) : Int := if faB s a then a + 4 + unZ (tl s a) else -1
theorem rest_tl (s : ByteArray) (a : Nat) (h : a + 4 ≤ s.size) : restOf (tl s a) = s.extract (a + 4) (a + min (s.size - a) 1006) := by
  unfold restOf
  rw [tl_size, tl_cut _ _ _ _ (by omega)]

set_option maxRecDepth 100000 in
set_option maxHeartbeats 2000000 in
theorem frameAt_short (s : ByteArray) (a g cap : Nat) (w : World) (hs : s.size ≤ 60000) (ha : a ≤ s.size) (h : s.size < a + 4) : Calls Tryd.prog 45 #[.slice (some ⟨g, 0, none⟩) s.size cap, .int .i64 a] w fun e w' => e = .returned (.tuple #[.string ByteArray.empty, .int .i64 (-1)]) ∧ Below w.heap.size w w' := by
  have h1 : (s.size : Int) ≤ (a : Int) + 1006 := by omega
  have h2 : (s.size : Int) - (a : Int) < 4 := by omega
  clear h
  go_enter Tryd.func45, Tryd.ntmps45
  go_wp2_with fail
  exact bodyPost_ret (v := .tuple #[.string ⟨#[]⟩, .int .i64 (-1)]) (by simp [results, Tryd.results45, go_sem]) rfl ⟨rfl, Below.refl _ _⟩

set_option maxRecDepth 100000 in
set_option maxHeartbeats 2000000 in
theorem frameAt_four_neg (s : ByteArray) (hs : s.size ≤ 60000) (a g cap : Nat) (hcap : s.size ≤ cap) (w : World) (h4 : s.size = a + 4) (hc : BytesAt w g s) (_hg : g < w.heap.size) (hH : Handle w) (hz : unZ (tl s a) < 0) : Calls Tryd.prog 45 #[.slice (some ⟨g, 0, none⟩) s.size cap, .int .i64 a] w fun e w' => e = .returned (.tuple #[.string ByteArray.empty, .int .i64 (-1)]) ∧ Below w.heap.size w w' := by
  have hr : (convert 68 9 (.slice (some ⟨g, 0, none⟩) 0 0)).run Tryd.prog w = .ok (.string (restOf (tl s a))) w := by
    rw [rest_tl s a (by omega)]
    have h := conv_piece hc 0 0 0 (by omega)
    rw [h]
    congr 2
    rw [show min (s.size - a) 1006 = 4 by omega]
    apply ByteArray.ext
    apply Array.ext'
    rw [Lib.extract_data, Lib.extract_data]
    simp
  have ha : a ≤ 59996 := by omega
  have h1 : (a : Int) + 4 ≤ (a : Int) + 1006 := by omega
  have h2 : ¬ ((a : Int) + 4 - (a : Int) < 4) := by omega
  have hcap2 : (a : Int) + 4 ≤ (cap : Int) := by omega
  have hrs : (restOf (tl s a)).size ≤ maxLen := by have := rest_size (tl s a); rw [tl_size] at this; unfold maxLen; omega
  have HG := hide (implRt (restOf (tl s a)) 0 hrs w hH)
  have hub := rtE_le (restOf (tl s a)) 0
  have hsz := rest_size (tl s a)
  have hz1 : unZ (tl s a) ≤ 1002 := by unfold unZ; omega
  have e1 : rtS (restOf (tl s a)) 0 = unT (tl s a) := rfl
  have e2 : rtE (restOf (tl s a)) 0 = unZ (tl s a) := rfl
  rw [e1, e2] at HG
  generalize unZ (tl s a) = z at *
  clear e1 e2 hrs hub hsz hH hcap hs
  generalize unT (tl s a) = tx at *
  generalize restOf (tl s a) = rs at *
  have HC := hide hc
  clear hc
  rw [h4]
  clear h4
  go_enter Tryd.func45, Tryd.ntmps45
  go_wp2_with fail
  refine (unhide HG).mono ?_
  rintro e w1 ⟨rfl, hb1⟩
  clear hr HG
  go_upto_region 7 with fail
  refine wp_at (fun V hV => ?_)
  obtain rfl := hV
  have HBV := hide hb1
  clear hb1
  refine wp_region_mix (by kernel_rfl) ?_
  show wpMix _ _ _ _ 10 (Array.replicate 10 false) _ _
  refine wpMix_take 0 rfl (by kernel_rfl) (by kernel_rfl) (by kernel_rfl) (fun _ _ _ _ h => h) (fun K hK => ?_)
  go_simp
  first
    | (refine hK _ ?_; clear hK K)
    | (apply Exists.intro
       refine ⟨fun _ => ?_, hK _ ?_⟩
       (fail)
       clear hK K)
  refine wpMix_take 1 rfl (by kernel_rfl) (by kernel_rfl) (by kernel_rfl) (fun _ _ _ _ h => h) (fun K hK => ?_)
  go_simp
  first
    | (refine hK _ ?_; clear hK K)
    | (apply Exists.intro
       refine ⟨fun _ => ?_, hK _ ?_⟩
       (fail)
       clear hK K)
  refine wpMix_take 2 rfl (by kernel_rfl) (by kernel_rfl) (by kernel_rfl) (fun _ _ _ _ h => h) (fun K hK => ?_)
  go_simp
  first
    | (refine hK _ ?_; clear hK K)
    | (apply Exists.intro
       refine ⟨fun _ => ?_, hK _ ?_⟩
       (fail)
       clear hK K)
  refine wpMix_take 3 rfl (by kernel_rfl) (by kernel_rfl) (by kernel_rfl) (fun _ _ _ _ h => h) (fun K hK => ?_)
  go_simp
  first
    | (refine hK _ ?_; clear hK K)
    | (apply Exists.intro
       refine ⟨fun _ => ?_, hK _ ?_⟩
       (fail)
       clear hK K)
  refine wpMix_take 4 rfl (by kernel_rfl) (by kernel_rfl) (by kernel_rfl) (fun _ _ _ _ h => h) (fun K hK => ?_)
  go_simp
  first
    | (refine hK _ ?_; clear hK K)
    | (apply Exists.intro
       refine ⟨fun _ => ?_, hK _ ?_⟩
       (fail)
       clear hK K)
  refine wpMix_take 5 rfl (by kernel_rfl) (by kernel_rfl) (by kernel_rfl) (fun _ _ _ _ h => h) (fun K hK => ?_)
  go_simp
  first
    | (refine hK _ ?_; clear hK K)
    | (apply Exists.intro
       refine ⟨fun _ => ?_, hK _ ?_⟩
       (fail)
       clear hK K)
  refine wpMix_take 6 rfl (by kernel_rfl) (by kernel_rfl) (by kernel_rfl) (fun _ _ _ _ h => h) (fun K hK => ?_)
  go_simp
  first
    | (refine hK _ ?_; clear hK K)
    | (apply Exists.intro
       refine ⟨fun _ => ?_, hK _ ?_⟩
       (fail)
       clear hK K)
  refine wpMix_take 7 rfl (by kernel_rfl) (by kernel_rfl) (by kernel_rfl) (fun _ _ _ _ h => h) (fun K hK => ?_)
  go_simp
  first
    | (refine hK _ ?_; clear hK K)
    | (apply Exists.intro
       refine ⟨fun _ => ?_, hK _ ?_⟩
       (fail)
       clear hK K)
  refine wpMix_take 8 rfl (by kernel_rfl) (by kernel_rfl) (by kernel_rfl) (fun _ _ _ _ h => h) (fun K hK => ?_)
  go_simp
  first
    | (refine hK _ ?_; clear hK K)
    | (apply Exists.intro
       refine ⟨fun _ => ?_, hK _ ?_⟩
       (fail)
       clear hK K)
  refine wpMix_take 9 rfl (by kernel_rfl) (by kernel_rfl) (by kernel_rfl) (fun _ _ _ _ h => h) (fun K hK => ?_)
  go_simp
  first
    | (refine hK _ ?_; clear hK K)
    | (apply Exists.intro
       refine ⟨fun _ => ?_, hK _ ?_⟩
       (fail)
       clear hK K)
  refine wpMix_done (by kernel_rfl) (fun x hx => ?_)
  have HBZ := hide (Ge.trans (unhide HBV) hx)
  clear hx HBV
  go_simp
  go_wp2_with fail
  exact bodyPost_ret (v := .tuple #[.string ⟨#[]⟩, .int .i64 (-1)]) (by simp [results, Tryd.results45, go_sem]) rfl ⟨rfl, unhide HBZ⟩

set_option maxRecDepth 100000 in
set_option maxHeartbeats 2000000 in
theorem frameAt_mid_neg (s : ByteArray) (hs : s.size ≤ 60000) (a g cap : Nat) (hcap : s.size ≤ cap) (w : World) (h5 : a + 5 ≤ s.size) (h6 : s.size ≤ a + 1006) (hc : BytesAt w g s) (_hg : g < w.heap.size) (hH : Handle w) (hz : unZ (tl s a) < 0) : Calls Tryd.prog 45 #[.slice (some ⟨g, 0, none⟩) s.size cap, .int .i64 a] w fun e w' => e = .returned (.tuple #[.string ByteArray.empty, .int .i64 (-1)]) ∧ Below w.heap.size w w' := by
  have hr : (convert 68 9 (.slice (some ⟨g, a + 4, none⟩) (s.size - (a + 4)) (s.size - (a + 4)))).run Tryd.prog w = .ok (.string (restOf (tl s a))) w := by
    rw [rest_tl s a (by omega)]
    have h := conv_piece hc (a + 4) (s.size - (a + 4)) (s.size - (a + 4)) (by omega)
    rw [h, show a + min (s.size - a) 1006 = a + 4 + (s.size - (a + 4)) by omega]
  have h1 : (s.size : Int) ≤ (a : Int) + 1006 := by omega
  have h2 : ¬ ((s.size : Int) - (a : Int) < 4) := by omega
  have h3 : (a : Int) + 4 < (s.size : Int) := by omega
  have hcap2 : (s.size : Int) ≤ (cap : Int) := by omega
  have hrs : (restOf (tl s a)).size ≤ maxLen := by have := rest_size (tl s a); rw [tl_size] at this; unfold maxLen; omega
  have HG := hide (implRt (restOf (tl s a)) 0 hrs w hH)
  have hub := rtE_le (restOf (tl s a)) 0
  have hsz := rest_size (tl s a)
  have hz1 : unZ (tl s a) ≤ 1002 := by unfold unZ; omega
  have e1 : rtS (restOf (tl s a)) 0 = unT (tl s a) := rfl
  have e2 : rtE (restOf (tl s a)) 0 = unZ (tl s a) := rfl
  rw [e1, e2] at HG
  generalize unZ (tl s a) = z at *
  clear e1 e2 hrs hub hsz hH hcap
  generalize unT (tl s a) = tx at *
  generalize restOf (tl s a) = rs at *
  have HC := hide hc
  clear hc
  go_enter Tryd.func45, Tryd.ntmps45
  go_wp2_with fail
  refine (unhide HG).mono ?_
  rintro e w1 ⟨rfl, hb1⟩
  clear hr HG
  go_upto_region 7 with fail
  refine wp_at (fun V hV => ?_)
  obtain rfl := hV
  have HBV := hide hb1
  clear hb1
  refine wp_region_mix (by kernel_rfl) ?_
  show wpMix _ _ _ _ 10 (Array.replicate 10 false) _ _
  refine wpMix_take 0 rfl (by kernel_rfl) (by kernel_rfl) (by kernel_rfl) (fun _ _ _ _ h => h) (fun K hK => ?_)
  go_simp
  first
    | (refine hK _ ?_; clear hK K)
    | (apply Exists.intro
       refine ⟨fun _ => ?_, hK _ ?_⟩
       (fail)
       clear hK K)
  refine wpMix_take 1 rfl (by kernel_rfl) (by kernel_rfl) (by kernel_rfl) (fun _ _ _ _ h => h) (fun K hK => ?_)
  go_simp
  first
    | (refine hK _ ?_; clear hK K)
    | (apply Exists.intro
       refine ⟨fun _ => ?_, hK _ ?_⟩
       (fail)
       clear hK K)
  refine wpMix_take 2 rfl (by kernel_rfl) (by kernel_rfl) (by kernel_rfl) (fun _ _ _ _ h => h) (fun K hK => ?_)
  go_simp
  first
    | (refine hK _ ?_; clear hK K)
    | (apply Exists.intro
       refine ⟨fun _ => ?_, hK _ ?_⟩
       (fail)
       clear hK K)
  refine wpMix_take 3 rfl (by kernel_rfl) (by kernel_rfl) (by kernel_rfl) (fun _ _ _ _ h => h) (fun K hK => ?_)
  go_simp
  first
    | (refine hK _ ?_; clear hK K)
    | (apply Exists.intro
       refine ⟨fun _ => ?_, hK _ ?_⟩
       (fail)
       clear hK K)
  refine wpMix_take 4 rfl (by kernel_rfl) (by kernel_rfl) (by kernel_rfl) (fun _ _ _ _ h => h) (fun K hK => ?_)
  go_simp
  first
    | (refine hK _ ?_; clear hK K)
    | (apply Exists.intro
       refine ⟨fun _ => ?_, hK _ ?_⟩
       (fail)
       clear hK K)
  refine wpMix_take 5 rfl (by kernel_rfl) (by kernel_rfl) (by kernel_rfl) (fun _ _ _ _ h => h) (fun K hK => ?_)
  go_simp
  first
    | (refine hK _ ?_; clear hK K)
    | (apply Exists.intro
       refine ⟨fun _ => ?_, hK _ ?_⟩
       (fail)
       clear hK K)
  refine wpMix_take 6 rfl (by kernel_rfl) (by kernel_rfl) (by kernel_rfl) (fun _ _ _ _ h => h) (fun K hK => ?_)
  go_simp
  first
    | (refine hK _ ?_; clear hK K)
    | (apply Exists.intro
       refine ⟨fun _ => ?_, hK _ ?_⟩
       (fail)
       clear hK K)
  refine wpMix_take 7 rfl (by kernel_rfl) (by kernel_rfl) (by kernel_rfl) (fun _ _ _ _ h => h) (fun K hK => ?_)
  go_simp
  first
    | (refine hK _ ?_; clear hK K)
    | (apply Exists.intro
       refine ⟨fun _ => ?_, hK _ ?_⟩
       (fail)
       clear hK K)
  refine wpMix_take 8 rfl (by kernel_rfl) (by kernel_rfl) (by kernel_rfl) (fun _ _ _ _ h => h) (fun K hK => ?_)
  go_simp
  first
    | (refine hK _ ?_; clear hK K)
    | (apply Exists.intro
       refine ⟨fun _ => ?_, hK _ ?_⟩
       (fail)
       clear hK K)
  refine wpMix_take 9 rfl (by kernel_rfl) (by kernel_rfl) (by kernel_rfl) (fun _ _ _ _ h => h) (fun K hK => ?_)
  go_simp
  first
    | (refine hK _ ?_; clear hK K)
    | (apply Exists.intro
       refine ⟨fun _ => ?_, hK _ ?_⟩
       (fail)
       clear hK K)
  refine wpMix_done (by kernel_rfl) (fun x hx => ?_)
  have HBZ := hide (Ge.trans (unhide HBV) hx)
  clear hx HBV
  go_simp
  go_wp2_with fail
  exact bodyPost_ret (v := .tuple #[.string ⟨#[]⟩, .int .i64 (-1)]) (by simp [results, Tryd.results45, go_sem]) rfl ⟨rfl, unhide HBZ⟩

set_option maxRecDepth 100000 in
set_option maxHeartbeats 2000000 in
theorem frameAt_mid_bad (s : ByteArray) (hs : s.size ≤ 60000) (a g cap : Nat) (hcap : s.size ≤ cap) (w : World) (h5 : a + 5 ≤ s.size) (h6 : s.size ≤ a + 1006) (hc : BytesAt w g s) (hg : g < w.heap.size) (hH : Handle w) (hz : 0 ≤ unZ (tl s a)) (hq : ¬ wordB (sumN (unT (tl s a))) = (tl s a).extract 0 4) : Calls Tryd.prog 45 #[.slice (some ⟨g, 0, none⟩) s.size cap, .int .i64 a] w fun e w' => e = .returned (.tuple #[.string ByteArray.empty, .int .i64 (-1)]) ∧ Below w.heap.size w w' := by
  have hr : (convert 68 9 (.slice (some ⟨g, a + 4, none⟩) (s.size - (a + 4)) (s.size - (a + 4)))).run Tryd.prog w = .ok (.string (restOf (tl s a))) w := by
    rw [rest_tl s a (by omega)]
    have h := conv_piece hc (a + 4) (s.size - (a + 4)) (s.size - (a + 4)) (by omega)
    rw [h, show a + min (s.size - a) 1006 = a + 4 + (s.size - (a + 4)) by omega]
  have h1 : (s.size : Int) ≤ (a : Int) + 1006 := by omega
  have h2 : ¬ ((s.size : Int) - (a : Int) < 4) := by omega
  have h3 : (a : Int) + 4 < (s.size : Int) := by omega
  have hcap2 : (s.size : Int) ≤ (cap : Int) := by omega
  rw [tl_cut s a 0 4 (by omega)] at hq
  have hrs : (restOf (tl s a)).size ≤ maxLen := by have := rest_size (tl s a); rw [tl_size] at this; unfold maxLen; omega
  have HG := hide (implRt (restOf (tl s a)) 0 hrs w hH)
  have hub := rtE_le (restOf (tl s a)) 0
  have hsz := rest_size (tl s a)
  have hz1 : unZ (tl s a) ≤ 1002 := by unfold unZ; omega
  have e1 : rtS (restOf (tl s a)) 0 = unT (tl s a) := rfl
  have e2 : rtE (restOf (tl s a)) 0 = unZ (tl s a) := rfl
  rw [e1, e2] at HG
  have hn := sumN_lt (unT (tl s a))
  have HS := hide (fun w1 => sumBytes (unT (tl s a)) (Nat.le_trans (rtS_size _ _) (by unfold maxLen; omega)) w1)
  have HCV := hide (fun w1 g => conv_four w1 g (sumN (unT (tl s a))) 4 hn)
  have HCC := hide (fun w1 (hb : Below w.heap.size w w1) => conv_piece (hc.below hg hb) a 4 4 (by omega))
  have hqq : ((wordB (sumN (unT (tl s a)))).toList == (s.extract a (a + 4)).toList) = false := by
    rw [beq_eq_false_iff_ne]
    intro h
    rw [ByteArray.toList_eq, ByteArray.toList_eq] at h
    exact hq (ByteArray.ext (Array.ext' h))
  generalize unZ (tl s a) = z at *
  clear e1 e2 hrs hub hsz hH hcap
  generalize wordB (sumN (unT (tl s a))) = bW at *
  generalize sumN (unT (tl s a)) = n at *
  generalize s.extract a (a + 4) = hd at *
  have HQ := hide hq
  clear hn hq
  have hz2 : ¬ (z < 0) := by omega
  have hz3 : decide (z < 0) = false := decide_eq_false hz2
  generalize unT (tl s a) = tx at *
  generalize restOf (tl s a) = rs at *
  have HC := hide hc
  clear hc
  go_enter Tryd.func45, Tryd.ntmps45
  go_wp2_with fail
  refine (unhide HG).mono ?_
  rintro e w1 ⟨rfl, hb1⟩
  clear hr HG
  go_upto_region 7 with fail
  refine wp_at (fun V hV => ?_)
  obtain rfl := hV
  have HBV := hide hb1
  clear hb1
  have hcc := fun d os => unhide HCC (Sort.grow (redrawn V d) os) (Ge.trans (unhide HBV) (below_regrown V d os))
  refine wp_region_mix (by kernel_rfl) ?_
  show wpMix _ _ _ _ 10 (Array.replicate 10 false) _ _
  refine wpMix_take 0 rfl (by kernel_rfl) (by kernel_rfl) (by kernel_rfl) (fun _ _ _ _ h => h) (fun K hK => ?_)
  go_simp
  first
    | (refine hK _ ?_; clear hK K)
    | (apply Exists.intro
       refine ⟨fun _ => ?_, hK _ ?_⟩
       (fail)
       clear hK K)
  refine wpMix_take 1 rfl (by kernel_rfl) (by kernel_rfl) (by kernel_rfl) (fun _ _ _ _ h => h) (fun K hK => ?_)
  go_simp
  first
    | (refine hK _ ?_; clear hK K)
    | (apply Exists.intro
       refine ⟨fun _ => ?_, hK _ ?_⟩
       (fail)
       clear hK K)
  refine wpMix_take 2 rfl (by kernel_rfl) (by kernel_rfl) (by kernel_rfl) (fun _ _ _ _ h => h) (fun K hK => ?_)
  go_simp
  first
    | (refine hK _ ?_; clear hK K)
    | (apply Exists.intro
       refine ⟨fun _ => ?_, hK _ ?_⟩
       (fail)
       clear hK K)
  refine wpMix_take 3 rfl (by kernel_rfl) (by kernel_rfl) (by kernel_rfl) (fun _ _ _ _ h => h) (fun K hK => ?_)
  go_simp
  first
    | (refine hK _ ?_; clear hK K)
    | (apply Exists.intro
       refine ⟨fun _ => ?_, hK _ ?_⟩
       (fail)
       clear hK K)
  refine wpMix_take 6 rfl (by kernel_rfl) (by kernel_rfl) (by kernel_rfl) (fun _ _ _ _ h => h) (fun K hK => ?_)
  go_simp
  first
    | (refine hK _ ?_; clear hK K)
    | (apply Exists.intro
       refine ⟨fun _ => ?_, hK _ ?_⟩
       (fail)
       clear hK K)
  refine wpMix_take 7 rfl (by kernel_rfl) (by kernel_rfl) (by kernel_rfl) (fun _ _ _ _ h => h) (fun K hK => ?_)
  go_simp
  first
    | (refine hK _ ?_; clear hK K)
    | (apply Exists.intro
       refine ⟨fun _ => ?_, hK _ ?_⟩
       (fail)
       clear hK K)
  refine wpMix_one 4 rfl (by kernel_rfl) (by rfl) (fun x hx => ?_)
  go_simp
  refine (unhide HS _).mono ?_
  rintro e y ⟨g2, rfl, hg2, hblk, hby⟩
  refine ⟨hby, ?_⟩
  have HBY := hide (Ge.trans (Ge.trans (unhide HBV) hx) hby)
  have hgy := blk_lt hblk
  obtain ⟨c0, c1, c2, c3⟩ := cells4 hblk
  have hcv := fun d os => unhide HCV (Sort.grow (redrawn y d) os) g2 (cell_regrown c0 d os) (cell_regrown c1 d os) (cell_regrown c2 d os) (cell_regrown c3 d os)
  clear hx hby hblk c0 c1 c2 c3 HCV HBV HS hcc HCC hg2
  refine wpMix_take 5 rfl (by kernel_rfl) (by kernel_rfl) (by kernel_rfl) (fun _ _ _ _ h => h) (fun K hK => ?_)
  go_simp
  first
    | (refine hK _ ?_; clear hK K)
    | (apply Exists.intro
       refine ⟨fun _ => ?_, hK _ ?_⟩
       (fail)
       clear hK K)
  refine wpMix_take 8 rfl (by kernel_rfl) (by kernel_rfl) (by kernel_rfl) (fun _ _ _ _ h => h) (fun K hK => ?_)
  go_simp
  first
    | (refine hK _ ?_; clear hK K)
    | (apply Exists.intro
       refine ⟨fun _ => ?_, hK _ ?_⟩
       (fail)
       clear hK K)
  refine wpMix_take 9 rfl (by kernel_rfl) (by kernel_rfl) (by kernel_rfl) (fun _ _ _ _ h => h) (fun K hK => ?_)
  go_simp
  first
    | (refine hK _ ?_; clear hK K)
    | (apply Exists.intro
       refine ⟨fun _ => ?_, hK _ ?_⟩
       (fail)
       clear hK K)
  refine wpMix_done (by kernel_rfl) (fun x2 hx => ?_)
  have HBZ := hide (Ge.trans (unhide HBY) hx)
  clear hx HBY hcv
  go_simp
  go_wp2_with fail
  exact bodyPost_ret (v := .tuple #[.string ⟨#[]⟩, .int .i64 (-1)]) (by simp [results, Tryd.results45, go_sem]) rfl ⟨rfl, unhide HBZ⟩

set_option maxRecDepth 100000 in
set_option maxHeartbeats 2000000 in
theorem frameAt_mid_good (s : ByteArray) (hs : s.size ≤ 60000) (a g cap : Nat) (hcap : s.size ≤ cap) (w : World) (h5 : a + 5 ≤ s.size) (h6 : s.size ≤ a + 1006) (hc : BytesAt w g s) (hg : g < w.heap.size) (hH : Handle w) (hz : 0 ≤ unZ (tl s a)) (hq : wordB (sumN (unT (tl s a))) = (tl s a).extract 0 4) : Calls Tryd.prog 45 #[.slice (some ⟨g, 0, none⟩) s.size cap, .int .i64 a] w fun e w' => e = .returned (.tuple #[.string (unT (tl s a)), .int .i64 (a + 4 + unZ (tl s a))]) ∧ Below w.heap.size w w' := by
  have hr : (convert 68 9 (.slice (some ⟨g, a + 4, none⟩) (s.size - (a + 4)) (s.size - (a + 4)))).run Tryd.prog w = .ok (.string (restOf (tl s a))) w := by
    rw [rest_tl s a (by omega)]
    have h := conv_piece hc (a + 4) (s.size - (a + 4)) (s.size - (a + 4)) (by omega)
    rw [h, show a + min (s.size - a) 1006 = a + 4 + (s.size - (a + 4)) by omega]
  have h1 : (s.size : Int) ≤ (a : Int) + 1006 := by omega
  have h2 : ¬ ((s.size : Int) - (a : Int) < 4) := by omega
  have h3 : (a : Int) + 4 < (s.size : Int) := by omega
  have hcap2 : (s.size : Int) ≤ (cap : Int) := by omega
  rw [tl_cut s a 0 4 (by omega)] at hq
  have hrs : (restOf (tl s a)).size ≤ maxLen := by have := rest_size (tl s a); rw [tl_size] at this; unfold maxLen; omega
  have HG := hide (implRt (restOf (tl s a)) 0 hrs w hH)
  have hub := rtE_le (restOf (tl s a)) 0
  have hsz := rest_size (tl s a)
  have hz1 : unZ (tl s a) ≤ 1002 := by unfold unZ; omega
  have e1 : rtS (restOf (tl s a)) 0 = unT (tl s a) := rfl
  have e2 : rtE (restOf (tl s a)) 0 = unZ (tl s a) := rfl
  rw [e1, e2] at HG
  have hn := sumN_lt (unT (tl s a))
  have HS := hide (fun w1 => sumBytes (unT (tl s a)) (Nat.le_trans (rtS_size _ _) (by unfold maxLen; omega)) w1)
  have HCV := hide (fun w1 g => conv_four w1 g (sumN (unT (tl s a))) 4 hn)
  have HCC := hide (fun w1 (hb : Below w.heap.size w w1) => conv_piece (hc.below hg hb) a 4 4 (by omega))
  have hqq : ((wordB (sumN (unT (tl s a)))).toList == (s.extract a (a + 4)).toList) = true := by
    rw [hq]; simp
  generalize unZ (tl s a) = z at *
  clear e1 e2 hrs hub hsz hH hcap
  generalize wordB (sumN (unT (tl s a))) = bW at *
  generalize sumN (unT (tl s a)) = n at *
  generalize s.extract a (a + 4) = hd at *
  have HQ := hide hq
  clear hn hq
  have hz2 : ¬ (z < 0) := by omega
  have hz3 : decide (z < 0) = false := decide_eq_false hz2
  generalize unT (tl s a) = tx at *
  generalize restOf (tl s a) = rs at *
  have HC := hide hc
  clear hc
  go_enter Tryd.func45, Tryd.ntmps45
  go_wp2_with fail
  refine (unhide HG).mono ?_
  rintro e w1 ⟨rfl, hb1⟩
  clear hr HG
  go_upto_region 7 with fail
  refine wp_at (fun V hV => ?_)
  obtain rfl := hV
  have HBV := hide hb1
  clear hb1
  have hcc := fun d os => unhide HCC (Sort.grow (redrawn V d) os) (Ge.trans (unhide HBV) (below_regrown V d os))
  refine wp_region_mix (by kernel_rfl) ?_
  show wpMix _ _ _ _ 10 (Array.replicate 10 false) _ _
  refine wpMix_take 0 rfl (by kernel_rfl) (by kernel_rfl) (by kernel_rfl) (fun _ _ _ _ h => h) (fun K hK => ?_)
  go_simp
  first
    | (refine hK _ ?_; clear hK K)
    | (apply Exists.intro
       refine ⟨fun _ => ?_, hK _ ?_⟩
       (fail)
       clear hK K)
  refine wpMix_take 1 rfl (by kernel_rfl) (by kernel_rfl) (by kernel_rfl) (fun _ _ _ _ h => h) (fun K hK => ?_)
  go_simp
  first
    | (refine hK _ ?_; clear hK K)
    | (apply Exists.intro
       refine ⟨fun _ => ?_, hK _ ?_⟩
       (fail)
       clear hK K)
  refine wpMix_take 2 rfl (by kernel_rfl) (by kernel_rfl) (by kernel_rfl) (fun _ _ _ _ h => h) (fun K hK => ?_)
  go_simp
  first
    | (refine hK _ ?_; clear hK K)
    | (apply Exists.intro
       refine ⟨fun _ => ?_, hK _ ?_⟩
       (fail)
       clear hK K)
  refine wpMix_take 3 rfl (by kernel_rfl) (by kernel_rfl) (by kernel_rfl) (fun _ _ _ _ h => h) (fun K hK => ?_)
  go_simp
  first
    | (refine hK _ ?_; clear hK K)
    | (apply Exists.intro
       refine ⟨fun _ => ?_, hK _ ?_⟩
       (fail)
       clear hK K)
  refine wpMix_take 6 rfl (by kernel_rfl) (by kernel_rfl) (by kernel_rfl) (fun _ _ _ _ h => h) (fun K hK => ?_)
  go_simp
  first
    | (refine hK _ ?_; clear hK K)
    | (apply Exists.intro
       refine ⟨fun _ => ?_, hK _ ?_⟩
       (fail)
       clear hK K)
  refine wpMix_take 7 rfl (by kernel_rfl) (by kernel_rfl) (by kernel_rfl) (fun _ _ _ _ h => h) (fun K hK => ?_)
  go_simp
  first
    | (refine hK _ ?_; clear hK K)
    | (apply Exists.intro
       refine ⟨fun _ => ?_, hK _ ?_⟩
       (fail)
       clear hK K)
  refine wpMix_one 4 rfl (by kernel_rfl) (by rfl) (fun x hx => ?_)
  go_simp
  refine (unhide HS _).mono ?_
  rintro e y ⟨g2, rfl, hg2, hblk, hby⟩
  refine ⟨hby, ?_⟩
  have HBY := hide (Ge.trans (Ge.trans (unhide HBV) hx) hby)
  have hgy := blk_lt hblk
  obtain ⟨c0, c1, c2, c3⟩ := cells4 hblk
  have hcv := fun d os => unhide HCV (Sort.grow (redrawn y d) os) g2 (cell_regrown c0 d os) (cell_regrown c1 d os) (cell_regrown c2 d os) (cell_regrown c3 d os)
  clear hx hby hblk c0 c1 c2 c3 HCV HBV HS hcc HCC hg2
  refine wpMix_take 5 rfl (by kernel_rfl) (by kernel_rfl) (by kernel_rfl) (fun _ _ _ _ h => h) (fun K hK => ?_)
  go_simp
  first
    | (refine hK _ ?_; clear hK K)
    | (apply Exists.intro
       refine ⟨fun _ => ?_, hK _ ?_⟩
       (fail)
       clear hK K)
  refine wpMix_take 8 rfl (by kernel_rfl) (by kernel_rfl) (by kernel_rfl) (fun _ _ _ _ h => h) (fun K hK => ?_)
  go_simp
  first
    | (refine hK _ ?_; clear hK K)
    | (apply Exists.intro
       refine ⟨fun _ => ?_, hK _ ?_⟩
       (fail)
       clear hK K)
  refine wpMix_take 9 rfl (by kernel_rfl) (by kernel_rfl) (by kernel_rfl) (fun _ _ _ _ h => h) (fun K hK => ?_)
  go_simp
  first
    | (refine hK _ ?_; clear hK K)
    | (apply Exists.intro
       refine ⟨fun _ => ?_, hK _ ?_⟩
       (fail)
       clear hK K)
  refine wpMix_done (by kernel_rfl) (fun x2 hx => ?_)
  have HBZ := hide (Ge.trans (unhide HBY) hx)
  clear hx HBY hcv
  go_simp
  go_wp2_with fail
  exact bodyPost_ret (v := .tuple #[.string tx, .int .i64 (a + 4 + z)]) (by simp [results, Tryd.results45, go_sem]) rfl ⟨rfl, unhide HBZ⟩

set_option maxRecDepth 100000 in
set_option maxHeartbeats 2000000 in
theorem frameAt_long_neg (s : ByteArray) (hs : s.size ≤ 60000) (a g cap : Nat) (hcap : s.size ≤ cap) (w : World) (h7 : a + 1006 < s.size) (hc : BytesAt w g s) (_hg : g < w.heap.size) (hH : Handle w) (hz : unZ (tl s a) < 0) : Calls Tryd.prog 45 #[.slice (some ⟨g, 0, none⟩) s.size cap, .int .i64 a] w fun e w' => e = .returned (.tuple #[.string ByteArray.empty, .int .i64 (-1)]) ∧ Below w.heap.size w w' := by
  have hr : (convert 68 9 (.slice (some ⟨g, a + 4, none⟩) 1002 1002)).run Tryd.prog w = .ok (.string (restOf (tl s a))) w := by
    rw [rest_tl s a (by omega)]
    have h := conv_piece hc (a + 4) 1002 1002 (by omega)
    rw [h, show a + min (s.size - a) 1006 = a + 4 + 1002 by omega]
  have h1 : ¬ ((s.size : Int) ≤ (a : Int) + 1006) := by omega
  have h3 : (a : Int) + 1006 < (s.size : Int) := by omega
  have h31 : ¬ ((a : Int) + 1006 - (a : Int) < 4) := by omega
  have hcap2 : (s.size : Int) ≤ (cap : Int) := by omega
  have hrs : (restOf (tl s a)).size ≤ maxLen := by have := rest_size (tl s a); rw [tl_size] at this; unfold maxLen; omega
  have HG := hide (implRt (restOf (tl s a)) 0 hrs w hH)
  have hub := rtE_le (restOf (tl s a)) 0
  have hsz := rest_size (tl s a)
  have hz1 : unZ (tl s a) ≤ 1002 := by unfold unZ; omega
  have e1 : rtS (restOf (tl s a)) 0 = unT (tl s a) := rfl
  have e2 : rtE (restOf (tl s a)) 0 = unZ (tl s a) := rfl
  rw [e1, e2] at HG
  generalize unZ (tl s a) = z at *
  clear e1 e2 hrs hub hsz hH hcap
  generalize unT (tl s a) = tx at *
  generalize restOf (tl s a) = rs at *
  have HC := hide hc
  clear hc
  go_enter Tryd.func45, Tryd.ntmps45
  go_wp2_with fail
  refine (unhide HG).mono ?_
  rintro e w1 ⟨rfl, hb1⟩
  clear hr HG
  go_upto_region 7 with fail
  refine wp_at (fun V hV => ?_)
  obtain rfl := hV
  have HBV := hide hb1
  clear hb1
  refine wp_region_mix (by kernel_rfl) ?_
  show wpMix _ _ _ _ 10 (Array.replicate 10 false) _ _
  refine wpMix_take 0 rfl (by kernel_rfl) (by kernel_rfl) (by kernel_rfl) (fun _ _ _ _ h => h) (fun K hK => ?_)
  go_simp
  first
    | (refine hK _ ?_; clear hK K)
    | (apply Exists.intro
       refine ⟨fun _ => ?_, hK _ ?_⟩
       (fail)
       clear hK K)
  refine wpMix_take 1 rfl (by kernel_rfl) (by kernel_rfl) (by kernel_rfl) (fun _ _ _ _ h => h) (fun K hK => ?_)
  go_simp
  first
    | (refine hK _ ?_; clear hK K)
    | (apply Exists.intro
       refine ⟨fun _ => ?_, hK _ ?_⟩
       (fail)
       clear hK K)
  refine wpMix_take 2 rfl (by kernel_rfl) (by kernel_rfl) (by kernel_rfl) (fun _ _ _ _ h => h) (fun K hK => ?_)
  go_simp
  first
    | (refine hK _ ?_; clear hK K)
    | (apply Exists.intro
       refine ⟨fun _ => ?_, hK _ ?_⟩
       (fail)
       clear hK K)
  refine wpMix_take 3 rfl (by kernel_rfl) (by kernel_rfl) (by kernel_rfl) (fun _ _ _ _ h => h) (fun K hK => ?_)
  go_simp
  first
    | (refine hK _ ?_; clear hK K)
    | (apply Exists.intro
       refine ⟨fun _ => ?_, hK _ ?_⟩
       (fail)
       clear hK K)
  refine wpMix_take 4 rfl (by kernel_rfl) (by kernel_rfl) (by kernel_rfl) (fun _ _ _ _ h => h) (fun K hK => ?_)
  go_simp
  first
    | (refine hK _ ?_; clear hK K)
    | (apply Exists.intro
       refine ⟨fun _ => ?_, hK _ ?_⟩
       (fail)
       clear hK K)
  refine wpMix_take 5 rfl (by kernel_rfl) (by kernel_rfl) (by kernel_rfl) (fun _ _ _ _ h => h) (fun K hK => ?_)
  go_simp
  first
    | (refine hK _ ?_; clear hK K)
    | (apply Exists.intro
       refine ⟨fun _ => ?_, hK _ ?_⟩
       (fail)
       clear hK K)
  refine wpMix_take 6 rfl (by kernel_rfl) (by kernel_rfl) (by kernel_rfl) (fun _ _ _ _ h => h) (fun K hK => ?_)
  go_simp
  first
    | (refine hK _ ?_; clear hK K)
    | (apply Exists.intro
       refine ⟨fun _ => ?_, hK _ ?_⟩
       (fail)
       clear hK K)
  refine wpMix_take 7 rfl (by kernel_rfl) (by kernel_rfl) (by kernel_rfl) (fun _ _ _ _ h => h) (fun K hK => ?_)
  go_simp
  first
    | (refine hK _ ?_; clear hK K)
    | (apply Exists.intro
       refine ⟨fun _ => ?_, hK _ ?_⟩
       (fail)
       clear hK K)
  refine wpMix_take 8 rfl (by kernel_rfl) (by kernel_rfl) (by kernel_rfl) (fun _ _ _ _ h => h) (fun K hK => ?_)
  go_simp
  first
    | (refine hK _ ?_; clear hK K)
    | (apply Exists.intro
       refine ⟨fun _ => ?_, hK _ ?_⟩
       (fail)
       clear hK K)
  refine wpMix_take 9 rfl (by kernel_rfl) (by kernel_rfl) (by kernel_rfl) (fun _ _ _ _ h => h) (fun K hK => ?_)
  go_simp
  first
    | (refine hK _ ?_; clear hK K)
    | (apply Exists.intro
       refine ⟨fun _ => ?_, hK _ ?_⟩
       (fail)
       clear hK K)
  refine wpMix_done (by kernel_rfl) (fun x hx => ?_)
  have HBZ := hide (Ge.trans (unhide HBV) hx)
  clear hx HBV
  go_simp
  go_wp2_with fail
  exact bodyPost_ret (v := .tuple #[.string ⟨#[]⟩, .int .i64 (-1)]) (by simp [results, Tryd.results45, go_sem]) rfl ⟨rfl, unhide HBZ⟩

set_option maxRecDepth 100000 in
set_option maxHeartbeats 2000000 in
theorem frameAt_long_bad (s : ByteArray) (hs : s.size ≤ 60000) (a g cap : Nat) (hcap : s.size ≤ cap) (w : World) (h7 : a + 1006 < s.size) (hc : BytesAt w g s) (hg : g < w.heap.size) (hH : Handle w) (hz : 0 ≤ unZ (tl s a)) (hq : ¬ wordB (sumN (unT (tl s a))) = (tl s a).extract 0 4) : Calls Tryd.prog 45 #[.slice (some ⟨g, 0, none⟩) s.size cap, .int .i64 a] w fun e w' => e = .returned (.tuple #[.string ByteArray.empty, .int .i64 (-1)]) ∧ Below w.heap.size w w' := by
  have hr : (convert 68 9 (.slice (some ⟨g, a + 4, none⟩) 1002 1002)).run Tryd.prog w = .ok (.string (restOf (tl s a))) w := by
    rw [rest_tl s a (by omega)]
    have h := conv_piece hc (a + 4) 1002 1002 (by omega)
    rw [h, show a + min (s.size - a) 1006 = a + 4 + 1002 by omega]
  have h1 : ¬ ((s.size : Int) ≤ (a : Int) + 1006) := by omega
  have h3 : (a : Int) + 1006 < (s.size : Int) := by omega
  have h31 : ¬ ((a : Int) + 1006 - (a : Int) < 4) := by omega
  have hcap2 : (s.size : Int) ≤ (cap : Int) := by omega
  rw [tl_cut s a 0 4 (by omega)] at hq
  have hrs : (restOf (tl s a)).size ≤ maxLen := by have := rest_size (tl s a); rw [tl_size] at this; unfold maxLen; omega
  have HG := hide (implRt (restOf (tl s a)) 0 hrs w hH)
  have hub := rtE_le (restOf (tl s a)) 0
  have hsz := rest_size (tl s a)
  have hz1 : unZ (tl s a) ≤ 1002 := by unfold unZ; omega
  have e1 : rtS (restOf (tl s a)) 0 = unT (tl s a) := rfl
  have e2 : rtE (restOf (tl s a)) 0 = unZ (tl s a) := rfl
  rw [e1, e2] at HG
  have hn := sumN_lt (unT (tl s a))
  have HS := hide (fun w1 => sumBytes (unT (tl s a)) (Nat.le_trans (rtS_size _ _) (by unfold maxLen; omega)) w1)
  have HCV := hide (fun w1 g => conv_four w1 g (sumN (unT (tl s a))) 4 hn)
  have HCC := hide (fun w1 (hb : Below w.heap.size w w1) => conv_piece (hc.below hg hb) a 4 4 (by omega))
  have hqq : ((wordB (sumN (unT (tl s a)))).toList == (s.extract a (a + 4)).toList) = false := by
    rw [beq_eq_false_iff_ne]
    intro h
    rw [ByteArray.toList_eq, ByteArray.toList_eq] at h
    exact hq (ByteArray.ext (Array.ext' h))
  generalize unZ (tl s a) = z at *
  clear e1 e2 hrs hub hsz hH hcap
  generalize wordB (sumN (unT (tl s a))) = bW at *
  generalize sumN (unT (tl s a)) = n at *
  generalize s.extract a (a + 4) = hd at *
  have HQ := hide hq
  clear hn hq
  have hz2 : ¬ (z < 0) := by omega
  have hz3 : decide (z < 0) = false := decide_eq_false hz2
  generalize unT (tl s a) = tx at *
  generalize restOf (tl s a) = rs at *
  have HC := hide hc
  clear hc
  go_enter Tryd.func45, Tryd.ntmps45
  go_wp2_with fail
  refine (unhide HG).mono ?_
  rintro e w1 ⟨rfl, hb1⟩
  clear hr HG
  go_upto_region 7 with fail
  refine wp_at (fun V hV => ?_)
  obtain rfl := hV
  have HBV := hide hb1
  clear hb1
  have hcc := fun d os => unhide HCC (Sort.grow (redrawn V d) os) (Ge.trans (unhide HBV) (below_regrown V d os))
  refine wp_region_mix (by kernel_rfl) ?_
  show wpMix _ _ _ _ 10 (Array.replicate 10 false) _ _
  refine wpMix_take 0 rfl (by kernel_rfl) (by kernel_rfl) (by kernel_rfl) (fun _ _ _ _ h => h) (fun K hK => ?_)
  go_simp
  first
    | (refine hK _ ?_; clear hK K)
    | (apply Exists.intro
       refine ⟨fun _ => ?_, hK _ ?_⟩
       (fail)
       clear hK K)
  refine wpMix_take 1 rfl (by kernel_rfl) (by kernel_rfl) (by kernel_rfl) (fun _ _ _ _ h => h) (fun K hK => ?_)
  go_simp
  first
    | (refine hK _ ?_; clear hK K)
    | (apply Exists.intro
       refine ⟨fun _ => ?_, hK _ ?_⟩
       (fail)
       clear hK K)
  refine wpMix_take 2 rfl (by kernel_rfl) (by kernel_rfl) (by kernel_rfl) (fun _ _ _ _ h => h) (fun K hK => ?_)
  go_simp
  first
    | (refine hK _ ?_; clear hK K)
    | (apply Exists.intro
       refine ⟨fun _ => ?_, hK _ ?_⟩
       (fail)
       clear hK K)
  refine wpMix_take 3 rfl (by kernel_rfl) (by kernel_rfl) (by kernel_rfl) (fun _ _ _ _ h => h) (fun K hK => ?_)
  go_simp
  first
    | (refine hK _ ?_; clear hK K)
    | (apply Exists.intro
       refine ⟨fun _ => ?_, hK _ ?_⟩
       (fail)
       clear hK K)
  refine wpMix_take 6 rfl (by kernel_rfl) (by kernel_rfl) (by kernel_rfl) (fun _ _ _ _ h => h) (fun K hK => ?_)
  go_simp
  first
    | (refine hK _ ?_; clear hK K)
    | (apply Exists.intro
       refine ⟨fun _ => ?_, hK _ ?_⟩
       (fail)
       clear hK K)
  refine wpMix_take 7 rfl (by kernel_rfl) (by kernel_rfl) (by kernel_rfl) (fun _ _ _ _ h => h) (fun K hK => ?_)
  go_simp
  first
    | (refine hK _ ?_; clear hK K)
    | (apply Exists.intro
       refine ⟨fun _ => ?_, hK _ ?_⟩
       (fail)
       clear hK K)
  refine wpMix_one 4 rfl (by kernel_rfl) (by rfl) (fun x hx => ?_)
  go_simp
  refine (unhide HS _).mono ?_
  rintro e y ⟨g2, rfl, hg2, hblk, hby⟩
  refine ⟨hby, ?_⟩
  have HBY := hide (Ge.trans (Ge.trans (unhide HBV) hx) hby)
  have hgy := blk_lt hblk
  obtain ⟨c0, c1, c2, c3⟩ := cells4 hblk
  have hcv := fun d os => unhide HCV (Sort.grow (redrawn y d) os) g2 (cell_regrown c0 d os) (cell_regrown c1 d os) (cell_regrown c2 d os) (cell_regrown c3 d os)
  clear hx hby hblk c0 c1 c2 c3 HCV HBV HS hcc HCC hg2
  refine wpMix_take 5 rfl (by kernel_rfl) (by kernel_rfl) (by kernel_rfl) (fun _ _ _ _ h => h) (fun K hK => ?_)
  go_simp
  first
    | (refine hK _ ?_; clear hK K)
    | (apply Exists.intro
       refine ⟨fun _ => ?_, hK _ ?_⟩
       (fail)
       clear hK K)
  refine wpMix_take 8 rfl (by kernel_rfl) (by kernel_rfl) (by kernel_rfl) (fun _ _ _ _ h => h) (fun K hK => ?_)
  go_simp
  first
    | (refine hK _ ?_; clear hK K)
    | (apply Exists.intro
       refine ⟨fun _ => ?_, hK _ ?_⟩
       (fail)
       clear hK K)
  refine wpMix_take 9 rfl (by kernel_rfl) (by kernel_rfl) (by kernel_rfl) (fun _ _ _ _ h => h) (fun K hK => ?_)
  go_simp
  first
    | (refine hK _ ?_; clear hK K)
    | (apply Exists.intro
       refine ⟨fun _ => ?_, hK _ ?_⟩
       (fail)
       clear hK K)
  refine wpMix_done (by kernel_rfl) (fun x2 hx => ?_)
  have HBZ := hide (Ge.trans (unhide HBY) hx)
  clear hx HBY hcv
  go_simp
  go_wp2_with fail
  exact bodyPost_ret (v := .tuple #[.string ⟨#[]⟩, .int .i64 (-1)]) (by simp [results, Tryd.results45, go_sem]) rfl ⟨rfl, unhide HBZ⟩

set_option maxRecDepth 100000 in
set_option maxHeartbeats 2000000 in
theorem frameAt_long_good (s : ByteArray) (hs : s.size ≤ 60000) (a g cap : Nat) (hcap : s.size ≤ cap) (w : World) (h7 : a + 1006 < s.size) (hc : BytesAt w g s) (hg : g < w.heap.size) (hH : Handle w) (hz : 0 ≤ unZ (tl s a)) (hq : wordB (sumN (unT (tl s a))) = (tl s a).extract 0 4) : Calls Tryd.prog 45 #[.slice (some ⟨g, 0, none⟩) s.size cap, .int .i64 a] w fun e w' => e = .returned (.tuple #[.string (unT (tl s a)), .int .i64 (a + 4 + unZ (tl s a))]) ∧ Below w.heap.size w w' := by
  have hr : (convert 68 9 (.slice (some ⟨g, a + 4, none⟩) 1002 1002)).run Tryd.prog w = .ok (.string (restOf (tl s a))) w := by
    rw [rest_tl s a (by omega)]
    have h := conv_piece hc (a + 4) 1002 1002 (by omega)
    rw [h, show a + min (s.size - a) 1006 = a + 4 + 1002 by omega]
  have h1 : ¬ ((s.size : Int) ≤ (a : Int) + 1006) := by omega
  have h3 : (a : Int) + 1006 < (s.size : Int) := by omega
  have h31 : ¬ ((a : Int) + 1006 - (a : Int) < 4) := by omega
  have hcap2 : (s.size : Int) ≤ (cap : Int) := by omega
  rw [tl_cut s a 0 4 (by omega)] at hq
  have hrs : (restOf (tl s a)).size ≤ maxLen := by have := rest_size (tl s a); rw [tl_size] at this; unfold maxLen; omega
  have HG := hide (implRt (restOf (tl s a)) 0 hrs w hH)
  have hub := rtE_le (restOf (tl s a)) 0
  have hsz := rest_size (tl s a)
  have hz1 : unZ (tl s a) ≤ 1002 := by unfold unZ; omega
  have e1 : rtS (restOf (tl s a)) 0 = unT (tl s a) := rfl
  have e2 : rtE (restOf (tl s a)) 0 = unZ (tl s a) := rfl
  rw [e1, e2] at HG
  have hn := sumN_lt (unT (tl s a))
  have HS := hide (fun w1 => sumBytes (unT (tl s a)) (Nat.le_trans (rtS_size _ _) (by unfold maxLen; omega)) w1)
  have HCV := hide (fun w1 g => conv_four w1 g (sumN (unT (tl s a))) 4 hn)
  have HCC := hide (fun w1 (hb : Below w.heap.size w w1) => conv_piece (hc.below hg hb) a 4 4 (by omega))
  have hqq : ((wordB (sumN (unT (tl s a)))).toList == (s.extract a (a + 4)).toList) = true := by
    rw [hq]; simp
  generalize unZ (tl s a) = z at *
  clear e1 e2 hrs hub hsz hH hcap
  generalize wordB (sumN (unT (tl s a))) = bW at *
  generalize sumN (unT (tl s a)) = n at *
  generalize s.extract a (a + 4) = hd at *
  have HQ := hide hq
  clear hn hq
  have hz2 : ¬ (z < 0) := by omega
  have hz3 : decide (z < 0) = false := decide_eq_false hz2
  generalize unT (tl s a) = tx at *
  generalize restOf (tl s a) = rs at *
  have HC := hide hc
  clear hc
  go_enter Tryd.func45, Tryd.ntmps45
  go_wp2_with fail
  refine (unhide HG).mono ?_
  rintro e w1 ⟨rfl, hb1⟩
  clear hr HG
  go_upto_region 7 with fail
  refine wp_at (fun V hV => ?_)
  obtain rfl := hV
  have HBV := hide hb1
  clear hb1
  have hcc := fun d os => unhide HCC (Sort.grow (redrawn V d) os) (Ge.trans (unhide HBV) (below_regrown V d os))
  refine wp_region_mix (by kernel_rfl) ?_
  show wpMix _ _ _ _ 10 (Array.replicate 10 false) _ _
  refine wpMix_take 0 rfl (by kernel_rfl) (by kernel_rfl) (by kernel_rfl) (fun _ _ _ _ h => h) (fun K hK => ?_)
  go_simp
  first
    | (refine hK _ ?_; clear hK K)
    | (apply Exists.intro
       refine ⟨fun _ => ?_, hK _ ?_⟩
       (fail)
       clear hK K)
  refine wpMix_take 1 rfl (by kernel_rfl) (by kernel_rfl) (by kernel_rfl) (fun _ _ _ _ h => h) (fun K hK => ?_)
  go_simp
  first
    | (refine hK _ ?_; clear hK K)
    | (apply Exists.intro
       refine ⟨fun _ => ?_, hK _ ?_⟩
       (fail)
       clear hK K)
  refine wpMix_take 2 rfl (by kernel_rfl) (by kernel_rfl) (by kernel_rfl) (fun _ _ _ _ h => h) (fun K hK => ?_)
  go_simp
  first
    | (refine hK _ ?_; clear hK K)
    | (apply Exists.intro
       refine ⟨fun _ => ?_, hK _ ?_⟩
       (fail)
       clear hK K)
  refine wpMix_take 3 rfl (by kernel_rfl) (by kernel_rfl) (by kernel_rfl) (fun _ _ _ _ h => h) (fun K hK => ?_)
  go_simp
  first
    | (refine hK _ ?_; clear hK K)
    | (apply Exists.intro
       refine ⟨fun _ => ?_, hK _ ?_⟩
       (fail)
       clear hK K)
  refine wpMix_take 6 rfl (by kernel_rfl) (by kernel_rfl) (by kernel_rfl) (fun _ _ _ _ h => h) (fun K hK => ?_)
  go_simp
  first
    | (refine hK _ ?_; clear hK K)
    | (apply Exists.intro
       refine ⟨fun _ => ?_, hK _ ?_⟩
       (fail)
       clear hK K)
  refine wpMix_take 7 rfl (by kernel_rfl) (by kernel_rfl) (by kernel_rfl) (fun _ _ _ _ h => h) (fun K hK => ?_)
  go_simp
  first
    | (refine hK _ ?_; clear hK K)
    | (apply Exists.intro
       refine ⟨fun _ => ?_, hK _ ?_⟩
       (fail)
       clear hK K)
  refine wpMix_one 4 rfl (by kernel_rfl) (by rfl) (fun x hx => ?_)
  go_simp
  refine (unhide HS _).mono ?_
  rintro e y ⟨g2, rfl, hg2, hblk, hby⟩
  refine ⟨hby, ?_⟩
  have HBY := hide (Ge.trans (Ge.trans (unhide HBV) hx) hby)
  have hgy := blk_lt hblk
  obtain ⟨c0, c1, c2, c3⟩ := cells4 hblk
  have hcv := fun d os => unhide HCV (Sort.grow (redrawn y d) os) g2 (cell_regrown c0 d os) (cell_regrown c1 d os) (cell_regrown c2 d os) (cell_regrown c3 d os)
  clear hx hby hblk c0 c1 c2 c3 HCV HBV HS hcc HCC hg2
  refine wpMix_take 5 rfl (by kernel_rfl) (by kernel_rfl) (by kernel_rfl) (fun _ _ _ _ h => h) (fun K hK => ?_)
  go_simp
  first
    | (refine hK _ ?_; clear hK K)
    | (apply Exists.intro
       refine ⟨fun _ => ?_, hK _ ?_⟩
       (fail)
       clear hK K)
  refine wpMix_take 8 rfl (by kernel_rfl) (by kernel_rfl) (by kernel_rfl) (fun _ _ _ _ h => h) (fun K hK => ?_)
  go_simp
  first
    | (refine hK _ ?_; clear hK K)
    | (apply Exists.intro
       refine ⟨fun _ => ?_, hK _ ?_⟩
       (fail)
       clear hK K)
  refine wpMix_take 9 rfl (by kernel_rfl) (by kernel_rfl) (by kernel_rfl) (fun _ _ _ _ h => h) (fun K hK => ?_)
  go_simp
  first
    | (refine hK _ ?_; clear hK K)
    | (apply Exists.intro
       refine ⟨fun _ => ?_, hK _ ?_⟩
       (fail)
       clear hK K)
  refine wpMix_done (by kernel_rfl) (fun x2 hx => ?_)
  have HBZ := hide (Ge.trans (unhide HBY) hx)
  clear hx HBY hcv
  go_simp
  go_wp2_with fail
  exact bodyPost_ret (v := .tuple #[.string tx, .int .i64 (a + 4 + z)]) (by simp [results, Tryd.results45, go_sem]) rfl ⟨rfl, unhide HBZ⟩

theorem unZ_four (s : ByteArray) (h : s.size = 4) : unZ s < 0 := by
  have hsz := rest_size s
  have e1 : getAt (restOf s) 0 = none := by
    cases hG : getAt (restOf s) 0 with
    | none => rfl
    | some p =>
      obtain ⟨n, c⟩ := p
      obtain ⟨k, hk0, hk, hc, _⟩ := read_put hG
      omega
  unfold unZ rtE
  rw [e1]
  simp [textOf, txtE]
theorem frameAt (s : ByteArray) (hs : s.size ≤ 60000) (a : Nat) (ha : a ≤ s.size) (g cap : Nat) (hcap : s.size ≤ cap) (w : World) (hc : BytesAt w g s) (hg : g < w.heap.size) (hH : Handle w) : Calls Tryd.prog 45 #[.slice (some ⟨g, 0, none⟩) s.size cap, .int .i64 a] w fun e w' => e = .returned (.tuple #[.string (faT s a), .int .i64 (faE s a)]) ∧ Below w.heap.size w w' := by
  have ht := tl_size s a
  unfold faT faE
  by_cases h4 : 4 ≤ (tl s a).size
  case' neg =>
    have hn : ¬ faB s a := fun h => h4 h.1
    rw [if_neg hn, if_neg hn]
    exact frameAt_short s a g cap w hs ha (by omega)
  by_cases h5 : (tl s a).size = 4
  case' pos =>
    have hz := unZ_four (tl s a) h5
    have hn : ¬ faB s a := fun h => absurd h.2.1 (by omega)
    rw [if_neg hn, if_neg hn]
    exact frameAt_four_neg s hs a g cap hcap w (by omega) hc hg hH hz
  by_cases hz : 0 ≤ unZ (tl s a)
  case' neg =>
    have hn : ¬ faB s a := fun h => hz h.2.1
    rw [if_neg hn, if_neg hn]
    by_cases h6 : s.size ≤ a + 1006
    · exact frameAt_mid_neg s hs a g cap hcap w (by omega) h6 hc hg hH (by omega)
    · exact frameAt_long_neg s hs a g cap hcap w (by omega) hc hg hH (by omega)
  by_cases hq : wordB (sumN (unT (tl s a))) = (tl s a).extract 0 4
  case' neg =>
    have hn : ¬ faB s a := fun h => hq h.2.2
    rw [if_neg hn, if_neg hn]
    by_cases h6 : s.size ≤ a + 1006
    · exact frameAt_mid_bad s hs a g cap hcap w (by omega) h6 hc hg hH hz hq
    · exact frameAt_long_bad s hs a g cap hcap w (by omega) hc hg hH hz hq
  have hy : faB s a := ⟨h4, hz, hq⟩
  rw [if_pos hy, if_pos hy]
  by_cases h6 : s.size ≤ a + 1006
  · exact frameAt_mid_good s hs a g cap hcap w (by omega) h6 hc hg hH hz hq
  · exact frameAt_long_good s hs a g cap hcap w (by omega) hc hg hH hz hq
end Go.Proofs.YtiinpdkgnflmeaaDoor
namespace Go.Proofs.YtiinpdkgnflmeaaDoor
open Go.RowKit
open Mth

theorem get_pre (pre y : List UInt8) (n : Nat) (h : n ≤ 4000000000) : Mth.get (pre ++ (Mth.put n ++ y)) pre.length = some (n, (Mth.put n).length) := by
  have := getF_put 5 n 5 0 1 0 y (by omega) (by omega) (by omega) (.inr rfl) (by omega)
  unfold Mth.get
  rw [List.drop_left]
  simpa [Mth.put] using this
theorem rd_pre {s : ByteArray} {pre y : List UInt8} {n : Nat} (hs : s.data.toList = pre ++ (Mth.put n ++ y)) (h : n ≤ 4000000000) (i : Int) (hi : i = pre.length) : rdN s i = n ∧ rdE s i = (pre.length + (Mth.put n).length : Nat) := by
  subst hi
  have hg : getAt s (pre.length : Int) = some (n, (Mth.put n).length) := by rw [getAt_nat, hs]; exact get_pre pre y n h
  unfold rdN rdE
  rw [hg]
  simp only [numN, numT]
  exact ⟨trivial, by omega⟩
theorem rt_pre {s : ByteArray} {pre y : List UInt8} {t : ByteArray} (hs : s.data.toList = pre ++ (Mth.put t.size ++ (t.data.toList ++ y))) (h : t.size ≤ 1000) (i : Int) (hi : i = pre.length) : rtS s i = t ∧ rtE s i = (pre.length + (putT t).size : Nat) := by
  subst hi
  have hg : getAt s (pre.length : Int) = some (t.size, (Mth.put t.size).length) := by rw [getAt_nat, hs]; exact get_pre pre _ t.size (by omega)
  have hl := congrArg List.length hs
  rw [size_toList] at hl
  simp only [List.length_append, size_toList] at hl
  have hps : (putT t).size = (Mth.put t.size).length + t.size := by unfold putT; rw [if_pos h]; unfold putText; rw [size_of_list, List.length_append, size_toList]
  have ht : textOf s (pre.length : Int).toNat (getAt s (pre.length : Int)) = some (t, pre.length + (Mth.put t.size).length + t.size) := by
    rw [hg]
    unfold textOf
    simp only [Int.toNat_natCast]
    rw [if_neg (by omega)]
    congr 2
    apply ByteArray.ext
    apply Array.ext'
    rw [Lib.extract_data, hs]
    have e : pre ++ (Mth.put t.size ++ (t.data.toList ++ y)) = (pre ++ Mth.put t.size) ++ (t.data.toList ++ y) := by simp
    rw [e, show pre.length + (Mth.put t.size).length = (pre ++ Mth.put t.size).length by simp, List.drop_left]
    rw [show (pre ++ Mth.put t.size).length + t.size - (pre ++ Mth.put t.size).length = t.data.toList.length by rw [size_toList]; omega, List.take_left]
  unfold rtS rtE
  rw [ht]
  simp only [txtS, txtE]
  exact ⟨trivial, by omega⟩
/-- What a right message's parts are, each within its bounds. -/
theorem mg_all {m : Mg} (h : mgOk m = true) : (0 ≤ m.K ∧ m.K ≤ 2) ∧ (0 ≤ m.F ∧ m.F ≤ 29) ∧ (0 ≤ m.T ∧ m.T ≤ 29) ∧ (0 ≤ m.I ∧ m.I ≤ 1000000000) ∧ (0 ≤ m.L ∧ m.L ≤ 1000000000) ∧ (0 ≤ m.N ∧ m.N ≤ 1000000000) ∧ m.k.size ≤ 10 := by
  have hkey : ∀ s : ByteArray, keyOk s.data.toList = true → s.size ≤ 10 := by
    intro s hs
    unfold keyOk at hs
    simp only [Bool.and_eq_true, decide_eq_true_iff] at hs
    have := size_toList s
    omega
  unfold mgOk rtB ndB at h
  simp only [Bool.and_eq_true, decide_eq_true_iff] at h
  obtain ⟨⟨⟨hF, hT⟩, _⟩, h⟩ := h
  split at h
  · simp only [Bool.and_eq_true, smB, decide_eq_true_iff] at h
    have := hkey _ h.1.1.1
    omega
  · split at h
    · simp only [Bool.and_eq_true, smB, decide_eq_true_iff] at h
      have := hkey _ h.1.1.1
      omega
    · split at h
      · simp only [Bool.and_eq_true, smB, decide_eq_true_iff] at h
        omega
      · cases h
theorem putS_nat {n : Int} (h0 : 0 ≤ n) (h1 : n ≤ 1000000000) : (putS n).data.toList = Mth.put n.toNat := by
  unfold putS
  rw [if_pos (by omega)]
theorem putT_list {t : ByteArray} (h : t.size ≤ 1000) : (putT t).data.toList = Mth.put t.size ++ t.data.toList := by
  unfold putT
  rw [if_pos h]
  rfl
/-- A message comes back from its bytes. -/
theorem back_msg {m : Mg} (h : mgOk m = true) : cand (mgBytes m) = m ∧ getOk (mgBytes m) = true := by
  obtain ⟨hK, hF, hT, hI, hL, hN, hk⟩ := mg_all h
  obtain ⟨K, F, T, I, L, k, N⟩ := m
  dsimp only at *
  have hs : (mgBytes ⟨K, F, T, I, L, k, N⟩).data.toList = [UInt8.ofNat K.toNat] ++ (Mth.put F.toNat ++ (Mth.put T.toNat ++ (Mth.put I.toNat ++ (Mth.put L.toNat ++ ((Mth.put k.size ++ k.data.toList) ++ Mth.put N.toNat))))) := by
    unfold mgBytes
    simp only [ByteArray.data_append, Array.toList_append]
    rw [putS_nat hF.1 (by omega), putS_nat hT.1 (by omega), putS_nat hI.1 (by omega), putS_nat hL.1 (by omega), putS_nat hN.1 (by omega), putT_list (by omega)]
    simp [kb]
  generalize hB : mgBytes ⟨K, F, T, I, L, k, N⟩ = B at *
  obtain ⟨n1, e1⟩ := rd_pre (pre := [UInt8.ofNat K.toNat]) (n := F.toNat) hs (by omega) 1 rfl
  obtain ⟨n2, e2⟩ := rd_pre (pre := [UInt8.ofNat K.toNat] ++ Mth.put F.toNat) (n := T.toNat) (s := B) (by rw [hs]; simp only [List.append_assoc]; rfl) (by omega) (rdE B 1) (by rw [e1, List.length_append])
  obtain ⟨n3, e3⟩ := rd_pre (pre := [UInt8.ofNat K.toNat] ++ Mth.put F.toNat ++ Mth.put T.toNat) (n := I.toNat) (s := B) (by rw [hs]; simp only [List.append_assoc]; rfl) (by omega) (rdE B (rdE B 1)) (by rw [e2]; simp only [List.length_append])
  obtain ⟨n4, e4⟩ := rd_pre (pre := [UInt8.ofNat K.toNat] ++ Mth.put F.toNat ++ Mth.put T.toNat ++ Mth.put I.toNat) (n := L.toNat) (s := B) (by rw [hs]; simp only [List.append_assoc]; rfl) (by omega) (rdE B (rdE B (rdE B 1))) (by rw [e3]; simp only [List.length_append])
  obtain ⟨n5, e5⟩ := rt_pre (pre := [UInt8.ofNat K.toNat] ++ Mth.put F.toNat ++ Mth.put T.toNat ++ Mth.put I.toNat ++ Mth.put L.toNat) (t := k) (y := Mth.put N.toNat) (s := B) (by rw [hs]; simp only [List.append_assoc]) (by omega) (rdE B (rdE B (rdE B (rdE B 1)))) (by rw [e4]; simp only [List.length_append])
  have hpk : (putT k).size = (Mth.put k.size ++ k.data.toList).length := by rw [← putT_list (by omega), size_toList]
  obtain ⟨n6, e6⟩ := rd_pre (pre := [UInt8.ofNat K.toNat] ++ Mth.put F.toNat ++ Mth.put T.toNat ++ Mth.put I.toNat ++ Mth.put L.toNat ++ (Mth.put k.size ++ k.data.toList)) (n := N.toNat) (y := []) (s := B) (by rw [hs]; simp only [List.append_assoc, List.append_nil]) (by omega) (rtE B (rdE B (rdE B (rdE B (rdE B 1))))) (by rw [e5, hpk]; simp only [List.length_append])
  have hc : cand B = ⟨K, F, T, I, L, k, N⟩ := by
    unfold cand
    rw [n1, n2, n3, n4, n5, n6, hs]
    simp only [List.cons_append, List.nil_append, List.headD_cons, Mg.mk.injEq]
    have := toNat_byte K.toNat (by omega)
    refine ⟨?_, ?_, ?_, ?_, ?_, trivial, ?_⟩ <;> omega
  have hE : candE B = B.size := by
    unfold candE
    rw [e6, ← size_toList B, hs]
    simp only [List.length_append]
    omega
  refine ⟨hc, ?_⟩
  have h0 : 0 < B.size := by rw [← hB]; exact mgBytes_pos _
  unfold getOk
  rw [decide_eq_true h0, decide_eq_true hE, hc, h]
  rfl
theorem get_back {m : Mg} (h : mgOk m = true) : getMg (mgBytes m) = m := by
  obtain ⟨h1, h2⟩ := back_msg h
  unfold getMg
  rw [if_pos h2, h1]
theorem mgBytes_small {m : Mg} (h : mgOk m = true) : (mgBytes m).size ≤ 1000 := by
  obtain ⟨_, _, _, _, _, _, hk⟩ := mg_all h
  unfold mgBytes
  have s1 := putS_size m.F
  have s2 := putS_size m.T
  have s3 := putS_size m.I
  have s4 := putS_size m.L
  have s6 := putS_size m.N
  have s5 : (putT m.k).size ≤ 16 := by
    unfold putT
    rw [if_pos (by omega)]
    unfold putText
    have := put_length m.k.size
    rw [size_of_list, List.length_append, size_toList]
    omega
  simp only [ByteArray.size_append, kb_size]
  omega
theorem frame_list {t : ByteArray} (h : t.size ≤ 1000) : (frameT t).data.toList = (wordB (sumN t)).data.toList ++ (Mth.put t.size ++ t.data.toList) := by
  unfold frameT
  rw [ByteArray.data_append, Array.toList_append, putT_list h]
/-- A message comes back from its frame. -/
theorem back_frame {m : Mg} (h : mgOk m = true) : unOk (frm m) = true ∧ unMg (frm m) = m := by
  obtain ⟨_, hg⟩ := back_msg h
  have hb := mgBytes_small h
  have hw : (wordB (sumN (mgBytes m))).data.toList.length = 4 := by rw [size_toList]; exact wordB_size _
  rw [frm_yes h]
  obtain ⟨r1, r2⟩ := rt_pre (s := frameT (mgBytes m)) (pre := (wordB (sumN (mgBytes m))).data.toList) (y := []) (t := mgBytes m) (by rw [frame_list hb, List.append_nil]) hb 4 (by rw [hw]; rfl)
  have hu := unOk_spec (frameT (mgBytes m))
  have ho : unOk (frameT (mgBytes m)) = true := by
    rw [hu.1, r1, r2, hg, get_back h, frm_yes h, decide_eq_true rfl, decide_eq_true (by omega)]
    rfl
  refine ⟨ho, ?_⟩
  have ht := hu.2 ho
  unfold unMg
  rw [if_pos ho, ← ht, r1]
  exact get_back h
/-- One frame is no beginning of another. -/
theorem frame_pre {t b : ByteArray} {z : List UInt8} (ht : t.size ≤ 1000) (hb : b.size ≤ 1000) (h : (frameT t).data.toList = (frameT b).data.toList ++ z) : z = [] := by
  rw [frame_list ht, frame_list hb] at h
  have hw1 : (wordB (sumN t)).data.toList.length = 4 := by rw [size_toList]; exact wordB_size _
  have hw2 : (wordB (sumN b)).data.toList.length = 4 := by rw [size_toList]; exact wordB_size _
  rw [List.append_assoc] at h
  have hd := (List.append_inj h (by rw [hw1, hw2])).2
  have g1 := get_pre [] t.data.toList t.size (by omega)
  have g2 := get_pre [] (b.data.toList ++ z) b.size (by omega)
  rw [List.nil_append] at g1 g2
  rw [hd, List.append_assoc] at g1
  rw [g2] at g1
  have he : b.size = t.size := by injection g1 with g1; injection g1
  have hl := congrArg List.length hd
  simp only [List.length_append, size_toList, he] at hl
  exact List.length_eq_zero_iff.1 (by omega)
theorem un_frame {p : ByteArray} (h : unOk p = true) : frm (unMg p) = p ∧ frameT (unT p) = p ∧ (unT p).size ≤ 1000 := by
  have hu := unOk_spec p
  have ht := hu.2 h
  have h' := h
  rw [hu.1] at h'
  simp only [Bool.and_eq_true, decide_eq_true_iff] at h'
  obtain ⟨⟨_, hg⟩, hf⟩ := h'
  rw [ht] at hg hf
  obtain ⟨g1, g2⟩ := got_bytes hg
  have e : unMg p = getMg (unT p) := by unfold unMg; rw [if_pos h]
  refine ⟨by rw [e]; exact hf, ?_, rtS_size _ _⟩
  rw [frm_yes g1, g2] at hf
  exact hf
/-- A frame that is cut is none; one with more is none. -/
theorem cut_none {m : Mg} (h : mgOk m = true) (k : Nat) (hk : k < (frm m).size) : unOk ((frm m).extract 0 k) = false := by
  cases ho : unOk ((frm m).extract 0 k) with
  | false => rfl
  | true =>
    obtain ⟨_, h2, h3⟩ := un_frame ho
    have hb := mgBytes_small h
    rw [frm_yes h] at *
    have e : (frameT (mgBytes m)).data.toList = ((frameT (mgBytes m)).extract 0 k).data.toList ++ (frameT (mgBytes m)).data.toList.drop k := by
      rw [Lib.extract_data]
      simp
    rw [← h2] at e
    have hz := frame_pre hb h3 e
    have hl := congrArg List.length hz
    rw [List.length_drop, size_toList] at hl
    simp at hl
    omega
theorem more_none {m : Mg} (h : mgOk m = true) (x : ByteArray) (hx : 0 < x.size) : unOk (frm m ++ x) = false := by
  cases ho : unOk (frm m ++ x) with
  | false => rfl
  | true =>
    obtain ⟨_, h2, h3⟩ := un_frame ho
    have hb := mgBytes_small h
    rw [frm_yes h] at *
    have e : (frameT (unT (frameT (mgBytes m) ++ x))).data.toList = (frameT (mgBytes m)).data.toList ++ x.data.toList := by rw [h2, ByteArray.data_append, Array.toList_append]
    have hz := frame_pre h3 hb e
    have hl := congrArg List.length hz
    rw [size_toList] at hl
    have h9 : ([] : List UInt8).length = 0 := rfl
    omega
end Go.Proofs.YtiinpdkgnflmeaaDoor
namespace Go.Proofs.YtiinpdkgnflmeaaDoor
open Go.RowKit
open Mth

theorem at_text (s : ByteArray) (a : Nat) (h : a + 4 ≤ s.size) : (unZ (tl s a) < 0 ∧ rtE s ((a : Int) + 4) < 0) ∨ (0 ≤ unZ (tl s a) ∧ rtE s ((a : Int) + 4) = a + 4 + unZ (tl s a) ∧ rtS s ((a : Int) + 4) = unT (tl s a)) := by
  have hR : (restOf (tl s a)).data.toList = (s.data.toList.drop (a + 4)).take (min (s.size - a) 1006 - 4) := by
    rw [rest_tl s a h, Lib.extract_data]
    congr 1
    omega
  have hRs : (restOf (tl s a)).size = min (s.size - a) 1006 - 4 := by rw [rest_size, tl_size]
  unfold unZ unT
  generalize restOf (tl s a) = R at *
  have hl := size_toList s
  have hpl : (a : Int) + 4 = ((s.data.toList.take (a + 4)).length : Int) := by rw [List.length_take, hl]; omega
  by_cases hz : 0 ≤ rtE R 0
  · right
    obtain ⟨_, _, hle, hsz, hput⟩ := text_piece hz
    have hq := putT_list hsz
    have hzl : (putT (rtS R 0)).size = (rtE R 0).toNat := by
      have := congrArg List.length hput
      rw [size_toList, List.length_drop, List.length_take, size_toList] at this
      have e0 : (0 : Int).toNat = 0 := rfl
      omega
    rw [hR] at hput
    simp only [Int.toNat_zero, List.drop_zero] at hput
    rw [List.take_take, Nat.min_eq_left (by omega)] at hput
    have hs : s.data.toList = s.data.toList.take (a + 4) ++ (Mth.put (rtS R 0).size ++ ((rtS R 0).data.toList ++ (s.data.toList.drop (a + 4)).drop (rtE R 0).toNat)) := by
      rw [← List.append_assoc (Mth.put _), ← hq, hput, List.take_append_drop, List.take_append_drop]
    obtain ⟨h1, h2⟩ := rt_pre hs hsz ((a : Int) + 4) hpl
    refine ⟨hz, ?_, h1⟩
    rw [h2, hzl]
    omega
  · left
    refine ⟨by omega, ?_⟩
    rcases Int.lt_or_le (rtE s ((a : Int) + 4)) 0 with h0 | h0
    · exact h0
    · exfalso
      obtain ⟨_, g2, hle, hsz, hput⟩ := text_piece h0
      have hq := putT_list hsz
      have hp2 := putT_two (rtS s ((a : Int) + 4))
      have ea : ((a : Int) + 4).toNat = a + 4 := by omega
      rw [ea, List.drop_take] at hput
      have hzl : (putT (rtS s ((a : Int) + 4))).size = (rtE s ((a : Int) + 4)).toNat - (a + 4) := by
        have := congrArg List.length hput
        rw [size_toList, List.length_take, List.length_drop, size_toList] at this
        omega
      have hs : R.data.toList = [] ++ (Mth.put (rtS s ((a : Int) + 4)).size ++ ((rtS s ((a : Int) + 4)).data.toList ++ R.data.toList.drop ((rtE s ((a : Int) + 4)).toNat - (a + 4)))) := by
        rw [← List.append_assoc (Mth.put _), ← hq, hput, List.nil_append]
        conv => lhs; rw [← List.take_append_drop ((rtE s ((a : Int) + 4)).toNat - (a + 4)) R.data.toList]
        congr 1
        rw [hR, List.take_take, Nat.min_eq_left (by omega)]
      obtain ⟨_, h2⟩ := rt_pre hs hsz 0 rfl
      rw [h2] at hz
      omega
/-- An entry stands at a place. -/
def stB (s : ByteArray) (a : Nat) : Bool := decide (faB s a) && gopB (faT s a)
/-- The model's test of it. -/
theorem stB_spec (s : ByteArray) (a : Nat) (h : a + 4 < s.size) : stB s a = (decide (0 ≤ rtE s ((a : Int) + 4)) && gopB (rtS s ((a : Int) + 4)) && decide (s.extract a (a + 4) = wordB (sumN (rtS s ((a : Int) + 4))))) := by
  unfold stB faT
  have hc := tl_cut s a 0 4 (by omega)
  have hs := tl_size s a
  rcases at_text s a (by omega) with ⟨h1, h2⟩ | ⟨h1, h2, h3⟩
  · have hn : ¬ faB s a := fun h => absurd h.2.1 (by omega)
    rw [decide_eq_false hn, decide_eq_false (show ¬ 0 ≤ rtE s ((a : Int) + 4) by omega)]
    rfl
  · rw [decide_eq_true (show 0 ≤ rtE s ((a : Int) + 4) by omega), h3]
    by_cases hq : wordB (sumN (unT (tl s a))) = s.extract a (a + 4)
    · have hy : faB s a := ⟨by omega, h1, by rw [hc]; exact hq⟩
      rw [decide_eq_true hy, if_pos hy, decide_eq_true hq.symm]
      simp
    · have hn : ¬ faB s a := fun h => hq (by have := h.2.2; rw [hc] at this; exact this)
      rw [decide_eq_false hn, decide_eq_false (fun h => hq h.symm)]
      simp
theorem st_parts {s : ByteArray} {a : Nat} (h : stB s a = true) : a + 4 < s.size ∧ faT s a = rtS s ((a : Int) + 4) ∧ faE s a = rtE s ((a : Int) + 4) ∧ (a : Int) + 4 < faE s a ∧ faE s a ≤ s.size ∧ gopB (faT s a) = true ∧ (faT s a).size ≤ 1000 := by
  unfold stB at h
  simp only [Bool.and_eq_true, decide_eq_true_iff] at h
  obtain ⟨hf, hg⟩ := h
  have hs := tl_size s a
  have h4 := hf.1
  have hne : (tl s a).size ≠ 4 := fun he => by have := unZ_four _ he; have := hf.2.1; omega
  have hT : faT s a = unT (tl s a) := if_pos hf
  have hE : faE s a = a + 4 + unZ (tl s a) := if_pos hf
  rcases at_text s a (by omega) with ⟨h1, _⟩ | ⟨h1, h2, h3⟩
  · have := hf.2.1; omega
  · obtain ⟨_, _, k1, k2, k3⟩ := text_piece (s := s) (i := (a : Int) + 4) (by omega)
    have hgs : 0 < (faT s a).size := by unfold gopB at hg; simp only [Bool.and_eq_true, decide_eq_true_iff] at hg; exact hg.1.1.1
    have hpos : 0 < unZ (tl s a) := by
      have hq := putT_list k2
      have := congrArg List.length (k3.symm.trans hq)
      rw [List.length_append, List.length_drop, List.length_take, size_toList, size_toList] at this
      rw [h3] at this
      rw [hT] at hgs
      omega
    exact ⟨by omega, by rw [hT, h3], by rw [hE, h2], by omega, by omega, hg, by rw [hT, ← h3]; exact k2⟩
/-- What is read from a place on, and the place behind it. -/
def readN (s : ByteArray) : Nat → Nat → List Op5 × Nat
  | 0, a => ([], a)
  | f + 1, a => if stB s a = true then (opC (faT s a) :: (readN s f (faE s a).toNat).1, (readN s f (faE s a).toNat).2) else ([], a)
def rdAll (s : ByteArray) : List Op5 × Nat := if s.size ≤ 60000 then readN s (s.size + 1) 0 else ([], 0)
/-- So far L was read, a is the place behind it. -/
def Sofar (s : ByteArray) (a : Nat) (L : List Op5) : Prop := L.length ≤ a ∧ a ≤ s.size ∧ ∃ f, s.size < a + f ∧ rdAll s = (L ++ (readN s f a).1, (readN s f a).2)
theorem sofar_start (s : ByteArray) (h : s.size ≤ 60000) : Sofar s 0 [] := ⟨Nat.le_refl _, Nat.zero_le _, s.size + 1, by omega, by unfold rdAll; rw [if_pos h]; simp⟩
theorem sofar_step {s : ByteArray} {a : Nat} {L : List Op5} (h : Sofar s a L) (hs : stB s a = true) : Sofar s (faE s a).toNat (L ++ [opC (faT s a)]) := by
  obtain ⟨h1, h2, f, h3, h4⟩ := h
  obtain ⟨p1, _, _, p2, p3, _⟩ := st_parts hs
  refine ⟨by rw [List.length_append]; simp; omega, by omega, ?_⟩
  cases f with
  | zero => omega
  | succ f =>
    refine ⟨f, by omega, ?_⟩
    rw [h4]
    simp only [readN, if_pos hs]
    rw [List.append_assoc]
    rfl
theorem sofar_end {s : ByteArray} {a : Nat} {L : List Op5} (h : Sofar s a L) (hs : stB s a = false) : rdAll s = (L, a) := by
  obtain ⟨_, h2, f, h3, h4⟩ := h
  cases f with
  | zero => omega
  | succ f =>
    rw [h4]
    simp only [readN, hs, Bool.false_eq_true, if_false]
    rw [List.append_nil]
theorem st_short {s : ByteArray} {a : Nat} (h : ¬ a + 4 < s.size) : stB s a = false := by
  cases hs : stB s a with
  | false => rfl
  | true => exact absurd (st_parts hs).1 h
end Go.Proofs.YtiinpdkgnflmeaaDoor
namespace Go.Proofs.YtiinpdkgnflmeaaDoor
open Go.RowKit
open Mth

abbrev encO (o : Op5) : List Value := [.int .i64 o.K, .int .i64 o.no, .string o.k, .int .i64 o.n, .int .i64 o.m.K, .int .i64 o.m.F, .int .i64 o.m.T, .int .i64 o.m.I, .int .i64 o.m.L, .string o.m.k, .int .i64 o.m.N]
theorem encO_length (o : Op5) : (encO o).length = 11 := rfl
theorem encO_one : ∀ (o : Op5), ∀ u ∈ encO o, u.oneCell' = true := by
  intro o u hu
  simp only [encO, List.mem_cons, List.not_mem_nil, or_false] at hu
  rcases hu with rfl | rfl | rfl | rfl | rfl | rfl | rfl | rfl | rfl | rfl | rfl <;> rfl
theorem flatO_snoc (l : List Op5) (o : Op5) : GR.flat encO (l ++ [o]) = GR.flat encO l ++ encO o := by rw [GR.flat_append, GR.flat_one]
abbrev OpsAt (w : World) (a : Option Addr) (l : List Op5) : Prop := GR.At encO 11 w a l
theorem OpsAt.eleven {w : World} {a : Option Addr} {l : List Op5} (h : OpsAt w a l) (i : Nat) (hi : i < l.length) : ∃ g off, a = some ⟨g, off, none⟩ ∧ g < w.heap.size ∧ w.cell? ⟨g, off + i * 11, none⟩ = some (.int .i64 l[i].K) ∧ w.cell? ⟨g, off + i * 11 + 1, none⟩ = some (.int .i64 l[i].no) ∧ w.cell? ⟨g, off + i * 11 + 2, none⟩ = some (.string l[i].k) ∧ w.cell? ⟨g, off + i * 11 + 3, none⟩ = some (.int .i64 l[i].n) ∧ w.cell? ⟨g, off + i * 11 + 4, none⟩ = some (.int .i64 l[i].m.K) ∧ w.cell? ⟨g, off + i * 11 + 5, none⟩ = some (.int .i64 l[i].m.F) ∧ w.cell? ⟨g, off + i * 11 + 6, none⟩ = some (.int .i64 l[i].m.T) ∧ w.cell? ⟨g, off + i * 11 + 7, none⟩ = some (.int .i64 l[i].m.I) ∧ w.cell? ⟨g, off + i * 11 + 8, none⟩ = some (.int .i64 l[i].m.L) ∧ w.cell? ⟨g, off + i * 11 + 9, none⟩ = some (.string l[i].m.k) ∧ w.cell? ⟨g, off + i * 11 + 10, none⟩ = some (.int .i64 l[i].m.N) := by
  obtain ⟨g, off, e, hg, hc⟩ := h i hi
  refine ⟨g, off, e, hg, ?_, ?_, ?_, ?_, ?_, ?_, ?_, ?_, ?_, ?_, ?_⟩
  · simpa using hc 0 (by omega)
  · simpa [Nat.add_assoc] using hc 1 (by omega)
  · simpa [Nat.add_assoc] using hc 2 (by omega)
  · simpa [Nat.add_assoc] using hc 3 (by omega)
  · simpa [Nat.add_assoc] using hc 4 (by omega)
  · simpa [Nat.add_assoc] using hc 5 (by omega)
  · simpa [Nat.add_assoc] using hc 6 (by omega)
  · simpa [Nat.add_assoc] using hc 7 (by omega)
  · simpa [Nat.add_assoc] using hc 8 (by omega)
  · simpa [Nat.add_assoc] using hc 9 (by omega)
  · simpa [Nat.add_assoc] using hc 10 (by omega)
set_option maxRecDepth 100000 in
set_option maxHeartbeats 4000000 in
theorem eqOpS (a b : Option Addr) (ca cb : Nat) (l : List Op5) (w : World) (hl : l.length ≤ 1048600) (ha : OpsAt w a l) (hb : OpsAt w b l) :
    Calls Tryd.prog 11 #[.slice a l.length ca, .slice b l.length cb] w fun e w' => e = .returned (.bool true) ∧ Below w.heap.size w w' := by
  have HA := hide ha
  have HB := hide hb
  clear ha hb
  go_enter Tryd.func11, Tryd.ntmps11
  go_wp2_with fail
  go_loopw [5] (fun i wr => ∃ k : Nat, k ≤ l.length ∧ i = .int .i64 k ∧ Below w.heap.size w wr) (fun i _ => l.length - (intOf i).toNat)
  case atStart => exact ⟨0, Nat.zero_le _, rfl, Below.refl _ _⟩
  case round =>
    obtain ⟨k, hk, rfl, hbel⟩ := hrel
    have HBL := hide hbel
    clear hbel
    by_cases hlt : k < l.length
    · obtain ⟨g1, o1, rfl, hg1, s0, s1, s2, s3, s4, s5, s6, s7, s8, s9, s10⟩ := OpsAt.eleven (GR.At.below (unhide HA) (unhide HBL)) k hlt
      obtain ⟨g2, o2, rfl, hg2, t0, t1, t2, t3, t4, t5, t6, t7, t8, t9, t10⟩ := OpsAt.eleven (GR.At.below (unhide HB) (unhide HBL)) k hlt
      generalize l[k] = pu at *
      have HEQ := hide (fun w1 => eqOp pu w1)
      obtain ⟨qK, qno, qk, qn, ⟨mK, mF, mT, mI, mL, mk, mN⟩⟩ := pu
      dsimp only at s0 s1 s2 s3 s4 s5 s6 s7 s8 s9 s10 t0 t1 t2 t3 t4 t5 t6 t7 t8 t9 t10
      go_wp2_with fail
      go_region_held (fun w' => (w'.cell? ⟨g1, o1 + k * 11, none⟩ = some (.int .i64 qK) ∧ w'.cell? ⟨g1, o1 + k * 11 + 1, none⟩ = some (.int .i64 qno) ∧ w'.cell? ⟨g1, o1 + k * 11 + 2, none⟩ = some (.string qk) ∧ w'.cell? ⟨g1, o1 + k * 11 + 3, none⟩ = some (.int .i64 qn) ∧ w'.cell? ⟨g1, o1 + k * 11 + 4, none⟩ = some (.int .i64 mK) ∧ w'.cell? ⟨g1, o1 + k * 11 + 5, none⟩ = some (.int .i64 mF) ∧ w'.cell? ⟨g1, o1 + k * 11 + 6, none⟩ = some (.int .i64 mT) ∧ w'.cell? ⟨g1, o1 + k * 11 + 7, none⟩ = some (.int .i64 mI) ∧ w'.cell? ⟨g1, o1 + k * 11 + 8, none⟩ = some (.int .i64 mL) ∧ w'.cell? ⟨g1, o1 + k * 11 + 9, none⟩ = some (.string mk) ∧ w'.cell? ⟨g1, o1 + k * 11 + 10, none⟩ = some (.int .i64 mN)) ∧ w'.cell? ⟨g2, o2 + k * 11, none⟩ = some (.int .i64 qK) ∧ w'.cell? ⟨g2, o2 + k * 11 + 1, none⟩ = some (.int .i64 qno) ∧ w'.cell? ⟨g2, o2 + k * 11 + 2, none⟩ = some (.string qk) ∧ w'.cell? ⟨g2, o2 + k * 11 + 3, none⟩ = some (.int .i64 qn) ∧ w'.cell? ⟨g2, o2 + k * 11 + 4, none⟩ = some (.int .i64 mK) ∧ w'.cell? ⟨g2, o2 + k * 11 + 5, none⟩ = some (.int .i64 mF) ∧ w'.cell? ⟨g2, o2 + k * 11 + 6, none⟩ = some (.int .i64 mT) ∧ w'.cell? ⟨g2, o2 + k * 11 + 7, none⟩ = some (.int .i64 mI) ∧ w'.cell? ⟨g2, o2 + k * 11 + 8, none⟩ = some (.int .i64 mL) ∧ w'.cell? ⟨g2, o2 + k * 11 + 9, none⟩ = some (.string mk) ∧ w'.cell? ⟨g2, o2 + k * 11 + 10, none⟩ = some (.int .i64 mN)) (go_keep)
        (first
          | (go_at_call 8; refine (unhide HEQ _).mono ?_; rintro e w5 ⟨rfl, hb5⟩; have hb6 : Below wr.heap.size wr w5 := ⟨hb5.os, hb5.tape, hb5.output, hb5.size, hb5.block⟩; clear hb5; have HBL5 := hide ((unhide HBL).trans (hb6.mono (unhide HBL).size)); have y0 := (hb6.cell (p := ⟨g1, o1 + k * 11, none⟩) hg1).trans s0; have y1 := (hb6.cell (p := ⟨g1, o1 + k * 11 + 1, none⟩) hg1).trans s1; have y2 := (hb6.cell (p := ⟨g1, o1 + k * 11 + 2, none⟩) hg1).trans s2; have y3 := (hb6.cell (p := ⟨g1, o1 + k * 11 + 3, none⟩) hg1).trans s3; have y4 := (hb6.cell (p := ⟨g1, o1 + k * 11 + 4, none⟩) hg1).trans s4; have y5 := (hb6.cell (p := ⟨g1, o1 + k * 11 + 5, none⟩) hg1).trans s5; have y6 := (hb6.cell (p := ⟨g1, o1 + k * 11 + 6, none⟩) hg1).trans s6; have y7 := (hb6.cell (p := ⟨g1, o1 + k * 11 + 7, none⟩) hg1).trans s7; have y8 := (hb6.cell (p := ⟨g1, o1 + k * 11 + 8, none⟩) hg1).trans s8; have y9 := (hb6.cell (p := ⟨g1, o1 + k * 11 + 9, none⟩) hg1).trans s9; have y10 := (hb6.cell (p := ⟨g1, o1 + k * 11 + 10, none⟩) hg1).trans s10; have z0 := (hb6.cell (p := ⟨g2, o2 + k * 11, none⟩) hg2).trans t0; have z1 := (hb6.cell (p := ⟨g2, o2 + k * 11 + 1, none⟩) hg2).trans t1; have z2 := (hb6.cell (p := ⟨g2, o2 + k * 11 + 2, none⟩) hg2).trans t2; have z3 := (hb6.cell (p := ⟨g2, o2 + k * 11 + 3, none⟩) hg2).trans t3; have z4 := (hb6.cell (p := ⟨g2, o2 + k * 11 + 4, none⟩) hg2).trans t4; have z5 := (hb6.cell (p := ⟨g2, o2 + k * 11 + 5, none⟩) hg2).trans t5; have z6 := (hb6.cell (p := ⟨g2, o2 + k * 11 + 6, none⟩) hg2).trans t6; have z7 := (hb6.cell (p := ⟨g2, o2 + k * 11 + 7, none⟩) hg2).trans t7; have z8 := (hb6.cell (p := ⟨g2, o2 + k * 11 + 8, none⟩) hg2).trans t8; have z9 := (hb6.cell (p := ⟨g2, o2 + k * 11 + 9, none⟩) hg2).trans t9; have z10 := (hb6.cell (p := ⟨g2, o2 + k * 11 + 10, none⟩) hg2).trans t10; clear hb6))
      all_goals
        go_wp2_with fail
        go_roundw
        case rel => exact ⟨k + 1, by omega, by go_num, unhide HBL5⟩
        case measure => simp [intOf]; omega
    · have hke : k = l.length := by omega
      subst hke
      have hnlt : decide ((l.length : Int) < (l.length : Int)) = false := by simp
      go_wp2_with fail
      go_ret
      exact ⟨rfl, unhide HBL⟩

def mkOp (k : Nat) : Op5 := ⟨(k : Int), (k : Int) + 1, mark (k + 2), (k : Int) + 3, ⟨(k : Int) + 4, (k : Int) + 5, (k : Int) + 6, (k : Int) + 7, (k : Int) + 8, mark (k + 9), (k : Int) + 10⟩⟩
theorem GR.W.elevenO {w : World} {a : Option Addr} {g : Nat} {l : List Op5} (h : GR.W encO 11 w a g l) (i : Nat) (hi : i < l.length) : a = some ⟨g, 0, none⟩ ∧ g < w.heap.size ∧ (w.cell? ⟨g, i * 11, none⟩ = some (.int .i64 l[i].K) ∧ w.cell? ⟨g, i * 11 + 1, none⟩ = some (.int .i64 l[i].no) ∧ w.cell? ⟨g, i * 11 + 2, none⟩ = some (.string l[i].k) ∧ w.cell? ⟨g, i * 11 + 3, none⟩ = some (.int .i64 l[i].n) ∧ w.cell? ⟨g, i * 11 + 4, none⟩ = some (.int .i64 l[i].m.K) ∧ w.cell? ⟨g, i * 11 + 5, none⟩ = some (.int .i64 l[i].m.F) ∧ w.cell? ⟨g, i * 11 + 6, none⟩ = some (.int .i64 l[i].m.T) ∧ w.cell? ⟨g, i * 11 + 7, none⟩ = some (.int .i64 l[i].m.I) ∧ w.cell? ⟨g, i * 11 + 8, none⟩ = some (.int .i64 l[i].m.L) ∧ w.cell? ⟨g, i * 11 + 9, none⟩ = some (.string l[i].m.k) ∧ w.cell? ⟨g, i * 11 + 10, none⟩ = some (.int .i64 l[i].m.N)) ∧ w.frozen? ⟨g, i * 11, none⟩ = false ∧ w.frozen? ⟨g, i * 11 + 1, none⟩ = false ∧ w.frozen? ⟨g, i * 11 + 2, none⟩ = false ∧ w.frozen? ⟨g, i * 11 + 3, none⟩ = false ∧ w.frozen? ⟨g, i * 11 + 4, none⟩ = false ∧ w.frozen? ⟨g, i * 11 + 5, none⟩ = false ∧ w.frozen? ⟨g, i * 11 + 6, none⟩ = false ∧ w.frozen? ⟨g, i * 11 + 7, none⟩ = false ∧ w.frozen? ⟨g, i * 11 + 8, none⟩ = false ∧ w.frozen? ⟨g, i * 11 + 9, none⟩ = false ∧ w.frozen? ⟨g, i * 11 + 10, none⟩ = false := by
  obtain ⟨e, hg, hc⟩ := h i hi
  exact ⟨e, hg, ⟨by simpa using (hc 0 (by omega)).1, by simpa using (hc 1 (by omega)).1, by simpa using (hc 2 (by omega)).1, by simpa using (hc 3 (by omega)).1, by simpa using (hc 4 (by omega)).1, by simpa using (hc 5 (by omega)).1, by simpa using (hc 6 (by omega)).1, by simpa using (hc 7 (by omega)).1, by simpa using (hc 8 (by omega)).1, by simpa using (hc 9 (by omega)).1, by simpa using (hc 10 (by omega)).1⟩, by simpa using (hc 0 (by omega)).2, (hc 1 (by omega)).2, (hc 2 (by omega)).2, (hc 3 (by omega)).2, (hc 4 (by omega)).2, (hc 5 (by omega)).2, (hc 6 (by omega)).2, (hc 7 (by omega)).2, (hc 8 (by omega)).2, (hc 9 (by omega)).2, (hc 10 (by omega)).2⟩
set_option maxRecDepth 100000 in
set_option maxHeartbeats 4000000 in
theorem markOpG (a : Option Addr) (g c s : Nat) (l : List Op5) (w : World) (hs0 : 0 < s) (hs1 : s ≤ 4000000000000) (hl : l.length ≤ 1048600) (ha : GR.W encO 11 w a g l) :
    Calls Tryd.prog 12 #[.slice a l.length c, .int .i64 s] w fun e w' => e = .returned (.int .i64 (s + 11 * (l.length : Int))) ∧ GR.W encO 11 w' a g (mks mkOp 11 s l l.length) ∧ KeepsL (fp g l) w w' := by
  have HA := hide ha
  clear ha
  go_enter Tryd.func12, Tryd.ntmps12
  go_wp2_with fail
  go_loopw [1, 5] (fun kk i wr => ∃ k m : Nat, k ≤ l.length ∧ i = .int .i64 k ∧ kk = .int .i64 m ∧ m = s + 11 * k ∧ GR.W encO 11 wr a g (mks mkOp 11 s l k) ∧ KeepsL (fp g l) w wr) (fun _ i _ => l.length - (intOf i).toNat)
  case atStart => exact ⟨0, s, Nat.zero_le _, rfl, rfl, rfl, by rw [mks_zero]; exact unhide HA, KeepsL.refl _ _⟩
  case round =>
    obtain ⟨k, m, hk, rfl, rfl, hm, hR, hkp⟩ := hrel
    have HM := hide hm
    have HR := hide hR
    have HK := hide hkp
    clear hR hkp
    by_cases hlt : k < l.length
    · have hml := mks_length mkOp 11 s l k hk
      have hk' : k < (mks mkOp 11 s l k).length := by rw [hml]; exact hlt
      have hm0 : 0 < m := by omega
      have hm1 : (m : Int) ≤ 92233720368547758 := by omega
      have hpos : 0 < l.length := by omega
      have hfl : (GR.flat encO (mks mkOp 11 s l k)).length = l.length * 11 := by rw [GR.flat_length encO 11 encO_length, hml]
      have HL9 := hide (show k * 11 + 9 < (GR.flat encO (mks mkOp 11 s l k)).length by omega)
      have HL10 := hide (show k * 11 + 10 < (GR.flat encO (mks mkOp 11 s l k)).length by omega)
      obtain ⟨e0, hg0, ⟨s0, s1, s2, s3, s4, s5, s6, s7, s8, s9, s10⟩, f0, f1, f2, f3, f4, f5, f6, f7, f8, f9, f10⟩ := GR.W.elevenO (unhide HR) k hk'
      subst e0
      have HMT := hide (fun z w1 (hz : z = ((m + 2 : Nat) : Int)) => markTextI (m + 2) z w1 hz (by omega) (by omega))
      have HMU := hide (fun z w1 (hz : z = ((m + 9 : Nat) : Int)) => markTextI (m + 9) z w1 hz (by omega) (by omega))
      have HML := hide hml
      clear hm hml hfl
      have e1 : (m : Int) + 1 + 1 = m + 2 := by omega
      have e2 : (m : Int) + 2 + 1 = m + 3 := by omega
      have e3 : (m : Int) + 3 + 1 = m + 4 := by omega
      have e4 : (m : Int) + 4 + 1 = m + 5 := by omega
      have e5 : (m : Int) + 5 + 1 = m + 6 := by omega
      have e6 : (m : Int) + 6 + 1 = m + 7 := by omega
      have e7 : (m : Int) + 7 + 1 = m + 8 := by omega
      have e8 : (m : Int) + 8 + 1 = m + 9 := by omega
      have e9 : (m : Int) + 9 + 1 = m + 10 := by omega
      have e10 : (m : Int) + 10 + 1 = m + 11 := by omega
      go_upto_region 22 with (go_at_call 30; refine (unhide HMT _ _ (by omega)).mono ?_; rintro e w1 ⟨rfl, hb1⟩; have HB1 := hide hb1; have hgz := hb1.size; obtain ⟨hcc, hff⟩ := bcell hb1; clear hb1)
      refine wp_at (fun V hV => ?_)
      (try simp only [e1, e2, e3, e4, e5, e6, e7, e8, e9, e10] at HB1 hV ⊢)
      have HCV : Hid (GR.C V (some ⟨g, 0, none⟩) g ((((((((((GR.flat encO (mks mkOp 11 s l k)).set (k * 11) (.int .i64 (mkOp m).K)).set (k * 11 + 1) (.int .i64 (mkOp m).no)).set (k * 11 + 2) (.string (mkOp m).k)).set (k * 11 + 3) (.int .i64 (mkOp m).n)).set (k * 11 + 4) (.int .i64 (mkOp m).m.K)).set (k * 11 + 5) (.int .i64 (mkOp m).m.F)).set (k * 11 + 6) (.int .i64 (mkOp m).m.T)).set (k * 11 + 7) (.int .i64 (mkOp m).m.I)).set (k * 11 + 8) (.int .i64 (mkOp m).m.L))) := by
        have h0 := GR.W.toC encO_length (by omega) (unhide HR)
        have h1 := GR.C.set h0 (k * 11) (.int .i64 (mkOp m).K)
        have h2 := GR.C.set h1 (k * 11 + 1) (.int .i64 (mkOp m).no)
        have hB2 := GR.C.below h2 (unhide HB1)
        have h3 := GR.C.set hB2 (k * 11 + 2) (.string (mkOp m).k)
        have h4 := GR.C.set h3 (k * 11 + 3) (.int .i64 (mkOp m).n)
        have h5 := GR.C.set h4 (k * 11 + 4) (.int .i64 (mkOp m).m.K)
        have h6 := GR.C.set h5 (k * 11 + 5) (.int .i64 (mkOp m).m.F)
        have h7 := GR.C.set h6 (k * 11 + 6) (.int .i64 (mkOp m).m.T)
        have h8 := GR.C.set h7 (k * 11 + 7) (.int .i64 (mkOp m).m.I)
        have h9 := GR.C.set h8 (k * 11 + 8) (.int .i64 (mkOp m).m.L)
        rw [hV]
        exact h9
      have HKV : Hid (KeepsL (fp g l) w V) := by
        rw [hV]
        exact (((((((((((unhide HK).trans (fp_keeps (KeepsL.set _) hpos)).trans (fp_keeps (KeepsL.set _) hpos)).trans (KeepsL.of_below (unhide HB1))).trans (fp_keeps (KeepsL.set _) hpos)).trans (fp_keeps (KeepsL.set _) hpos)).trans (fp_keeps (KeepsL.set _) hpos)).trans (fp_keeps (KeepsL.set _) hpos)).trans (fp_keeps (KeepsL.set _) hpos)).trans (fp_keeps (KeepsL.set _) hpos)).trans (fp_keeps (KeepsL.set _) hpos))
      clear hV HB1 hgz hcc hff HMT HK HR s0 s1 s2 s3 s4 s5 s6 s7 s8 s9 s10 f0 f1 f2 f3 f4 f5 f6 f7 f8 f9 f10 hg0
      obtain ⟨_, hgV, s9, f9⟩ := unhide HCV (k * 11 + 9) (by simp only [List.length_set]; exact unhide HL9)
      obtain ⟨_, _, s10, f10⟩ := unhide HCV (k * 11 + 10) (by simp only [List.length_set]; exact unhide HL10)
      go_wp2_with (go_at_call 30; refine (unhide HMU _ _ (by omega)).mono ?_; rintro e w2 ⟨rfl, hb2⟩; have HB2 := hide hb2; have hgz := hb2.size; obtain ⟨hcc, hff⟩ := bcell hb2; clear hb2)
      go_roundw
      case rel =>
        (try simp only [e1, e2, e3, e4, e5, e6, e7, e8, e9, e10] at HB2 ⊢)
        have h9 := unhide HCV
        have hB9 := GR.C.below h9 (unhide HB2)
        have h10 := GR.C.set hB9 (k * 11 + 9) (.string (mkOp m).m.k)
        have h11 := GR.C.set h10 (k * 11 + 10) (.int .i64 (mkOp m).m.N)
        have hf := GR.flat_set encO 11 encO_length (mks mkOp 11 s l k) k (mkOp m) (by rw [unhide HML]; exact hlt)
        have h99 := GR.C.toW (enc := encO) (l := (mks mkOp 11 s l k).set k (mkOp m)) encO_length (by omega) (by rw [← hf]; exact h11)
        have hmk : mkOp m = mkOp (s + 11 * k) := by rw [unhide HM]
        rw [hmk, mks_set mkOp 11 s l k hlt, ← hmk] at h99
        refine ⟨k + 1, m + 11, by omega, by go_num, by go_num, by have := unhide HM; omega, h99, ?_⟩
        exact ((((unhide HKV).trans (KeepsL.of_below (unhide HB2))).trans (fp_keeps (KeepsL.set _) hpos)).trans (fp_keeps (KeepsL.set _) hpos))
      case measure => simp [intOf]; omega
    · have hke : k = l.length := by omega
      subst hke
      have hnlt : decide ((l.length : Int) < (l.length : Int)) = false := by simp
      clear hm
      go_wp2_with fail
      go_ret
      exact ⟨ret_int (by have := unhide HM; omega), unhide HR, unhide HK⟩
set_option maxRecDepth 100000 in
set_option maxHeartbeats 4000000 in
theorem heldOpG (a : Option Addr) (g c n s : Nat) (l : List Op5) (w : World) (hn : n = l.length) (hs0 : 0 < s) (hs1 : s ≤ 4000000000000) (hl : l.length ≤ 1048600) (ha : GR.W encO 11 w a g (mks mkOp 11 s l l.length)) :
    Calls Tryd.prog 13 #[.slice a n c, .int .i64 s] w fun e w' => e = .returned (.int .i64 (s + 11 * (l.length : Int))) ∧ Below w.heap.size w w' := by
  have HA := hide ha
  clear ha
  subst hn
  go_enter Tryd.func13, Tryd.ntmps13
  go_wp2_with fail
  go_loopw [1, 5] (fun kk i wr => ∃ k m : Nat, k ≤ l.length ∧ i = .int .i64 k ∧ kk = .int .i64 m ∧ m = s + 11 * k ∧ Below w.heap.size w wr) (fun _ i _ => l.length - (intOf i).toNat)
  case atStart => exact ⟨0, s, Nat.zero_le _, rfl, rfl, rfl, Below.refl _ _⟩
  case round =>
    obtain ⟨k, m, hk, rfl, rfl, hm, hbel⟩ := hrel
    have HM := hide hm
    have HBL := hide hbel
    clear hbel
    by_cases hlt : k < l.length
    · have hm0 : 0 < m := by omega
      have hm1 : (m : Int) ≤ 92233720368547758 := by omega
      obtain ⟨e0, hgl, ⟨s0, s1, s2, s3, s4, s5, s6, s7, s8, s9, s10⟩, _⟩ := GR.W.elevenO (GR.W.below (unhide HA) (unhide HBL)) k (by rw [mks_length mkOp 11 s l l.length (Nat.le_refl _)]; exact hlt)
      rw [mks_at mkOp 11 s l l.length k hlt (Nat.le_refl _), ← hm] at s0 s1 s2 s3 s4 s5 s6 s7 s8 s9 s10
      dsimp only [mkOp] at s0 s1 s2 s3 s4 s5 s6 s7 s8 s9 s10
      subst e0
      have HMT := hide (fun z w1 (hz : z = ((m + 2 : Nat) : Int)) => markTextI (m + 2) z w1 hz (by omega) (by omega))
      have HMU := hide (fun z w1 (hz : z = ((m + 9 : Nat) : Int)) => markTextI (m + 9) z w1 hz (by omega) (by omega))
      clear hm
      have e1 : (m : Int) + 1 + 1 = m + 2 := by omega
      have e2 : (m : Int) + 2 + 1 = m + 3 := by omega
      have e3 : (m : Int) + 3 + 1 = m + 4 := by omega
      have e4 : (m : Int) + 4 + 1 = m + 5 := by omega
      have e5 : (m : Int) + 5 + 1 = m + 6 := by omega
      have e6 : (m : Int) + 6 + 1 = m + 7 := by omega
      have e7 : (m : Int) + 7 + 1 = m + 8 := by omega
      have e8 : (m : Int) + 8 + 1 = m + 9 := by omega
      have e9 : (m : Int) + 9 + 1 = m + 10 := by omega
      have e10 : (m : Int) + 10 + 1 = m + 11 := by omega
      go_wp2_with fail
      go_region_with (go_at_call 30; refine (unhide HMT _ _ (by omega)).mono ?_; rintro e w1 ⟨rfl, hb1⟩; have HBL1 := hide ((unhide HBL).trans (((Below.refl _ _).drew.trans hb1).mono (unhide HBL).size)); have hc0 := (bcell hb1).1 g (k * 11) (by simpa using hgl); have hc1 := (bcell hb1).1 g (k * 11 + 1) (by simpa using hgl); have hc2 := (bcell hb1).1 g (k * 11 + 2) (by simpa using hgl); have hc3 := (bcell hb1).1 g (k * 11 + 3) (by simpa using hgl); have hc4 := (bcell hb1).1 g (k * 11 + 4) (by simpa using hgl); have hc5 := (bcell hb1).1 g (k * 11 + 5) (by simpa using hgl); have hc6 := (bcell hb1).1 g (k * 11 + 6) (by simpa using hgl); have hc7 := (bcell hb1).1 g (k * 11 + 7) (by simpa using hgl); have hc8 := (bcell hb1).1 g (k * 11 + 8) (by simpa using hgl); have hc9 := (bcell hb1).1 g (k * 11 + 9) (by simpa using hgl); have hc10 := (bcell hb1).1 g (k * 11 + 10) (by simpa using hgl); have hgl1 := Nat.lt_of_lt_of_le hgl (show wr.heap.size ≤ w1.heap.size by have := hb1.size; simpa using this); clear hb1)
      all_goals
        go_wp2_with fail
        go_region_with (go_at_call 30; refine (unhide HMU _ _ (by omega)).mono ?_; rintro e w2 ⟨rfl, hb2⟩; have HBL2 := hide ((unhide HBL1).trans (((Below.refl _ _).drew.trans hb2).mono (unhide HBL1).size)); have hd0 := (bcell hb2).1 g (k * 11) (by simpa using hgl1); have hd1 := (bcell hb2).1 g (k * 11 + 1) (by simpa using hgl1); have hd2 := (bcell hb2).1 g (k * 11 + 2) (by simpa using hgl1); have hd3 := (bcell hb2).1 g (k * 11 + 3) (by simpa using hgl1); have hd4 := (bcell hb2).1 g (k * 11 + 4) (by simpa using hgl1); have hd5 := (bcell hb2).1 g (k * 11 + 5) (by simpa using hgl1); have hd6 := (bcell hb2).1 g (k * 11 + 6) (by simpa using hgl1); have hd7 := (bcell hb2).1 g (k * 11 + 7) (by simpa using hgl1); have hd8 := (bcell hb2).1 g (k * 11 + 8) (by simpa using hgl1); have hd9 := (bcell hb2).1 g (k * 11 + 9) (by simpa using hgl1); have hd10 := (bcell hb2).1 g (k * 11 + 10) (by simpa using hgl1); clear hb2)
        all_goals
          go_wp2_with fail
          go_roundw
          case rel => exact ⟨k + 1, m + 11, by omega, by go_num, by go_num, by have := unhide HM; omega, unhide HBL2⟩
          case measure => simp [intOf]; omega
    · have hke : k = l.length := by omega
      subst hke
      have hnlt : decide ((l.length : Int) < (l.length : Int)) = false := by simp
      clear hm
      go_wp2_with fail
      go_ret
      exact ⟨ret_int (by have := unhide HM; omega), unhide HBL⟩
end Go.Proofs.YtiinpdkgnflmeaaDoor
namespace Go.Proofs.YtiinpdkgnflmeaaDoor
open Go.RowKit
open Mth

theorem run_append_where {P : Program} (w : World) (base : Nat) (t ty e : TypeId) (i : TypeInfo) (z : Value) (size bytes : Nat) (ht : P.underlying t = some (.slice e)) (hi : P.info? e = some i) (hz : i.zero = some z)
    (hsize : i.size = size) (hby : i.bytes = bytes) (hzs : z.cells.size = size) (hsz : 0 < size)
    (v : Value) (n : Nat) (xs : List Value) (hown : w.ownsRow base e size v n xs)
    (a : Addr) (m c : Nat) (news : List Value) (hl : news.length = m * size) (hnews : ∀ j u, news[j]? = some u → w.cell? (a.add j) = some u) (h1 : ∀ u ∈ news, u.oneCell' = true)
    (h63 : n + m ≤ maxLen) (hbytes : (n + m) * bytes ≤ 140737488355328) (hbase : base ≤ w.heap.size) :
    ∃ v' w', (Builtin.append_ #[t, t] ty #[v, .slice (some a) m c]).run P w = .ok v' w' ∧ w'.ownsRow base e size v' (n + m) (xs ++ news) ∧ w.grownBy w' v.ownBlock ∧
      ∀ x, v'.ownBlock = some x → v.ownBlock = some x ∨ w.heap.size ≤ x := by
  obtain ⟨v', w', hr, ho, hg, _⟩ := run_append_own w base t ty e i z size bytes ht hi hz hsize hby hzs hsz v n xs hown a m c news hl hnews h1 h63 hbytes hbase
  refine ⟨v', w', hr, ho, hg, fun x hx => ?_⟩
  have hsmall : n + m ≤ 9223372036854775807 := by simp only [maxLen] at h63; omega
  rcases hown.2 with ⟨rfl, rfl⟩ | ⟨g, cap, cur, rfl, hbg, hgg, hnc, hcm, hcs, htake⟩
  · have hxs : xs = [] := List.eq_nil_of_length_eq_zero (by simpa using hown.1)
    subst hxs
    obtain ⟨v2, w2, hr2, ho2, _, _⟩ := run_append_own w w.heap.size t ty e i z size bytes ht hi hz hsize hby hzs hsz (.slice none 0 0) 0 [] (World.ownsRow_nil w _ e size) a m c news hl hnews h1 h63 hbytes (Nat.le_refl _)
    have he := hr.symm.trans hr2
    simp only [Result.ok.injEq] at he
    obtain ⟨rfl, rfl⟩ := he
    exact .inr (ho2.lt x hx).1
  · subst hsize
    subst hby
    by_cases hroom : n + m ≤ cap
    · have hfit : n * i.size + news.length ≤ cur.size := by rw [hl, hcs, ← Nat.add_mul]; exact Nat.mul_le_mul_right _ hroom
      have hr2 := run_append_room (P := P) w t ty e i ht hi g n cap cur hgg a m c news hl hnews h1 hroom hfit
      have he := hr.symm.trans hr2
      simp only [Result.ok.injEq] at he
      obtain ⟨rfl, _⟩ := he
      exact .inl hx
    · have holds : ∀ j u, xs[j]? = some u → w.cell? ((⟨g, 0, none⟩ : Addr).add j) = some u := hown.cells (g := g) rfl
      have hr2 := run_append_grow (P := P) w t ty e i z ht hi hz ⟨g, 0, none⟩ n cap xs hown.1 holds a m c news hl hnews (by omega) (by omega) (growslice_fits (by omega) hbytes)
      have he := hr.symm.trans hr2
      simp only [Result.ok.injEq] at he
      obtain ⟨rfl, _⟩ := he
      have : w.heap.size = x := by simpa [Value.ownBlock] using hx
      exact .inr (by omega)
theorem wp_append_where {P : Program} (w : World) {o : Oper} {a : Act} {K : Act → World → Prop} {Q : Exit → Act → World → Prop} (s x : Operand) (t : TypeId)
    (ho : o.op = .call { callee := .builtin .append, args := #[s, x], argTypes := #[t, t] })
    (base : Nat) (e : TypeId) (i : TypeInfo) (z : Value) (size bytes : Nat) (ht : P.underlying t = some (.slice e)) (hi : P.info? e = some i) (hz : i.zero = some z)
    (hsize : i.size = size) (hby : i.bytes = bytes) (hzs : z.cells.size = size) (hsz : 0 < size)
    (v : Value) (n : Nat) (xs : List Value) (hs : a.eval s = v) (hown : w.ownsRow base e size v n xs)
    (ad : Addr) (m c : Nat) (news : List Value) (hx : a.eval x = .slice (some ad) m c) (hl : news.length = m * size) (hnews : ∀ j u, news[j]? = some u → w.cell? (ad.add j) = some u) (h1 : ∀ u ∈ news, u.oneCell' = true)
    (h63 : n + m ≤ maxLen) (hbytes : (n + m) * bytes ≤ 140737488355328) (hbase : base ≤ w.heap.size)
    (h : ∀ v' w', w'.ownsRow base e size v' (n + m) (xs ++ news) → w.grownBy w' v.ownBlock → (∀ x, v'.ownBlock = some x → v.ownBlock = some x ∨ w.heap.size ≤ x) → K (a.put o.dst v') w') : o.wp P a w K Q := by
  obtain ⟨v', w', hr, h2, h3, h4⟩ := run_append_where w base t o.type e i z size bytes ht hi hz hsize hby hzs hsz v n xs hown ad m c news hl hnews h1 h63 hbytes hbase
  exact Lib.wp_append_run w s x t t ho _ _ hs hx v' w' hr (h v' w' h2 h3 h4)
end Go.Proofs.YtiinpdkgnflmeaaDoor
namespace Go.Proofs.YtiinpdkgnflmeaaDoor
open Go.RowKit

section
variable {P : Program} {ops : Array Oper} {Q : Exit → Act → World → Prop} {md : Region.Mode} {E : Nat}

/-- What an operation waits for. -/
def depsOf (md : Region.Mode) (ops : Array Oper) (j : Nat) : List Nat := match ops[j]? with
  | some o => (o.after.toList.filter (fun e => Region.binds md e)).map (fun e => e.on)
  | none => []
def ancS (md : Region.Mode) (ops : Array Oper) (S : List Nat) : List Nat := (S ++ S.flatMap (depsOf md ops)).eraseDups
/-- All that must have come ahead of it. -/
def anc (md : Region.Mode) (ops : Array Oper) (E : Nat) : Nat → List Nat
  | 0 => depsOf md ops E
  | n + 1 => ancS md ops (anc md ops E n)
def ClosedL (md : Region.Mode) (ops : Array Oper) (L : Array Bool) : Prop := ∀ j oj, ops[j]? = some oj → L.getD j false = true → ∀ e ∈ oj.after, Region.binds md e = true → L.getD e.on false = true
def closedB (md : Region.Mode) (ops : Array Oper) (L : Array Bool) : Bool := (List.range ops.size).all fun j => !(L.getD j false) || (depsOf md ops j).all (fun k => L.getD k false)
theorem mem_depsOf {j : Nat} {oj : Oper} (hj : ops[j]? = some oj) {k : Nat} : k ∈ depsOf md ops j ↔ ∃ e ∈ oj.after, Region.binds md e = true ∧ e.on = k := by
  unfold depsOf
  rw [hj]
  simp only [List.mem_map, List.mem_filter, Array.mem_toList_iff]
  constructor
  · rintro ⟨e, ⟨h1, h2⟩, h3⟩; exact ⟨e, h1, h2, h3⟩
  · rintro ⟨e, h1, h2, h3⟩; exact ⟨e, ⟨h1, h2⟩, h3⟩
theorem closedB_spec {L : Array Bool} (h : closedB md ops L = true) : ClosedL md ops L := by
  intro j oj hj hl e he hb
  unfold closedB at h
  rw [List.all_eq_true] at h
  have hjs : j < ops.size := by
    rcases Nat.lt_or_ge j ops.size with h' | h'
    · exact h'
    · rw [Array.getElem?_eq_none h'] at hj; cases hj
  have h1 := h j (List.mem_range.2 hjs)
  rw [hl] at h1
  simp only [Bool.not_true, Bool.false_or, List.all_eq_true] at h1
  exact h1 e.on ((mem_depsOf hj).2 ⟨e, he, hb, rfl⟩)
theorem anc_listed {L : Array Bool} (hc : ClosedL md ops L) (hE : E ∈ Region.ready md ops L) : ∀ n, ∀ k ∈ anc md ops E n, L.getD k false = true := by
  obtain ⟨_, o, ho, hall⟩ := mem_ready.1 hE
  intro n
  induction n with
  | zero =>
    intro k hk
    obtain ⟨e, he, hb, rfl⟩ := (mem_depsOf ho).1 hk
    exact hall e he hb
  | succ n ih =>
    intro k hk
    have hk' : k ∈ (anc md ops E n ++ (anc md ops E n).flatMap (depsOf md ops)).eraseDups := hk
    rw [List.mem_eraseDups, List.mem_append, List.mem_flatMap] at hk'
    rcases hk' with h | ⟨d, hd, hkd⟩
    · exact ih k h
    · cases hod : ops[d]? with
      | none => unfold depsOf at hkd; rw [hod] at hkd; cases hkd
      | some od =>
        obtain ⟨e, he, hb, rfl⟩ := (mem_depsOf hod).1 hkd
        exact hc d od hod (ih d hd) e he hb
theorem closed_set {L : Array Bool} {j : Nat} (hc : ClosedL md ops L) (hj : j ∈ Region.ready md ops L) : ClosedL md ops (L.setIfInBounds j true) := by
  obtain ⟨_, o, ho, hall⟩ := mem_ready.1 hj
  intro k ok hk hl e he hb
  by_cases hjk : j = k
  · subst hjk
    obtain rfl := Option.some.inj (ho.symm.trans hk)
    exact getD_set_true (hall e he hb)
  · rw [getD_set_ne false hjk] at hl
    exact getD_set_true (hc k ok hk hl e he hb)

def wpMixE (P : Program) (md : Region.Mode) (ops : Array Oper) (Q : Exit → Act → World → Prop) (E : Nat) : Nat → Array Bool → Act → World → Prop
  | 0, listed, a, w => Region.ready md ops listed = [] ∧ ∀ x, Ge w x → Q .normal a x
  | fuel + 1, listed, a, w => (Region.ready md ops listed = [E] ∧ ∀ x, Ge w x → wpAny P md ops Q (fuel + 1) listed a x) ∨
      ∀ x, Ge w x → (Region.ready md ops listed = [] → Q .normal a x) ∧ ∀ i ∈ Region.ready md ops listed, wpOp P ops Q i (fun a' y => Ge x y ∧ wpMixE P md ops Q E fuel (listed.setIfInBounds i true) a' y) a x

theorem wpMixE_grow {fuel : Nat} {listed : Array Bool} {a : Act} {w x : World} (hx : Ge w x) (h : wpMixE P md ops Q E fuel listed a w) : wpMixE P md ops Q E fuel listed a x := by
  cases fuel with
  | zero => exact ⟨h.1, fun y hy => h.2 y (Ge.trans hx hy)⟩
  | succ fuel =>
    rcases h with ⟨h1, h2⟩ | h
    · exact .inl ⟨h1, fun y hy => h2 y (Ge.trans hx hy)⟩
    · exact .inr fun y hy => h y (Ge.trans hx hy)
theorem wpAny_of_mixE : ∀ (fuel : Nat) (listed : Array Bool) (a : Act) (w : World), wpMixE P md ops Q E fuel listed a w → wpAny P md ops Q fuel listed a w
  | 0, _, _, w, h => ⟨h.1, h.2 w (Below.refl _ _)⟩
  | _ + 1, _, _, w, .inl h => h.2 w (Below.refl _ _)
  | fuel + 1, _, _, w, .inr h => ⟨(h w (Below.refl _ _)).1, fun i hi => wpOp_mono (fun a' y hy => wpAny_of_mixE fuel _ a' y hy.2) ((h w (Below.refl _ _)).2 i hi)⟩

theorem wpMixE_first {i : Nat} {oi : Oper} {v : Value} (n : Nat) (hi : ops[i]? = some oi) (hE : i ∈ anc md ops E n) (hsel : ∀ (j : Nat) (o : Oper) cs b, ops[j]? = some o → o.op ≠ .select cs b) (hQ : ∀ c a w, Q (.panic c) (a.put oi.dst v) w → Q (.panic c) a w) :
    ∀ (fuel : Nat) (listed : Array Bool) (a : Act) (w : World), ClosedL md ops listed →
      (∀ j oj, ops[j]? = some oj → j ≠ i → listed.getD j true = false → (∀ e ∈ oj.after, Region.binds md e = true → e.on ≠ i) → oi.apart ops oj = true) →
      i ∈ Region.ready md ops listed → YieldsG P ops oi v a w → wpMixE P md ops Q E fuel (listed.setIfInBounds i true) (a.put oi.dst v) w → wpMixE P md ops Q E (fuel + 1) listed a w := by
  intro fuel
  induction fuel with
  | zero =>
    intro listed a w _ _ hr hy H
    refine .inr fun x hx => ⟨fun h => (by rw [h] at hr; cases hr), fun j hj => ?_⟩
    by_cases hji : j = i
    · subst hji
      exact hy.wpOp hi hx fun y hy' => ⟨hy', wpMixE_grow (Ge.trans hx hy') H⟩
    · have := ready_mono hj hji
      rw [H.1] at this
      cases this
  | succ fuel ih =>
    intro listed a w hcl hfree hr hy H
    refine .inr fun x hx => ⟨fun h => (by rw [h] at hr; cases hr), fun j hj => ?_⟩
    by_cases hji : j = i
    · subst hji
      exact hy.wpOp hi hx fun y hy' => ⟨hy', wpMixE_grow (Ge.trans hx hy') H⟩
    · rcases H with ⟨h1, _⟩ | H
      · exfalso
        have h2 := ready_mono hj hji
        rw [h1] at h2
        obtain rfl : j = E := by simpa using h2
        have h3 := anc_listed hcl hj n i hE
        have h4 := (mem_ready.1 hr).1
        rcases Nat.lt_or_ge i listed.size with h' | h'
        · simp [h'] at h3 h4; rw [h4] at h3; cases h3
        · simp [Array.getElem?_eq_none h'] at h3
      · have h1 := (H x hx).2 j (ready_mono hj hji)
        obtain ⟨hjun, oj, hoj, hall⟩ := mem_ready.1 hj
        have hnot : ∀ e ∈ oj.after, Region.binds md e = true → e.on ≠ i := fun e he hb heq => by
          have h2 := hall e he hb
          have h0 := (mem_ready.1 hr).1
          rw [heq] at h2
          rcases Nat.lt_or_ge i listed.size with h' | h'
          · simp [h'] at h0 h2; rw [h0] at h2; cases h2
          · simp [Array.getElem?_eq_none h'] at h2
        have h2 := wpOp_past hoj (hfree j oj hoj hji hjun hnot) (fun cs b => hsel i oi cs b hi) (fun cs b => hsel j oj cs b hoj) hQ h1
        refine wpOp_mono (fun a' y hy2 => ?_) h2
        obtain ⟨⟨hs1, hs2⟩, hg, hm⟩ := hy2
        refine ⟨hg, ih (listed.setIfInBounds j true) a' y (closed_set hcl hj) ?_ (ready_mono hr (Ne.symm hji)) ?_ ?_⟩
        · intro k ok hk hki hun hno
          refine hfree k ok hk hki ?_ hno
          by_cases hjk : j = k
          · subst hjk; exact hjun
          · rw [getD_set_ne true hjk] at hun; exact hun
        · unfold YieldsG at *
          rw [hs1, hs2]
          exact hy.imp (fun ⟨p, q⟩ => ⟨p, fun z hz => q z (Ge.trans (Ge.trans hx hg) hz)⟩) id
        · rw [Array.setIfInBounds_comm _ _ hji]
          exact hm

/-- Take number i first: it must have come ahead of E in every order. -/
theorem wpMixE_take (i n : Nat) {oi : Oper} {fuel : Nat} {listed : Array Bool} {a : Act} {w : World} (hi : ops[i]? = some oi) (hs : Region.noSelect ops = true) (hf : Region.free md ops listed i = true) (hr : (Region.ready md ops listed).contains i = true)
    (hcl : closedB md ops listed = true) (hE : (anc md ops E n).contains i = true)
    (hQ : ∀ v c a w, Q (.panic c) (a.put oi.dst v) w → Q (.panic c) a w)
    (h : ∀ K : Act → Prop, (∀ a', wpMixE P md ops Q E fuel (listed.setIfInBounds i true) a' w → K a') → if Region.wanted oi (yielded ops a.tmps) then ∃ v, (∀ p : Regrown, Oper.quietUpon P (Ge (Gr w p)) (Gr w p) v ((execOp a.eval oi).run P (Gr w p))) ∧ K (a.put oi.dst v) else K (a.put oi.dst undef)) :
    wpMixE P md ops Q E (fuel + 1) listed a w := by
  have h' := h _ fun _ h => h
  have hE' : i ∈ anc md ops E n := by simpa using hE
  by_cases hw : Region.wanted oi (yielded ops a.tmps) = true
  · rw [if_pos hw] at h'
    obtain ⟨v, hv, hk⟩ := h'
    refine wpMixE_first n hi hE' (Region.noSelect_spec hs) (hQ v) fuel listed a w (closedB_spec hcl) (Region.free_spec hi hf) (by simpa using hr) (.inl ⟨hw, fun x hx => ?_⟩) hk
    obtain ⟨p, rfl⟩ := regrown_of_below hx
    exact hv p
  · rw [if_neg hw] at h'
    exact wpMixE_first n hi hE' (Region.noSelect_spec hs) (hQ undef) fuel listed a w (closedB_spec hcl) (Region.free_spec hi hf) (by simpa using hr) (.inr ⟨by simpa using hw, rfl⟩) h'
/-- Number i alone may come up, and makes memory alone. -/
theorem wpMixE_one (i : Nat) {oi : Oper} {fuel : Nat} {listed : Array Bool} {a : Act} {w : World} (hi : ops[i]? = some oi) (hr : Region.ready md ops listed = [i]) (hw : Region.wanted oi (yielded ops a.tmps) = true)
    (h : ∀ x, Ge w x → oi.wp P a x (fun a' y => Ge x y ∧ wpMixE P md ops Q E fuel (listed.setIfInBounds i true) a' y) Q) : wpMixE P md ops Q E (fuel + 1) listed a w := by
  refine .inr fun x hx => ?_
  rw [hr]
  refine ⟨fun h => (by cases h), fun j hj => ?_⟩
  obtain rfl : j = i := by simpa using hj
  unfold wpOp
  simp only [hi]
  rw [if_pos hw]
  exact .inl (h x hx)
/-- Two may come up, each makes memory alone. -/
theorem wpMixE_two (i j : Nat) {oi oj : Oper} {fuel : Nat} {listed : Array Bool} {a : Act} {w : World} (hi : ops[i]? = some oi) (hj : ops[j]? = some oj) (hr : Region.ready md ops listed = [i, j]) (hwi : Region.wanted oi (yielded ops a.tmps) = true) (hwj : Region.wanted oj (yielded ops a.tmps) = true)
    (h1 : ∀ x, Ge w x → oi.wp P a x (fun a' y => Ge x y ∧ wpMixE P md ops Q E fuel (listed.setIfInBounds i true) a' y) Q)
    (h2 : ∀ x, Ge w x → oj.wp P a x (fun a' y => Ge x y ∧ wpMixE P md ops Q E fuel (listed.setIfInBounds j true) a' y) Q) : wpMixE P md ops Q E (fuel + 1) listed a w := by
  refine .inr fun x hx => ?_
  rw [hr]
  refine ⟨fun h => (by cases h), fun k hk => ?_⟩
  have hk' : k = i ∨ k = j := by simpa using hk
  rcases hk' with rfl | rfl
  · unfold wpOp
    simp only [hi]
    rw [if_pos hwi]
    exact .inl (h1 x hx)
  · unfold wpOp
    simp only [hj]
    rw [if_pos hwj]
    exact .inl (h2 x hx)
/-- From here on as it comes: E alone may come up. -/
theorem wpMixE_leave {fuel : Nat} {listed : Array Bool} {a : Act} {w : World} (hr : Region.ready md ops listed = [E]) (h : ∀ x, Ge w x → wpAny P md ops Q (fuel + 1) listed a x) : wpMixE P md ops Q E (fuel + 1) listed a w := .inl ⟨hr, h⟩
theorem wpAny_one (i : Nat) {oi : Oper} {fuel : Nat} {listed : Array Bool} {a : Act} {w : World} (hi : ops[i]? = some oi) (hr : Region.ready md ops listed = [i]) (hw : Region.wanted oi (yielded ops a.tmps) = true)
    (h : oi.wp P a w (wpAny P md ops Q fuel (listed.setIfInBounds i true)) Q) : wpAny P md ops Q (fuel + 1) listed a w := by
  refine ⟨fun h => (by rw [hr] at h; cases h), fun j hj => ?_⟩
  rw [hr] at hj
  obtain rfl : j = i := by simpa using hj
  unfold wpOp
  simp only [hi]
  rw [if_pos hw]
  exact .inl h
theorem wpAny_done {listed : Array Bool} {a : Act} {w : World} (hr : Region.ready md ops listed = []) (h : Q .normal a w) : wpAny P md ops Q 0 listed a w := ⟨hr, h⟩
/-- What yields one value in whatever world is taken first. -/
theorem wpAny_pure (i : Nat) {oi : Oper} {fuel : Nat} {listed : Array Bool} {a : Act} {w : World} (hi : ops[i]? = some oi) (hs : Region.noSelect ops = true) (hf : Region.free md ops listed i = true) (hr : (Region.ready md ops listed).contains i = true)
    (hQ : ∀ v c a w, Q (.panic c) (a.put oi.dst v) w → Q (.panic c) a w)
    (h : ∀ K : Act → Prop, (∀ a', wpAny P md ops Q fuel (listed.setIfInBounds i true) a' w → K a') → if Region.wanted oi (yielded ops a.tmps) then ∃ v, (∀ x : World, (execOp a.eval oi).run P x = .ok (.value v) x) ∧ K (a.put oi.dst v) else K (a.put oi.dst undef)) :
    wpAny P md ops Q (fuel + 1) listed a w := by
  have h' := h _ fun _ h => h
  by_cases hw : Region.wanted oi (yielded ops a.tmps) = true
  · rw [if_pos hw] at h'
    obtain ⟨v, hv, hk⟩ := h'
    exact wpAny_take hi hs hf hr (hQ v) (.inl ⟨hw, hv⟩) hk
  · rw [if_neg hw] at h'
    exact wpAny_take hi hs hf hr (hQ undef) (.inr ⟨by simpa using hw, rfl⟩) h'
/-- Whatever order is picked, in this world and in every one that has grown out of it. -/
def wpAnyG (P : Program) (md : Region.Mode) (ops : Array Oper) (Q : Exit → Act → World → Prop) (fuel : Nat) (listed : Array Bool) (a : Act) (w : World) : Prop := ∀ x, Ge w x → wpAny P md ops Q fuel listed a x
theorem wpAnyG_pure (i : Nat) {oi : Oper} {fuel : Nat} {listed : Array Bool} {a : Act} {w : World} (hi : ops[i]? = some oi) (hs : Region.noSelect ops = true) (hf : Region.free md ops listed i = true) (hr : (Region.ready md ops listed).contains i = true)
    (hQ : ∀ v c a w, Q (.panic c) (a.put oi.dst v) w → Q (.panic c) a w)
    (h : ∀ K : Act → Prop, (∀ a', wpAnyG P md ops Q fuel (listed.setIfInBounds i true) a' w → K a') → if Region.wanted oi (yielded ops a.tmps) then ∃ v, (∀ x : World, (execOp a.eval oi).run P x = .ok (.value v) x) ∧ K (a.put oi.dst v) else K (a.put oi.dst undef)) :
    wpAnyG P md ops Q (fuel + 1) listed a w := by
  have h' := h _ fun _ h => h
  intro x hx
  by_cases hw : Region.wanted oi (yielded ops a.tmps) = true
  · rw [if_pos hw] at h'
    obtain ⟨v, hv, hk⟩ := h'
    exact wpAny_take hi hs hf hr (hQ v) (.inl ⟨hw, hv⟩) (hk x hx)
  · rw [if_neg hw] at h'
    exact wpAny_take hi hs hf hr (hQ undef) (.inr ⟨by simpa using hw, rfl⟩) (h' x hx)
theorem wpAnyG_mixE (E : Nat) {fuel : Nat} {listed : Array Bool} {a : Act} {w : World} (h : wpMixE P md ops Q E fuel listed a w) : wpAnyG P md ops Q fuel listed a w := fun _ hx => wpAny_of_mixE _ _ _ _ (wpMixE_grow hx h)
theorem wp_region_anyG {id : Nat} {a : Act} {w : World} (hm : P.follows .mixedOrders = true) (h : wpAnyG P .any ops Q ops.size (Array.replicate ops.size false) a w) : (Code.region id ops true).wp P Q a w :=
  wp_region_any hm (h { w with drawn := w.drawn + 1 } ⟨rfl, rfl, rfl, Nat.le_refl _, fun _ _ => rfl⟩)
theorem wp_region_mixE (E : Nat) {id : Nat} {a : Act} {w : World} (hm : P.follows .mixedOrders = true) (h : wpMixE P .any ops Q E ops.size (Array.replicate ops.size false) a w) : (Code.region id ops true).wp P Q a w :=
  wp_region_any hm (wpAny_of_mixE _ _ _ _ (wpMixE_grow (w := w) (x := { w with drawn := w.drawn + 1 }) ⟨rfl, rfl, rfl, Nat.le_refl _, fun _ _ => rfl⟩ h))
end
end Go.Proofs.YtiinpdkgnflmeaaDoor
namespace Go.Proofs.YtiinpdkgnflmeaaDoor
open Go.RowKit
open Mth

theorem infoOp : (Tryd.prog.info? 25).map (fun i => (i.zero, i.size, i.bytes)) = some (some (.agg #[.int .i64 0, .int .i64 0, .string ByteArray.empty, .int .i64 0, .int .i64 0, .int .i64 0, .int .i64 0, .int .i64 0, .int .i64 0, .string ByteArray.empty, .int .i64 0]), 11, 104) := by kernel_rfl
theorem setB {w : World} {c : Nat} {cs : Array Value} {t : TypeId} (h : w.heap[c]? = some (.cells cs t (0, 0))) (i : Nat) (v : Value) : (w.setCell ⟨c, i, none⟩ v).heap[c]? = some (.cells (cs.setIfInBounds i v) t (0, 0)) := by
  unfold World.setCell
  simp only [Array.getElem?_modify]
  rw [if_pos trivial, h]
  rfl
theorem freeB {w : World} {g : Nat} {cs : Array Value} {t : TypeId} (h : w.heap[g]? = some (.cells cs t (0, 0))) (i : Nat) : w.frozen? ⟨g, i, none⟩ = false := by
  unfold World.frozen?; rw [h]; simp
theorem twoC {w : World} {g : Nat} {v0 v1 : Value} {t : TypeId} (h : w.heap[g]? = some (.cells #[v0, v1] t (0, 0))) : w.cell? ⟨g, 0, none⟩ = some v0 ∧ w.cell? ⟨g, 1, none⟩ = some v1 := by
  have hc : ∀ i, w.cell? ⟨g, i, none⟩ = #[v0, v1][i]? := fun i => cell_of_row w g i _ t (0, 0) h
  exact ⟨hc 0, hc 1⟩
/-- So far L was found, behind it is place a; the bytes lie in block g, the finder is block fb. -/
structure FS (w0 w : World) (fb g : Nat) (s : ByteArray) (v : Value) (L : List Op5) (a : Nat) : Prop where
  keep : Keep1 fb w0 w
  blk : w.heap[fb]? = some (.cells #[v, .int .i64 a] 55 (0, 0))
  own : w.ownsRow (g + 1) 25 11 v L.length (GR.flat encO L)
  by_ : BytesAt w g s
  lo : fb < w0.heap.size
  gl : w0.heap.size ≤ g ∧ g < w.heap.size
theorem FS.step {w0 w w' : World} {fb g : Nat} {s : ByteArray} {v : Value} {L : List Op5} {a : Nat} (h : FS w0 w fb g s v L a) (hb : Below w.heap.size w w') : FS w0 w' fb g s v L a :=
  ⟨h.keep.trans (Keep1.of_below hb), blk_step h.blk hb, own_below h.own hb, h.by_.below h.gl.2 hb, h.lo, h.gl.1, Nat.lt_of_lt_of_le h.gl.2 hb.size⟩
theorem FS.app {w0 w w6 : World} {fb g : Nat} {s : ByteArray} {v v' : Value} {L : List Op5} {a : Nat} (h : FS w0 w fb g s v L a) (o : Op5)
    (hown : w6.ownsRow (g + 1) 25 11 v' (L.length + 1) (GR.flat encO L ++ encO o)) (hg : w.grownBy w6 v.ownBlock) :
    w6.heap[fb]? = some (.cells #[v, .int .i64 a] 55 (0, 0)) ∧ ∀ z : Nat, FS w0 ((w6.setCell ⟨fb, 0, none⟩ v').setCell ⟨fb, 1, none⟩ (.int .i64 z)) fb g s v' (L ++ [o]) z := by
  have hlt : ∀ x, v.ownBlock = some x → g + 1 ≤ x := fun x hx => (h.own.lt x hx).1
  have hgl := h.gl
  have hlo := h.lo
  have hb : w6.heap[fb]? = some (.cells #[v, .int .i64 a] 55 (0, 0)) := by
    rw [hg.block fb (blk_lt h.blk) (fun e => by have := hlt fb e.symm; omega)]
    exact h.blk
  have hbg : w6.heap[g]? = w.heap[g]? := hg.block g hgl.2 (fun e => by have := hlt g e.symm; omega)
  have h6 : Keep1 fb w0 w6 := ⟨hg.os.trans h.keep.os, hg.tape.trans h.keep.tape, hg.output.trans h.keep.output, Nat.le_trans h.keep.size hg.size, fun k hk hne => by
    rw [hg.block k (Nat.lt_of_lt_of_le hk h.keep.size) (fun e => by have := hlt k e.symm; omega)]
    exact h.keep.block k hk hne⟩
  have hby : BytesAt w6 g s := fun i hi => (World.cell?_of_block (w := w) hbg).trans (h.by_ i hi)
  have gr : ∀ (w1 : World) (i : Nat) (u : Value), w1.grownBy (w1.setCell ⟨fb, i, none⟩ u) (some fb) := fun w1 i u => ⟨rfl, rfl, rfl, by simp [World.setCell], fun k _ hne => Below.heap_setCell _ _ _ _ (fun e => hne (by rw [e]))⟩
  have hne : v'.ownBlock = none ∨ v'.ownBlock ≠ some fb := by
    right
    intro e
    have := (hown.lt fb e).1
    omega
  have st : ∀ (w1 : World) (i : Nat) (u : Value), BytesAt w1 g s → BytesAt (w1.setCell ⟨fb, i, none⟩ u) g s := fun w1 i u hw j hj => (World.cell?_setCell_other _ _ _ _ (by simp <;> omega)).trans (hw j hj)
  refine ⟨hb, fun z => ⟨(h6.trans (Keep1.set _)).trans (Keep1.set _), setB (setB hb 0 v') 1 (.int .i64 z), ?_, st _ _ _ (st _ _ _ hby), hlo, hgl.1, ?_⟩⟩
  · rw [List.length_append, flatO_snoc]
    exact (hown.kept (gr _ 0 v') hne).kept (gr _ 1 (.int .i64 z)) hne
  · have := hg.size
    simp [World.setCell]
    omega
/-- The place behind what was found, as it lies. -/
def endOf (w : World) (fb : Nat) : Nat := match w.cell? ⟨fb, 1, none⟩ with | some (.int _ z) => z.toNat | _ => 0
theorem FS.endOf {w0 w : World} {fb g : Nat} {s : ByteArray} {v : Value} {L : List Op5} {a : Nat} (h : FS w0 w fb g s v L a) : endOf w fb = a := by
  unfold Go.Proofs.YtiinpdkgnflmeaaDoor.endOf
  rw [(twoC h.blk).2]
  simp
/-- What is found in the end. -/
def Found (w w' : World) (fb : Nat) (s : ByteArray) : Prop := Keep1 fb w w' ∧ ∃ v, w'.heap[fb]? = some (.cells #[v, .int .i64 (rdAll s).2] 55 (0, 0)) ∧ w'.ownsRow (w.heap.size + 1) 25 11 v (rdAll s).1.length (GR.flat encO (rdAll s).1)
theorem FS.found {w0 w w' : World} {fb : Nat} {s : ByteArray} {v : Value} {L : List Op5} {a : Nat} (h : FS w0 w fb w0.heap.size s v L a) (hS : Sofar s a L) (hs : stB s a = false) (hb : Below w.heap.size w w') : Found w0 w' fb s := by
  have h2 := h.step hb
  refine ⟨h2.keep, v, ?_, ?_⟩
  · rw [sofar_end hS hs]; exact h2.blk
  · rw [sofar_end hS hs]; exact h2.own
theorem no_frame {s : ByteArray} {a : Nat} (h : ¬ faB s a) : stB s a = false ∧ faE s a = -1 := by
  unfold stB faE
  rw [decide_eq_false h, if_neg h]
  exact ⟨rfl, rfl⟩
set_option maxRecDepth 100000 in
set_option maxHeartbeats 4000000 in
theorem readAll (fb : Nat) (s : ByteArray) (hs : s.size ≤ 60000) (w : World) (hfb : fb < w.heap.size) (hne : fb ≠ 1) (hf : w.heap[fb]? = some (.cells #[.slice none 0 0, .int .i64 0] 55 (0, 0))) (hH : Handle w) :
    Calls Tryd.prog 29 #[.pointer (some ⟨fb, 0, none⟩), .string s] w fun e w' => (e = .returned (.tuple #[]) ∨ ∃ p, e = pnc p) ∧ Found w w' fb s := by
  obtain ⟨i0, hi, hz0, hz1, hz2⟩ := info_parts infoOp
  obtain ⟨cap, w1, hconv, hcap, hby, hlt1, hbel⟩ := conv_bytes s w
  have HF1 := hide (show FS w w1 fb w.heap.size s (.slice none 0 0) [] 0 from ⟨Keep1.of_below hbel, blk_step hf hbel, World.ownsRow_nil _ _ _ _, hby, hfb, Nat.le_refl _, hlt1⟩)
  have HH := hide hH
  have HS1 := hide (sofar_start s hs)
  clear hbel hby hf hH hlt1
  go_enter Tryd.func29, Tryd.ntmps29
  go_wp2_with fail
  go_loopw [] (fun wr => ∃ a v L, FS w wr fb w.heap.size s v L a ∧ Sofar s a L) (fun wr => s.size - endOf wr fb)
  case atStart => exact ⟨0, _, [], unhide HF1, unhide HS1⟩
  case round =>
    clear HF1 HS1 hconv
    obtain ⟨a, v, L, hF, hS⟩ := hrel
    have hcl := hF.lo
    have hbl := blk_lt hF.blk
    obtain ⟨va, vc, hv, _⟩ := GR.own_at (enc := encO) (sz := 11) (l := L) encO_length hF.own
    subst hv
    obtain ⟨c0, c1⟩ := twoC hF.blk
    have hea : endOf wr fb = a := hF.endOf
    have HF := hide hF
    have HEA := hide hea
    have HS := hide hS
    have ha := hS.2.1
    have HL := hide hS.1
    clear hF hS hea
    by_cases hlt : a < s.size
    case' neg =>
      have hnl : decide ((a : Int) < (s.size : Int)) = false := by simp; omega
      go_wp2_with fail
      exact bodyPost_end (v := .tuple #[]) (by simp [results, Tryd.results29, go_sem]) rfl ⟨.inl rfl, (unhide HF).found (unhide HS) (st_short (by omega)) (Below.refl _ _)⟩
    have hlI : (a : Int) < (s.size : Int) := by omega
    have HFA := hide (frameAt s hs a ha w.heap.size cap hcap wr (unhide HF).by_ (unhide HF).gl.2 ((unhide HH).keep1 (unhide HF).keep hfb hne))
    by_cases hfa : faB s a
    case' neg =>
      obtain ⟨hst, hE⟩ := no_frame hfa
      have HST := hide hst
      clear hst
      rw [hE] at HFA
      clear hE hfa
      generalize faT s a = TX at *
      go_wp2_with fail
      refine (unhide HFA).mono ?_
      rintro e w2 ⟨rfl, hb2⟩
      obtain ⟨d0, d1⟩ := twoC ((unhide HF).step hb2).blk
      have HB2 := hide hb2
      clear hb2 c0 c1
      go_wp2_with fail
      exact ⟨rfl, .inr ⟨_, rfl⟩, (unhide HF).found (unhide HS) (unhide HST) (unhide HB2)⟩
    have HFB := hide hfa
    have hE : faE s a = ((faE s a).toNat : Nat) := by
      have h1 := hfa.2.1
      have : faE s a = a + 4 + unZ (tl s a) := if_pos hfa
      omega
    have hE2 : (faE s a).toNat ≤ 100000 := by
      have h1 : faE s a = a + 4 + unZ (tl s a) := if_pos hfa
      have h2 := rtE_le (restOf (tl s a)) 0
      have h3 := rest_size (tl s a)
      unfold unZ at h1
      omega
    have hTX : (faT s a).size ≤ 1000 := by
      have h1 : faT s a = unT (tl s a) := if_pos hfa
      rw [h1]
      exact rtS_size _ _
    have HO := hide (fun w1 h => opIn (faT s a) w1 (Nat.le_trans hTX (by unfold maxLen; omega)) h)
    have HY := hide (show gopB (faT s a) = true → stB s a = true from fun h => by unfold stB; rw [decide_eq_true hfa, h]; rfl)
    have HN := hide (show gopB (faT s a) = false → stB s a = false from fun h => by unfold stB; rw [h, Bool.and_false])
    have HNX := hide (show stB s a = true → Sofar s (faE s a).toNat (L ++ [opC (faT s a)]) from fun h => sofar_step (unhide HS) h)
    have HGT := hide (show stB s a = true → a < (faE s a).toNat ∧ (faE s a).toNat ≤ s.size from fun h => by obtain ⟨_, _, _, h4, h5, _⟩ := st_parts h; omega)
    clear hTX hfa HFB
    rw [hE] at HFA
    clear hE
    generalize (faE s a).toNat = z at *
    generalize gopB (faT s a) = OK at *
    generalize hoc : opC (faT s a) = oc at *
    clear hoc
    generalize faT s a = TX at *
    obtain ⟨K, no, k, n, ⟨mK, mF, mT, mI, mL, mk, mN⟩⟩ := oc
    go_wp2_with fail
    refine (unhide HFA).mono ?_
    rintro e w2 ⟨rfl, hb2⟩
    have HF2 := hide ((unhide HF).step hb2)
    clear hb2 c0 c1 HFA
    go_upto_region 5 with fail
    refine wp_at (fun W hW => ?_)
    obtain rfl := hW
    have hbl2 := blk_lt (unhide HF2).blk
    obtain ⟨c0, c1⟩ := twoC (unhide HF2).blk
    have y0 := cell_regrown c0
    clear c0 c1
    refine wp_region_anyG (by kernel_rfl) ?_
    show wpAnyG _ _ _ _ 12 (Array.replicate 12 false) _ _
    refine wpAnyG_pure 0 rfl (by kernel_rfl) (by kernel_rfl) (by kernel_rfl) (fun _ _ _ _ h => h) (fun K hK => ?_)
    go_simp
    first
      | (refine hK _ ?_; clear hK K)
      | (apply Exists.intro
         refine ⟨fun _ => rfl, hK _ ?_⟩
         clear hK K)
    refine wpAnyG_mixE 8 ?_
    refine wpMixE_take 1 20 rfl (by kernel_rfl) (by kernel_rfl) (by kernel_rfl) (by kernel_rfl) (by kernel_rfl) (fun _ _ _ _ h => h) (fun K hK => ?_)
    go_simp
    first
      | (refine hK _ ?_; clear hK K)
      | (apply Exists.intro
         refine ⟨fun _ => ?_, hK _ ?_⟩
         (fail)
         clear hK K)
    refine wpMixE_take 2 20 rfl (by kernel_rfl) (by kernel_rfl) (by kernel_rfl) (by kernel_rfl) (by kernel_rfl) (fun _ _ _ _ h => h) (fun K hK => ?_)
    go_simp
    first
      | (refine hK _ ?_; clear hK K)
      | (apply Exists.intro
         refine ⟨fun _ => ?_, hK _ ?_⟩
         (fail)
         clear hK K)
    refine wpMixE_take 3 20 rfl (by kernel_rfl) (by kernel_rfl) (by kernel_rfl) (by kernel_rfl) (by kernel_rfl) (fun _ _ _ _ h => h) (fun K hK => ?_)
    go_simp
    first
      | (refine hK _ ?_; clear hK K)
      | (apply Exists.intro
         refine ⟨fun _ => ?_, hK _ ?_⟩
         (fail)
         clear hK K)
    refine wpMixE_take 4 20 rfl (by kernel_rfl) (by kernel_rfl) (by kernel_rfl) (by kernel_rfl) (by kernel_rfl) (fun _ _ _ _ h => h) (fun K hK => ?_)
    go_simp
    first
      | (refine hK _ ?_; clear hK K)
      | (apply Exists.intro
         refine ⟨fun _ => ?_, hK _ ?_⟩
         (fail)
         clear hK K)
    refine wpMixE_take 5 20 rfl (by kernel_rfl) (by kernel_rfl) (by kernel_rfl) (by kernel_rfl) (by kernel_rfl) (fun _ _ _ _ h => h) (fun K hK => ?_)
    go_simp
    first
      | (refine hK _ ?_; clear hK K)
      | (apply Exists.intro
         refine ⟨fun _ => ?_, hK _ ?_⟩
         (fail)
         clear hK K)
    clear y0
    refine wpMixE_one 6 rfl (by kernel_rfl) (by rfl) (fun x hx => ?_)
    go_simp
    refine (unhide HO _ (((unhide HH).keep1 ((unhide HF2).step hx).keep hfb hne))).mono ?_
    rintro e y ⟨hcase, hby⟩
    have HFX := hide ((unhide HF2).step hx)
    clear hx
    rcases hcase with ⟨hyes, rfl⟩ | ⟨hno, p, rfl⟩
    case' inr =>
      have HST := hide (unhide HN hno)
      exact ⟨rfl, .inr ⟨_, rfl⟩, (unhide HFX).found (unhide HS) (unhide HST) hby⟩
    have HST := hide (unhide HY hyes)
    have HSN := hide (unhide HNX (unhide HST))
    obtain ⟨hz5, hz6⟩ := unhide HGT (unhide HST)
    clear hyes HY HN HNX HGT HO HF2
    refine ⟨hby, ?_⟩
    have HFY := hide ((unhide HFX).step hby)
    clear hby HFX
    refine wpMixE_one 7 rfl (by kernel_rfl) (by rfl) (fun x2 hx2 => ?_)
    go_simp
    refine ⟨below_one x2 _, ?_⟩
    have HFZ := hide (((unhide HFY).step hx2).step (below_one x2 (.cells #[.int .i64 K, .int .i64 no, .string k, .int .i64 n, .int .i64 mK, .int .i64 mF, .int .i64 mT, .int .i64 mI, .int .i64 mL, .string mk, .int .i64 mN] 25)))
    have HNZ := hide (heap_alloc_new x2 (.cells #[.int .i64 K, .int .i64 no, .string k, .int .i64 n, .int .i64 mK, .int .i64 mF, .int .i64 mT, .int .i64 mI, .int .i64 mL, .string mk, .int .i64 mN] 25))
    clear hx2 HFY
    generalize x2.alloc (.cells #[.int .i64 K, .int .i64 no, .string k, .int .i64 n, .int .i64 mK, .int .i64 mF, .int .i64 mT, .int .i64 mI, .int .i64 mL, .string mk, .int .i64 mN] 25) = y2 at *
    refine wpMixE_leave (by kernel_rfl) (fun u hu => ?_)
    have HFU := hide ((unhide HFZ).step hu)
    have HNU := hide (blk_step (unhide HNZ) hu)
    clear hu HFZ HNZ
    have hLl := unhide HL
    refine wpAny_one 8 rfl (by kernel_rfl) (by rfl) ?_
    refine wp_append_where u (.tmp 37) (.tmp 40) 30 rfl (w.heap.size + 1) 25 i0 (.agg #[.int .i64 0, .int .i64 0, .string ByteArray.empty, .int .i64 0, .int .i64 0, .int .i64 0, .int .i64 0, .int .i64 0, .int .i64 0, .string ByteArray.empty, .int .i64 0]) 11 104 Tryd.underlying30 hi hz0 hz1 hz2 rfl (by decide) (.slice va L.length vc) L.length (GR.flat encO L) (by simp [Act.eval]) (unhide HFU).own ⟨x2.heap.size, 0, none⟩ 1 1 (encO ⟨K, no, k, n, ⟨mK, mF, mT, mI, mL, mk, mN⟩⟩) (by simp [Act.eval]) rfl (World.news_of_block (unhide HNU)) (encO_one _) (by unfold maxLen; omega) (by omega) (by have := (unhide HFU).gl; omega) ?_
    intro v6 w6 hown6 hgr6 _
    obtain ⟨va6, vc6, hv6, _⟩ := GR.own_at (enc := encO) (sz := 11) (l := L ++ [⟨K, no, k, n, ⟨mK, mF, mT, mI, mL, mk, mN⟩⟩]) encO_length (by rw [List.length_append, flatO_snoc]; exact hown6)
    rw [List.length_append] at hv6
    have hv7 : v6 = .slice va6 (L.length + 1) vc6 := hv6
    subst hv7
    clear hv6
    obtain ⟨hb6, hF6⟩ := (unhide HFU).app ⟨K, no, k, n, ⟨mK, mF, mT, mI, mL, mk, mN⟩⟩ hown6 hgr6
    have HF6 := hide (hF6 z)
    obtain ⟨k0, k1⟩ := twoC hb6
    have kf0 := freeB hb6 0
    have kf1 := freeB hb6 1
    clear hown6 hgr6 hb6 hF6 HFU HNU
    refine wpAny_one 9 rfl (by kernel_rfl) (by rfl) ?_
    go_simp
    refine wpAny_one 10 rfl (by kernel_rfl) (by rfl) ?_
    go_simp
    refine wpAny_one 11 rfl (by kernel_rfl) (by rfl) ?_
    go_simp
    refine wpAny_done (by kernel_rfl) ?_
    go_simp
    go_wp2_with fail
    go_roundw
    case rel => exact ⟨z, _, _, unhide HF6, unhide HSN⟩
    case measure =>
      have h1 := unhide HEA
      have h2 := (unhide HF6).endOf
      rw [h1, h2]
      omega
end Go.Proofs.YtiinpdkgnflmeaaDoor
namespace Go.Proofs.YtiinpdkgnflmeaaDoor
open Go.RowKit
open Mth

theorem Found.step {w w1 w2 : World} {fb : Nat} {s : ByteArray} (h : Found w w1 fb s) (hb : Below w1.heap.size w1 w2) : Found w w2 fb s := by
  obtain ⟨hk, v, hv, ho⟩ := h
  exact ⟨hk.trans (Keep1.of_below hb), v, blk_step hv hb, own_below ho hb⟩
theorem own_lower {w : World} {B B' size n : Nat} {e : TypeId} {v : Value} {xs : List Value} (h : w.ownsRow B e size v n xs) (hB : B' ≤ B) : w.ownsRow B' e size v n xs := by
  refine ⟨h.1, ?_⟩
  rcases h.2 with hn | ⟨g, cap, cur, rfl, hb, rest⟩
  · exact .inl hn
  · exact .inr ⟨g, cap, cur, rfl, Nat.le_trans hB hb, rest⟩
set_option maxRecDepth 100000 in
theorem readClosure (a fb : Nat) (s : ByteArray) (hs : s.size ≤ 60000) (w : World) (hfb : fb < w.heap.size) (hne : fb ≠ 1) (hf : w.heap[fb]? = some (.cells #[.slice none 0 0, .int .i64 0] 55 (0, 0))) (hH : Handle w) (ha : w.cell? ⟨a, 0, none⟩ = some (.string s)) :
    Calls Tryd.prog 28 #[.pointer (some ⟨fb, 0, none⟩), .pointer (some ⟨a, 0, none⟩)] w fun e w' => (e = .returned (.tuple #[]) ∨ ∃ p, e = pnc p) ∧ Found w w' fb s := by
  have HR := hide (readAll fb s hs w hfb hne hf hH)
  clear hs hf hH
  go_enter Tryd.func28, Tryd.ntmps28
  go_wp2_with fail
  refine (unhide HR).mono ?_
  rintro e w1 ⟨hcase, hF⟩
  have HF := hide hF
  clear hF
  rcases hcase with rfl | ⟨p, rfl⟩
  · go_wp2_with fail
    exact bodyPost_end (v := .tuple #[]) (by simp [results, Tryd.results28, go_sem]) rfl ⟨.inl rfl, unhide HF⟩
  · go_wp2_with fail
    exact ⟨rfl, .inr ⟨_, rfl⟩, unhide HF⟩
set_option maxRecDepth 100000 in
set_option maxHeartbeats 2000000 in
theorem wasReadAll (a fb : Nat) (s : ByteArray) (hs : s.size ≤ 60000) (w : World) (hfb : fb < w.heap.size) (hne : fb ≠ 1) (hf : w.heap[fb]? = some (.cells #[.slice none 0 0, .int .i64 0] 55 (0, 0))) (hH : Handle w) (ha : w.cell? ⟨a, 0, none⟩ = some (.string s)) :
    Calls Tryd.prog 22 #[.func (.func 28) #[] #[.pointer (some ⟨fb, 0, none⟩), .pointer (some ⟨a, 0, none⟩)]] w fun e w' => (∃ b, e = .returned (.bool b)) ∧ Found w w' fb s := by
  have HC := hide (readClosure a fb s hs w hfb hne hf hH ha)
  clear hs hH ha hf
  have hdf : ∀ (fn : Fn) (first cap : Array Value) (w : World), (Instr.makeFunc fn first cap).run Tryd.prog w = .ok (.func fn first cap) w := fun _ _ _ _ => rfl
  go_enter_defers Tryd.func22, Tryd.ntmps22
  go_wp2_with fail
  refine (unhide HC).mono ?_
  rintro e w1 ⟨hcase, hF⟩
  have HF := hide hF
  clear hF HC
  rcases hcase with rfl | ⟨p, rfl⟩
  · go_wp2_with fail
    refine leaves_cons (f := 43) (args := #[]) (by simp) (by simp [go_sem]) ?_
    refine (catch_idle _).mono ?_
    rintro e u' w'' ⟨rfl, rfl, rfl⟩
    simp [Leaves, settle, results, Tryd.results22, go_sem]
    exact unhide HF
  · go_wp2_with fail
    refine leaves_cons (f := 43) (args := #[]) (by simp) (by simp [go_sem]) ?_
    refine (catch_pnc p [] _).mono ?_
    rintro e u' w'' ⟨rfl, rfl, hb⟩
    have HF2 := hide ((unhide HF).step hb)
    clear hb
    simp [Leaves, settle, results, Tryd.results22, go_sem]
    exact unhide HF2
/-- What Read answers. -/
def GivesO (w : World) (s : ByteArray) (e : Ending) (w' : World) : Prop := ∃ v, e = .returned (.tuple #[v, .int .i64 (rdAll s).2]) ∧ w'.ownsRow w.heap.size 25 11 v (rdAll s).1.length (GR.flat encO (rdAll s).1) ∧ Below w.heap.size w w'
theorem GivesO.step {w w1 w2 : World} {s : ByteArray} {e : Ending} (h : GivesO w s e w1) (hb : Below w1.heap.size w1 w2) : GivesO w s e w2 := by
  obtain ⟨v, he, ho, hB⟩ := h
  exact ⟨v, he, own_below ho hb, hB.trans (hb.mono hB.size)⟩
set_option maxRecDepth 100000 in
set_option maxHeartbeats 2000000 in
theorem implRead (s : ByteArray) (_hs : s.size ≤ maxLen) (w : World) (hH : Handle w) : Calls Tryd.prog 10 #[.string s] w (GivesO w s) := by
  by_cases hbig : 60000 < s.size
  · have hb1 : (60000 : Int) < (s.size : Int) := by omega
    have HP := hide (show GivesO w s (.returned (.tuple #[.slice none 0 0, .int .i64 0])) (w.alloc (.cells #[.string s] 9)) from by
      have e : rdAll s = ([], 0) := by unfold rdAll; rw [if_neg (by omega)]
      refine ⟨.slice none 0 0, ?_, ?_, below_one w _⟩
      · rw [e]; rfl
      · rw [e]; exact World.ownsRow_nil _ _ _ _)
    clear hH
    go_enter Tryd.func10, Tryd.ntmps10
    go_wp2_with fail
    exact bodyPost_ret (v := .tuple #[.slice none 0 0, .int .i64 0]) (by simp [results, Tryd.results10, go_sem]) rfl (unhide HP)
  · have hlt : 1 < w.heap.size := by
      rcases Nat.lt_or_ge 1 w.heap.size with h' | h'
      · exact h'
      · have h := hH
        unfold Handle World.cell? at h
        rw [Array.getElem?_eq_none h'] at h
        cases h
    have hb1 : ¬ ((60000 : Int) < (s.size : Int)) := by omega
    obtain ⟨hA, hF, hB⟩ := allocsE2 w (.cells #[.string s] 9) (.cells #[.slice none 0 0, .int .i64 0] 55)
    have HW := hide (wasReadAll w.heap.size (w.heap.size + 1) s (by omega) _ (by simp) (by omega) hF (hH.below hB) (cell_of_row _ w.heap.size 0 _ 9 (0, 0) hA))
    have HB := hide hB
    have hsz : ((w.alloc (.cells #[.string s] 9)).alloc (.cells #[.slice none 0 0, .int .i64 0] 55)).heap.size = w.heap.size + 2 := by simp
    clear hA hF hB hH hlt
    have hmf : ∀ (fn : Fn) (first cap : Array Value) (w : World), (Instr.makeFunc fn first cap).run Tryd.prog w = .ok (.func fn first cap) w := fun _ _ _ _ => rfl
    go_enter Tryd.func10, Tryd.ntmps10
    go_wp2_with fail
    refine (unhide HW).mono ?_
    rintro e w1 ⟨⟨b, rfl⟩, hk, v, hv, ho⟩
    rw [hsz] at ho
    have HP := hide (show GivesO w s (.returned (.tuple #[v, .int .i64 (rdAll s).2])) w1 from ⟨v, rfl, own_lower ho (by omega), hk.below (unhide HB) (by omega) (unhide HB).size⟩)
    have hwl := blk_lt hv
    obtain ⟨c0, c1⟩ := twoC hv
    clear hv ho hk HW HB
    obtain ⟨va, vc, hvv, _⟩ : ∃ a c, v = .slice a (rdAll s).1.length c ∧ True := by
      obtain ⟨v2, he, hown, _⟩ := unhide HP
      simp only [Ending.returned.injEq, Value.tuple.injEq] at he
      obtain ⟨a2, c2, h2, _⟩ := GR.own_at (enc := encO) (sz := 11) encO_length hown
      have : v = v2 := by simpa using he
      exact ⟨a2, c2, by rw [this, h2], trivial⟩
    subst hvv
    generalize (rdAll s).2 = E at *
    generalize (rdAll s).1.length = N at *
    go_wp2_with fail
    go_quiet (fail)
    go_wp2_with fail
    exact bodyPost_ret (v := .tuple #[.slice va N vc, .int .i64 E]) (by simp [results, Tryd.results10, go_sem]) rfl ((unhide HP).step ⟨rfl, rfl, rfl, Nat.le_refl _, fun _ _ => rfl⟩)
end Go.Proofs.YtiinpdkgnflmeaaDoor
namespace Go.Proofs.YtiinpdkgnflmeaaDoor
open Go.RowKit
open Mth

theorem gives_end {w wr w' : World} {s : ByteArray} {v : Value} {L : List Op5} {a : Nat} (ho : wr.ownsRow w.heap.size 25 11 v L.length (GR.flat encO L)) (hb : Below w.heap.size w wr) (hS : Sofar s a L) (hs : stB s a = false) (hz : Below wr.heap.size wr w') : GivesO w s (.returned (.tuple #[v, .int .i64 a])) w' := by
  have e := sofar_end hS hs
  exact ⟨v, by rw [e], by rw [e]; exact own_below ho hz, hb.trans (hz.mono hb.size)⟩
theorem gives_big {w wr : World} {s : ByteArray} {v : Value} (ho : wr.ownsRow w.heap.size 25 11 v ([] : List Op5).length (GR.flat encO [])) (hb : Below w.heap.size w wr) (h : 60000 < s.size) : GivesO w s (.returned (.tuple #[v, .int .i64 (0 : Nat)])) wr := by
  have e : rdAll s = ([], 0) := by unfold rdAll; rw [if_neg (by omega)]
  exact ⟨v, by rw [e], by rw [e]; exact ho, hb⟩
set_option maxRecDepth 100000 in
set_option maxHeartbeats 4000000 in
theorem specRead (s : ByteArray) (hs : s.size ≤ maxLen) (w : World) : Calls Tryd.prog 9 #[.string s] w (GivesO w s) := by
  obtain ⟨i0, hi, hz0, hz1, hz2⟩ := info_parts infoOp
  have hs2 : s.size ≤ 9223372036854775807 := by unfold maxLen at hs; omega
  have HG := hide (fun i w1 => specRt s i hs w1)
  clear hs
  go_enter Tryd.func9, Tryd.ntmps9
  go_wp2_with fail
  go_loopw [4, 5] (fun v at_ wr => ∃ (a : Nat) (L : List Op5), at_ = .int .i64 a ∧ wr.ownsRow w.heap.size 25 11 v L.length (GR.flat encO L) ∧ Below w.heap.size w wr ∧ ((s.size ≤ 60000 ∧ Sofar s a L) ∨ (60000 < s.size ∧ a = 0 ∧ L = []))) (fun _ at_ _ => s.size - (intOf at_).toNat)
  case atStart =>
    refine ⟨0, [], rfl, World.ownsRow_lit _ #[] 0 (Nat.le_refl _) (by decide) rfl, (Below.refl _ _).alloc (Nat.le_refl _) _, ?_⟩
    by_cases h : s.size ≤ 60000
    · exact .inl ⟨h, sofar_start s h⟩
    · exact .inr ⟨by omega, rfl, rfl⟩
  case round =>
    obtain ⟨a, L, rfl, hown, hbel, hcase⟩ := hrel
    obtain ⟨va, vc, rfl, _⟩ := GR.own_at (enc := encO) (sz := 11) (l := L) encO_length hown
    have HOWN := hide hown
    have HBL := hide hbel
    clear hown hbel
    rcases hcase with ⟨hsm, hS⟩ | ⟨hbig, rfl, rfl⟩
    case' inr =>
      have hb1 : decide ((s.size : Int) ≤ 60000) = false := by simp; omega
      go_wp2_with fail
      exact bodyPost_ret (v := .tuple #[.slice va 0 vc, .int .i64 0]) (by simp [results, Tryd.results9, go_sem]) rfl (gives_big (unhide HOWN) (unhide HBL) hbig)
    have hb1 : decide ((s.size : Int) ≤ 60000) = true := by simp; omega
    have ha := hS.2.1
    have HS := hide hS
    clear hS
    by_cases h4 : a + 4 < s.size
    case' neg =>
      have hb2 : decide ((4 : Int) < (s.size : Int) - (a : Int)) = false := by simp; omega
      have HST := hide (st_short h4)
      go_wp2_with fail
      exact bodyPost_ret (v := .tuple #[.slice va L.length vc, .int .i64 a]) (by simp [results, Tryd.results9, go_sem]) rfl (gives_end (unhide HOWN) (unhide HBL) (unhide HS) (unhide HST) (Below.refl _ _))
    have hb2 : decide ((4 : Int) < (s.size : Int) - (a : Int)) = true := by simp; omega
    have h4i : (a : Int) + 4 < (s.size : Int) := by omega
    have hw4 : IntKind.i64.wrap ((a : Int) + 4) = (a : Int) + 4 := IntWalk.i64_in _ ⟨by omega, by omega⟩
    have hw5 : 0 ≤ (a : Int) + 4 ∧ (a : Int) + 4 ≤ (s.size : Int) := by omega
    have hw6 : (a : Int) ≤ (a : Int) + 4 := by omega
    have hw7 : ((a : Int) + 4).toNat = a + 4 := by omega
    have HGA := hide (fun w1 => unhide HG ((a : Int) + 4) w1)
    have hTX := rtS_size s ((a : Int) + 4)
    have hEl := rtE_le s ((a : Int) + 4)
    have hTX2 : (rtS s ((a : Int) + 4)).size ≤ maxLen := Nat.le_trans hTX (by unfold maxLen; omega)
    have HOP := hide (fun w1 => specGetOp (rtS s ((a : Int) + 4)) hTX2 w1)
    have HC := hide (fun w1 => specCheckSum (rtS s ((a : Int) + 4)) w1 hTX2)
    have e : (65536 * (sums (rtS s ((a : Int) + 4)).data.toList).2 + (sums (rtS s ((a : Int) + 4)).data.toList).1 : Int) = (sumN (rtS s ((a : Int) + 4)) : Int) := by unfold sumN; omega
    rw [e] at HC
    have HW := hide (fun w1 => l04Word (sumN (rtS s ((a : Int) + 4))) (sumN_lt _) w1)
    have hspec := stB_spec s a h4
    have HNX0 := hide (fun h : stB s a = true => (show _ ∧ _ from ⟨sofar_step (unhide HS) h, st_parts h⟩))
    unfold gopV at HOP
    have HOC := hide (show gopB (rtS s ((a : Int) + 4)) = true → getOp (rtS s ((a : Int) + 4)) = opC (rtS s ((a : Int) + 4)) from fun h => by unfold getOp; rw [if_pos h])
    clear e hTX hTX2 HG
    by_cases hE : rtE s ((a : Int) + 4) < 0
    case' pos =>
      have HST := hide (show stB s a = false by rw [hspec, decide_eq_false (by omega)]; rfl)
      have hd : decide (rtE s ((a : Int) + 4) < 0) = true := decide_eq_true hE
      clear hspec HNX0 HOC
      generalize rtE s ((a : Int) + 4) = E at *
      generalize wordB (sumN (rtS s ((a : Int) + 4))) = bW at *
      generalize sumN (rtS s ((a : Int) + 4)) = nn at *
      generalize gopB (rtS s ((a : Int) + 4)) = OK at *
      generalize getOp (rtS s ((a : Int) + 4)) = oc at *
      generalize rtS s ((a : Int) + 4) = TX at *
      obtain ⟨K, no, k, n, ⟨mK, mF, mT, mI, mL, mk, mN⟩⟩ := oc
      go_wp2_with fail
      refine (unhide HGA _).mono ?_
      rintro e w1 ⟨rfl, hb1⟩
      have HB1 := hide hb1
      clear hb1
      go_wp2_with fail
      refine (unhide HOP _).mono ?_
      rintro e w2 ⟨rfl, hb2⟩
      have HB2 := hide ((unhide HB1).trans (hb2.mono (unhide HB1).size))
      clear hb2 HB1
      go_upto_region 6 with fail
      refine wp_at (fun W hW => ?_)
      have HBW : Hid (Below wr.heap.size wr W) := by rw [hW]; exact (unhide HB2).trans ((below_one w2 _).mono (unhide HB2).size)
      have HOW : Hid (W.heap[w2.heap.size]? = some (.cells #[.int .i64 K, .int .i64 no, .string k, .int .i64 n, .int .i64 mK, .int .i64 mF, .int .i64 mT, .int .i64 mI, .int .i64 mL, .string mk, .int .i64 mN] 25 (0, 0))) := by rw [hW]; exact heap_alloc_new w2 _
      clear hW HB2
      refine wp_region_mix (by kernel_rfl) ?_
      show wpMix _ _ _ _ 17 (Array.replicate 17 false) _ _
      refine wpMix_take 0 rfl (by kernel_rfl) (by kernel_rfl) (by kernel_rfl) (fun _ _ _ _ h => h) (fun K hK => ?_)
      go_simp
      first
        | (refine hK _ ?_; clear hK K)
        | (apply Exists.intro
           refine ⟨fun _ => ?_, hK _ ?_⟩
           (fail)
           clear hK K)
      refine wpMix_take 1 rfl (by kernel_rfl) (by kernel_rfl) (by kernel_rfl) (fun _ _ _ _ h => h) (fun K hK => ?_)
      go_simp
      first
        | (refine hK _ ?_; clear hK K)
        | (apply Exists.intro
           refine ⟨fun _ => ?_, hK _ ?_⟩
           (fail)
           clear hK K)
      refine wpMix_take 2 rfl (by kernel_rfl) (by kernel_rfl) (by kernel_rfl) (fun _ _ _ _ h => h) (fun K hK => ?_)
      go_simp
      first
        | (refine hK _ ?_; clear hK K)
        | (apply Exists.intro
           refine ⟨fun _ => ?_, hK _ ?_⟩
           (fail)
           clear hK K)
      refine wpMix_take 3 rfl (by kernel_rfl) (by kernel_rfl) (by kernel_rfl) (fun _ _ _ _ h => h) (fun K hK => ?_)
      go_simp
      first
        | (refine hK _ ?_; clear hK K)
        | (apply Exists.intro
           refine ⟨fun _ => ?_, hK _ ?_⟩
           (fail)
           clear hK K)
      refine wpMix_take 4 rfl (by kernel_rfl) (by kernel_rfl) (by kernel_rfl) (fun _ _ _ _ h => h) (fun K hK => ?_)
      go_simp
      first
        | (refine hK _ ?_; clear hK K)
        | (apply Exists.intro
           refine ⟨fun _ => ?_, hK _ ?_⟩
           (fail)
           clear hK K)
      refine wpMix_take 5 rfl (by kernel_rfl) (by kernel_rfl) (by kernel_rfl) (fun _ _ _ _ h => h) (fun K hK => ?_)
      go_simp
      first
        | (refine hK _ ?_; clear hK K)
        | (apply Exists.intro
           refine ⟨fun _ => ?_, hK _ ?_⟩
           (fail)
           clear hK K)
      refine wpMix_take 6 rfl (by kernel_rfl) (by kernel_rfl) (by kernel_rfl) (fun _ _ _ _ h => h) (fun K hK => ?_)
      go_simp
      first
        | (refine hK _ ?_; clear hK K)
        | (apply Exists.intro
           refine ⟨fun _ => ?_, hK _ ?_⟩
           (fail)
           clear hK K)
      refine wpMix_take 7 rfl (by kernel_rfl) (by kernel_rfl) (by kernel_rfl) (fun _ _ _ _ h => h) (fun K hK => ?_)
      go_simp
      first
        | (refine hK _ ?_; clear hK K)
        | (apply Exists.intro
           refine ⟨fun _ => ?_, hK _ ?_⟩
           (fail)
           clear hK K)
      refine wpMix_take 8 rfl (by kernel_rfl) (by kernel_rfl) (by kernel_rfl) (fun _ _ _ _ h => h) (fun K hK => ?_)
      go_simp
      first
        | (refine hK _ ?_; clear hK K)
        | (apply Exists.intro
           refine ⟨fun _ => ?_, hK _ ?_⟩
           (fail)
           clear hK K)
      refine wpMix_take 9 rfl (by kernel_rfl) (by kernel_rfl) (by kernel_rfl) (fun _ _ _ _ h => h) (fun K hK => ?_)
      go_simp
      first
        | (refine hK _ ?_; clear hK K)
        | (apply Exists.intro
           refine ⟨fun _ => ?_, hK _ ?_⟩
           (fail)
           clear hK K)
      refine wpMix_take 10 rfl (by kernel_rfl) (by kernel_rfl) (by kernel_rfl) (fun _ _ _ _ h => h) (fun K hK => ?_)
      go_simp
      first
        | (refine hK _ ?_; clear hK K)
        | (apply Exists.intro
           refine ⟨fun _ => ?_, hK _ ?_⟩
           (fail)
           clear hK K)
      refine wpMix_take 11 rfl (by kernel_rfl) (by kernel_rfl) (by kernel_rfl) (fun _ _ _ _ h => h) (fun K hK => ?_)
      go_simp
      first
        | (refine hK _ ?_; clear hK K)
        | (apply Exists.intro
           refine ⟨fun _ => ?_, hK _ ?_⟩
           ((simp only [hw4]; rw [if_pos hw5, if_pos hw6, hw7]; exact ⟨rfl, rfl⟩))
           clear hK K)
      refine wpMix_take 12 rfl (by kernel_rfl) (by kernel_rfl) (by kernel_rfl) (fun _ _ _ _ h => h) (fun K hK => ?_)
      go_simp
      first
        | (refine hK _ ?_; clear hK K)
        | (apply Exists.intro
           refine ⟨fun _ => ?_, hK _ ?_⟩
           (fail)
           clear hK K)
      refine wpMix_take 13 rfl (by kernel_rfl) (by kernel_rfl) (by kernel_rfl) (fun _ _ _ _ h => h) (fun K hK => ?_)
      go_simp
      first
        | (refine hK _ ?_; clear hK K)
        | (apply Exists.intro
           refine ⟨fun _ => ?_, hK _ ?_⟩
           ((first | exact (unhide HC _).mono (fun e z ⟨he, hz⟩ => ⟨he, hz ▸ Below.refl _ _⟩) | exact unhide HW _))
           clear hK K)
      refine wpMix_take 14 rfl (by kernel_rfl) (by kernel_rfl) (by kernel_rfl) (fun _ _ _ _ h => h) (fun K hK => ?_)
      go_simp
      first
        | (refine hK _ ?_; clear hK K)
        | (apply Exists.intro
           refine ⟨fun _ => ?_, hK _ ?_⟩
           ((first | exact (unhide HC _).mono (fun e z ⟨he, hz⟩ => ⟨he, hz ▸ Below.refl _ _⟩) | exact unhide HW _))
           clear hK K)
      refine wpMix_take 15 rfl (by kernel_rfl) (by kernel_rfl) (by kernel_rfl) (fun _ _ _ _ h => h) (fun K hK => ?_)
      go_simp
      first
        | (refine hK _ ?_; clear hK K)
        | (apply Exists.intro
           refine ⟨fun _ => ?_, hK _ ?_⟩
           (fail)
           clear hK K)
      refine wpMix_take 16 rfl (by kernel_rfl) (by kernel_rfl) (by kernel_rfl) (fun _ _ _ _ h => h) (fun K hK => ?_)
      go_simp
      first
        | (refine hK _ ?_; clear hK K)
        | (apply Exists.intro
           refine ⟨fun _ => ?_, hK _ ?_⟩
           (fail)
           clear hK K)
      refine wpMix_done (by kernel_rfl) (fun z hz => ?_)
      have HBZ := hide ((unhide HBW).trans (hz.mono (unhide HBW).size))
      clear hz HBW HOW
      go_simp
      go_wp2_with fail
      exact bodyPost_ret (v := .tuple #[.slice va L.length vc, .int .i64 a]) (by simp [results, Tryd.results9, go_sem]) rfl (gives_end (unhide HOWN) (unhide HBL) (unhide HS) (unhide HST) (unhide HBZ))
    have hd : decide (rtE s ((a : Int) + 4) < 0) = false := decide_eq_false hE
    have hd2 : decide (0 ≤ rtE s ((a : Int) + 4)) = true := decide_eq_true (by omega)
    rw [hd2, Bool.true_and] at hspec
    clear hd2
    cases hok : gopB (rtS s ((a : Int) + 4))
    case' false =>
      have HST := hide (show stB s a = false by rw [hspec, hok]; rfl)
      rw [hok] at HOP
      clear hspec HNX0 HOC hok
      generalize rtE s ((a : Int) + 4) = E at *
      generalize wordB (sumN (rtS s ((a : Int) + 4))) = bW at *
      generalize sumN (rtS s ((a : Int) + 4)) = nn at *
      generalize getOp (rtS s ((a : Int) + 4)) = oc at *
      generalize rtS s ((a : Int) + 4) = TX at *
      obtain ⟨K, no, k, n, ⟨mK, mF, mT, mI, mL, mk, mN⟩⟩ := oc
      go_wp2_with fail
      refine (unhide HGA _).mono ?_
      rintro e w1 ⟨rfl, hb1⟩
      have HB1 := hide hb1
      clear hb1
      go_wp2_with fail
      refine (unhide HOP _).mono ?_
      rintro e w2 ⟨rfl, hb2⟩
      have HB2 := hide ((unhide HB1).trans (hb2.mono (unhide HB1).size))
      clear hb2 HB1
      go_upto_region 6 with fail
      refine wp_at (fun W hW => ?_)
      have HBW : Hid (Below wr.heap.size wr W) := by rw [hW]; exact (unhide HB2).trans ((below_one w2 _).mono (unhide HB2).size)
      have HOW : Hid (W.heap[w2.heap.size]? = some (.cells #[.int .i64 K, .int .i64 no, .string k, .int .i64 n, .int .i64 mK, .int .i64 mF, .int .i64 mT, .int .i64 mI, .int .i64 mL, .string mk, .int .i64 mN] 25 (0, 0))) := by rw [hW]; exact heap_alloc_new w2 _
      clear hW HB2
      refine wp_region_mix (by kernel_rfl) ?_
      show wpMix _ _ _ _ 17 (Array.replicate 17 false) _ _
      refine wpMix_take 0 rfl (by kernel_rfl) (by kernel_rfl) (by kernel_rfl) (fun _ _ _ _ h => h) (fun K hK => ?_)
      go_simp
      first
        | (refine hK _ ?_; clear hK K)
        | (apply Exists.intro
           refine ⟨fun _ => ?_, hK _ ?_⟩
           (fail)
           clear hK K)
      refine wpMix_take 1 rfl (by kernel_rfl) (by kernel_rfl) (by kernel_rfl) (fun _ _ _ _ h => h) (fun K hK => ?_)
      go_simp
      first
        | (refine hK _ ?_; clear hK K)
        | (apply Exists.intro
           refine ⟨fun _ => ?_, hK _ ?_⟩
           (fail)
           clear hK K)
      refine wpMix_take 2 rfl (by kernel_rfl) (by kernel_rfl) (by kernel_rfl) (fun _ _ _ _ h => h) (fun K hK => ?_)
      go_simp
      first
        | (refine hK _ ?_; clear hK K)
        | (apply Exists.intro
           refine ⟨fun _ => ?_, hK _ ?_⟩
           (fail)
           clear hK K)
      refine wpMix_take 3 rfl (by kernel_rfl) (by kernel_rfl) (by kernel_rfl) (fun _ _ _ _ h => h) (fun K hK => ?_)
      go_simp
      first
        | (refine hK _ ?_; clear hK K)
        | (apply Exists.intro
           refine ⟨fun _ => ?_, hK _ ?_⟩
           (fail)
           clear hK K)
      refine wpMix_take 4 rfl (by kernel_rfl) (by kernel_rfl) (by kernel_rfl) (fun _ _ _ _ h => h) (fun K hK => ?_)
      go_simp
      first
        | (refine hK _ ?_; clear hK K)
        | (apply Exists.intro
           refine ⟨fun _ => ?_, hK _ ?_⟩
           (fail)
           clear hK K)
      refine wpMix_take 5 rfl (by kernel_rfl) (by kernel_rfl) (by kernel_rfl) (fun _ _ _ _ h => h) (fun K hK => ?_)
      go_simp
      first
        | (refine hK _ ?_; clear hK K)
        | (apply Exists.intro
           refine ⟨fun _ => ?_, hK _ ?_⟩
           (fail)
           clear hK K)
      refine wpMix_take 6 rfl (by kernel_rfl) (by kernel_rfl) (by kernel_rfl) (fun _ _ _ _ h => h) (fun K hK => ?_)
      go_simp
      first
        | (refine hK _ ?_; clear hK K)
        | (apply Exists.intro
           refine ⟨fun _ => ?_, hK _ ?_⟩
           (fail)
           clear hK K)
      refine wpMix_take 7 rfl (by kernel_rfl) (by kernel_rfl) (by kernel_rfl) (fun _ _ _ _ h => h) (fun K hK => ?_)
      go_simp
      first
        | (refine hK _ ?_; clear hK K)
        | (apply Exists.intro
           refine ⟨fun _ => ?_, hK _ ?_⟩
           (fail)
           clear hK K)
      refine wpMix_take 8 rfl (by kernel_rfl) (by kernel_rfl) (by kernel_rfl) (fun _ _ _ _ h => h) (fun K hK => ?_)
      go_simp
      first
        | (refine hK _ ?_; clear hK K)
        | (apply Exists.intro
           refine ⟨fun _ => ?_, hK _ ?_⟩
           (fail)
           clear hK K)
      refine wpMix_take 9 rfl (by kernel_rfl) (by kernel_rfl) (by kernel_rfl) (fun _ _ _ _ h => h) (fun K hK => ?_)
      go_simp
      first
        | (refine hK _ ?_; clear hK K)
        | (apply Exists.intro
           refine ⟨fun _ => ?_, hK _ ?_⟩
           (fail)
           clear hK K)
      refine wpMix_take 10 rfl (by kernel_rfl) (by kernel_rfl) (by kernel_rfl) (fun _ _ _ _ h => h) (fun K hK => ?_)
      go_simp
      first
        | (refine hK _ ?_; clear hK K)
        | (apply Exists.intro
           refine ⟨fun _ => ?_, hK _ ?_⟩
           (fail)
           clear hK K)
      refine wpMix_take 11 rfl (by kernel_rfl) (by kernel_rfl) (by kernel_rfl) (fun _ _ _ _ h => h) (fun K hK => ?_)
      go_simp
      first
        | (refine hK _ ?_; clear hK K)
        | (apply Exists.intro
           refine ⟨fun _ => ?_, hK _ ?_⟩
           ((simp only [hw4]; rw [if_pos hw5, if_pos hw6, hw7]; exact ⟨rfl, rfl⟩))
           clear hK K)
      refine wpMix_take 12 rfl (by kernel_rfl) (by kernel_rfl) (by kernel_rfl) (fun _ _ _ _ h => h) (fun K hK => ?_)
      go_simp
      first
        | (refine hK _ ?_; clear hK K)
        | (apply Exists.intro
           refine ⟨fun _ => ?_, hK _ ?_⟩
           (fail)
           clear hK K)
      refine wpMix_take 13 rfl (by kernel_rfl) (by kernel_rfl) (by kernel_rfl) (fun _ _ _ _ h => h) (fun K hK => ?_)
      go_simp
      first
        | (refine hK _ ?_; clear hK K)
        | (apply Exists.intro
           refine ⟨fun _ => ?_, hK _ ?_⟩
           ((first | exact (unhide HC _).mono (fun e z ⟨he, hz⟩ => ⟨he, hz ▸ Below.refl _ _⟩) | exact unhide HW _))
           clear hK K)
      refine wpMix_take 14 rfl (by kernel_rfl) (by kernel_rfl) (by kernel_rfl) (fun _ _ _ _ h => h) (fun K hK => ?_)
      go_simp
      first
        | (refine hK _ ?_; clear hK K)
        | (apply Exists.intro
           refine ⟨fun _ => ?_, hK _ ?_⟩
           ((first | exact (unhide HC _).mono (fun e z ⟨he, hz⟩ => ⟨he, hz ▸ Below.refl _ _⟩) | exact unhide HW _))
           clear hK K)
      refine wpMix_take 15 rfl (by kernel_rfl) (by kernel_rfl) (by kernel_rfl) (fun _ _ _ _ h => h) (fun K hK => ?_)
      go_simp
      first
        | (refine hK _ ?_; clear hK K)
        | (apply Exists.intro
           refine ⟨fun _ => ?_, hK _ ?_⟩
           (fail)
           clear hK K)
      refine wpMix_take 16 rfl (by kernel_rfl) (by kernel_rfl) (by kernel_rfl) (fun _ _ _ _ h => h) (fun K hK => ?_)
      go_simp
      first
        | (refine hK _ ?_; clear hK K)
        | (apply Exists.intro
           refine ⟨fun _ => ?_, hK _ ?_⟩
           (fail)
           clear hK K)
      refine wpMix_done (by kernel_rfl) (fun z hz => ?_)
      have HBZ := hide ((unhide HBW).trans (hz.mono (unhide HBW).size))
      clear hz HBW HOW
      go_simp
      go_wp2_with fail
      exact bodyPost_ret (v := .tuple #[.slice va L.length vc, .int .i64 a]) (by simp [results, Tryd.results9, go_sem]) rfl (gives_end (unhide HOWN) (unhide HBL) (unhide HS) (unhide HST) (unhide HBZ))
    rw [hok, Bool.true_and] at hspec
    rw [hok] at HOP
    have hoc := unhide HOC hok
    clear HOC hok
    by_cases hq : s.extract a (a + 4) = wordB (sumN (rtS s ((a : Int) + 4)))
    case' neg =>
      have HST := hide (show stB s a = false by rw [hspec, decide_eq_false hq])
      have hqq : ((s.extract a (a + 4)).toList == (wordB (sumN (rtS s ((a : Int) + 4)))).toList) = false := by
        rw [beq_eq_false_iff_ne]
        intro h
        rw [ByteArray.toList_eq, ByteArray.toList_eq] at h
        exact hq (ByteArray.ext (Array.ext' h))
      clear hspec HNX0 hq hoc
      generalize rtE s ((a : Int) + 4) = E at *
      generalize wordB (sumN (rtS s ((a : Int) + 4))) = bW at *
      generalize sumN (rtS s ((a : Int) + 4)) = nn at *
      generalize getOp (rtS s ((a : Int) + 4)) = oc at *
      generalize rtS s ((a : Int) + 4) = TX at *
      obtain ⟨K, no, k, n, ⟨mK, mF, mT, mI, mL, mk, mN⟩⟩ := oc
      go_wp2_with fail
      refine (unhide HGA _).mono ?_
      rintro e w1 ⟨rfl, hb1⟩
      have HB1 := hide hb1
      clear hb1
      go_wp2_with fail
      refine (unhide HOP _).mono ?_
      rintro e w2 ⟨rfl, hb2⟩
      have HB2 := hide ((unhide HB1).trans (hb2.mono (unhide HB1).size))
      clear hb2 HB1
      go_upto_region 6 with fail
      refine wp_at (fun W hW => ?_)
      have HBW : Hid (Below wr.heap.size wr W) := by rw [hW]; exact (unhide HB2).trans ((below_one w2 _).mono (unhide HB2).size)
      have HOW : Hid (W.heap[w2.heap.size]? = some (.cells #[.int .i64 K, .int .i64 no, .string k, .int .i64 n, .int .i64 mK, .int .i64 mF, .int .i64 mT, .int .i64 mI, .int .i64 mL, .string mk, .int .i64 mN] 25 (0, 0))) := by rw [hW]; exact heap_alloc_new w2 _
      clear hW HB2
      refine wp_region_mix (by kernel_rfl) ?_
      show wpMix _ _ _ _ 17 (Array.replicate 17 false) _ _
      refine wpMix_take 0 rfl (by kernel_rfl) (by kernel_rfl) (by kernel_rfl) (fun _ _ _ _ h => h) (fun K hK => ?_)
      go_simp
      first
        | (refine hK _ ?_; clear hK K)
        | (apply Exists.intro
           refine ⟨fun _ => ?_, hK _ ?_⟩
           (fail)
           clear hK K)
      refine wpMix_take 1 rfl (by kernel_rfl) (by kernel_rfl) (by kernel_rfl) (fun _ _ _ _ h => h) (fun K hK => ?_)
      go_simp
      first
        | (refine hK _ ?_; clear hK K)
        | (apply Exists.intro
           refine ⟨fun _ => ?_, hK _ ?_⟩
           (fail)
           clear hK K)
      refine wpMix_take 2 rfl (by kernel_rfl) (by kernel_rfl) (by kernel_rfl) (fun _ _ _ _ h => h) (fun K hK => ?_)
      go_simp
      first
        | (refine hK _ ?_; clear hK K)
        | (apply Exists.intro
           refine ⟨fun _ => ?_, hK _ ?_⟩
           (fail)
           clear hK K)
      refine wpMix_take 3 rfl (by kernel_rfl) (by kernel_rfl) (by kernel_rfl) (fun _ _ _ _ h => h) (fun K hK => ?_)
      go_simp
      first
        | (refine hK _ ?_; clear hK K)
        | (apply Exists.intro
           refine ⟨fun _ => ?_, hK _ ?_⟩
           (fail)
           clear hK K)
      refine wpMix_take 4 rfl (by kernel_rfl) (by kernel_rfl) (by kernel_rfl) (fun _ _ _ _ h => h) (fun K hK => ?_)
      go_simp
      first
        | (refine hK _ ?_; clear hK K)
        | (apply Exists.intro
           refine ⟨fun _ => ?_, hK _ ?_⟩
           (fail)
           clear hK K)
      refine wpMix_take 5 rfl (by kernel_rfl) (by kernel_rfl) (by kernel_rfl) (fun _ _ _ _ h => h) (fun K hK => ?_)
      go_simp
      first
        | (refine hK _ ?_; clear hK K)
        | (apply Exists.intro
           refine ⟨fun _ => ?_, hK _ ?_⟩
           (fail)
           clear hK K)
      refine wpMix_take 6 rfl (by kernel_rfl) (by kernel_rfl) (by kernel_rfl) (fun _ _ _ _ h => h) (fun K hK => ?_)
      go_simp
      first
        | (refine hK _ ?_; clear hK K)
        | (apply Exists.intro
           refine ⟨fun _ => ?_, hK _ ?_⟩
           (fail)
           clear hK K)
      refine wpMix_take 7 rfl (by kernel_rfl) (by kernel_rfl) (by kernel_rfl) (fun _ _ _ _ h => h) (fun K hK => ?_)
      go_simp
      first
        | (refine hK _ ?_; clear hK K)
        | (apply Exists.intro
           refine ⟨fun _ => ?_, hK _ ?_⟩
           (fail)
           clear hK K)
      refine wpMix_take 8 rfl (by kernel_rfl) (by kernel_rfl) (by kernel_rfl) (fun _ _ _ _ h => h) (fun K hK => ?_)
      go_simp
      first
        | (refine hK _ ?_; clear hK K)
        | (apply Exists.intro
           refine ⟨fun _ => ?_, hK _ ?_⟩
           (fail)
           clear hK K)
      refine wpMix_take 9 rfl (by kernel_rfl) (by kernel_rfl) (by kernel_rfl) (fun _ _ _ _ h => h) (fun K hK => ?_)
      go_simp
      first
        | (refine hK _ ?_; clear hK K)
        | (apply Exists.intro
           refine ⟨fun _ => ?_, hK _ ?_⟩
           (fail)
           clear hK K)
      refine wpMix_take 10 rfl (by kernel_rfl) (by kernel_rfl) (by kernel_rfl) (fun _ _ _ _ h => h) (fun K hK => ?_)
      go_simp
      first
        | (refine hK _ ?_; clear hK K)
        | (apply Exists.intro
           refine ⟨fun _ => ?_, hK _ ?_⟩
           (fail)
           clear hK K)
      refine wpMix_take 11 rfl (by kernel_rfl) (by kernel_rfl) (by kernel_rfl) (fun _ _ _ _ h => h) (fun K hK => ?_)
      go_simp
      first
        | (refine hK _ ?_; clear hK K)
        | (apply Exists.intro
           refine ⟨fun _ => ?_, hK _ ?_⟩
           ((simp only [hw4]; rw [if_pos hw5, if_pos hw6, hw7]; exact ⟨rfl, rfl⟩))
           clear hK K)
      refine wpMix_take 12 rfl (by kernel_rfl) (by kernel_rfl) (by kernel_rfl) (fun _ _ _ _ h => h) (fun K hK => ?_)
      go_simp
      first
        | (refine hK _ ?_; clear hK K)
        | (apply Exists.intro
           refine ⟨fun _ => ?_, hK _ ?_⟩
           (fail)
           clear hK K)
      refine wpMix_take 13 rfl (by kernel_rfl) (by kernel_rfl) (by kernel_rfl) (fun _ _ _ _ h => h) (fun K hK => ?_)
      go_simp
      first
        | (refine hK _ ?_; clear hK K)
        | (apply Exists.intro
           refine ⟨fun _ => ?_, hK _ ?_⟩
           ((first | exact (unhide HC _).mono (fun e z ⟨he, hz⟩ => ⟨he, hz ▸ Below.refl _ _⟩) | exact unhide HW _))
           clear hK K)
      refine wpMix_take 14 rfl (by kernel_rfl) (by kernel_rfl) (by kernel_rfl) (fun _ _ _ _ h => h) (fun K hK => ?_)
      go_simp
      first
        | (refine hK _ ?_; clear hK K)
        | (apply Exists.intro
           refine ⟨fun _ => ?_, hK _ ?_⟩
           ((first | exact (unhide HC _).mono (fun e z ⟨he, hz⟩ => ⟨he, hz ▸ Below.refl _ _⟩) | exact unhide HW _))
           clear hK K)
      refine wpMix_take 15 rfl (by kernel_rfl) (by kernel_rfl) (by kernel_rfl) (fun _ _ _ _ h => h) (fun K hK => ?_)
      go_simp
      first
        | (refine hK _ ?_; clear hK K)
        | (apply Exists.intro
           refine ⟨fun _ => ?_, hK _ ?_⟩
           (fail)
           clear hK K)
      refine wpMix_take 16 rfl (by kernel_rfl) (by kernel_rfl) (by kernel_rfl) (fun _ _ _ _ h => h) (fun K hK => ?_)
      go_simp
      first
        | (refine hK _ ?_; clear hK K)
        | (apply Exists.intro
           refine ⟨fun _ => ?_, hK _ ?_⟩
           (fail)
           clear hK K)
      refine wpMix_done (by kernel_rfl) (fun z hz => ?_)
      have HBZ := hide ((unhide HBW).trans (hz.mono (unhide HBW).size))
      clear hz HBW HOW
      go_simp
      go_wp2_with fail
      exact bodyPost_ret (v := .tuple #[.slice va L.length vc, .int .i64 a]) (by simp [results, Tryd.results9, go_sem]) rfl (gives_end (unhide HOWN) (unhide HBL) (unhide HS) (unhide HST) (unhide HBZ))
    have hqq : ((s.extract a (a + 4)).toList == (wordB (sumN (rtS s ((a : Int) + 4)))).toList) = true := by rw [hq]; simp
    have hst : stB s a = true := by rw [hspec, decide_eq_true hq]
    obtain ⟨hN1, _, hf1, hf2, hf3, hf4, _⟩ := unhide HNX0 hst
    have hE5 : rtE s ((a : Int) + 4) = ((rtE s ((a : Int) + 4)).toNat : Nat) := by omega
    have hE6 : a < (rtE s ((a : Int) + 4)).toNat := by omega
    have hE7 : (rtE s ((a : Int) + 4)).toNat ≤ s.size := by omega
    rw [hf1, hf2, ← hoc] at hN1
    have HNX := hide hN1
    have hd0 : ¬ (((rtE s ((a : Int) + 4)).toNat : Nat) : Int) < 0 := by omega
    rw [hE5] at HGA
    clear hspec HNX0 hq hst hN1 hf1 hf2 hf3 hf4 hoc hd hE hE5 hEl
    have hd := decide_eq_false hd0
    generalize (rtE s ((a : Int) + 4)).toNat = E at *
    generalize wordB (sumN (rtS s ((a : Int) + 4))) = bW at *
    generalize sumN (rtS s ((a : Int) + 4)) = nn at *
    generalize getOp (rtS s ((a : Int) + 4)) = oc at *
    generalize rtS s ((a : Int) + 4) = TX at *
    obtain ⟨K, no, k, n, ⟨mK, mF, mT, mI, mL, mk, mN⟩⟩ := oc
    go_wp2_with fail
    refine (unhide HGA _).mono ?_
    rintro e w1 ⟨rfl, hb1⟩
    have HB1 := hide hb1
    clear hb1
    go_wp2_with fail
    refine (unhide HOP _).mono ?_
    rintro e w2 ⟨rfl, hb2⟩
    have HB2 := hide ((unhide HB1).trans (hb2.mono (unhide HB1).size))
    clear hb2 HB1
    go_upto_region 6 with fail
    refine wp_at (fun W hW => ?_)
    have HBW : Hid (Below wr.heap.size wr W) := by rw [hW]; exact (unhide HB2).trans ((below_one w2 _).mono (unhide HB2).size)
    have HOW : Hid (W.heap[w2.heap.size]? = some (.cells #[.int .i64 K, .int .i64 no, .string k, .int .i64 n, .int .i64 mK, .int .i64 mF, .int .i64 mT, .int .i64 mI, .int .i64 mL, .string mk, .int .i64 mN] 25 (0, 0))) := by rw [hW]; exact heap_alloc_new w2 _
    clear hW HB2
    refine wp_region_mix (by kernel_rfl) ?_
    show wpMix _ _ _ _ 17 (Array.replicate 17 false) _ _
    refine wpMix_take 0 rfl (by kernel_rfl) (by kernel_rfl) (by kernel_rfl) (fun _ _ _ _ h => h) (fun K hK => ?_)
    go_simp
    first
      | (refine hK _ ?_; clear hK K)
      | (apply Exists.intro
         refine ⟨fun _ => ?_, hK _ ?_⟩
         (fail)
         clear hK K)
    refine wpMix_take 1 rfl (by kernel_rfl) (by kernel_rfl) (by kernel_rfl) (fun _ _ _ _ h => h) (fun K hK => ?_)
    go_simp
    first
      | (refine hK _ ?_; clear hK K)
      | (apply Exists.intro
         refine ⟨fun _ => ?_, hK _ ?_⟩
         (fail)
         clear hK K)
    refine wpMix_take 2 rfl (by kernel_rfl) (by kernel_rfl) (by kernel_rfl) (fun _ _ _ _ h => h) (fun K hK => ?_)
    go_simp
    first
      | (refine hK _ ?_; clear hK K)
      | (apply Exists.intro
         refine ⟨fun _ => ?_, hK _ ?_⟩
         (fail)
         clear hK K)
    refine wpMix_take 3 rfl (by kernel_rfl) (by kernel_rfl) (by kernel_rfl) (fun _ _ _ _ h => h) (fun K hK => ?_)
    go_simp
    first
      | (refine hK _ ?_; clear hK K)
      | (apply Exists.intro
         refine ⟨fun _ => ?_, hK _ ?_⟩
         (fail)
         clear hK K)
    refine wpMix_take 4 rfl (by kernel_rfl) (by kernel_rfl) (by kernel_rfl) (fun _ _ _ _ h => h) (fun K hK => ?_)
    go_simp
    first
      | (refine hK _ ?_; clear hK K)
      | (apply Exists.intro
         refine ⟨fun _ => ?_, hK _ ?_⟩
         (fail)
         clear hK K)
    refine wpMix_take 5 rfl (by kernel_rfl) (by kernel_rfl) (by kernel_rfl) (fun _ _ _ _ h => h) (fun K hK => ?_)
    go_simp
    first
      | (refine hK _ ?_; clear hK K)
      | (apply Exists.intro
         refine ⟨fun _ => ?_, hK _ ?_⟩
         (fail)
         clear hK K)
    refine wpMix_take 6 rfl (by kernel_rfl) (by kernel_rfl) (by kernel_rfl) (fun _ _ _ _ h => h) (fun K hK => ?_)
    go_simp
    first
      | (refine hK _ ?_; clear hK K)
      | (apply Exists.intro
         refine ⟨fun _ => ?_, hK _ ?_⟩
         (fail)
         clear hK K)
    refine wpMix_take 7 rfl (by kernel_rfl) (by kernel_rfl) (by kernel_rfl) (fun _ _ _ _ h => h) (fun K hK => ?_)
    go_simp
    first
      | (refine hK _ ?_; clear hK K)
      | (apply Exists.intro
         refine ⟨fun _ => ?_, hK _ ?_⟩
         (fail)
         clear hK K)
    refine wpMix_take 8 rfl (by kernel_rfl) (by kernel_rfl) (by kernel_rfl) (fun _ _ _ _ h => h) (fun K hK => ?_)
    go_simp
    first
      | (refine hK _ ?_; clear hK K)
      | (apply Exists.intro
         refine ⟨fun _ => ?_, hK _ ?_⟩
         (fail)
         clear hK K)
    refine wpMix_take 9 rfl (by kernel_rfl) (by kernel_rfl) (by kernel_rfl) (fun _ _ _ _ h => h) (fun K hK => ?_)
    go_simp
    first
      | (refine hK _ ?_; clear hK K)
      | (apply Exists.intro
         refine ⟨fun _ => ?_, hK _ ?_⟩
         (fail)
         clear hK K)
    refine wpMix_take 10 rfl (by kernel_rfl) (by kernel_rfl) (by kernel_rfl) (fun _ _ _ _ h => h) (fun K hK => ?_)
    go_simp
    first
      | (refine hK _ ?_; clear hK K)
      | (apply Exists.intro
         refine ⟨fun _ => ?_, hK _ ?_⟩
         (fail)
         clear hK K)
    refine wpMix_take 11 rfl (by kernel_rfl) (by kernel_rfl) (by kernel_rfl) (fun _ _ _ _ h => h) (fun K hK => ?_)
    go_simp
    first
      | (refine hK _ ?_; clear hK K)
      | (apply Exists.intro
         refine ⟨fun _ => ?_, hK _ ?_⟩
         ((simp only [hw4]; rw [if_pos hw5, if_pos hw6, hw7]; exact ⟨rfl, rfl⟩))
         clear hK K)
    refine wpMix_take 12 rfl (by kernel_rfl) (by kernel_rfl) (by kernel_rfl) (fun _ _ _ _ h => h) (fun K hK => ?_)
    go_simp
    first
      | (refine hK _ ?_; clear hK K)
      | (apply Exists.intro
         refine ⟨fun _ => ?_, hK _ ?_⟩
         (fail)
         clear hK K)
    refine wpMix_take 13 rfl (by kernel_rfl) (by kernel_rfl) (by kernel_rfl) (fun _ _ _ _ h => h) (fun K hK => ?_)
    go_simp
    first
      | (refine hK _ ?_; clear hK K)
      | (apply Exists.intro
         refine ⟨fun _ => ?_, hK _ ?_⟩
         ((first | exact (unhide HC _).mono (fun e z ⟨he, hz⟩ => ⟨he, hz ▸ Below.refl _ _⟩) | exact unhide HW _))
         clear hK K)
    refine wpMix_take 14 rfl (by kernel_rfl) (by kernel_rfl) (by kernel_rfl) (fun _ _ _ _ h => h) (fun K hK => ?_)
    go_simp
    first
      | (refine hK _ ?_; clear hK K)
      | (apply Exists.intro
         refine ⟨fun _ => ?_, hK _ ?_⟩
         ((first | exact (unhide HC _).mono (fun e z ⟨he, hz⟩ => ⟨he, hz ▸ Below.refl _ _⟩) | exact unhide HW _))
         clear hK K)
    refine wpMix_take 15 rfl (by kernel_rfl) (by kernel_rfl) (by kernel_rfl) (fun _ _ _ _ h => h) (fun K hK => ?_)
    go_simp
    first
      | (refine hK _ ?_; clear hK K)
      | (apply Exists.intro
         refine ⟨fun _ => ?_, hK _ ?_⟩
         (fail)
         clear hK K)
    refine wpMix_take 16 rfl (by kernel_rfl) (by kernel_rfl) (by kernel_rfl) (fun _ _ _ _ h => h) (fun K hK => ?_)
    go_simp
    first
      | (refine hK _ ?_; clear hK K)
      | (apply Exists.intro
         refine ⟨fun _ => ?_, hK _ ?_⟩
         (fail)
         clear hK K)
    refine wpMix_done (by kernel_rfl) (fun z hz => ?_)
    have HBZ := hide ((unhide HBW).trans (hz.mono (unhide HBW).size))
    have HOZ := hide (blk_step (unhide HOW) hz)
    clear hz HBW HOW
    obtain ⟨⟨c0, c1, c2, c3, c4, c5, c6, c7, c8, c9, c10⟩, _⟩ := eleven_at (unhide HOZ)
    have hzl := blk_lt (unhide HOZ)
    have HOWZ := hide (own_below (unhide HOWN) (unhide HBZ))
    have HBLZ := hide ((unhide HBL).trans ((unhide HBZ).mono (unhide HBL).size))
    have hLl := (unhide HS).1
    go_simp
    go_wp2_with (at_builtin; refine wpList_append_own _ rfl _ _ 30 rfl w.heap.size 25 i0 (.agg #[.int .i64 0, .int .i64 0, .string ByteArray.empty, .int .i64 0, .int .i64 0, .int .i64 0, .int .i64 0, .int .i64 0, .int .i64 0, .string ByteArray.empty, .int .i64 0]) 11 104 Tryd.underlying30 hi hz0 hz1 hz2 rfl (by decide) _ _ _ rfl ((unhide HOWZ).alloc _) ⟨z.heap.size, 0, none⟩ 1 1 (encO ⟨K, no, k, n, ⟨mK, mF, mT, mI, mL, mk, mN⟩⟩) rfl rfl ?c1 ?c2 ?c3 ?c4 ?c5 ?_)
    case c1 => exact World.news_of_block (heap_alloc_new z _)
    case c2 => exact encO_one _
    case c3 => unfold maxLen; omega
    case c4 => omega
    case c5 => have := (unhide HBLZ).size; simp; omega
    intro v' w6 hown' hgrow _
    have HBL6 := hide (GR.below_append (unhide HBLZ) (unhide HBLZ).size (unhide HOWZ) hgrow)
    have HOWN6 : Hid (w6.ownsRow w.heap.size 25 11 v' (L ++ [(⟨K, no, k, n, ⟨mK, mF, mT, mI, mL, mk, mN⟩⟩ : Op5)]).length (GR.flat encO (L ++ [(⟨K, no, k, n, ⟨mK, mF, mT, mI, mL, mk, mN⟩⟩ : Op5)]))) := by rw [List.length_append, flatO_snoc]; exact hown'
    clear hgrow hown' HOWZ HBLZ HBL HOWN HBZ HOZ c0 c1 c2 c3 c4 c5 c6 c7 c8 c9 c10
    go_wp2_with fail
    go_roundw
    case rel => exact ⟨E, _, rfl, unhide HOWN6, unhide HBL6, .inl ⟨hsm, unhide HNX⟩⟩
    case measure => simp [intOf]; omega
end Go.Proofs.YtiinpdkgnflmeaaDoor
namespace Go.Proofs.YtiinpdkgnflmeaaDoor
open Go.RowKit
open Mth

theorem readN_len (s : ByteArray) : ∀ f a, (readN s f a).1.length ≤ f := by
  intro f
  induction f with
  | zero => intro a; exact Nat.le_refl _
  | succ f ih =>
    intro a
    unfold readN
    split
    · have := ih (faE s a).toNat
      simp only [List.length_cons]
      omega
    · exact Nat.zero_le _
theorem rdAll_len (s : ByteArray) : (rdAll s).1.length ≤ 1048600 := by
  unfold rdAll
  split
  · have := readN_len s (s.size + 1) 0
    omega
  · exact Nat.zero_le _
theorem handle_lt {w : World} (h : Handle w) : 1 < w.heap.size := by
  rcases Nat.lt_or_ge 1 w.heap.size with h' | h'
  · exact h'
  · unfold Handle World.cell? at h
    rw [Array.getElem?_eq_none h'] at h
    cases h
theorem handle_keeps {F : List Nat} {w w' : World} (h : Handle w) (hk : KeepsL F w w') (hn : 1 ∉ F) : Handle w' := by
  have hlt := handle_lt h
  unfold Handle at h ⊢
  rw [← h]
  exact World.cell?_of_block (w := w) (hk.block _ hlt hn)
set_option maxRecDepth 100000 in
set_option maxHeartbeats 4000000 in
theorem fnExactRead_walk (s : ByteArray) (hs : s.size ≤ maxLen) (w : World) (hH : Handle w) : Calls Tryd.prog 4 #[.string s] w fun e w' => e = .returned (.bool true) ∧ Below w.heap.size w w' := by
  by_cases hbig : 1048576 < s.size
  · clear hs hH
    go_enter Tryd.func4, Tryd.ntmps4
    go_wp2_with fail
    go_ret
    exact ⟨rfl, Below.refl _ _⟩
  have HSR := hide (specRead s hs w)
  have HIR := hide (fun w1 h => implRead s hs w1 h)
  have hl := rdAll_len s
  have hel := handle_lt hH
  have HH := hide hH
  unfold GivesO at HSR HIR
  clear hs hH
  generalize (rdAll s).2 = E at *
  generalize (rdAll s).1 = l at *
  have HEQ := hide (fun a b ca cb w1 ha hb => eqOpS a b ca cb l w1 hl ha hb)
  go_enter Tryd.func4, Tryd.ntmps4
  go_wp2_with fail
  refine (unhide HSR).mono ?_
  rintro e w1 ⟨v0, rfl, ho0, hb1⟩
  obtain ⟨a0, c0, g0, rfl, hW0, hg0, _⟩ := GR.W.of_own encO_length ho0
  have HH1 := hide ((unhide HH).below hb1)
  have HW0 := hide hW0
  have HB1 := hide hb1
  have hs1 := hb1.size
  clear hb1 hW0 ho0 HSR
  go_wp2_with fail
  refine (unhide HIR w1 (unhide HH1)).mono ?_
  rintro e w2 ⟨v1, rfl, ho1, hb2⟩
  obtain ⟨a1, c1, g1, rfl, hW1, hg1, _⟩ := GR.W.of_own encO_length ho1
  have HH2 := hide ((unhide HH1).below hb2)
  have HW02 := hide ((unhide HW0).below hb2)
  have HW1 := hide hW1
  have HB2 := hide ((unhide HB1).trans (hb2.mono (unhide HB1).size))
  have hs2 := hb2.size
  clear hb2 hW1 ho1 HW0 HB1 HH1
  go_wp2_with fail
  refine (unhide HEQ a1 a0 c1 c0 w2 (unhide HW1).at (unhide HW02).at).mono ?_
  rintro e w3 ⟨rfl, hb3⟩
  have HH3 := hide ((unhide HH2).below hb3)
  have HW03 := hide ((unhide HW02).below hb3)
  have HW13 := hide ((unhide HW1).below hb3)
  have HB3 := hide ((unhide HB2).trans (hb3.mono (unhide HB2).size))
  have hs3 := hb3.size
  clear hb3 HW02 HW1 HB2 HH2
  go_wp2_with fail
  refine (markOpG a1 g1 c1 1 l w3 (by omega) (by omega) hl (unhide HW13)).mono ?_
  rintro e w4 ⟨rfl, hW14, hk4⟩
  have HF := hide (show ∀ x ∈ fp g1 l, w1.heap.size ≤ x from fun x hx => (hg1 x hx).1)
  have HH4 := hide (handle_keeps (unhide HH3) hk4 (fun h => by have := unhide HF _ h; omega))
  have HW04 := hide ((unhide HW03).keeps hk4 (fun x hx h => by have := unhide HF _ h; have := (hg0 x hx).2; omega))
  have HW14 := hide hW14
  have HB4 := hide ((unhide HB3).trans (hk4.below (B := w.heap.size) (fun x hx => by have := unhide HF x hx; omega) (by omega)))
  have hs4 := hk4.size
  clear hW14 hk4 HW03 HW13 HB3 HH3
  go_wp2_with fail
  refine (heldOpG a1 g1 c1 l.length 1 l w4 rfl (by omega) (by omega) hl (unhide HW14)).mono ?_
  rintro e w5 ⟨rfl, hb5⟩
  have HH5 := hide ((unhide HH4).below hb5)
  have HW05 := hide ((unhide HW04).below hb5)
  have HW15 := hide ((unhide HW14).below hb5)
  have HB5 := hide ((unhide HB4).trans (hb5.mono (unhide HB4).size))
  have hs5 := hb5.size
  clear hb5 HW04 HW14 HB4 HH4
  have hnn : ¬ (((1 : Nat) : Int) + 11 * (l.length : Int) < 0) := by omega
  go_wp2_with fail
  refine (unhide HIR w5 (unhide HH5)).mono ?_
  rintro e w6 ⟨v2, rfl, ho2, hb6⟩
  obtain ⟨a2, c2, g2, rfl, hW2, _, _⟩ := GR.W.of_own encO_length ho2
  have HW06 := hide ((unhide HW05).below hb6)
  have HW16 := hide ((unhide HW15).below hb6)
  have HW2 := hide hW2
  have HB6 := hide ((unhide HB5).trans (hb6.mono (unhide HB5).size))
  clear hb6 hW2 ho2 HW05 HW15 HB5 HH5
  go_wp2_with fail
  refine (unhide HEQ a2 a0 c2 c0 w6 (unhide HW2).at (unhide HW06).at).mono ?_
  rintro e w7 ⟨rfl, hb7⟩
  have HW17 := hide ((unhide HW16).below hb7)
  have HB7 := hide ((unhide HB6).trans (hb7.mono (unhide HB6).size))
  clear hb7 HW06 HW16 HB6 HW2
  go_wp2_with fail
  refine (heldOpG a1 g1 c1 l.length 1 l w7 rfl (by omega) (by omega) hl (unhide HW17)).mono ?_
  rintro e w8 ⟨rfl, hb8⟩
  have HB8 := hide ((unhide HB7).trans (hb8.mono (unhide HB7).size))
  clear hb8 HW17 HB7
  go_wp2_with fail
  go_ret
  exact ⟨rfl, unhide HB8⟩
end Go.Proofs.YtiinpdkgnflmeaaDoor
