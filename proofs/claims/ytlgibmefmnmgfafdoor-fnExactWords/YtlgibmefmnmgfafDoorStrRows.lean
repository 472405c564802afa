/-
  The laws' own helpers over a list of texts: are two lists equal; the places marked; are the marks held.
-/
import Derived.Test.YtlgibmefmnmgfafDoorMark
import Derived.Deep.QuietTactic
import Derived.BigQuiet
import Derived.Deep.RegionWith
import Derived.OneCell
namespace Go.Proofs.YtlgibmefmnmgfafDoor
open Go.RowKit

/-- A block that holds just these texts. -/
def strBlock (w : World) (g : Nat) (xs : List ByteArray) : Prop := w.heap[g]? = some (.cells (xs.map Value.string).toArray 9 (0, 0))
theorem strBlock.cell {w : World} {g : Nat} {xs : List ByteArray} (h : strBlock w g xs) (i : Nat) (hi : i < xs.length) : w.cell? ⟨g, i, none⟩ = some (.string xs[i]) := by
  rw [cell_of_row w g i _ 9 (0, 0) h]; simp [hi]
theorem strBlock.free {w : World} {g : Nat} {xs : List ByteArray} (h : strBlock w g xs) (i : Nat) : w.frozen? ⟨g, i, none⟩ = false := by
  unfold World.frozen?; rw [h]; simp
theorem strBlock.lt {w : World} {g : Nat} {xs : List ByteArray} (h : strBlock w g xs) : g < w.heap.size := by
  rcases Nat.lt_or_ge g w.heap.size with h' | h'
  · exact h'
  · rw [strBlock, Array.getElem?_eq_none h'] at h; cases h
theorem strBlock.below {w w' : World} {g B : Nat} {xs : List ByteArray} (h : strBlock w g xs) (hb : Below B w w') (hg : g < B) : strBlock w' g xs := by
  unfold strBlock; rw [hb.block g hg]; exact h
theorem strBlock.set {w : World} {g : Nat} {xs : List ByteArray} (h : strBlock w g xs) (i : Nat) (t : ByteArray) : strBlock (w.setCell ⟨g, i, none⟩ (.string t)) g (xs.set i t) := by
  unfold strBlock World.setCell
  simp only [Array.getElem?_modify]
  rw [if_pos trivial, h]
  simp

set_option maxHeartbeats 1000000 in
theorem eqStrings (ga gb ca cb : Nat) (xs : List ByteArray) (w : World) (hmax : xs.length ≤ 9223372036854775807) (ha : ∀ i (hi : i < xs.length), w.cell? ⟨ga, i, none⟩ = some (.string xs[i])) (hb : ∀ i (hi : i < xs.length), w.cell? ⟨gb, i, none⟩ = some (.string xs[i])) :
    Calls Tryd.prog 12 #[.slice (some ⟨ga, 0, none⟩) xs.length ca, .slice (some ⟨gb, 0, none⟩) xs.length cb] w fun e w' => e = .returned (.bool true) ∧ ∃ q, w' = w.drewN q := by
  have HA := hide ha
  have HB := hide hb
  clear ha hb
  go_enter Tryd.func12, Tryd.ntmps12
  go_wp2
  go_loopw [5] (fun i wr => ∃ k q : Nat, k ≤ xs.length ∧ i = .int .i64 k ∧ wr = w.drewN q) (fun i _ => xs.length - (intOf i).toNat)
  case atStart => exact ⟨0, 0, Nat.zero_le _, rfl, rfl⟩
  case round =>
    obtain ⟨k, q, hk, rfl, rfl⟩ := hrel
    by_cases hlt : k < xs.length
    · have c1 := unhide HA k hlt
      have c2 := unhide HB k hlt
      go_wp2_with fail
      go_quiet (fail)
      go_wp2
      go_roundw
      case rel => exact ⟨k + 1, _, by omega, by go_num, rfl⟩
      case measure => simp [intOf]; omega
    · go_wp2
      go_ret
      exact ⟨rfl, q, rfl⟩

/-- All but one block reads as before; new blocks may lie behind. -/
structure Keeps (g : Nat) (w w' : World) : Prop where
  os : w'.os = w.os
  tape : w'.tape = w.tape
  output : w'.output = w.output
  size : w.heap.size ≤ w'.heap.size
  block : ∀ k, k < w.heap.size → k ≠ g → w'.heap[k]? = w.heap[k]?
theorem Keeps.refl (g : Nat) (w : World) : Keeps g w w := ⟨rfl, rfl, rfl, Nat.le_refl _, fun _ _ _ => rfl⟩
theorem Keeps.trans {g : Nat} {a b c : World} (h : Keeps g a b) (k : Keeps g b c) : Keeps g a c :=
  ⟨k.os.trans h.os, k.tape.trans h.tape, k.output.trans h.output, Nat.le_trans h.size k.size, fun i hi hg => (k.block i (Nat.lt_of_lt_of_le hi h.size) hg).trans (h.block i hi hg)⟩
theorem Keeps.of_below {g : Nat} {w w' : World} (h : Below w.heap.size w w') : Keeps g w w' := ⟨h.os, h.tape, h.output, h.size, fun k hk _ => h.block k hk⟩
theorem Keeps.set {g i : Nat} {w : World} (v : Value) : Keeps g w (w.setCell ⟨g, i, none⟩ v) :=
  ⟨rfl, rfl, rfl, by simp [World.setCell], fun k _ hg => Below.heap_setCell _ _ _ _ hg⟩
theorem Keeps.below {g B : Nat} {w w' : World} (h : Keeps g w w') (hB : B ≤ g) (hs : B ≤ w.heap.size) : Below B w w' := ⟨h.os, h.tape, h.output, h.size, fun k hk => h.block k (by omega) (by omega)⟩
theorem strBlock.keeps {w w' : World} {g g' : Nat} {xs : List ByteArray} (h : strBlock w g' xs) (hk : Keeps g w w') (hne : g' ≠ g) : strBlock w' g' xs := by
  unfold strBlock; rw [hk.block g' h.lt hne]; exact h

theorem below_of_drewN {B q : Nat} {w w' : World} (h : Below B (w.drewN q) w') : Below B w w' := ⟨h.os, h.tape, h.output, h.size, h.block⟩

/-- The marks from a number on. -/
def marks (k n : Nat) : List ByteArray := (List.range n).map fun i => mark (k + i)
theorem marks_length (k n : Nat) : (marks k n).length = n := by simp [marks]
theorem marks_step (k i : Nat) (xs : List ByteArray) (hi : i < xs.length) : (marks k i ++ xs.drop i).set i (mark (k + i)) = marks k (i + 1) ++ xs.drop (i + 1) := by
  have e : xs.drop i = xs[i] :: xs.drop (i + 1) := List.drop_eq_getElem_cons hi
  rw [e, List.set_append_right _ _ (by rw [marks_length]; omega), marks_length, Nat.sub_self, List.set_cons_zero]
  simp [marks, List.range_succ]

set_option maxHeartbeats 1000000 in
theorem markStrings (g ca k0 : Nat) (xs : List ByteArray) (w : World) (h0 : 0 < k0) (hmax : ((k0 + xs.length : Nat) : Int) ≤ 9223372036854775806) (ha : strBlock w g xs) :
    Calls Tryd.prog 13 #[.slice (some ⟨g, 0, none⟩) xs.length ca, .int .i64 k0] w fun e w' => e = .returned (.int .i64 (k0 + xs.length : Nat)) ∧ strBlock w' g (marks k0 xs.length) ∧ Keeps g w w' := by
  have HA := hide ha
  clear ha
  go_enter Tryd.func13, Tryd.ntmps13
  go_wp2
  go_loopw [1, 5] (fun c i wr => ∃ j m : Nat, j ≤ xs.length ∧ i = .int .i64 j ∧ c = .int .i64 m ∧ m = k0 + j ∧ strBlock wr g (marks k0 j ++ xs.drop j) ∧ Keeps g w wr) (fun _ i _ => xs.length - (intOf i).toNat)
  case atStart => exact ⟨0, k0, Nat.zero_le _, rfl, rfl, rfl, by simpa [marks] using unhide HA, Keeps.refl _ _⟩
  case round =>
    obtain ⟨j, m, hj, rfl, rfl, hm, hblk, hkeep⟩ := hrel
    have HM := hide hm
    have HK := hide hkeep
    have hlen : (marks k0 j ++ xs.drop j).length = xs.length := by simp [marks_length]; omega
    by_cases hlt : j < xs.length
    · have HS := hide (marks_step k0 j xs hlt)
      have hm0 : 0 < m := by omega
      have hm1 : (m : Int) ≤ 9223372036854775806 := by omega
      have HB := hide hblk
      clear hm hkeep hblk hlen
      go_wp2_with (go_at_call 21; refine (markText m _ hm0 (by omega)).mono ?_; rintro e w1 ⟨rfl, hb1⟩; have HB1 := hide ((unhide HB).below hb1 (unhide HB).lt); have c1 := (unhide HB1).cell j (by simp [marks_length]; omega); have f1 := (unhide HB1).free j)
      go_roundw
      case rel => exact ⟨j + 1, m + 1, by omega, by go_num, by go_num, by have := unhide HM; omega, by rw [← unhide HS, ← unhide HM]; exact (unhide HB1).set j (mark m), (unhide HK).trans ((Keeps.of_below hb1).trans (Keeps.set _))⟩
      case measure => simp [intOf]; omega
    · have hj' : j = xs.length := by omega
      subst hj'
      have HE := hide (show strBlock wr g (marks k0 xs.length) by simpa using hblk)
      clear hm hkeep hblk hlen
      go_wp2
      go_ret
      exact ⟨ret_int (by have := unhide HM; omega), unhide HE, unhide HK⟩

set_option maxHeartbeats 1000000 in
theorem heldStrings (g ca k0 n : Nat) (w : World) (h0 : 0 < k0) (hmax : ((k0 + n : Nat) : Int) ≤ 9223372036854775806) (ha : strBlock w g (marks k0 n)) :
    Calls Tryd.prog 14 #[.slice (some ⟨g, 0, none⟩) n ca, .int .i64 k0] w fun e w' => e = .returned (.int .i64 (k0 + n : Nat)) ∧ Below w.heap.size w w' := by
  have HA := hide ha
  clear ha
  go_enter Tryd.func14, Tryd.ntmps14
  go_wp2
  go_loopw [1, 5] (fun c i wr => ∃ j m : Nat, j ≤ n ∧ i = .int .i64 j ∧ c = .int .i64 m ∧ m = k0 + j ∧ Below w.heap.size w wr) (fun _ i _ => n - (intOf i).toNat)
  case atStart => exact ⟨0, k0, Nat.zero_le _, rfl, rfl, rfl, Below.refl _ _⟩
  case round =>
    obtain ⟨j, m, hj, rfl, rfl, hm, hbel⟩ := hrel
    have HM := hide hm
    by_cases hlt : j < n
    · have hm0 : 0 < m := by omega
      have hm1 : (m : Int) ≤ 9223372036854775806 := by omega
      have c1 : wr.cell? ⟨g, j, none⟩ = some (.string (mark m)) := by
        have := ((unhide HA).below hbel (unhide HA).lt).cell j (by rw [marks_length]; exact hlt)
        rw [this]; simp [marks, hm]
      have hgl : g < wr.heap.size := Nat.lt_of_lt_of_le (unhide HA).lt hbel.size
      clear hm
      go_wp2_with fail
      go_region_with (go_at_call 21; refine (markText m _ hm0 (by omega)).mono ?_; rintro e w1 ⟨rfl, hb1⟩; have hc1 := (bcell hb1).1 g j (by simpa using hgl))
      all_goals
        go_wp2
        go_roundw
        case rel => exact ⟨j + 1, m + 1, by omega, by go_num, by go_num, by have := unhide HM; omega, hbel.trans (((Below.refl _ _).drew.trans hb1).mono hbel.size)⟩
        case measure => simp [intOf]; omega
    · clear hm
      go_wp2
      go_ret
      exact ⟨ret_int (by have := unhide HM; omega), hbel⟩
end Go.Proofs.YtlgibmefmnmgfafDoor
