/-
  The laws' own loops on rows of truths: held against each other, marked, looked for.
-/
import Derived.Test.YthjpjamihlopeaaBkAllU
import Derived.Test.YthjpjamihlopeaaKeeps
import Derived.Deep.QuietTactic
namespace Go.Proofs.Ythjpjamihlopeaa
open Go.RowKit
open Mth

/-- A row of truths in a block of its own, which may be written. -/
def RowW (w : World) (a : Option Addr) (g : Nat) (xs : List Bool) : Prop := ∀ i (hi : i < xs.length), a = some ⟨g, 0, none⟩ ∧ g < w.heap.size ∧ w.cell? ⟨g, i, none⟩ = some (.bool xs[i]) ∧ w.frozen? ⟨g, i, none⟩ = false
theorem RowW.rowB {w : World} {a : Option Addr} {g : Nat} {xs : List Bool} (h : RowW w a g xs) : RowB w a xs := fun i hi => ⟨g, (h i hi).1, (h i hi).2.1, (h i hi).2.2.1⟩
theorem RowW.below {w w' : World} {a : Option Addr} {g : Nat} {xs : List Bool} (h : RowW w a g xs) (hb : Below w.heap.size w w') : RowW w' a g xs := fun i hi => by
  obtain ⟨e, hg, hc, hf⟩ := h i hi
  exact ⟨e, Nat.lt_of_lt_of_le hg hb.size, (hb.cell (p := ⟨g, i, none⟩) hg).trans hc, (hb.frozen (p := ⟨g, i, none⟩) hg).trans hf⟩
theorem RowW.keeps {w w' : World} {a : Option Addr} {g g' : Nat} {xs : List Bool} (h : RowW w a g xs) (hk : Keeps g' w w') (hne : g ≠ g') : RowW w' a g xs := fun i hi => by
  obtain ⟨e, hg, hc, hf⟩ := h i hi
  exact ⟨e, Nat.lt_of_lt_of_le hg hk.size, (World.cell?_of_block (w := w) (hk.block g hg hne)).trans hc, (World.frozen?_of_block (w := w) (hk.block g hg hne)).trans hf⟩
theorem RowW.set {w : World} {a : Option Addr} {g : Nat} {xs : List Bool} (h : RowW w a g xs) (k : Nat) (t : Bool) (hk : k < xs.length) : RowW (w.setCell ⟨g, k, none⟩ (.bool t)) a g (xs.set k t) := fun i hi => by
  have hi' : i < xs.length := by simpa using hi
  obtain ⟨e, hg, hc, hf⟩ := h i hi'
  refine ⟨e, by simpa [World.setCell] using hg, ?_, by rw [World.frozen?_setCell]; exact hf⟩
  by_cases hik : i = k
  · subst hik
    rw [World.cell?_setCell_same _ _ _ hc]
    simp
  · rw [World.cell?_setCell_other _ _ _ _ (by simp <;> omega), hc, List.getElem_set_ne (by omega)]

set_option maxRecDepth 100000 in
set_option maxHeartbeats 1000000 in
theorem eqBoolS (a b : Option Addr) (ca cb : Nat) (xs : List Bool) (w : World) (hl : xs.length ≤ 1048576) (ha : RowB w a xs) (hb : RowB w b xs) :
    Calls Try.prog 30 #[.slice a xs.length ca, .slice b xs.length cb] w fun e w' => e = .returned (.bool true) ∧ Below w.heap.size w w' := by
  have HA := hide ha
  have HB := hide hb
  clear ha hb
  go_enter Try.func30, Try.ntmps30
  go_wp2
  go_loopw [5] (fun i wr => ∃ k q : Nat, k ≤ xs.length ∧ i = .int .i64 k ∧ wr = w.drewN q) (fun i _ => xs.length - (intOf i).toNat)
  case atStart => exact ⟨0, 0, Nat.zero_le _, rfl, rfl⟩
  case round =>
    obtain ⟨k, q, hk, rfl, rfl⟩ := hrel
    by_cases hlt : k < xs.length
    · obtain ⟨g1, rfl, _, c1⟩ := unhide HA k hlt
      obtain ⟨g2, rfl, _, c2⟩ := unhide HB k hlt
      generalize xs[k] = t at *
      go_wp2_with fail
      go_quiet (fail)
      go_wp2
      go_roundw
      case rel => exact ⟨k + 1, _, by omega, by go_num, rfl⟩
      case measure => simp [intOf]; omega
    · have hke : k = xs.length := by omega
      subst hke
      have hnlt : decide ((xs.length : Int) < (xs.length : Int)) = false := by simp
      go_wp2
      go_ret
      exact ⟨rfl, ⟨rfl, rfl, rfl, Nat.le_refl _, fun _ _ => rfl⟩⟩

/-- The mark of a place. -/
def mkb (i : Nat) : Bool := (1 + (i : Int)) % 3 == 0
def marksB (xs : List Bool) (k : Nat) : List Bool := (List.range k).map mkb ++ xs.drop k
theorem marksB_length (xs : List Bool) (k : Nat) (h : k ≤ xs.length) : (marksB xs k).length = xs.length := by simp [marksB]; omega
theorem marksB_set (xs : List Bool) (k : Nat) (h : k < xs.length) : (marksB xs k).set k (mkb k) = marksB xs (k + 1) := by
  unfold marksB
  have hl : ((List.range k).map mkb).length = k := by simp
  rw [List.set_append_right _ _ (by omega), hl, Nat.sub_self, List.drop_eq_getElem_cons h, List.range_succ, List.map_append, List.append_assoc]
  rfl
theorem marksB_at (xs : List Bool) (k : Nat) (h : k < xs.length) (hk : k < (marksB xs xs.length).length) : (marksB xs xs.length)[k] = mkb k := by
  have e : (marksB xs xs.length)[k]? = some (mkb k) := by
    unfold marksB
    rw [List.getElem?_append_left (by simpa using h)]
    simp [h]
  exact Option.some.inj ((List.getElem?_eq_getElem hk).symm.trans e)

set_option maxRecDepth 100000 in
set_option maxHeartbeats 1000000 in
theorem markBoolS (a : Option Addr) (g c : Nat) (xs : List Bool) (w : World) (hl : xs.length ≤ 1048576) (ha : RowW w a g xs) :
    Calls Try.prog 33 #[.slice a xs.length c, .int .i64 1] w fun e w' => e = .returned (.int .i64 (1 + (xs.length : Int))) ∧ RowW w' a g (marksB xs xs.length) ∧ Keeps g w w' := by
  have HA := hide ha
  clear ha
  go_enter Try.func33, Try.ntmps33
  go_wp2_with fail
  go_loopw [1, 5] (fun kk i wr => ∃ k : Nat, k ≤ xs.length ∧ i = .int .i64 k ∧ kk = .int .i64 (1 + (k : Int)) ∧ RowW wr a g (marksB xs k) ∧ Keeps g w wr) (fun _ i _ => xs.length - (intOf i).toNat)
  case atStart => exact ⟨0, Nat.zero_le _, rfl, rfl, by simpa [marksB] using unhide HA, Keeps.refl _ _⟩
  case round =>
    obtain ⟨k, hk, rfl, rfl, hR, hkp⟩ := hrel
    have HR := hide hR
    have HK := hide hkp
    clear hR hkp
    by_cases hlt : k < xs.length
    · have hml := marksB_length xs k hk
      obtain ⟨rfl, hg, c1, f1⟩ := unhide HR k (by omega)
      have hmk : ((1 + (k : Int)).tmod 3 == 0) = mkb k := by unfold mkb; rw [Int.tmod_eq_emod_of_nonneg (by omega)]
      have HMK := hide hmk
      generalize (marksB xs k)[k]'(by omega) = old at c1
      clear hmk
      go_wp2_with fail
      go_roundw
      case rel =>
        have h := (unhide HR).set k (mkb k) (by omega)
        rw [marksB_set xs k hlt] at h
        refine ⟨k + 1, by omega, by go_num, by go_num, ?_, (unhide HK).trans (Keeps.set _)⟩
        first
          | exact h
          | (rw [unhide HMK]; exact h)
      case measure => simp [intOf]; omega
    · have hke : k = xs.length := by omega
      subst hke
      have hnlt : decide ((xs.length : Int) < (xs.length : Int)) = false := by simp
      go_wp2_with fail
      go_ret
      exact ⟨rfl, unhide HR, unhide HK⟩

set_option maxRecDepth 100000 in
set_option maxHeartbeats 1000000 in
theorem heldBoolS (a : Option Addr) (g c n : Nat) (xs : List Bool) (w : World) (hn : n = xs.length) (hl : xs.length ≤ 1048576) (ha : RowW w a g (marksB xs xs.length)) :
    Calls Try.prog 34 #[.slice a n c, .int .i64 1] w fun e w' => e = .returned (.int .i64 (1 + (xs.length : Int))) ∧ w = w' := by
  have HA := hide ha
  clear ha
  subst hn
  go_enter Try.func34, Try.ntmps34
  go_wp2_with fail
  go_loopw [1, 5] (fun kk i wr => ∃ k : Nat, k ≤ xs.length ∧ i = .int .i64 k ∧ kk = .int .i64 (1 + (k : Int)) ∧ wr = w) (fun _ i _ => xs.length - (intOf i).toNat)
  case atStart => exact ⟨0, Nat.zero_le _, rfl, rfl, rfl⟩
  case round =>
    obtain ⟨k, hk, rfl, rfl, rfl⟩ := hrel
    by_cases hlt : k < xs.length
    · have hml := marksB_length xs xs.length (Nat.le_refl _)
      obtain ⟨rfl, hg, c1, f1⟩ := unhide HA k (by omega)
      rw [marksB_at xs k hlt] at c1
      have hmk : ((1 + (k : Int)) % 3 == 0) = mkb k := rfl
      generalize mkb k = mb at *
      go_wp2_with fail
      go_roundw
      case rel => exact ⟨k + 1, by omega, by go_num, by go_num, by first | rfl | trivial⟩
      case measure => simp [intOf]; omega
    · have hke : k = xs.length := by omega
      subst hke
      have hnlt : decide ((xs.length : Int) < (xs.length : Int)) = false := by simp
      go_wp2_with fail
      go_ret
      exact ⟨rfl, rfl⟩
end Go.Proofs.Ythjpjamihlopeaa
