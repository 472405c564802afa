/-
  Lists of purses: every cell of one marked, and looked for.
-/
import Derived.Test.YtdlhlfndobbocaaDoorPuSz
import Derived.Test.YtdlhlfndobbocaaDoorMark
import Derived.Test.YtdlhlfndobbocaaDoorKeeps
namespace Go.Proofs.YtdlhlfndobbocaaDoor
open Go.RowKit
open Mth

/-- A row of purses in a block of its own, which may be written. -/
def PuW (w : World) (a : Option Addr) (g : Nat) (l : List Pu) : Prop := ∀ i (hi : i < l.length), a = some ⟨g, 0, none⟩ ∧ g < w.heap.size ∧ ∀ j, j < 4 → w.cell? ⟨g, i * 4 + j, none⟩ = (encP l[i])[j]? ∧ w.frozen? ⟨g, i * 4 + j, none⟩ = false
theorem PuW.at {w : World} {a : Option Addr} {g : Nat} {l : List Pu} (h : PuW w a g l) : PursesAt w a l := fun i hi =>
  ⟨g, 0, (h i hi).1, (h i hi).2.1, fun j hj => by rw [Nat.zero_add]; exact ((h i hi).2.2 j hj).1⟩
theorem PuW.of_blk {w : World} {g : Nat} {l : List Pu} (h : puBlk w g l) : PuW w (some ⟨g, 0, none⟩) g l := fun i hi =>
  ⟨rfl, GR.Blk.lt h, fun j hj => ⟨GR.Blk.cell h encP_length i hi j hj, GR.Blk.free h _⟩⟩
theorem PuW.nil {w : World} {a : Option Addr} {g : Nat} : PuW w a g [] := fun i hi => by simp at hi
theorem PuW.below {w w' : World} {a : Option Addr} {g : Nat} {l : List Pu} (h : PuW w a g l) (hb : Below w.heap.size w w') : PuW w' a g l := fun i hi => by
  obtain ⟨e, hg, hc⟩ := h i hi
  exact ⟨e, Nat.lt_of_lt_of_le hg hb.size, fun j hj => ⟨(hb.cell (p := ⟨g, i * 4 + j, none⟩) hg).trans (hc j hj).1, (hb.frozen (p := ⟨g, i * 4 + j, none⟩) hg).trans (hc j hj).2⟩⟩
theorem PuW.keeps {w w' : World} {a : Option Addr} {g g' : Nat} {l : List Pu} (h : PuW w a g l) (hk : Keeps g' w w') (hne : l = [] ∨ g ≠ g') : PuW w' a g l := by
  rcases hne with rfl | hne
  · exact PuW.nil
  · intro i hi
    obtain ⟨e, hg, hc⟩ := h i hi
    exact ⟨e, Nat.lt_of_lt_of_le hg hk.size, fun j hj => ⟨(World.cell?_of_block (w := w) (hk.block g hg hne)).trans (hc j hj).1, (World.frozen?_of_block (w := w) (hk.block g hg hne)).trans (hc j hj).2⟩⟩
theorem PuW.four {w : World} {a : Option Addr} {g : Nat} {l : List Pu} (h : PuW w a g l) (i : Nat) (hi : i < l.length) : a = some ⟨g, 0, none⟩ ∧ g < w.heap.size ∧ (w.cell? ⟨g, i * 4, none⟩ = some (.string l[i].k) ∧ w.cell? ⟨g, i * 4 + 1, none⟩ = some (.int .i64 l[i].m) ∧ w.cell? ⟨g, i * 4 + 2, none⟩ = some (.int .i64 l[i].f) ∧ w.cell? ⟨g, i * 4 + 3, none⟩ = some (.int .i64 l[i].s)) ∧ w.frozen? ⟨g, i * 4, none⟩ = false ∧ w.frozen? ⟨g, i * 4 + 1, none⟩ = false ∧ w.frozen? ⟨g, i * 4 + 2, none⟩ = false ∧ w.frozen? ⟨g, i * 4 + 3, none⟩ = false := by
  obtain ⟨e, hg, hc⟩ := h i hi
  exact ⟨e, hg, ⟨by simpa using (hc 0 (by omega)).1, by simpa using (hc 1 (by omega)).1, by simpa using (hc 2 (by omega)).1, by simpa using (hc 3 (by omega)).1⟩, by simpa using (hc 0 (by omega)).2, (hc 1 (by omega)).2, (hc 2 (by omega)).2, (hc 3 (by omega)).2⟩
theorem setW_cell_other {g k : Nat} : ∀ (vs : List Value) (w : World) (o : Nat), k < o ∨ o + vs.length ≤ k → (GR.setW w g o vs).cell? ⟨g, k, none⟩ = w.cell? ⟨g, k, none⟩ := by
  intro vs
  induction vs with
  | nil => intro w o _; rfl
  | cons v vs ih =>
    intro w o h
    rw [List.length_cons] at h
    exact (ih (w.setCell ⟨g, o, none⟩ v) (o + 1) (by omega)).trans (World.cell?_setCell_other _ _ _ _ (by simp <;> omega))
theorem setW_cell_same {g : Nat} : ∀ (vs : List Value) (w : World) (o : Nat), (∀ j, j < vs.length → ∃ v, w.cell? ⟨g, o + j, none⟩ = some v) → ∀ j, j < vs.length → (GR.setW w g o vs).cell? ⟨g, o + j, none⟩ = vs[j]? := by
  intro vs
  induction vs with
  | nil => intro w o _ j hj; simp at hj
  | cons v vs ih =>
    intro w o h j hj
    cases j with
    | zero =>
      obtain ⟨v0, hv0⟩ := h 0 (by simp)
      rw [Nat.add_zero] at hv0 ⊢
      refine (setW_cell_other vs (w.setCell ⟨g, o, none⟩ v) (o + 1) (by omega)).trans ?_
      rw [World.cell?_setCell_same _ _ _ hv0]
      rfl
    | succ j =>
      have h2 := ih (w.setCell ⟨g, o, none⟩ v) (o + 1) (fun j' hj' => by
        obtain ⟨v1, hv1⟩ := h (j' + 1) (by simpa using hj')
        refine ⟨v1, (World.cell?_setCell_other _ _ _ _ (by simp <;> omega)).trans ?_⟩
        rw [← hv1, show o + 1 + j' = o + (j' + 1) by omega]) j (by simpa using hj)
      rw [show o + 1 + j = o + (j + 1) by omega] at h2
      exact h2
theorem setW_frozen {g k : Nat} : ∀ (vs : List Value) (w : World) (o : Nat), (GR.setW w g o vs).frozen? ⟨g, k, none⟩ = w.frozen? ⟨g, k, none⟩ := by
  intro vs
  induction vs with
  | nil => intro w o; rfl
  | cons v vs ih => intro w o; exact (ih (w.setCell ⟨g, o, none⟩ v) (o + 1)).trans (by rw [World.frozen?_setCell])
theorem setW_size {g : Nat} : ∀ (vs : List Value) (w : World) (o : Nat), (GR.setW w g o vs).heap.size = w.heap.size := by
  intro vs
  induction vs with
  | nil => intro w o; rfl
  | cons v vs ih => intro w o; exact (ih (w.setCell ⟨g, o, none⟩ v) (o + 1)).trans (by simp [World.setCell])
theorem PuW.set {w : World} {a : Option Addr} {g : Nat} {l : List Pu} (h : PuW w a g l) (k : Nat) (x : Pu) (hk : k < l.length) : PuW (GR.setW w g (k * 4) (encP x)) a g (l.set k x) := fun i hi => by
  have hi' : i < l.length := by simpa using hi
  obtain ⟨e, hg, hc⟩ := h i hi'
  refine ⟨e, by rw [setW_size]; exact hg, fun j hj => ⟨?_, by rw [setW_frozen]; exact (hc j hj).2⟩⟩
  by_cases hik : i = k
  · subst hik
    rw [setW_cell_same (encP x) w (i * 4) (fun j' hj' => by
      have hj4 : j' < 4 := by rw [encP_length] at hj'; exact hj'
      have h1 := (hc j' hj4).1
      rw [List.getElem?_eq_getElem (by rw [encP_length]; exact hj4)] at h1
      exact ⟨_, h1⟩) j (by rw [encP_length]; exact hj)]
    simp
  · rw [setW_cell_other (encP x) w (k * 4) (by rw [encP_length]; omega), (hc j hj).1, List.getElem_set_ne (by omega)]

/-- The marked purse from a number on. -/
def mpu (k : Nat) : Pu := ⟨mark k, (k : Int) + 1, (k : Int) + 2, (k : Int) + 3⟩
def marksP (l : List Pu) (k : Nat) : List Pu := (List.range k).map (fun i => mpu (1 + 4 * i)) ++ l.drop k
theorem marksP_length (l : List Pu) (k : Nat) (hk : k ≤ l.length) : (marksP l k).length = l.length := by simp [marksP]; omega
theorem marksP_set (l : List Pu) (k : Nat) (hk : k < l.length) : (marksP l k).set k (mpu (1 + 4 * k)) = marksP l (k + 1) := by
  have e : l.drop k = l[k] :: l.drop (k + 1) := List.drop_eq_getElem_cons hk
  unfold marksP
  rw [e, List.set_append_right _ _ (by simp)]
  simp only [List.length_map, List.length_range, Nat.sub_self, List.set_cons_zero, List.range_succ, List.map_append, List.map_cons, List.map_nil, List.append_assoc, List.cons_append, List.nil_append]
theorem marksP_at (l : List Pu) (n k : Nat) (hk : k < n) (hn : n ≤ l.length) : (marksP l n)[k]'(by rw [marksP_length l n hn]; omega) = mpu (1 + 4 * k) := by
  unfold marksP
  rw [List.getElem_append_left (by simpa using hk)]
  simp

set_option maxRecDepth 100000 in
set_option maxHeartbeats 2000000 in
theorem markPurseS (a : Option Addr) (g c : Nat) (l : List Pu) (w : World) (hl : l.length ≤ 1048600) (ha : PuW w a g l) :
    Calls Tryd.prog 31 #[.slice a l.length c, .int .i64 1] w fun e w' => e = .returned (.int .i64 (1 + 4 * (l.length : Int))) ∧ PuW w' a g (marksP l l.length) ∧ Keeps g w w' := by
  have HA := hide ha
  clear ha
  go_enter Tryd.func31, Tryd.ntmps31
  go_wp2_with fail
  go_loopw [1, 5] (fun kk i wr => ∃ k m : Nat, k ≤ l.length ∧ i = .int .i64 k ∧ kk = .int .i64 m ∧ m = 1 + 4 * k ∧ PuW wr a g (marksP l k) ∧ Keeps g w wr) (fun _ i _ => l.length - (intOf i).toNat)
  case atStart => exact ⟨0, 1, Nat.zero_le _, rfl, rfl, rfl, by simpa [marksP] using unhide HA, Keeps.refl _ _⟩
  case round =>
    obtain ⟨k, m, hk, rfl, rfl, hm, hR, hkp⟩ := hrel
    have HM := hide hm
    have HR := hide hR
    have HK := hide hkp
    clear hR hkp
    by_cases hlt : k < l.length
    · have hml := marksP_length l k hk
      have hm0 : 0 < m := by omega
      have hm1 : (m : Int) ≤ 92233720368547758 := by omega
      have e0 := (PuW.four (unhide HR) k (by omega)).1
      subst e0
      have HMT := hide (fun w1 => markText m w1 hm0 (by omega))
      have HML := hide hml
      clear hm hml
      go_wp2_with (go_at_call 44; refine (unhide HMT _).mono ?_; rintro e w1 ⟨rfl, hb1⟩; have HR1 := hide (PuW.below (unhide HR) hb1); have HK1 := hide ((unhide HK).trans (Keeps.of_below hb1)); clear hb1; obtain ⟨_, hg1, ⟨s0, s1, s2, s3⟩, f0, f1, f2, f3⟩ := PuW.four (unhide HR1) k (by rw [unhide HML]; exact hlt))
      go_roundw
      case rel =>
        have h := PuW.set (unhide HR1) k (mpu (1 + 4 * k)) (by rw [unhide HML]; exact hlt)
        rw [marksP_set l k hlt, ← unhide HM] at h
        refine ⟨k + 1, m + 4, by omega, by go_num, by go_num, by have := unhide HM; omega, ?_, (unhide HK1).trans ((((Keeps.set _).trans (Keeps.set _)).trans (Keeps.set _)).trans (Keeps.set _))⟩
        have e1 : (m : Int) + 1 + 1 = m + 2 := by omega
        have e2 : (m : Int) + 1 + 1 + 1 = m + 3 := by omega
        first
          | exact h
          | (rw [e2, e1]; exact h)
          | (simp only [e2, e1]; exact h)
      case measure => simp [intOf]; omega
    · have hke : k = l.length := by omega
      subst hke
      have hnlt : decide ((l.length : Int) < (l.length : Int)) = false := by simp
      clear hm
      go_wp2_with fail
      go_ret
      exact ⟨ret_int (by have := unhide HM; omega), unhide HR, unhide HK⟩

set_option maxRecDepth 100000 in
set_option maxHeartbeats 2000000 in
theorem heldPurseS (a : Option Addr) (g c n : Nat) (l : List Pu) (w : World) (hn : n = l.length) (hl : l.length ≤ 1048600) (ha : PuW w a g (marksP l l.length)) :
    Calls Tryd.prog 32 #[.slice a n c, .int .i64 1] w fun e w' => e = .returned (.int .i64 (1 + 4 * (l.length : Int))) ∧ Below w.heap.size w w' := by
  have HA := hide ha
  clear ha
  subst hn
  go_enter Tryd.func32, Tryd.ntmps32
  go_wp2_with fail
  go_loopw [1, 5] (fun kk i wr => ∃ k m : Nat, k ≤ l.length ∧ i = .int .i64 k ∧ kk = .int .i64 m ∧ m = 1 + 4 * k ∧ Below w.heap.size w wr) (fun _ i _ => l.length - (intOf i).toNat)
  case atStart => exact ⟨0, 1, Nat.zero_le _, rfl, rfl, rfl, Below.refl _ _⟩
  case round =>
    obtain ⟨k, m, hk, rfl, rfl, hm, hbel⟩ := hrel
    have HM := hide hm
    have HBL := hide hbel
    clear hbel
    by_cases hlt : k < l.length
    · have hm0 : 0 < m := by omega
      have hm1 : (m : Int) ≤ 92233720368547758 := by omega
      obtain ⟨rfl, hgl, ⟨s0, s1, s2, s3⟩, _⟩ := PuW.four (PuW.below (unhide HA) (unhide HBL)) k (by rw [marksP_length l l.length (Nat.le_refl _)]; exact hlt)
      rw [marksP_at l l.length k hlt (Nat.le_refl _), ← hm] at s0 s1 s2 s3
      dsimp only [mpu] at s0 s1 s2 s3
      have HMT := hide (fun w1 => markText m w1 hm0 (by omega))
      clear hm
      go_wp2_with fail
      go_region_with (go_at_call 44; refine (unhide HMT _).mono ?_; rintro e w1 ⟨rfl, hb1⟩; have hc0 := (bcell hb1).1 g (k * 4) (by simpa using hgl); have hc1 := (bcell hb1).1 g (k * 4 + 1) (by simpa using hgl); have hc2 := (bcell hb1).1 g (k * 4 + 2) (by simpa using hgl); have hc3 := (bcell hb1).1 g (k * 4 + 3) (by simpa using hgl); have HBL1 := hide ((unhide HBL).trans (((Below.refl _ _).drew.trans hb1).mono (unhide HBL).size)); clear hb1)
      all_goals
        go_wp2_with fail
        go_roundw
        case rel => exact ⟨k + 1, m + 4, by omega, by go_num, by go_num, by have := unhide HM; omega, unhide HBL1⟩
        case measure => simp [intOf]; omega
    · have hke : k = l.length := by omega
      subst hke
      have hnlt : decide ((l.length : Int) < (l.length : Int)) = false := by simp
      clear hm
      go_wp2_with fail
      go_ret
      exact ⟨ret_int (by have := unhide HM; omega), unhide HBL⟩
end Go.Proofs.YtdlhlfndobbocaaDoor
