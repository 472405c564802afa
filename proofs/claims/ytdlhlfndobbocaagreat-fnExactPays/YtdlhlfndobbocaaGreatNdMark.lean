/-
  The laws' own marking of rows, from a number on, and the marks looked for.
-/
import Derived.Test.YtdlhlfndobbocaaGreatNdW
import Derived.Test.YtdlhlfndobbocaaGreatMark
import Derived.Test.YtdlhlfndobbocaaGreatKeeps
namespace Go.Proofs.YtdlhlfndobbocaaGreat
open Go.RowKit
open Mth

theorem setW_cell_otherN {g k : Nat} : ∀ (vs : List Value) (w : World) (o : Nat), k < o ∨ o + vs.length ≤ k → (GR.setW w g o vs).cell? ⟨g, k, none⟩ = w.cell? ⟨g, k, none⟩ := by
  intro vs
  induction vs with
  | nil => intro w o _; rfl
  | cons v vs ih =>
    intro w o h
    rw [List.length_cons] at h
    exact (ih (w.setCell ⟨g, o, none⟩ v) (o + 1) (by omega)).trans (World.cell?_setCell_other _ _ _ _ (by simp <;> omega))
theorem setW_cell_sameN {g : Nat} : ∀ (vs : List Value) (w : World) (o : Nat), (∀ j, j < vs.length → ∃ v, w.cell? ⟨g, o + j, none⟩ = some v) → ∀ j, j < vs.length → (GR.setW w g o vs).cell? ⟨g, o + j, none⟩ = vs[j]? := by
  intro vs
  induction vs with
  | nil => intro w o _ j hj; simp at hj
  | cons v vs ih =>
    intro w o h j hj
    cases j with
    | zero =>
      obtain ⟨v0, hv0⟩ := h 0 (by simp)
      rw [Nat.add_zero] at hv0 ⊢
      refine (setW_cell_otherN vs (w.setCell ⟨g, o, none⟩ v) (o + 1) (by omega)).trans ?_
      rw [World.cell?_setCell_same _ _ _ hv0]
      rfl
    | succ j =>
      have h2 := ih (w.setCell ⟨g, o, none⟩ v) (o + 1) (fun j' hj' => by
        obtain ⟨v1, hv1⟩ := h (j' + 1) (by simpa using hj')
        refine ⟨v1, (World.cell?_setCell_other _ _ _ _ (by simp <;> omega)).trans ?_⟩
        rw [← hv1, show o + 1 + j' = o + (j' + 1) by omega]) j (by simpa using hj)
      rw [show o + 1 + j = o + (j + 1) by omega] at h2
      exact h2
theorem setW_frozenN {g k : Nat} : ∀ (vs : List Value) (w : World) (o : Nat), (GR.setW w g o vs).frozen? ⟨g, k, none⟩ = w.frozen? ⟨g, k, none⟩ := by
  intro vs
  induction vs with
  | nil => intro w o; rfl
  | cons v vs ih => intro w o; exact (ih (w.setCell ⟨g, o, none⟩ v) (o + 1)).trans (by rw [World.frozen?_setCell])
theorem setW_sizeN {g : Nat} : ∀ (vs : List Value) (w : World) (o : Nat), (GR.setW w g o vs).heap.size = w.heap.size := by
  intro vs
  induction vs with
  | nil => intro w o; rfl
  | cons v vs ih => intro w o; exact (ih (w.setCell ⟨g, o, none⟩ v) (o + 1)).trans (by simp [World.setCell])
theorem setW_keeps {g : Nat} : ∀ (vs : List Value) (w : World) (o : Nat), KeepsL [g] w (GR.setW w g o vs) := by
  intro vs
  induction vs with
  | nil => intro w o; exact KeepsL.refl _ _
  | cons v vs ih => intro w o; exact (KeepsL.set v).trans (ih (w.setCell ⟨g, o, none⟩ v) (o + 1))
theorem GR.W.set {α : Type} {enc : α → List Value} {sz : Nat} {w : World} {a : Option Addr} {g : Nat} {l : List α} (hs : ∀ x, (enc x).length = sz) (h : GR.W enc sz w a g l) (k : Nat) (x : α) (hk : k < l.length) : GR.W enc sz (GR.setW w g (k * sz) (enc x)) a g (l.set k x) := fun i hi => by
  have hi' : i < l.length := by simpa using hi
  obtain ⟨e, hg, hc⟩ := h i hi'
  refine ⟨e, by rw [setW_sizeN]; exact hg, fun j hj => ⟨?_, by rw [setW_frozenN]; exact (hc j hj).2⟩⟩
  by_cases hik : i = k
  · subst hik
    rw [setW_cell_sameN (enc x) w (i * sz) (fun j' hj' => by
      have hj4 : j' < sz := by rw [hs] at hj'; exact hj'
      have h1 := (hc j' hj4).1
      rw [List.getElem?_eq_getElem (by rw [hs]; exact hj4)] at h1
      exact ⟨_, h1⟩) j (by rw [hs]; exact hj)]
    simp
  · have hcase : i * sz + j < k * sz ∨ k * sz + sz ≤ i * sz + j := by
      rcases Nat.lt_or_gt_of_ne hik with h' | h'
      · left
        have := Nat.mul_le_mul_right sz (show i + 1 ≤ k by omega)
        rw [Nat.add_mul, Nat.one_mul] at this
        omega
      · right
        have := Nat.mul_le_mul_right sz (show k + 1 ≤ i by omega)
        rw [Nat.add_mul, Nat.one_mul] at this
        omega
    rw [setW_cell_otherN (enc x) w (k * sz) (by rw [hs]; exact hcase), (hc j hj).1, List.getElem_set_ne (by omega)]
/-- The first k marked, by a number's own mark. -/
def mks {α : Type} (mk : Nat → α) (c s : Nat) (l : List α) (k : Nat) : List α := (List.range k).map (fun i => mk (s + c * i)) ++ l.drop k
theorem mks_length {α : Type} (mk : Nat → α) (c s : Nat) (l : List α) (k : Nat) (hk : k ≤ l.length) : (mks mk c s l k).length = l.length := by simp [mks]; omega
theorem mks_zero {α : Type} (mk : Nat → α) (c s : Nat) (l : List α) : mks mk c s l 0 = l := by simp [mks]
theorem mks_set {α : Type} (mk : Nat → α) (c s : Nat) (l : List α) (k : Nat) (hk : k < l.length) : (mks mk c s l k).set k (mk (s + c * k)) = mks mk c s l (k + 1) := by
  have e : l.drop k = l[k] :: l.drop (k + 1) := List.drop_eq_getElem_cons hk
  unfold mks
  rw [e, List.set_append_right _ _ (by simp)]
  simp only [List.length_map, List.length_range, Nat.sub_self, List.set_cons_zero, List.range_succ, List.map_append, List.map_cons, List.map_nil, List.append_assoc, List.cons_append, List.nil_append]
theorem mks_at {α : Type} (mk : Nat → α) (c s : Nat) (l : List α) (n k : Nat) (hk : k < n) (hn : n ≤ l.length) : (mks mk c s l n)[k]'(by rw [mks_length mk c s l n hn]; omega) = mk (s + c * k) := by
  unfold mks
  rw [List.getElem_append_left (by simpa using hk)]
  simp
theorem fp_keeps {α : Type} {g : Nat} {l : List α} {w w' : World} (h : KeepsL [g] w w') (hl : 0 < l.length) : KeepsL (fp g l) w w' := h.mono (fun x hx => by
  have : x = g := by simpa using hx
  rw [this]
  exact fp_mem hl)
theorem fp_len {α β : Type} {g : Nat} {l : List α} {l' : List β} (h : l.length = l'.length) : fp g l = fp g l' := by
  unfold fp
  cases l with
  | nil => cases l' with | nil => rfl | cons y l' => simp at h
  | cons x l => cases l' with | nil => simp at h | cons y l' => rfl

/-- A row, cell by cell. -/
def GR.C (w : World) (a : Option Addr) (g : Nat) (cs : List Value) : Prop := ∀ j (hj : j < cs.length), a = some ⟨g, 0, none⟩ ∧ g < w.heap.size ∧ w.cell? ⟨g, j, none⟩ = some cs[j] ∧ w.frozen? ⟨g, j, none⟩ = false
theorem GR.C.set {w : World} {a : Option Addr} {g : Nat} {cs : List Value} (h : GR.C w a g cs) (k : Nat) (v : Value) : GR.C (w.setCell ⟨g, k, none⟩ v) a g (cs.set k v) := fun j hj => by
  have hj' : j < cs.length := by simpa using hj
  obtain ⟨e, hg, hc, hf⟩ := h j hj'
  refine ⟨e, by simpa [World.setCell] using hg, ?_, by rw [World.frozen?_setCell]; exact hf⟩
  by_cases hjk : j = k
  · subst hjk
    rw [World.cell?_setCell_same _ _ _ hc]
    simp
  · rw [World.cell?_setCell_other _ _ _ _ (by simp <;> omega), hc, List.getElem_set_ne (by omega)]
theorem GR.C.below {w w' : World} {a : Option Addr} {g : Nat} {cs : List Value} (h : GR.C w a g cs) (hb : Below w.heap.size w w') : GR.C w' a g cs := fun j hj => by
  obtain ⟨e, hg, hc, hf⟩ := h j hj
  exact ⟨e, Nat.lt_of_lt_of_le hg hb.size, (hb.cell (p := ⟨g, j, none⟩) hg).trans hc, (hb.frozen (p := ⟨g, j, none⟩) hg).trans hf⟩
theorem GR.W.toC {α : Type} {enc : α → List Value} {sz : Nat} {w : World} {a : Option Addr} {g : Nat} {l : List α} (hs : ∀ x, (enc x).length = sz) (hz : 0 < sz) (h : GR.W enc sz w a g l) : GR.C w a g (GR.flat enc l) := fun j hj => by
  have hj2 : j < l.length * sz := by rwa [GR.flat_length enc sz hs] at hj
  have hq : j / sz < l.length := Nat.div_lt_of_lt_mul (by rw [Nat.mul_comm]; exact hj2)
  have hr : j % sz < sz := Nat.mod_lt _ hz
  have ej : j / sz * sz + j % sz = j := Nat.div_add_mod' j sz
  obtain ⟨e, hg, hc⟩ := h (j / sz) hq
  obtain ⟨h1, h2⟩ := hc (j % sz) hr
  have hf := GR.flat_at enc sz hs l (j / sz) hq (j % sz) hr
  rw [ej] at h1 h2 hf
  exact ⟨e, hg, by rw [h1, ← hf, List.getElem?_eq_getElem hj], h2⟩
theorem GR.C.toW {α : Type} {enc : α → List Value} {sz : Nat} {w : World} {a : Option Addr} {g : Nat} {l : List α} (hs : ∀ x, (enc x).length = sz) (hz : 0 < sz) (h : GR.C w a g (GR.flat enc l)) : GR.W enc sz w a g l := fun i hi => by
  have hlt : ∀ j, j < sz → i * sz + j < (GR.flat enc l).length := fun j hj => by
    rw [GR.flat_length enc sz hs]
    have := Nat.mul_le_mul_right sz (show i + 1 ≤ l.length by omega)
    rw [Nat.add_mul, Nat.one_mul] at this
    omega
  refine ⟨(h (i * sz + 0) (hlt 0 hz)).1, (h (i * sz + 0) (hlt 0 hz)).2.1, fun j hj => ?_⟩
  obtain ⟨_, _, hc, hf⟩ := h (i * sz + j) (hlt j hj)
  refine ⟨?_, hf⟩
  rw [hc, ← GR.flat_at enc sz hs l i hi j hj, List.getElem?_eq_getElem]
theorem markTextI (k : Nat) (z : Int) (w : World) (hz : z = k) (h0 : 0 < k) (hk : (k : Int) ≤ 9223372036854775807) :
    Calls Tryz.prog 38 #[.int .i64 z] w fun e w' => e = .returned (.string (mark k)) ∧ Below w.heap.size w w' := by
  subst hz
  exact markText k w h0 hk

def mkPurse (k : Nat) : Pu := ⟨mark k, (k : Int) + 1, (k : Int) + 2, (k : Int) + 3⟩
theorem GR.W.fourPurse {w : World} {a : Option Addr} {g : Nat} {l : List Pu} (h : GR.W encP 4 w a g l) (i : Nat) (hi : i < l.length) : a = some ⟨g, 0, none⟩ ∧ g < w.heap.size ∧ (w.cell? ⟨g, i * 4, none⟩ = some (.string l[i].k) ∧ w.cell? ⟨g, i * 4 + 1, none⟩ = some (.int .i64 l[i].m) ∧ w.cell? ⟨g, i * 4 + 2, none⟩ = some (.int .i64 l[i].f) ∧ w.cell? ⟨g, i * 4 + 3, none⟩ = some (.int .i64 l[i].s)) ∧ w.frozen? ⟨g, i * 4, none⟩ = false ∧ w.frozen? ⟨g, i * 4 + 1, none⟩ = false ∧ w.frozen? ⟨g, i * 4 + 2, none⟩ = false ∧ w.frozen? ⟨g, i * 4 + 3, none⟩ = false := by
  obtain ⟨e, hg, hc⟩ := h i hi
  exact ⟨e, hg, ⟨by simpa using (hc 0 (by omega)).1, by simpa using (hc 1 (by omega)).1, by simpa using (hc 2 (by omega)).1, by simpa using (hc 3 (by omega)).1⟩, by simpa using (hc 0 (by omega)).2, (hc 1 (by omega)).2, (hc 2 (by omega)).2, (hc 3 (by omega)).2⟩
set_option maxRecDepth 100000 in
set_option maxHeartbeats 2000000 in
theorem markPurseG (a : Option Addr) (g c s : Nat) (l : List Pu) (w : World) (hs0 : 0 < s) (hs1 : s ≤ 4000000000000) (hl : l.length ≤ 1048600) (ha : GR.W encP 4 w a g l) :
    Calls Tryz.prog 34 #[.slice a l.length c, .int .i64 s] w fun e w' => e = .returned (.int .i64 (s + 4 * (l.length : Int))) ∧ GR.W encP 4 w' a g (mks mkPurse 4 s l l.length) ∧ KeepsL (fp g l) w w' := by
  have HA := hide ha
  clear ha
  go_enter Tryz.func34, Tryz.ntmps34
  go_wp2_with fail
  go_loopw [1, 5] (fun kk i wr => ∃ k m : Nat, k ≤ l.length ∧ i = .int .i64 k ∧ kk = .int .i64 m ∧ m = s + 4 * k ∧ GR.W encP 4 wr a g (mks mkPurse 4 s l k) ∧ KeepsL (fp g l) w wr) (fun _ i _ => l.length - (intOf i).toNat)
  case atStart => exact ⟨0, s, Nat.zero_le _, rfl, rfl, rfl, by rw [mks_zero]; exact unhide HA, KeepsL.refl _ _⟩
  case round =>
    obtain ⟨k, m, hk, rfl, rfl, hm, hR, hkp⟩ := hrel
    have HM := hide hm
    have HR := hide hR
    have HK := hide hkp
    clear hR hkp
    by_cases hlt : k < l.length
    · have hml := mks_length mkPurse 4 s l k hk
      have hk' : k < (mks mkPurse 4 s l k).length := by rw [hml]; exact hlt
      have hm0 : 0 < m := by omega
      have hm1 : (m : Int) ≤ 92233720368547758 := by omega
      obtain ⟨e0, hg0, ⟨s0, s1, s2, s3⟩, f0, f1, f2, f3⟩ := GR.W.fourPurse (unhide HR) k hk'
      subst e0
      have HMT := hide (fun z w1 (hz : z = ((m + 0 : Nat) : Int)) => markTextI (m + 0) z w1 hz (by omega) (by omega))
      have HML := hide hml
      clear hm hml
      go_wp2_with (go_at_call 38; refine (unhide HMT _ _ (by omega)).mono ?_; rintro e w1 ⟨rfl, hb1⟩; have HB1 := hide hb1; have hgz := hb1.size; obtain ⟨hcc, hff⟩ := bcell hb1; clear hb1)
      go_roundw
      case rel =>
        have hpos : 0 < l.length := by omega
        have h0 := GR.W.toC encP_length (by omega) (unhide HR)
        have e1 : (m : Int) + 1 + 1 = m + 2 := by omega
        have e3 : (m : Int) + 2 + 1 = m + 3 := by omega
        (try simp only [e1, e3] at HB1 ⊢)
        have hB := GR.C.below h0 (unhide HB1)
        have h1 := GR.C.set hB (k * 4) (.string (mkPurse m).k)
        have h2 := GR.C.set h1 (k * 4 + 1) (.int .i64 (mkPurse m).m)
        have h3 := GR.C.set h2 (k * 4 + 2) (.int .i64 (mkPurse m).f)
        have h4 := GR.C.set h3 (k * 4 + 3) (.int .i64 (mkPurse m).s)
        have hf := GR.flat_set encP 4 encP_length (mks mkPurse 4 s l k) k (mkPurse m) (by rw [unhide HML]; exact hlt)
        have h5 := GR.C.toW (enc := encP) (l := (mks mkPurse 4 s l k).set k (mkPurse m)) encP_length (by omega) (by rw [← hf]; exact h4)
        have hmk : mkPurse m = mkPurse (s + 4 * k) := by rw [unhide HM]
        rw [hmk, mks_set mkPurse 4 s l k hlt, ← hmk] at h5
        refine ⟨k + 1, m + 4, by omega, by go_num, by go_num, by have := unhide HM; omega, h5, ?_⟩
        exact ((((((unhide HK).trans (KeepsL.of_below (unhide HB1))).trans (fp_keeps (KeepsL.set _) hpos)).trans (fp_keeps (KeepsL.set _) hpos)).trans (fp_keeps (KeepsL.set _) hpos)).trans (fp_keeps (KeepsL.set _) hpos))
      case measure => simp [intOf]; omega
    · have hke : k = l.length := by omega
      subst hke
      have hnlt : decide ((l.length : Int) < (l.length : Int)) = false := by simp
      clear hm
      go_wp2_with fail
      go_ret
      exact ⟨ret_int (by have := unhide HM; omega), unhide HR, unhide HK⟩
def mkSent (k : Nat) : Snt := ⟨(k : Int), (k : Int) + 1, mark (k + 2), (k : Int) + 3⟩
theorem GR.W.fourSent {w : World} {a : Option Addr} {g : Nat} {l : List Snt} (h : GR.W encSnt 4 w a g l) (i : Nat) (hi : i < l.length) : a = some ⟨g, 0, none⟩ ∧ g < w.heap.size ∧ (w.cell? ⟨g, i * 4, none⟩ = some (.int .i64 l[i].i) ∧ w.cell? ⟨g, i * 4 + 1, none⟩ = some (.int .i64 l[i].t) ∧ w.cell? ⟨g, i * 4 + 2, none⟩ = some (.string l[i].k) ∧ w.cell? ⟨g, i * 4 + 3, none⟩ = some (.int .i64 l[i].n)) ∧ w.frozen? ⟨g, i * 4, none⟩ = false ∧ w.frozen? ⟨g, i * 4 + 1, none⟩ = false ∧ w.frozen? ⟨g, i * 4 + 2, none⟩ = false ∧ w.frozen? ⟨g, i * 4 + 3, none⟩ = false := by
  obtain ⟨e, hg, hc⟩ := h i hi
  exact ⟨e, hg, ⟨by simpa using (hc 0 (by omega)).1, by simpa using (hc 1 (by omega)).1, by simpa using (hc 2 (by omega)).1, by simpa using (hc 3 (by omega)).1⟩, by simpa using (hc 0 (by omega)).2, (hc 1 (by omega)).2, (hc 2 (by omega)).2, (hc 3 (by omega)).2⟩
set_option maxRecDepth 100000 in
set_option maxHeartbeats 2000000 in
theorem markSentG (a : Option Addr) (g c s : Nat) (l : List Snt) (w : World) (hs0 : 0 < s) (hs1 : s ≤ 4000000000000) (hl : l.length ≤ 1048600) (ha : GR.W encSnt 4 w a g l) :
    Calls Tryz.prog 35 #[.slice a l.length c, .int .i64 s] w fun e w' => e = .returned (.int .i64 (s + 4 * (l.length : Int))) ∧ GR.W encSnt 4 w' a g (mks mkSent 4 s l l.length) ∧ KeepsL (fp g l) w w' := by
  have HA := hide ha
  clear ha
  go_enter Tryz.func35, Tryz.ntmps35
  go_wp2_with fail
  go_loopw [1, 5] (fun kk i wr => ∃ k m : Nat, k ≤ l.length ∧ i = .int .i64 k ∧ kk = .int .i64 m ∧ m = s + 4 * k ∧ GR.W encSnt 4 wr a g (mks mkSent 4 s l k) ∧ KeepsL (fp g l) w wr) (fun _ i _ => l.length - (intOf i).toNat)
  case atStart => exact ⟨0, s, Nat.zero_le _, rfl, rfl, rfl, by rw [mks_zero]; exact unhide HA, KeepsL.refl _ _⟩
  case round =>
    obtain ⟨k, m, hk, rfl, rfl, hm, hR, hkp⟩ := hrel
    have HM := hide hm
    have HR := hide hR
    have HK := hide hkp
    clear hR hkp
    by_cases hlt : k < l.length
    · have hml := mks_length mkSent 4 s l k hk
      have hk' : k < (mks mkSent 4 s l k).length := by rw [hml]; exact hlt
      have hm0 : 0 < m := by omega
      have hm1 : (m : Int) ≤ 92233720368547758 := by omega
      obtain ⟨e0, hg0, ⟨s0, s1, s2, s3⟩, f0, f1, f2, f3⟩ := GR.W.fourSent (unhide HR) k hk'
      subst e0
      have HMT := hide (fun z w1 (hz : z = ((m + 2 : Nat) : Int)) => markTextI (m + 2) z w1 hz (by omega) (by omega))
      have HML := hide hml
      clear hm hml
      go_wp2_with (go_at_call 38; refine (unhide HMT _ _ (by omega)).mono ?_; rintro e w1 ⟨rfl, hb1⟩; have HB1 := hide hb1; have hgz := hb1.size; obtain ⟨hcc, hff⟩ := bcell hb1; clear hb1)
      go_roundw
      case rel =>
        have hpos : 0 < l.length := by omega
        have h0 := GR.W.toC encSnt_length (by omega) (unhide HR)
        have e1 : (m : Int) + 1 + 1 = m + 2 := by omega
        have e3 : (m : Int) + 2 + 1 = m + 3 := by omega
        (try simp only [e1, e3] at HB1 ⊢)
        have h1 := GR.C.set h0 (k * 4) (.int .i64 (mkSent m).i)
        have h2 := GR.C.set h1 (k * 4 + 1) (.int .i64 (mkSent m).t)
        have hB := GR.C.below h2 (unhide HB1)
        have h3 := GR.C.set hB (k * 4 + 2) (.string (mkSent m).k)
        have h4 := GR.C.set h3 (k * 4 + 3) (.int .i64 (mkSent m).n)
        have hf := GR.flat_set encSnt 4 encSnt_length (mks mkSent 4 s l k) k (mkSent m) (by rw [unhide HML]; exact hlt)
        have h5 := GR.C.toW (enc := encSnt) (l := (mks mkSent 4 s l k).set k (mkSent m)) encSnt_length (by omega) (by rw [← hf]; exact h4)
        have hmk : mkSent m = mkSent (s + 4 * k) := by rw [unhide HM]
        rw [hmk, mks_set mkSent 4 s l k hlt, ← hmk] at h5
        refine ⟨k + 1, m + 4, by omega, by go_num, by go_num, by have := unhide HM; omega, h5, ?_⟩
        exact ((((((unhide HK).trans (fp_keeps (KeepsL.set _) hpos)).trans (fp_keeps (KeepsL.set _) hpos)).trans (KeepsL.of_below (unhide HB1))).trans (fp_keeps (KeepsL.set _) hpos)).trans (fp_keeps (KeepsL.set _) hpos))
      case measure => simp [intOf]; omega
    · have hke : k = l.length := by omega
      subst hke
      have hnlt : decide ((l.length : Int) < (l.length : Int)) = false := by simp
      clear hm
      go_wp2_with fail
      go_ret
      exact ⟨ret_int (by have := unhide HM; omega), unhide HR, unhide HK⟩
def mkReq (k : Nat) : Rq := ⟨(k : Int), mark (k + 1), (k : Int) + 2, (k : Int) + 3⟩
theorem GR.W.fourReq {w : World} {a : Option Addr} {g : Nat} {l : List Rq} (h : GR.W encRq 4 w a g l) (i : Nat) (hi : i < l.length) : a = some ⟨g, 0, none⟩ ∧ g < w.heap.size ∧ (w.cell? ⟨g, i * 4, none⟩ = some (.int .i64 l[i].no) ∧ w.cell? ⟨g, i * 4 + 1, none⟩ = some (.string l[i].k) ∧ w.cell? ⟨g, i * 4 + 2, none⟩ = some (.int .i64 l[i].n) ∧ w.cell? ⟨g, i * 4 + 3, none⟩ = some (.int .i64 l[i].s)) ∧ w.frozen? ⟨g, i * 4, none⟩ = false ∧ w.frozen? ⟨g, i * 4 + 1, none⟩ = false ∧ w.frozen? ⟨g, i * 4 + 2, none⟩ = false ∧ w.frozen? ⟨g, i * 4 + 3, none⟩ = false := by
  obtain ⟨e, hg, hc⟩ := h i hi
  exact ⟨e, hg, ⟨by simpa using (hc 0 (by omega)).1, by simpa using (hc 1 (by omega)).1, by simpa using (hc 2 (by omega)).1, by simpa using (hc 3 (by omega)).1⟩, by simpa using (hc 0 (by omega)).2, (hc 1 (by omega)).2, (hc 2 (by omega)).2, (hc 3 (by omega)).2⟩
set_option maxRecDepth 100000 in
set_option maxHeartbeats 2000000 in
theorem markReqG (a : Option Addr) (g c s : Nat) (l : List Rq) (w : World) (hs0 : 0 < s) (hs1 : s ≤ 4000000000000) (hl : l.length ≤ 1048600) (ha : GR.W encRq 4 w a g l) :
    Calls Tryz.prog 37 #[.slice a l.length c, .int .i64 s] w fun e w' => e = .returned (.int .i64 (s + 4 * (l.length : Int))) ∧ GR.W encRq 4 w' a g (mks mkReq 4 s l l.length) ∧ KeepsL (fp g l) w w' := by
  have HA := hide ha
  clear ha
  go_enter Tryz.func37, Tryz.ntmps37
  go_wp2_with fail
  go_loopw [1, 5] (fun kk i wr => ∃ k m : Nat, k ≤ l.length ∧ i = .int .i64 k ∧ kk = .int .i64 m ∧ m = s + 4 * k ∧ GR.W encRq 4 wr a g (mks mkReq 4 s l k) ∧ KeepsL (fp g l) w wr) (fun _ i _ => l.length - (intOf i).toNat)
  case atStart => exact ⟨0, s, Nat.zero_le _, rfl, rfl, rfl, by rw [mks_zero]; exact unhide HA, KeepsL.refl _ _⟩
  case round =>
    obtain ⟨k, m, hk, rfl, rfl, hm, hR, hkp⟩ := hrel
    have HM := hide hm
    have HR := hide hR
    have HK := hide hkp
    clear hR hkp
    by_cases hlt : k < l.length
    · have hml := mks_length mkReq 4 s l k hk
      have hk' : k < (mks mkReq 4 s l k).length := by rw [hml]; exact hlt
      have hm0 : 0 < m := by omega
      have hm1 : (m : Int) ≤ 92233720368547758 := by omega
      obtain ⟨e0, hg0, ⟨s0, s1, s2, s3⟩, f0, f1, f2, f3⟩ := GR.W.fourReq (unhide HR) k hk'
      subst e0
      have HMT := hide (fun z w1 (hz : z = ((m + 1 : Nat) : Int)) => markTextI (m + 1) z w1 hz (by omega) (by omega))
      have HML := hide hml
      clear hm hml
      go_wp2_with (go_at_call 38; refine (unhide HMT _ _ (by omega)).mono ?_; rintro e w1 ⟨rfl, hb1⟩; have HB1 := hide hb1; have hgz := hb1.size; obtain ⟨hcc, hff⟩ := bcell hb1; clear hb1)
      go_roundw
      case rel =>
        have hpos : 0 < l.length := by omega
        have h0 := GR.W.toC encRq_length (by omega) (unhide HR)
        have e1 : (m : Int) + 1 + 1 = m + 2 := by omega
        have e3 : (m : Int) + 2 + 1 = m + 3 := by omega
        (try simp only [e1, e3] at HB1 ⊢)
        have h1 := GR.C.set h0 (k * 4) (.int .i64 (mkReq m).no)
        have hB := GR.C.below h1 (unhide HB1)
        have h2 := GR.C.set hB (k * 4 + 1) (.string (mkReq m).k)
        have h3 := GR.C.set h2 (k * 4 + 2) (.int .i64 (mkReq m).n)
        have h4 := GR.C.set h3 (k * 4 + 3) (.int .i64 (mkReq m).s)
        have hf := GR.flat_set encRq 4 encRq_length (mks mkReq 4 s l k) k (mkReq m) (by rw [unhide HML]; exact hlt)
        have h5 := GR.C.toW (enc := encRq) (l := (mks mkReq 4 s l k).set k (mkReq m)) encRq_length (by omega) (by rw [← hf]; exact h4)
        have hmk : mkReq m = mkReq (s + 4 * k) := by rw [unhide HM]
        rw [hmk, mks_set mkReq 4 s l k hlt, ← hmk] at h5
        refine ⟨k + 1, m + 4, by omega, by go_num, by go_num, by have := unhide HM; omega, h5, ?_⟩
        exact ((((((unhide HK).trans (fp_keeps (KeepsL.set _) hpos)).trans (KeepsL.of_below (unhide HB1))).trans (fp_keeps (KeepsL.set _) hpos)).trans (fp_keeps (KeepsL.set _) hpos)).trans (fp_keeps (KeepsL.set _) hpos))
      case measure => simp [intOf]; omega
    · have hke : k = l.length := by omega
      subst hke
      have hnlt : decide ((l.length : Int) < (l.length : Int)) = false := by simp
      clear hm
      go_wp2_with fail
      go_ret
      exact ⟨ret_int (by have := unhide HM; omega), unhide HR, unhide HK⟩
def mkInt (k : Nat) : Int := k
theorem GR.W.one {w : World} {a : Option Addr} {g : Nat} {l : List Int} (h : GR.W encNum 1 w a g l) (i : Nat) (hi : i < l.length) : a = some ⟨g, 0, none⟩ ∧ g < w.heap.size ∧ w.cell? ⟨g, i, none⟩ = some (.int .i64 l[i]) ∧ w.frozen? ⟨g, i, none⟩ = false := by
  obtain ⟨e, hg, hc⟩ := h i hi
  exact ⟨e, hg, by simpa using (hc 0 (by omega)).1, by simpa using (hc 0 (by omega)).2⟩
set_option maxRecDepth 100000 in
set_option maxHeartbeats 2000000 in
theorem markIntG (a : Option Addr) (g c s : Nat) (l : List Int) (w : World) (hs0 : 0 < s) (hs1 : s ≤ 4000000000000) (hl : l.length ≤ 1048600) (ha : GR.W encNum 1 w a g l) :
    Calls Tryz.prog 33 #[.slice a l.length c, .int .i64 s] w fun e w' => e = .returned (.int .i64 (s + (l.length : Int))) ∧ GR.W encNum 1 w' a g (mks mkInt 1 s l l.length) ∧ KeepsL (fp g l) w w' := by
  have HA := hide ha
  clear ha
  go_enter Tryz.func33, Tryz.ntmps33
  go_wp2_with fail
  go_loopw [1, 5] (fun kk i wr => ∃ k m : Nat, k ≤ l.length ∧ i = .int .i64 k ∧ kk = .int .i64 m ∧ m = s + 1 * k ∧ GR.W encNum 1 wr a g (mks mkInt 1 s l k) ∧ KeepsL (fp g l) w wr) (fun _ i _ => l.length - (intOf i).toNat)
  case atStart => exact ⟨0, s, Nat.zero_le _, rfl, rfl, rfl, by rw [mks_zero]; exact unhide HA, KeepsL.refl _ _⟩
  case round =>
    obtain ⟨k, m, hk, rfl, rfl, hm, hR, hkp⟩ := hrel
    have HM := hide hm
    have HR := hide hR
    have HK := hide hkp
    clear hR hkp
    by_cases hlt : k < l.length
    · have hml := mks_length mkInt 1 s l k hk
      have hk' : k < (mks mkInt 1 s l k).length := by rw [hml]; exact hlt
      have hm0 : 0 < m := by omega
      have hm1 : (m : Int) ≤ 92233720368547758 := by omega
      obtain ⟨e0, hg0, s0, f0⟩ := GR.W.one (unhide HR) k hk'
      subst e0
      have HML := hide hml
      clear hm hml
      go_wp2_with fail
      go_roundw
      case rel =>
        have hpos : 0 < l.length := by omega
        have h5 := GR.W.set encNum_length (unhide HR) k (mkInt m) (by rw [unhide HML]; exact hlt)
        have hmk : mkInt m = mkInt (s + 1 * k) := by rw [unhide HM]
        rw [hmk, mks_set mkInt 1 s l k hlt, ← hmk, Nat.mul_one] at h5
        exact ⟨k + 1, m + 1, by omega, by go_num, by go_num, by have := unhide HM; omega, h5, (unhide HK).trans (fp_keeps (KeepsL.set _) hpos)⟩
      case measure => simp [intOf]; omega
    · have hke : k = l.length := by omega
      subst hke
      have hnlt : decide ((l.length : Int) < (l.length : Int)) = false := by simp
      clear hm
      go_wp2_with fail
      go_ret
      exact ⟨ret_int (by have := unhide HM; omega), unhide HR, unhide HK⟩
end Go.Proofs.YtdlhlfndobbocaaGreat
