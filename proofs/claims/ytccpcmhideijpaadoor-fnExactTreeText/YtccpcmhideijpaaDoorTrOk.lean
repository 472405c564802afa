/-
  What TreeOk comes to, of both.
-/
import Derived.Test.YtccpcmhideijpaaDoorTrMath
import Derived.Test.YtccpcmhideijpaaDoorNdInts
namespace Go.Proofs.YtccpcmhideijpaaDoor
open Go.RowKit
open Mth

/-- A tree as a value. -/
abbrev trv (a : Option Addr) (l : List Int) (cap : Nat) : Value := .agg #[.slice a l.length cap]
theorem tree_new (w : World) (v : Value) (t : TypeId) : (w.alloc (.cells #[v] t)).cell? ⟨w.heap.size, 0, none⟩ = some v := by simp
theorem below_same_heap {B : Nat} {w wr w' : World} (h : Below B w wr) (h1 : w'.heap = wr.heap := by rfl) (h2 : w'.os = wr.os := by rfl) (h3 : w'.tape = wr.tape := by rfl) (h4 : w'.output = wr.output := by rfl) : Below B w w' :=
  ⟨h2.trans h.os, h3.trans h.tape, h4.trans h.output, by rw [h1]; exact h.size, fun k hk => by rw [h1]; exact h.block k hk⟩
set_option maxRecDepth 100000 in
set_option maxHeartbeats 2000000 in
theorem specTreeOk (a : Option Addr) (cap : Nat) (l : List Int) (w : World) (hl : l.length ≤ 1048600) (ha : IntsAt w a l) :
    Calls Tryd.prog 16 #[trv a l cap] w fun e w' => e = .returned (.bool (treeB l)) ∧ Below w.heap.size w w' := by
  have HA := hide ha
  clear ha
  go_enter Tryd.func16, Tryd.ntmps16
  go_wp2_with fail
  go_loopw [3] (fun i wr => ∃ k : Nat, k ≤ l.length ∧ i = .int .i64 k ∧ upsB l k = true ∧ wr.cell? ⟨w.heap.size, 0, none⟩ = some (.slice a l.length cap) ∧ w.heap.size < wr.heap.size ∧ Below w.heap.size w wr) (fun i _ => l.length - (intOf i).toNat)
  case atStart => exact ⟨0, Nat.zero_le _, rfl, upsB_zero l, tree_new _ _ _, by simp, below_one' w _⟩
  case round =>
    obtain ⟨k, hk, rfl, hu, ht, hsz, hbel⟩ := hrel
    have HBL := hide hbel
    have HU := hide hu
    clear hbel hu
    by_cases hlt : k < l.length
    · obtain ⟨g, off, rfl, hgw, q0⟩ := IntsAt.one (GR.At.below (unhide HA) (unhide HBL)) k hlt
      by_cases hk0 : k = 0
      · subst hk0
        rw [Nat.add_zero] at q0
        have hz : upB l 0 = decide (l[0] = -1) := upB_zero l hlt
        generalize l[0] = pu at *
        by_cases hp : pu = -1
        · subst hp
          have HS := hide (show upsB l (0 + 1) = true by rw [upsB_succ, unhide HU, hz]; rfl)
          clear hz
          go_wp2_with fail
          go_roundw
          case rel => exact ⟨1, by omega, by go_num, unhide HS, ht, hsz, unhide HBL⟩
          case measure => simp [intOf]; omega
        · have HE := hide (treeB_bad l 0 hlt (by rw [hz]; simpa using hp))
          have hne : (pu != -1) = true := by simpa using hp
          clear hz
          go_wp2_with fail
          go_ret
          exact ⟨ret_bool (unhide HE).symm, unhide HBL⟩
      · have hz : upB l k = decide (0 ≤ l[k] ∧ l[k] < (k : Int)) := upB_pos l k (by omega) hlt
        generalize l[k] = pu at *
        by_cases hp : 0 ≤ pu ∧ pu < (k : Int)
        · have HS := hide (show upsB l (k + 1) = true by rw [upsB_succ, unhide HU, hz, decide_eq_true hp]; rfl)
          have hc := fun W => l01In_yes pu 0 ((k : Int) - 1) W (by omega) (by omega)
          clear hz
          go_wp2_with (go_at_call 28; refine (hc _).mono ?_; rintro e w1 ⟨rfl, rfl⟩)
          go_roundw
          case rel => exact ⟨k + 1, by omega, by go_num, unhide HS, ht, hsz, unhide HBL⟩
          case measure => simp [intOf]; omega
        · have HE := hide (treeB_bad l k hlt (by rw [hz]; exact decide_eq_false hp))
          have hc := fun W => l01In_no pu 0 ((k : Int) - 1) W (by omega)
          clear hz
          go_wp2_with (go_at_call 28; refine (hc _).mono ?_; rintro e w1 ⟨rfl, rfl⟩)
          go_ret
          exact ⟨ret_bool (unhide HE).symm, unhide HBL⟩
    · have hke : k = l.length := by omega
      subst hke
      have HF := hide (treeB_fit l (unhide HU))
      by_cases hin : 1 ≤ (l.length : Int) ∧ (l.length : Int) ≤ 30
      · have hc := fun W => l01In_yes (l.length : Int) 1 30 W hin.1 hin.2
        go_wp2_with (go_at_call 28; refine (hc _).mono ?_; rintro e w1 ⟨rfl, rfl⟩)
        go_ret
        exact ⟨ret_bool (by rw [unhide HF, decide_eq_true hin]), unhide HBL⟩
      · have hc := fun W => l01In_no (l.length : Int) 1 30 W (by omega)
        go_wp2_with (go_at_call 28; refine (hc _).mono ?_; rintro e w1 ⟨rfl, rfl⟩)
        go_ret
        exact ⟨ret_bool (by rw [unhide HF, decide_eq_false hin]), unhide HBL⟩

set_option maxRecDepth 100000 in
set_option maxHeartbeats 2000000 in
theorem implOk (a : Option Addr) (cap : Nat) (l : List Int) (w : World) (hl : l.length ≤ 1048600) (ha : IntsAt w a l) :
    Calls Tryd.prog 19 #[trv a l cap] w fun e w' => e = .returned (.bool (treeB l)) ∧ Below w.heap.size w w' := by
  have HA := hide ha
  clear ha
  by_cases h0 : l.length = 0
  · have HE := hide (treeB_len l (.inl h0))
    go_enter Tryd.func19, Tryd.ntmps19
    have hd : ((l.length : Int) == 0) = true := by simpa using h0
    go_wp2_with fail
    go_ret
    exact ⟨ret_bool (unhide HE).symm, below_one' w _⟩
  by_cases h30 : 30 < l.length
  · have HE := hide (treeB_len l (.inr h30))
    go_enter Tryd.func19, Tryd.ntmps19
    have hd : ((l.length : Int) == 0) = false := by simpa using h0
    go_wp2_with fail
    go_ret
    exact ⟨ret_bool (unhide HE).symm, below_one' w _⟩
  have hd : ((l.length : Int) == 0) = false := by simpa using h0
  obtain ⟨g, off, rfl, hgw, q0⟩ := IntsAt.one (unhide HA) 0 (by omega)
  rw [Nat.add_zero] at q0
  have hz := hide (upB_zero l (by omega))
  generalize l[0] = pr at *
  have hb1 : Below w.heap.size w (w.alloc (.cells #[.slice (some ⟨g, off, none⟩) l.length cap] 24)) := below_one' w _
  have q1 : (w.alloc (.cells #[.slice (some ⟨g, off, none⟩) l.length cap] 24)).cell? ⟨g, off, none⟩ = some (.int .i64 pr) := (hb1.cell (p := ⟨g, off, none⟩) hgw).trans q0
  clear q0 hb1
  by_cases hp : pr = -1
  case neg =>
    have HE := hide (treeB_bad l 0 (by omega) (by rw [unhide hz]; simpa using hp))
    have hne : (pr != -1) = true := by simpa using hp
    go_enter Tryd.func19, Tryd.ntmps19
    go_wp2_with fail
    go_ret
    exact ⟨ret_bool (unhide HE).symm, below_one' w _⟩
  subst hp
  have HU1 := hide (show upsB l 1 = true by rw [upsB_succ, upsB_zero, unhide hz]; rfl)
  go_enter Tryd.func19, Tryd.ntmps19
  go_wp2_with fail
  go_loopw [3] (fun i wr => ∃ k : Nat, 1 ≤ k ∧ k ≤ l.length ∧ i = .int .i64 k ∧ upsB l k = true ∧ wr.cell? ⟨w.heap.size, 0, none⟩ = some (.slice (some ⟨g, off, none⟩) l.length cap) ∧ w.heap.size < wr.heap.size ∧ Below w.heap.size w wr) (fun i _ => l.length - (intOf i).toNat)
  case atStart => exact ⟨1, Nat.le_refl _, by omega, rfl, unhide HU1, tree_new _ _ _, by simp, below_one' w _⟩
  case round =>
    obtain ⟨k, hk1, hk, rfl, hu, ht, hsz, hbel⟩ := hrel
    have HBL := hide hbel
    have HU := hide hu
    clear hbel hu q1
    by_cases hlt : k < l.length
    · obtain ⟨g', off', eq, hgw', q0⟩ := IntsAt.one (GR.At.below (unhide HA) (unhide HBL)) k hlt
      cases eq
      have hz : upB l k = decide (0 ≤ l[k] ∧ l[k] < (k : Int)) := upB_pos l k (by omega) hlt
      generalize l[k] = pu at *
      by_cases hp : 0 ≤ pu
      · by_cases hp2 : pu < (k : Int)
        · have HS := hide (show upsB l (k + 1) = true by rw [upsB_succ, unhide HU, hz, decide_eq_true ⟨hp, hp2⟩]; rfl)
          clear hz
          go_wp2_with fail
          go_roundw
          case rel => exact ⟨k + 1, by omega, by omega, by go_num, unhide HS, ht, hsz, unhide HBL⟩
          case measure => simp [intOf]; omega
        · have HE := hide (treeB_bad l k hlt (by rw [hz]; exact decide_eq_false (fun h => hp2 h.2)))
          clear hz
          go_wp2_with fail
          go_ret
          exact ⟨ret_bool (unhide HE).symm, unhide HBL⟩
      · have HE := hide (treeB_bad l k hlt (by rw [hz]; exact decide_eq_false (fun h => hp h.1)))
        clear hz
        go_wp2_with fail
        go_ret
        exact ⟨ret_bool (unhide HE).symm, unhide HBL⟩
    · have hke : k = l.length := by omega
      subst hke
      have HF := hide (treeB_good l hk1 (by omega) (unhide HU))
      go_wp2_with fail
      go_ret
      exact ⟨ret_bool (unhide HF).symm, unhide HBL⟩

/-! The law's own helpers. -/
theorem szTree (a : Option Addr) (ca : Nat) (l : List Int) (z0 : Int) (w : World) (h0 : 0 ≤ z0) (h1 : z0 ≤ 1048576) (hl : l.length ≤ maxLen) :
    Calls Tryd.prog 10 #[trv a l ca, .int .i64 z0] w fun e w' => e = .returned (.int .i64 (if (l.length : Int) ≤ z0 then z0 - l.length else -1)) ∧ Below w.heap.size w w' := by
  have HC := hide (fun W => szIntS a ca l z0 W h0 h1 hl)
  by_cases hc : (l.length : Int) ≤ z0
  · rw [if_pos hc] at *
    have hn : decide (z0 - (l.length : Int) < 0) = false := decide_eq_false (by omega)
    go_enter Tryd.func10, Tryd.ntmps10
    go_wp2_with (go_at_call 23; refine (unhide HC _).mono ?_; rintro e w1 ⟨rfl, rfl⟩)
    go_ret
    exact ⟨rfl, below_one' w _⟩
  · rw [if_neg hc] at *
    go_enter Tryd.func10, Tryd.ntmps10
    go_wp2_with (go_at_call 23; refine (unhide HC _).mono ?_; rintro e w1 ⟨rfl, rfl⟩)
    go_ret
    exact ⟨rfl, below_one' w _⟩
theorem tr_lt {w : World} {g : Nat} {o : Obj} (h : w.heap[g]? = some o) : g < w.heap.size := by
  rcases Nat.lt_or_ge g w.heap.size with h' | h'
  · exact h'
  · rw [Array.getElem?_eq_none h'] at h; cases h
theorem tr_step {w w' : World} {g : Nat} {o : Obj} (h : w.heap[g]? = some o) (hb : Below w.heap.size w w') : w'.heap[g]? = some o := by
  rw [hb.block g (tr_lt h)]; exact h
theorem one_at {w : World} {g : Nat} {v : Value} {t : TypeId} (h : w.heap[g]? = some (.cells #[v] t (0, 0))) : w.cell? ⟨g, 0, none⟩ = some v ∧ w.frozen? ⟨g, 0, none⟩ = false := by
  refine ⟨?_, ?_⟩
  · rw [cell_of_row w g _ _ t (0, 0) h]; rfl
  · unfold World.frozen?; rw [h]; simp
theorem one_set {w : World} {g : Nat} {v : Value} {t : TypeId} (u : Value) (h : w.heap[g]? = some (.cells #[v] t (0, 0))) : (w.setCell ⟨g, 0, none⟩ u).heap[g]? = some (.cells #[u] t (0, 0)) := by
  unfold World.setCell
  simp only [Array.getElem?_modify]
  rw [if_pos trivial, h]
  simp
theorem one_other {w : World} {g g' : Nat} {o : Obj} (u : Value) (hne : g' ≠ g) (h : w.heap[g']? = some o) : (w.setCell ⟨g, 0, none⟩ u).heap[g']? = some o := (Below.heap_setCell _ _ _ _ hne).trans h
theorem bodyPost_atT {P : Program} {fn : Func} {Q : Ending → World → Prop} {x : Exit} {act : Act} {W : World} (h : ∀ W', W' = W → bodyPost P fn Q x act W') : bodyPost P fn Q x act W := h W rfl
set_option maxRecDepth 100000 in
/-- A tree of the call's own. -/
theorem toTree (a : Option Addr) (cap : Nat) (l : List Int) (w : World) (hl : l.length ≤ 1048576) (ha : IntsAt w a l) :
    Calls Tryd.prog 12 #[trv a l cap] w fun e w' => ∃ g, e = .returned (trv (some ⟨g, 0, none⟩) l l.length) ∧ w.heap.size ≤ g ∧ intBlk w' g l ∧ Below w.heap.size w w' := by
  have HC := hide (fun W (hb : Below w.heap.size w W) => toIntS a cap l W hl (GR.At.below ha hb))
  clear ha
  go_enter Tryd.func12, Tryd.ntmps12
  go_wp2_with fail
  generalize hW : ((w.alloc (.cells #[.slice a l.length cap] 30)).alloc (.cells #[.slice none 0 0] 24)).alloc (.cells #[.slice none 0 0] 24) = W at *
  have hb0 : Below w.heap.size w W := by rw [← hW]; exact (((below_one' w _).alloc (by simp) _).alloc (by simp; omega) _)
  have hO1 : W.heap[w.heap.size + 1]? = some (.cells #[.slice none 0 0] 24 (0, 0)) := by
    rw [← hW]
    refine (Below.heap_alloc _ _ _ (by simp)).trans ?_
    have := heap_alloc_new (w.alloc (.cells #[.slice a l.length cap] 30)) (.cells #[.slice none 0 0] 24)
    rwa [World.size_alloc] at this
  have hO2 : W.heap[w.heap.size + 1 + 1]? = some (.cells #[.slice none 0 0] 24 (0, 0)) := by
    rw [← hW]
    have := heap_alloc_new ((w.alloc (.cells #[.slice a l.length cap] 30)).alloc (.cells #[.slice none 0 0] 24)) (.cells #[.slice none 0 0] 24)
    rwa [World.size_alloc, World.size_alloc] at this
  refine (unhide HC _ hb0).mono ?_
  rintro e w1 ⟨rfl, hblk, hb1⟩
  have hP1 := tr_step hO1 hb1
  have hP2 := tr_step hO2 hb1
  have HB := hide (hb0.trans (hb1.mono hb0.size))
  have hz1 := tr_lt hO2
  clear hb0 hb1 hO1 hO2 hW
  have HK := hide hblk
  have HP1 := hide hP1
  have HP2 := hide hP2
  obtain ⟨c1, f1⟩ := one_at hP1
  obtain ⟨c2, f2⟩ := one_at hP2
  clear hP1 hP2 hblk
  go_wp2_with fail
  refine bodyPost_atT (fun W' hW' => ?_)
  have h2 := one_set (.slice (some ⟨W.heap.size, 0, none⟩) l.length l.length) (unhide HP2)
  have h1 := one_set (.slice (some ⟨W.heap.size, 0, none⟩) l.length l.length) (one_other (.slice (some ⟨W.heap.size, 0, none⟩) l.length l.length) (show w.heap.size + 1 ≠ w.heap.size + 1 + 1 by omega) (unhide HP1))
  rw [← hW'] at h1
  have r0 := (one_at h1).1
  refine bodyPost_ret (v := .agg #[.slice (some ⟨W.heap.size, 0, none⟩) l.length l.length]) (by simp [results, Tryd.results12, go_sem, r0]) rfl ⟨_, rfl, by omega, ?_, ?_⟩
  · rw [hW']
    unfold intBlk GR.Blk
    exact one_other _ (by omega) (one_other _ (by omega) (unhide HK))
  · rw [hW']
    exact ((unhide HB).setCell (p := ⟨w.heap.size + 1 + 1, 0, none⟩) (by simp; omega) _).setCell (p := ⟨w.heap.size + 1, 0, none⟩) (by simp) _
set_option maxRecDepth 100000 in
theorem eqTree (a b : Option Addr) (ca cb : Nat) (l : List Int) (w : World) (hl : l.length ≤ 1048600) (ha : IntsAt w a l) (hb : IntsAt w b l) :
    Calls Tryd.prog 7 #[trv a l ca, trv b l cb] w fun e w' => e = .returned (.bool true) ∧ Below w.heap.size w w' := by
  have HC := hide (fun W (hw : Below w.heap.size w W) => eqIntS a b ca cb l W hl (GR.At.below ha hw) (GR.At.below hb hw))
  clear ha hb
  go_enter Tryd.func7, Tryd.ntmps7
  have HB := hide (show Below w.heap.size w ((w.alloc (.cells #[.slice a l.length ca] 24)).alloc (.cells #[.slice b l.length cb] 24)) from (below_one' w _).alloc (by simp) _)
  go_wp2_with (go_at_call 20; refine (unhide HC _ (unhide HB)).mono ?_; rintro e w1 ⟨rfl, hb2⟩)
  go_ret
  exact ⟨rfl, (unhide HB).trans (hb2.mono (unhide HB).size)⟩

end Go.Proofs.YtccpcmhideijpaaDoor
