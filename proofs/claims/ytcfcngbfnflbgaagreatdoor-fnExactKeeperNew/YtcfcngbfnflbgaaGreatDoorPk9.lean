/- Parts. -/
import Derived.Test.YtcfcngbfnflbgaaGreatDoorPk6
import Derived.Test.YtcfcngbfnflbgaaGreatDoorPk8
namespace Go.Proofs.YtcfcngbfnflbgaaGreatDoor
open Go.RowKit
open Mth

abbrev seenV (s : Sn) (b : Option Addr) (c : Nat) : Value := .agg #[.int .i64 s.f, .int .i64 s.l, .slice b s.ids.length c]
theorem infoSeen : (Tryz.prog.info? 97).map (fun i => (i.zero, i.size, i.bytes)) = some (some (.agg #[.int .i64 0, .int .i64 0, .slice none 0 0]), 3, 40) := by kernel_rfl
theorem makeSeen (n : Nat) (hn : n ≤ 2000000) : ∀ W : World, (Instr.makeSlice 32 (.int .i64 (n : Int)) (.int .i64 (n : Int))).run Tryz.prog W = .ok (.slice (some ⟨W.heap.size, 0, none⟩) n n) (W.alloc (.cells (GR.flat encR3 (List.replicate n ⟨0, 0, .slice none 0 0⟩)).toArray 97)) := by
  obtain ⟨i0, hi, hz0, hz1, hz2⟩ := info_parts infoSeen
  intro W
  have h := run_make (P := Tryz.prog) W 32 97 i0 (.agg #[.int .i64 0, .int .i64 0, .slice none 0 0]) Tryz.underlying32 hi hz0 .i64 .i64 (n : Int) (n : Int) (by omega) (by omega) (by rw [hz2]; omega) (by omega)
  rw [hz1] at h
  have e := GR.made_flat encR3 3 encR3_length (by omega) ⟨0, 0, .slice none 0 0⟩ (Value.cells (.agg #[.int .i64 0, .int .i64 0, .slice none 0 0])) rfl n
  simp only [Int.toNat_natCast] at h
  rw [e] at h
  exact h
theorem blk_setO {w : World} {c : Nat} {cs : Array Value} {t : TypeId} (h : w.heap[c]? = some (.cells cs t (0, 0))) (i : Nat) (v : Value) : (w.setCell ⟨c, i, none⟩ v).heap[c]? = some (.cells (cs.setIfInBounds i v) t (0, 0)) := by
  unfold World.setCell
  simp only [Array.getElem?_modify]
  rw [if_pos trivial, h]
  rfl
theorem oth_set {w : World} {g g' i : Nat} {v : Value} {o : Option Obj} (h : w.heap[g']? = o) (hne : g' ≠ g) : (w.setCell ⟨g, i, none⟩ v).heap[g']? = o := by rw [Below.heap_setCell _ _ _ _ hne, h]
theorem allocs3 (w : World) (a b c : Obj) : (((w.alloc a).alloc b).alloc c).heap[w.heap.size]? = some a ∧ (((w.alloc a).alloc b).alloc c).heap[w.heap.size + 1]? = some b ∧ (((w.alloc a).alloc b).alloc c).heap[w.heap.size + 1 + 1]? = some c ∧ Below w.heap.size w (((w.alloc a).alloc b).alloc c) := by
  have e1 : (w.alloc a).heap.size = w.heap.size + 1 := by simp
  have e2 : ((w.alloc a).alloc b).heap.size = w.heap.size + 1 + 1 := by simp
  have h1 := heap_alloc_new w a
  have h2 := heap_alloc_new (w.alloc a) b
  have h3 := heap_alloc_new ((w.alloc a).alloc b) c
  rw [e1] at h2
  rw [e2] at h3
  refine ⟨?_, ?_, h3, ((below_one w _).alloc (by simp) _).alloc (by simp; omega) _⟩
  · rw [Below.heap_alloc _ _ _ (by rw [e2]; omega), Below.heap_alloc _ _ _ (by rw [e1]; omega)]
    exact h1
  · rw [Below.heap_alloc _ _ _ (by rw [e2]; omega)]
    exact h2
theorem bodyPost_atN {P : Program} {fn : Func} {Q : Ending → World → Prop} {x : Exit} {act : Act} {W : World} (h : ∀ W', W' = W → bodyPost P fn Q x act W') : bodyPost P fn Q x act W := h W rfl
set_option maxRecDepth 100000 in
set_option maxHeartbeats 1000000 in
theorem toSeen (s : Sn) (b : Option Addr) (c : Nat) (w : World) (hl : s.ids.length ≤ 1048576) (ha : IntsAt w b s.ids) :
    Calls Tryz.prog 60 #[seenV s b c] w fun e w' => ∃ g, w.heap.size ≤ g ∧ e = .returned (seenV s (some ⟨g, 0, none⟩) s.ids.length) ∧ intBlk w' g s.ids ∧ Below w.heap.size w w' := by
  obtain ⟨fr, lo, ids⟩ := s
  dsimp only at hl ha ⊢
  have HA := hide ha
  clear ha
  go_enter Tryz.func60, Tryz.ntmps60
  go_upto_region 4 with fail
  refine wp_at (fun W0 hW0 => ?_)
  obtain ⟨hP, hR, hO, hB⟩ := allocs3 w (.cells #[.int .i64 fr, .int .i64 lo, .slice b ids.length c] 85) (.cells #[.int .i64 0, .int .i64 0, .slice none 0 0] 97) (.cells #[.int .i64 fr, .int .i64 lo, .slice none 0 0] 97)
  rw [← hW0] at hP hR hO hB
  have HP := hide hP
  have HR := hide hR
  have HO := hide hO
  have HB := hide hB
  clear hP hR hO hB hW0
  obtain ⟨c0, c1, c2⟩ := three (unhide HP)
  have HT := hide (toIntS b c ids W0 hl (GR.At.below (unhide HA) (unhide HB)))
  go_wp2_with fail
  refine (unhide HT).mono ?_
  rintro e w1 ⟨rfl, hblk, hb1⟩
  have HR1 := hide (obj_step (unhide HR) hb1)
  have HO1 := hide (obj_step (unhide HO) hb1)
  have HI1 := hide hblk
  have HB1 := hide ((unhide HB).trans (hb1.mono (unhide HB).size))
  have HLT := hide (obj_lt (unhide HO))
  clear hblk hb1 c0 c1 c2 HT
  obtain ⟨d0, d1, d2⟩ := three (unhide HO1)
  obtain ⟨r0, r1, r2⟩ := three (unhide HR1)
  have f0 := obj_free (unhide HO1) 2
  have f1 := obj_free (unhide HR1) 0
  have f2 := obj_free (unhide HR1) 1
  have f3 := obj_free (unhide HR1) 2
  go_wp2_with fail
  refine bodyPost_atN (fun W' hW' => ?_)
  have hR := blk_setO (blk_setO (blk_setO (oth_set (g := w.heap.size + 1 + 1) (i := 2) (v := .slice (some ⟨W0.heap.size, 0, none⟩) ids.length ids.length) (unhide HR1) (by omega)) 0 (.int .i64 fr)) 1 (.int .i64 lo)) 2 (.slice (some ⟨W0.heap.size, 0, none⟩) ids.length ids.length)
  obtain ⟨x0, x1, x2⟩ := three (show W'.heap[w.heap.size + 1]? = some (.cells #[.int .i64 fr, .int .i64 lo, .slice (some ⟨W0.heap.size, 0, none⟩) ids.length ids.length] 97 (0, 0)) by rw [hW']; exact hR)
  have hlt := unhide HLT
  refine bodyPost_ret (v := seenV ⟨fr, lo, ids⟩ (some ⟨W0.heap.size, 0, none⟩) ids.length) (by simp [results, Tryz.results60, go_sem, x0, x1, x2]) rfl ⟨W0.heap.size, by omega, rfl, ?_, ?_⟩
  · rw [hW']
    exact oth_set (oth_set (oth_set (oth_set (unhide HI1) (by omega)) (by omega)) (by omega)) (by omega)
  · rw [hW']
    exact ((((unhide HB1).setCell (p := ⟨w.heap.size + 1 + 1, 2, none⟩) (by show w.heap.size ≤ w.heap.size + 1 + 1; omega) _).setCell (p := ⟨w.heap.size + 1, 0, none⟩) (by show w.heap.size ≤ w.heap.size + 1; omega) _).setCell (p := ⟨w.heap.size + 1, 1, none⟩) (by show w.heap.size ≤ w.heap.size + 1; omega) _).setCell (p := ⟨w.heap.size + 1, 2, none⟩) (by show w.heap.size ≤ w.heap.size + 1; omega) _
abbrev r3Blk (w : World) (g : Nat) (T : List R3) : Prop := GR.Blk encR3 97 w g T
theorem r3Blk.three {w : World} {g : Nat} {l : List R3} (h : r3Blk w g l) (i : Nat) (hi : i < l.length) : w.cell? ⟨g, i * 3, none⟩ = some (.int .i64 l[i].f) ∧ w.cell? ⟨g, i * 3 + 1, none⟩ = some (.int .i64 l[i].l) ∧ w.cell? ⟨g, i * 3 + 2, none⟩ = some l[i].v :=
  ⟨by simpa using GR.Blk.cell h encR3_length i hi 0 (by omega), by simpa using GR.Blk.cell h encR3_length i hi 1 (by omega), by simpa using GR.Blk.cell h encR3_length i hi 2 (by omega)⟩
set_option maxRecDepth 100000 in
set_option maxHeartbeats 2000000 in
theorem toSeenS (a : Option Addr) (cap : Nat) (l : List Sn) (w : World) (hl : l.length ≤ 1048576) (hl2 : ∀ s ∈ l, s.ids.length ≤ 1048576) (ha : SeenAt w a l) :
    Calls Tryz.prog 23 #[.slice a l.length cap] w fun e w' => e = .returned (.slice (some ⟨w.heap.size, 0, none⟩) l.length l.length) ∧ (∃ (T : List R3) (I : Nat → Nat), r3Blk w' w.heap.size T ∧ T.length = l.length ∧ (∀ i, i < l.length → w.heap.size < I i ∧ I i < w'.heap.size ∧ T[i]? = some ⟨(l.getD i default).f, (l.getD i default).l, .slice (some ⟨I i, 0, none⟩) (l.getD i default).ids.length (l.getD i default).ids.length⟩ ∧ intBlk w' (I i) (l.getD i default).ids) ∧ (∀ i j, i < j → j < l.length → I i < I j)) ∧ Below w.heap.size w w' := by
  have hmk := makeSeen l.length (by omega)
  have HA := hide ha
  have HL2 := hide hl2
  clear ha hl2
  go_enter Tryz.func23, Tryz.ntmps23
  go_wp2_with fail
  go_loopw [4] (fun i wr => ∃ (k : Nat) (T : List R3) (I : Nat → Nat), k ≤ l.length ∧ i = .int .i64 k ∧ r3Blk wr w.heap.size T ∧ T.length = l.length ∧ (∀ i, i < k → w.heap.size < I i ∧ I i < wr.heap.size ∧ T[i]? = some ⟨(l.getD i default).f, (l.getD i default).l, .slice (some ⟨I i, 0, none⟩) (l.getD i default).ids.length (l.getD i default).ids.length⟩ ∧ intBlk wr (I i) (l.getD i default).ids) ∧ (∀ i j, i < j → j < k → I i < I j) ∧ Below w.heap.size w wr) (fun i _ => l.length - (intOf i).toNat)
  case atStart => exact ⟨0, List.replicate l.length ⟨0, 0, .slice none 0 0⟩, fun i => i, Nat.zero_le _, rfl, heap_alloc_new w _, by simp, fun i hi => by omega, fun i j _ hj => by omega, below_one w _⟩
  case round =>
    obtain ⟨k, T, I, hk, rfl, hB, hTl, hI, hIm, hbel⟩ := hrel
    have HB := hide hB
    have HBL := hide hbel
    have HI := hide hI
    have HIM := hide hIm
    clear hB hbel hmk hI hIm
    by_cases hlt : k < l.length
    · obtain ⟨g, off, b, c, e0, hgw, q0, q1, q2, hX⟩ := SeenAt.below (unhide HA) (unhide HBL) k hlt
      subst e0
      have hs := unhide HL2 _ (List.getElem_mem hlt)
      have HTO := hide (toSeen l[k] b c wr hs hX)
      have hgd : l.getD k default = l[k] := by rw [List.getD_eq_getElem?_getD, List.getElem?_eq_getElem hlt]; rfl
      have HGD := hide hgd
      clear hX hgd
      generalize l[k] = sk at *
      obtain ⟨fr, lo, ids⟩ := sk
      dsimp only at q0 q1 q2 hs
      go_wp2_with fail
      refine (unhide HTO).mono ?_
      rintro e w5 ⟨g5, hg5, rfl, hI5, hb5⟩
      have HB5 : Hid (r3Blk w5 w.heap.size T) := obj_step (unhide HB) hb5
      have HBL5 := hide ((unhide HBL).trans (hb5.mono (unhide HBL).size))
      have HI5 := hide hI5
      have HS5 := hide hb5
      have hg5' := obj_lt hI5
      have hwl := obj_lt (unhide HB)
      clear hb5 q0 q1 q2 hI5 HTO
      obtain ⟨s0, s1, s2⟩ := r3Blk.three (unhide HB5) k (by omega)
      have f0 := GR.Blk.free (unhide HB5) (k * 3)
      have f1 := GR.Blk.free (unhide HB5) (k * 3 + 1)
      have f2 := GR.Blk.free (unhide HB5) (k * 3 + 2)
      go_wp2_with fail
      go_roundw
      case rel =>
        have h := GR.Blk.set (unhide HB5) encR3_length k (by omega) ⟨fr, lo, .slice (some ⟨g5, 0, none⟩) ids.length ids.length⟩
        refine ⟨k + 1, T.set k ⟨fr, lo, .slice (some ⟨g5, 0, none⟩) ids.length ids.length⟩, fun i => if i = k then g5 else I i, by omega, by go_num, h, by simpa using hTl, ?_, ?_, GR.setW_below (o := k * 3) (Nat.le_refl w.heap.size) (encR3 ⟨fr, lo, .slice (some ⟨g5, 0, none⟩) ids.length ids.length⟩) (unhide HBL5)⟩
        · intro i hi
          have hsz : ∀ X : Nat, X < w5.heap.size → X < (GR.setW w5 w.heap.size (k * 3) (encR3 ⟨fr, lo, .slice (some ⟨g5, 0, none⟩) ids.length ids.length⟩)).heap.size := fun X hX => Nat.lt_of_lt_of_le hX (GR.setW_below (B := 0) (a := w5) (o := k * 3) (Nat.zero_le w.heap.size) _ ⟨rfl, rfl, rfl, Nat.le_refl _, fun _ h => absurd h (Nat.not_lt_zero _)⟩).size
          by_cases hik : i = k
          · subst hik
            simp only [if_true]
            rw [unhide HGD]
            exact ⟨by omega, hsz _ hg5', by rw [List.getElem?_set_self (by omega)], (GR.setW_other (g := w.heap.size) (g' := g5) (by omega) (encR3 ⟨fr, lo, .slice (some ⟨g5, 0, none⟩) ids.length ids.length⟩) (w := w5) (o := i * 3)).trans (unhide HI5)⟩
          · simp only [if_neg hik]
            obtain ⟨h1, h2, h3, h4⟩ := unhide HI i (by omega)
            refine ⟨h1, hsz _ (Nat.lt_of_lt_of_le h2 (unhide HS5).size), by rw [List.getElem?_set_ne (by omega)]; exact h3, (GR.setW_other (g := w.heap.size) (g' := I i) (by omega) (encR3 ⟨fr, lo, .slice (some ⟨g5, 0, none⟩) ids.length ids.length⟩) (w := w5) (o := k * 3)).trans (obj_step h4 (unhide HS5))⟩
        · intro i j hij hj
          by_cases hjk : j = k
          · subst hjk
            simp only [if_true, if_neg (show ¬ i = j by omega)]
            have := (unhide HI i (by omega)).2.1
            omega
          · simp only [if_neg hjk, if_neg (show ¬ i = k by omega)]
            exact unhide HIM i j hij (by omega)
      case measure => simp [intOf]; omega
    · have hke : k = l.length := by omega
      subst hke
      have hnlt : decide ((l.length : Int) < (l.length : Int)) = false := by simp
      go_wp2_with fail
      go_ret
      exact ⟨rfl, ⟨T, I, unhide HB, hTl, unhide HI, unhide HIM⟩, unhide HBL⟩
set_option maxRecDepth 100000 in
theorem szSeen (s : Sn) (b : Option Addr) (c : Nat) (left : Int) (w : World) (h0 : 0 ≤ left) (h1 : left ≤ 1048576) (hk : s.ids.length ≤ maxLen) : Calls Tryz.prog 47 #[seenV s b c, .int .i64 left] w fun e w' => e = .returned (.int .i64 (if (s.ids.length : Int) ≤ left then left - s.ids.length else -1)) ∧ Below w.heap.size w w' := by
  obtain ⟨fr, lo, ids⟩ := s
  dsimp only at hk ⊢
  have HI := hide (fun w1 => szIntS b c ids left w1 h0 h1 hk)
  by_cases hc : (ids.length : Int) ≤ left
  · rw [if_pos hc] at HI ⊢
    have hn : ¬ (left - (ids.length : Int) < 0) := by omega
    go_enter Tryz.func47, Tryz.ntmps47
    go_wp2_with (go_at_call 13; refine (unhide HI _).mono ?_; rintro e w1 ⟨rfl, rfl⟩)
    go_ret
    exact ⟨rfl, below_one w _⟩
  · rw [if_neg hc] at HI ⊢
    go_enter Tryz.func47, Tryz.ntmps47
    go_wp2_with (go_at_call 13; refine (unhide HI _).mono ?_; rintro e w1 ⟨rfl, rfl⟩)
    go_ret
    exact ⟨rfl, below_one w _⟩
set_option maxRecDepth 100000 in
set_option maxHeartbeats 2000000 in
theorem szSeenS (a : Option Addr) (ca : Nat) (l : List Sn) (z0 : Int) (w : World) (h0 : 0 ≤ z0) (h1 : z0 ≤ 1048576) (hl : l.length ≤ maxLen) (hks : ∀ p ∈ l, p.ids.length ≤ maxLen) (ha : SeenAt w a l) :
    Calls Tryz.prog 16 #[.slice a l.length ca, .int .i64 z0] w fun e w' => ∃ r : Int, e = .returned (.int .i64 r) ∧ Below w.heap.size w w' ∧ (r = -1 ∨ 0 ≤ r ∧ r ≤ 1048576 ∧ l.length ≤ 1048576 ∧ ∀ p ∈ l, p.ids.length ≤ 1048576) := by
  have HA := hide ha
  clear ha
  unfold maxLen at hl
  by_cases hbig : (l.length : Int) ≤ z0
  · have hn : ¬ (z0 - (l.length : Int) < 0) := by omega
    go_enter Tryz.func16, Tryz.ntmps16
    go_wp2_with fail
    go_loopw [1, 5] (fun lf i wr => ∃ (k : Nat) (z : Int), k ≤ l.length ∧ i = .int .i64 k ∧ lf = .int .i64 z ∧ 0 ≤ z ∧ z ≤ 1048576 ∧ (∀ p ∈ l.take k, p.ids.length ≤ 1048576) ∧ Below w.heap.size w wr) (fun _ i _ => l.length - (intOf i).toNat)
    case atStart => exact ⟨0, z0 - l.length, Nat.zero_le _, rfl, by go_num, by omega, by omega, fun p hp => by simp at hp, Below.refl _ _⟩
    case round =>
      obtain ⟨k, z, hk, rfl, rfl, hz0, hz1, hall, hbel⟩ := hrel
      have HALL := hide hall
      have HBL := hide hbel
      clear hall hbel
      by_cases hlt : k < l.length
      · obtain ⟨g, off, b, c, e0, hgw, q0, q1, q2, _⟩ := SeenAt.below (unhide HA) (unhide HBL) k hlt
        subst e0
        have hkk := hks l[k] (List.getElem_mem hlt)
        have HT := hide (List.take_succ_eq_append_getElem hlt)
        generalize l[k] = pu at *
        have HSZ := hide (fun w1 => szSeen pu b c z w1 hz0 hz1 hkk)
        obtain ⟨fr, lo, ids⟩ := pu
        dsimp only at q0 q1 q2 hkk
        unfold maxLen at hkk
        go_wp2_with fail
        refine (unhide HSZ _).mono ?_
        rintro e w5 ⟨rfl, hb5⟩
        have HBL5 := hide ((unhide HBL).trans (hb5.mono (unhide HBL).size))
        clear hb5 q0 q1 q2
        dsimp only
        by_cases hc : (ids.length : Int) ≤ z
        · rw [if_pos hc]
          have hn2 : decide (z - (ids.length : Int) < 0) = false := decide_eq_false (by omega)
          go_wp2_with fail
          go_roundw
          case rel =>
            refine ⟨k + 1, z - ids.length, by omega, by go_num, rfl, by omega, by omega, ?_, unhide HBL5⟩
            intro p hp
            rw [unhide HT] at hp
            rcases List.mem_append.1 hp with h | h
            · exact unhide HALL p h
            · rw [List.mem_singleton] at h
              subst h
              show ids.length ≤ 1048576
              omega
          case measure => simp [intOf]; omega
        · rw [if_neg hc]
          go_wp2_with fail
          go_ret
          exact ⟨-1, rfl, unhide HBL5, .inl rfl⟩
      · have hke : k = l.length := by omega
        subst hke
        have hnlt : decide ((l.length : Int) < (l.length : Int)) = false := by simp
        go_wp2_with fail
        go_ret
        have h := unhide HALL
        rw [List.take_length] at h
        exact ⟨z, rfl, unhide HBL, .inr ⟨hz0, hz1, by omega, h⟩⟩
  · have hn : z0 - (l.length : Int) < 0 := by omega
    go_enter Tryz.func16, Tryz.ntmps16
    go_wp2_with fail
    go_ret
    exact ⟨-1, rfl, Below.refl _ _, .inl rfl⟩
set_option maxRecDepth 100000 in
set_option maxHeartbeats 1000000 in
theorem eqSeen (s : Sn) (b b' : Option Addr) (c c' : Nat) (w : World) (hl : s.ids.length ≤ 1048600) (ha : IntsAt w b s.ids) (hb : IntsAt w b' s.ids) : Calls Tryz.prog 73 #[seenV s b c, seenV s b' c'] w fun e w' => e = .returned (.bool true) ∧ Below w.heap.size w w' := by
  obtain ⟨fr, lo, ids⟩ := s
  dsimp only at hl ha hb ⊢
  have hbx : Below w.heap.size w ((w.alloc (.cells #[.int .i64 fr, .int .i64 lo, .slice b ids.length c] 97)).alloc (.cells #[.int .i64 fr, .int .i64 lo, .slice b' ids.length c'] 97)) := (below_one w _).alloc (by simp) _
  have HE := hide (eqIntS b b' c c' ids _ hl (GR.At.below ha hbx) (GR.At.below hb hbx))
  have HBX := hide hbx
  clear ha hb hbx
  go_enter Tryz.func73, Tryz.ntmps73
  go_wp2_with fail
  refine (unhide HE).mono ?_
  rintro e w1 ⟨rfl, hb1⟩
  have HB1 := hide ((unhide HBX).trans (hb1.mono (unhide HBX).size))
  clear hb1
  go_wp2_with fail
  go_ret
  exact ⟨rfl, unhide HB1⟩
set_option maxRecDepth 100000 in
set_option maxHeartbeats 2000000 in
theorem eqSeenS (a b : Option Addr) (ca cb : Nat) (l : List Sn) (w : World) (hl : l.length ≤ 1048600) (hl2 : ∀ s ∈ l, s.ids.length ≤ 1048600) (ha : SeenAt w a l) (hb : SeenAt w b l) :
    Calls Tryz.prog 33 #[.slice a l.length ca, .slice b l.length cb] w fun e w' => e = .returned (.bool true) ∧ Below w.heap.size w w' := by
  have HA := hide ha
  have HB := hide hb
  have HL2 := hide hl2
  clear ha hb hl2
  go_enter Tryz.func33, Tryz.ntmps33
  go_wp2_with fail
  go_loopw [5] (fun i wr => ∃ k : Nat, k ≤ l.length ∧ i = .int .i64 k ∧ Below w.heap.size w wr) (fun i _ => l.length - (intOf i).toNat)
  case atStart => exact ⟨0, Nat.zero_le _, rfl, Below.refl _ _⟩
  case round =>
    obtain ⟨k, hk, rfl, hbel⟩ := hrel
    have HBL := hide hbel
    clear hbel
    by_cases hlt : k < l.length
    · obtain ⟨g1, o1, b1, c1, e1, hg1, s0, s1, s2, hI1⟩ := SeenAt.below (unhide HA) (unhide HBL) k hlt
      obtain ⟨g2, o2, b2, c2, e2, hg2, t0, t1, t2, hI2⟩ := SeenAt.below (unhide HB) (unhide HBL) k hlt
      subst e1 e2
      have hs := unhide HL2 _ (List.getElem_mem hlt)
      generalize l[k] = pu at *
      have HEQ : Hid (∀ w1, Below wr.heap.size wr w1 → Calls Tryz.prog 73 #[seenV pu b1 c1, seenV pu b2 c2] w1 fun e w' => e = .returned (.bool true) ∧ Below w1.heap.size w1 w') := fun w1 hbb => eqSeen pu b1 b2 c1 c2 w1 hs (GR.At.below hI1 hbb) (GR.At.below hI2 hbb)
      clear hI1 hI2
      obtain ⟨fr, lo, ids⟩ := pu
      dsimp only at s0 s1 s2 t0 t1 t2 hs
      go_wp2_with fail
      have cE : ∀ d os, Calls Tryz.prog 73 #[seenV ⟨fr, lo, ids⟩ b1 c1, seenV ⟨fr, lo, ids⟩ b2 c2] (Sort.grow (redrawn wr d) os) fun e w'' => e = .returned (.bool true) ∧ ∃ p : Regrown, w'' = Sort.grow (redrawn wr p.d) p.os := fun d os => Calls.regrown_of (unhide HEQ _ (below_regrown wr d os))
      have k0 := cell_grown' s0
      have k1 := cell_grown' s1
      have k2 := cell_grown' s2
      have m0 := cell_grown' t0
      have m1 := cell_grown' t1
      have m2 := cell_grown' t2
      refine wp_region_quiet_below (by kernel_rfl) (by kernel_rfl) ?_
      repeat (first | go_big_quiet_step ((go_at_call 73; exact cE _ _)) | quiet_step ((go_at_call 73; exact cE _ _)))
      refine wpQuiet_nil ?_
      intro _ hw'
      obtain ⟨⟨dq, osq⟩, hw''⟩ := hw'
      subst hw''
      go_wp2_with fail
      go_roundw
      case rel => exact ⟨k + 1, by omega, by go_num, (unhide HBL).trans ((below_regrown _ dq osq).mono (unhide HBL).size)⟩
      case measure => simp [intOf]; omega
    · have hke : k = l.length := by omega
      subst hke
      have hnlt : decide ((l.length : Int) < (l.length : Int)) = false := by simp
      go_wp2_with fail
      go_ret
      exact ⟨rfl, unhide HBL⟩
end Go.Proofs.YtcfcngbfnflbgaaGreatDoor
