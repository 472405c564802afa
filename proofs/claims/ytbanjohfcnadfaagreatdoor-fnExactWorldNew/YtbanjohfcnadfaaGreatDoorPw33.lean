/- Parts. -/
import Derived.Test.YtbanjohfcnadfaaGreatDoorPw4
import Derived.Test.YtbanjohfcnadfaaGreatDoorPw32
import Derived.Test.YtbanjohfcnadfaaGreatDoorPw13
import Derived.Test.YtbanjohfcnadfaaGreatDoorPw21
import Derived.Test.YtbanjohfcnadfaaGreatDoorPw28
namespace Go.Proofs.YtbanjohfcnadfaaGreatDoor
open Go.RowKit
open Mth

/-- A tree as a value. -/
abbrev trv (a : Option Addr) (l : List Int) (cap : Nat) : Value := .agg #[.slice a l.length cap]
theorem tree_new (w : World) (v : Value) (t : TypeId) : (w.alloc (.cells #[v] t)).cell? ⟨w.heap.size, 0, none⟩ = some v := by simp
theorem szTree (a : Option Addr) (ca : Nat) (l : List Int) (z0 : Int) (w : World) (h0 : 0 ≤ z0) (h1 : z0 ≤ 1048576) (hl : l.length ≤ maxLen) :
    Calls Tryz.prog 4 #[trv a l ca, .int .i64 z0] w fun e w' => e = .returned (.int .i64 (if (l.length : Int) ≤ z0 then z0 - l.length else -1)) ∧ Below w.heap.size w w' := by
  have HC := hide (fun W => szIntS a ca l z0 W h0 h1 hl)
  by_cases hc : (l.length : Int) ≤ z0
  · rw [if_pos hc] at *
    have hn : decide (z0 - (l.length : Int) < 0) = false := decide_eq_false (by omega)
    go_enter Tryz.func4, Tryz.ntmps4
    go_wp2_with (go_at_call 13; refine (unhide HC _).mono ?_; rintro e w1 ⟨rfl, rfl⟩)
    go_ret
    exact ⟨rfl, below_one' w _⟩
  · rw [if_neg hc] at *
    go_enter Tryz.func4, Tryz.ntmps4
    go_wp2_with (go_at_call 13; refine (unhide HC _).mono ?_; rintro e w1 ⟨rfl, rfl⟩)
    go_ret
    exact ⟨rfl, below_one' w _⟩
theorem tr_lt {w : World} {g : Nat} {o : Obj} (h : w.heap[g]? = some o) : g < w.heap.size := by
  rcases Nat.lt_or_ge g w.heap.size with h' | h'
  · exact h'
  · rw [Array.getElem?_eq_none h'] at h; cases h
theorem tr_step {w w' : World} {g : Nat} {o : Obj} (h : w.heap[g]? = some o) (hb : Below w.heap.size w w') : w'.heap[g]? = some o := by
  rw [hb.block g (tr_lt h)]; exact h
theorem one_at {w : World} {g : Nat} {v : Value} {t : TypeId} (h : w.heap[g]? = some (.cells #[v] t (0, 0))) : w.cell? ⟨g, 0, none⟩ = some v ∧ w.frozen? ⟨g, 0, none⟩ = false := by
  refine ⟨?_, ?_⟩
  · rw [cell_of_row w g _ _ t (0, 0) h]; rfl
  · unfold World.frozen?; rw [h]; simp
theorem one_set {w : World} {g : Nat} {v : Value} {t : TypeId} (u : Value) (h : w.heap[g]? = some (.cells #[v] t (0, 0))) : (w.setCell ⟨g, 0, none⟩ u).heap[g]? = some (.cells #[u] t (0, 0)) := by
  unfold World.setCell
  simp only [Array.getElem?_modify]
  rw [if_pos trivial, h]
  simp
theorem one_other {w : World} {g g' : Nat} {o : Obj} (u : Value) (hne : g' ≠ g) (h : w.heap[g']? = some o) : (w.setCell ⟨g, 0, none⟩ u).heap[g']? = some o := (Below.heap_setCell _ _ _ _ hne).trans h
theorem bodyPost_atT {P : Program} {fn : Func} {Q : Ending → World → Prop} {x : Exit} {act : Act} {W : World} (h : ∀ W', W' = W → bodyPost P fn Q x act W') : bodyPost P fn Q x act W := h W rfl
set_option maxRecDepth 100000 in
/-- A tree of the call's own. -/
theorem toTree (a : Option Addr) (cap : Nat) (l : List Int) (w : World) (hl : l.length ≤ 1048576) (ha : IntsAt w a l) :
    Calls Tryz.prog 6 #[trv a l cap] w fun e w' => ∃ g, e = .returned (trv (some ⟨g, 0, none⟩) l l.length) ∧ w.heap.size ≤ g ∧ intBlk w' g l ∧ Below w.heap.size w w' := by
  have HC := hide (fun W (hb : Below w.heap.size w W) => toIntS a cap l W hl (GR.At.below ha hb))
  clear ha
  go_enter Tryz.func6, Tryz.ntmps6
  go_wp2_with fail
  generalize hW : ((w.alloc (.cells #[.slice a l.length cap] 24)).alloc (.cells #[.slice none 0 0] 26)).alloc (.cells #[.slice none 0 0] 26) = W at *
  have hb0 : Below w.heap.size w W := by rw [← hW]; exact (((below_one' w _).alloc (by simp) _).alloc (by simp; omega) _)
  have hO1 : W.heap[w.heap.size + 1]? = some (.cells #[.slice none 0 0] 26 (0, 0)) := by
    rw [← hW]
    refine (Below.heap_alloc _ _ _ (by simp)).trans ?_
    have := heap_alloc_new (w.alloc (.cells #[.slice a l.length cap] 24)) (.cells #[.slice none 0 0] 26)
    rwa [World.size_alloc] at this
  have hO2 : W.heap[w.heap.size + 1 + 1]? = some (.cells #[.slice none 0 0] 26 (0, 0)) := by
    rw [← hW]
    have := heap_alloc_new ((w.alloc (.cells #[.slice a l.length cap] 24)).alloc (.cells #[.slice none 0 0] 26)) (.cells #[.slice none 0 0] 26)
    rwa [World.size_alloc, World.size_alloc] at this
  refine (unhide HC _ hb0).mono ?_
  rintro e w1 ⟨rfl, hblk, hb1⟩
  have hP1 := tr_step hO1 hb1
  have hP2 := tr_step hO2 hb1
  have HB := hide (hb0.trans (hb1.mono hb0.size))
  have hz1 := tr_lt hO2
  clear hb0 hb1 hO1 hO2 hW
  have HK := hide hblk
  have HP1 := hide hP1
  have HP2 := hide hP2
  obtain ⟨c1, f1⟩ := one_at hP1
  obtain ⟨c2, f2⟩ := one_at hP2
  clear hP1 hP2 hblk
  go_wp2_with fail
  refine bodyPost_atT (fun W' hW' => ?_)
  have h2 := one_set (.slice (some ⟨W.heap.size, 0, none⟩) l.length l.length) (unhide HP2)
  have h1 := one_set (.slice (some ⟨W.heap.size, 0, none⟩) l.length l.length) (one_other (.slice (some ⟨W.heap.size, 0, none⟩) l.length l.length) (show w.heap.size + 1 ≠ w.heap.size + 1 + 1 by omega) (unhide HP1))
  rw [← hW'] at h1
  have r0 := (one_at h1).1
  refine bodyPost_ret (v := .agg #[.slice (some ⟨W.heap.size, 0, none⟩) l.length l.length]) (by simp [results, Tryz.results6, go_sem, r0]) rfl ⟨_, rfl, by omega, ?_, ?_⟩
  · rw [hW']
    unfold intBlk GR.Blk
    exact one_other _ (by omega) (one_other _ (by omega) (unhide HK))
  · rw [hW']
    exact ((unhide HB).setCell (p := ⟨w.heap.size + 1 + 1, 0, none⟩) (by simp; omega) _).setCell (p := ⟨w.heap.size + 1, 0, none⟩) (by simp) _
set_option maxRecDepth 100000 in
theorem eqTree (a b : Option Addr) (ca cb : Nat) (l : List Int) (w : World) (hl : l.length ≤ 1048600) (ha : IntsAt w a l) (hb : IntsAt w b l) :
    Calls Tryz.prog 9 #[trv a l ca, trv b l cb] w fun e w' => e = .returned (.bool true) ∧ Below w.heap.size w w' := by
  have HC := hide (fun W (hw : Below w.heap.size w W) => eqIntS a b ca cb l W hl (GR.At.below ha hw) (GR.At.below hb hw))
  clear ha hb
  go_enter Tryz.func9, Tryz.ntmps9
  have HB := hide (show Below w.heap.size w ((w.alloc (.cells #[.slice a l.length ca] 26)).alloc (.cells #[.slice b l.length cb] 26)) from (below_one' w _).alloc (by simp) _)
  go_wp2_with (go_at_call 26; refine (unhide HC _ (unhide HB)).mono ?_; rintro e w1 ⟨rfl, hb2⟩)
  go_ret
  exact ⟨rfl, (unhide HB).trans (hb2.mono (unhide HB).size)⟩


set_option maxRecDepth 100000 in
set_option maxHeartbeats 2000000 in
theorem specTreeOk (a : Option Addr) (cap : Nat) (l : List Int) (w : World) (hl : l.length ≤ 1048600) (ha : IntsAt w a l) :
    Calls Tryz.prog 14 #[trv a l cap] w fun e w' => e = .returned (.bool (treeB l)) ∧ Below w.heap.size w w' := by
  have HA := hide ha
  clear ha
  go_enter Tryz.func14, Tryz.ntmps14
  go_wp2_with fail
  go_loopw [3] (fun i wr => ∃ k : Nat, k ≤ l.length ∧ i = .int .i64 k ∧ upsB l k = true ∧ wr.cell? ⟨w.heap.size, 0, none⟩ = some (.slice a l.length cap) ∧ w.heap.size < wr.heap.size ∧ Below w.heap.size w wr) (fun i _ => l.length - (intOf i).toNat)
  case atStart => exact ⟨0, Nat.zero_le _, rfl, upsB_zero l, tree_new _ _ _, by simp, below_one' w _⟩
  case round =>
    obtain ⟨k, hk, rfl, hu, ht, hsz, hbel⟩ := hrel
    have HBL := hide hbel
    have HU := hide hu
    clear hbel hu
    by_cases hlt : k < l.length
    · obtain ⟨g, off, rfl, hgw, q0⟩ := IntsAt.one (GR.At.below (unhide HA) (unhide HBL)) k hlt
      by_cases hk0 : k = 0
      · subst hk0
        rw [Nat.add_zero] at q0
        have hz : upB l 0 = decide (l[0] = -1) := upB_zero l hlt
        generalize l[0] = pu at *
        by_cases hp : pu = -1
        · subst hp
          have HS := hide (show upsB l (0 + 1) = true by rw [upsB_succ, unhide HU, hz]; rfl)
          clear hz
          go_wp2_with fail
          go_roundw
          case rel => exact ⟨1, by omega, by go_num, unhide HS, ht, hsz, unhide HBL⟩
          case measure => simp [intOf]; omega
        · have HE := hide (treeB_bad l 0 hlt (by rw [hz]; simpa using hp))
          have hne : (pu != -1) = true := by simpa using hp
          clear hz
          go_wp2_with fail
          go_ret
          exact ⟨ret_bool (unhide HE).symm, unhide HBL⟩
      · have hz : upB l k = decide (0 ≤ l[k] ∧ l[k] < (k : Int)) := upB_pos l k (by omega) hlt
        generalize l[k] = pu at *
        by_cases hp : 0 ≤ pu ∧ pu < (k : Int)
        · have HS := hide (show upsB l (k + 1) = true by rw [upsB_succ, unhide HU, hz, decide_eq_true hp]; rfl)
          have hc := fun W => l01In_yes pu 0 ((k : Int) - 1) W (by omega) (by omega)
          clear hz
          go_wp2_with (go_at_call 37; refine (hc _).mono ?_; rintro e w1 ⟨rfl, rfl⟩)
          go_roundw
          case rel => exact ⟨k + 1, by omega, by go_num, unhide HS, ht, hsz, unhide HBL⟩
          case measure => simp [intOf]; omega
        · have HE := hide (treeB_bad l k hlt (by rw [hz]; exact decide_eq_false hp))
          have hc := fun W => l01In_no pu 0 ((k : Int) - 1) W (by omega)
          clear hz
          go_wp2_with (go_at_call 37; refine (hc _).mono ?_; rintro e w1 ⟨rfl, rfl⟩)
          go_ret
          exact ⟨ret_bool (unhide HE).symm, unhide HBL⟩
    · have hke : k = l.length := by omega
      subst hke
      have HF := hide (treeB_fit l (unhide HU))
      by_cases hin : 1 ≤ (l.length : Int) ∧ (l.length : Int) ≤ 30
      · have hc := fun W => l01In_yes (l.length : Int) 1 30 W hin.1 hin.2
        go_wp2_with (go_at_call 37; refine (hc _).mono ?_; rintro e w1 ⟨rfl, rfl⟩)
        go_ret
        exact ⟨ret_bool (by rw [unhide HF, decide_eq_true hin]), unhide HBL⟩
      · have hc := fun W => l01In_no (l.length : Int) 1 30 W (by omega)
        go_wp2_with (go_at_call 37; refine (hc _).mono ?_; rintro e w1 ⟨rfl, rfl⟩)
        go_ret
        exact ⟨ret_bool (by rw [unhide HF, decide_eq_false hin]), unhide HBL⟩

set_option maxRecDepth 100000 in
set_option maxHeartbeats 2000000 in
theorem implOk (a : Option Addr) (cap : Nat) (l : List Int) (w : World) (hl : l.length ≤ 1048600) (ha : IntsAt w a l) :
    Calls Tryz.prog 18 #[trv a l cap] w fun e w' => e = .returned (.bool (treeB l)) ∧ Below w.heap.size w w' := by
  have HA := hide ha
  clear ha
  by_cases h0 : l.length = 0
  · have HE := hide (treeB_len l (.inl h0))
    go_enter Tryz.func18, Tryz.ntmps18
    have hd : ((l.length : Int) == 0) = true := by simpa using h0
    go_wp2_with fail
    go_ret
    exact ⟨ret_bool (unhide HE).symm, below_one' w _⟩
  by_cases h30 : 30 < l.length
  · have HE := hide (treeB_len l (.inr h30))
    go_enter Tryz.func18, Tryz.ntmps18
    have hd : ((l.length : Int) == 0) = false := by simpa using h0
    go_wp2_with fail
    go_ret
    exact ⟨ret_bool (unhide HE).symm, below_one' w _⟩
  have hd : ((l.length : Int) == 0) = false := by simpa using h0
  obtain ⟨g, off, rfl, hgw, q0⟩ := IntsAt.one (unhide HA) 0 (by omega)
  rw [Nat.add_zero] at q0
  have hz := hide (upB_zero l (by omega))
  generalize l[0] = pr at *
  have hb1 : Below w.heap.size w (w.alloc (.cells #[.slice (some ⟨g, off, none⟩) l.length cap] 26)) := below_one' w _
  have q1 : (w.alloc (.cells #[.slice (some ⟨g, off, none⟩) l.length cap] 26)).cell? ⟨g, off, none⟩ = some (.int .i64 pr) := (hb1.cell (p := ⟨g, off, none⟩) hgw).trans q0
  clear q0 hb1
  by_cases hp : pr = -1
  case neg =>
    have HE := hide (treeB_bad l 0 (by omega) (by rw [unhide hz]; simpa using hp))
    have hne : (pr != -1) = true := by simpa using hp
    go_enter Tryz.func18, Tryz.ntmps18
    go_wp2_with fail
    go_ret
    exact ⟨ret_bool (unhide HE).symm, below_one' w _⟩
  subst hp
  have HU1 := hide (show upsB l 1 = true by rw [upsB_succ, upsB_zero, unhide hz]; rfl)
  go_enter Tryz.func18, Tryz.ntmps18
  go_wp2_with fail
  go_loopw [3] (fun i wr => ∃ k : Nat, 1 ≤ k ∧ k ≤ l.length ∧ i = .int .i64 k ∧ upsB l k = true ∧ wr.cell? ⟨w.heap.size, 0, none⟩ = some (.slice (some ⟨g, off, none⟩) l.length cap) ∧ w.heap.size < wr.heap.size ∧ Below w.heap.size w wr) (fun i _ => l.length - (intOf i).toNat)
  case atStart => exact ⟨1, Nat.le_refl _, by omega, rfl, unhide HU1, tree_new _ _ _, by simp, below_one' w _⟩
  case round =>
    obtain ⟨k, hk1, hk, rfl, hu, ht, hsz, hbel⟩ := hrel
    have HBL := hide hbel
    have HU := hide hu
    clear hbel hu q1
    by_cases hlt : k < l.length
    · obtain ⟨g', off', eq, hgw', q0⟩ := IntsAt.one (GR.At.below (unhide HA) (unhide HBL)) k hlt
      cases eq
      have hz : upB l k = decide (0 ≤ l[k] ∧ l[k] < (k : Int)) := upB_pos l k (by omega) hlt
      generalize l[k] = pu at *
      by_cases hp : 0 ≤ pu
      · by_cases hp2 : pu < (k : Int)
        · have HS := hide (show upsB l (k + 1) = true by rw [upsB_succ, unhide HU, hz, decide_eq_true ⟨hp, hp2⟩]; rfl)
          clear hz
          go_wp2_with fail
          go_roundw
          case rel => exact ⟨k + 1, by omega, by omega, by go_num, unhide HS, ht, hsz, unhide HBL⟩
          case measure => simp [intOf]; omega
        · have HE := hide (treeB_bad l k hlt (by rw [hz]; exact decide_eq_false (fun h => hp2 h.2)))
          clear hz
          go_wp2_with fail
          go_ret
          exact ⟨ret_bool (unhide HE).symm, unhide HBL⟩
      · have HE := hide (treeB_bad l k hlt (by rw [hz]; exact decide_eq_false (fun h => hp h.1)))
        clear hz
        go_wp2_with fail
        go_ret
        exact ⟨ret_bool (unhide HE).symm, unhide HBL⟩
    · have hke : k = l.length := by omega
      subst hke
      have HF := hide (treeB_good l hk1 (by omega) (unhide HU))
      go_wp2_with fail
      go_ret
      exact ⟨ret_bool (unhide HF).symm, unhide HBL⟩


/-- A node's own cells. -/
structure R9 where
  id : Int
  par : Int
  next : Int
  old : Int
  k : Value
  p : Value
  o : Value
  s : Value
  r : Value
abbrev enc9 (x : R9) : List Value := [.int .i64 x.id, .int .i64 x.par, x.k, .int .i64 x.next, x.p, x.o, x.s, .int .i64 x.old, x.r]
theorem enc9_length (x : R9) : (enc9 x).length = 9 := rfl
/-- A node, the addresses of its rows, their blocks. -/
abbrev NdI := Nd × Ads × Blks
def r9 (x : NdI) : R9 := ⟨x.1.id, x.1.par, x.1.next, x.1.old, .slice x.2.1.k x.1.kids.length x.2.1.ck, .slice x.2.1.p x.1.pu.length x.2.1.cp, .slice x.2.1.o x.1.out.length x.2.1.co, .slice x.2.1.s x.1.seen.length x.2.1.cs, .slice x.2.1.r x.1.reqs.length x.2.1.cr⟩
def rows9 (L : List NdI) : List R9 := L.map r9
theorem rows9_length (L : List NdI) : (rows9 L).length = L.length := by simp [rows9]
/-- All blocks of the nodes' rows. -/
def fpN (L : List NdI) : List Nat := L.flatMap fun x => x.2.2.all x.1
theorem fpN_snoc (L : List NdI) (x : NdI) : fpN (L ++ [x]) = fpN L ++ x.2.2.all x.1 := by simp [fpN]
theorem fpN_mem {L : List NdI} {x : NdI} (h : x ∈ L) : ∀ b ∈ x.2.2.all x.1, b ∈ fpN L := fun _ hb => List.mem_flatMap.2 ⟨x, h, hb⟩
structure NL (w : World) (lo : Nat) (v : Value) (L : List NdI) : Prop where
  own : w.ownsRow lo 50 9 v L.length (GR.flat enc9 (rows9 L))
  each : ∀ x ∈ L, NodeW w x.2.1 x.2.2 x.1
  rng : ∀ b ∈ fpN L, lo ≤ b ∧ b < w.heap.size
  nd : (fpN L).Nodup
  ne : ∀ b, v.ownBlock = some b → b ∉ fpN L
theorem NL.step {w w' : World} {lo : Nat} {v : Value} {L : List NdI} (h : NL w lo v L) (hb : Below w.heap.size w w') : NL w' lo v L :=
  ⟨GR.own_below h.own hb, fun x hx => (h.each x hx).below hb, fun b hb2 => ⟨(h.rng b hb2).1, Nat.lt_of_lt_of_le (h.rng b hb2).2 hb.size⟩, h.nd, h.ne⟩
theorem NL.lower {w : World} {lo lo' : Nat} {v : Value} {L : List NdI} (h : NL w lo v L) (hl : lo' ≤ lo) : NL w lo' v L :=
  ⟨GR.own_lower h.own hl, h.each, fun b hb => ⟨Nat.le_trans hl (h.rng b hb).1, (h.rng b hb).2⟩, h.nd, h.ne⟩
theorem NL.blk_lt {w : World} {lo : Nat} {v : Value} {L : List NdI} (h : NL w lo v L) : ∀ b, v.ownBlock = some b → lo ≤ b ∧ b < w.heap.size := fun b hb => h.own.lt b hb
/-- One more. m: a place that all rows of before lie below, and those of the new one do not. -/
theorem NL.app {w w6 : World} {lo m : Nat} {v v' : Value} {L : List NdI} {x : NdI} (h : NL w lo v L) (hx : NodeW w x.2.1 x.2.2 x.1) (hlo : lo ≤ m) (hnd : (x.2.2.all x.1).Nodup) (hrng : ∀ b ∈ x.2.2.all x.1, m ≤ b ∧ b < w.heap.size)
    (hL : ∀ b ∈ fpN L, b < m) (hv : ∀ b, v.ownBlock = some b → b < m)
    (hown : w6.ownsRow lo 50 9 v' (L.length + 1) (GR.flat enc9 (rows9 L) ++ enc9 (r9 x))) (hg : w.grownBy w6 v.ownBlock) (hv' : ∀ b, v'.ownBlock = some b → v.ownBlock = some b ∨ w.heap.size ≤ b) : NL w6 lo v' (L ++ [x]) := by
  have hk : KeepsL v.ownBlock.toList w w6 := ⟨hg.os, hg.tape, hg.output, hg.size, fun k hk hm => hg.block k hk (fun e => hm (by rw [← e]; simp))⟩
  have hsame : ∀ b, b ∈ v.ownBlock.toList → v.ownBlock = some b := fun b hb => by
    cases hv2 : v.ownBlock with
    | none => rw [hv2] at hb; simp at hb
    | some c => rw [hv2] at hb; simp at hb; rw [hb]
  refine ⟨?_, fun y hy => ?_, fun b hb => ?_, ?_, fun b hb hm => ?_⟩
  · have e : rows9 (L ++ [x]) = rows9 L ++ [r9 x] := by simp [rows9]
    rw [e, List.length_append, GR.flat_append, GR.flat_one]
    exact hown
  · rcases List.mem_append.1 hy with hy | hy
    · exact (h.each y hy).keeps hk (fun b hb hm => h.ne b (hsame b hm) (fpN_mem hy b hb))
    · obtain rfl : y = x := by simpa using hy
      exact hx.keeps hk (fun b hb hm => by have h1 := hv b (hsame b hm); have h2 := (hrng b hb).1; omega)
  · have hs := hg.size
    rw [fpN_snoc, List.mem_append] at hb
    rcases hb with hb | hb
    · have := h.rng b hb; omega
    · have := hrng b hb; omega
  · rw [fpN_snoc]
    exact List.nodup_append.2 ⟨h.nd, hnd, fun a ha b hb e => by have h1 := hL a ha; have h2 := (hrng b hb).1; omega⟩
  · rw [fpN_snoc, List.mem_append] at hm
    rcases hv' b hb with h1 | h1
    · rcases hm with hm | hm
      · exact h.ne b h1 hm
      · have h2 := hv b h1; have h3 := (hrng b hm).1; omega
    · rcases hm with hm | hm
      · have := (h.rng b hm).2; omega
      · have := (hrng b hm).2; omega
/-- What both TreeNodes give. -/
def GivesNL (w : World) (ns : List Nd) (e : Ending) (w' : World) : Prop := ∃ v L, e = .returned v ∧ L.map (fun x => x.1) = ns ∧ NL w' w.heap.size v L ∧ Below w.heap.size w w'
theorem infoNode : (Tryz.prog.info? 50).map (fun i => (i.zero, i.size, i.bytes)) = some (some (.agg zc9), 9, 152) := by kernel_rfl
namespace Mth

theorem TreeP.at_zero {l : List Int} (h : TreeP l) : l[0]'h.pos = -1 := by
  have := h.root
  rw [List.getElem?_eq_getElem h.pos] at this
  exact Option.some.inj this
end Mth
namespace Mth
def kidsTo (l : List Int) (n : Int) (k : Nat) : List Int := ((List.range k).filter (fun i => decide (l[i]?.getD (-1) = n))).map (fun i : Nat => (i : Int))
def kidsN (l : List Int) (n : Int) : List Int := kidsTo l n l.length
theorem kidsTo_yes (l : List Int) (n : Int) (k : Nat) (hk : k < l.length) (h : l[k] = n) : kidsTo l n (k + 1) = kidsTo l n k ++ [(k : Int)] := by
  unfold kidsTo
  rw [List.range_succ, List.filter_append, List.map_append]
  congr 1
  rw [List.filter_cons_of_pos (by rw [List.getElem?_eq_getElem hk, Option.getD_some, h]; simp)]
  rfl
theorem kidsTo_no (l : List Int) (n : Int) (k : Nat) (hk : k < l.length) (h : l[k] ≠ n) : kidsTo l n (k + 1) = kidsTo l n k := by
  unfold kidsTo
  rw [List.range_succ, List.filter_append, List.map_append]
  rw [List.filter_cons_of_neg (by rw [List.getElem?_eq_getElem hk, Option.getD_some]; simpa using h)]
  simp
theorem kidsTo_one {l : List Int} (hT : TreeP l) (n : Int) (hn : 0 ≤ n) : kidsTo l n 1 = [] := by
  rw [kidsTo_no l n 0 hT.pos (by rw [hT.at_zero]; omega)]
  rfl
theorem kidsTo_len (l : List Int) (n : Int) (k : Nat) : (kidsTo l n k).length ≤ k := by
  unfold kidsTo
  rw [List.length_map]
  exact Nat.le_trans (List.length_filter_le _ _) (by simp)
end Mth

theorem infoIntK : (Tryz.prog.info? 3).map (fun i => (i.zero, i.size, i.bytes)) = some (some (.int .i64 0), 1, 8) := by kernel_rfl
theorem flat_snoc_int (l : List Int) (x : Int) : GR.flat encNum (l ++ [x]) = GR.flat encNum l ++ [.int .i64 x] := by rw [GR.flat_append, GR.flat_one]
set_option maxRecDepth 100000 in
set_option maxHeartbeats 2000000 in
theorem specKidsOf (a : Option Addr) (cap : Nat) (l : List Int) (n : Int) (w : World) (hl : l.length ≤ 1048600) (ha : IntsAt w a l) (htb : treeB l = true) (hn : 0 ≤ n) :
    Calls Tryz.prog 39 #[trv a l cap, .int .i64 n] w fun e w' => ∃ v, e = .returned v ∧ w'.ownsRow w.heap.size 3 1 v (kidsN l n).length (GR.flat encNum (kidsN l n)) ∧ Below w.heap.size w w' := by
  obtain ⟨i0, hi, hz0, hz1, hz2⟩ := info_parts infoIntK
  have HTP := hide (TreeP.of htb)
  have HT0 := heap_alloc_new w (.cells #[.slice a l.length cap] 26)
  have HB0 := below_one' w (.cells #[.slice a l.length cap] 26)
  have HA0 := GR.At.below ha HB0
  have hsz0 : (w.alloc (.cells #[.slice a l.length cap] 26)).heap.size = w.heap.size + 1 := by simp
  have HC := hide (fun W (hb : Below (w.alloc (.cells #[.slice a l.length cap] 26)).heap.size (w.alloc (.cells #[.slice a l.length cap] 26)) W) => specTreeOk a cap l W hl (GR.At.below HA0 hb))
  rw [htb] at HC
  clear ha htb
  have hl30 := (unhide HTP).le
  go_enter Tryz.func39, Tryz.ntmps39
  go_wp2_with fail
  generalize w.alloc (.cells #[.slice a l.length cap] 26) = W0 at *
  have HA := hide HA0
  have HB := hide HB0
  have HT := hide HT0
  have HZ := hide hsz0
  clear HA0 HB0 HT0 hsz0
  go_loopw [5, 6] (fun v i wr => ∃ k : Nat, 1 ≤ k ∧ k ≤ l.length ∧ i = .int .i64 k ∧ wr.ownsRow W0.heap.size 3 1 v (kidsTo l n k).length (GR.flat encNum (kidsTo l n k)) ∧ Below W0.heap.size W0 wr) (fun _ i _ => l.length - (intOf i).toNat)
  case atStart =>
    refine ⟨1, Nat.le_refl _, (unhide HTP).pos, rfl, ?_, (Below.refl _ _).alloc (Nat.le_refl _) _⟩
    rw [kidsTo_one (unhide HTP) n hn, ← unhide HZ]
    exact World.ownsRow_lit _ #[] 0 (Nat.le_refl _) (by decide) rfl
  case round =>
    obtain ⟨k, hk1, hk, rfl, hown, hbel⟩ := hrel
    have HBL := hide hbel
    have t1 := (one_at (tr_step (unhide HT) hbel)).1
    by_cases hlt : k < l.length
    · have hlen := kidsTo_len l n k
      have HOK := unhide HC _ hbel
      clear hbel
      go_wp2_with fail
      refine HOK.mono ?_
      rintro e w1 ⟨rfl, hb1⟩
      have HB1 := hide ((unhide HBL).trans (hb1.mono (unhide HBL).size))
      have hown1 := GR.own_below hown hb1
      have t2 := (one_at (tr_step (unhide HT) (unhide HB1))).1
      obtain ⟨g, off, rfl, hgw, q0⟩ := IntsAt.one (GR.At.below (unhide HA) (unhide HB1)) k hlt
      clear hown hb1 t1
      by_cases hkn : l[k] = n
      · have HY := hide (kidsTo_yes l n k hlt hkn)
        rw [hkn] at q0
        have hnn : (n == n) = true := by simp
        clear hkn
        go_wp2_with (at_builtin; refine wpList_append_own _ rfl _ _ 22 rfl W0.heap.size 3 i0 (.int .i64 0) 1 8 Tryz.underlying22 hi hz0 hz1 hz2 rfl (by decide) _ _ _ rfl (hown1.alloc _) ⟨w1.heap.size, 0, none⟩ 1 1 [.int .i64 (k : Int)] rfl rfl ?c1 ?c2 ?c3 ?c4 ?c5 ?_)
        case c1 => exact cell_one_new _ _ _
        case c2 => intro u hu; simp at hu; subst hu; rfl
        case c3 => unfold maxLen; omega
        case c4 => omega
        case c5 => have := (unhide HB1).size; simp; omega
        intro v' w2 hown' hgrow _
        have hbel' := hide (GR.below_append (unhide HB1) (unhide HB1).size hown1 hgrow)
        have hown2 : Hid (w2.ownsRow W0.heap.size 3 1 v' (kidsTo l n (k + 1)).length (GR.flat encNum (kidsTo l n (k + 1)))) := by
          rw [unhide HY, flat_snoc_int, List.length_append, List.length_singleton]
          exact hown'
        clear hown' hgrow hown1
        go_wp2_with fail
        go_roundw
        case rel => exact ⟨k + 1, by omega, by omega, by go_num, unhide hown2, unhide hbel'⟩
        case measure => simp [intOf]; omega
      · have HY := hide (kidsTo_no l n k hlt hkn)
        generalize l[k] = pu at *
        have hnn : (pu == n) = false := by simpa using hkn
        go_wp2_with fail
        go_roundw
        case rel => exact ⟨k + 1, by omega, by omega, by go_num, by rw [unhide HY]; exact hown1, unhide HB1⟩
        case measure => simp [intOf]; omega
    · have hke : k = l.length := by omega
      subst hke
      clear hbel
      go_wp2_with fail
      go_ret
      exact ⟨_, rfl, GR.own_lower hown (by have := unhide HZ; omega), (unhide HB).trans ((unhide HBL).mono (unhide HB).size)⟩

def nodesTo (l : List Int) (k : Nat) : List Nd := (List.range k).map (fun i : Nat => (newN (i : Int) (l[i]?.getD 0) (kidsN l (i : Int))).1)
def nodesT (l : List Int) : List Nd := if treeB l = true then nodesTo l l.length else []
theorem nodesTo_succ (l : List Int) (k : Nat) (hk : k < l.length) : nodesTo l (k + 1) = nodesTo l k ++ [(newN (k : Int) l[k] (kidsN l (k : Int))).1] := by
  simp [nodesTo, List.range_succ, List.getElem?_eq_getElem hk]
theorem nodesT_yes {l : List Int} (h : treeB l = true) : nodesT l = nodesTo l l.length := if_pos h
theorem nodesT_no {l : List Int} (h : treeB l = false) : nodesT l = [] := if_neg (by rw [h]; simp)
theorem NL.nil {w : World} {lo : Nat} {v : Value} (h : w.ownsRow lo 50 9 v 0 []) : NL w lo v [] :=
  ⟨h, fun x hx => by simp at hx, fun b hb => by simp [fpN] at hb, by simp [fpN], fun b _ hm => by simp [fpN] at hm⟩
theorem ints_form {w : World} {B : Nat} {v : Value} {l : List Int} (h : w.ownsRow B 3 1 v l.length (GR.flat encNum l)) : ∃ b c, v = .slice b l.length c ∧ (b = none → c = 0) ∧ IntsAt w b l := by
  obtain ⟨b, c, rfl, hat⟩ := GR.own_at encNum_length h
  refine ⟨b, c, rfl, fun hb => ?_, hat⟩
  rcases h.2 with ⟨hv, _⟩ | ⟨g, cap, cur, hv, _⟩
  · simp only [Value.slice.injEq] at hv
    exact hv.2.2
  · simp only [Value.slice.injEq] at hv
    rw [hb] at hv
    exact absurd hv.1 (by simp)
theorem wpList_append_eqN {P : Program} {w : World} {ops : Array Oper} {rest : List Oper} {o : Oper} {a : Act} {Q : Exit → Act → World → Prop} (hgd : o.guard = none) (s x : Operand) (t : TypeId)
    (ho : o.op = .call { callee := .builtin .append, args := #[s, x], argTypes := #[t, t] }) (vs vx : Value) (hs : a.eval s = vs) (hx : a.eval x = vx) (v' : Value) (w' : World) (hrun : (Builtin.append_ #[t, t] o.type #[vs, vx]).run P w = .ok v' w')
    (h : wpList P ops Q rest (a.put o.dst v') w') : wpList P ops Q (o :: rest) a w := by
  refine wpList_plain hgd fun K hK => ?_
  unfold Oper.wp
  simp [execOp, ho, resolve, invoke, builtin, hs, hx, hrun, Result.andThen]
  exact hK _ _ h
theorem enc9_one (x : NdI) : ∀ u ∈ enc9 (r9 x), u.oneCell' = true := fun u hu => by
  simp [enc9, r9] at hu
  rcases hu with rfl | rfl | rfl | rfl | rfl | rfl | rfl | rfl | rfl <;> rfl
/-- A node more behind a row of nodes. -/
theorem NL.more {w1 wz : World} {lo q : Nat} {v : Value} {L : List NdI} {N1 : Nd} {A3 : Ads} {G3 : Blks} (h : NL w1 lo v L) (hlo : lo ≤ w1.heap.size) (hlen : L.length ≤ 1000) (hb : Below w1.heap.size w1 wz) (hW : NodeW wz A3 G3 N1) (hnd : (G3.all N1).Nodup) (hrg : ∀ x ∈ G3.all N1, w1.heap.size ≤ x ∧ x ≠ q ∧ x < wz.heap.size) :
    ∃ v' w2, (Builtin.append_ #[43, 43] 43 #[v, .slice (some ⟨wz.heap.size, 0, none⟩) 1 1]).run Tryz.prog (wz.alloc (.cells (ndc N1 A3) 50)) = .ok v' w2 ∧ NL w2 lo v' (L ++ [(N1, A3, G3)]) ∧ (wz.alloc (.cells (ndc N1 A3) 50)).grownBy w2 v.ownBlock := by
  obtain ⟨i0, hi, hz0, hz1, hz2⟩ := info_parts infoNode
  have hs := hb.size
  have hz : (wz.alloc (.cells (ndc N1 A3) 50)).heap.size = wz.heap.size + 1 := by simp
  have hb2 := hb.trans ((below_one wz (.cells (ndc N1 A3) 50)).mono hs)
  have h3 := h.step hb2
  obtain ⟨v', w2, hrun, hown, hg, hv⟩ := run_append_where (P := Tryz.prog) (wz.alloc (.cells (ndc N1 A3) 50)) lo 43 43 50 i0 (.agg zc9) 9 152 Tryz.underlying43 hi hz0 hz1 hz2 rfl (by decide) v L.length (GR.flat enc9 (rows9 L)) h3.own ⟨wz.heap.size, 0, none⟩ 1 1 (enc9 (r9 (N1, A3, G3))) rfl (World.news_of_block (heap_alloc_new wz _)) (enc9_one _) (by unfold maxLen; omega) (by omega) (by omega)
  exact ⟨v', w2, hrun, NL.app (m := w1.heap.size) (x := (N1, A3, G3)) h3 (hW.below (below_one wz _)) hlo hnd (fun b hb => ⟨(hrg b hb).1, by have := (hrg b hb).2.2; omega⟩) (fun b hb => (h.rng b hb).2) (fun b hb => (h.blk_lt b hb).2) hown hg hv, hg⟩
theorem fpW_lt1 {α : Type} {enc : α → List Value} {sz : Nat} {w : World} {a : Option Addr} {g : Nat} {l : List α} (h : GR.W enc sz w a g l) : ∀ x ∈ fp g l, x < w.heap.size := fun x hx => by
  have := of_fp hx
  rw [this.1]
  exact (h 0 this.2).2.1
theorem NodeW.lt {w : World} {A : Ads} {G : Blks} {n : Nd} (h : NodeW w A G n) : ∀ x ∈ G.all n, x < w.heap.size := fun x hx => by
  obtain ⟨T, hT, hl, hr⟩ := h.s
  rcases Blks.mem_all.1 hx with h1 | h1 | h1 | h1 | h1 | h1
  · exact fpW_lt1 h.k x h1
  · exact fpW_lt1 h.p x h1
  · exact fpW_lt1 h.o x h1
  · have := of_fp h1
    rw [this.1]
    exact fpW_lt1 hT _ (fp_mem (by omega))
  · obtain ⟨i, hi, rfl, hpos⟩ := of_fpI h1
    obtain ⟨b, d, ht, hi2⟩ := hr i hi
    exact fpW_lt1 hi2 _ (fp_mem hpos)
  · exact fpW_lt1 h.r x h1
end Go.Proofs.YtbanjohfcnadfaaGreatDoor
