/- Parts. -/
import Derived.Test.YtbanjohfcnadfaaGreatDoorPw5
import Derived.Test.YtbanjohfcnadfaaGreatDoorPw7
namespace Go.Proofs.YtbanjohfcnadfaaGreatDoor
open Go.RowKit
open Mth

abbrev seenV (s : Sn) (b : Option Addr) (c : Nat) : Value := .agg #[.int .i64 s.f, .int .i64 s.l, .slice b s.ids.length c]
theorem infoSeen : (Tryz.prog.info? 101).map (fun i => (i.zero, i.size, i.bytes)) = some (some (.agg #[.int .i64 0, .int .i64 0, .slice none 0 0]), 3, 40) := by kernel_rfl
theorem blk_setO {w : World} {c : Nat} {cs : Array Value} {t : TypeId} (h : w.heap[c]? = some (.cells cs t (0, 0))) (i : Nat) (v : Value) : (w.setCell ⟨c, i, none⟩ v).heap[c]? = some (.cells (cs.setIfInBounds i v) t (0, 0)) := by
  unfold World.setCell
  simp only [Array.getElem?_modify]
  rw [if_pos trivial, h]
  rfl
theorem oth_set {w : World} {g g' i : Nat} {v : Value} {o : Option Obj} (h : w.heap[g']? = o) (hne : g' ≠ g) : (w.setCell ⟨g, i, none⟩ v).heap[g']? = o := by rw [Below.heap_setCell _ _ _ _ hne, h]
theorem allocs3 (w : World) (a b c : Obj) : (((w.alloc a).alloc b).alloc c).heap[w.heap.size]? = some a ∧ (((w.alloc a).alloc b).alloc c).heap[w.heap.size + 1]? = some b ∧ (((w.alloc a).alloc b).alloc c).heap[w.heap.size + 1 + 1]? = some c ∧ Below w.heap.size w (((w.alloc a).alloc b).alloc c) := by
  have e1 : (w.alloc a).heap.size = w.heap.size + 1 := by simp
  have e2 : ((w.alloc a).alloc b).heap.size = w.heap.size + 1 + 1 := by simp
  have h1 := heap_alloc_new w a
  have h2 := heap_alloc_new (w.alloc a) b
  have h3 := heap_alloc_new ((w.alloc a).alloc b) c
  rw [e1] at h2
  rw [e2] at h3
  refine ⟨?_, ?_, h3, ((below_one w _).alloc (by simp) _).alloc (by simp; omega) _⟩
  · rw [Below.heap_alloc _ _ _ (by rw [e2]; omega), Below.heap_alloc _ _ _ (by rw [e1]; omega)]
    exact h1
  · rw [Below.heap_alloc _ _ _ (by rw [e2]; omega)]
    exact h2
theorem bodyPost_atN {P : Program} {fn : Func} {Q : Ending → World → Prop} {x : Exit} {act : Act} {W : World} (h : ∀ W', W' = W → bodyPost P fn Q x act W') : bodyPost P fn Q x act W := h W rfl
abbrev r3Blk (w : World) (g : Nat) (T : List R3) : Prop := GR.Blk encR3 101 w g T
theorem r3Blk.three {w : World} {g : Nat} {l : List R3} (h : r3Blk w g l) (i : Nat) (hi : i < l.length) : w.cell? ⟨g, i * 3, none⟩ = some (.int .i64 l[i].f) ∧ w.cell? ⟨g, i * 3 + 1, none⟩ = some (.int .i64 l[i].l) ∧ w.cell? ⟨g, i * 3 + 2, none⟩ = some l[i].v :=
  ⟨by simpa using GR.Blk.cell h encR3_length i hi 0 (by omega), by simpa using GR.Blk.cell h encR3_length i hi 1 (by omega), by simpa using GR.Blk.cell h encR3_length i hi 2 (by omega)⟩
set_option maxRecDepth 100000 in
set_option maxHeartbeats 1000000 in
theorem eqSeen (s : Sn) (b b' : Option Addr) (c c' : Nat) (w : World) (hl : s.ids.length ≤ 1048600) (ha : IntsAt w b s.ids) (hb : IntsAt w b' s.ids) : Calls Tryz.prog 135 #[seenV s b c, seenV s b' c'] w fun e w' => e = .returned (.bool true) ∧ Below w.heap.size w w' := by
  obtain ⟨fr, lo, ids⟩ := s
  dsimp only at hl ha hb ⊢
  have hbx : Below w.heap.size w ((w.alloc (.cells #[.int .i64 fr, .int .i64 lo, .slice b ids.length c] 101)).alloc (.cells #[.int .i64 fr, .int .i64 lo, .slice b' ids.length c'] 101)) := (below_one w _).alloc (by simp) _
  have HE := hide (eqIntS b b' c c' ids _ hl (GR.At.below ha hbx) (GR.At.below hb hbx))
  have HBX := hide hbx
  clear ha hb hbx
  go_enter Tryz.func135, Tryz.ntmps135
  go_wp2_with fail
  refine (unhide HE).mono ?_
  rintro e w1 ⟨rfl, hb1⟩
  have HB1 := hide ((unhide HBX).trans (hb1.mono (unhide HBX).size))
  clear hb1
  go_wp2_with fail
  go_ret
  exact ⟨rfl, unhide HB1⟩
set_option maxRecDepth 100000 in
set_option maxHeartbeats 2000000 in
theorem eqSeenS (a b : Option Addr) (ca cb : Nat) (l : List Sn) (w : World) (hl : l.length ≤ 1048600) (hl2 : ∀ s ∈ l, s.ids.length ≤ 1048600) (ha : SeenAt w a l) (hb : SeenAt w b l) :
    Calls Tryz.prog 108 #[.slice a l.length ca, .slice b l.length cb] w fun e w' => e = .returned (.bool true) ∧ Below w.heap.size w w' := by
  have HA := hide ha
  have HB := hide hb
  have HL2 := hide hl2
  clear ha hb hl2
  go_enter Tryz.func108, Tryz.ntmps108
  go_wp2_with fail
  go_loopw [5] (fun i wr => ∃ k : Nat, k ≤ l.length ∧ i = .int .i64 k ∧ Below w.heap.size w wr) (fun i _ => l.length - (intOf i).toNat)
  case atStart => exact ⟨0, Nat.zero_le _, rfl, Below.refl _ _⟩
  case round =>
    obtain ⟨k, hk, rfl, hbel⟩ := hrel
    have HBL := hide hbel
    clear hbel
    by_cases hlt : k < l.length
    · obtain ⟨g1, o1, b1, c1, e1, hg1, s0, s1, s2, hI1⟩ := SeenAt.below (unhide HA) (unhide HBL) k hlt
      obtain ⟨g2, o2, b2, c2, e2, hg2, t0, t1, t2, hI2⟩ := SeenAt.below (unhide HB) (unhide HBL) k hlt
      subst e1 e2
      have hs := unhide HL2 _ (List.getElem_mem hlt)
      generalize l[k] = pu at *
      have HEQ : Hid (∀ w1, Below wr.heap.size wr w1 → Calls Tryz.prog 135 #[seenV pu b1 c1, seenV pu b2 c2] w1 fun e w' => e = .returned (.bool true) ∧ Below w1.heap.size w1 w') := fun w1 hbb => eqSeen pu b1 b2 c1 c2 w1 hs (GR.At.below hI1 hbb) (GR.At.below hI2 hbb)
      clear hI1 hI2
      obtain ⟨fr, lo, ids⟩ := pu
      dsimp only at s0 s1 s2 t0 t1 t2 hs
      go_wp2_with fail
      have cE : ∀ d os, Calls Tryz.prog 135 #[seenV ⟨fr, lo, ids⟩ b1 c1, seenV ⟨fr, lo, ids⟩ b2 c2] (Sort.grow (redrawn wr d) os) fun e w'' => e = .returned (.bool true) ∧ ∃ p : Regrown, w'' = Sort.grow (redrawn wr p.d) p.os := fun d os => Calls.regrown_of (unhide HEQ _ (below_regrown wr d os))
      have k0 := cell_grown' s0
      have k1 := cell_grown' s1
      have k2 := cell_grown' s2
      have m0 := cell_grown' t0
      have m1 := cell_grown' t1
      have m2 := cell_grown' t2
      refine wp_region_quiet_below (by kernel_rfl) (by kernel_rfl) ?_
      repeat (first | go_big_quiet_step ((go_at_call 135; exact cE _ _)) | quiet_step ((go_at_call 135; exact cE _ _)))
      refine wpQuiet_nil ?_
      intro _ hw'
      obtain ⟨⟨dq, osq⟩, hw''⟩ := hw'
      subst hw''
      go_wp2_with fail
      go_roundw
      case rel => exact ⟨k + 1, by omega, by go_num, (unhide HBL).trans ((below_regrown _ dq osq).mono (unhide HBL).size)⟩
      case measure => simp [intOf]; omega
    · have hke : k = l.length := by omega
      subst hke
      have hnlt : decide ((l.length : Int) < (l.length : Int)) = false := by simp
      go_wp2_with fail
      go_ret
      exact ⟨rfl, unhide HBL⟩
end Go.Proofs.YtbanjohfcnadfaaGreatDoor
