/- Parts. -/
import Derived.Test.YtgkimogaghgjaaaPk8
import Derived.Test.YtgkimogaghgjaaaPk4
import Derived.Test.YtgkimogaghgjaaaPk3
import Derived.Test.YtgkimogaghgjaaaPk9
import Derived.Test.YtgkimogaghgjaaaPk2
import Derived.Test.YtgkimogaghgjaaaPk1
import Derived.ProofKit
namespace Go.Proofs.Ytgkimogaghgjaaa
open Go.RowKit
open Mth

theorem GR.W.one {w : World} {a : Option Addr} {g : Nat} {l : List Int} (h : GR.W encNum 1 w a g l) (i : Nat) (hi : i < l.length) : a = some ⟨g, 0, none⟩ ∧ g < w.heap.size ∧ w.cell? ⟨g, i, none⟩ = some (.int .i64 l[i]) ∧ w.frozen? ⟨g, i, none⟩ = false := by
  obtain ⟨e, hg, hc⟩ := h i hi
  exact ⟨e, hg, by simpa using (hc 0 (by omega)).1, by simpa using (hc 0 (by omega)).2⟩

theorem SeenW.put {w : World} {a : Option Addr} {g : Nat} {I : Nat → Nat} {l : List Sn} (h : SeenW w a g I l) (k : Nat) (hk : k < l.length) (f lo : Int) (hne : ∀ x ∈ fpI I l, x ≠ g) :
    SeenW ((w.setCell ⟨g, k * 3, none⟩ (.int .i64 f)).setCell ⟨g, k * 3 + 1, none⟩ (.int .i64 lo)) a g I (l.set k ⟨f, lo, l[k].ids⟩) := by
  obtain ⟨T, hT, hl, hr⟩ := h
  obtain ⟨b, c, ht, hi2⟩ := hr k hk
  have hkT : k < T.length := by omega
  have htk : T[k] = ⟨l[k].f, l[k].l, .slice b l[k].ids.length c⟩ := by
    rw [List.getElem?_eq_getElem hkT] at ht
    exact Option.some.inj ht
  have hC := ((GR.W.toC encR3_length (by omega) hT).set (k * 3) (.int .i64 f)).set (k * 3 + 1) (.int .i64 lo)
  have hf := GR.flat_set encR3 3 encR3_length T k ⟨f, lo, .slice b l[k].ids.length c⟩ hkT
  have h3 : (((GR.flat encR3 T).set (k * 3) (.int .i64 f)).set (k * 3 + 1) (.int .i64 lo)).set (k * 3 + 2) (.slice b l[k].ids.length c) = GR.flat encR3 (T.set k ⟨f, lo, .slice b l[k].ids.length c⟩) := hf
  have hat := GR.flat_at encR3 3 encR3_length T k hkT 2 (by omega)
  rw [htk] at hat
  have h4 : ((GR.flat encR3 T).set (k * 3) (.int .i64 f)).set (k * 3 + 1) (.int .i64 lo) = GR.flat encR3 (T.set k ⟨f, lo, .slice b l[k].ids.length c⟩) := by
    rw [← h3]
    apply List.ext_getElem?
    intro j
    by_cases hj : j = k * 3 + 2
    · subst hj
      have hlt : k * 3 + 2 < (GR.flat encR3 T).length := by rw [GR.flat_length encR3 3 encR3_length]; omega
      rw [List.getElem?_set_self (by simpa using hlt), List.getElem?_set_ne (by omega), List.getElem?_set_ne (by omega), hat]
      rfl
    · rw [List.getElem?_set_ne (i := k * 3 + 2) (by omega)]
  rw [h4] at hC
  have hK : KeepsL [g] w ((w.setCell ⟨g, k * 3, none⟩ (.int .i64 f)).setCell ⟨g, k * 3 + 1, none⟩ (.int .i64 lo)) := (KeepsL.set _).trans (KeepsL.set _)
  refine ⟨T.set k ⟨f, lo, .slice b l[k].ids.length c⟩, GR.C.toW encR3_length (by omega) hC, by simpa using hl, fun i hi => ?_⟩
  have hi' : i < l.length := by simpa using hi
  by_cases hik : i = k
  · subst hik
    refine ⟨b, c, ?_, ?_⟩
    · rw [List.getElem?_set_self hkT]; simp
    · rw [List.getElem_set_self]
      exact hi2.keeps hK (fun x hx => by simpa using hne x (fpI_mem hi' x hx))
  · obtain ⟨b', c', ht', hi3⟩ := hr i hi'
    refine ⟨b', c', ?_, ?_⟩
    · rw [List.getElem?_set_ne (by omega), ht', List.getElem_set_ne (by omega)]
    · rw [List.getElem_set_ne (by omega)]
      exact hi3.keeps hK (fun x hx => by simpa using hne x (fpI_mem hi' x hx))
theorem fpI_diff {I : Nat → Nat} {l : List Sn} (hnd : (fpI I l).Nodup) {i k : Nat} (hi : i < l.length) (hk : k < l.length) (hik : i ≠ k) (h1 : 0 < l[i].ids.length) (h2 : 0 < l[k].ids.length) : I i ≠ I k := by
  intro he
  have hd : ∀ j (hj : j < l.length), l.getD j default = l[j] := fun j hj => by rw [List.getD_eq_getElem?_getD, List.getElem?_eq_getElem hj]; rfl
  have key : ∀ a b, a < b → b < l.length → 0 < (l.getD a default).ids.length → 0 < (l.getD b default).ids.length → I a ≠ I b := by
    intro a b hab hb ha1 hb1 hI
    unfold fpI at hnd
    have e1 : List.range l.length = List.range b ++ (List.range (l.length - b)).map (b + ·) := by
      rw [← List.range_add]
      congr 1
      omega
    rw [e1, List.flatMap_append, List.nodup_append] at hnd
    refine hnd.2.2 (I a) ?_ (I b) ?_ hI
    · rw [List.mem_flatMap]
      exact ⟨a, List.mem_range.2 hab, fp_mem ha1⟩
    · rw [List.mem_flatMap]
      exact ⟨b, List.mem_map.2 ⟨0, List.mem_range.2 (by omega), by simp⟩, fp_mem hb1⟩
  rcases Nat.lt_or_gt_of_ne hik with h | h
  · exact key i k h hk (by rw [hd i hi]; exact h1) (by rw [hd k hk]; exact h2) he
  · exact key k i h hi (by rw [hd k hk]; exact h2) (by rw [hd i hi]; exact h1) he.symm
/-- One neighbour's numbers written over. -/
theorem SeenW.ids {w w' : World} {a : Option Addr} {g : Nat} {I : Nat → Nat} {l : List Sn} (h : SeenW w a g I l) (k : Nat) (hk : k < l.length) (b : Option Addr) (c : Nat) (ids : List Int) (hb : w.cell? ⟨g, k * 3 + 2, none⟩ = some (.slice b l[k].ids.length c)) (hlen : ids.length = l[k].ids.length) (hw : GR.W encNum 1 w' b (I k) ids) (hK : KeepsL (fp (I k) l[k].ids) w w')
    (hne : ∀ x ∈ fpI I l, x ≠ g) (hnd : (fpI I l).Nodup) : SeenW w' a g I (l.set k ⟨l[k].f, l[k].l, ids⟩) := by
  obtain ⟨T, hT, hl, hr⟩ := h
  have hkT : k < T.length := by omega
  have hfpk : ∀ x ∈ fp (I k) l[k].ids, x ∈ fpI I l := fpI_mem hk
  have hT' : GR.W encR3 3 w' a g T := hT.keeps hK (fun x hx hx2 => by
    rw [(of_fp hx).1] at hx2
    exact hne _ (hfpk _ hx2) rfl)
  refine ⟨T, hT', by simpa using hl, fun i hi => ?_⟩
  have hi' : i < l.length := by simpa using hi
  obtain ⟨b', c', ht', hi3⟩ := hr i hi'
  by_cases hik : i = k
  · subst hik
    obtain ⟨_, _, hc⟩ := hT i hkT
    have h2 := (hc 2 (by omega)).1
    rw [List.getElem?_eq_getElem hkT] at ht'
    rw [Option.some.inj ht'] at h2
    have h2' : w.cell? ⟨g, i * 3 + 2, none⟩ = some (.slice b' l[i].ids.length c') := h2
    rw [hb] at h2'
    injection h2' with h2'
    injection h2' with e1 e2 e3
    subst e1 e3
    refine ⟨b, c, ?_, ?_⟩
    · rw [List.getElem?_eq_getElem hkT, Option.some.inj ht', List.getElem_set_self]
      simp [hlen]
    · rw [List.getElem_set_self]; exact hw
  · refine ⟨b', c', ?_, ?_⟩
    · rw [ht', List.getElem_set_ne (by omega)]
    · rw [List.getElem_set_ne (by omega)]
      refine hi3.keeps hK (fun x hx hx2 => ?_)
      have e1 := (of_fp hx).1
      have e2 := (of_fp hx2).1
      have hIk : I i = I k := by rw [← e1, ← e2]
      exact fpI_diff hnd hi' hk hik (of_fp hx).2 (of_fp hx2).2 hIk
theorem SeenW.three {w : World} {a : Option Addr} {g : Nat} {I : Nat → Nat} {l : List Sn} (h : SeenW w a g I l) (i : Nat) (hi : i < l.length) : ∃ b c, a = some ⟨g, 0, none⟩ ∧ g < w.heap.size ∧ (w.cell? ⟨g, i * 3, none⟩ = some (.int .i64 l[i].f) ∧ w.cell? ⟨g, i * 3 + 1, none⟩ = some (.int .i64 l[i].l) ∧ w.cell? ⟨g, i * 3 + 2, none⟩ = some (.slice b l[i].ids.length c)) ∧ (w.frozen? ⟨g, i * 3, none⟩ = false ∧ w.frozen? ⟨g, i * 3 + 1, none⟩ = false) ∧ GR.W encNum 1 w b (I i) l[i].ids := by
  obtain ⟨T, hT, hl, hr⟩ := h
  obtain ⟨b, c, ht, hi2⟩ := hr i hi
  have hkT : i < T.length := by omega
  obtain ⟨e, hg, hc⟩ := hT i hkT
  rw [List.getElem?_eq_getElem hkT] at ht
  rw [Option.some.inj ht] at hc
  exact ⟨b, c, e, hg, ⟨by simpa using (hc 0 (by omega)).1, by simpa using (hc 1 (by omega)).1, by simpa using (hc 2 (by omega)).1⟩, ⟨by simpa using (hc 0 (by omega)).2, (hc 1 (by omega)).2⟩, hi2⟩

/-- A tree as a value. -/
abbrev trv (a : Option Addr) (l : List Int) (cap : Nat) : Value := .agg #[.slice a l.length cap]
theorem szTree (a : Option Addr) (ca : Nat) (l : List Int) (z0 : Int) (w : World) (h0 : 0 ≤ z0) (h1 : z0 ≤ 1048576) (hl : l.length ≤ maxLen) :
    Calls Try.prog 16 #[trv a l ca, .int .i64 z0] w fun e w' => e = .returned (.int .i64 (if (l.length : Int) ≤ z0 then z0 - l.length else -1)) ∧ Below w.heap.size w w' := by
  have HC := hide (fun W => szIntS a ca l z0 W h0 h1 hl)
  by_cases hc : (l.length : Int) ≤ z0
  · rw [if_pos hc] at *
    have hn : decide (z0 - (l.length : Int) < 0) = false := decide_eq_false (by omega)
    go_enter Try.func16, Try.ntmps16
    go_wp2_with (go_at_call 40; refine (unhide HC _).mono ?_; rintro e w1 ⟨rfl, rfl⟩)
    go_ret
    exact ⟨rfl, below_one' w _⟩
  · rw [if_neg hc] at *
    go_enter Try.func16, Try.ntmps16
    go_wp2_with (go_at_call 40; refine (unhide HC _).mono ?_; rintro e w1 ⟨rfl, rfl⟩)
    go_ret
    exact ⟨rfl, below_one' w _⟩
theorem tr_lt {w : World} {g : Nat} {o : Obj} (h : w.heap[g]? = some o) : g < w.heap.size := by
  rcases Nat.lt_or_ge g w.heap.size with h' | h'
  · exact h'
  · rw [Array.getElem?_eq_none h'] at h; cases h
theorem tr_step {w w' : World} {g : Nat} {o : Obj} (h : w.heap[g]? = some o) (hb : Below w.heap.size w w') : w'.heap[g]? = some o := by
  rw [hb.block g (tr_lt h)]; exact h
theorem one_at {w : World} {g : Nat} {v : Value} {t : TypeId} (h : w.heap[g]? = some (.cells #[v] t (0, 0))) : w.cell? ⟨g, 0, none⟩ = some v ∧ w.frozen? ⟨g, 0, none⟩ = false := by
  refine ⟨?_, ?_⟩
  · rw [cell_of_row w g _ _ t (0, 0) h]; rfl
  · unfold World.frozen?; rw [h]; simp
theorem one_set {w : World} {g : Nat} {v : Value} {t : TypeId} (u : Value) (h : w.heap[g]? = some (.cells #[v] t (0, 0))) : (w.setCell ⟨g, 0, none⟩ u).heap[g]? = some (.cells #[u] t (0, 0)) := by
  unfold World.setCell
  simp only [Array.getElem?_modify]
  rw [if_pos trivial, h]
  simp
theorem one_other {w : World} {g g' : Nat} {o : Obj} (u : Value) (hne : g' ≠ g) (h : w.heap[g']? = some o) : (w.setCell ⟨g, 0, none⟩ u).heap[g']? = some o := (Below.heap_setCell _ _ _ _ hne).trans h
theorem bodyPost_atT {P : Program} {fn : Func} {Q : Ending → World → Prop} {x : Exit} {act : Act} {W : World} (h : ∀ W', W' = W → bodyPost P fn Q x act W') : bodyPost P fn Q x act W := h W rfl
set_option maxRecDepth 100000 in
/-- A tree of the call's own. -/
theorem toTree (a : Option Addr) (cap : Nat) (l : List Int) (w : World) (hl : l.length ≤ 1048576) (ha : IntsAt w a l) :
    Calls Try.prog 22 #[trv a l cap] w fun e w' => ∃ g, e = .returned (trv (some ⟨g, 0, none⟩) l l.length) ∧ w.heap.size ≤ g ∧ intBlk w' g l ∧ Below w.heap.size w w' := by
  have HC := hide (fun W (hb : Below w.heap.size w W) => toIntS a cap l W hl (GR.At.below ha hb))
  clear ha
  go_enter Try.func22, Try.ntmps22
  go_wp2_with fail
  generalize hW : ((w.alloc (.cells #[.slice a l.length cap] 24)).alloc (.cells #[.slice none 0 0] 33)).alloc (.cells #[.slice none 0 0] 33) = W at *
  have hb0 : Below w.heap.size w W := by rw [← hW]; exact (((below_one' w _).alloc (by simp) _).alloc (by simp; omega) _)
  have hO1 : W.heap[w.heap.size + 1]? = some (.cells #[.slice none 0 0] 33 (0, 0)) := by
    rw [← hW]
    refine (Below.heap_alloc _ _ _ (by simp)).trans ?_
    have := heap_alloc_new (w.alloc (.cells #[.slice a l.length cap] 24)) (.cells #[.slice none 0 0] 33)
    rwa [World.size_alloc] at this
  have hO2 : W.heap[w.heap.size + 1 + 1]? = some (.cells #[.slice none 0 0] 33 (0, 0)) := by
    rw [← hW]
    have := heap_alloc_new ((w.alloc (.cells #[.slice a l.length cap] 24)).alloc (.cells #[.slice none 0 0] 33)) (.cells #[.slice none 0 0] 33)
    rwa [World.size_alloc, World.size_alloc] at this
  refine (unhide HC _ hb0).mono ?_
  rintro e w1 ⟨rfl, hblk, hb1⟩
  have hP1 := tr_step hO1 hb1
  have hP2 := tr_step hO2 hb1
  have HB := hide (hb0.trans (hb1.mono hb0.size))
  have hz1 := tr_lt hO2
  clear hb0 hb1 hO1 hO2 hW
  have HK := hide hblk
  have HP1 := hide hP1
  have HP2 := hide hP2
  obtain ⟨c1, f1⟩ := one_at hP1
  obtain ⟨c2, f2⟩ := one_at hP2
  clear hP1 hP2 hblk
  go_wp2_with fail
  refine bodyPost_atT (fun W' hW' => ?_)
  have h2 := one_set (.slice (some ⟨W.heap.size, 0, none⟩) l.length l.length) (unhide HP2)
  have h1 := one_set (.slice (some ⟨W.heap.size, 0, none⟩) l.length l.length) (one_other (.slice (some ⟨W.heap.size, 0, none⟩) l.length l.length) (show w.heap.size + 1 ≠ w.heap.size + 1 + 1 by omega) (unhide HP1))
  rw [← hW'] at h1
  have r0 := (one_at h1).1
  refine bodyPost_ret (v := .agg #[.slice (some ⟨W.heap.size, 0, none⟩) l.length l.length]) (by simp [results, Try.results22, go_sem, r0]) rfl ⟨_, rfl, by omega, ?_, ?_⟩
  · rw [hW']
    unfold intBlk GR.Blk
    exact one_other _ (by omega) (one_other _ (by omega) (unhide HK))
  · rw [hW']
    exact ((unhide HB).setCell (p := ⟨w.heap.size + 1 + 1, 0, none⟩) (by simp; omega) _).setCell (p := ⟨w.heap.size + 1, 0, none⟩) (by simp) _
set_option maxRecDepth 100000 in
theorem eqTree (a b : Option Addr) (ca cb : Nat) (l : List Int) (w : World) (hl : l.length ≤ 1048600) (ha : IntsAt w a l) (hb : IntsAt w b l) :
    Calls Try.prog 28 #[trv a l ca, trv b l cb] w fun e w' => e = .returned (.bool true) ∧ Below w.heap.size w w' := by
  have HC := hide (fun W (hw : Below w.heap.size w W) => eqIntS a b ca cb l W hl (GR.At.below ha hw) (GR.At.below hb hw))
  clear ha hb
  go_enter Try.func28, Try.ntmps28
  have HB := hide (show Below w.heap.size w ((w.alloc (.cells #[.slice a l.length ca] 33)).alloc (.cells #[.slice b l.length cb] 33)) from (below_one' w _).alloc (by simp) _)
  go_wp2_with (go_at_call 48; refine (unhide HC _ (unhide HB)).mono ?_; rintro e w1 ⟨rfl, hb2⟩)
  go_ret
  exact ⟨rfl, (unhide HB).trans (hb2.mono (unhide HB).size)⟩


/-- A row of what was seen in block g, whose lists lie in blocks of S, of which g is none. -/
structure SeenSc (S : Nat → Prop) (w : World) (a : Option Addr) (g : Nat) (l : List Sn) : Prop where
  row : ∀ i (_ : i < l.length), a = some ⟨g, 0, none⟩ ∧ g < w.heap.size ∧ ((w.cell? ⟨g, i * 3, none⟩).isSome = true ∧ (w.cell? ⟨g, i * 3 + 1, none⟩).isSome = true) ∧ w.frozen? ⟨g, i * 3, none⟩ = false ∧ w.frozen? ⟨g, i * 3 + 1, none⟩ = false
  ids : ∀ i (hi : i < l.length), ∃ b c, w.cell? ⟨g, i * 3 + 2, none⟩ = some (.slice b l[i].ids.length c) ∧ Wr S w b l[i].ids.length 1
theorem SeenSc.scr {S T : Nat → Prop} {w w' : World} {a : Option Addr} {g : Nat} {l : List Sn} (h : SeenSc S w a g l) (hs : Scr T w w') (hT : ¬ T g) : SeenSc S w' a g l :=
  ⟨fun i hi => by
    obtain ⟨e, hg, ⟨c0, c1⟩, f0, f1⟩ := h.row i hi
    exact ⟨e, Nat.lt_of_lt_of_le hg hs.size, ⟨hs.cell _ _ c0, hs.cell _ _ c1⟩, (hs.froz _ _ hg).trans f0, (hs.froz _ _ hg).trans f1⟩, fun i hi => by
    obtain ⟨b, c, hc, hw⟩ := h.ids i hi
    exact ⟨b, c, hs.hdr hc hT, hw.scr hs⟩⟩
theorem SeenSc.of {S : Nat → Prop} {w : World} {a : Option Addr} {g : Nat} {I : Nat → Nat} {l : List Sn} (h : SeenW w a g I l) (hS : ∀ x ∈ fpI I l, S x) : SeenSc S w a g l :=
  ⟨fun i hi => by
    obtain ⟨b, c, e, hg, ⟨c0, c1, c2⟩, ⟨f0, f1⟩, hw⟩ := h.three i hi
    exact ⟨e, hg, ⟨by rw [c0]; rfl, by rw [c1]; rfl⟩, f0, f1⟩, fun i hi => by
    obtain ⟨b, c, e, hg, ⟨c0, c1, c2⟩, ⟨f0, f1⟩, hw⟩ := h.three i hi
    exact ⟨b, c, c2, Wr.of_W encNum_length hw (fun hp => hS _ (fpI_mem hi _ (fp_mem hp)))⟩⟩
set_option maxRecDepth 100000 in
set_option maxHeartbeats 4000000 in
theorem scrSeen (S : Nat → Prop) (a : Option Addr) (g c : Nat) (l : List Sn) (s : Int) (w : World) (hs0 : 0 < s) (hs1 : s ≤ 5764607523034234880) (hl : l.length ≤ 1048600) (hl2 : ∀ x ∈ l, x.ids.length ≤ 1048600) (hS : 0 < l.length → ¬ S g) (hw : SeenSc S w a g l) :
    Calls Try.prog 57 #[.slice a l.length c, .int .i64 s] w fun e w' => ∃ r : Int, e = .returned (.int .i64 r) ∧ s ≤ r ∧ r ≤ s + l.length * 1048602 ∧ SeenSc S w' a g l ∧ Scr (fun b => S b ∨ 0 < l.length ∧ b = g) w w' := by
  have HW := hide hw
  have HS := hide hS
  have HL2 := hide hl2
  clear hw hS hl2
  obtain ⟨T, hT⟩ : ∃ T : Nat → Prop, (fun b => S b ∨ 0 < l.length ∧ b = g) = T := ⟨_, rfl⟩
  have HT1 := hide (show ∀ x, S x → T x from fun x hx => by rw [← hT]; exact .inl hx)
  have HTg := hide (show 0 < l.length → T g from fun h => by rw [← hT]; exact .inr ⟨h, rfl⟩)
  rw [hT]
  clear hT
  go_enter Try.func57, Try.ntmps57
  go_wp2_with fail
  go_loopw [1, 5] (fun kk i wr => ∃ (k : Nat) (m : Int), k ≤ l.length ∧ i = .int .i64 k ∧ kk = .int .i64 m ∧ s ≤ m ∧ m ≤ s + k * 1048602 ∧ Scr T w wr ∧ (∀ i (hi : i < l.length), ∃ b c, wr.cell? ⟨g, i * 3 + 2, none⟩ = some (.slice b l[i].ids.length c) ∧ Wr S wr b l[i].ids.length 1)) (fun _ i _ => l.length - (intOf i).toNat)
  case atStart => exact ⟨0, s, Nat.zero_le _, rfl, rfl, by omega, by omega, Scr.refl _ _, fun i hi => (unhide HW).ids i hi⟩
  case round =>
    obtain ⟨k, m, hk, rfl, rfl, hm0, hm1, hsc, hid⟩ := hrel
    have HK := hide hsc
    have HID := hide hid
    have hm2 : m ≤ 5764609000000000000 := by omega
    clear hsc hid
    by_cases hlt : k < l.length
    · obtain ⟨e0, hg0, ⟨i0, i1⟩, f0, f1⟩ := (unhide HW).row k hlt
      subst e0
      obtain ⟨v0, q0⟩ := Option.isSome_iff_exists.1 ((unhide HK).cell _ _ i0)
      obtain ⟨v1, q1⟩ := Option.isSome_iff_exists.1 ((unhide HK).cell _ _ i1)
      have p0 := ((unhide HK).froz g (k * 3) hg0).trans f0
      have p1 := ((unhide HK).froz g (k * 3 + 1) hg0).trans f1
      obtain ⟨b, c2, q2, hwr⟩ := unhide HID k hlt
      have hidl := unhide HL2 l[k] (List.getElem_mem hlt)
      have HWR := hide hwr
      have HG := hide (unhide HTg (by omega))
      generalize l[k].ids.length = dn at *
      clear i0 i1 f0 f1 hwr
      have HMK := hide (fun z w1 (h0 : 0 < z) (h1 : z ≤ 6917529027641081856) (hw1 : Wr S w1 b dn 1) => scrInt S b dn c2 z w1 h0 h1 hidl hw1)
      go_wp2_with fail
      refine (unhide HMK _ _ (by omega) (by omega) (((unhide HWR).scr (Scr.set (Scr.refl T wr) (unhide HG) (k * 3) (.int .i64 m))).scr (Scr.set (Scr.refl T _) (unhide HG) (k * 3 + 1) (.int .i64 (m + 1))))).mono ?_
      rintro e w5 ⟨rfl, hs5⟩
      have HK5 := hide ((Scr.set (Scr.set (unhide HK) (unhide HG) (k * 3) (.int .i64 m)) (unhide HG) (k * 3 + 1) (.int .i64 (m + 1))).trans (hs5.mono (unhide HT1)))
      have HID5 : Hid (∀ i (hi : i < l.length), ∃ b c, w5.cell? ⟨g, i * 3 + 2, none⟩ = some (.slice b l[i].ids.length c) ∧ Wr S w5 b l[i].ids.length 1) := fun i hi => by
        obtain ⟨b', c', hc', hw'⟩ := unhide HID i hi
        have h1 : ((wr.setCell ⟨g, k * 3, none⟩ (.int .i64 m)).setCell ⟨g, k * 3 + 1, none⟩ (.int .i64 (m + 1))).cell? ⟨g, i * 3 + 2, none⟩ = some (.slice b' l[i].ids.length c') := by
          rw [World.cell?_setCell_other _ _ _ _ (by simp <;> omega), World.cell?_setCell_other _ _ _ _ (by simp <;> omega)]
          exact hc'
        exact ⟨b', c', hs5.hdr h1 (unhide HS (by omega)), (((hw'.scr (Scr.set (Scr.refl T wr) (unhide HG) (k * 3) (.int .i64 m))).scr (Scr.set (Scr.refl T _) (unhide HG) (k * 3 + 1) (.int .i64 (m + 1))))).scr hs5⟩
      clear hs5 q0 q1 q2 p0 p1 HK HID HWR HMK
      go_wp2_with fail
      go_roundw
      case rel => exact ⟨k + 1, _, by omega, by go_num, rfl, by omega, by omega, unhide HK5, unhide HID5⟩
      case measure => simp [intOf]; omega
    · have hke : k = l.length := by omega
      subst hke
      have hnlt : decide ((l.length : Int) < (l.length : Int)) = false := by simp
      go_wp2_with fail
      go_ret
      refine ⟨m, rfl, hm0, hm1, ⟨fun i hi => ?_, unhide HID⟩, unhide HK⟩
      obtain ⟨e, hg, ⟨c0, c1⟩, f0, f1⟩ := (unhide HW).row i hi
      exact ⟨e, Nat.lt_of_lt_of_le hg (unhide HK).size, ⟨(unhide HK).cell _ _ c0, (unhide HK).cell _ _ c1⟩, ((unhide HK).froz _ _ hg).trans f0, ((unhide HK).froz _ _ hg).trans f1⟩
theorem scrTree (S : Nat → Prop) (a : Option Addr) (cap : Nat) (l : List Int) (s : Int) (w : World) (hs0 : 0 < s) (hs1 : s ≤ 6917529027641081856) (hl : l.length ≤ 1048600) (hw : Wr S w a l.length 1) :
    Calls Try.prog 35 #[trv a l cap, .int .i64 s] w fun e w' => e = .returned (.int .i64 (s + l.length)) ∧ Scr S w w' := by
  have HC := hide (fun W (hb : Below w.heap.size w W) => scrInt S a l.length cap s W hs0 hs1 hl (hw.scr (T := S) (Scr.of_below hb)))
  clear hw
  have HB := hide (below_one' w (.cells #[.slice a l.length cap] 33))
  go_enter Try.func35, Try.ntmps35
  go_wp2_with fail
  refine (unhide HC _ (unhide HB)).mono ?_
  rintro e w1 ⟨rfl, hs⟩
  have HS := hide ((Scr.of_below (S := S) (unhide HB)).trans hs)
  clear hs
  go_wp2_with fail
  go_ret
  exact ⟨ret_int (by omega), unhide HS⟩

namespace Mth
/-- An operation: kind, number, key, amount, message. -/
structure Op5 where
  K : Int
  no : Int
  k : ByteArray
  n : Int
  m : Mg
end Mth
abbrev opw (o : Op5) : Value := .agg #[.int .i64 o.K, .int .i64 o.no, .string o.k, .int .i64 o.n, .int .i64 o.m.K, .int .i64 o.m.F, .int .i64 o.m.T, .int .i64 o.m.I, .int .i64 o.m.L, .string o.m.k, .int .i64 o.m.N]
theorem blk_lt {w : World} {g : Nat} {o : Obj} (h : w.heap[g]? = some o) : g < w.heap.size := by
  rcases Nat.lt_or_ge g w.heap.size with h' | h'
  · exact h'
  · rw [Array.getElem?_eq_none h'] at h; cases h
/-- A block stays behind a call that makes memory alone. -/
theorem blk_step {w w' : World} {g : Nat} {o : Obj} (h : w.heap[g]? = some o) (hb : Below w.heap.size w w') : w'.heap[g]? = some o := by
  rw [hb.block g (blk_lt h)]
  exact h
open Go.WideShapes

set_option maxRecDepth 100000 in
set_option maxHeartbeats 1000000 in
theorem toMsg (m : Mg) (w : World) : Calls Try.prog 83 #[mgv m] w fun e w' => e = .returned (mgv m) ∧ Below w.heap.size w w' := by
  obtain ⟨K, F, T, I, L, k, N⟩ := m
  go_enter Try.func83, Try.ntmps83
  go_wp2_with fail
  refine bodyPost_ret (v := .agg #[.int .i64 K, .int .i64 F, .int .i64 T, .int .i64 I, .int .i64 L, .string k, .int .i64 N]) (by simp [results, Try.results83, go_sem]) rfl ⟨rfl, ?_⟩
  exact (((Below.refl _ _).alloc (Nat.le_refl _) _).alloc (by simp) _).alloc (by simp; omega) _


theorem eleven_at {w : World} {g : Nat} {a0 a1 a2 a3 a4 a5 a6 a7 a8 a9 a10 : Value} {t : TypeId} (h : w.heap[g]? = some (.cells #[a0, a1, a2, a3, a4, a5, a6, a7, a8, a9, a10] t (0, 0))) :
    (w.cell? ⟨g, 0, none⟩ = some a0 ∧ w.cell? ⟨g, 1, none⟩ = some a1 ∧ w.cell? ⟨g, 2, none⟩ = some a2 ∧ w.cell? ⟨g, 3, none⟩ = some a3 ∧ w.cell? ⟨g, 4, none⟩ = some a4 ∧ w.cell? ⟨g, 5, none⟩ = some a5 ∧ w.cell? ⟨g, 6, none⟩ = some a6 ∧ w.cell? ⟨g, 7, none⟩ = some a7 ∧ w.cell? ⟨g, 8, none⟩ = some a8 ∧ w.cell? ⟨g, 9, none⟩ = some a9 ∧ w.cell? ⟨g, 10, none⟩ = some a10) ∧ (w.frozen? ⟨g, 0, none⟩ = false ∧ w.frozen? ⟨g, 1, none⟩ = false ∧ w.frozen? ⟨g, 2, none⟩ = false ∧ w.frozen? ⟨g, 3, none⟩ = false ∧ w.frozen? ⟨g, 4, none⟩ = false ∧ w.frozen? ⟨g, 5, none⟩ = false ∧ w.frozen? ⟨g, 6, none⟩ = false ∧ w.frozen? ⟨g, 7, none⟩ = false ∧ w.frozen? ⟨g, 8, none⟩ = false ∧ w.frozen? ⟨g, 9, none⟩ = false ∧ w.frozen? ⟨g, 10, none⟩ = false) := by
  have hf : ∀ i, w.frozen? ⟨g, i, none⟩ = false := fun i => by unfold World.frozen?; rw [h]; simp
  have hc : ∀ i, w.cell? ⟨g, i, none⟩ = #[a0, a1, a2, a3, a4, a5, a6, a7, a8, a9, a10][i]? := fun i => cell_of_row w g i _ t (0, 0) h
  exact ⟨⟨hc 0, hc 1, hc 2, hc 3, hc 4, hc 5, hc 6, hc 7, hc 8, hc 9, hc 10⟩, hf 0, hf 1, hf 2, hf 3, hf 4, hf 5, hf 6, hf 7, hf 8, hf 9, hf 10⟩
theorem eleven_set {w : World} {g : Nat} {a0 a1 a2 a3 a4 a5 a6 a7 a8 a9 a10 b0 b1 b2 b3 b4 b5 b6 b7 b8 b9 b10 : Value} {t : TypeId} (h : w.heap[g]? = some (.cells #[a0, a1, a2, a3, a4, a5, a6, a7, a8, a9, a10] t (0, 0))) : (((((((((((w.setCell ⟨g, 0, none⟩ b0).setCell ⟨g, 1, none⟩ b1).setCell ⟨g, 2, none⟩ b2).setCell ⟨g, 3, none⟩ b3).setCell ⟨g, 4, none⟩ b4).setCell ⟨g, 5, none⟩ b5).setCell ⟨g, 6, none⟩ b6).setCell ⟨g, 7, none⟩ b7).setCell ⟨g, 8, none⟩ b8).setCell ⟨g, 9, none⟩ b9).setCell ⟨g, 10, none⟩ b10).heap[g]? = some (.cells #[b0, b1, b2, b3, b4, b5, b6, b7, b8, b9, b10] t (0, 0)) :=
  GR.setW_blk [b0, b1, b2, b3, b4, b5, b6, b7, b8, b9, b10] (o := 0) (xs := [a0, a1, a2, a3, a4, a5, a6, a7, a8, a9, a10]) h
theorem eleven_set_below {a w : World} {B g : Nat} {b0 b1 b2 b3 b4 b5 b6 b7 b8 b9 b10 : Value} (h : Below B a w) (hg : B ≤ g) : Below B a (((((((((((w.setCell ⟨g, 0, none⟩ b0).setCell ⟨g, 1, none⟩ b1).setCell ⟨g, 2, none⟩ b2).setCell ⟨g, 3, none⟩ b3).setCell ⟨g, 4, none⟩ b4).setCell ⟨g, 5, none⟩ b5).setCell ⟨g, 6, none⟩ b6).setCell ⟨g, 7, none⟩ b7).setCell ⟨g, 8, none⟩ b8).setCell ⟨g, 9, none⟩ b9).setCell ⟨g, 10, none⟩ b10) :=
  GR.setW_below hg [b0, b1, b2, b3, b4, b5, b6, b7, b8, b9, b10] (o := 0) h
theorem eleven_tail {w : World} {g : Nat} {a0 a1 a2 a3 a4 a5 a6 a7 a8 a9 a10 b4 b5 b6 b7 b8 b9 b10 : Value} {t : TypeId} (h : w.heap[g]? = some (.cells #[a0, a1, a2, a3, a4, a5, a6, a7, a8, a9, a10] t (0, 0))) : (((((((w.setCell ⟨g, 4, none⟩ b4).setCell ⟨g, 5, none⟩ b5).setCell ⟨g, 6, none⟩ b6).setCell ⟨g, 7, none⟩ b7).setCell ⟨g, 8, none⟩ b8).setCell ⟨g, 9, none⟩ b9).setCell ⟨g, 10, none⟩ b10).heap[g]? = some (.cells #[a0, a1, a2, a3, b4, b5, b6, b7, b8, b9, b10] t (0, 0)) :=
  GR.setW_blk [b4, b5, b6, b7, b8, b9, b10] (o := 4) (xs := [a0, a1, a2, a3, a4, a5, a6, a7, a8, a9, a10]) h
theorem eleven_tail_below {a w : World} {B g : Nat} {b4 b5 b6 b7 b8 b9 b10 : Value} (h : Below B a w) (hg : B ≤ g) : Below B a (((((((w.setCell ⟨g, 4, none⟩ b4).setCell ⟨g, 5, none⟩ b5).setCell ⟨g, 6, none⟩ b6).setCell ⟨g, 7, none⟩ b7).setCell ⟨g, 8, none⟩ b8).setCell ⟨g, 9, none⟩ b9).setCell ⟨g, 10, none⟩ b10) :=
  GR.setW_below hg [b4, b5, b6, b7, b8, b9, b10] (o := 4) h
theorem eleven_tail_other {w : World} {g g' : Nat} {b4 b5 b6 b7 b8 b9 b10 : Value} (hne : g' ≠ g) : (((((((w.setCell ⟨g, 4, none⟩ b4).setCell ⟨g, 5, none⟩ b5).setCell ⟨g, 6, none⟩ b6).setCell ⟨g, 7, none⟩ b7).setCell ⟨g, 8, none⟩ b8).setCell ⟨g, 9, none⟩ b9).setCell ⟨g, 10, none⟩ b10).heap[g']? = w.heap[g']? :=
  GR.setW_other hne [b4, b5, b6, b7, b8, b9, b10] (o := 4)
theorem bodyPost_atE {P : Program} {fn : Func} {Q : Ending → World → Prop} {x : Exit} {act : Act} {W : World} (h : ∀ W', W' = W → bodyPost P fn Q x act W') : bodyPost P fn Q x act W := h W rfl
end Go.Proofs.Ytgkimogaghgjaaa
