/- Parts. -/
import Derived.Test.YtbanjohfcnadfaaGreatDoorPw18
import Derived.Test.YtbanjohfcnadfaaGreatDoorPw4
import Derived.Test.YtbanjohfcnadfaaGreatDoorPw1
import Derived.Sort.OwnSortedInts
import Derived.OrdersHeld
import Derived.Lib.QuietBelow
namespace Go.Proofs.YtbanjohfcnadfaaGreatDoor
open Go.RowKit
open Mth

theorem flat_encNum (l : List Int) : GR.flat encNum l = l.map (Value.int .i64) := by
  induction l with
  | nil => rfl
  | cons x l ih => rw [GR.flat_cons, ih]; rfl
theorem encNum_one : ∀ (y : Int), ∀ u ∈ encNum y, u.oneCell' = true := by
  intro y u hu
  simp only [encNum, List.mem_cons, List.not_mem_nil, or_false] at hu
  subst hu
  rfl
set_option maxRecDepth 100000 in
set_option maxHeartbeats 1000000 in
theorem cloneInts (a : Option Addr) (cap : Nat) (l : List Int) (w : World) (hl : l.length ≤ 1048600) (ha : IntsAt w a l) :
    Calls Tryz.prog 42 #[.slice a l.length cap] w fun e w' => ∃ v, e = .returned v ∧ w'.ownsRow w.heap.size 3 1 v l.length (GR.flat encNum l) ∧ Below w.heap.size w w' := by
  obtain ⟨i0, hi, hz0, hz1, hz2⟩ := info_parts infoInt
  have q22 : ∀ (w : World) (a : Option Addr) (n c n' c' : Nat), (binOp .eql 22 (.slice a n c) (.slice none n' c')).run Tryz.prog w = .ok (.bool a.isNone) w := fun w a n c n' c' => Lib.run_eql_slice_nil w _ _ a n c n' c' Tryz.underlying22
  have hlit : (w.alloc (.cells #[] 3)).ownsRow w.heap.size 3 1 (.slice (some ⟨w.heap.size, 0, none⟩) 0 0) 0 [] := World.ownsRow_lit (base := w.heap.size) (e := 3) (size := 1) w #[] 0 (Nat.le_refl _) (by decide) rfl
  cases a with
  | none =>
    have hl0 : l = [] := GR.none_nil ha
    subst hl0
    clear ha hlit
    go_enter Tryz.func42, Tryz.ntmps42
    go_wp2_with fail
    go_ret
    exact ⟨_, rfl, World.ownsRow_nil _ _ _ _, Below.refl _ _⟩
  | some x =>
    have HN := hide (GR.At.news encNum_length (by omega) (GR.At.below ha (below_one w (.cells #[] 3))))
    clear ha
    go_enter Tryz.func42, Tryz.ntmps42
    go_wp2_with (at_builtin; refine wpList_append_own _ rfl _ _ 22 rfl w.heap.size 3 i0 (.int .i64 0) 1 8 Tryz.underlying22 hi hz0 hz1 hz2 rfl (by decide) _ 0 [] rfl hlit x l.length cap (GR.flat encNum l) rfl ?c0 ?c1 ?c2 ?c3 ?c4 ?c5 ?_)
    case c0 => exact GR.flat_length encNum 1 encNum_length l
    case c1 => exact unhide HN
    case c2 => exact GR.flat_oneCell encNum_one l
    case c3 => unfold maxLen; omega
    case c4 => omega
    case c5 => simp
    intro v' w1 hown' hgrow _
    have HO := hide (show w1.ownsRow w.heap.size 3 1 v' l.length (GR.flat encNum l) by simpa using hown')
    have hb : Below w.heap.size w w1 := (below_one w _).grown hgrow (by simp) (fun k hk => by cases hk; exact Nat.le_refl _)
    clear hown' hgrow hlit
    go_wp2
    go_ret
    exact ⟨_, rfl, unhide HO, hb⟩
/-- slices.Sort of a row of one's own. -/
theorem sortOwn (B : Nat) (v : Value) (l : List Int) (w : World) (hl : l.length ≤ 1048602) (hB : B ≤ w.heap.size) (h : w.ownsRow B 3 1 v l.length (GR.flat encNum l)) :
    Calls Tryz.prog 88 #[v] w fun e w' => e = .returned (.tuple #[]) ∧ w'.ownsRow B 3 1 v l.length (GR.flat encNum (srt l)) ∧ Below B w w' := by
  rw [flat_encNum] at h ⊢
  rcases h.2 with ⟨rfl, hn⟩ | ⟨g, cap, cur, rfl, hg, hblk, h1, h2, h3, h4⟩
  · have hl0 : l = [] := List.eq_nil_of_length_eq_zero hn
    subst hl0
    refine (AnyM.slices_Sort_int_none Tryz.sortL none 0 w).mono ?_
    rintro e w' ⟨rfl, rfl⟩
    refine ⟨rfl, ?_, Below.refl _ _⟩
    simpa [srt] using World.ownsRow_nil _ _ _ _
  · rw [Nat.mul_one] at h4
    have hH := holds_of_blockI hblk h4
    refine (AnyM.slices_Sort_int Tryz.sortL g 0 cap l w hH (obj_lt hblk) (by omega)).mono ?_
    rintro e w' ⟨rfl, n, os, rfl⟩
    have hs : (srt l).length = l.length := srt_length l
    have h5 := ownsRow_sortedI (n := n) (os := os) (ts := srt l) hs hg hblk h1 h2 h3
    exact ⟨rfl, h5, (Below.refl B w).grown (grownBy_sortedI _) hB (fun k hk => by cases hk; exact hg)⟩
set_option maxRecDepth 100000 in
set_option maxHeartbeats 2000000 in
theorem implNeighbours (n : Nd) (A : Ads) (w : World) (hl : n.kids.length ≤ 1048600) (ha : IntsAt w A.k n.kids) :
    Calls Tryz.prog 73 #[ndv n A] w fun e w' => ∃ v, e = .returned v ∧ w'.ownsRow w.heap.size 3 1 v (nbrs n).length (GR.flat encNum (srt (nbrs n))) ∧ Below w.heap.size w w' := by
  obtain ⟨i0, hi, hz0, hz1, hz2⟩ := info_parts infoInt
  have HC := hide (cloneInts A.k A.ck n.kids (w.alloc (.cells (ndc n A) 50)) hl (GR.At.below ha (below_one w _)))
  have HBX := hide (heap_alloc_new w (.cells (ndc n A) 50))
  have HNB : Hid ((n.par = -1 → nbrs n = n.kids) ∧ (¬ n.par = -1 → nbrs n = n.kids ++ [n.par])) := ⟨fun h => by unfold nbrs; rw [if_pos h, List.append_nil], fun h => by unfold nbrs; rw [if_neg h]⟩
  have hln : (nbrs n).length ≤ 1048602 := by unfold nbrs; split <;> simp <;> omega
  generalize nbrs n = NB at *
  obtain ⟨id, par, kids, next, pu, out, seen, old, reqs⟩ := n
  obtain ⟨ak, ap, ao, as', ar, ck, cp, co, cs, cr⟩ := A
  dsimp only at hl HC HBX HNB ⊢
  clear ha
  go_enter Tryz.func73, Tryz.ntmps73
  go_wp2_with fail
  refine (unhide HC).mono ?_
  rintro e w1 ⟨v, rfl, hown, hb1⟩
  have HB1 := hide ((below_one w _).trans (hb1.mono (by simp)))
  have HO1 := hide (GR.own_lower (b' := w.heap.size) hown (by simp))
  obtain ⟨c0, c1, _⟩ := nine (obj_step (unhide HBX) hb1)
  clear hown hb1 HC
  go_upto_if 9 with fail
  go_cut [3] (fun r wx => wx.ownsRow w.heap.size 3 1 r NB.length (GR.flat encNum NB) ∧ Below w.heap.size w wx)
  case first =>
    by_cases hp : par = -1
    · have hb : (par != -1) = false := by simp [hp]
      have HE := hide ((unhide HNB).1 hp)
      clear hp
      go_wp2_with fail
      go_meet
      case rel => exact ⟨by rw [unhide HE]; exact unhide HO1, unhide HB1⟩
    · have hb : (par != -1) = true := by simp [hp]
      have HE := hide ((unhide HNB).2 hp)
      clear hp
      have ho := unhide HO1
      go_wp2_with (at_builtin; refine wpList_append_own _ rfl _ _ 22 rfl w.heap.size 3 i0 (.int .i64 0) 1 8 Tryz.underlying22 hi hz0 hz1 hz2 rfl (by decide) _ _ _ rfl (ho.alloc _) ⟨w1.heap.size, 0, none⟩ 1 1 [.int .i64 par] rfl rfl ?c1 ?c2 ?c3 ?c4 ?c5 ?_)
      case c1 => exact cell_one_new _ _ _
      case c2 => intro u hu; simp at hu; subst hu; rfl
      case c3 => unfold maxLen; omega
      case c4 => omega
      case c5 => have := (unhide HB1).size; simp; omega
      intro v' w6 hown' hgrow _
      have HB6 := hide (GR.below_append (unhide HB1) (unhide HB1).size ho hgrow)
      have HO6 : Hid (w6.ownsRow w.heap.size 3 1 v' NB.length (GR.flat encNum NB)) := by
        rw [unhide HE, GR.flat_append, List.length_append]
        exact hown'
      clear hgrow ho hown'
      go_wp2_with fail
      go_meet
      case rel => exact ⟨unhide HO6, unhide HB6⟩
  case rest =>
    obtain ⟨ho, hb⟩ := hcut
    have HS := hide (sortOwn w.heap.size _ NB wc hln hb.size ho)
    have HB2 := hide hb
    clear ho hb c0 c1
    go_wp2_with fail
    refine (unhide HS).mono ?_
    rintro e w3 ⟨rfl, ho3, hb3⟩
    have HO3 := hide ho3
    have HB3 := hide ((unhide HB2).trans hb3)
    clear ho3 hb3
    go_wp2_with fail
    go_ret
    exact ⟨_, rfl, unhide HO3, unhide HB3⟩
theorem blk_lt {w : World} {g : Nat} {o : Obj} (h : w.heap[g]? = some o) : g < w.heap.size := by
  rcases Nat.lt_or_ge g w.heap.size with h' | h'
  · exact h'
  · rw [Array.getElem?_eq_none h'] at h; cases h

theorem allocsE2 (w : World) (a b : Obj) : ((w.alloc a).alloc b).heap[w.heap.size]? = some a ∧ ((w.alloc a).alloc b).heap[w.heap.size + 1]? = some b ∧ Below w.heap.size w ((w.alloc a).alloc b) := by
  have e1 : (w.alloc a).heap.size = w.heap.size + 1 := by simp
  have h4 := heap_alloc_new (w.alloc a) b
  have h6 := Below.heap_alloc (w.alloc a) b w.heap.size (by omega)
  rw [e1] at h4
  exact ⟨h6.trans (heap_alloc_new w a), h4, (below_one w a).alloc (by omega) b⟩

/-- The second world has grown out of the first one. -/
abbrev Ge (w w' : World) : Prop := Below w.heap.size w w'
theorem Ge.trans {a b c : World} (h : Ge a b) (h' : Ge b c) : Ge a c := Below.trans h (Below.mono h' (Below.size h))
/-- A world that has grown out of another, spelt out. -/
abbrev Gr (w : World) (p : Regrown) : World := Sort.grow (redrawn w p.d) p.os

section
variable {P : Program} {ops : Array Oper} {Q : Exit → Act → World → Prop} {md : Region.Mode}

/-- Whatever order is picked from here on, in this world and in every one that has grown out of it. -/
def wpMix (P : Program) (md : Region.Mode) (ops : Array Oper) (Q : Exit → Act → World → Prop) : Nat → Array Bool → Act → World → Prop
  | 0, listed, a, w => Region.ready md ops listed = [] ∧ ∀ x, Ge w x → Q .normal a x
  | fuel + 1, listed, a, w => ∀ x, Ge w x → (Region.ready md ops listed = [] → Q .normal a x) ∧ ∀ i ∈ Region.ready md ops listed, wpOp P ops Q i (fun a' y => Ge x y ∧ wpMix P md ops Q fuel (listed.setIfInBounds i true) a' y) a x

theorem wpMix_grow {fuel : Nat} {listed : Array Bool} {a : Act} {w x : World} (hx : Ge w x) (h : wpMix P md ops Q fuel listed a w) : wpMix P md ops Q fuel listed a x := by
  cases fuel with
  | zero => exact ⟨h.1, fun y hy => h.2 y (Ge.trans hx hy)⟩
  | succ fuel => exact fun y hy => h y (Ge.trans hx hy)
theorem wpAny_of_mix : ∀ (fuel : Nat) (listed : Array Bool) (a : Act) (w : World), wpMix P md ops Q fuel listed a w → wpAny P md ops Q fuel listed a w
  | 0, _, _, w, h => ⟨h.1, h.2 w (Below.refl _ _)⟩
  | fuel + 1, _, _, w, h => ⟨(h w (Below.refl _ _)).1, fun i hi => wpOp_mono (fun a' y hy => wpAny_of_mix fuel _ a' y hy.2) ((h w (Below.refl _ _)).2 i hi)⟩

/-- In every world that has grown out of w the operation yields v, and leaves a grown world. -/
def YieldsG (P : Program) (ops : Array Oper) (o : Oper) (v : Value) (a : Act) (w : World) : Prop :=
  (Region.wanted o (yielded ops a.tmps) = true ∧ ∀ x, Ge w x → Oper.quietUpon P (Ge x) x v ((execOp a.eval o).run P x)) ∨ (Region.wanted o (yielded ops a.tmps) = false ∧ v = undef)

theorem YieldsG.wpOp {i : Nat} {o : Oper} {v : Value} {a : Act} {w x : World} (hi : ops[i]? = some o) (hy : YieldsG P ops o v a w) (hx : Ge w x) {K : Act → World → Prop} (h : ∀ y, Ge x y → K (a.put o.dst v) y) : wpOp P ops Q i K a x := by
  unfold Go.wpOp
  simp only [hi]
  rcases hy with ⟨hw, hv⟩ | ⟨hw, rfl⟩
  · rw [if_pos hw]
    left
    have h1 := hv x hx
    unfold Oper.wp
    generalize (execOp a.eval o).run P x = r at *
    cases r with
    | halt e y => simp only [Oper.quietUpon] at h1
    | ok n y =>
      cases n <;> simp only [Oper.quietUpon] at h1 <;> simp only [Oper.upon]
      case value u => obtain ⟨rfl, rfl⟩ := h1; exact h _ (Below.refl _ _)
      case skip => obtain ⟨rfl, rfl⟩ := h1; exact h _ (Below.refl _ _)
      case enter f args =>
        obtain ⟨rfl, hc⟩ := h1
        exact hc.mono fun e z ⟨he, hz⟩ => by subst he; exact h z hz
  · rw [if_neg (by rw [hw]; simp)]
    exact h _ (Below.refl _ _)

/-- What an operation sees is not turned by one apart from it. -/
theorem wpOp_past {j : Nat} {oi oj : Oper} {v : Value} (hj : ops[j]? = some oj) (hap : oi.apart ops oj = true) (hsi : ∀ cs b, oi.op ≠ .select cs b) (hsj : ∀ cs b, oj.op ≠ .select cs b)
    (hQ : ∀ c a w, Q (.panic c) (a.put oi.dst v) w → Q (.panic c) a w) {K : Act → World → Prop} {a : Act} {x : World} (h : wpOp P ops Q j K (a.put oi.dst v) x) :
    wpOp P ops Q j (fun a' y => (execOp a'.eval oi = execOp a.eval oi ∧ Region.wanted oi (yielded ops a'.tmps) = Region.wanted oi (yielded ops a.tmps)) ∧ K (a'.put oi.dst v) y) a x := by
  obtain ⟨g1, g2, g3⟩ := Oper.apart_spec hap
  have same : ∀ (b : Act) u, execOp (b.put oj.dst u).eval oi = execOp b.eval oi ∧ Region.wanted oi (yielded ops (b.put oj.dst u).tmps) = Region.wanted oi (yielded ops b.tmps) := fun b u => ⟨execOp_put oi hsi b oj.dst u g3, wanted_put oi b oj.dst u g3⟩
  unfold wpOp at *
  simp only [hj] at *
  rw [wanted_put oj a oi.dst v g1] at h
  by_cases hw : Region.wanted oj (yielded ops a.tmps) = true
  · rw [if_pos hw] at h ⊢
    rcases h with h | ⟨h, hl⟩
    · left
      unfold Oper.wp at *
      rw [execOp_put oj hsj a oi.dst v g1] at h
      generalize (execOp a.eval oj).run P x = r at *
      cases r with
      | halt e y => cases e <;> simp only [Oper.upon] at h ⊢; exact hQ _ _ _ h
      | ok n y =>
        cases n <;> simp only [Oper.upon] at h ⊢
        case value u => exact ⟨same a u, by rw [← Act.put_comm a v u g2]; exact h⟩
        case skip => exact ⟨same a _, by rw [← Act.put_comm a v undef g2]; exact h⟩
        case defer d =>
          refine ⟨same { a with defers := d :: a.defers } _, ?_⟩
          rw [← Act.put_comm _ v undef g2, ← Act.put_defers]
          exact h
        case enter f args =>
          refine Calls.mono h fun e z he => ?_
          cases e with
          | returned u => exact ⟨same a u, by rw [← Act.put_comm a v u g2]; exact he⟩
          | panicked c => exact hQ _ _ _ he
          | outgrown => exact he
        case row r args => exact Rows.mono h fun u z he => ⟨same a u, by rw [← Act.put_comm a v u g2]; exact he⟩
    · right
      refine ⟨?_, hl⟩
      unfold Oper.asks at *
      rw [execOp_put oj hsj a oi.dst v g1] at h
      exact h
  · rw [if_neg hw] at h ⊢
    exact ⟨same a _, by rw [← Act.put_comm a v undef g2]; exact h⟩

theorem wpMix_first {i : Nat} {oi : Oper} {v : Value} (hi : ops[i]? = some oi) (hsel : ∀ (j : Nat) (o : Oper) cs b, ops[j]? = some o → o.op ≠ .select cs b) (hQ : ∀ c a w, Q (.panic c) (a.put oi.dst v) w → Q (.panic c) a w) :
    ∀ (fuel : Nat) (listed : Array Bool) (a : Act) (w : World),
      (∀ j oj, ops[j]? = some oj → j ≠ i → listed.getD j true = false → (∀ e ∈ oj.after, Region.binds md e = true → e.on ≠ i) → oi.apart ops oj = true) →
      i ∈ Region.ready md ops listed → YieldsG P ops oi v a w → wpMix P md ops Q fuel (listed.setIfInBounds i true) (a.put oi.dst v) w → wpMix P md ops Q (fuel + 1) listed a w := by
  intro fuel
  induction fuel with
  | zero =>
    intro listed a w _ hr hy H x hx
    refine ⟨fun h => (by rw [h] at hr; cases hr), fun j hj => ?_⟩
    by_cases hji : j = i
    · subst hji
      exact hy.wpOp hi hx fun y hy' => ⟨hy', wpMix_grow (Ge.trans hx hy') H⟩
    · have := ready_mono hj hji
      rw [H.1] at this
      cases this
  | succ fuel ih =>
    intro listed a w hfree hr hy H x hx
    refine ⟨fun h => (by rw [h] at hr; cases hr), fun j hj => ?_⟩
    by_cases hji : j = i
    · subst hji
      exact hy.wpOp hi hx fun y hy' => ⟨hy', wpMix_grow (Ge.trans hx hy') H⟩
    · have h1 := (H x hx).2 j (ready_mono hj hji)
      obtain ⟨hjun, oj, hoj, hall⟩ := mem_ready.1 hj
      have hnot : ∀ e ∈ oj.after, Region.binds md e = true → e.on ≠ i := fun e he hb heq => by
        have h2 := hall e he hb
        have h0 := (mem_ready.1 hr).1
        rw [heq] at h2
        rcases Nat.lt_or_ge i listed.size with h' | h'
        · simp [h'] at h0 h2; rw [h0] at h2; cases h2
        · simp [Array.getElem?_eq_none h'] at h2
      have h2 := wpOp_past hoj (hfree j oj hoj hji hjun hnot) (fun cs b => hsel i oi cs b hi) (fun cs b => hsel j oj cs b hoj) hQ h1
      refine wpOp_mono (fun a' y hy2 => ?_) h2
      obtain ⟨⟨hs1, hs2⟩, hg, hm⟩ := hy2
      refine ⟨hg, ih (listed.setIfInBounds j true) a' y ?_ (ready_mono hr (Ne.symm hji)) ?_ ?_⟩
      · intro k ok hk hki hun hno
        refine hfree k ok hk hki ?_ hno
        by_cases hjk : j = k
        · subst hjk; exact hjun
        · rw [getD_set_ne true hjk] at hun; exact hun
      · unfold YieldsG at *
        rw [hs1, hs2]
        exact hy.imp (fun ⟨p, q⟩ => ⟨p, fun z hz => q z (Ge.trans (Ge.trans hx hg) hz)⟩) id
      · rw [Array.setIfInBounds_comm _ _ hji]
        exact hm

/-- Take number i first, what it yields asked in every grown world, spelt out. -/
theorem wpMix_take (i : Nat) {oi : Oper} {fuel : Nat} {listed : Array Bool} {a : Act} {w : World} (hi : ops[i]? = some oi) (hs : Region.noSelect ops = true) (hf : Region.free md ops listed i = true) (hr : (Region.ready md ops listed).contains i = true)
    (hQ : ∀ v c a w, Q (.panic c) (a.put oi.dst v) w → Q (.panic c) a w)
    (h : ∀ K : Act → Prop, (∀ a', wpMix P md ops Q fuel (listed.setIfInBounds i true) a' w → K a') → if Region.wanted oi (yielded ops a.tmps) then ∃ v, (∀ p : Regrown, Oper.quietUpon P (Ge (Gr w p)) (Gr w p) v ((execOp a.eval oi).run P (Gr w p))) ∧ K (a.put oi.dst v) else K (a.put oi.dst undef)) :
    wpMix P md ops Q (fuel + 1) listed a w := by
  have h' := h _ fun _ h => h
  by_cases hw : Region.wanted oi (yielded ops a.tmps) = true
  · rw [if_pos hw] at h'
    obtain ⟨v, hv, hk⟩ := h'
    refine wpMix_first hi (Region.noSelect_spec hs) (hQ v) fuel listed a w (Region.free_spec hi hf) (by simpa using hr) (.inl ⟨hw, fun x hx => ?_⟩) hk
    obtain ⟨p, rfl⟩ := regrown_of_below hx
    exact hv p
  · rw [if_neg hw] at h'
    exact wpMix_first hi (Region.noSelect_spec hs) (hQ undef) fuel listed a w (Region.free_spec hi hf) (by simpa using hr) (.inr ⟨by simpa using hw, rfl⟩) h'

/-- Number i alone may come up. -/
theorem wpMix_one (i : Nat) {oi : Oper} {fuel : Nat} {listed : Array Bool} {a : Act} {w : World} (hi : ops[i]? = some oi) (hr : Region.ready md ops listed = [i]) (hw : Region.wanted oi (yielded ops a.tmps) = true)
    (h : ∀ x, Ge w x → oi.wp P a x (fun a' y => Ge x y ∧ wpMix P md ops Q fuel (listed.setIfInBounds i true) a' y) Q) : wpMix P md ops Q (fuel + 1) listed a w := by
  intro x hx
  rw [hr]
  refine ⟨fun h => (by cases h), fun j hj => ?_⟩
  obtain rfl : j = i := by simpa using hj
  unfold wpOp
  simp only [hi]
  rw [if_pos hw]
  exact .inl (h x hx)

theorem wpMix_done {listed : Array Bool} {a : Act} {w : World} (hr : Region.ready md ops listed = []) (h : ∀ x, Ge w x → Q .normal a x) : wpMix P md ops Q 0 listed a w := ⟨hr, h⟩

theorem wp_region_mix {id : Nat} {a : Act} {w : World} (hm : P.follows .mixedOrders = true) (h : wpMix P .any ops Q ops.size (Array.replicate ops.size false) a w) : (Code.region id ops true).wp P Q a w :=
  wp_region_any hm (wpAny_of_mix _ _ _ _ (wpMix_grow (w := w) (x := { w with drawn := w.drawn + 1 }) ⟨rfl, rfl, rfl, Nat.le_refl _, fun _ _ => rfl⟩ h))
end

section
variable {P : Program} {ops : Array Oper} {Q : Exit → Act → World → Prop} {md : Region.Mode} {E : Nat}

/-- What an operation waits for. -/
def depsOf (md : Region.Mode) (ops : Array Oper) (j : Nat) : List Nat := match ops[j]? with
  | some o => (o.after.toList.filter (fun e => Region.binds md e)).map (fun e => e.on)
  | none => []
def ancS (md : Region.Mode) (ops : Array Oper) (S : List Nat) : List Nat := (S ++ S.flatMap (depsOf md ops)).eraseDups
/-- All that must have come ahead of it. -/
def anc (md : Region.Mode) (ops : Array Oper) (E : Nat) : Nat → List Nat
  | 0 => depsOf md ops E
  | n + 1 => ancS md ops (anc md ops E n)
def ClosedL (md : Region.Mode) (ops : Array Oper) (L : Array Bool) : Prop := ∀ j oj, ops[j]? = some oj → L.getD j false = true → ∀ e ∈ oj.after, Region.binds md e = true → L.getD e.on false = true
def closedB (md : Region.Mode) (ops : Array Oper) (L : Array Bool) : Bool := (List.range ops.size).all fun j => !(L.getD j false) || (depsOf md ops j).all (fun k => L.getD k false)
theorem mem_depsOf {j : Nat} {oj : Oper} (hj : ops[j]? = some oj) {k : Nat} : k ∈ depsOf md ops j ↔ ∃ e ∈ oj.after, Region.binds md e = true ∧ e.on = k := by
  unfold depsOf
  rw [hj]
  simp only [List.mem_map, List.mem_filter, Array.mem_toList_iff]
  constructor
  · rintro ⟨e, ⟨h1, h2⟩, h3⟩; exact ⟨e, h1, h2, h3⟩
  · rintro ⟨e, h1, h2, h3⟩; exact ⟨e, ⟨h1, h2⟩, h3⟩
theorem closedB_spec {L : Array Bool} (h : closedB md ops L = true) : ClosedL md ops L := by
  intro j oj hj hl e he hb
  unfold closedB at h
  rw [List.all_eq_true] at h
  have hjs : j < ops.size := by
    rcases Nat.lt_or_ge j ops.size with h' | h'
    · exact h'
    · rw [Array.getElem?_eq_none h'] at hj; cases hj
  have h1 := h j (List.mem_range.2 hjs)
  rw [hl] at h1
  simp only [Bool.not_true, Bool.false_or, List.all_eq_true] at h1
  exact h1 e.on ((mem_depsOf hj).2 ⟨e, he, hb, rfl⟩)
theorem anc_listed {L : Array Bool} (hc : ClosedL md ops L) (hE : E ∈ Region.ready md ops L) : ∀ n, ∀ k ∈ anc md ops E n, L.getD k false = true := by
  obtain ⟨_, o, ho, hall⟩ := mem_ready.1 hE
  intro n
  induction n with
  | zero =>
    intro k hk
    obtain ⟨e, he, hb, rfl⟩ := (mem_depsOf ho).1 hk
    exact hall e he hb
  | succ n ih =>
    intro k hk
    have hk' : k ∈ (anc md ops E n ++ (anc md ops E n).flatMap (depsOf md ops)).eraseDups := hk
    rw [List.mem_eraseDups, List.mem_append, List.mem_flatMap] at hk'
    rcases hk' with h | ⟨d, hd, hkd⟩
    · exact ih k h
    · cases hod : ops[d]? with
      | none => unfold depsOf at hkd; rw [hod] at hkd; cases hkd
      | some od =>
        obtain ⟨e, he, hb, rfl⟩ := (mem_depsOf hod).1 hkd
        exact hc d od hod (ih d hd) e he hb
theorem closed_set {L : Array Bool} {j : Nat} (hc : ClosedL md ops L) (hj : j ∈ Region.ready md ops L) : ClosedL md ops (L.setIfInBounds j true) := by
  obtain ⟨_, o, ho, hall⟩ := mem_ready.1 hj
  intro k ok hk hl e he hb
  by_cases hjk : j = k
  · subst hjk
    obtain rfl := Option.some.inj (ho.symm.trans hk)
    exact getD_set_true (hall e he hb)
  · rw [getD_set_ne false hjk] at hl
    exact getD_set_true (hc k ok hk hl e he hb)

def wpMixE (P : Program) (md : Region.Mode) (ops : Array Oper) (Q : Exit → Act → World → Prop) (E : Nat) : Nat → Array Bool → Act → World → Prop
  | 0, listed, a, w => Region.ready md ops listed = [] ∧ ∀ x, Ge w x → Q .normal a x
  | fuel + 1, listed, a, w => (Region.ready md ops listed = [E] ∧ ∀ x, Ge w x → wpAny P md ops Q (fuel + 1) listed a x) ∨
      ∀ x, Ge w x → (Region.ready md ops listed = [] → Q .normal a x) ∧ ∀ i ∈ Region.ready md ops listed, wpOp P ops Q i (fun a' y => Ge x y ∧ wpMixE P md ops Q E fuel (listed.setIfInBounds i true) a' y) a x

theorem wpMixE_grow {fuel : Nat} {listed : Array Bool} {a : Act} {w x : World} (hx : Ge w x) (h : wpMixE P md ops Q E fuel listed a w) : wpMixE P md ops Q E fuel listed a x := by
  cases fuel with
  | zero => exact ⟨h.1, fun y hy => h.2 y (Ge.trans hx hy)⟩
  | succ fuel =>
    rcases h with ⟨h1, h2⟩ | h
    · exact .inl ⟨h1, fun y hy => h2 y (Ge.trans hx hy)⟩
    · exact .inr fun y hy => h y (Ge.trans hx hy)
theorem wpAny_of_mixE : ∀ (fuel : Nat) (listed : Array Bool) (a : Act) (w : World), wpMixE P md ops Q E fuel listed a w → wpAny P md ops Q fuel listed a w
  | 0, _, _, w, h => ⟨h.1, h.2 w (Below.refl _ _)⟩
  | _ + 1, _, _, w, .inl h => h.2 w (Below.refl _ _)
  | fuel + 1, _, _, w, .inr h => ⟨(h w (Below.refl _ _)).1, fun i hi => wpOp_mono (fun a' y hy => wpAny_of_mixE fuel _ a' y hy.2) ((h w (Below.refl _ _)).2 i hi)⟩

theorem wpMixE_first {i : Nat} {oi : Oper} {v : Value} (n : Nat) (hi : ops[i]? = some oi) (hE : i ∈ anc md ops E n) (hsel : ∀ (j : Nat) (o : Oper) cs b, ops[j]? = some o → o.op ≠ .select cs b) (hQ : ∀ c a w, Q (.panic c) (a.put oi.dst v) w → Q (.panic c) a w) :
    ∀ (fuel : Nat) (listed : Array Bool) (a : Act) (w : World), ClosedL md ops listed →
      (∀ j oj, ops[j]? = some oj → j ≠ i → listed.getD j true = false → (∀ e ∈ oj.after, Region.binds md e = true → e.on ≠ i) → oi.apart ops oj = true) →
      i ∈ Region.ready md ops listed → YieldsG P ops oi v a w → wpMixE P md ops Q E fuel (listed.setIfInBounds i true) (a.put oi.dst v) w → wpMixE P md ops Q E (fuel + 1) listed a w := by
  intro fuel
  induction fuel with
  | zero =>
    intro listed a w _ _ hr hy H
    refine .inr fun x hx => ⟨fun h => (by rw [h] at hr; cases hr), fun j hj => ?_⟩
    by_cases hji : j = i
    · subst hji
      exact hy.wpOp hi hx fun y hy' => ⟨hy', wpMixE_grow (Ge.trans hx hy') H⟩
    · have := ready_mono hj hji
      rw [H.1] at this
      cases this
  | succ fuel ih =>
    intro listed a w hcl hfree hr hy H
    refine .inr fun x hx => ⟨fun h => (by rw [h] at hr; cases hr), fun j hj => ?_⟩
    by_cases hji : j = i
    · subst hji
      exact hy.wpOp hi hx fun y hy' => ⟨hy', wpMixE_grow (Ge.trans hx hy') H⟩
    · rcases H with ⟨h1, _⟩ | H
      · exfalso
        have h2 := ready_mono hj hji
        rw [h1] at h2
        obtain rfl : j = E := by simpa using h2
        have h3 := anc_listed hcl hj n i hE
        have h4 := (mem_ready.1 hr).1
        rcases Nat.lt_or_ge i listed.size with h' | h'
        · simp [h'] at h3 h4; rw [h4] at h3; cases h3
        · simp [Array.getElem?_eq_none h'] at h3
      · have h1 := (H x hx).2 j (ready_mono hj hji)
        obtain ⟨hjun, oj, hoj, hall⟩ := mem_ready.1 hj
        have hnot : ∀ e ∈ oj.after, Region.binds md e = true → e.on ≠ i := fun e he hb heq => by
          have h2 := hall e he hb
          have h0 := (mem_ready.1 hr).1
          rw [heq] at h2
          rcases Nat.lt_or_ge i listed.size with h' | h'
          · simp [h'] at h0 h2; rw [h0] at h2; cases h2
          · simp [Array.getElem?_eq_none h'] at h2
        have h2 := wpOp_past hoj (hfree j oj hoj hji hjun hnot) (fun cs b => hsel i oi cs b hi) (fun cs b => hsel j oj cs b hoj) hQ h1
        refine wpOp_mono (fun a' y hy2 => ?_) h2
        obtain ⟨⟨hs1, hs2⟩, hg, hm⟩ := hy2
        refine ⟨hg, ih (listed.setIfInBounds j true) a' y (closed_set hcl hj) ?_ (ready_mono hr (Ne.symm hji)) ?_ ?_⟩
        · intro k ok hk hki hun hno
          refine hfree k ok hk hki ?_ hno
          by_cases hjk : j = k
          · subst hjk; exact hjun
          · rw [getD_set_ne true hjk] at hun; exact hun
        · unfold YieldsG at *
          rw [hs1, hs2]
          exact hy.imp (fun ⟨p, q⟩ => ⟨p, fun z hz => q z (Ge.trans (Ge.trans hx hg) hz)⟩) id
        · rw [Array.setIfInBounds_comm _ _ hji]
          exact hm

/-- Take number i first: it must have come ahead of E in every order. -/
theorem wpMixE_take (i n : Nat) {oi : Oper} {fuel : Nat} {listed : Array Bool} {a : Act} {w : World} (hi : ops[i]? = some oi) (hs : Region.noSelect ops = true) (hf : Region.free md ops listed i = true) (hr : (Region.ready md ops listed).contains i = true)
    (hcl : closedB md ops listed = true) (hE : (anc md ops E n).contains i = true)
    (hQ : ∀ v c a w, Q (.panic c) (a.put oi.dst v) w → Q (.panic c) a w)
    (h : ∀ K : Act → Prop, (∀ a', wpMixE P md ops Q E fuel (listed.setIfInBounds i true) a' w → K a') → if Region.wanted oi (yielded ops a.tmps) then ∃ v, (∀ p : Regrown, Oper.quietUpon P (Ge (Gr w p)) (Gr w p) v ((execOp a.eval oi).run P (Gr w p))) ∧ K (a.put oi.dst v) else K (a.put oi.dst undef)) :
    wpMixE P md ops Q E (fuel + 1) listed a w := by
  have h' := h _ fun _ h => h
  have hE' : i ∈ anc md ops E n := by simpa using hE
  by_cases hw : Region.wanted oi (yielded ops a.tmps) = true
  · rw [if_pos hw] at h'
    obtain ⟨v, hv, hk⟩ := h'
    refine wpMixE_first n hi hE' (Region.noSelect_spec hs) (hQ v) fuel listed a w (closedB_spec hcl) (Region.free_spec hi hf) (by simpa using hr) (.inl ⟨hw, fun x hx => ?_⟩) hk
    obtain ⟨p, rfl⟩ := regrown_of_below hx
    exact hv p
  · rw [if_neg hw] at h'
    exact wpMixE_first n hi hE' (Region.noSelect_spec hs) (hQ undef) fuel listed a w (closedB_spec hcl) (Region.free_spec hi hf) (by simpa using hr) (.inr ⟨by simpa using hw, rfl⟩) h'
/-- Number i alone may come up, and makes memory alone. -/
theorem wpMixE_one (i : Nat) {oi : Oper} {fuel : Nat} {listed : Array Bool} {a : Act} {w : World} (hi : ops[i]? = some oi) (hr : Region.ready md ops listed = [i]) (hw : Region.wanted oi (yielded ops a.tmps) = true)
    (h : ∀ x, Ge w x → oi.wp P a x (fun a' y => Ge x y ∧ wpMixE P md ops Q E fuel (listed.setIfInBounds i true) a' y) Q) : wpMixE P md ops Q E (fuel + 1) listed a w := by
  refine .inr fun x hx => ?_
  rw [hr]
  refine ⟨fun h => (by cases h), fun j hj => ?_⟩
  obtain rfl : j = i := by simpa using hj
  unfold wpOp
  simp only [hi]
  rw [if_pos hw]
  exact .inl (h x hx)
/-- From here on as it comes: E alone may come up. -/
theorem wpMixE_leave {fuel : Nat} {listed : Array Bool} {a : Act} {w : World} (hr : Region.ready md ops listed = [E]) (h : ∀ x, Ge w x → wpAny P md ops Q (fuel + 1) listed a x) : wpMixE P md ops Q E (fuel + 1) listed a w := .inl ⟨hr, h⟩
theorem wpAny_one (i : Nat) {oi : Oper} {fuel : Nat} {listed : Array Bool} {a : Act} {w : World} (hi : ops[i]? = some oi) (hr : Region.ready md ops listed = [i]) (hw : Region.wanted oi (yielded ops a.tmps) = true)
    (h : oi.wp P a w (wpAny P md ops Q fuel (listed.setIfInBounds i true)) Q) : wpAny P md ops Q (fuel + 1) listed a w := by
  refine ⟨fun h => (by rw [hr] at h; cases h), fun j hj => ?_⟩
  rw [hr] at hj
  obtain rfl : j = i := by simpa using hj
  unfold wpOp
  simp only [hi]
  rw [if_pos hw]
  exact .inl h
theorem wpAny_done {listed : Array Bool} {a : Act} {w : World} (hr : Region.ready md ops listed = []) (h : Q .normal a w) : wpAny P md ops Q 0 listed a w := ⟨hr, h⟩
theorem wp_region_mixE (E : Nat) {id : Nat} {a : Act} {w : World} (hm : P.follows .mixedOrders = true) (h : wpMixE P .any ops Q E ops.size (Array.replicate ops.size false) a w) : (Code.region id ops true).wp P Q a w :=
  wp_region_any hm (wpAny_of_mixE _ _ _ _ (wpMixE_grow (w := w) (x := { w with drawn := w.drawn + 1 }) ⟨rfl, rfl, rfl, Nat.le_refl _, fun _ _ => rfl⟩ h))
end
end Go.Proofs.YtbanjohfcnadfaaGreatDoor
