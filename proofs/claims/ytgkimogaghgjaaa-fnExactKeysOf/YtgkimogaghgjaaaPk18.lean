/- Parts. -/
import Derived.Test.YtgkimogaghgjaaaPk17
import Derived.Test.YtgkimogaghgjaaaPk1
import Derived.OrdersHeld
import Derived.Lib.QuietBelow
import Derived.Deep.MidRow
namespace Go.Proofs.Ytgkimogaghgjaaa
open Go.RowKit
open Mth

abbrev KpI := Kp × KA
abbrev encK (x : KpI) : List Value := [.int .i64 x.1.base.id, .int .i64 x.1.base.par, .slice x.2.b.k x.1.base.kids.length x.2.b.ck, .int .i64 x.1.base.next, .slice x.2.b.p x.1.base.pu.length x.2.b.cp, .slice x.2.b.o x.1.base.out.length x.2.b.co, .slice x.2.b.s x.1.base.seen.length x.2.b.cs, .int .i64 x.1.base.old, .slice x.2.b.r x.1.base.reqs.length x.2.b.cr, .int .i64 x.1.node.id, .int .i64 x.1.node.par, .slice x.2.n.k x.1.node.kids.length x.2.n.ck, .int .i64 x.1.node.next, .slice x.2.n.p x.1.node.pu.length x.2.n.cp, .slice x.2.n.o x.1.node.out.length x.2.n.co, .slice x.2.n.s x.1.node.seen.length x.2.n.cs, .int .i64 x.1.node.old, .slice x.2.n.r x.1.node.reqs.length x.2.n.cr, .string x.1.log, .int .i64 x.1.safe, .slice x.2.wa x.1.wait.length x.2.wc, .slice x.2.aa x.1.asked.length x.2.ac]
theorem encK_length (x : KpI) : (encK x).length = 22 := rfl
/-- A row of keepers that lies in memory. -/
structure KpsAt (w : World) (a : Option Addr) (L : List KpI) : Prop where
  row : GR.At encK 22 w a L
  each : ∀ x ∈ L, KpAt w x.2 x.1
theorem KpsAt.below {w w' : World} {a : Option Addr} {L : List KpI} (h : KpsAt w a L) (hb : Below w.heap.size w w') : KpsAt w' a L := ⟨GR.At.below h.row hb, fun x hx => (h.each x hx).below hb⟩
theorem KpsAt.range {w : World} {a : Option Addr} {L : List KpI} (h : KpsAt w a L) (i : Nat) (hi : i < L.length) : ∃ g off, a = some ⟨g, off, none⟩ ∧ g < w.heap.size ∧ w.rangeAt g (off + i * 22) (encK L[i]) := by
  obtain ⟨g, off, e, hg, hc⟩ := h.row i hi
  refine ⟨g, off, e, hg, fun j v hv => ?_⟩
  have hj : j < 22 := by
    have := (List.getElem?_eq_some_iff.1 hv).1
    rw [encK_length] at this
    exact this
  rw [Nat.add_assoc]
  exact (hc j hj).trans hv
set_option maxRecDepth 100000 in
set_option maxHeartbeats 4000000 in
theorem szKeeperS (a : Option Addr) (ca : Nat) (l : List KpI) (z0 : Int) (w : World) (h0 : 0 ≤ z0) (h1 : z0 ≤ 1048576) (hl : l.length ≤ maxLen) (hks : ∀ p ∈ l, KpSz p.1 maxLen) (ha : KpsAt w a l) :
    Calls Try.prog 17 #[.slice a l.length ca, .int .i64 z0] w fun e w' => ∃ r : Int, e = .returned (.int .i64 r) ∧ (r = -1 ∨ 0 ≤ r ∧ r ≤ 1048576 ∧ l.length ≤ 1048576 ∧ ∀ p ∈ l, KpSz p.1 1048576) ∧ Below w.heap.size w w' := by
  have HA := hide ha
  clear ha
  unfold maxLen at hl
  by_cases hbig : (l.length : Int) ≤ z0
  · have hn : ¬ (z0 - (l.length : Int) < 0) := by omega
    go_enter Try.func17, Try.ntmps17
    go_wp2_with fail
    go_loopw [1, 5] (fun lf i wr => ∃ (k : Nat) (z : Int), k ≤ l.length ∧ i = .int .i64 k ∧ lf = .int .i64 z ∧ 0 ≤ z ∧ z ≤ 1048576 ∧ (∀ p ∈ l.take k, KpSz p.1 1048576) ∧ Below w.heap.size w wr) (fun _ i _ => l.length - (intOf i).toNat)
    case atStart => exact ⟨0, z0 - l.length, Nat.zero_le _, rfl, by go_num, by omega, by omega, fun p hp => by simp at hp, Below.refl _ _⟩
    case round =>
      obtain ⟨k, z, hk, rfl, rfl, hz0, hz1, hall, hbel⟩ := hrel
      have HALL := hide hall
      have HBL := hide hbel
      clear hall hbel
      by_cases hlt : k < l.length
      · obtain ⟨g, off, rfl, hgw, hrg⟩ := ((unhide HA).below (unhide HBL)).range k hlt
        have hkk := hks l[k] (List.getElem_mem hlt)
        have hat := ((unhide HA).below (unhide HBL)).each l[k] (List.getElem_mem hlt)
        have HT := hide (List.take_succ_eq_append_getElem hlt)
        generalize l[k] = pu at *
        have HSZ := hide (szKeeper pu.1 pu.2 z wr hz0 hz1 hkk hat)
        have HRG := hide hrg
        obtain ⟨⟨B0, N0, lg, sf, wt, sk⟩, ⟨AB, AN, wa, wc, aa, ac⟩⟩ := pu
        dsimp only at HSZ
        clear hkk hat hrg
        go_wp2_with (refine wpList_load_mid rfl 94 _ rfl g (off + k * 22) rfl [.int .i64 B0.id, .int .i64 B0.par, .slice AB.k B0.kids.length AB.ck, .int .i64 B0.next, .slice AB.p B0.pu.length AB.cp, .slice AB.o B0.out.length AB.co, .slice AB.s B0.seen.length AB.cs, .int .i64 B0.old, .slice AB.r B0.reqs.length AB.cr, .int .i64 N0.id, .int .i64 N0.par, .slice AN.k N0.kids.length AN.ck, .int .i64 N0.next, .slice AN.p N0.pu.length AN.cp, .slice AN.o N0.out.length AN.co, .slice AN.s N0.seen.length AN.cs, .int .i64 N0.old, .slice AN.r N0.reqs.length AN.cr, .string lg, .int .i64 sf, .slice wa wt.length wc, .slice aa sk.length ac] _ (unhide HRG) Try.underlying94 rfl (by kernel_rfl) ?_)
        refine (unhide HSZ).mono ?_
        rintro e w5 ⟨r, rfl, hcase, hb5⟩
        have HBL5 := hide ((unhide HBL).trans (hb5.mono (unhide HBL).size))
        clear hb5 HRG HSZ
        rcases hcase with rfl | ⟨r0, r1, hqq⟩
        · go_wp2_with fail
          go_ret
          exact ⟨-1, rfl, .inl rfl, unhide HBL5⟩
        · have hn2 : decide (r < 0) = false := decide_eq_false (by omega)
          have HQQ := hide hqq
          clear hqq
          go_wp2_with fail
          go_roundw
          case rel =>
            refine ⟨k + 1, r, by omega, by go_num, rfl, by omega, by omega, ?_, unhide HBL5⟩
            intro p hp
            rw [unhide HT] at hp
            rcases List.mem_append.1 hp with h | h
            · exact unhide HALL p h
            · rw [List.mem_singleton] at h
              subst h
              exact unhide HQQ
          case measure => simp [intOf]; omega
      · have hke : k = l.length := by omega
        subst hke
        have hnlt : decide ((l.length : Int) < (l.length : Int)) = false := by simp
        go_wp2_with fail
        go_ret
        have h := unhide HALL
        rw [List.take_length] at h
        exact ⟨z, rfl, .inr ⟨hz0, hz1, by omega, h⟩, unhide HBL⟩
  · have hn : z0 - (l.length : Int) < 0 := by omega
    go_enter Try.func17, Try.ntmps17
    go_wp2_with fail
    go_ret
    exact ⟨-1, rfl, .inl rfl, Below.refl _ _⟩

/-- The second world has grown out of the first one. -/
abbrev Ge (w w' : World) : Prop := Below w.heap.size w w'
theorem Ge.trans {a b c : World} (h : Ge a b) (h' : Ge b c) : Ge a c := Below.trans h (Below.mono h' (Below.size h))
/-- A world that has grown out of another, spelt out. -/
abbrev Gr (w : World) (p : Regrown) : World := Sort.grow (redrawn w p.d) p.os

section
variable {P : Program} {ops : Array Oper} {Q : Exit → Act → World → Prop} {md : Region.Mode}

/-- Whatever order is picked from here on, in this world and in every one that has grown out of it. -/
def wpMix (P : Program) (md : Region.Mode) (ops : Array Oper) (Q : Exit → Act → World → Prop) : Nat → Array Bool → Act → World → Prop
  | 0, listed, a, w => Region.ready md ops listed = [] ∧ ∀ x, Ge w x → Q .normal a x
  | fuel + 1, listed, a, w => ∀ x, Ge w x → (Region.ready md ops listed = [] → Q .normal a x) ∧ ∀ i ∈ Region.ready md ops listed, wpOp P ops Q i (fun a' y => Ge x y ∧ wpMix P md ops Q fuel (listed.setIfInBounds i true) a' y) a x

theorem wpMix_grow {fuel : Nat} {listed : Array Bool} {a : Act} {w x : World} (hx : Ge w x) (h : wpMix P md ops Q fuel listed a w) : wpMix P md ops Q fuel listed a x := by
  cases fuel with
  | zero => exact ⟨h.1, fun y hy => h.2 y (Ge.trans hx hy)⟩
  | succ fuel => exact fun y hy => h y (Ge.trans hx hy)
theorem wpAny_of_mix : ∀ (fuel : Nat) (listed : Array Bool) (a : Act) (w : World), wpMix P md ops Q fuel listed a w → wpAny P md ops Q fuel listed a w
  | 0, _, _, w, h => ⟨h.1, h.2 w (Below.refl _ _)⟩
  | fuel + 1, _, _, w, h => ⟨(h w (Below.refl _ _)).1, fun i hi => wpOp_mono (fun a' y hy => wpAny_of_mix fuel _ a' y hy.2) ((h w (Below.refl _ _)).2 i hi)⟩

/-- In every world that has grown out of w the operation yields v, and leaves a grown world. -/
def YieldsG (P : Program) (ops : Array Oper) (o : Oper) (v : Value) (a : Act) (w : World) : Prop :=
  (Region.wanted o (yielded ops a.tmps) = true ∧ ∀ x, Ge w x → Oper.quietUpon P (Ge x) x v ((execOp a.eval o).run P x)) ∨ (Region.wanted o (yielded ops a.tmps) = false ∧ v = undef)

theorem YieldsG.wpOp {i : Nat} {o : Oper} {v : Value} {a : Act} {w x : World} (hi : ops[i]? = some o) (hy : YieldsG P ops o v a w) (hx : Ge w x) {K : Act → World → Prop} (h : ∀ y, Ge x y → K (a.put o.dst v) y) : wpOp P ops Q i K a x := by
  unfold Go.wpOp
  simp only [hi]
  rcases hy with ⟨hw, hv⟩ | ⟨hw, rfl⟩
  · rw [if_pos hw]
    left
    have h1 := hv x hx
    unfold Oper.wp
    generalize (execOp a.eval o).run P x = r at *
    cases r with
    | halt e y => simp only [Oper.quietUpon] at h1
    | ok n y =>
      cases n <;> simp only [Oper.quietUpon] at h1 <;> simp only [Oper.upon]
      case value u => obtain ⟨rfl, rfl⟩ := h1; exact h _ (Below.refl _ _)
      case skip => obtain ⟨rfl, rfl⟩ := h1; exact h _ (Below.refl _ _)
      case enter f args =>
        obtain ⟨rfl, hc⟩ := h1
        exact hc.mono fun e z ⟨he, hz⟩ => by subst he; exact h z hz
  · rw [if_neg (by rw [hw]; simp)]
    exact h _ (Below.refl _ _)

/-- What an operation sees is not turned by one apart from it. -/
theorem wpOp_past {j : Nat} {oi oj : Oper} {v : Value} (hj : ops[j]? = some oj) (hap : oi.apart ops oj = true) (hsi : ∀ cs b, oi.op ≠ .select cs b) (hsj : ∀ cs b, oj.op ≠ .select cs b)
    (hQ : ∀ c a w, Q (.panic c) (a.put oi.dst v) w → Q (.panic c) a w) {K : Act → World → Prop} {a : Act} {x : World} (h : wpOp P ops Q j K (a.put oi.dst v) x) :
    wpOp P ops Q j (fun a' y => (execOp a'.eval oi = execOp a.eval oi ∧ Region.wanted oi (yielded ops a'.tmps) = Region.wanted oi (yielded ops a.tmps)) ∧ K (a'.put oi.dst v) y) a x := by
  obtain ⟨g1, g2, g3⟩ := Oper.apart_spec hap
  have same : ∀ (b : Act) u, execOp (b.put oj.dst u).eval oi = execOp b.eval oi ∧ Region.wanted oi (yielded ops (b.put oj.dst u).tmps) = Region.wanted oi (yielded ops b.tmps) := fun b u => ⟨execOp_put oi hsi b oj.dst u g3, wanted_put oi b oj.dst u g3⟩
  unfold wpOp at *
  simp only [hj] at *
  rw [wanted_put oj a oi.dst v g1] at h
  by_cases hw : Region.wanted oj (yielded ops a.tmps) = true
  · rw [if_pos hw] at h ⊢
    rcases h with h | ⟨h, hl⟩
    · left
      unfold Oper.wp at *
      rw [execOp_put oj hsj a oi.dst v g1] at h
      generalize (execOp a.eval oj).run P x = r at *
      cases r with
      | halt e y => cases e <;> simp only [Oper.upon] at h ⊢; exact hQ _ _ _ h
      | ok n y =>
        cases n <;> simp only [Oper.upon] at h ⊢
        case value u => exact ⟨same a u, by rw [← Act.put_comm a v u g2]; exact h⟩
        case skip => exact ⟨same a _, by rw [← Act.put_comm a v undef g2]; exact h⟩
        case defer d =>
          refine ⟨same { a with defers := d :: a.defers } _, ?_⟩
          rw [← Act.put_comm _ v undef g2, ← Act.put_defers]
          exact h
        case enter f args =>
          refine Calls.mono h fun e z he => ?_
          cases e with
          | returned u => exact ⟨same a u, by rw [← Act.put_comm a v u g2]; exact he⟩
          | panicked c => exact hQ _ _ _ he
          | outgrown => exact he
        case row r args => exact Rows.mono h fun u z he => ⟨same a u, by rw [← Act.put_comm a v u g2]; exact he⟩
    · right
      refine ⟨?_, hl⟩
      unfold Oper.asks at *
      rw [execOp_put oj hsj a oi.dst v g1] at h
      exact h
  · rw [if_neg hw] at h ⊢
    exact ⟨same a _, by rw [← Act.put_comm a v undef g2]; exact h⟩

theorem wpMix_first {i : Nat} {oi : Oper} {v : Value} (hi : ops[i]? = some oi) (hsel : ∀ (j : Nat) (o : Oper) cs b, ops[j]? = some o → o.op ≠ .select cs b) (hQ : ∀ c a w, Q (.panic c) (a.put oi.dst v) w → Q (.panic c) a w) :
    ∀ (fuel : Nat) (listed : Array Bool) (a : Act) (w : World),
      (∀ j oj, ops[j]? = some oj → j ≠ i → listed.getD j true = false → (∀ e ∈ oj.after, Region.binds md e = true → e.on ≠ i) → oi.apart ops oj = true) →
      i ∈ Region.ready md ops listed → YieldsG P ops oi v a w → wpMix P md ops Q fuel (listed.setIfInBounds i true) (a.put oi.dst v) w → wpMix P md ops Q (fuel + 1) listed a w := by
  intro fuel
  induction fuel with
  | zero =>
    intro listed a w _ hr hy H x hx
    refine ⟨fun h => (by rw [h] at hr; cases hr), fun j hj => ?_⟩
    by_cases hji : j = i
    · subst hji
      exact hy.wpOp hi hx fun y hy' => ⟨hy', wpMix_grow (Ge.trans hx hy') H⟩
    · have := ready_mono hj hji
      rw [H.1] at this
      cases this
  | succ fuel ih =>
    intro listed a w hfree hr hy H x hx
    refine ⟨fun h => (by rw [h] at hr; cases hr), fun j hj => ?_⟩
    by_cases hji : j = i
    · subst hji
      exact hy.wpOp hi hx fun y hy' => ⟨hy', wpMix_grow (Ge.trans hx hy') H⟩
    · have h1 := (H x hx).2 j (ready_mono hj hji)
      obtain ⟨hjun, oj, hoj, hall⟩ := mem_ready.1 hj
      have hnot : ∀ e ∈ oj.after, Region.binds md e = true → e.on ≠ i := fun e he hb heq => by
        have h2 := hall e he hb
        have h0 := (mem_ready.1 hr).1
        rw [heq] at h2
        rcases Nat.lt_or_ge i listed.size with h' | h'
        · simp [h'] at h0 h2; rw [h0] at h2; cases h2
        · simp [Array.getElem?_eq_none h'] at h2
      have h2 := wpOp_past hoj (hfree j oj hoj hji hjun hnot) (fun cs b => hsel i oi cs b hi) (fun cs b => hsel j oj cs b hoj) hQ h1
      refine wpOp_mono (fun a' y hy2 => ?_) h2
      obtain ⟨⟨hs1, hs2⟩, hg, hm⟩ := hy2
      refine ⟨hg, ih (listed.setIfInBounds j true) a' y ?_ (ready_mono hr (Ne.symm hji)) ?_ ?_⟩
      · intro k ok hk hki hun hno
        refine hfree k ok hk hki ?_ hno
        by_cases hjk : j = k
        · subst hjk; exact hjun
        · rw [getD_set_ne true hjk] at hun; exact hun
      · unfold YieldsG at *
        rw [hs1, hs2]
        exact hy.imp (fun ⟨p, q⟩ => ⟨p, fun z hz => q z (Ge.trans (Ge.trans hx hg) hz)⟩) id
      · rw [Array.setIfInBounds_comm _ _ hji]
        exact hm

/-- Take number i first, what it yields asked in every grown world, spelt out. -/
theorem wpMix_take (i : Nat) {oi : Oper} {fuel : Nat} {listed : Array Bool} {a : Act} {w : World} (hi : ops[i]? = some oi) (hs : Region.noSelect ops = true) (hf : Region.free md ops listed i = true) (hr : (Region.ready md ops listed).contains i = true)
    (hQ : ∀ v c a w, Q (.panic c) (a.put oi.dst v) w → Q (.panic c) a w)
    (h : ∀ K : Act → Prop, (∀ a', wpMix P md ops Q fuel (listed.setIfInBounds i true) a' w → K a') → if Region.wanted oi (yielded ops a.tmps) then ∃ v, (∀ p : Regrown, Oper.quietUpon P (Ge (Gr w p)) (Gr w p) v ((execOp a.eval oi).run P (Gr w p))) ∧ K (a.put oi.dst v) else K (a.put oi.dst undef)) :
    wpMix P md ops Q (fuel + 1) listed a w := by
  have h' := h _ fun _ h => h
  by_cases hw : Region.wanted oi (yielded ops a.tmps) = true
  · rw [if_pos hw] at h'
    obtain ⟨v, hv, hk⟩ := h'
    refine wpMix_first hi (Region.noSelect_spec hs) (hQ v) fuel listed a w (Region.free_spec hi hf) (by simpa using hr) (.inl ⟨hw, fun x hx => ?_⟩) hk
    obtain ⟨p, rfl⟩ := regrown_of_below hx
    exact hv p
  · rw [if_neg hw] at h'
    exact wpMix_first hi (Region.noSelect_spec hs) (hQ undef) fuel listed a w (Region.free_spec hi hf) (by simpa using hr) (.inr ⟨by simpa using hw, rfl⟩) h'

/-- Number i alone may come up. -/
theorem wpMix_one (i : Nat) {oi : Oper} {fuel : Nat} {listed : Array Bool} {a : Act} {w : World} (hi : ops[i]? = some oi) (hr : Region.ready md ops listed = [i]) (hw : Region.wanted oi (yielded ops a.tmps) = true)
    (h : ∀ x, Ge w x → oi.wp P a x (fun a' y => Ge x y ∧ wpMix P md ops Q fuel (listed.setIfInBounds i true) a' y) Q) : wpMix P md ops Q (fuel + 1) listed a w := by
  intro x hx
  rw [hr]
  refine ⟨fun h => (by cases h), fun j hj => ?_⟩
  obtain rfl : j = i := by simpa using hj
  unfold wpOp
  simp only [hi]
  rw [if_pos hw]
  exact .inl (h x hx)

theorem wpMix_done {listed : Array Bool} {a : Act} {w : World} (hr : Region.ready md ops listed = []) (h : ∀ x, Ge w x → Q .normal a x) : wpMix P md ops Q 0 listed a w := ⟨hr, h⟩

theorem wp_region_mix {id : Nat} {a : Act} {w : World} (hm : P.follows .mixedOrders = true) (h : wpMix P .any ops Q ops.size (Array.replicate ops.size false) a w) : (Code.region id ops true).wp P Q a w :=
  wp_region_any hm (wpAny_of_mix _ _ _ _ (wpMix_grow (w := w) (x := { w with drawn := w.drawn + 1 }) ⟨rfl, rfl, rfl, Nat.le_refl _, fun _ _ => rfl⟩ h))
end

theorem encK_one (x : KpI) : ∀ v ∈ encK x, v.oneCell' = true := fun v hv => by
  simp only [List.mem_cons, List.not_mem_nil, or_false] at hv
  rcases hv with rfl | rfl | rfl | rfl | rfl | rfl | rfl | rfl | rfl | rfl | rfl | rfl | rfl | rfl | rfl | rfl | rfl | rfl | rfl | rfl | rfl | rfl <;> rfl
theorem infoKL : (Try.prog.info? 94).map (·.size) = some 22 := by kernel_rfl
theorem infoKI : (Try.prog.info? 63).map (·.size) = some 22 := by kernel_rfl
theorem toKeeperV (x : KpI) (w : World) (hz : KpSz x.1 1048576) (ha : KpAt w x.2 x.1) :
    Calls Try.prog 44 #[.agg (encK x).toArray] w fun e w' => ∃ V : List Value, e = .returned (.agg V.toArray) ∧ V.length = 22 ∧ (∀ v ∈ V, v.oneCell' = true) ∧ ∃ A', V = encK (x.1, A') ∧ KpIn w.heap.size w' A' x.1 ∧ (∃ S g1 g2, KpS w.heap.size w'.heap.size w' A' x.1 S g1 g2) ∧ Below w.heap.size w w' := by
  refine (toKeeper x.1 x.2 w hz ha).mono ?_
  rintro e w1 ⟨A', rfl, h1, hs, h2⟩
  exact ⟨encK (x.1, A'), rfl, rfl, encK_one _, A', rfl, h1, hs, h2⟩
theorem eqKeeperV (x y : KpI) (hxy : x.1 = y.1) (w : World) (hz : KpSz x.1 1048576) (ha : KpAt w x.2 x.1) (hb : KpAt w y.2 y.1) :
    Calls Try.prog 49 #[.agg (encK x).toArray, .agg (encK y).toArray] w fun e w' => e = .returned (.bool true) ∧ Below w.heap.size w w' := by
  obtain ⟨k, A⟩ := x
  obtain ⟨k', B⟩ := y
  dsimp only at hxy ha hb hz
  subst hxy
  exact eqKeeper k A B w hz ha hb
abbrev zeroK : KpI := (⟨⟨0, 0, [], 0, [], [], [], 0, []⟩, ⟨0, 0, [], 0, [], [], [], 0, []⟩, ByteArray.empty, 0, [], []⟩, ⟨⟨none, none, none, none, none, 0, 0, 0, 0, 0⟩, ⟨none, none, none, none, none, 0, 0, 0, 0, 0⟩, none, 0, none, 0⟩)
theorem infoKeeperW : (Try.prog.info? 63).map (fun i => (i.zero, i.size, i.bytes)) = some (some (.agg (encK zeroK).toArray), 22, 376) := by kernel_rfl
theorem makeKeeperW (n : Nat) (hn : n ≤ 2000000) : ∀ W : World, (Instr.makeSlice 34 (.int .i64 (n : Int)) (.int .i64 (n : Int))).run Try.prog W = .ok (.slice (some ⟨W.heap.size, 0, none⟩) n n) (W.alloc (.cells (GR.flat encK (List.replicate n zeroK)).toArray 63)) := by
  obtain ⟨i0, hi, hz0, hz1, hz2⟩ := info_parts infoKeeperW
  intro W
  have h := run_make (P := Try.prog) W 34 63 i0 (.agg (encK zeroK).toArray) Try.underlying34 hi hz0 .i64 .i64 (n : Int) (n : Int) (by omega) (by omega) (by rw [hz2]; omega) (by omega)
  rw [hz1] at h
  have e := GR.made_flat encK 22 encK_length (by omega) zeroK (Value.cells (.agg (encK zeroK).toArray)) rfl n
  simp only [Int.toNat_natCast] at h
  rw [e] at h
  exact h
theorem take_setK (M : List KpI) (x : KpI) (k : Nat) (hk : k < M.length) : (M.set k x).take (k + 1) = M.take k ++ [x] := by
  rw [List.take_succ_eq_append_getElem (by simpa using hk), List.getElem_set_self, List.take_set_of_le (Nat.le_refl k)]
theorem blk_there {w : World} {g : Nat} {M : List KpI} (h : GR.Blk encK 63 w g M) (k : Nat) (hk : k < M.length) : w.there g (k * 22) 22 := fun j hj => by
  refine ⟨?_, GR.Blk.free h _⟩
  rw [GR.Blk.cell h encK_length k hk j hj, List.getElem?_eq_getElem (by rw [encK_length]; exact hj)]
  rfl
/-- Keepers in a row in block g, each with blocks of its own, one behind the other. -/
structure KpsR (g : Nat) (w : World) (M : List KpI) (r : Nat → Nat) : Prop where
  r0 : g < r 0
  up : ∀ j, j < M.length → r j ≤ r (j + 1)
  hi : r M.length ≤ w.heap.size
  kp : ∀ j (hj : j < M.length), ∃ S g1 g2, KpS (r j) (r (j + 1)) w M[j].2 M[j].1 S g1 g2
theorem KpsR.keeps {g : Nat} {w w' : World} {M : List KpI} {r : Nat → Nat} {F : List Nat} (h : KpsR g w M r) (hk : KeepsL F w w') (hF : ∀ x ∈ F, x ≤ g) : KpsR g w' M r := by
  have hm : ∀ j, j ≤ M.length → r 0 ≤ r j := fun j => by
    induction j with
    | zero => intro _; exact Nat.le_refl _
    | succ j ih => intro hj; exact Nat.le_trans (ih (by omega)) (h.up j (by omega))
  refine ⟨h.r0, h.up, Nat.le_trans h.hi hk.size, fun j hj => ?_⟩
  obtain ⟨S, g1, g2, hs⟩ := h.kp j hj
  exact ⟨S, g1, g2, hs.keeps hk (fun x hx => by have := hF x hx; have := h.r0; have := hm j (by omega); omega)⟩
theorem KpsR.below {g : Nat} {w w' : World} {M : List KpI} {r : Nat → Nat} (h : KpsR g w M r) (hb : Below w.heap.size w w') : KpsR g w' M r := h.keeps (F := []) (KeepsL.of_below hb) (fun _ hx => by simp at hx)
set_option maxRecDepth 100000 in
set_option maxHeartbeats 4000000 in
theorem toKeeperS (a : Option Addr) (cap : Nat) (l : List KpI) (w : World) (hl : l.length ≤ 1048576) (hks : ∀ p ∈ l, KpSz p.1 1048576) (ha : KpsAt w a l) :
    Calls Try.prog 23 #[.slice a l.length cap] w fun e w' => e = .returned (.slice (some ⟨w.heap.size, 0, none⟩) l.length l.length) ∧ ∃ M : List KpI, M.map (fun x => x.1) = l.map (fun x => x.1) ∧ GR.Blk encK 63 w' w.heap.size M ∧ (∀ x ∈ M, KpIn (w.heap.size + 1) w' x.2 x.1) ∧ (∃ r, KpsR w.heap.size w' M r) ∧ Below w.heap.size w w' := by
  have hmk := makeKeeperW l.length (by omega)
  have HA := hide ha
  clear ha
  go_enter Try.func23, Try.ntmps23
  go_wp2_with fail
  go_loopw [4] (fun i wr => ∃ (k : Nat) (M : List KpI), k ≤ l.length ∧ i = .int .i64 k ∧ M.length = l.length ∧ (M.take k).map (fun x => x.1) = (l.take k).map (fun x => x.1) ∧ GR.Blk encK 63 wr w.heap.size M ∧ (∀ x ∈ M.take k, KpIn (w.heap.size + 1) wr x.2 x.1) ∧ w.heap.size < wr.heap.size ∧ Below w.heap.size w wr ∧ ∃ r : Nat → Nat, r 0 = w.heap.size + 1 ∧ (∀ j, j < k → r j ≤ r (j + 1)) ∧ r k ≤ wr.heap.size ∧ (∀ j, j ≤ k → w.heap.size < r j) ∧ ∀ j (hj : j < M.length), j < k → ∃ S g1 g2, KpS (r j) (r (j + 1)) wr M[j].2 M[j].1 S g1 g2) (fun i _ => l.length - (intOf i).toNat)
  case atStart => exact ⟨0, List.replicate l.length zeroK, Nat.zero_le _, rfl, by simp, rfl, by unfold GR.Blk; exact heap_alloc_new w _, fun x hx => by simp at hx, by simp, below_one' w _, fun _ => w.heap.size + 1, rfl, fun j hj => by omega, by simp, fun j _ => Nat.lt_succ_self _, fun j hj h => by omega⟩
  case round =>
    obtain ⟨k, M, hk, rfl, hML, hMm, hB, hin, hsz, hbel, r, hr0, hrup, hrk, hrl, hrs⟩ := hrel
    have HR0 := hide hr0
    have HRU := hide hrup
    have HRK := hide hrk
    have HRL := hide hrl
    have HRS := hide hrs
    clear hr0 hrup hrk hrl hrs
    have HB := hide hB
    have HBL := hide hbel
    have HIN := hide hin
    have HMM := hide hMm
    have HML := hide hML
    clear hB hbel hmk hin hMm hML
    by_cases hlt : k < l.length
    · obtain ⟨g, off, rfl, hgw, hrg⟩ := ((unhide HA).below (unhide HBL)).range k hlt
      have hkk := hks l[k] (List.getElem_mem hlt)
      have hat := ((unhide HA).below (unhide HBL)).each l[k] (List.getElem_mem hlt)
      have HT := hide (List.take_succ_eq_append_getElem hlt)
      generalize l[k] = pu at *
      have HTO := hide (toKeeperV pu wr hkk hat)
      have HRG := hide hrg
      have HI : Hid ((Try.prog.info? 94).map (·.size) = some (encK pu).length) := infoKL
      clear hkk hat hrg
      generalize encK pu = V0 at HTO HRG HI
      go_wp2_with (refine wpList_load_mid rfl 94 _ rfl g (off + k * 22) rfl V0 _ (unhide HRG) Try.underlying94 rfl (unhide HI) ?_)
      refine (unhide HTO).mono ?_
      rintro e w5 ⟨V, rfl, hVl, hV1, A5, hVe, hin5, ⟨S5, a5, b5, hs5⟩, hb5⟩
      have HRS5 : Hid (∀ j (hj : j < M.length), j < k → ∃ S g1 g2, KpS (r j) (r (j + 1)) w5 M[j].2 M[j].1 S g1 g2) := fun j hj hjk => by
        obtain ⟨S, g1, g2, h⟩ := unhide HRS j hj hjk
        exact ⟨S, g1, g2, h.keeps (F := []) (KeepsL.of_below hb5) (fun _ hx => by simp at hx)⟩
      have HS5 := hide (hs5.wide (unhide HRK) (Nat.le_refl _))
      have hsw : wr.heap.size ≤ w5.heap.size := hb5.size
      clear hs5
      have HB5 := hide (GR.Blk.stepW (unhide HB) hb5)
      have HBL5 := hide ((unhide HBL).trans (hb5.mono (unhide HBL).size))
      have HIN5 := hide (fun x hx => (unhide HIN x hx).below hb5)
      have HX5 := hide (hin5.lower (lo' := w.heap.size + 1) hsz)
      have hsz5 : w.heap.size < w5.heap.size := Nat.lt_of_lt_of_le hsz hb5.size
      have HTH : Hid (w5.there w.heap.size (k * 22) V.toArray.size) := by rw [show V.toArray.size = 22 from hVl]; exact blk_there (unhide HB5) k (by rw [unhide HML]; exact hlt)
      have HI2 : Hid ((Try.prog.info? 63).map (·.size) = some V.toArray.size) := by rw [show V.toArray.size = 22 from hVl]; exact infoKI
      have HONE : Hid (V.toArray.all (·.oneCell') = true) := all_oneCell_toArray hV1
      have HVE := hide hVe
      clear hb5 hin5 HRG HTO HI hVl hV1 hVe
      go_wp2_with (refine wpList_store_mid rfl 63 _ _ rfl w.heap.size (k * 22) V.toArray rfl rfl (unhide HTH) (unhide HI2) (unhide HONE) ?_)
      go_roundw
      case rel =>
        have hVe := unhide HVE
        rw [setCells_W, hVe]
        have h := GR.Blk.set (unhide HB5) encK_length k (by rw [unhide HML]; exact hlt) (pu.1, A5)
        have hkp : KeepsL [w.heap.size] w5 (GR.setW w5 w.heap.size (k * 22) (encK (pu.1, A5))) := setW_keeps _ _ _
        refine ⟨k + 1, M.set k (pu.1, A5), by omega, by go_num, by rw [List.length_set]; exact unhide HML, ?_, h, fun x hx => ?_, Nat.lt_of_lt_of_le hsz5 hkp.size, GR.setW_below (o := k * 22) (Nat.le_refl w.heap.size) (encK (pu.1, A5)) (unhide HBL5), (fun j => if j ≤ k then r j else w5.heap.size), ?_, fun j hj => ?_, ?_, fun j hj => ?_, fun j hj hjk => ?_⟩
        · rw [take_setK M _ k (by rw [unhide HML]; exact hlt), unhide HT, List.map_append, List.map_append, unhide HMM]
          rfl
        · rw [take_setK M _ k (by rw [unhide HML]; exact hlt)] at hx
          rcases List.mem_append.1 hx with hx | hx
          · exact (unhide HIN5 x hx).keeps hkp (fun y hy => by have := List.mem_singleton.1 hy; omega)
          · rw [List.mem_singleton] at hx
            subst hx
            exact (unhide HX5).keeps hkp (fun y hy => by have := List.mem_singleton.1 hy; omega)
        · simp only [Nat.zero_le, if_true]; exact unhide HR0
        · dsimp only
          by_cases e : j + 1 ≤ k
          · rw [if_pos (by omega), if_pos e]; exact unhide HRU j (by omega)
          · have ej : j = k := by omega
            subst ej
            rw [if_pos (Nat.le_refl _), if_neg e]
            exact Nat.le_trans (unhide HRK) hsw
        · dsimp only
          rw [if_neg (by omega)]; exact hkp.size
        · dsimp only
          by_cases e : j ≤ k
          · rw [if_pos e]; exact unhide HRL j e
          · rw [if_neg e]; exact hsz5
        · have hj' : j < M.length := by simpa using hj
          dsimp only
          by_cases e : j = k
          · subst e
            rw [if_pos (Nat.le_refl _), if_neg (by omega), List.getElem_set_self]
            exact ⟨S5, a5, b5, (unhide HS5).keeps hkp (fun y hy => by have := List.mem_singleton.1 hy; have := unhide HRL j (Nat.le_refl _); omega)⟩
          · rw [if_pos (by omega), if_pos (by omega), List.getElem_set_ne (by omega)]
            obtain ⟨S, g1, g2, h⟩ := unhide HRS5 j hj' (by omega)
            exact ⟨S, g1, g2, h.keeps hkp (fun y hy => by have := List.mem_singleton.1 hy; have := unhide HRL j (by omega); omega)⟩
      case measure => simp [intOf]; omega
    · have hke : k = l.length := by omega
      subst hke
      have hnlt : decide ((l.length : Int) < (l.length : Int)) = false := by simp
      go_wp2_with fail
      go_ret
      have h1 := unhide HMM
      have h2 := unhide HIN
      rw [List.take_length, ← unhide HML, List.take_length] at h1
      rw [← unhide HML, List.take_length] at h2
      exact ⟨rfl, M, h1, unhide HB, h2, ⟨r, by have := unhide HR0; omega, fun j hj => unhide HRU j (by rw [unhide HML] at hj; exact hj), by rw [unhide HML]; exact unhide HRK, fun j hj => unhide HRS j hj (by rw [unhide HML] at hj; exact hj)⟩, unhide HBL⟩

section
variable {P : Program} {ops : Array Oper} {Q : Exit → Act → World → Prop} {md : Region.Mode}
theorem rangeAt_below {w x : World} {b o : Nat} {cs : List Value} (h : w.rangeAt b o cs) (hb : b < w.heap.size) (hx : Ge w x) : x.rangeAt b o cs := fun j v hv => by
  rw [Below.cell (p := ⟨b, o + j, none⟩) hx hb]
  exact h j v hv
theorem wpMix_mid (i : Nat) {oi : Oper} {fuel : Nat} {listed : Array Bool} {a : Act} {w : World} (hi : ops[i]? = some oi) (hs : Region.noSelect ops = true) (hf : Region.free md ops listed i = true) (hr : (Region.ready md ops listed).contains i = true)
    (hQ : ∀ v c a w, Q (.panic c) (a.put oi.dst v) w → Q (.panic c) a w) (hw : Region.wanted oi (yielded ops a.tmps) = true)
    (ty : TypeId) (x : Operand) (ho : oi.op = .load ty x) (b o : Nat) (hx : a.eval x = .pointer (some ⟨b, o, none⟩)) (cs : List Value) (d : TypeDesc) (hc : w.rangeAt b o cs) (hb : b < w.heap.size)
    (hu : P.underlying ty = some d) (hd : d.isRow = true) (hz : (P.info? ty).map (·.size) = some cs.length)
    (h : wpMix P md ops Q fuel (listed.setIfInBounds i true) (a.put oi.dst (.agg cs.toArray)) w) : wpMix P md ops Q (fuel + 1) listed a w := by
  refine wpMix_first hi (Region.noSelect_spec hs) (hQ _) fuel listed a w (Region.free_spec hi hf) (by simpa using hr) (.inl ⟨hw, fun y hy => ?_⟩) h
  unfold execOp
  simp only [ho, hx, Instr.loadAt, Instr.sureAddr, Sem.run_bind, Sem.run_pure, Result.andThen_ok, run_loadVar_mid y b o ty cs d (rangeAt_below hc hb hy) hu hd hz]
  exact ⟨rfl, rfl⟩
end
end Go.Proofs.Ytgkimogaghgjaaa
