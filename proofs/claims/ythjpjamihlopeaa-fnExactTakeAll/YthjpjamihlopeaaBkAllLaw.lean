/-
  The law FnExactTakeAll: it returns true at every bucket and every asks.
-/
import Derived.Test.YthjpjamihlopeaaAskLoops
import Derived.Test.YthjpjamihlopeaaBoolLoops
import Derived.Test.YthjpjamihlopeaaBkLaws
namespace Go.Proofs.Ythjpjamihlopeaa
open Go.RowKit
open Mth

theorem implTakeAllW (b : Bk) (a : Option Addr) (cap : Nat) (l : List (Int × Int)) (w : World) (ha : AsksAt w a l) :
    Calls Try.prog 18 #[bkv b, .slice a l.length cap] w fun e w' => ∃ la lc g, e = .returned (.tuple #[bkv (b.takesU l).1, .slice la (b.takesU l).2.length lc]) ∧ RowW w' la g (b.takesU l).2 ∧ ((b.takesU l).2 = [] ∨ (w.heap.size ≤ g ∧ g < w'.heap.size)) ∧ Below w.heap.size w w' := by
  by_cases hl : l.length ≤ 300
  · rw [takesU_few hl]
    refine (implTakeAll b a cap l w hl ha).mono ?_
    rintro e w' ⟨g, rfl, hr, hg, hb⟩
    rw [takes_len]
    exact ⟨_, _, g, rfl, fun i hi => ⟨rfl, blk_lt hr, hr.cell i hi, hr.free i⟩, .inr ⟨hg, blk_lt hr⟩, hb⟩
  · rw [takesU_many hl]
    refine (implTakeAll_many b a l.length cap w (by omega)).mono ?_
    rintro e w' ⟨rfl, hb⟩
    exact ⟨none, 0, 0, rfl, fun i hi => by simp at hi, .inl rfl, hb⟩
theorem specTakeAllW (b : Bk) (a : Option Addr) (cap : Nat) (l : List (Int × Int)) (w : World) (ha : AsksAt w a l) :
    Calls Try.prog 19 #[bkv b, .slice a l.length cap] w fun e w' => ∃ la lc g, e = .returned (.tuple #[bkv (b.takesU l).1, .slice la (b.takesU l).2.length lc]) ∧ RowW w' la g (b.takesU l).2 ∧ ((b.takesU l).2 = [] ∨ (w.heap.size ≤ g ∧ g < w'.heap.size)) ∧ Below w.heap.size w w' := by
  by_cases hl : l.length ≤ 300
  · rw [takesU_few hl]
    refine (specTakeAll b a cap l w hl ha).mono ?_
    rintro e w' ⟨v, rfl, hr, hb⟩
    obtain ⟨la, lc, rfl, hR⟩ := rowB_own hr
    rcases hr.2 with ⟨_, hn⟩ | ⟨g, cap', cur, hv, hg, hblk, _⟩
    · have h0 : (b.takes l).2 = [] := List.eq_nil_of_length_eq_zero hn
      exact ⟨la, lc, 0, rfl, fun i hi => by rw [h0] at hi; simp at hi, .inl h0, hb⟩
    · refine ⟨la, lc, g, rfl, fun i hi => ?_, .inr ⟨hg, blk_lt hblk⟩, hb⟩
      obtain ⟨g', e1, h1, h2⟩ := hR i hi
      have e2 : la = some ⟨g, 0, none⟩ := by injection hv
      rw [e2] at e1
      have e3 : g = g' := by injection e1 with e1; injection e1
      subst e3
      refine ⟨e2, h1, h2, ?_⟩
      unfold World.frozen?
      rw [hblk]
      simp
  · rw [takesU_many hl]
    refine (specTakeAll_many b a l.length cap w (by omega)).mono ?_
    rintro e w' ⟨g, rfl, hb⟩
    exact ⟨_, 0, 0, rfl, fun i hi => by simp at hi, .inl rfl, hb⟩

/-- Where the walk of the law stands: the blocks that lie in memory. -/
structure EMid (w : World) (os : List (Nat × Obj)) (wr : World) : Prop where
  below : Below w.heap.size w wr
  obs : ∀ p ∈ os, wr.heap[p.1]? = some p.2
theorem EMid.step {w wr w' : World} {os : List (Nat × Obj)} (h : EMid w os wr) (hb : Below wr.heap.size wr w') : EMid w os w' :=
  ⟨h.below.trans (hb.mono h.below.size), fun p hp => blk_step (h.obs p hp) hb⟩
theorem EMid.add {w wr : World} {os : List (Nat × Obj)} (h : EMid w os wr) {g : Nat} {o : Obj} (ho : wr.heap[g]? = some o) : EMid w ((g, o) :: os) wr :=
  ⟨h.below, fun p hp => (List.mem_cons.1 hp).elim (fun e => by subst e; exact ho) (h.obs p)⟩
theorem EMid.new {w wr : World} {os : List (Nat × Obj)} (h : EMid w os wr) (o : Obj) : EMid w ((wr.heap.size, o) :: os) (wr.alloc o) := (h.step (below_one wr o)).add (heap_alloc_new wr o)
theorem EMid.keep {w wr w' : World} {os : List (Nat × Obj)} {g : Nat} (h : EMid w os wr) (hk : Keeps g wr w') (hg : w.heap.size ≤ g) (hne : ∀ p ∈ os, p.1 ≠ g) : EMid w os w' :=
  ⟨h.below.trans (hk.below hg h.below.size), fun p hp => by rw [hk.block p.1 (blk_lt (h.obs p hp)) (hne p hp)]; exact h.obs p hp⟩
theorem EMid.drop {w wr : World} {os : List (Nat × Obj)} {p : Nat × Obj} (h : EMid w (p :: os) wr) : EMid w os wr := ⟨h.below, fun q hq => h.obs q (List.mem_cons_of_mem _ hq)⟩
theorem RowW.keeps' {w w' : World} {a : Option Addr} {g g' : Nat} {xs : List Bool} (h : RowW w a g xs) (hk : Keeps g' w w') (hne : xs = [] ∨ g ≠ g') : RowW w' a g xs := by
  rcases hne with rfl | hne
  · intro i hi; simp at hi
  · exact h.keeps hk hne
/-- A row that is empty may be thought to lie anywhere. -/
theorem row_place {W : World} {a : Option Addr} {g lo : Nat} {xs : List Bool} (h : RowW W a g xs) (hb : xs = [] ∨ (lo ≤ g ∧ g < W.heap.size)) (hlo : lo ≤ W.heap.size) : ∃ g', RowW W a g' xs ∧ lo ≤ g' ∧ (xs = [] ∨ g' = g) ∧ (g' = W.heap.size ∨ g' = g ∧ xs ≠ []) := by
  by_cases hx : xs = []
  · subst hx
    exact ⟨W.heap.size, fun i hi => by simp at hi, hlo, .inl rfl, .inl rfl⟩
  · have := hb.resolve_left hx
    exact ⟨g, h, this.1, .inr rfl, .inr ⟨rfl, hx⟩⟩
abbrev bkl (b : Bk) : Obj := .cells #[.int .i64 b.S, .int .i64 b.R, .int .i64 b.P, .int .i64 b.H, .int .i64 b.T, .int .i64 b.L] 44 (0, 0)
abbrev asko (l : List (Int × Int)) : Obj := .cells (flat l).toArray 43 (0, 0)

set_option maxRecDepth 100000 in
set_option maxHeartbeats 8000000 in
theorem fnExactTakeAll_few (b : Bk) (a : Option Addr) (cap : Nat) (l : List (Int × Int)) (w : World) (hl : l.length ≤ 1048576) (ha : AsksAt w a l) : Calls Try.prog 9 #[bkv b, .slice a l.length cap] w fun e w' => e = .returned (.bool true) ∧ Below w.heap.size w w' := by
  have HA := hide ha
  have HTB := hide (fun w1 => toBucket b w1)
  have HTI := hide (fun a c w1 (h : AsksAt w1 a l) => implTakeAllW b a c l w1 h)
  have HTS := hide (fun a c w1 (h : AsksAt w1 a l) => specTakeAllW b a c l w1 h)
  have holn : (b.takesU l).2.length ≤ 1048576 := by
    by_cases h : l.length ≤ 300
    · rw [takesU_few h, takes_len]; omega
    · rw [takesU_many h]; simp
  generalize b.takesU l = CO at *
  obtain ⟨C, oks⟩ := CO
  have HEC := hide (fun w1 => eqBucket C w1)
  dsimp only at HTI HTS holn
  obtain ⟨S, R, P, H, T, L⟩ := b
  obtain ⟨C0, C1, C2, C3, C4, C5⟩ := C
  clear ha
  go_enter Try.func9, Try.ntmps9
  go_wp2_with fail
  refine (szAskS a l.length cap _ hl).mono ?_
  rintro e w1 ⟨⟨z, rfl, hz⟩, rfl⟩
  have hzn : decide (z < 0) = false := by simp; omega
  go_upto_region 5 with fail
  refine wp_at (fun W1 hW1 => ?_)
  have HE1 : Hid (EMid w [(w.heap.size, bkl ⟨S, R, P, H, T, L⟩)] W1) := by
    subst hW1
    exact EMid.new ⟨Below.refl _ _, fun p hp => by simp at hp⟩ _
  have hg1 : w.heap.size < W1.heap.size := blk_lt ((unhide HE1).obs (w.heap.size, bkl ⟨S, R, P, H, T, L⟩) (by simp))
  clear hW1
  obtain ⟨⟨b0, b1, b2, b3, b4, b5⟩, _⟩ := six_at ((unhide HE1).obs (w.heap.size, bkl ⟨S, R, P, H, T, L⟩) (by simp))
  try dsimp only at b0 b1 b2 b3 b4 b5
  go_wp2_with fail
  refine (unhide HTB _).mono ?_
  rintro e w2 ⟨rfl, hb2⟩
  have HE2 := hide ((unhide HE1).step hb2)
  clear hb2 HE1 b0 b1 b2 b3 b4 b5
  go_wp2_with fail
  refine (toAskS a cap l _ hl ((unhide HA).below (unhide HE2).below)).mono ?_
  rintro e w3 ⟨rfl, hA3, hb3⟩
  have HE3 := hide ((unhide HE2).step hb3)
  have HA3 := hide hA3
  clear hb3 hA3 HE2
  go_wp2_with fail
  refine (unhide HTS _ _ _ (unhide HA3).asks).mono ?_
  rintro e w4 ⟨ma, mc, gm, rfl, hRm, hgm, hb4⟩
  have HE4 := hide ((unhide HE3).step hb4)
  have HRm4 := hide hRm
  have hz34 := (unhide HE3).below.size
  clear hb4 hRm HE3 HA3
  go_upto_region 6 with fail
  refine wp_at (fun W5 hW5 => ?_)
  have HE5 : Hid (EMid w [(w4.heap.size, bko ⟨C0, C1, C2, C3, C4, C5⟩), (w.heap.size, bkl ⟨S, R, P, H, T, L⟩)] W5) := by
    subst hW5
    exact (unhide HE4).new _
  have HRm5 : Hid (RowW W5 ma gm oks) := by
    subst hW5
    exact (unhide HRm4).below (below_one w4 _)
  have hz5 : W5.heap.size = w4.heap.size + 1 := by rw [hW5]; simp
  have hm5 : oks = [] ∨ (w.heap.size ≤ gm ∧ gm < w4.heap.size) := hgm.imp id (fun h => ⟨by omega, h.2⟩)
  have HM5 := hide hm5
  have hw4 : w.heap.size < w4.heap.size := blk_lt ((unhide HE4).obs (w.heap.size, bkl ⟨S, R, P, H, T, L⟩) (by simp))
  clear hW5 HE4 HRm4 hgm hm5 hz34
  generalize w4.heap.size = gw at *
  go_wp2_with fail
  refine (toAskS a cap l _ hl ((unhide HA).below (unhide HE5).below)).mono ?_
  rintro e w6 ⟨rfl, hA6, hb6⟩
  have HE6 := hide (((unhide HE5).step hb6).add hA6)
  have HRm6 := hide ((unhide HRm5).below hb6)
  have hw6 : gw < W5.heap.size := by omega
  clear hb6 hA6 HE5 HRm5 hz5
  have hz6 := blk_lt ((unhide HE6).obs (W5.heap.size, asko l) (by simp))
  dsimp only at hz6
  generalize W5.heap.size = gx at *
  obtain ⟨⟨b0, b1, b2, b3, b4, b5⟩, _⟩ := six_at ((unhide HE6).obs (w.heap.size, bkl ⟨S, R, P, H, T, L⟩) (by simp))
  try dsimp only at b0 b1 b2 b3 b4 b5
  go_wp2_with fail
  refine (unhide HTB _).mono ?_
  rintro e w7 ⟨rfl, hb7⟩
  have HE7 := hide ((unhide HE6).step hb7)
  have HRm7 := hide ((unhide HRm6).below hb7)
  have hz7 := hb7.size
  clear hb7 HE6 HRm6 b0 b1 b2 b3 b4 b5
  go_wp2_with fail
  refine (unhide HTI _ _ _ (show askBlock w7 gx l from (unhide HE7).obs (gx, asko l) (by simp)).asks).mono ?_
  rintro e w8 ⟨la, lc, gi, rfl, hRi, hgi, hb8⟩
  have HE8 := hide ((unhide HE7).step hb8)
  have HRm8 := hide ((unhide HRm7).below hb8)
  have HRi8 := hide hRi
  have hz8 := hb8.size
  clear hb8 hRi HE7 HRm7
  go_upto_region 8 with fail
  refine wp_at (fun W9 hW9 => ?_)
  have HE9 : Hid (EMid w [(w8.heap.size, bko ⟨C0, C1, C2, C3, C4, C5⟩), (gx, asko l), (gw, bko ⟨C0, C1, C2, C3, C4, C5⟩), (w.heap.size, bkl ⟨S, R, P, H, T, L⟩)] W9) := by
    subst hW9
    exact (unhide HE8).new _
  have HRm9 : Hid (RowW W9 ma gm oks) := by
    subst hW9
    exact (unhide HRm8).below (below_one w8 _)
  have HRi9 : Hid (RowW W9 la gi oks) := by
    subst hW9
    exact (unhide HRi8).below (below_one w8 _)
  have hi9 : oks = [] ∨ (gx < gi ∧ gi < w8.heap.size) := hgi.imp id (fun h => ⟨by omega, h.2⟩)
  have HI9 := hide hi9
  have hg8 : gx < w8.heap.size := by omega
  clear hW9 HE8 HRm8 HRi8 hgi hi9
  generalize w8.heap.size = gg at *
  obtain ⟨⟨c0, c1, c2, c3, c4, c5⟩, _⟩ := six_at ((unhide HE9).obs (gg, bko ⟨C0, C1, C2, C3, C4, C5⟩) (by simp))
  try dsimp only at c0 c1 c2 c3 c4 c5
  obtain ⟨⟨v0, v1, v2, v3, v4, v5⟩, _⟩ := six_at ((unhide HE9).obs (gw, bko ⟨C0, C1, C2, C3, C4, C5⟩) (by simp))
  try dsimp only at v0 v1 v2 v3 v4 v5
  go_wp2_with fail
  refine (unhide HEC _).mono ?_
  rintro e wa ⟨rfl, hba⟩
  have HEa := hide ((unhide HE9).step hba)
  have HRma := hide ((unhide HRm9).below hba)
  have HRia := hide ((unhide HRi9).below hba)
  clear hba HE9 HRm9 HRi9
  clear c0 c1 c2 c3 c4 c5 v0 v1 v2 v3 v4 v5
  go_wp2_with fail
  refine (eqBoolS la ma lc mc oks _ holn (unhide HRia).rowB (unhide HRma).rowB).mono ?_
  rintro e wb ⟨rfl, hbb⟩
  have HEb := hide ((unhide HEa).step hbb)
  have HRmb := hide ((unhide HRma).below hbb)
  have HRib := hide ((unhide HRia).below hbb)
  clear hbb HEa HRma HRia
  go_wp2_with fail
  refine (toAskS a cap l _ hl ((unhide HA).below (unhide HEb).below)).mono ?_
  rintro e wc ⟨rfl, hAc, hbc⟩
  have HEc := hide ((unhide HEb).step hbc)
  have HRmc := hide ((unhide HRmb).below hbc)
  have HRic := hide ((unhide HRib).below hbc)
  have HAc := hide hAc
  clear hbc hAc HEb HRmb HRib
  go_wp2_with fail
  refine (eqAskS gx wb.heap.size l.length l.length l _ hl ((unhide HEc).obs (gx, asko l) (by simp)) (unhide HAc)).mono ?_
  rintro e wd ⟨rfl, hbd⟩
  have HEd := hide ((unhide HEc).step hbd)
  have HRmd := hide ((unhide HRmc).below hbd)
  have HRid := hide ((unhide HRic).below hbd)
  clear hbd HEc HRmc HRic HAc
  go_wp2_with fail
  refine (markAskS gx l.length l _ hl ((unhide HEd).obs (gx, asko l) (by simp))).mono ?_
  rintro e we ⟨rfl, hke⟩
  have HEe : Hid (EMid w [(gg, bko ⟨C0, C1, C2, C3, C4, C5⟩), (gw, bko ⟨C0, C1, C2, C3, C4, C5⟩), (w.heap.size, bkl ⟨S, R, P, H, T, L⟩)] we) := by
    have h0 : EMid w [(gg, bko ⟨C0, C1, C2, C3, C4, C5⟩), (gw, bko ⟨C0, C1, C2, C3, C4, C5⟩), (w.heap.size, bkl ⟨S, R, P, H, T, L⟩)] wd := ⟨(unhide HEd).below, fun p hp => (unhide HEd).obs p (by simp at hp ⊢; rcases hp with h | h | h <;> simp [h])⟩
    exact h0.keep hke (by omega) (fun p hp => by simp at hp; rcases hp with h | h | h <;> (subst h; dsimp only; omega))
  have HRme := hide ((unhide HRmd).keeps' hke ((unhide HM5).imp id (fun h => by omega)))
  have HRie := hide ((unhide HRid).keeps' hke ((unhide HI9).imp id (fun h => by omega)))
  clear hke HEd HRmd HRid
  obtain ⟨⟨c0, c1, c2, c3, c4, c5⟩, _⟩ := six_at ((unhide HEe).obs (gg, bko ⟨C0, C1, C2, C3, C4, C5⟩) (by simp))
  try dsimp only at c0 c1 c2 c3 c4 c5
  obtain ⟨⟨v0, v1, v2, v3, v4, v5⟩, _⟩ := six_at ((unhide HEe).obs (gw, bko ⟨C0, C1, C2, C3, C4, C5⟩) (by simp))
  try dsimp only at v0 v1 v2 v3 v4 v5
  have hkn : decide ((1 + 2 * (l.length : Int)) < 0) = false := by simp; omega
  go_wp2_with fail
  refine (unhide HEC _).mono ?_
  rintro e wf ⟨rfl, hbf⟩
  have HEf := hide ((unhide HEe).step hbf)
  have HRmf := hide ((unhide HRme).below hbf)
  have HRif := hide ((unhide HRie).below hbf)
  clear hbf HEe HRme HRie
  clear c0 c1 c2 c3 c4 c5 v0 v1 v2 v3 v4 v5
  go_wp2_with fail
  refine (eqBoolS la ma lc mc oks _ holn (unhide HRif).rowB (unhide HRmf).rowB).mono ?_
  rintro e wg ⟨rfl, hbg⟩
  have HEg := hide ((unhide HEf).step hbg)
  have HRmg := hide ((unhide HRmf).below hbg)
  have HRig := hide ((unhide HRif).below hbg)
  clear hbg HEf HRmf HRif
  have hgg := blk_lt ((unhide HEg).obs (gg, bko ⟨C0, C1, C2, C3, C4, C5⟩) (by simp))
  dsimp only at hgg
  obtain ⟨gj, hRj, hj1, hj2, hj3⟩ := row_place (lo := w.heap.size) (unhide HRig) ((unhide HI9).imp id (fun h => by omega)) (unhide HEg).below.size
  have HRj := hide hRj
  have hjx : gx < gj ∧ gj ≠ gg := by
    rcases hj3 with h | ⟨h, h2⟩
    · omega
    · have := (unhide HI9).resolve_left h2
      omega
  have hjm : oks = [] ∨ gm ≠ gj := by
    rcases unhide HM5 with h | h
    · exact .inl h
    · exact .inr (by omega)
  clear hRj hj2 hj3 HRig HI9
  go_wp2_with fail
  refine (markBoolS la gj lc oks _ holn (unhide HRj)).mono ?_
  rintro e wh ⟨rfl, hRh, hkh⟩
  have HEh := hide ((unhide HEg).keep hkh hj1 (fun p hp => by simp at hp; rcases hp with h | h | h <;> (subst h; dsimp only; omega)))
  have HRmh := hide ((unhide HRmg).keeps' hkh hjm)
  have HRh := hide hRh
  clear hRh hkh HEg HRmg HRj
  go_wp2_with fail
  refine (heldBoolS la gj lc oks.length oks _ rfl holn (unhide HRh)).mono ?_
  rintro e wi ⟨rfl, rfl⟩
  have hqn : decide ((1 + (oks.length : Int)) < 0) = false := by simp; omega
  obtain ⟨⟨b0, b1, b2, b3, b4, b5⟩, _⟩ := six_at ((unhide HEh).obs (w.heap.size, bkl ⟨S, R, P, H, T, L⟩) (by simp))
  try dsimp only at b0 b1 b2 b3 b4 b5
  go_wp2_with fail
  refine (unhide HTB _).mono ?_
  rintro e wj ⟨rfl, hbj⟩
  have HEj := hide ((unhide HEh).step hbj)
  have HRmj := hide ((unhide HRmh).below hbj)
  have HRhj := hide ((unhide HRh).below hbj)
  clear hbj HEh HRmh HRh b0 b1 b2 b3 b4 b5
  go_wp2_with fail
  refine (toAskS a cap l _ hl ((unhide HA).below (unhide HEj).below)).mono ?_
  rintro e wk ⟨rfl, hAk, hbk⟩
  have HEk := hide ((unhide HEj).step hbk)
  have HRmk := hide ((unhide HRmj).below hbk)
  have HRhk := hide ((unhide HRhj).below hbk)
  have HAk := hide hAk
  clear hbk hAk HEj HRmj HRhj
  go_wp2_with fail
  refine (unhide HTI _ _ _ (unhide HAk).asks).mono ?_
  rintro e wl ⟨ha', hc', gh, rfl, hRl, _, hbl⟩
  have HEl := hide ((unhide HEk).step hbl)
  have HRml := hide ((unhide HRmk).below hbl)
  have HRhl := hide ((unhide HRhk).below hbl)
  have HRl := hide hRl
  clear hbl hRl HEk HRmk HRhk HAk
  go_upto_region 25 with fail
  refine wp_at (fun WM hWM => ?_)
  have HEM : Hid (EMid w [(wl.heap.size, bko ⟨C0, C1, C2, C3, C4, C5⟩), (gg, bko ⟨C0, C1, C2, C3, C4, C5⟩), (gw, bko ⟨C0, C1, C2, C3, C4, C5⟩), (w.heap.size, bkl ⟨S, R, P, H, T, L⟩)] WM) := by
    subst hWM
    exact (unhide HEl).new _
  have HRmM : Hid (RowW WM ma gm oks) := by
    subst hWM
    exact (unhide HRml).below (below_one wl _)
  have HRhM : Hid (RowW WM la gj (marksB oks oks.length)) := by
    subst hWM
    exact (unhide HRhl).below (below_one wl _)
  have HRM : Hid (RowW WM ha' gh oks) := by
    subst hWM
    exact (unhide HRl).below (below_one wl _)
  clear hWM HEl HRml HRhl HRl
  generalize wl.heap.size = gz at *
  obtain ⟨⟨c0, c1, c2, c3, c4, c5⟩, _⟩ := six_at ((unhide HEM).obs (gz, bko ⟨C0, C1, C2, C3, C4, C5⟩) (by simp))
  try dsimp only at c0 c1 c2 c3 c4 c5
  obtain ⟨⟨v0, v1, v2, v3, v4, v5⟩, _⟩ := six_at ((unhide HEM).obs (gw, bko ⟨C0, C1, C2, C3, C4, C5⟩) (by simp))
  try dsimp only at v0 v1 v2 v3 v4 v5
  go_wp2_with fail
  refine (unhide HEC _).mono ?_
  rintro e wn ⟨rfl, hbn⟩
  have HEn := hide ((unhide HEM).step hbn)
  have HRmn := hide ((unhide HRmM).below hbn)
  have HRhn := hide ((unhide HRhM).below hbn)
  have HRn := hide ((unhide HRM).below hbn)
  clear hbn HEM HRmM HRhM HRM
  clear c0 c1 c2 c3 c4 c5 v0 v1 v2 v3 v4 v5
  go_wp2_with fail
  refine (eqBoolS ha' ma hc' mc oks _ holn (unhide HRn).rowB (unhide HRmn).rowB).mono ?_
  rintro e wo ⟨rfl, hbo⟩
  have HEo := hide ((unhide HEn).step hbo)
  have HRho := hide ((unhide HRhn).below hbo)
  clear hbo HEn HRmn HRhn HRn
  go_wp2_with fail
  refine (heldBoolS la gj lc oks.length oks _ rfl holn (unhide HRho)).mono ?_
  rintro e wp ⟨rfl, rfl⟩
  go_wp2_with fail
  go_ret
  exact ⟨rfl, (unhide HEo).below⟩
set_option maxRecDepth 100000 in
theorem fnExactTakeAll_many (b : Bk) (a : Option Addr) (len cap : Nat) (w : World) (hl : 1048576 < len) (hm : len ≤ maxLen) : Calls Try.prog 9 #[bkv b, .slice a len cap] w fun e w' => e = .returned (.bool true) ∧ Below w.heap.size w w' := by
  obtain ⟨S, R, P, H, T, L⟩ := b
  go_enter Try.func9, Try.ntmps9
  go_wp2_with (go_at_call 28; refine (szAskS_many a len cap _ hl hm).mono ?_; rintro e w1 ⟨rfl, rfl⟩)
  go_ret
  exact ⟨rfl, below_one w _⟩
end Go.Proofs.Ythjpjamihlopeaa
