/- Parts. -/
import Derived.Test.YtgkimogaghgjaaaPk16
import Derived.Deep.MidRow
namespace Go.Proofs.Ytgkimogaghgjaaa
open Go.RowKit
open Mth

theorem setCells_W : ∀ (vs : List Value) (w : World) (g o : Nat), w.setCells g o vs = GR.setW w g o vs := by
  intro vs
  induction vs with
  | nil => intro w g o; rfl
  | cons v vs ih => intro w g o; exact ih _ _ _
theorem setRun_all : ∀ (vs pre xs : List Value), xs.length = vs.length → GR.setRun (pre ++ xs) pre.length vs = pre ++ vs := by
  intro vs
  induction vs with
  | nil => intro pre xs h; rw [List.eq_nil_of_length_eq_zero h]; rfl
  | cons v vs ih =>
    intro pre xs h
    cases xs with
    | nil => simp at h
    | cons x xs =>
      show GR.setRun ((pre ++ x :: xs).set pre.length v) (pre.length + 1) vs = pre ++ v :: vs
      have e : (pre ++ x :: xs).set pre.length v = (pre ++ [v]) ++ xs := by simp
      have h2 := ih (pre ++ [v]) xs (by simpa using h)
      rw [e]
      simpa using h2
theorem setW_all {w : World} {g : Nat} {t : TypeId} (vs xs : List Value) (hl : xs.length = vs.length) (h : w.heap[g]? = some (.cells xs.toArray t (0, 0))) : (GR.setW w g 0 vs).heap[g]? = some (.cells vs.toArray t (0, 0)) := by
  have h1 := GR.setW_blk vs (o := 0) h
  have h2 := setRun_all vs [] xs hl
  simp only [List.nil_append, List.length_nil] at h2
  rw [h2] at h1
  exact h1
theorem range_blk {w : World} {g : Nat} {cs : List Value} {t : TypeId} (h : w.heap[g]? = some (.cells cs.toArray t (0, 0))) : w.rangeAt g 0 cs := fun j v hv => by
  rw [Nat.zero_add, cell_of_row w g j _ t (0, 0) h]
  simpa using hv
theorem there_blk {w : World} {g n : Nat} {cs : List Value} {t : TypeId} (h : w.heap[g]? = some (.cells cs.toArray t (0, 0))) (hn : n = cs.length := by rfl) : w.there g 0 n := fun j hj => by
  rw [Nat.zero_add]
  refine ⟨?_, obj_free h j⟩
  rw [cell_of_row w g j _ t (0, 0) h]
  simp
  omega
/-- In memory that lies at lo or above: whatever is written below it. -/
def KpIn (lo : Nat) (w : World) (A : KA) (k : Kp) : Prop := ∀ w' F, KeepsL F w w' → (∀ x ∈ F, x < lo) → KpAt w' A k
theorem KpIn.at {lo : Nat} {w : World} {A : KA} {k : Kp} (h : KpIn lo w A k) : KpAt w A k := h w [] (KeepsL.refl _ _) (fun _ hx => by simp at hx)
theorem KpIn.keeps {lo : Nat} {w w' : World} {A : KA} {k : Kp} {F : List Nat} (h : KpIn lo w A k) (hk : KeepsL F w w') (hF : ∀ x ∈ F, x < lo) : KpIn lo w' A k := fun w'' F' hk' hF' =>
  h w'' (F ++ F') ((hk.mono (fun _ hx => List.mem_append_left _ hx)).trans (hk'.mono (fun _ hx => List.mem_append_right _ hx))) (fun x hx => (List.mem_append.1 hx).elim (hF x) (hF' x))
theorem KpIn.below {lo : Nat} {w w' : World} {A : KA} {k : Kp} (h : KpIn lo w A k) (hb : Below w.heap.size w w') : KpIn lo w' A k := h.keeps (F := []) (KeepsL.of_below hb) (fun _ hx => by simp at hx)
theorem KpIn.lower {lo lo' : Nat} {w : World} {A : KA} {k : Kp} (h : KpIn lo w A k) (hl : lo' ≤ lo) : KpIn lo' w A k := fun w' F hk hF => h w' F hk (fun x hx => Nat.lt_of_lt_of_le (hF x hx) hl)
theorem KpIn.of {lo x y : Nat} {w : World} {A1 A2 : Ads} {G1 G2 : Blks} {k : Kp} (h1 : NodeW w A1 G1 k.base) (r1 : ∀ x ∈ G1.all k.base, lo ≤ x) (h2 : NodeW w A2 G2 k.node) (r2 : ∀ x ∈ G2.all k.node, lo ≤ x) (h3 : GR.Blk encMg 106 w x k.wait) (hx : lo ≤ x) (h4 : GR.Blk encAn 110 w y k.asked) (hy : lo ≤ y) : KpIn lo w ⟨A1, A2, some ⟨x, 0, none⟩, k.wait.length, some ⟨y, 0, none⟩, k.asked.length⟩ k := fun w' F hk hF =>
  ⟨(h1.keeps hk (fun z hz hm => by have := r1 z hz; have := hF z hm; omega)).at, (h2.keeps hk (fun z hz hm => by have := r2 z hz; have := hF z hm; omega)).at, GR.Blk.at (show GR.Blk encMg 106 w' x k.wait from hk.obj h3 (fun hm => by have := hF x hm; omega)) encMg_length, GR.Blk.at (show GR.Blk encAn 110 w' y k.asked from hk.obj h4 (fun hm => by have := hF y hm; omega)) encAn_length⟩
set_option maxRecDepth 100000 in
set_option maxHeartbeats 8000000 in
theorem toKeeper (k : Kp) (A : KA) (w : World) (hz : KpSz k 1048576) (ha : KpAt w A k) :
    Calls Try.prog 44 #[kpv k A] w fun e w' => ∃ A', e = .returned (kpv k A') ∧ KpIn w.heap.size w' A' k ∧ (∃ S g1 g2, KpS w.heap.size w'.heap.size w' A' k S g1 g2) ∧ Below w.heap.size w w' := by
  have H1 := hide (fun w1 (h : Below w.heap.size w w1) => toNode k.base A.b w1 hz.b (ha.below h).kb)
  have H2 := hide (fun w1 (h : Below w.heap.size w w1) => toNode k.node A.n w1 hz.n (ha.below h).kn)
  have H3 := hide (fun w1 (h : Below w.heap.size w w1) => toMsgS A.wa A.wc k.wait w1 hz.w (ha.below h).kw)
  have H4 := hide (fun w1 (h : Below w.heap.size w w1) => toAnswerS A.aa A.ac k.asked w1 hz.a (ha.below h).ka)
  clear ha hz
  obtain ⟨B0, N0, lg, sf, wt, sk⟩ := k
  obtain ⟨AB, AN, wa, wc, aa, ac⟩ := A
  dsimp only at H1 H2 H3 H4 ⊢
  obtain ⟨hP0, hR0, hO0, hB0⟩ := allocsL3 w (.cells #[.int .i64 B0.id, .int .i64 B0.par, .slice AB.k B0.kids.length AB.ck, .int .i64 B0.next, .slice AB.p B0.pu.length AB.cp, .slice AB.o B0.out.length AB.co, .slice AB.s B0.seen.length AB.cs, .int .i64 B0.old, .slice AB.r B0.reqs.length AB.cr, .int .i64 N0.id, .int .i64 N0.par, .slice AN.k N0.kids.length AN.ck, .int .i64 N0.next, .slice AN.p N0.pu.length AN.cp, .slice AN.o N0.out.length AN.co, .slice AN.s N0.seen.length AN.cs, .int .i64 N0.old, .slice AN.r N0.reqs.length AN.cr, .string lg, .int .i64 sf, .slice wa wt.length wc, .slice aa sk.length ac] 94) (.cells #[.int .i64 0, .int .i64 0, .slice none 0 0, .int .i64 0, .slice none 0 0, .slice none 0 0, .slice none 0 0, .int .i64 0, .slice none 0 0, .int .i64 0, .int .i64 0, .slice none 0 0, .int .i64 0, .slice none 0 0, .slice none 0 0, .slice none 0 0, .int .i64 0, .slice none 0 0, .string ⟨#[]⟩, .int .i64 0, .slice none 0 0, .slice none 0 0] 63) (.cells #[.int .i64 0, .int .i64 0, .slice none 0 0, .int .i64 0, .slice none 0 0, .slice none 0 0, .slice none 0 0, .int .i64 0, .slice none 0 0, .int .i64 0, .int .i64 0, .slice none 0 0, .int .i64 0, .slice none 0 0, .slice none 0 0, .slice none 0 0, .int .i64 0, .slice none 0 0, .string ⟨#[]⟩, .int .i64 0, .slice none 0 0, .slice none 0 0] 63)
  have hS0 : (((w.alloc (.cells #[.int .i64 B0.id, .int .i64 B0.par, .slice AB.k B0.kids.length AB.ck, .int .i64 B0.next, .slice AB.p B0.pu.length AB.cp, .slice AB.o B0.out.length AB.co, .slice AB.s B0.seen.length AB.cs, .int .i64 B0.old, .slice AB.r B0.reqs.length AB.cr, .int .i64 N0.id, .int .i64 N0.par, .slice AN.k N0.kids.length AN.ck, .int .i64 N0.next, .slice AN.p N0.pu.length AN.cp, .slice AN.o N0.out.length AN.co, .slice AN.s N0.seen.length AN.cs, .int .i64 N0.old, .slice AN.r N0.reqs.length AN.cr, .string lg, .int .i64 sf, .slice wa wt.length wc, .slice aa sk.length ac] 94)).alloc (.cells #[.int .i64 0, .int .i64 0, .slice none 0 0, .int .i64 0, .slice none 0 0, .slice none 0 0, .slice none 0 0, .int .i64 0, .slice none 0 0, .int .i64 0, .int .i64 0, .slice none 0 0, .int .i64 0, .slice none 0 0, .slice none 0 0, .slice none 0 0, .int .i64 0, .slice none 0 0, .string ⟨#[]⟩, .int .i64 0, .slice none 0 0, .slice none 0 0] 63)).alloc (.cells #[.int .i64 0, .int .i64 0, .slice none 0 0, .int .i64 0, .slice none 0 0, .slice none 0 0, .slice none 0 0, .int .i64 0, .slice none 0 0, .int .i64 0, .int .i64 0, .slice none 0 0, .int .i64 0, .slice none 0 0, .slice none 0 0, .slice none 0 0, .int .i64 0, .slice none 0 0, .string ⟨#[]⟩, .int .i64 0, .slice none 0 0, .slice none 0 0] 63)).heap.size = w.heap.size + 3 := by simp
  go_enter Try.func44, Try.ntmps44
  go_upto_region 2 with fail
  generalize ((w.alloc (.cells #[.int .i64 B0.id, .int .i64 B0.par, .slice AB.k B0.kids.length AB.ck, .int .i64 B0.next, .slice AB.p B0.pu.length AB.cp, .slice AB.o B0.out.length AB.co, .slice AB.s B0.seen.length AB.cs, .int .i64 B0.old, .slice AB.r B0.reqs.length AB.cr, .int .i64 N0.id, .int .i64 N0.par, .slice AN.k N0.kids.length AN.ck, .int .i64 N0.next, .slice AN.p N0.pu.length AN.cp, .slice AN.o N0.out.length AN.co, .slice AN.s N0.seen.length AN.cs, .int .i64 N0.old, .slice AN.r N0.reqs.length AN.cr, .string lg, .int .i64 sf, .slice wa wt.length wc, .slice aa sk.length ac] 94)).alloc (.cells #[.int .i64 0, .int .i64 0, .slice none 0 0, .int .i64 0, .slice none 0 0, .slice none 0 0, .slice none 0 0, .int .i64 0, .slice none 0 0, .int .i64 0, .int .i64 0, .slice none 0 0, .int .i64 0, .slice none 0 0, .slice none 0 0, .slice none 0 0, .int .i64 0, .slice none 0 0, .string ⟨#[]⟩, .int .i64 0, .slice none 0 0, .slice none 0 0] 63)).alloc (.cells #[.int .i64 0, .int .i64 0, .slice none 0 0, .int .i64 0, .slice none 0 0, .slice none 0 0, .slice none 0 0, .int .i64 0, .slice none 0 0, .int .i64 0, .int .i64 0, .slice none 0 0, .int .i64 0, .slice none 0 0, .slice none 0 0, .slice none 0 0, .int .i64 0, .slice none 0 0, .string ⟨#[]⟩, .int .i64 0, .slice none 0 0, .slice none 0 0] 63) = W0 at *
  have HP0 := hide hP0
  have HR0 := hide hR0
  have HO0 := hide hO0
  have HB0 := hide hB0
  have hs0 : w.heap.size + 3 ≤ W0.heap.size := Nat.le_of_eq hS0.symm
  clear hP0 hR0 hO0 hB0 hS0
  have p0 : W0.cell? ⟨w.heap.size, 0, none⟩ = some (.int .i64 B0.id) := cell_of_row _ _ 0 _ _ _ (unhide HP0)
  have p1 : W0.cell? ⟨w.heap.size, 1, none⟩ = some (.int .i64 B0.par) := cell_of_row _ _ 1 _ _ _ (unhide HP0)
  have p2 : W0.cell? ⟨w.heap.size, 2, none⟩ = some (.slice AB.k B0.kids.length AB.ck) := cell_of_row _ _ 2 _ _ _ (unhide HP0)
  have p3 : W0.cell? ⟨w.heap.size, 3, none⟩ = some (.int .i64 B0.next) := cell_of_row _ _ 3 _ _ _ (unhide HP0)
  have p4 : W0.cell? ⟨w.heap.size, 4, none⟩ = some (.slice AB.p B0.pu.length AB.cp) := cell_of_row _ _ 4 _ _ _ (unhide HP0)
  have p5 : W0.cell? ⟨w.heap.size, 5, none⟩ = some (.slice AB.o B0.out.length AB.co) := cell_of_row _ _ 5 _ _ _ (unhide HP0)
  have p6 : W0.cell? ⟨w.heap.size, 6, none⟩ = some (.slice AB.s B0.seen.length AB.cs) := cell_of_row _ _ 6 _ _ _ (unhide HP0)
  have p7 : W0.cell? ⟨w.heap.size, 7, none⟩ = some (.int .i64 B0.old) := cell_of_row _ _ 7 _ _ _ (unhide HP0)
  have p8 : W0.cell? ⟨w.heap.size, 8, none⟩ = some (.slice AB.r B0.reqs.length AB.cr) := cell_of_row _ _ 8 _ _ _ (unhide HP0)
  have hpl := obj_lt (unhide HP0)
  go_wp2_with fail
  refine (unhide H1 W0 (unhide HB0)).mono ?_
  rintro e v0 ⟨A1, rfl, G1, hf_N1, hsep, hb⟩
  have HG1 : Hid (∀ x ∈ G1.all B0, w.heap.size + 3 ≤ x) := fun x hx => by have := (hsep.rng x hx).1; omega
  have hf_Z1 : ∀ x ∈ G1.all B0, x < v0.heap.size := fun x hx => (hsep.rng x hx).2
  have HSP1 := hide hsep.nodup
  clear hsep
  have HP0a := hide (obj_step (unhide HP0) hb)
  have HR0a := hide (obj_step (unhide HR0) hb)
  have HO0a := hide (obj_step (unhide HO0) hb)
  have HB0a := hide ((unhide HB0).trans (hb.mono (unhide HB0).size))
  have hs0a : w.heap.size + 3 ≤ v0.heap.size := Nat.le_trans hs0 hb.size
  have N1_0a := hide hf_N1
  have Z1_0a := hide hf_Z1
  clear hf_N1
  clear hf_Z1
  clear hb hpl p0 p1 p2 p3 p4 p5 p6 p7 p8 HP0 HR0 HO0 HB0 hs0
  have o0 : v0.cell? ⟨w.heap.size + 1 + 1, 0, none⟩ = some (.int .i64 0) := cell_of_row _ _ 0 _ _ _ (unhide HO0a)
  have o1 : v0.cell? ⟨w.heap.size + 1 + 1, 1, none⟩ = some (.int .i64 0) := cell_of_row _ _ 1 _ _ _ (unhide HO0a)
  have o2 : v0.cell? ⟨w.heap.size + 1 + 1, 2, none⟩ = some (.slice none 0 0) := cell_of_row _ _ 2 _ _ _ (unhide HO0a)
  have o3 : v0.cell? ⟨w.heap.size + 1 + 1, 3, none⟩ = some (.int .i64 0) := cell_of_row _ _ 3 _ _ _ (unhide HO0a)
  have o4 : v0.cell? ⟨w.heap.size + 1 + 1, 4, none⟩ = some (.slice none 0 0) := cell_of_row _ _ 4 _ _ _ (unhide HO0a)
  have o5 : v0.cell? ⟨w.heap.size + 1 + 1, 5, none⟩ = some (.slice none 0 0) := cell_of_row _ _ 5 _ _ _ (unhide HO0a)
  have o6 : v0.cell? ⟨w.heap.size + 1 + 1, 6, none⟩ = some (.slice none 0 0) := cell_of_row _ _ 6 _ _ _ (unhide HO0a)
  have o7 : v0.cell? ⟨w.heap.size + 1 + 1, 7, none⟩ = some (.int .i64 0) := cell_of_row _ _ 7 _ _ _ (unhide HO0a)
  have o8 : v0.cell? ⟨w.heap.size + 1 + 1, 8, none⟩ = some (.slice none 0 0) := cell_of_row _ _ 8 _ _ _ (unhide HO0a)
  have f0 := obj_free (unhide HO0a) 0
  have f1 := obj_free (unhide HO0a) 1
  have f2 := obj_free (unhide HO0a) 2
  have f3 := obj_free (unhide HO0a) 3
  have f4 := obj_free (unhide HO0a) 4
  have f5 := obj_free (unhide HO0a) 5
  have f6 := obj_free (unhide HO0a) 6
  have f7 := obj_free (unhide HO0a) 7
  have f8 := obj_free (unhide HO0a) 8
  go_upto_region 3 with fail
  refine wp_at (fun W1 hW => ?_)
  have hk : KeepsL [w.heap.size + 1 + 1] v0 W1 := by rw [hW]; exact setW_keeps [.int .i64 B0.id, .int .i64 B0.par, .slice A1.k B0.kids.length A1.ck, .int .i64 B0.next, .slice A1.p B0.pu.length A1.cp, .slice A1.o B0.out.length A1.co, .slice A1.s B0.seen.length A1.cs, .int .i64 B0.old, .slice A1.r B0.reqs.length A1.cr] v0 0
  have HO1 : Hid (W1.heap[w.heap.size + 1 + 1]? = some (.cells #[.int .i64 B0.id, .int .i64 B0.par, .slice A1.k B0.kids.length A1.ck, .int .i64 B0.next, .slice A1.p B0.pu.length A1.cp, .slice A1.o B0.out.length A1.co, .slice A1.s B0.seen.length A1.cs, .int .i64 B0.old, .slice A1.r B0.reqs.length A1.cr, .int .i64 0, .int .i64 0, .slice none 0 0, .int .i64 0, .slice none 0 0, .slice none 0 0, .slice none 0 0, .int .i64 0, .slice none 0 0, .string ⟨#[]⟩, .int .i64 0, .slice none 0 0, .slice none 0 0] 63 (0, 0))) := by rw [hW]; exact GR.setW_blk [.int .i64 B0.id, .int .i64 B0.par, .slice A1.k B0.kids.length A1.ck, .int .i64 B0.next, .slice A1.p B0.pu.length A1.cp, .slice A1.o B0.out.length A1.co, .slice A1.s B0.seen.length A1.cs, .int .i64 B0.old, .slice A1.r B0.reqs.length A1.cr] (o := 0) (xs := [.int .i64 0, .int .i64 0, .slice none 0 0, .int .i64 0, .slice none 0 0, .slice none 0 0, .slice none 0 0, .int .i64 0, .slice none 0 0, .int .i64 0, .int .i64 0, .slice none 0 0, .int .i64 0, .slice none 0 0, .slice none 0 0, .slice none 0 0, .int .i64 0, .slice none 0 0, .string ⟨#[]⟩, .int .i64 0, .slice none 0 0, .slice none 0 0]) (unhide HO0a)
  have HP1 := hide (hk.obj (unhide HP0a) (fun hx => by have h := List.mem_singleton.1 hx; omega))
  have HR1 := hide (hk.obj (unhide HR0a) (fun hx => by have h := List.mem_singleton.1 hx; omega))
  have HB1 := hide ((unhide HB0a).trans (hk.below (B := w.heap.size) (fun x hx => by have : x = w.heap.size + 1 + 1 := (by simpa using hx); omega) (by omega)))
  have hs1 : w.heap.size + 3 ≤ W1.heap.size := Nat.le_trans hs0a hk.size
  have N1_1 := hide (((unhide N1_0a)).keeps hk (fun x hx hm => by have h1 := unhide HG1 x hx; have h2 := List.mem_singleton.1 hm; omega))
  clear N1_0a
  have Z1_1 := hide (fun x hx => Nat.lt_of_lt_of_le ((unhide Z1_0a) x hx) (hk).size)
  clear Z1_0a
  clear hW hk o0 o1 o2 o3 o4 o5 o6 o7 o8 f0 f1 f2 f3 f4 f5 f6 f7 f8 HP0a HR0a HO0a HB0a hs0a
  have p9 : W1.cell? ⟨w.heap.size, 9, none⟩ = some (.int .i64 N0.id) := cell_of_row _ _ 9 _ _ _ (unhide HP1)
  have p10 : W1.cell? ⟨w.heap.size, 10, none⟩ = some (.int .i64 N0.par) := cell_of_row _ _ 10 _ _ _ (unhide HP1)
  have p11 : W1.cell? ⟨w.heap.size, 11, none⟩ = some (.slice AN.k N0.kids.length AN.ck) := cell_of_row _ _ 11 _ _ _ (unhide HP1)
  have p12 : W1.cell? ⟨w.heap.size, 12, none⟩ = some (.int .i64 N0.next) := cell_of_row _ _ 12 _ _ _ (unhide HP1)
  have p13 : W1.cell? ⟨w.heap.size, 13, none⟩ = some (.slice AN.p N0.pu.length AN.cp) := cell_of_row _ _ 13 _ _ _ (unhide HP1)
  have p14 : W1.cell? ⟨w.heap.size, 14, none⟩ = some (.slice AN.o N0.out.length AN.co) := cell_of_row _ _ 14 _ _ _ (unhide HP1)
  have p15 : W1.cell? ⟨w.heap.size, 15, none⟩ = some (.slice AN.s N0.seen.length AN.cs) := cell_of_row _ _ 15 _ _ _ (unhide HP1)
  have p16 : W1.cell? ⟨w.heap.size, 16, none⟩ = some (.int .i64 N0.old) := cell_of_row _ _ 16 _ _ _ (unhide HP1)
  have p17 : W1.cell? ⟨w.heap.size, 17, none⟩ = some (.slice AN.r N0.reqs.length AN.cr) := cell_of_row _ _ 17 _ _ _ (unhide HP1)
  have hpl := obj_lt (unhide HP1)
  go_wp2_with fail
  refine (unhide H2 W1 (unhide HB1)).mono ?_
  rintro e v1 ⟨A2, rfl, G2, hf_N2, hsep, hb⟩
  have HG2 : Hid (∀ x ∈ G2.all N0, w.heap.size + 3 ≤ x) := fun x hx => by have := (hsep.rng x hx).1; omega
  have hf_Z2 : ∀ x ∈ G2.all N0, x < v1.heap.size := fun x hx => (hsep.rng x hx).2
  have HSP2 := hide hsep.nodup
  have HD := hide (fun a ha b hb => Nat.lt_of_lt_of_le (unhide Z1_1 a ha) (hsep.rng b hb).1)
  clear hsep
  have HP1a := hide (obj_step (unhide HP1) hb)
  have HR1a := hide (obj_step (unhide HR1) hb)
  have HO1a := hide (obj_step (unhide HO1) hb)
  have HB1a := hide ((unhide HB1).trans (hb.mono (unhide HB1).size))
  have hs1a : w.heap.size + 3 ≤ v1.heap.size := Nat.le_trans hs1 hb.size
  have N1_1a := hide (((unhide N1_1)).below hb)
  clear N1_1
  have N2_1a := hide hf_N2
  have Z1_1a := hide (fun x hx => Nat.lt_of_lt_of_le ((unhide Z1_1) x hx) (hb).size)
  clear Z1_1
  have Z2_1a := hide hf_Z2
  clear hf_N2
  clear hf_Z2
  clear hb hpl p9 p10 p11 p12 p13 p14 p15 p16 p17 HP1 HR1 HO1 HB1 hs1
  have o9 : v1.cell? ⟨w.heap.size + 1 + 1, 9, none⟩ = some (.int .i64 0) := cell_of_row _ _ 9 _ _ _ (unhide HO1a)
  have o10 : v1.cell? ⟨w.heap.size + 1 + 1, 10, none⟩ = some (.int .i64 0) := cell_of_row _ _ 10 _ _ _ (unhide HO1a)
  have o11 : v1.cell? ⟨w.heap.size + 1 + 1, 11, none⟩ = some (.slice none 0 0) := cell_of_row _ _ 11 _ _ _ (unhide HO1a)
  have o12 : v1.cell? ⟨w.heap.size + 1 + 1, 12, none⟩ = some (.int .i64 0) := cell_of_row _ _ 12 _ _ _ (unhide HO1a)
  have o13 : v1.cell? ⟨w.heap.size + 1 + 1, 13, none⟩ = some (.slice none 0 0) := cell_of_row _ _ 13 _ _ _ (unhide HO1a)
  have o14 : v1.cell? ⟨w.heap.size + 1 + 1, 14, none⟩ = some (.slice none 0 0) := cell_of_row _ _ 14 _ _ _ (unhide HO1a)
  have o15 : v1.cell? ⟨w.heap.size + 1 + 1, 15, none⟩ = some (.slice none 0 0) := cell_of_row _ _ 15 _ _ _ (unhide HO1a)
  have o16 : v1.cell? ⟨w.heap.size + 1 + 1, 16, none⟩ = some (.int .i64 0) := cell_of_row _ _ 16 _ _ _ (unhide HO1a)
  have o17 : v1.cell? ⟨w.heap.size + 1 + 1, 17, none⟩ = some (.slice none 0 0) := cell_of_row _ _ 17 _ _ _ (unhide HO1a)
  have f9 := obj_free (unhide HO1a) 9
  have f10 := obj_free (unhide HO1a) 10
  have f11 := obj_free (unhide HO1a) 11
  have f12 := obj_free (unhide HO1a) 12
  have f13 := obj_free (unhide HO1a) 13
  have f14 := obj_free (unhide HO1a) 14
  have f15 := obj_free (unhide HO1a) 15
  have f16 := obj_free (unhide HO1a) 16
  have f17 := obj_free (unhide HO1a) 17
  go_upto_region 4 with fail
  refine wp_at (fun W2 hW => ?_)
  have hk : KeepsL [w.heap.size + 1 + 1] v1 W2 := by rw [hW]; exact setW_keeps [.int .i64 N0.id, .int .i64 N0.par, .slice A2.k N0.kids.length A2.ck, .int .i64 N0.next, .slice A2.p N0.pu.length A2.cp, .slice A2.o N0.out.length A2.co, .slice A2.s N0.seen.length A2.cs, .int .i64 N0.old, .slice A2.r N0.reqs.length A2.cr] v1 9
  have HO2 : Hid (W2.heap[w.heap.size + 1 + 1]? = some (.cells #[.int .i64 B0.id, .int .i64 B0.par, .slice A1.k B0.kids.length A1.ck, .int .i64 B0.next, .slice A1.p B0.pu.length A1.cp, .slice A1.o B0.out.length A1.co, .slice A1.s B0.seen.length A1.cs, .int .i64 B0.old, .slice A1.r B0.reqs.length A1.cr, .int .i64 N0.id, .int .i64 N0.par, .slice A2.k N0.kids.length A2.ck, .int .i64 N0.next, .slice A2.p N0.pu.length A2.cp, .slice A2.o N0.out.length A2.co, .slice A2.s N0.seen.length A2.cs, .int .i64 N0.old, .slice A2.r N0.reqs.length A2.cr, .string ⟨#[]⟩, .int .i64 0, .slice none 0 0, .slice none 0 0] 63 (0, 0))) := by rw [hW]; exact GR.setW_blk [.int .i64 N0.id, .int .i64 N0.par, .slice A2.k N0.kids.length A2.ck, .int .i64 N0.next, .slice A2.p N0.pu.length A2.cp, .slice A2.o N0.out.length A2.co, .slice A2.s N0.seen.length A2.cs, .int .i64 N0.old, .slice A2.r N0.reqs.length A2.cr] (o := 9) (xs := [.int .i64 B0.id, .int .i64 B0.par, .slice A1.k B0.kids.length A1.ck, .int .i64 B0.next, .slice A1.p B0.pu.length A1.cp, .slice A1.o B0.out.length A1.co, .slice A1.s B0.seen.length A1.cs, .int .i64 B0.old, .slice A1.r B0.reqs.length A1.cr, .int .i64 0, .int .i64 0, .slice none 0 0, .int .i64 0, .slice none 0 0, .slice none 0 0, .slice none 0 0, .int .i64 0, .slice none 0 0, .string ⟨#[]⟩, .int .i64 0, .slice none 0 0, .slice none 0 0]) (unhide HO1a)
  have HP2 := hide (hk.obj (unhide HP1a) (fun hx => by have h := List.mem_singleton.1 hx; omega))
  have HR2 := hide (hk.obj (unhide HR1a) (fun hx => by have h := List.mem_singleton.1 hx; omega))
  have HB2 := hide ((unhide HB1a).trans (hk.below (B := w.heap.size) (fun x hx => by have : x = w.heap.size + 1 + 1 := (by simpa using hx); omega) (by omega)))
  have hs2 : w.heap.size + 3 ≤ W2.heap.size := Nat.le_trans hs1a hk.size
  have N1_2 := hide (((unhide N1_1a)).keeps hk (fun x hx hm => by have h1 := unhide HG1 x hx; have h2 := List.mem_singleton.1 hm; omega))
  clear N1_1a
  have N2_2 := hide (((unhide N2_1a)).keeps hk (fun x hx hm => by have h1 := unhide HG2 x hx; have h2 := List.mem_singleton.1 hm; omega))
  clear N2_1a
  have Z1_2 := hide (fun x hx => Nat.lt_of_lt_of_le ((unhide Z1_1a) x hx) (hk).size)
  clear Z1_1a
  have Z2_2 := hide (fun x hx => Nat.lt_of_lt_of_le ((unhide Z2_1a) x hx) (hk).size)
  clear Z2_1a
  clear hW hk o9 o10 o11 o12 o13 o14 o15 o16 o17 f9 f10 f11 f12 f13 f14 f15 f16 f17 HP1a HR1a HO1a HB1a hs1a
  have p18 : W2.cell? ⟨w.heap.size, 18, none⟩ = some (.string lg) := cell_of_row _ _ 18 _ _ _ (unhide HP2)
  have o18 : W2.cell? ⟨w.heap.size + 1 + 1, 18, none⟩ = some (.string ⟨#[]⟩) := cell_of_row _ _ 18 _ _ _ (unhide HO2)
  have f18 := obj_free (unhide HO2) 18
  go_upto_region 5 with fail
  refine wp_at (fun W3 hW => ?_)
  have hk : KeepsL [w.heap.size + 1 + 1] W2 W3 := by rw [hW]; exact setW_keeps [.string lg] W2 18
  have HO3 : Hid (W3.heap[w.heap.size + 1 + 1]? = some (.cells #[.int .i64 B0.id, .int .i64 B0.par, .slice A1.k B0.kids.length A1.ck, .int .i64 B0.next, .slice A1.p B0.pu.length A1.cp, .slice A1.o B0.out.length A1.co, .slice A1.s B0.seen.length A1.cs, .int .i64 B0.old, .slice A1.r B0.reqs.length A1.cr, .int .i64 N0.id, .int .i64 N0.par, .slice A2.k N0.kids.length A2.ck, .int .i64 N0.next, .slice A2.p N0.pu.length A2.cp, .slice A2.o N0.out.length A2.co, .slice A2.s N0.seen.length A2.cs, .int .i64 N0.old, .slice A2.r N0.reqs.length A2.cr, .string lg, .int .i64 0, .slice none 0 0, .slice none 0 0] 63 (0, 0))) := by rw [hW]; exact GR.setW_blk [.string lg] (o := 18) (xs := [.int .i64 B0.id, .int .i64 B0.par, .slice A1.k B0.kids.length A1.ck, .int .i64 B0.next, .slice A1.p B0.pu.length A1.cp, .slice A1.o B0.out.length A1.co, .slice A1.s B0.seen.length A1.cs, .int .i64 B0.old, .slice A1.r B0.reqs.length A1.cr, .int .i64 N0.id, .int .i64 N0.par, .slice A2.k N0.kids.length A2.ck, .int .i64 N0.next, .slice A2.p N0.pu.length A2.cp, .slice A2.o N0.out.length A2.co, .slice A2.s N0.seen.length A2.cs, .int .i64 N0.old, .slice A2.r N0.reqs.length A2.cr, .string ⟨#[]⟩, .int .i64 0, .slice none 0 0, .slice none 0 0]) (unhide HO2)
  have HP3 := hide (hk.obj (unhide HP2) (fun hx => by have h := List.mem_singleton.1 hx; omega))
  have HR3 := hide (hk.obj (unhide HR2) (fun hx => by have h := List.mem_singleton.1 hx; omega))
  have HB3 := hide ((unhide HB2).trans (hk.below (B := w.heap.size) (fun x hx => by have : x = w.heap.size + 1 + 1 := (by simpa using hx); omega) (by omega)))
  have hs3 : w.heap.size + 3 ≤ W3.heap.size := Nat.le_trans hs2 hk.size
  have N1_3 := hide (((unhide N1_2)).keeps hk (fun x hx hm => by have h1 := unhide HG1 x hx; have h2 := List.mem_singleton.1 hm; omega))
  clear N1_2
  have N2_3 := hide (((unhide N2_2)).keeps hk (fun x hx hm => by have h1 := unhide HG2 x hx; have h2 := List.mem_singleton.1 hm; omega))
  clear N2_2
  have Z1_3 := hide (fun x hx => Nat.lt_of_lt_of_le ((unhide Z1_2) x hx) (hk).size)
  clear Z1_2
  have Z2_3 := hide (fun x hx => Nat.lt_of_lt_of_le ((unhide Z2_2) x hx) (hk).size)
  clear Z2_2
  clear hW hk o18 f18 HP2 HR2 HO2 HB2 hs2 p18
  have p19 : W3.cell? ⟨w.heap.size, 19, none⟩ = some (.int .i64 sf) := cell_of_row _ _ 19 _ _ _ (unhide HP3)
  have o19 : W3.cell? ⟨w.heap.size + 1 + 1, 19, none⟩ = some (.int .i64 0) := cell_of_row _ _ 19 _ _ _ (unhide HO3)
  have f19 := obj_free (unhide HO3) 19
  go_upto_region 6 with fail
  refine wp_at (fun W4 hW => ?_)
  have hk : KeepsL [w.heap.size + 1 + 1] W3 W4 := by rw [hW]; exact setW_keeps [.int .i64 sf] W3 19
  have HO4 : Hid (W4.heap[w.heap.size + 1 + 1]? = some (.cells #[.int .i64 B0.id, .int .i64 B0.par, .slice A1.k B0.kids.length A1.ck, .int .i64 B0.next, .slice A1.p B0.pu.length A1.cp, .slice A1.o B0.out.length A1.co, .slice A1.s B0.seen.length A1.cs, .int .i64 B0.old, .slice A1.r B0.reqs.length A1.cr, .int .i64 N0.id, .int .i64 N0.par, .slice A2.k N0.kids.length A2.ck, .int .i64 N0.next, .slice A2.p N0.pu.length A2.cp, .slice A2.o N0.out.length A2.co, .slice A2.s N0.seen.length A2.cs, .int .i64 N0.old, .slice A2.r N0.reqs.length A2.cr, .string lg, .int .i64 sf, .slice none 0 0, .slice none 0 0] 63 (0, 0))) := by rw [hW]; exact GR.setW_blk [.int .i64 sf] (o := 19) (xs := [.int .i64 B0.id, .int .i64 B0.par, .slice A1.k B0.kids.length A1.ck, .int .i64 B0.next, .slice A1.p B0.pu.length A1.cp, .slice A1.o B0.out.length A1.co, .slice A1.s B0.seen.length A1.cs, .int .i64 B0.old, .slice A1.r B0.reqs.length A1.cr, .int .i64 N0.id, .int .i64 N0.par, .slice A2.k N0.kids.length A2.ck, .int .i64 N0.next, .slice A2.p N0.pu.length A2.cp, .slice A2.o N0.out.length A2.co, .slice A2.s N0.seen.length A2.cs, .int .i64 N0.old, .slice A2.r N0.reqs.length A2.cr, .string lg, .int .i64 0, .slice none 0 0, .slice none 0 0]) (unhide HO3)
  have HP4 := hide (hk.obj (unhide HP3) (fun hx => by have h := List.mem_singleton.1 hx; omega))
  have HR4 := hide (hk.obj (unhide HR3) (fun hx => by have h := List.mem_singleton.1 hx; omega))
  have HB4 := hide ((unhide HB3).trans (hk.below (B := w.heap.size) (fun x hx => by have : x = w.heap.size + 1 + 1 := (by simpa using hx); omega) (by omega)))
  have hs4 : w.heap.size + 3 ≤ W4.heap.size := Nat.le_trans hs3 hk.size
  have N1_4 := hide (((unhide N1_3)).keeps hk (fun x hx hm => by have h1 := unhide HG1 x hx; have h2 := List.mem_singleton.1 hm; omega))
  clear N1_3
  have N2_4 := hide (((unhide N2_3)).keeps hk (fun x hx hm => by have h1 := unhide HG2 x hx; have h2 := List.mem_singleton.1 hm; omega))
  clear N2_3
  have Z1_4 := hide (fun x hx => Nat.lt_of_lt_of_le ((unhide Z1_3) x hx) (hk).size)
  clear Z1_3
  have Z2_4 := hide (fun x hx => Nat.lt_of_lt_of_le ((unhide Z2_3) x hx) (hk).size)
  clear Z2_3
  clear hW hk o19 f19 HP3 HR3 HO3 HB3 hs3 p19
  have p20 : W4.cell? ⟨w.heap.size, 20, none⟩ = some (.slice wa wt.length wc) := cell_of_row _ _ 20 _ _ _ (unhide HP4)
  have hpl := obj_lt (unhide HP4)
  go_wp2_with fail
  refine (unhide H3 W4 (unhide HB4)).mono ?_
  rintro e v4 ⟨rfl, hf_M1, hb⟩
  have hq4 : w.heap.size + 3 ≤ W4.heap.size := hs4
  have HX1 := hide (unhide Z1_4)
  have HX2 := hide (unhide Z2_4)
  have HP4a := hide (obj_step (unhide HP4) hb)
  have HR4a := hide (obj_step (unhide HR4) hb)
  have HO4a := hide (obj_step (unhide HO4) hb)
  have HB4a := hide ((unhide HB4).trans (hb.mono (unhide HB4).size))
  have hs4a : w.heap.size + 3 ≤ v4.heap.size := Nat.le_trans hs4 hb.size
  have N1_4a := hide (((unhide N1_4)).below hb)
  clear N1_4
  have N2_4a := hide (((unhide N2_4)).below hb)
  clear N2_4
  have M1_4a := hide hf_M1
  have Z1_4a := hide (fun x hx => Nat.lt_of_lt_of_le ((unhide Z1_4) x hx) (hb).size)
  clear Z1_4
  have Z2_4a := hide (fun x hx => Nat.lt_of_lt_of_le ((unhide Z2_4) x hx) (hb).size)
  clear Z2_4
  clear hf_M1
  clear hb hpl p20 HP4 HR4 HO4 HB4 hs4
  have o20 : v4.cell? ⟨w.heap.size + 1 + 1, 20, none⟩ = some (.slice none 0 0) := cell_of_row _ _ 20 _ _ _ (unhide HO4a)
  have f20 := obj_free (unhide HO4a) 20
  go_upto_region 7 with fail
  refine wp_at (fun W5 hW => ?_)
  have hk : KeepsL [w.heap.size + 1 + 1] v4 W5 := by rw [hW]; exact setW_keeps [.slice (some ⟨W4.heap.size, 0, none⟩) wt.length wt.length] v4 20
  have HO5 : Hid (W5.heap[w.heap.size + 1 + 1]? = some (.cells #[.int .i64 B0.id, .int .i64 B0.par, .slice A1.k B0.kids.length A1.ck, .int .i64 B0.next, .slice A1.p B0.pu.length A1.cp, .slice A1.o B0.out.length A1.co, .slice A1.s B0.seen.length A1.cs, .int .i64 B0.old, .slice A1.r B0.reqs.length A1.cr, .int .i64 N0.id, .int .i64 N0.par, .slice A2.k N0.kids.length A2.ck, .int .i64 N0.next, .slice A2.p N0.pu.length A2.cp, .slice A2.o N0.out.length A2.co, .slice A2.s N0.seen.length A2.cs, .int .i64 N0.old, .slice A2.r N0.reqs.length A2.cr, .string lg, .int .i64 sf, .slice (some ⟨W4.heap.size, 0, none⟩) wt.length wt.length, .slice none 0 0] 63 (0, 0))) := by rw [hW]; exact GR.setW_blk [.slice (some ⟨W4.heap.size, 0, none⟩) wt.length wt.length] (o := 20) (xs := [.int .i64 B0.id, .int .i64 B0.par, .slice A1.k B0.kids.length A1.ck, .int .i64 B0.next, .slice A1.p B0.pu.length A1.cp, .slice A1.o B0.out.length A1.co, .slice A1.s B0.seen.length A1.cs, .int .i64 B0.old, .slice A1.r B0.reqs.length A1.cr, .int .i64 N0.id, .int .i64 N0.par, .slice A2.k N0.kids.length A2.ck, .int .i64 N0.next, .slice A2.p N0.pu.length A2.cp, .slice A2.o N0.out.length A2.co, .slice A2.s N0.seen.length A2.cs, .int .i64 N0.old, .slice A2.r N0.reqs.length A2.cr, .string lg, .int .i64 sf, .slice none 0 0, .slice none 0 0]) (unhide HO4a)
  have HP5 := hide (hk.obj (unhide HP4a) (fun hx => by have h := List.mem_singleton.1 hx; omega))
  have HR5 := hide (hk.obj (unhide HR4a) (fun hx => by have h := List.mem_singleton.1 hx; omega))
  have HB5 := hide ((unhide HB4a).trans (hk.below (B := w.heap.size) (fun x hx => by have : x = w.heap.size + 1 + 1 := (by simpa using hx); omega) (by omega)))
  have hs5 : w.heap.size + 3 ≤ W5.heap.size := Nat.le_trans hs4a hk.size
  have N1_5 := hide (((unhide N1_4a)).keeps hk (fun x hx hm => by have h1 := unhide HG1 x hx; have h2 := List.mem_singleton.1 hm; omega))
  clear N1_4a
  have N2_5 := hide (((unhide N2_4a)).keeps hk (fun x hx hm => by have h1 := unhide HG2 x hx; have h2 := List.mem_singleton.1 hm; omega))
  clear N2_4a
  have M1_5 := hide ((hk).obj (unhide M1_4a) (fun hx => by have h2 := List.mem_singleton.1 hx; omega))
  clear M1_4a
  have Z1_5 := hide (fun x hx => Nat.lt_of_lt_of_le ((unhide Z1_4a) x hx) (hk).size)
  clear Z1_4a
  have Z2_5 := hide (fun x hx => Nat.lt_of_lt_of_le ((unhide Z2_4a) x hx) (hk).size)
  clear Z2_4a
  clear hW hk o20 f20 HP4a HR4a HO4a HB4a hs4a
  have p21 : W5.cell? ⟨w.heap.size, 21, none⟩ = some (.slice aa sk.length ac) := cell_of_row _ _ 21 _ _ _ (unhide HP5)
  have hpl := obj_lt (unhide HP5)
  go_wp2_with fail
  refine (unhide H4 W5 (unhide HB5)).mono ?_
  rintro e v5 ⟨rfl, hf_M2, hb⟩
  have hq5 : w.heap.size + 3 ≤ W5.heap.size := hs5
  have HY1 := hide (unhide Z1_5)
  have HY2 := hide (unhide Z2_5)
  have HP5a := hide (obj_step (unhide HP5) hb)
  have HR5a := hide (obj_step (unhide HR5) hb)
  have HO5a := hide (obj_step (unhide HO5) hb)
  have HB5a := hide ((unhide HB5).trans (hb.mono (unhide HB5).size))
  have hs5a : w.heap.size + 3 ≤ v5.heap.size := Nat.le_trans hs5 hb.size
  have N1_5a := hide (((unhide N1_5)).below hb)
  clear N1_5
  have N2_5a := hide (((unhide N2_5)).below hb)
  clear N2_5
  have M1_5a := hide (GR.Blk.stepW (unhide M1_5) hb)
  clear M1_5
  have M2_5a := hide hf_M2
  have Z1_5a := hide (fun x hx => Nat.lt_of_lt_of_le ((unhide Z1_5) x hx) (hb).size)
  clear Z1_5
  have Z2_5a := hide (fun x hx => Nat.lt_of_lt_of_le ((unhide Z2_5) x hx) (hb).size)
  clear Z2_5
  clear hf_M2
  clear hb hpl p21 HP5 HR5 HO5 HB5 hs5
  have o21 : v5.cell? ⟨w.heap.size + 1 + 1, 21, none⟩ = some (.slice none 0 0) := cell_of_row _ _ 21 _ _ _ (unhide HO5a)
  have f21 := obj_free (unhide HO5a) 21
  go_upto_region 8 with fail
  refine wp_at (fun W6 hW => ?_)
  have hk : KeepsL [w.heap.size + 1 + 1] v5 W6 := by rw [hW]; exact setW_keeps [.slice (some ⟨W5.heap.size, 0, none⟩) sk.length sk.length] v5 21
  have HO6 : Hid (W6.heap[w.heap.size + 1 + 1]? = some (.cells #[.int .i64 B0.id, .int .i64 B0.par, .slice A1.k B0.kids.length A1.ck, .int .i64 B0.next, .slice A1.p B0.pu.length A1.cp, .slice A1.o B0.out.length A1.co, .slice A1.s B0.seen.length A1.cs, .int .i64 B0.old, .slice A1.r B0.reqs.length A1.cr, .int .i64 N0.id, .int .i64 N0.par, .slice A2.k N0.kids.length A2.ck, .int .i64 N0.next, .slice A2.p N0.pu.length A2.cp, .slice A2.o N0.out.length A2.co, .slice A2.s N0.seen.length A2.cs, .int .i64 N0.old, .slice A2.r N0.reqs.length A2.cr, .string lg, .int .i64 sf, .slice (some ⟨W4.heap.size, 0, none⟩) wt.length wt.length, .slice (some ⟨W5.heap.size, 0, none⟩) sk.length sk.length] 63 (0, 0))) := by rw [hW]; exact GR.setW_blk [.slice (some ⟨W5.heap.size, 0, none⟩) sk.length sk.length] (o := 21) (xs := [.int .i64 B0.id, .int .i64 B0.par, .slice A1.k B0.kids.length A1.ck, .int .i64 B0.next, .slice A1.p B0.pu.length A1.cp, .slice A1.o B0.out.length A1.co, .slice A1.s B0.seen.length A1.cs, .int .i64 B0.old, .slice A1.r B0.reqs.length A1.cr, .int .i64 N0.id, .int .i64 N0.par, .slice A2.k N0.kids.length A2.ck, .int .i64 N0.next, .slice A2.p N0.pu.length A2.cp, .slice A2.o N0.out.length A2.co, .slice A2.s N0.seen.length A2.cs, .int .i64 N0.old, .slice A2.r N0.reqs.length A2.cr, .string lg, .int .i64 sf, .slice (some ⟨W4.heap.size, 0, none⟩) wt.length wt.length, .slice none 0 0]) (unhide HO5a)
  have HP6 := hide (hk.obj (unhide HP5a) (fun hx => by have h := List.mem_singleton.1 hx; omega))
  have HR6 := hide (hk.obj (unhide HR5a) (fun hx => by have h := List.mem_singleton.1 hx; omega))
  have HB6 := hide ((unhide HB5a).trans (hk.below (B := w.heap.size) (fun x hx => by have : x = w.heap.size + 1 + 1 := (by simpa using hx); omega) (by omega)))
  have hs6 : w.heap.size + 3 ≤ W6.heap.size := Nat.le_trans hs5a hk.size
  have N1_6 := hide (((unhide N1_5a)).keeps hk (fun x hx hm => by have h1 := unhide HG1 x hx; have h2 := List.mem_singleton.1 hm; omega))
  clear N1_5a
  have N2_6 := hide (((unhide N2_5a)).keeps hk (fun x hx hm => by have h1 := unhide HG2 x hx; have h2 := List.mem_singleton.1 hm; omega))
  clear N2_5a
  have M1_6 := hide ((hk).obj (unhide M1_5a) (fun hx => by have h2 := List.mem_singleton.1 hx; omega))
  clear M1_5a
  have M2_6 := hide ((hk).obj (unhide M2_5a) (fun hx => by have h2 := List.mem_singleton.1 hx; omega))
  clear M2_5a
  have Z1_6 := hide (fun x hx => Nat.lt_of_lt_of_le ((unhide Z1_5a) x hx) (hk).size)
  clear Z1_5a
  have Z2_6 := hide (fun x hx => Nat.lt_of_lt_of_le ((unhide Z2_5a) x hx) (hk).size)
  clear Z2_5a
  clear hW hk o21 f21 HP5a HR5a HO5a HB5a hs5a
  have HRG : Hid (W6.rangeAt (w.heap.size + 1 + 1) 0 [.int .i64 B0.id, .int .i64 B0.par, .slice A1.k B0.kids.length A1.ck, .int .i64 B0.next, .slice A1.p B0.pu.length A1.cp, .slice A1.o B0.out.length A1.co, .slice A1.s B0.seen.length A1.cs, .int .i64 B0.old, .slice A1.r B0.reqs.length A1.cr, .int .i64 N0.id, .int .i64 N0.par, .slice A2.k N0.kids.length A2.ck, .int .i64 N0.next, .slice A2.p N0.pu.length A2.cp, .slice A2.o N0.out.length A2.co, .slice A2.s N0.seen.length A2.cs, .int .i64 N0.old, .slice A2.r N0.reqs.length A2.cr, .string lg, .int .i64 sf, .slice (some ⟨W4.heap.size, 0, none⟩) wt.length wt.length, .slice (some ⟨W5.heap.size, 0, none⟩) sk.length sk.length]) := range_blk (unhide HO6)
  have HTH : Hid (W6.there (w.heap.size + 1) 0 22) := there_blk (cs := [.int .i64 0, .int .i64 0, .slice none 0 0, .int .i64 0, .slice none 0 0, .slice none 0 0, .slice none 0 0, .int .i64 0, .slice none 0 0, .int .i64 0, .int .i64 0, .slice none 0 0, .int .i64 0, .slice none 0 0, .slice none 0 0, .slice none 0 0, .int .i64 0, .slice none 0 0, .string ⟨#[]⟩, .int .i64 0, .slice none 0 0, .slice none 0 0]) (unhide HR6)
  have HONE : Hid ((#[.int .i64 B0.id, .int .i64 B0.par, .slice A1.k B0.kids.length A1.ck, .int .i64 B0.next, .slice A1.p B0.pu.length A1.cp, .slice A1.o B0.out.length A1.co, .slice A1.s B0.seen.length A1.cs, .int .i64 B0.old, .slice A1.r B0.reqs.length A1.cr, .int .i64 N0.id, .int .i64 N0.par, .slice A2.k N0.kids.length A2.ck, .int .i64 N0.next, .slice A2.p N0.pu.length A2.cp, .slice A2.o N0.out.length A2.co, .slice A2.s N0.seen.length A2.cs, .int .i64 N0.old, .slice A2.r N0.reqs.length A2.cr, .string lg, .int .i64 sf, .slice (some ⟨W4.heap.size, 0, none⟩) wt.length wt.length, .slice (some ⟨W5.heap.size, 0, none⟩) sk.length sk.length] : Array Value).all (·.oneCell') = true) := all_oneCell_toArray (cs := [.int .i64 B0.id, .int .i64 B0.par, .slice A1.k B0.kids.length A1.ck, .int .i64 B0.next, .slice A1.p B0.pu.length A1.cp, .slice A1.o B0.out.length A1.co, .slice A1.s B0.seen.length A1.cs, .int .i64 B0.old, .slice A1.r B0.reqs.length A1.cr, .int .i64 N0.id, .int .i64 N0.par, .slice A2.k N0.kids.length A2.ck, .int .i64 N0.next, .slice A2.p N0.pu.length A2.cp, .slice A2.o N0.out.length A2.co, .slice A2.s N0.seen.length A2.cs, .int .i64 N0.old, .slice A2.r N0.reqs.length A2.cr, .string lg, .int .i64 sf, .slice (some ⟨W4.heap.size, 0, none⟩) wt.length wt.length, .slice (some ⟨W5.heap.size, 0, none⟩) sk.length sk.length]) (fun v hv => by
    simp only [List.mem_cons, List.not_mem_nil, or_false] at hv
    rcases hv with rfl | rfl | rfl | rfl | rfl | rfl | rfl | rfl | rfl | rfl | rfl | rfl | rfl | rfl | rfl | rfl | rfl | rfl | rfl | rfl | rfl | rfl <;> rfl)
  have hrl := obj_lt (unhide HR6)
  refine wp_region_list ?_
  show wpList _ _ _ [_, _] _ _
  refine wpList_load_mid rfl 63 (.tmp 3) rfl (w.heap.size + 1 + 1) 0 (by first | rfl | simp [Act.eval] | simp [Act.eval, Act.put]) [.int .i64 B0.id, .int .i64 B0.par, .slice A1.k B0.kids.length A1.ck, .int .i64 B0.next, .slice A1.p B0.pu.length A1.cp, .slice A1.o B0.out.length A1.co, .slice A1.s B0.seen.length A1.cs, .int .i64 B0.old, .slice A1.r B0.reqs.length A1.cr, .int .i64 N0.id, .int .i64 N0.par, .slice A2.k N0.kids.length A2.ck, .int .i64 N0.next, .slice A2.p N0.pu.length A2.cp, .slice A2.o N0.out.length A2.co, .slice A2.s N0.seen.length A2.cs, .int .i64 N0.old, .slice A2.r N0.reqs.length A2.cr, .string lg, .int .i64 sf, .slice (some ⟨W4.heap.size, 0, none⟩) wt.length wt.length, .slice (some ⟨W5.heap.size, 0, none⟩) sk.length sk.length] _ (unhide HRG) Try.underlying63 rfl (by kernel_rfl) ?_
  refine wpList_store_mid rfl 63 (.tmp 2) (.tmp 26) rfl (w.heap.size + 1) 0 #[.int .i64 B0.id, .int .i64 B0.par, .slice A1.k B0.kids.length A1.ck, .int .i64 B0.next, .slice A1.p B0.pu.length A1.cp, .slice A1.o B0.out.length A1.co, .slice A1.s B0.seen.length A1.cs, .int .i64 B0.old, .slice A1.r B0.reqs.length A1.cr, .int .i64 N0.id, .int .i64 N0.par, .slice A2.k N0.kids.length A2.ck, .int .i64 N0.next, .slice A2.p N0.pu.length A2.cp, .slice A2.o N0.out.length A2.co, .slice A2.s N0.seen.length A2.cs, .int .i64 N0.old, .slice A2.r N0.reqs.length A2.cr, .string lg, .int .i64 sf, .slice (some ⟨W4.heap.size, 0, none⟩) wt.length wt.length, .slice (some ⟨W5.heap.size, 0, none⟩) sk.length sk.length] (by first | rfl | simp [Act.eval] | simp [Act.eval, Act.put]) (by first | rfl | simp [Act.eval] | simp [Act.eval, Act.put]) (unhide HTH) (by kernel_rfl) (unhide HONE) ?_
  refine wpList_nil ?_
  go_wp2_with fail
  refine bodyPost_atN (fun W' hW' => ?_)
  rw [setCells_W] at hW'
  have hk : KeepsL [w.heap.size + 1] W6 W' := by rw [hW']; exact setW_keeps [.int .i64 B0.id, .int .i64 B0.par, .slice A1.k B0.kids.length A1.ck, .int .i64 B0.next, .slice A1.p B0.pu.length A1.cp, .slice A1.o B0.out.length A1.co, .slice A1.s B0.seen.length A1.cs, .int .i64 B0.old, .slice A1.r B0.reqs.length A1.cr, .int .i64 N0.id, .int .i64 N0.par, .slice A2.k N0.kids.length A2.ck, .int .i64 N0.next, .slice A2.p N0.pu.length A2.cp, .slice A2.o N0.out.length A2.co, .slice A2.s N0.seen.length A2.cs, .int .i64 N0.old, .slice A2.r N0.reqs.length A2.cr, .string lg, .int .i64 sf, .slice (some ⟨W4.heap.size, 0, none⟩) wt.length wt.length, .slice (some ⟨W5.heap.size, 0, none⟩) sk.length sk.length] W6 0
  have hX : W'.heap[w.heap.size + 1]? = some (.cells #[.int .i64 B0.id, .int .i64 B0.par, .slice A1.k B0.kids.length A1.ck, .int .i64 B0.next, .slice A1.p B0.pu.length A1.cp, .slice A1.o B0.out.length A1.co, .slice A1.s B0.seen.length A1.cs, .int .i64 B0.old, .slice A1.r B0.reqs.length A1.cr, .int .i64 N0.id, .int .i64 N0.par, .slice A2.k N0.kids.length A2.ck, .int .i64 N0.next, .slice A2.p N0.pu.length A2.cp, .slice A2.o N0.out.length A2.co, .slice A2.s N0.seen.length A2.cs, .int .i64 N0.old, .slice A2.r N0.reqs.length A2.cr, .string lg, .int .i64 sf, .slice (some ⟨W4.heap.size, 0, none⟩) wt.length wt.length, .slice (some ⟨W5.heap.size, 0, none⟩) sk.length sk.length] 63 (0, 0)) := by rw [hW']; exact setW_all [.int .i64 B0.id, .int .i64 B0.par, .slice A1.k B0.kids.length A1.ck, .int .i64 B0.next, .slice A1.p B0.pu.length A1.cp, .slice A1.o B0.out.length A1.co, .slice A1.s B0.seen.length A1.cs, .int .i64 B0.old, .slice A1.r B0.reqs.length A1.cr, .int .i64 N0.id, .int .i64 N0.par, .slice A2.k N0.kids.length A2.ck, .int .i64 N0.next, .slice A2.p N0.pu.length A2.cp, .slice A2.o N0.out.length A2.co, .slice A2.s N0.seen.length A2.cs, .int .i64 N0.old, .slice A2.r N0.reqs.length A2.cr, .string lg, .int .i64 sf, .slice (some ⟨W4.heap.size, 0, none⟩) wt.length wt.length, .slice (some ⟨W5.heap.size, 0, none⟩) sk.length sk.length] [.int .i64 0, .int .i64 0, .slice none 0 0, .int .i64 0, .slice none 0 0, .slice none 0 0, .slice none 0 0, .int .i64 0, .slice none 0 0, .int .i64 0, .int .i64 0, .slice none 0 0, .int .i64 0, .slice none 0 0, .slice none 0 0, .slice none 0 0, .int .i64 0, .slice none 0 0, .string ⟨#[]⟩, .int .i64 0, .slice none 0 0, .slice none 0 0] rfl (unhide HR6)
  have hBB := (unhide HB6).trans (hk.below (B := w.heap.size) (fun x hx => by have : x = w.heap.size + 1 := (by simpa using hx); omega) (by omega))
  have N1_f := hide (((unhide N1_6)).keeps hk (fun x hx hm => by have h1 := unhide HG1 x hx; have h2 := List.mem_singleton.1 hm; omega))
  have N2_f := hide (((unhide N2_6)).keeps hk (fun x hx hm => by have h1 := unhide HG2 x hx; have h2 := List.mem_singleton.1 hm; omega))
  have M1_f := hide ((hk).obj (unhide M1_6) (fun hx => by have h2 := List.mem_singleton.1 hx; omega))
  have M2_f := hide ((hk).obj (unhide M2_6) (fun hx => by have h2 := List.mem_singleton.1 hx; omega))
  have Z1_f := hide (fun x hx => Nat.lt_of_lt_of_le ((unhide Z1_6) x hx) (hk).size)
  have Z2_f := hide (fun x hx => Nat.lt_of_lt_of_le ((unhide Z2_6) x hx) (hk).size)
  exact bodyPost_ret (v := .agg #[.int .i64 B0.id, .int .i64 B0.par, .slice A1.k B0.kids.length A1.ck, .int .i64 B0.next, .slice A1.p B0.pu.length A1.cp, .slice A1.o B0.out.length A1.co, .slice A1.s B0.seen.length A1.cs, .int .i64 B0.old, .slice A1.r B0.reqs.length A1.cr, .int .i64 N0.id, .int .i64 N0.par, .slice A2.k N0.kids.length A2.ck, .int .i64 N0.next, .slice A2.p N0.pu.length A2.cp, .slice A2.o N0.out.length A2.co, .slice A2.s N0.seen.length A2.cs, .int .i64 N0.old, .slice A2.r N0.reqs.length A2.cr, .string lg, .int .i64 sf, .slice (some ⟨W4.heap.size, 0, none⟩) wt.length wt.length, .slice (some ⟨W5.heap.size, 0, none⟩) sk.length sk.length]) (results_cell_row Try.results44 _ W' (w.heap.size + 1) 63 #[.int .i64 B0.id, .int .i64 B0.par, .slice A1.k B0.kids.length A1.ck, .int .i64 B0.next, .slice A1.p B0.pu.length A1.cp, .slice A1.o B0.out.length A1.co, .slice A1.s B0.seen.length A1.cs, .int .i64 B0.old, .slice A1.r B0.reqs.length A1.cr, .int .i64 N0.id, .int .i64 N0.par, .slice A2.k N0.kids.length A2.ck, .int .i64 N0.next, .slice A2.p N0.pu.length A2.cp, .slice A2.o N0.out.length A2.co, .slice A2.s N0.seen.length A2.cs, .int .i64 N0.old, .slice A2.r N0.reqs.length A2.cr, .string lg, .int .i64 sf, .slice (some ⟨W4.heap.size, 0, none⟩) wt.length wt.length, .slice (some ⟨W5.heap.size, 0, none⟩) sk.length sk.length] (0, 0) _ (by first | rfl | simp) hX Try.underlying63 rfl (by kernel_rfl)) rfl ⟨_, rfl, KpIn.of (k := ⟨B0, N0, lg, sf, wt, sk⟩) (unhide N1_f) (fun x hx => by have := unhide HG1 x hx; omega) (unhide N2_f) (fun x hx => by have := unhide HG2 x hx; omega) (unhide M1_f) (by omega) (unhide M2_f) (by omega), ⟨_, _, _, KpS.of (k := ⟨B0, N0, lg, sf, wt, sk⟩) (unhide N1_f) (unhide HSP1) (fun x hx => ⟨by have := unhide HG1 x hx; omega, unhide Z1_f x hx⟩) (unhide N2_f) (unhide HSP2) (fun x hx => ⟨by have := unhide HG2 x hx; omega, unhide Z2_f x hx⟩) (unhide HD) (unhide M1_f) ⟨by omega, GR.Blk.lt (unhide M1_f)⟩ (unhide HX1) (unhide HX2) (unhide M2_f) ⟨by omega, GR.Blk.lt (unhide M2_f)⟩ (unhide HY1) (unhide HY2)⟩, hBB⟩
end Go.Proofs.Ytgkimogaghgjaaa
