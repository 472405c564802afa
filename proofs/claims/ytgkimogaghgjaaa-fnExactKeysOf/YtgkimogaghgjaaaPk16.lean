/- Parts. -/
import Derived.Test.YtgkimogaghgjaaaPk10
import Derived.Test.YtgkimogaghgjaaaPk15
namespace Go.Proofs.Ytgkimogaghgjaaa
open Go.RowKit
open Mth

theorem scrIntB (S : Nat → Prop) (a : Option Addr) (n c : Nat) (s : Int) (w : World) (hs0 : 0 < s) (hs1 : s ≤ 5764607523034234880) (hn : n ≤ 1048600) (hw : Wr S w a n 1) :
    Calls Try.prog 54 #[.slice a n c, .int .i64 s] w fun e w' => ∃ r : Int, e = .returned (.int .i64 r) ∧ s ≤ r ∧ r ≤ s + 1048600 ∧ Scr S w w' := by
  refine (scrInt S a n c s w hs0 (by omega) hn hw).mono ?_
  rintro e w1 ⟨rfl, hs⟩
  exact ⟨_, rfl, by omega, by omega, hs⟩
theorem scrPurseB (S : Nat → Prop) (a : Option Addr) (n c : Nat) (s : Int) (w : World) (hs0 : 0 < s) (hs1 : s ≤ 5764607523034234880) (hn : n ≤ 1048600) (hw : Wr S w a n 4) :
    Calls Try.prog 55 #[.slice a n c, .int .i64 s] w fun e w' => ∃ r : Int, e = .returned (.int .i64 r) ∧ s ≤ r ∧ r ≤ s + 4194400 ∧ Scr S w w' := by
  refine (scrPurse S a n c s w hs0 (by omega) hn hw).mono ?_
  rintro e w1 ⟨rfl, hs⟩
  exact ⟨_, rfl, by omega, by omega, hs⟩
theorem scrSentB (S : Nat → Prop) (a : Option Addr) (n c : Nat) (s : Int) (w : World) (hs0 : 0 < s) (hs1 : s ≤ 5764607523034234880) (hn : n ≤ 1048600) (hw : Wr S w a n 4) :
    Calls Try.prog 56 #[.slice a n c, .int .i64 s] w fun e w' => ∃ r : Int, e = .returned (.int .i64 r) ∧ s ≤ r ∧ r ≤ s + 4194400 ∧ Scr S w w' := by
  refine (scrSent S a n c s w hs0 (by omega) hn hw).mono ?_
  rintro e w1 ⟨rfl, hs⟩
  exact ⟨_, rfl, by omega, by omega, hs⟩
theorem scrReqB (S : Nat → Prop) (a : Option Addr) (n c : Nat) (s : Int) (w : World) (hs0 : 0 < s) (hs1 : s ≤ 5764607523034234880) (hn : n ≤ 1048600) (hw : Wr S w a n 4) :
    Calls Try.prog 58 #[.slice a n c, .int .i64 s] w fun e w' => ∃ r : Int, e = .returned (.int .i64 r) ∧ s ≤ r ∧ r ≤ s + 4194400 ∧ Scr S w w' := by
  refine (scrReq S a n c s w hs0 (by omega) hn hw).mono ?_
  rintro e w1 ⟨rfl, hs⟩
  exact ⟨_, rfl, by omega, by omega, hs⟩
theorem scrMsgB (S : Nat → Prop) (a : Option Addr) (n c : Nat) (s : Int) (w : World) (hs0 : 0 < s) (hs1 : s ≤ 5764607523034234880) (hn : n ≤ 1048600) (hw : Wr S w a n 7) :
    Calls Try.prog 59 #[.slice a n c, .int .i64 s] w fun e w' => ∃ r : Int, e = .returned (.int .i64 r) ∧ s ≤ r ∧ r ≤ s + 7340200 ∧ Scr S w w' := by
  refine (scrMsg S a n c s w hs0 (by omega) hn hw).mono ?_
  rintro e w1 ⟨rfl, hs⟩
  exact ⟨_, rfl, by omega, by omega, hs⟩
theorem scrAnswerB (S : Nat → Prop) (a : Option Addr) (n c : Nat) (s : Int) (w : World) (hs0 : 0 < s) (hs1 : s ≤ 5764607523034234880) (hn : n ≤ 1048600) (hw : Wr S w a n 12) :
    Calls Try.prog 60 #[.slice a n c, .int .i64 s] w fun e w' => ∃ r : Int, e = .returned (.int .i64 r) ∧ s ≤ r ∧ r ≤ s + 12583200 ∧ Scr S w w' := by
  refine (scrAnswer S a n c s w hs0 (by omega) hn hw).mono ?_
  rintro e w1 ⟨rfl, hs⟩
  exact ⟨_, rfl, by omega, by omega, hs⟩
theorem scrToldB (S : Nat → Prop) (a : Option Addr) (n c : Nat) (s : Int) (w : World) (hs0 : 0 < s) (hs1 : s ≤ 5764607523034234880) (hn : n ≤ 1048600) (hw : Wr S w a n 13) :
    Calls Try.prog 37 #[.slice a n c, .int .i64 s] w fun e w' => ∃ r : Int, e = .returned (.int .i64 r) ∧ s ≤ r ∧ r ≤ s + 13631800 ∧ Scr S w w' := by
  refine (scrTold S a n c s w hs0 (by omega) hn hw).mono ?_
  rintro e w1 ⟨rfl, hs⟩
  exact ⟨_, rfl, by omega, by omega, hs⟩
theorem scrGivenB (S : Nat → Prop) (a : Option Addr) (n c : Nat) (s : Int) (w : World) (hs0 : 0 < s) (hs1 : s ≤ 5764607523034234880) (hn : n ≤ 1048600) (hw : Wr S w a n 2) :
    Calls Try.prog 38 #[.slice a n c, .int .i64 s] w fun e w' => ∃ r : Int, e = .returned (.int .i64 r) ∧ s ≤ r ∧ r ≤ s + 2097200 ∧ Scr S w w' := by
  refine (scrGiven S a n c s w hs0 (by omega) hn hw).mono ?_
  rintro e w1 ⟨rfl, hs⟩
  exact ⟨_, rfl, by omega, by omega, hs⟩
theorem scrStringB (S : Nat → Prop) (a : Option Addr) (n c : Nat) (s : Int) (w : World) (hs0 : 0 < s) (hs1 : s ≤ 5764607523034234880) (hn : n ≤ 1048600) (hw : Wr S w a n 1) :
    Calls Try.prog 14 #[.slice a n c, .int .i64 s] w fun e w' => ∃ r : Int, e = .returned (.int .i64 r) ∧ s ≤ r ∧ r ≤ s + 1048600 ∧ Scr S w w' := by
  refine (scrString S a n c s w hs0 (by omega) hn hw).mono ?_
  rintro e w1 ⟨rfl, hs⟩
  exact ⟨_, rfl, by omega, by omega, hs⟩
/-- A node whose lists may be written into. -/
structure NdS (S : Nat → Prop) (w : World) (A : Ads) (g : Nat) (n : Nd) : Prop where
  k : Wr S w A.k n.kids.length 1
  p : Wr S w A.p n.pu.length 4
  o : Wr S w A.o n.out.length 4
  s : SeenSc S w A.s g n.seen
  r : Wr S w A.r n.reqs.length 4
theorem NdS.scr {S T : Nat → Prop} {w w' : World} {A : Ads} {g : Nat} {n : Nd} (h : NdS S w A g n) (hs : Scr T w w') (hT : 0 < n.seen.length → ¬ T g) : NdS S w' A g n :=
  ⟨h.k.scr hs, h.p.scr hs, h.o.scr hs, by
    by_cases e : 0 < n.seen.length
    · exact h.s.scr hs (hT e)
    · exact ⟨fun i hi => by omega, fun i hi => by omega⟩, h.r.scr hs⟩
theorem all_ne_s {G : Blks} {n : Nd} (hn : (G.all n).Nodup) (hs : 0 < n.seen.length) : (0 < n.kids.length → G.k ≠ G.s) ∧ (0 < n.pu.length → G.p ≠ G.s) ∧ (0 < n.out.length → G.o ≠ G.s) ∧ (0 < n.reqs.length → G.r ≠ G.s) ∧ ∀ x ∈ fpI G.i n.seen, x ≠ G.s := by
  unfold Blks.all at hn
  obtain ⟨_, hn1, d1⟩ := List.nodup_append.1 hn
  obtain ⟨_, hn2, d2⟩ := List.nodup_append.1 hn1
  obtain ⟨_, hn3, d3⟩ := List.nodup_append.1 hn2
  obtain ⟨_, hn4, d4⟩ := List.nodup_append.1 hn3
  have ms : G.s ∈ fp G.s n.seen := fp_mem hs
  refine ⟨fun h => d1 _ (fp_mem h) _ (by simp [ms]), fun h => d2 _ (fp_mem h) _ (by simp [ms]), fun h => d3 _ (fp_mem h) _ (by simp [ms]), fun h e => d4 _ ms _ (by simp [fp_mem h]) e.symm, fun x hx e => d4 _ ms _ (by simp [hx]) e.symm⟩
/-- A keeper whose lists may be written into, all of them in blocks from lo on up to hi. -/
structure KpS (lo hi : Nat) (w : World) (A : KA) (k : Kp) (S : Nat → Prop) (g1 g2 : Nat) : Prop where
  rng : ∀ b, S b → lo ≤ b ∧ b < hi
  s1 : 0 < k.base.seen.length → lo ≤ g1 ∧ g1 < hi ∧ ¬ S g1
  s2 : 0 < k.node.seen.length → lo ≤ g2 ∧ g2 < hi ∧ ¬ S g2
  ne : 0 < k.base.seen.length → 0 < k.node.seen.length → g1 ≠ g2
  b : NdS S w A.b g1 k.base
  n : NdS S w A.n g2 k.node
  wt : Wr S w A.wa k.wait.length 7
  sk : Wr S w A.aa k.asked.length 12
theorem KpS.scr {T : Nat → Prop} {lo hi : Nat} {w w' : World} {A : KA} {k : Kp} {S : Nat → Prop} {g1 g2 : Nat} (h : KpS lo hi w A k S g1 g2) (hs : Scr T w w') (hT : ∀ b, T b → b < lo ∨ hi ≤ b) : KpS lo hi w' A k S g1 g2 :=
  ⟨h.rng, h.s1, h.s2, h.ne, h.b.scr hs (fun e hx => by have := hT _ hx; have := h.s1 e; omega), h.n.scr hs (fun e hx => by have := hT _ hx; have := h.s2 e; omega), h.wt.scr hs, h.sk.scr hs⟩
theorem Wr.keeps {S : Nat → Prop} {F : List Nat} {w w' : World} {a : Option Addr} {n sz : Nat} (h : Wr S w a n sz) (hk : KeepsL F w w') (hF : ∀ x, S x → x ∉ F) : Wr S w' a n sz := fun i hi => by
  obtain ⟨g, e, hS, hg, hc⟩ := h i hi
  have hb := hk.block g hg (hF g hS)
  exact ⟨g, e, hS, Nat.lt_of_lt_of_le hg hk.size, fun j hj => ⟨by rw [World.cell?_of_block (w := w) (a := ⟨g, i * sz + j, none⟩) hb]; exact (hc j hj).1, by rw [World.frozen?_of_block (w := w) (a := ⟨g, i * sz + j, none⟩) hb]; exact (hc j hj).2⟩⟩
theorem SeenSc.keeps {S : Nat → Prop} {F : List Nat} {w w' : World} {a : Option Addr} {g : Nat} {l : List Sn} (h : SeenSc S w a g l) (hk : KeepsL F w w') (hF : ∀ x, S x → x ∉ F) (hg : 0 < l.length → g ∉ F) : SeenSc S w' a g l :=
  ⟨fun i hi => by
    obtain ⟨e, hl, ⟨c0, c1⟩, f0, f1⟩ := h.row i hi
    have hb := hk.block g hl (hg (by omega))
    exact ⟨e, Nat.lt_of_lt_of_le hl hk.size, ⟨by rw [World.cell?_of_block (w := w) (a := ⟨g, i * 3, none⟩) hb]; exact c0, by rw [World.cell?_of_block (w := w) (a := ⟨g, i * 3 + 1, none⟩) hb]; exact c1⟩, by rw [World.frozen?_of_block (w := w) (a := ⟨g, i * 3, none⟩) hb]; exact f0, by rw [World.frozen?_of_block (w := w) (a := ⟨g, i * 3 + 1, none⟩) hb]; exact f1⟩, fun i hi => by
    obtain ⟨b, c, hc, hw⟩ := h.ids i hi
    have hl := (h.row i hi).2.1
    exact ⟨b, c, by rw [World.cell?_of_block (w := w) (a := ⟨g, i * 3 + 2, none⟩) (hk.block g hl (hg (by omega)))]; exact hc, hw.keeps hk hF⟩⟩
theorem KpS.keeps {F : List Nat} {lo hi : Nat} {w w' : World} {A : KA} {k : Kp} {S : Nat → Prop} {g1 g2 : Nat} (h : KpS lo hi w A k S g1 g2) (hk : KeepsL F w w') (hF : ∀ x ∈ F, x < lo) : KpS lo hi w' A k S g1 g2 := by
  have hS : ∀ x, S x → x ∉ F := fun x hx hm => by have := h.rng x hx; have := hF x hm; omega
  have q1 : 0 < k.base.seen.length → g1 ∉ F := fun e hm => by have := h.s1 e; have := hF _ hm; omega
  have q2 : 0 < k.node.seen.length → g2 ∉ F := fun e hm => by have := h.s2 e; have := hF _ hm; omega
  exact ⟨h.rng, h.s1, h.s2, h.ne, ⟨h.b.k.keeps hk hS, h.b.p.keeps hk hS, h.b.o.keeps hk hS, h.b.s.keeps hk hS q1, h.b.r.keeps hk hS⟩, ⟨h.n.k.keeps hk hS, h.n.p.keeps hk hS, h.n.o.keeps hk hS, h.n.s.keeps hk hS q2, h.n.r.keeps hk hS⟩, h.wt.keeps hk hS, h.sk.keeps hk hS⟩
theorem KpS.wide {lo hi lo' hi' : Nat} {w : World} {A : KA} {k : Kp} {S : Nat → Prop} {g1 g2 : Nat} (h : KpS lo hi w A k S g1 g2) (h1 : lo' ≤ lo) (h2 : hi ≤ hi') : KpS lo' hi' w A k S g1 g2 :=
  ⟨fun b hb => by have := h.rng b hb; omega, fun e => ⟨by have := h.s1 e; omega, by have := h.s1 e; omega, (h.s1 e).2.2⟩, fun e => ⟨by have := h.s2 e; omega, by have := h.s2 e; omega, (h.s2 e).2.2⟩, h.ne, h.b, h.n, h.wt, h.sk⟩
theorem NdS.of {S : Nat → Prop} {w : World} {A : Ads} {G : Blks} {n : Nd} (h : NodeW w A G n) (hS : ∀ x ∈ G.all n, (0 < n.seen.length → x ≠ G.s) → S x) (hn : (G.all n).Nodup) : NdS S w A G.s n := by
  have hm : ∀ x, x ∈ fp G.k n.kids ∨ x ∈ fp G.p n.pu ∨ x ∈ fp G.o n.out ∨ x ∈ fp G.s n.seen ∨ x ∈ fpI G.i n.seen ∨ x ∈ fp G.r n.reqs → x ∈ G.all n := fun x hx => Blks.mem_all.2 hx
  refine ⟨Wr.of_W encNum_length h.k (fun e => hS _ (hm _ (.inl (fp_mem e))) (fun es => (all_ne_s hn es).1 e)), Wr.of_W encP_length h.p (fun e => hS _ (hm _ (.inr (.inl (fp_mem e)))) (fun es => (all_ne_s hn es).2.1 e)), Wr.of_W encSnt_length h.o (fun e => hS _ (hm _ (.inr (.inr (.inl (fp_mem e))))) (fun es => (all_ne_s hn es).2.2.1 e)), SeenSc.of h.s (fun x hx => hS x (hm _ (.inr (.inr (.inr (.inr (.inl hx)))))) (fun es => (all_ne_s hn es).2.2.2.2 x hx)), Wr.of_W encRq_length h.r (fun e => hS _ (hm _ (.inr (.inr (.inr (.inr (.inr (fp_mem e))))))) (fun es => (all_ne_s hn es).2.2.2.1 e))⟩
theorem KpS.of {lo hi x y : Nat} {w : World} {A1 A2 : Ads} {G1 G2 : Blks} {k : Kp} (h1 : NodeW w A1 G1 k.base) (n1 : (G1.all k.base).Nodup) (r1 : ∀ b ∈ G1.all k.base, lo ≤ b ∧ b < hi) (h2 : NodeW w A2 G2 k.node) (n2 : (G2.all k.node).Nodup) (r2 : ∀ b ∈ G2.all k.node, lo ≤ b ∧ b < hi) (d : ∀ a ∈ G1.all k.base, ∀ b ∈ G2.all k.node, a < b)
    (h3 : GR.Blk encMg 106 w x k.wait) (hx : lo ≤ x ∧ x < hi) (x1 : ∀ b ∈ G1.all k.base, b < x) (x2 : ∀ b ∈ G2.all k.node, b < x) (h4 : GR.Blk encAn 110 w y k.asked) (hy : lo ≤ y ∧ y < hi) (y1 : ∀ b ∈ G1.all k.base, b < y) (y2 : ∀ b ∈ G2.all k.node, b < y) :
    KpS lo hi w ⟨A1, A2, some ⟨x, 0, none⟩, k.wait.length, some ⟨y, 0, none⟩, k.asked.length⟩ k (fun b => (lo ≤ b ∧ b < hi) ∧ (0 < k.base.seen.length → b ≠ G1.s) ∧ (0 < k.node.seen.length → b ≠ G2.s)) G1.s G2.s := by
  have m1 : 0 < k.base.seen.length → G1.s ∈ G1.all k.base := fun e => Blks.mem_all.2 (.inr (.inr (.inr (.inl (fp_mem e)))))
  have m2 : 0 < k.node.seen.length → G2.s ∈ G2.all k.node := fun e => Blks.mem_all.2 (.inr (.inr (.inr (.inl (fp_mem e)))))
  refine ⟨fun b hb => hb.1, fun e => ⟨(r1 _ (m1 e)).1, (r1 _ (m1 e)).2, fun hb => hb.2.1 e rfl⟩, fun e => ⟨(r2 _ (m2 e)).1, (r2 _ (m2 e)).2, fun hb => hb.2.2 e rfl⟩, fun e1 e2 h => by have := d _ (m1 e1) _ (m2 e2); omega, NdS.of h1 (fun b hb hne => ⟨r1 b hb, hne, fun e h => by have := d b hb _ (m2 e); omega⟩) n1, NdS.of h2 (fun b hb hne => ⟨r2 b hb, fun e h => by have := d _ (m1 e) b hb; omega, hne⟩) n2, Wr.of_blk encMg_length h3 ⟨hx, fun e h => by have := x1 _ (m1 e); omega, fun e h => by have := x2 _ (m2 e); omega⟩, Wr.of_blk encAn_length h4 ⟨hy, fun e h => by have := y1 _ (m1 e); omega, fun e h => by have := y2 _ (m2 e); omega⟩⟩
end Go.Proofs.Ytgkimogaghgjaaa
