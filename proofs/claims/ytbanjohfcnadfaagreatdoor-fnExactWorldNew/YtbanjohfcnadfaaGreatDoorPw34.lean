/- Parts. -/
import Derived.Test.YtbanjohfcnadfaaGreatDoorPw32
import Derived.Test.YtbanjohfcnadfaaGreatDoorPw33
import Derived.Test.YtbanjohfcnadfaaGreatDoorPw13
namespace Go.Proofs.YtbanjohfcnadfaaGreatDoor
open Go.RowKit
open Mth

/-- What a keeper without anything waiting has: base, node, log, how much of it is safe. -/
structure KE where
  b : Nd
  n : Nd
  log : ByteArray
  safe : Int
/-- Such a keeper, the addresses and blocks of its two nodes. -/
abbrev KdI := KE × (Ads × Blks) × (Ads × Blks)
def encN (x : KdI) : List Value := (ndc x.1.b x.2.1.1).toList ++ ((ndc x.1.n x.2.2.1).toList ++ [.string x.1.log, .int .i64 x.1.safe, .slice none 0 0, .slice none 0 0])
/-- A new keeper. -/
def newE (n : Nd) : KE := ⟨n, n, ByteArray.empty, 0⟩
/-- All blocks of a keeper's rows. -/
def allK (x : KdI) : List Nat := x.2.1.2.all x.1.b ++ x.2.2.2.all x.1.n
def fpK (L : List KdI) : List Nat := L.flatMap allK
theorem fpK_snoc (L : List KdI) (x : KdI) : fpK (L ++ [x]) = fpK L ++ allK x := by simp [fpK]
theorem fpK_mem {L : List KdI} {x : KdI} (h : x ∈ L) : ∀ b ∈ allK x, b ∈ fpK L := fun _ hb => List.mem_flatMap.2 ⟨x, h, hb⟩
structure KdW (w : World) (x : KdI) : Prop where
  b : NodeW w x.2.1.1 x.2.1.2 x.1.b
  n : NodeW w x.2.2.1 x.2.2.2 x.1.n
theorem KdW.below {w w' : World} {x : KdI} (h : KdW w x) (hb : Below w.heap.size w w') : KdW w' x := ⟨h.b.below hb, h.n.below hb⟩
theorem KdW.keeps {w w' : World} {x : KdI} {F : List Nat} (h : KdW w x) (hk : KeepsL F w w') (hd : ∀ b ∈ allK x, b ∉ F) : KdW w' x :=
  ⟨h.b.keeps hk (fun b hb => hd b (List.mem_append_left _ hb)), h.n.keeps hk (fun b hb => hd b (List.mem_append_right _ hb))⟩
structure KL (w : World) (lo : Nat) (v : Value) (L : List KdI) : Prop where
  own : w.ownsRow lo 54 22 v L.length (GR.flat encN L)
  each : ∀ x ∈ L, KdW w x
  rng : ∀ b ∈ fpK L, lo ≤ b ∧ b < w.heap.size
  nd : (fpK L).Nodup
  ne : ∀ b, v.ownBlock = some b → b ∉ fpK L
theorem KL.step {w w' : World} {lo : Nat} {v : Value} {L : List KdI} (h : KL w lo v L) (hb : Below w.heap.size w w') : KL w' lo v L :=
  ⟨GR.own_below h.own hb, fun x hx => (h.each x hx).below hb, fun b hb2 => ⟨(h.rng b hb2).1, Nat.lt_of_lt_of_le (h.rng b hb2).2 hb.size⟩, h.nd, h.ne⟩
theorem KL.lower {w : World} {lo lo' : Nat} {v : Value} {L : List KdI} (h : KL w lo v L) (hl : lo' ≤ lo) : KL w lo' v L :=
  ⟨GR.own_lower h.own hl, h.each, fun b hb => ⟨Nat.le_trans hl (h.rng b hb).1, (h.rng b hb).2⟩, h.nd, h.ne⟩
theorem KL.blk_lt {w : World} {lo : Nat} {v : Value} {L : List KdI} (h : KL w lo v L) : ∀ b, v.ownBlock = some b → lo ≤ b ∧ b < w.heap.size := fun b hb => h.own.lt b hb
/-- One more. m: a place that all rows of before lie below, and those of the new one do not. -/
theorem KL.app {w w6 : World} {lo m : Nat} {v v' : Value} {L : List KdI} {x : KdI} (h : KL w lo v L) (hx : KdW w x) (hlo : lo ≤ m) (hnd : (allK x).Nodup) (hrng : ∀ b ∈ allK x, m ≤ b ∧ b < w.heap.size)
    (hL : ∀ b ∈ fpK L, b < m) (hv : ∀ b, v.ownBlock = some b → b < m)
    (hown : w6.ownsRow lo 54 22 v' (L.length + 1) (GR.flat encN L ++ encN x)) (hg : w.grownBy w6 v.ownBlock) (hv' : ∀ b, v'.ownBlock = some b → v.ownBlock = some b ∨ w.heap.size ≤ b) : KL w6 lo v' (L ++ [x]) := by
  have hk : KeepsL v.ownBlock.toList w w6 := ⟨hg.os, hg.tape, hg.output, hg.size, fun k hk hm => hg.block k hk (fun e => hm (by rw [← e]; simp))⟩
  have hsame : ∀ b, b ∈ v.ownBlock.toList → v.ownBlock = some b := fun b hb => by
    cases hv2 : v.ownBlock with
    | none => rw [hv2] at hb; simp at hb
    | some c => rw [hv2] at hb; simp at hb; rw [hb]
  refine ⟨?_, fun y hy => ?_, fun b hb => ?_, ?_, fun b hb hm => ?_⟩
  · rw [List.length_append, GR.flat_append, GR.flat_one]
    exact hown
  · rcases List.mem_append.1 hy with hy | hy
    · exact (h.each y hy).keeps hk (fun b hb hm => h.ne b (hsame b hm) (fpK_mem hy b hb))
    · obtain rfl : y = x := by simpa using hy
      exact hx.keeps hk (fun b hb hm => by have h1 := hv b (hsame b hm); have h2 := (hrng b hb).1; omega)
  · have hs := hg.size
    rw [fpK_snoc, List.mem_append] at hb
    rcases hb with hb | hb
    · have := h.rng b hb; omega
    · have := hrng b hb; omega
  · rw [fpK_snoc]
    exact List.nodup_append.2 ⟨h.nd, hnd, fun a ha b hb e => by have h1 := hL a ha; have h2 := (hrng b hb).1; omega⟩
  · rw [fpK_snoc, List.mem_append] at hm
    rcases hv' b hb with h1 | h1
    · rcases hm with hm | hm
      · exact h.ne b h1 hm
      · have h2 := hv b h1; have h3 := (hrng b hm).1; omega
    · rcases hm with hm | hm
      · have := (h.rng b hm).2; omega
      · have := (hrng b hm).2; omega
theorem infoKeeper : (Tryz.prog.info? 54).map (fun i => (i.zero, i.size, i.bytes)) = some (some (.agg zk22), 22, 376) := by kernel_rfl
theorem KL.nil {w : World} {lo : Nat} {v : Value} (h : w.ownsRow lo 54 22 v 0 []) : KL w lo v [] :=
  ⟨h, fun x hx => by simp at hx, fun b hb => by simp [fpK] at hb, List.nodup_nil, fun b _ hb => by simp [fpK] at hb⟩
theorem encN_one (x : KdI) : ∀ u ∈ encN x, u.oneCell' = true := fun u hu => List.all_eq_true.1 (show (encN x).all (·.oneCell') = true by kernel_rfl) u hu
/-- A keeper more behind a row of keepers. -/
theorem KL.more {w1 wz : World} {lo : Nat} {v : Value} {L : List KdI} {x : KdI} (h : KL w1 lo v L) (hlo : lo ≤ w1.heap.size) (hlen : L.length ≤ 1000) (hb : Below w1.heap.size w1 wz) (hW : KdW wz x) (hnd : (allK x).Nodup) (hrg : ∀ b ∈ allK x, w1.heap.size ≤ b ∧ b < wz.heap.size) :
    ∃ v' w2, (Builtin.append_ #[27, 27] 27 #[v, .slice (some ⟨wz.heap.size, 0, none⟩) 1 1]).run Tryz.prog (wz.alloc (.cells (encN x).toArray 54)) = .ok v' w2 ∧ KL w2 lo v' (L ++ [x]) ∧ (wz.alloc (.cells (encN x).toArray 54)).grownBy w2 v.ownBlock := by
  obtain ⟨i0, hi, hz0, hz1, hz2⟩ := info_parts infoKeeper
  have hs := hb.size
  have hz : (wz.alloc (.cells (encN x).toArray 54)).heap.size = wz.heap.size + 1 := by simp
  have hb2 := hb.trans ((below_one wz (.cells (encN x).toArray 54)).mono hs)
  have h3 := h.step hb2
  obtain ⟨v', w2, hrun, hown, hg, hv⟩ := run_append_where (P := Tryz.prog) (wz.alloc (.cells (encN x).toArray 54)) lo 27 27 54 i0 (.agg zk22) 22 376 Tryz.underlying27 hi hz0 hz1 hz2 rfl (by decide) v L.length (GR.flat encN L) h3.own ⟨wz.heap.size, 0, none⟩ 1 1 (encN x) rfl (World.news_of_block (heap_alloc_new wz _)) (encN_one _) (by unfold maxLen; omega) (by omega) (by omega)
  exact ⟨v', w2, hrun, KL.app (m := w1.heap.size) (x := x) h3 (hW.below (below_one wz _)) hlo hnd (fun b hb => ⟨(hrg b hb).1, by have := (hrg b hb).2; omega⟩) (fun b hb => (h.rng b hb).2) (fun b hb => (h.blk_lt b hb).2) hown hg hv, hg⟩

/-- A node as NodeNew makes it. -/
structure SmallN (n : Nd) : Prop where
  pu : n.pu = []
  out : n.out = []
  reqs : n.reqs = []
  ids : ∀ x ∈ n.seen, x.ids = []
  k : n.kids.length ≤ 100
  s : n.seen.length ≤ 100
theorem SmallN.sz {n : Nd} (h : SmallN n) : NdSz n 1048576 := by
  refine ⟨Nat.le_trans h.k (by omega), ?_, ?_, ?_, ?_, ?_, ?_, ?_, ?_⟩
  · rw [h.pu]; exact Nat.zero_le _
  · rw [h.out]; exact Nat.zero_le _
  · exact Nat.le_trans h.s (by omega)
  · rw [h.reqs]; exact Nat.zero_le _
  · intro x hx; rw [h.pu] at hx; simp at hx
  · intro x hx; rw [h.out] at hx; simp at hx
  · intro x hx; rw [h.ids x hx]; exact Nat.zero_le _
  · intro x hx; rw [h.reqs] at hx; simp at hx
def mNd (m : Nat) (n : Nd) : Nd := ⟨(m : Int), (m : Int) + 1, mks mkInt 1 (m + 2) n.kids n.kids.length, (m : Int) + 2 + n.kids.length, [], [], mSeen (m + 3 + n.kids.length) n.seen, (eSeen (m + 3 + n.kids.length) n.seen : Nat), []⟩
def eNd (m : Nat) (n : Nd) : Nat := eSeen (m + 3 + n.kids.length) n.seen + 1
theorem eNd_le {m : Nat} {n : Nd} (h : SmallN n) : m < eNd m n ∧ eNd m n ≤ m + 400 := by
  have h1 := eSeen_le (m + 3 + n.kids.length) 0 n.seen (fun x hx => by rw [h.ids x hx]; exact Nat.le_refl _)
  have h2 := h.k
  have h3 := h.s
  unfold eNd
  omega
theorem all_mNd {G : Blks} {m : Nat} {n : Nd} (h : SmallN n) : G.all (mNd m n) = G.all n := by
  unfold Blks.all mNd
  dsimp only
  rw [h.pu, h.out, h.reqs, fp_len (l := mks mkInt 1 (m + 2) n.kids n.kids.length) (l' := n.kids) (mks_length mkInt 1 (m + 2) n.kids n.kids.length (Nat.le_refl _)), fp_len (l := mSeen (m + 3 + n.kids.length) n.seen) (l' := n.seen) (mSeen_length _ _), fpI_congr (mSeen_length (m + 3 + n.kids.length) n.seen) (fun i h1 h2 => by rw [mSeen_at _ _ i h2, mSn_ids])]
/-- A row of nodes that may be written. -/
structure NR (w : World) (a : Option Addr) (g : Nat) (L : List NdI) : Prop where
  row : GR.W enc9 9 w a g (rows9 L)
  each : ∀ x ∈ L, NodeW w x.2.1 x.2.2 x.1
  nd : (fp g L ++ fpN L).Nodup
theorem NL.nr {w : World} {lo : Nat} {v : Value} {L : List NdI} (h : NL w lo v L) : ∃ a c g, v = .slice a L.length c ∧ NR w a g L ∧ ∀ x ∈ fp g L ++ fpN L, lo ≤ x ∧ x < w.heap.size := by
  have ho := h.own
  rw [← rows9_length L] at ho
  obtain ⟨a, c, g, hv, hW, hr, ho2⟩ := GR.W.of_own enc9_length ho
  rw [rows9_length] at hv
  have hfp : fp g (rows9 L) = fp g L := fp_len (rows9_length L)
  rw [hfp] at hr ho2
  refine ⟨a, c, g, hv, ⟨hW, h.each, List.nodup_append.2 ⟨?_, h.nd, fun x hx y hy e => ?_⟩⟩, fun x hx => ?_⟩
  · unfold fp
    split <;> simp
  · subst e
    exact h.ne x (ho2 x hx) hy
  · rcases List.mem_append.1 hx with hx | hx
    · exact hr x hx
    · exact h.rng x hx
theorem fpN_at {L : List NdI} {i : Nat} (hi : i < L.length) : ∀ b ∈ L[i].2.2.all L[i].1, b ∈ fpN L := fpN_mem (List.getElem_mem hi)
theorem fpN_far {L : List NdI} (h : (fpN L).Nodup) : ∀ {i k : Nat} (hi : i < L.length) (hk : k < L.length), i ≠ k → ∀ b ∈ L[i].2.2.all L[i].1, b ∉ L[k].2.2.all L[k].1 := by
  induction L with
  | nil => intro i k hi; simp at hi
  | cons y L ih =>
    have h2 : (y.2.2.all y.1 ++ fpN L).Nodup := h
    obtain ⟨_, h3, h4⟩ := List.nodup_append.1 h2
    intro i k hi hk hne b hb hm
    cases i with
    | zero =>
      cases k with
      | zero => exact hne rfl
      | succ k => exact h4 b hb b (fpN_at (L := L) (i := k) (by simpa using hk) b (by simpa using hm)) rfl
    | succ i =>
      cases k with
      | zero => exact h4 b (by simpa using hm) b (fpN_at (L := L) (i := i) (by simpa using hi) b (by simpa using hb)) rfl
      | succ k => exact ih h3 (i := i) (k := k) (by simpa using hi) (by simpa using hk) (by omega) b (by simpa using hb) (by simpa using hm)
theorem fpN_set {L : List NdI} {k : Nat} (hk : k < L.length) (x : NdI) (h : x.2.2.all x.1 = L[k].2.2.all L[k].1) : fpN (L.set k x) = fpN L := by
  induction L generalizing k with
  | nil => simp at hk
  | cons y L ih =>
    cases k with
    | zero =>
      show x.2.2.all x.1 ++ fpN L = y.2.2.all y.1 ++ fpN L
      rw [h]
      rfl
    | succ k =>
      show y.2.2.all y.1 ++ fpN (L.set k x) = y.2.2.all y.1 ++ fpN L
      rw [ih (k := k) (by simpa using hk) (by simpa using h)]
theorem small_dis {G : Blks} {n : Nd} (h : (G.all n).Nodup) : (∀ x ∈ fp G.k n.kids, x ∉ fp G.s n.seen ++ fpI G.i n.seen) ∧ (fp G.s n.seen ++ fpI G.i n.seen).Nodup := by
  unfold Blks.all at h
  simp only [List.nodup_append, List.mem_append] at h
  obtain ⟨_, ⟨_, ⟨_, ⟨n4, ⟨n5, n6, d6⟩, d5⟩, d4⟩, d3⟩, d2⟩ := h
  refine ⟨fun x hx hm => ?_, List.nodup_append.2 ⟨n4, n5, fun a ha b hb => d5 a ha b (.inl hb)⟩⟩
  rcases List.mem_append.1 hm with hm | hm
  · exact d2 x hx x (.inr (.inr (.inl hm))) rfl
  · exact d2 x hx x (.inr (.inr (.inr (.inl hm)))) rfl
theorem SeenW.off {F : List Nat} {w w' : World} {a : Option Addr} {g : Nat} {I : Nat → Nat} {l : List Sn} (h : SeenW w a g I l) (hk : KeepsL F w w') (hd : ∀ x ∈ fp g l ++ fpI I l, x ∉ F) : SeenW w' a g I l := h.keeps hk (fun x hx => hd x (List.mem_append_left _ hx)) (fun x hx => hd x (List.mem_append_right _ hx))
/-- One node of a row is written anew. -/
theorem NR.round {w w' : World} {a : Option Addr} {g : Nat} {L : List NdI} (h : NR w a g L) (k : Nat) (hk : k < L.length) (x : NdI) (hx2 : x.2 = L[k].2) (hrow : GR.W enc9 9 w' a g ((rows9 L).set k (r9 x))) (hnode : NodeW w' L[k].2.1 L[k].2.2 x.1) (hall : L[k].2.2.all x.1 = L[k].2.2.all L[k].1) (hkeep : KeepsL (g :: L[k].2.2.all L[k].1) w w') : NR w' a g (L.set k x) ∧ KeepsL (fp g L ++ fpN L) w w' := by
  have hal : x.2.2.all x.1 = L[k].2.2.all L[k].1 := by rw [hx2]; exact hall
  obtain ⟨_, n2, n3⟩ := List.nodup_append.1 h.nd
  have hgm : g ∈ fp g L := fp_mem (by omega)
  refine ⟨⟨?_, fun y hy => ?_, ?_⟩, hkeep.mono (fun z hz => ?_)⟩
  · have e : rows9 (L.set k x) = (rows9 L).set k (r9 x) := by simp [rows9, List.map_set]
    rw [e]
    exact hrow
  · obtain ⟨i, hi, rfl⟩ := List.getElem_of_mem hy
    by_cases hik : i = k
    · subst hik
      rw [List.getElem_set_self]
      rw [hx2]
      exact hnode
    · rw [List.getElem_set_ne (by omega)]
      have hi' : i < L.length := by simpa using hi
      refine (h.each L[i] (List.getElem_mem hi')).keeps hkeep (fun b hb hm => ?_)
      rcases List.mem_cons.1 hm with e | hm
      · exact n3 g hgm b (fpN_at hi' b hb) e.symm
      · exact fpN_far n2 hi' hk hik b hb hm
  · rw [fpN_set hk x hal, fp_len (l := L.set k x) (l' := L) (by simp)]
    exact h.nd
  · rcases List.mem_cons.1 hz with e | hz
    · rw [e]; exact List.mem_append_left _ hgm
    · exact List.mem_append_right _ (fpN_at hk z hz)
theorem NR.keeps {w w' : World} {a : Option Addr} {g : Nat} {L : List NdI} {F : List Nat} (h : NR w a g L) (hk : KeepsL F w w') (hF : ∀ x ∈ fp g L ++ fpN L, x ∉ F) : NR w' a g L :=
  ⟨h.row.keeps hk (fun x hx => hF x (List.mem_append_left _ (by rwa [← fp_len (rows9_length L)]))), fun x hx => (h.each x hx).keeps hk (fun b hb => hF b (List.mem_append_right _ (fpN_mem hx b hb))), h.nd⟩
theorem NR.below {w w' : World} {a : Option Addr} {g : Nat} {L : List NdI} (h : NR w a g L) (hb : Below w.heap.size w w') : NR w' a g L := h.keeps (F := []) (KeepsL.of_below hb) (fun _ _ => by simp)

/-- A keeper's own cells. -/
structure R22 where
  b : R9
  n : R9
  log : ByteArray
  safe : Int
def enc22 (x : R22) : List Value := enc9 x.b ++ (enc9 x.n ++ [.string x.log, .int .i64 x.safe, .slice none 0 0, .slice none 0 0])
theorem enc22_length (x : R22) : (enc22 x).length = 22 := rfl
def r22 (x : KdI) : R22 := ⟨r9 (x.1.b, x.2.1), r9 (x.1.n, x.2.2), x.1.log, x.1.safe⟩
theorem enc22_encN (x : KdI) : enc22 (r22 x) = encN x := rfl
def rows22 (L : List KdI) : List R22 := L.map r22
theorem rows22_length (L : List KdI) : (rows22 L).length = L.length := by simp [rows22]
theorem flat22 (L : List KdI) : GR.flat enc22 (rows22 L) = GR.flat encN L := by
  induction L with
  | nil => rfl
  | cons x L ih =>
    show enc22 (r22 x) ++ GR.flat enc22 (rows22 L) = encN x ++ GR.flat encN L
    rw [ih, enc22_encN]
/-- Both nodes as NodeNew makes them. -/
def SmallK (x : KdI) : Prop := SmallN x.1.b ∧ SmallN x.1.n
def mKe (m : Nat) (x : KdI) : KdI := (⟨mNd m x.1.b, mNd (eNd m x.1.b) x.1.n, mark (eNd (eNd m x.1.b) x.1.n), (eNd (eNd m x.1.b) x.1.n : Nat) + 1⟩, x.2)
def eKe (m : Nat) (x : KdI) : Nat := eNd (eNd m x.1.b) x.1.n + 2
theorem eKe_le {m : Nat} {x : KdI} (h : SmallK x) : m < eKe m x ∧ eKe m x ≤ m + 900 := by
  have h1 := eNd_le (m := m) h.1
  have h2 := eNd_le (m := eNd m x.1.b) h.2
  unfold eKe
  omega
theorem all_mKe {m : Nat} {x : KdI} (h : SmallK x) : allK (mKe m x) = allK x := by
  unfold allK mKe
  dsimp only
  rw [all_mNd h.1, all_mNd h.2]
def mKs : Nat → List KdI → List KdI
  | _, [] => []
  | m, x :: l => mKe m x :: mKs (eKe m x) l
def eKs : Nat → List KdI → Nat
  | m, [] => m
  | m, x :: l => eKs (eKe m x) l
theorem mKs_snoc (m : Nat) (l : List KdI) (x : KdI) : mKs m (l ++ [x]) = mKs m l ++ [mKe (eKs m l) x] := by
  induction l generalizing m with
  | nil => rfl
  | cons y l ih => simp only [List.cons_append, mKs, eKs, ih]
theorem eKs_snoc (m : Nat) (l : List KdI) (x : KdI) : eKs m (l ++ [x]) = eKe (eKs m l) x := by
  induction l generalizing m with
  | nil => rfl
  | cons y l ih => simp only [List.cons_append, eKs, ih]
theorem mKs_length (m : Nat) (l : List KdI) : (mKs m l).length = l.length := by
  induction l generalizing m with
  | nil => rfl
  | cons y l ih => simp only [mKs, List.length_cons, ih]
theorem eKs_le (m : Nat) (l : List KdI) (h : ∀ x ∈ l, SmallK x) : m ≤ eKs m l ∧ eKs m l ≤ m + l.length * 900 := by
  induction l generalizing m with
  | nil => simp [eKs]
  | cons y l ih =>
    have h1 := eKe_le (m := m) (h y (List.mem_cons_self ..))
    have h2 := ih (eKe m y) (fun x hx => h x (List.mem_cons_of_mem _ hx))
    simp only [eKs, List.length_cons]
    omega
def mKk (m : Nat) (l : List KdI) (k : Nat) : List KdI := mKs m (l.take k) ++ l.drop k
theorem mKk_length (m : Nat) (l : List KdI) (k : Nat) (hk : k ≤ l.length) : (mKk m l k).length = l.length := by simp [mKk, mKs_length]; omega
theorem mKk_zero (m : Nat) (l : List KdI) : mKk m l 0 = l := rfl
theorem mKk_all (m : Nat) (l : List KdI) : mKk m l l.length = mKs m l := by simp [mKk]
theorem mKk_at (m : Nat) (l : List KdI) (k : Nat) (hk : k < l.length) : (mKk m l k)[k]'(by rw [mKk_length m l k (by omega)]; exact hk) = l[k] := by
  unfold mKk
  rw [List.getElem_append_right (by rw [mKs_length, List.length_take]; omega)]
  simp [mKs_length, List.length_take, Nat.min_eq_left (Nat.le_of_lt hk)]
theorem mKk_set (m : Nat) (l : List KdI) (k : Nat) (hk : k < l.length) : (mKk m l k).set k (mKe (eKs m (l.take k)) l[k]) = mKk m l (k + 1) := by
  unfold mKk
  have hlen : (mKs m (l.take k)).length = k := by rw [mKs_length, List.length_take]; omega
  rw [List.set_append_right _ _ (by omega), hlen, Nat.sub_self, List.take_succ_eq_append_getElem hk, mKs_snoc, List.drop_eq_getElem_cons hk, List.set_cons_zero, List.append_assoc]
  rfl
theorem mKs_at (m : Nat) (l : List KdI) (k : Nat) (hk : k < l.length) : (mKs m l)[k]'(by rw [mKs_length]; exact hk) = mKe (eKs m (l.take k)) l[k] := by
  induction l generalizing m k with
  | nil => simp at hk
  | cons y l ih =>
    cases k with
    | zero => rfl
    | succ k => simpa [mKs, eKs] using ih (eKe m y) k (by simpa using hk)
/-- A cell of a row is written anew. -/
theorem GR.W.cellK {w : World} {a : Option Addr} {g : Nat} {l : List R22} (h : GR.W enc22 22 w a g l) (k j : Nat) (hk : k < l.length) (hj : j < 22) (v : Value) (x : R22) (hx : enc22 x = (enc22 l[k]).set j v) : GR.W enc22 22 (w.setCell ⟨g, k * 22 + j, none⟩ v) a g (l.set k x) := fun i hi => by
  have hi' : i < l.length := by simpa using hi
  obtain ⟨e, hg, hc⟩ := h i hi'
  refine ⟨e, by simpa [World.setCell] using hg, fun q hq => ⟨?_, by rw [World.frozen?_setCell]; exact (hc q hq).2⟩⟩
  by_cases hik : i = k
  · subst hik
    rw [List.getElem_set_self, hx]
    by_cases hqj : q = j
    · subst hqj
      rw [World.cell?_setCell_same _ _ _ ((hc q hq).1.trans (List.getElem?_eq_getElem (by rw [enc22_length]; exact hq)))]
      rw [List.getElem?_set_self (by rw [enc22_length]; exact hq)]
    · rw [World.cell?_setCell_other _ _ _ _ (by first | omega | (simp <;> omega)), (hc q hq).1, List.getElem?_set_ne (by omega)]
  · rw [World.cell?_setCell_other _ _ _ _ (by first | omega | (simp <;> omega)), (hc q hq).1, List.getElem_set_ne (by omega)]
/-- A row of keepers that may be written. -/
structure KRw (w : World) (a : Option Addr) (g : Nat) (L : List KdI) : Prop where
  row : GR.W enc22 22 w a g (rows22 L)
  each : ∀ x ∈ L, KdW w x
  nd : (fp g L ++ fpK L).Nodup
theorem KL.kr {w : World} {lo : Nat} {v : Value} {L : List KdI} (h : KL w lo v L) : ∃ a c g, v = .slice a L.length c ∧ KRw w a g L ∧ ∀ x ∈ fp g L ++ fpK L, lo ≤ x ∧ x < w.heap.size := by
  have ho := h.own
  rw [← flat22, ← rows22_length L] at ho
  obtain ⟨a, c, g, hv, hW, hr, ho2⟩ := GR.W.of_own enc22_length ho
  rw [rows22_length] at hv
  have hfp : fp g (rows22 L) = fp g L := fp_len (rows22_length L)
  rw [hfp] at hr ho2
  refine ⟨a, c, g, hv, ⟨hW, h.each, List.nodup_append.2 ⟨?_, h.nd, fun x hx y hy e => ?_⟩⟩, fun x hx => ?_⟩
  · unfold fp
    split <;> simp
  · subst e
    exact h.ne x (ho2 x hx) hy
  · rcases List.mem_append.1 hx with hx | hx
    · exact hr x hx
    · exact h.rng x hx
theorem fpK_at {L : List KdI} {i : Nat} (hi : i < L.length) : ∀ b ∈ allK L[i], b ∈ fpK L := fpK_mem (List.getElem_mem hi)
theorem fpK_far {L : List KdI} (h : (fpK L).Nodup) : ∀ {i k : Nat} (hi : i < L.length) (hk : k < L.length), i ≠ k → ∀ b ∈ allK L[i], b ∉ allK L[k] := by
  induction L with
  | nil => intro i k hi; simp at hi
  | cons y L ih =>
    have h2 : (allK y ++ fpK L).Nodup := h
    obtain ⟨_, h3, h4⟩ := List.nodup_append.1 h2
    intro i k hi hk hne b hb hm
    cases i with
    | zero =>
      cases k with
      | zero => exact hne rfl
      | succ k => exact h4 b hb b (fpK_at (L := L) (i := k) (by simpa using hk) b (by simpa using hm)) rfl
    | succ i =>
      cases k with
      | zero => exact h4 b (by simpa using hm) b (fpK_at (L := L) (i := i) (by simpa using hi) b (by simpa using hb)) rfl
      | succ k => exact ih h3 (i := i) (k := k) (by simpa using hi) (by simpa using hk) (by omega) b (by simpa using hb) (by simpa using hm)
theorem fpK_set {L : List KdI} {k : Nat} (hk : k < L.length) (x : KdI) (h : allK x = allK L[k]) : fpK (L.set k x) = fpK L := by
  induction L generalizing k with
  | nil => simp at hk
  | cons y L ih =>
    cases k with
    | zero =>
      show allK x ++ fpK L = allK y ++ fpK L
      rw [h]
      rfl
    | succ k =>
      show allK y ++ fpK (L.set k x) = allK y ++ fpK L
      rw [ih (k := k) (by simpa using hk) (by simpa using h)]
theorem fpK_nd {L : List KdI} (h : (fpK L).Nodup) {k : Nat} (hk : k < L.length) {x : KdI} (e : L[k] = x) : (allK x).Nodup := by
  subst e
  induction L generalizing k with
  | nil => simp at hk
  | cons y L ih =>
    have h2 : (allK y ++ fpK L).Nodup := h
    obtain ⟨h1, h3, _⟩ := List.nodup_append.1 h2
    cases k with
    | zero => exact h1
    | succ k => exact ih h3 (k := k) (by simpa using hk)
/-- One keeper of a row is written anew. -/
theorem KRw.round {w w' : World} {a : Option Addr} {g : Nat} {L : List KdI} (h : KRw w a g L) (k : Nat) (hk : k < L.length) (x : KdI) (hrow : GR.W enc22 22 w' a g ((rows22 L).set k (r22 x))) (hnode : KdW w' x) (hall : allK x = allK L[k]) (hkeep : KeepsL (g :: allK L[k]) w w') : KRw w' a g (L.set k x) ∧ KeepsL (fp g L ++ fpK L) w w' := by
  obtain ⟨_, n2, n3⟩ := List.nodup_append.1 h.nd
  have hgm : g ∈ fp g L := fp_mem (by omega)
  refine ⟨⟨?_, fun y hy => ?_, ?_⟩, hkeep.mono (fun z hz => ?_)⟩
  · have e : rows22 (L.set k x) = (rows22 L).set k (r22 x) := by simp [rows22, List.map_set]
    rw [e]
    exact hrow
  · obtain ⟨i, hi, rfl⟩ := List.getElem_of_mem hy
    by_cases hik : i = k
    · subst hik
      rw [List.getElem_set_self]
      exact hnode
    · rw [List.getElem_set_ne (by omega)]
      have hi' : i < L.length := by simpa using hi
      refine (h.each L[i] (List.getElem_mem hi')).keeps hkeep (fun b hb hm => ?_)
      rcases List.mem_cons.1 hm with e | hm
      · exact n3 g hgm b (fpK_at hi' b hb) e.symm
      · exact fpK_far n2 hi' hk hik b hb hm
  · rw [fpK_set hk x hall, fp_len (l := L.set k x) (l' := L) (by simp)]
    exact h.nd
  · rcases List.mem_cons.1 hz with e | hz
    · rw [e]; exact List.mem_append_left _ hgm
    · exact List.mem_append_right _ (fpK_at hk z hz)
theorem mKk_fp {s : Nat} {L : List KdI} (h : ∀ x ∈ L, SmallK x) {g k : Nat} (hk : k ≤ L.length) : fp g (mKk s L k) ++ fpK (mKk s L k) = fp g L ++ fpK L := by
  have h1 : fp g (mKk s L k) = fp g L := fp_len (mKk_length s L k hk)
  have h2 : ∀ (m : Nat) (l : List KdI), (∀ x ∈ l, SmallK x) → fpK (mKs m l) = fpK l := fun m l => by
    induction l generalizing m with
    | nil => intro _; rfl
    | cons y l ih =>
      intro hl
      show allK (mKe m y) ++ fpK (mKs (eKe m y) l) = allK y ++ fpK l
      rw [all_mKe (hl y (List.mem_cons_self ..)), ih _ (fun x hx => hl x (List.mem_cons_of_mem _ hx))]
  have h3 : fpK (mKk s L k) = fpK (mKs s (L.take k)) ++ fpK (L.drop k) := by simp [mKk, fpK]
  have h4 : fpK L = fpK (L.take k) ++ fpK (L.drop k) := by
    have e : fpK (L.take k ++ L.drop k) = fpK (L.take k) ++ fpK (L.drop k) := by unfold fpK; rw [List.flatMap_append]
    rw [List.take_append_drop] at e
    exact e
  rw [h1, h3, h4, h2 s (L.take k) (fun x hx => h x (List.mem_of_mem_take hx))]
theorem KRw.keeps {w w' : World} {a : Option Addr} {g : Nat} {L : List KdI} {F : List Nat} (h : KRw w a g L) (hk : KeepsL F w w') (hF : ∀ x ∈ fp g L ++ fpK L, x ∉ F) : KRw w' a g L :=
  ⟨h.row.keeps hk (fun x hx => hF x (List.mem_append_left _ (by rwa [← fp_len (rows22_length L)]))), fun x hx => (h.each x hx).keeps hk (fun b hb => hF b (List.mem_append_right _ (fpK_mem hx b hb))), h.nd⟩
theorem KRw.below {w w' : World} {a : Option Addr} {g : Nat} {L : List KdI} (h : KRw w a g L) (hb : Below w.heap.size w w') : KRw w' a g L := h.keeps (F := []) (KeepsL.of_below hb) (fun _ _ => by simp)

theorem new_small (id par : Int) (kids : List Int) (h : kids.length ≤ 90) : SmallN (newN id par kids).1 := by
  unfold newN
  split
  · refine ⟨rfl, rfl, rfl, fun x hx => ?_, by show kids.length ≤ 100; omega, ?_⟩
    · obtain ⟨y, _, rfl⟩ := List.mem_map.1 hx
      rfl
    · show (List.map _ (srt (nbrs (nnode id par kids [])))).length ≤ 100
      rw [List.length_map, srt_length]
      unfold nbrs
      rw [List.length_append]
      show kids.length + _ ≤ 100
      split <;> simp <;> omega
  · exact ⟨rfl, rfl, rfl, fun x hx => by simp [zeroNd] at hx, by simp [zeroNd], by simp [zeroNd]⟩
theorem nodesT_small (l : List Int) : (∀ n ∈ nodesT l, SmallN n) ∧ (nodesT l).length ≤ 30 := by
  cases h : treeB l
  · rw [nodesT_no h]
    exact ⟨fun n hn => by simp at hn, by simp⟩
  · rw [nodesT_yes h]
    have hl := (TreeP.of h).le
    refine ⟨fun n hn => ?_, by simp [nodesTo]; omega⟩
    obtain ⟨i, _, rfl⟩ := List.mem_map.1 hn
    exact new_small _ _ _ (Nat.le_trans (kidsTo_len l _ l.length) (by omega))
theorem small_of {l : List Int} {L : List NdI} (h : L.map (fun x => x.1) = nodesT l) : (∀ x ∈ L, SmallN x.1) ∧ L.length ≤ 30 := by
  have hs := nodesT_small l
  rw [← h] at hs
  exact ⟨fun x hx => hs.1 x.1 (List.mem_map_of_mem hx), by simpa using hs.2⟩
theorem blk_W {w : World} {g : Nat} {l : List Int} (h : intBlk w g l) : GR.W encNum 1 w (some ⟨g, 0, none⟩) g l := fun i hi => ⟨rfl, GR.Blk.lt h, fun j hj => ⟨GR.Blk.cell h encNum_length i hi j hj, GR.Blk.free h _⟩⟩
theorem node_one {w : World} {a : Option Addr} {g : Nat} {L : List NdI} (h : NR w a g L) (i : Nat) (hi : i < L.length) : a = some ⟨g, 0, none⟩ ∧ g < w.heap.size ∧ (∀ j, j < 9 → w.cell? ⟨g, i * 9 + j, none⟩ = (enc9 (r9 L[i]))[j]?) ∧ NodeW w L[i].2.1 L[i].2.2 L[i].1 := by
  have hir : i < (rows9 L).length := by rw [rows9_length]; exact hi
  obtain ⟨e, hg, hc⟩ := h.row i hir
  have hrk : (rows9 L)[i] = r9 L[i] := by simp [rows9]
  rw [hrk] at hc
  exact ⟨e, hg, fun j hj => (hc j hj).1, h.each _ (List.getElem_mem hi)⟩
end Go.Proofs.YtbanjohfcnadfaaGreatDoor
