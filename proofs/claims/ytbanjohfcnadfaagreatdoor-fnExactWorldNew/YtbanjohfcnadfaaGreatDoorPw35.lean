/- Parts. -/
import Derived.Test.YtbanjohfcnadfaaGreatDoorPw32
import Derived.Test.YtbanjohfcnadfaaGreatDoorPw10
import Derived.Test.YtbanjohfcnadfaaGreatDoorPw34
import Derived.Test.YtbanjohfcnadfaaGreatDoorPw22
import Derived.Deep.RegionHeld
import Derived.BigFrame
namespace Go.Proofs.YtbanjohfcnadfaaGreatDoor
open Go.RowKit
open Mth

/-- A keeper's cells lie in a block. -/
structure KR (W : World) (g : Nat) (V : List Value) : Prop where
  r : W.rangeAt g 0 V
  l : g < W.heap.size
theorem KR.below {W W' : World} {g : Nat} {V : List Value} (h : KR W g V) (hb : Below W.heap.size W W') : KR W' g V := ⟨rangeAt_below h.r h.l hb, Nat.lt_of_lt_of_le h.l hb.size⟩
theorem KR.keeps {W W' : World} {g : Nat} {V : List Value} {F : List Nat} (h : KR W g V) (hk : KeepsL F W W') (hg : g ∉ F) : KR W' g V :=
  ⟨fun j v hj => (World.cell?_of_block (w := W) (hk.block g h.l hg)).trans (h.r j v hj), Nat.lt_of_lt_of_le h.l hk.size⟩
/-- A list of cells that is a new keeper's. -/
def IsK (V : List Value) (n : Nd) (A2 A1 : Ads) : Prop := V = (nkc n A2 A1).toList
theorem IsK.len {V : List Value} {n : Nd} {A2 A1 : Ads} (h : IsK V n A2 A1) : V.length = 22 := by unfold IsK at h; rw [h]; rfl
theorem IsK.agg {V : List Value} {n : Nd} {A2 A1 : Ads} (h : IsK V n A2 A1) : Value.agg (nkc n A2 A1) = .agg V.toArray := by unfold IsK at h; rw [h]
theorem IsK.one {V : List Value} {n : Nd} {A2 A1 : Ads} (h : IsK V n A2 A1) : V.toArray.all (·.oneCell') = true := by unfold IsK at h; rw [h]; kernel_rfl
theorem TwoW.below {w w' : World} {n : Nd} {A2 A1 : Ads} {G2 G1 : Blks} {s2 s1 : Nat} (h : TwoW w n A2 A1 G2 G1 s2 s1) (hb : Below w.heap.size w w') : TwoW w' n A2 A1 G2 G1 s2 s1 := ⟨h.b.below hb, h.n.below hb⟩
section
variable {ops : Array Oper} {rest : List Oper} {op : Oper} {a : Act} {w : World} {Q : Exit → Act → World → Prop}
theorem kLoad (hw : Region.wanted op (yielded ops a.tmps) = true) (x : Operand) (ho : op.op = .load 54 x) (g : Nat) (hx : a.eval x = .pointer (some ⟨g, 0, none⟩)) (V : List Value) (hl : V.length = 22) (hc : KR w g V)
    (h : wpList Tryz.prog ops Q rest (a.put op.dst (.agg V.toArray)) w) : wpList Tryz.prog ops Q (op :: rest) a w :=
  BigFrame.wpList_want hw fun _ hK => wp_load_mid 54 x ho g 0 hx V _ hc.r Tryz.underlying54 rfl (by rw [hl]; kernel_rfl) (hK _ _ h)
theorem kStore (hw : Region.wanted op (yielded ops a.tmps) = true) (x y : Operand) (ho : op.op = .store 54 x y) (g : Nat) (hx : a.eval x = .pointer (some ⟨g, 0, none⟩)) (V : List Value) (hy : a.eval y = .agg V.toArray) (hl : V.length = 22) (h1 : V.toArray.all (·.oneCell') = true) (hb : w.heap[g]? = some (.cells zk22 54 (0, 0)))
    (h : ∀ W, W = w.setCells g 0 V → KR W g V → wpList Tryz.prog ops Q rest (a.put op.dst undef) W) : wpList Tryz.prog ops Q (op :: rest) a w := by
  have ht : w.there g 0 22 := fun j hj => ⟨blk22 hb hj, obj_free hb _⟩
  refine BigFrame.wpList_want hw fun _ hK => wp_store_mid 54 x y ho g 0 V.toArray hx hy (by simpa [hl] using ht) (by simp only [List.size_toArray, hl]; kernel_rfl) h1 (hK _ _ ?_)
  exact h _ rfl ⟨World.rangeAt_setCells_same w g 0 V (by rw [hl]; exact ht), Nat.lt_of_lt_of_le (obj_lt hb) (setCells_keeps g V w 0).size⟩
end

def keepK (n : Nd) : KE := newE (newK n)
def keepsT (l : List Int) : List KE := (nodesT l).map keepK
def upT (l : List Int) : List Int := if treeB l = true then l else []
abbrev zw5 : Array Value := #[.slice none 0 0, .slice none 0 0, .slice none 0 0, .slice none 0 0, .slice none 0 0]
abbrev wn5 (u kv : Value) : Array Value := #[u, kv, .slice none 0 0, .slice none 0 0, .slice none 0 0]
def GivesWN (w : World) (l : List Int) (e : Ending) (w' : World) : Prop :=
  ∃ (v kv : Value) (L : List KdI), e = .returned (.tuple #[.agg (wn5 v kv), .bool (treeB l)]) ∧ L.map (fun x => x.1) = keepsT l ∧ w'.ownsRow w.heap.size 3 1 v (upT l).length (GR.flat encNum (upT l)) ∧ KL w' w.heap.size kv L ∧ (∀ b, v.ownBlock = some b → kv.ownBlock ≠ some b ∧ b ∉ fpK L) ∧ Below w.heap.size w w'
theorem KdW.lt {w : World} {x : KdI} (h : KdW w x) : ∀ b ∈ allK x, b < w.heap.size := fun b hb => by
  rcases List.mem_append.1 hb with hb | hb
  · exact all_lt h.b b hb
  · exact all_lt h.n b hb
theorem KL.keeps {w w' : World} {lo : Nat} {v : Value} {L : List KdI} {F : List Nat} (h : KL w lo v L) (hk : KeepsL F w w') (hF : ∀ x ∈ F, x < lo) : KL w' lo v L :=
  ⟨own_keepsL h.own hk hF, fun x hx => (h.each x hx).keeps hk (fun b hb hm => by have h1 := (h.rng b (fpK_mem hx b hb)).1; have h2 := hF b hm; omega), fun b hb => ⟨(h.rng b hb).1, Nat.lt_of_lt_of_le (h.rng b hb).2 hk.size⟩, h.nd, h.ne⟩
theorem small_newK {n : Nd} (h : SmallN n) : SmallN (newK n) := by
  unfold newK
  split
  · exact h
  · exact ⟨rfl, rfl, rfl, fun x hx => by simp [zeroNd] at hx, by simp [zeroNd], by simp [zeroNd]⟩
theorem smallK_of {l : List Int} {L : List KdI} (h : L.map (fun x => x.1) = keepsT l) : (∀ x ∈ L, SmallK x) ∧ L.length ≤ 30 := by
  have hs := nodesT_small l
  refine ⟨fun x hx => ?_, ?_⟩
  · have h1 : x.1 ∈ keepsT l := by rw [← h]; exact List.mem_map_of_mem hx
    obtain ⟨n, hn, e⟩ := List.mem_map.1 h1
    have h2 := small_newK (hs.1 n hn)
    unfold SmallK
    rw [← e]
    exact ⟨h2, h2⟩
  · have h1 := congrArg List.length h
    simp only [List.length_map, keepsT] at h1
    omega
theorem five_set {w : World} {g : Nat} {u kv : Value} {t : TypeId} (v' : Value) (h : w.heap[g]? = some (.cells (wn5 u kv) t (0, 0))) : (w.setCell ⟨g, 1, none⟩ v').heap[g]? = some (.cells (wn5 u v') t (0, 0)) := by
  unfold World.setCell
  simp only [Array.getElem?_modify]
  rw [if_pos trivial, h]
  simp
/-- An append at the end of a row that lies from lo on leaves all below lo. -/
theorem grown_low {w0 w1 w2 : World} {g lo : Nat} {row : Option Nat} (hk : KeepsL [g] w0 w1) (hg : w1.grownBy w2 row) (hlo : ∀ b, row = some b → lo ≤ b) (h0 : w0.heap.size ≤ lo) : KeepsL [g] w0 w2 :=
  ⟨hg.os.trans hk.os, hg.tape.trans hk.tape, hg.output.trans hk.output, Nat.le_trans hk.size hg.size, fun k hk2 hm => (hg.block k (Nat.lt_of_lt_of_le hk2 hk.size) (fun e => by have := hlo k e.symm; omega)).trans (hk.block k hk2 hm)⟩

theorem GivesWN.no {w w' : World} {l : List Int} (h : treeB l = false) (hb : Below w.heap.size w w') : GivesWN w l (.returned (.tuple #[.agg zw5, .bool false])) w' := by
  refine ⟨.slice none 0 0, .slice none 0 0, [], by rw [h], ?_, ?_, KL.nil (World.ownsRow_nil _ _ _ _), fun b hb => by simp [Value.ownBlock] at hb, hb⟩
  · rw [keepsT, nodesT_no h]
    rfl
  · rw [upT, h]
    exact World.ownsRow_nil _ _ _ _
theorem GivesWN.yes {w w' : World} {l : List Int} {v kv : Value} {L : List KdI} (h : treeB l = true) (h1 : L.map (fun x => x.1) = keepsT l) (h2 : w'.ownsRow w.heap.size 3 1 v l.length (GR.flat encNum l)) (h3 : KL w' w.heap.size kv L) (h4 : ∀ b, v.ownBlock = some b → kv.ownBlock ≠ some b ∧ b ∉ fpK L) (hb : Below w.heap.size w w') : GivesWN w l (.returned (.tuple #[.agg (wn5 v kv), .bool true])) w' := by
  refine ⟨v, kv, L, by rw [h], h1, ?_, h3, h4, hb⟩
  rw [upT, if_pos h]
  exact h2
theorem own_off {F : List Nat} {Y W : World} {B : Nat} {t : TypeId} {sz k : Nat} {v : Value} {xs : List Value} (h : Y.ownsRow B t sz v k xs) (hk : KeepsL F Y W) (hd : ∀ b, v.ownBlock = some b → b ∉ F) : W.ownsRow B t sz v k xs := by
  refine ⟨h.1, ?_⟩
  rcases h.2 with hn | ⟨g, cap, cur, rfl, hb, hgg, rest⟩
  · exact .inl hn
  · exact .inr ⟨g, cap, cur, rfl, hb, hk.obj hgg (hd g rfl), rest⟩
theorem keeps_below {w0 w w' : World} {g : Nat} (h : Below w0.heap.size w0 w) (hk : KeepsL [g] w w') (hg : w0.heap.size ≤ g) : Below w0.heap.size w0 w' :=
  h.trans (hk.below (fun x hx => by rw [List.mem_singleton.1 hx]; exact hg) h.size)

/-- A row of numbers within given blocks. -/
structure KWf (F : List Nat) (w : World) (a : Option Addr) (g : Nat) (l : List Int) : Prop where
  W : GR.W encNum 1 w a g l
  sub : ∀ x ∈ fp g l, x ∈ F
theorem KWf.keeps {F F' : List Nat} {w w' : World} {a : Option Addr} {g : Nat} {l : List Int} (h : KWf F w a g l) (hk : KeepsL F' w w') (hd : ∀ x ∈ F, x ∉ F') : KWf F w' a g l := ⟨h.W.keeps hk (fun x hx => hd x (h.sub x hx)), h.sub⟩
/-- Rows of what was seen within given blocks. -/
structure SWf (F : List Nat) (w : World) (a : Option Addr) (g : Nat) (I : Nat → Nat) (l : List Sn) : Prop where
  S : SeenW w a g I l
  sub : ∀ x ∈ fp g l ++ fpI I l, x ∈ F
theorem SWf.keeps {F F' : List Nat} {w w' : World} {a : Option Addr} {g : Nat} {I : Nat → Nat} {l : List Sn} (h : SWf F w a g I l) (hk : KeepsL F' w w') (hd : ∀ x ∈ F, x ∉ F') : SWf F w' a g I l := ⟨h.S.off hk (fun x hx => hd x (h.sub x hx)), h.sub⟩
structure KDis (g : Nat) (F1 F2 F3 F4 : List Nat) : Prop where
  g1 : ∀ x ∈ F1, x ≠ g
  g2 : ∀ x ∈ F2, x ≠ g
  g3 : ∀ x ∈ F3, x ≠ g
  g4 : ∀ x ∈ F4, x ≠ g
  d12 : ∀ x ∈ F1, x ∉ F2
  d13 : ∀ x ∈ F1, x ∉ F3
  d14 : ∀ x ∈ F1, x ∉ F4
  d23 : ∀ x ∈ F2, x ∉ F3
  d24 : ∀ x ∈ F2, x ∉ F4
  d34 : ∀ x ∈ F3, x ∉ F4
/-- The four rows of rows. -/
structure Four where
  bk : List Int
  bs : List Sn
  nk : List Int
  ns : List Sn
structure KSt (w0 w : World) (g k : Nat) (RR : List R22) (R : R22) (q : Four) (A2 A1 : Ads) (G2 G1 : Blks) (F1 F2 F3 F4 : List Nat) : Prop where
  row : GR.W enc22 22 w (some ⟨g, 0, none⟩) g (RR.set k R)
  bk : KWf F1 w A2.k G2.k q.bk
  bs : SWf F2 w A2.s G2.s G2.i q.bs
  nk : KWf F3 w A1.k G1.k q.nk
  ns : SWf F4 w A1.s G1.s G1.i q.ns
  keep : KeepsL (g :: (F1 ++ F2 ++ (F3 ++ F4))) w0 w
section
variable {w0 w w' : World} {g k : Nat} {RR : List R22} {R R' : R22} {q : Four} {A2 A1 : Ads} {G2 G1 : Blks} {F1 F2 F3 F4 : List Nat}
theorem KSt.store (h : KSt w0 w g k RR R q A2 A1 G2 G1 F1 F2 F3 F4) (d : KDis g F1 F2 F3 F4) (hk : k < RR.length) (j : Nat) (hj : j < 22) (v : Value) (hx : enc22 R' = (enc22 R).set j v) : KSt w0 (w.setCell ⟨g, k * 22 + j, none⟩ v) g k RR R' q A2 A1 G2 G1 F1 F2 F3 F4 := by
  have hs : KeepsL [g] w (w.setCell ⟨g, k * 22 + j, none⟩ v) := KeepsL.set v
  refine ⟨?_, h.bk.keeps hs (fun x hx hm => d.g1 x hx (List.mem_singleton.1 hm)), h.bs.keeps hs (fun x hx hm => d.g2 x hx (List.mem_singleton.1 hm)), h.nk.keeps hs (fun x hx hm => d.g3 x hx (List.mem_singleton.1 hm)), h.ns.keeps hs (fun x hx hm => d.g4 x hx (List.mem_singleton.1 hm)), h.keep.trans (hs.mono (fun x hx => by rw [List.mem_singleton.1 hx]; exact List.mem_cons_self ..))⟩
  have h2 := GR.W.cellK h.row k j (by simpa using hk) hj v R' (by rw [List.getElem_set_self]; exact hx)
  rw [List.set_set] at h2
  exact h2
theorem KSt.still (h : KSt w0 w g k RR R q A2 A1 G2 G1 F1 F2 F3 F4) (hK : KeepsL [] w w') : KSt w0 w' g k RR R q A2 A1 G2 G1 F1 F2 F3 F4 :=
  ⟨h.row.keeps hK (fun _ _ => by simp), h.bk.keeps hK (fun _ _ => by simp), h.bs.keeps hK (fun _ _ => by simp), h.nk.keeps hK (fun _ _ => by simp), h.ns.keeps hK (fun _ _ => by simp), h.keep.trans (hK.mono (fun x hx => by simp at hx))⟩
theorem KSt.cell (h : KSt w0 w g k RR R q A2 A1 G2 G1 F1 F2 F3 F4) (hk : k < RR.length) (j : Nat) (hj : j < 22) (v : Value) (hv : (enc22 R)[j]? = some v) : w.cell? ⟨g, k * 22 + j, none⟩ = some v ∧ w.frozen? ⟨g, k * 22 + j, none⟩ = false := by
  obtain ⟨_, _, hc⟩ := h.row k (by simpa using hk)
  rw [List.getElem_set_self] at hc
  exact ⟨(hc j hj).1.trans hv, (hc j hj).2⟩
theorem row_off {l : List R22} {F : List Nat} (h : GR.W enc22 22 w (some ⟨g, 0, none⟩) g l) (hK : KeepsL F w w') (hg : ∀ x ∈ F, x ≠ g) : GR.W enc22 22 w' (some ⟨g, 0, none⟩) g l := h.keeps hK (fun x hx hm => hg x hm (of_fp hx).1)
theorem KSt.markBK (h : KSt w0 w g k RR R q A2 A1 G2 G1 F1 F2 F3 F4) (d : KDis g F1 F2 F3 F4) (s : Nat) (hW : GR.W encNum 1 w' A2.k G2.k (mks mkInt 1 s q.bk q.bk.length)) (hK : KeepsL (fp G2.k q.bk) w w') : KSt w0 w' g k RR R ⟨mks mkInt 1 s q.bk q.bk.length, q.bs, q.nk, q.ns⟩ A2 A1 G2 G1 F1 F2 F3 F4 := by
  have hK1 := hK.mono h.bk.sub
  exact ⟨row_off h.row hK1 d.g1, ⟨hW, fun x hx => h.bk.sub x (fp_mks hx)⟩, h.bs.keeps hK1 (fun x hx hm => d.d12 x hm hx), h.nk.keeps hK1 (fun x hx hm => d.d13 x hm hx), h.ns.keeps hK1 (fun x hx hm => d.d14 x hm hx), h.keep.trans (hK1.mono (fun x hx => List.mem_cons_of_mem _ (List.mem_append_left _ (List.mem_append_left _ hx))))⟩
theorem KSt.markNK (h : KSt w0 w g k RR R q A2 A1 G2 G1 F1 F2 F3 F4) (d : KDis g F1 F2 F3 F4) (s : Nat) (hW : GR.W encNum 1 w' A1.k G1.k (mks mkInt 1 s q.nk q.nk.length)) (hK : KeepsL (fp G1.k q.nk) w w') : KSt w0 w' g k RR R ⟨q.bk, q.bs, mks mkInt 1 s q.nk q.nk.length, q.ns⟩ A2 A1 G2 G1 F1 F2 F3 F4 := by
  have hK1 := hK.mono h.nk.sub
  exact ⟨row_off h.row hK1 d.g3, h.bk.keeps hK1 (fun x hx hm => d.d13 x hx hm), h.bs.keeps hK1 (fun x hx hm => d.d23 x hx hm), ⟨hW, fun x hx => h.nk.sub x (fp_mks hx)⟩, h.ns.keeps hK1 (fun x hx hm => d.d34 x hm hx), h.keep.trans (hK1.mono (fun x hx => List.mem_cons_of_mem _ (List.mem_append_right _ (List.mem_append_left _ hx))))⟩
theorem sub_mS {I : Nat → Nat} {s : Nat} {l : List Sn} {F : List Nat} (h : ∀ x ∈ fp g l ++ fpI I l, x ∈ F) : ∀ x ∈ fp g (mSeen s l) ++ fpI I (mSeen s l), x ∈ F := fun x hx => by
  rcases List.mem_append.1 hx with hx | hx
  · exact h x (List.mem_append_left _ (fp_mS hx))
  · exact h x (List.mem_append_right _ (fpI_mS hx))
theorem KSt.markBS (h : KSt w0 w g k RR R q A2 A1 G2 G1 F1 F2 F3 F4) (d : KDis g F1 F2 F3 F4) (s : Nat) (hW : SeenW w' A2.s G2.s G2.i (mSeen s q.bs)) (hK : KeepsL (fp G2.s q.bs ++ fpI G2.i q.bs) w w') : KSt w0 w' g k RR R ⟨q.bk, mSeen s q.bs, q.nk, q.ns⟩ A2 A1 G2 G1 F1 F2 F3 F4 := by
  have hK1 := hK.mono h.bs.sub
  exact ⟨row_off h.row hK1 d.g2, h.bk.keeps hK1 (fun x hx hm => d.d12 x hx hm), ⟨hW, sub_mS h.bs.sub⟩, h.nk.keeps hK1 (fun x hx hm => d.d23 x hm hx), h.ns.keeps hK1 (fun x hx hm => d.d24 x hm hx), h.keep.trans (hK1.mono (fun x hx => List.mem_cons_of_mem _ (List.mem_append_left _ (List.mem_append_right _ hx))))⟩
theorem KSt.markNS (h : KSt w0 w g k RR R q A2 A1 G2 G1 F1 F2 F3 F4) (d : KDis g F1 F2 F3 F4) (s : Nat) (hW : SeenW w' A1.s G1.s G1.i (mSeen s q.ns)) (hK : KeepsL (fp G1.s q.ns ++ fpI G1.i q.ns) w w') : KSt w0 w' g k RR R ⟨q.bk, q.bs, q.nk, mSeen s q.ns⟩ A2 A1 G2 G1 F1 F2 F3 F4 := by
  have hK1 := hK.mono h.ns.sub
  exact ⟨row_off h.row hK1 d.g4, h.bk.keeps hK1 (fun x hx hm => d.d14 x hx hm), h.bs.keeps hK1 (fun x hx hm => d.d24 x hx hm), h.nk.keeps hK1 (fun x hx hm => d.d34 x hx hm), ⟨hW, sub_mS h.ns.sub⟩, h.keep.trans (hK1.mono (fun x hx => List.mem_cons_of_mem _ (List.mem_append_right _ (List.mem_append_right _ hx))))⟩
end
theorem fp_emp {α : Type} {g : Nat} {w w' : World} (h : KeepsL (fp g ([] : List α)) w w') : KeepsL [] w w' := h.mono (fun x hx => by simp [fp] at hx)
/-- The start: a keeper of a row whose two nodes are as NodeNew makes them. -/
theorem KRw.start {w : World} {a : Option Addr} {g : Nat} {L : List KdI} (h : KRw w a g L) (k : Nat) (hk : k < L.length) (x : KdI) (hx : L[k] = x) : a = some ⟨g, 0, none⟩ ∧ g < w.heap.size ∧ ∃ F1 F2 F3 F4, KDis g F1 F2 F3 F4 ∧ (fp x.2.1.2.s x.1.b.seen ++ fpI x.2.1.2.i x.1.b.seen).Nodup ∧ (fp x.2.2.2.s x.1.n.seen ++ fpI x.2.2.2.i x.1.n.seen).Nodup ∧ (∀ y ∈ F1 ++ F2 ++ (F3 ++ F4), y ∈ allK x) ∧ KSt w w g k (rows22 L) (r22 x) ⟨x.1.b.kids, x.1.b.seen, x.1.n.kids, x.1.n.seen⟩ x.2.1.1 x.2.2.1 x.2.1.2 x.2.2.2 F1 F2 F3 F4 := by
  have hkr : k < (rows22 L).length := by rw [rows22_length]; exact hk
  obtain ⟨e, hg, _⟩ := h.row k hkr
  have hrk : (rows22 L)[k] = r22 x := by simp [rows22, hx]
  obtain ⟨_, n2, n3⟩ := List.nodup_append.1 h.nd
  have hgm : g ∈ fp g L := fp_mem (by omega)
  have hnd := fpK_nd n2 hk hx
  have hga : ∀ y ∈ allK x, y ≠ g := fun y hy e => n3 g hgm y (fpK_at hk y (by rw [hx]; exact hy)) e.symm
  obtain ⟨nb, nn, nbn⟩ := List.nodup_append.1 (show (x.2.1.2.all x.1.b ++ x.2.2.2.all x.1.n).Nodup from hnd)
  obtain ⟨db, sb⟩ := small_dis nb
  obtain ⟨dn, sn⟩ := small_dis nn
  have hW := h.each x (by rw [← hx]; exact List.getElem_mem hk)
  have hBk : ∀ y ∈ fp x.2.1.2.k x.1.b.kids, y ∈ x.2.1.2.all x.1.b := fun y hy => Blks.mem_all.2 (.inl hy)
  have hBs : ∀ y ∈ fp x.2.1.2.s x.1.b.seen ++ fpI x.2.1.2.i x.1.b.seen, y ∈ x.2.1.2.all x.1.b := fun y hy => by
    rcases List.mem_append.1 hy with hy | hy
    · exact Blks.mem_all.2 (.inr (.inr (.inr (.inl hy))))
    · exact Blks.mem_all.2 (.inr (.inr (.inr (.inr (.inl hy)))))
  have hNk : ∀ y ∈ fp x.2.2.2.k x.1.n.kids, y ∈ x.2.2.2.all x.1.n := fun y hy => Blks.mem_all.2 (.inl hy)
  have hNs : ∀ y ∈ fp x.2.2.2.s x.1.n.seen ++ fpI x.2.2.2.i x.1.n.seen, y ∈ x.2.2.2.all x.1.n := fun y hy => by
    rcases List.mem_append.1 hy with hy | hy
    · exact Blks.mem_all.2 (.inr (.inr (.inr (.inl hy))))
    · exact Blks.mem_all.2 (.inr (.inr (.inr (.inr (.inl hy)))))
  have inB : ∀ y ∈ x.2.1.2.all x.1.b, y ∈ allK x := fun y hy => List.mem_append_left _ hy
  have inN : ∀ y ∈ x.2.2.2.all x.1.n, y ∈ allK x := fun y hy => List.mem_append_right _ hy
  refine ⟨e, hg, fp x.2.1.2.k x.1.b.kids, fp x.2.1.2.s x.1.b.seen ++ fpI x.2.1.2.i x.1.b.seen, fp x.2.2.2.k x.1.n.kids, fp x.2.2.2.s x.1.n.seen ++ fpI x.2.2.2.i x.1.n.seen, ⟨?_, ?_, ?_, ?_, db, ?_, ?_, ?_, ?_, dn⟩, sb, sn, fun y hy => ?_, ⟨?_, ⟨hW.b.k, fun _ h => h⟩, ⟨hW.b.s, fun _ h => h⟩, ⟨hW.n.k, fun _ h => h⟩, ⟨hW.n.s, fun _ h => h⟩, KeepsL.refl _ _⟩⟩
  · exact fun y hy => hga y (inB y (hBk y hy))
  · exact fun y hy => hga y (inB y (hBs y hy))
  · exact fun y hy => hga y (inN y (hNk y hy))
  · exact fun y hy => hga y (inN y (hNs y hy))
  · exact fun y hy hm => nbn y (hBk y hy) y (hNk y hm) rfl
  · exact fun y hy hm => nbn y (hBk y hy) y (hNs y hm) rfl
  · exact fun y hy hm => nbn y (hBs y hy) y (hNk y hm) rfl
  · exact fun y hy hm => nbn y (hBs y hy) y (hNs y hm) rfl
  · rcases List.mem_append.1 hy with hy | hy
    · rcases List.mem_append.1 hy with hy | hy
      · exact inB y (hBk y hy)
      · exact inB y (hBs y hy)
    · rcases List.mem_append.1 hy with hy | hy
      · exact inN y (hNk y hy)
      · exact inN y (hNs y hy)
  · rw [← hrk, List.set_getElem_self]
    rw [← e]
    exact h.row

theorem markIntR (a : Option Addr) (g c s : Nat) (z : Int) (r : Nat) (l : List Int) (w : World) (hz : z = (s : Int)) (hr : r = s + l.length) (hs0 : 0 < s) (hs1 : s ≤ 4000000000000) (hl : l.length ≤ 1048600) (ha : GR.W encNum 1 w a g l) :
    Calls Tryz.prog 27 #[.slice a l.length c, .int .i64 z] w fun e w' => e = .returned (.int .i64 r) ∧ GR.W encNum 1 w' a g (mks mkInt 1 s l l.length) ∧ KeepsL (fp g l) w w' :=
  (markIntZ a g c s z l w hz hs0 hs1 hl ha).mono (fun _ _ h => ⟨h.1.trans (ret_int (by omega)), h.2⟩)
theorem heldIntR (a : Option Addr) (g c n s : Nat) (z : Int) (r : Nat) (l : List Int) (w : World) (hz : z = (s : Int)) (hr : r = s + l.length) (hn : n = l.length) (hs0 : 0 < s) (hs1 : s ≤ 4000000000000) (hl : l.length ≤ 1048600) (ha : GR.W encNum 1 w a g (mks mkInt 1 s l l.length)) :
    Calls Tryz.prog 58 #[.slice a n c, .int .i64 z] w fun e w' => e = .returned (.int .i64 r) ∧ Below w.heap.size w w' :=
  (heldIntZ a g c n s z l w hz hn hs0 hs1 hl ha).mono (fun _ _ h => ⟨h.1.trans (ret_int (by omega)), h.2⟩)
theorem markSeenR (a : Option Addr) (g c s : Nat) (z : Int) (r : Nat) (I : Nat → Nat) (l : List Sn) (w : World) (hz : z = (s : Int)) (hr : r = eSeen s l) (hs0 : 0 < s) (hs1 : s ≤ 100000000) (hl : l.length ≤ 1048600) (hl2 : ∀ x ∈ l, x.ids.length ≤ 1048600) (hnd : (fp g l ++ fpI I l).Nodup) (ha : SeenW w a g I l) :
    Calls Tryz.prog 53 #[.slice a l.length c, .int .i64 z] w fun e w' => e = .returned (.int .i64 r) ∧ SeenW w' a g I (mSeen s l) ∧ KeepsL (fp g l ++ fpI I l) w w' :=
  (markSeenZ a g c s z I l w hz hs0 hs1 hl hl2 hnd ha).mono (fun _ _ h => ⟨h.1.trans (ret_int (by rw [hr])), h.2⟩)
theorem heldSeenR (a : Option Addr) (g c n s : Nat) (z : Int) (r : Nat) (I : Nat → Nat) (l : List Sn) (w : World) (hz : z = (s : Int)) (hr : r = eSeen s l) (hn : n = l.length) (hs0 : 0 < s) (hs1 : s ≤ 100000000) (hl : l.length ≤ 1048600) (hl2 : ∀ x ∈ l, x.ids.length ≤ 1048600) (ha : SeenW w a g I (mSeen s l)) :
    Calls Tryz.prog 61 #[.slice a n c, .int .i64 z] w fun e w' => e = .returned (.int .i64 r) ∧ Below w.heap.size w w' :=
  (heldSeenZ a g c n s z I l w hz hn hs0 hs1 hl hl2 ha).mono (fun _ _ h => ⟨h.1.trans (ret_int (by rw [hr])), h.2⟩)
theorem markPurseR (a : Option Addr) (c s : Nat) (z : Int) (w : World) (hz : z = (s : Int)) (hs0 : 0 < s) (hs1 : s ≤ 4000000000000) :
    Calls Tryz.prog 51 #[.slice a 0 c, .int .i64 z] w fun e w' => e = .returned (.int .i64 s) ∧ KeepsL [] w w' :=
  (markPurseZ a 0 c s z [] w hz hs0 hs1 (by simp) GR.W.nil).mono (fun _ _ h => ⟨h.1.trans (ret_int (by simp)), fp_emp h.2.2⟩)
theorem heldPurseR (a : Option Addr) (c s : Nat) (z : Int) (w : World) (hz : z = (s : Int)) (hs0 : 0 < s) (hs1 : s ≤ 4000000000000) :
    Calls Tryz.prog 59 #[.slice a 0 c, .int .i64 z] w fun e w' => e = .returned (.int .i64 s) ∧ Below w.heap.size w w' :=
  (heldPurseZ a 0 c 0 s z [] w hz rfl hs0 hs1 (by simp) GR.W.nil).mono (fun _ _ h => ⟨h.1.trans (ret_int (by simp)), h.2⟩)
theorem markSentR (a : Option Addr) (c s : Nat) (z : Int) (w : World) (hz : z = (s : Int)) (hs0 : 0 < s) (hs1 : s ≤ 4000000000000) :
    Calls Tryz.prog 52 #[.slice a 0 c, .int .i64 z] w fun e w' => e = .returned (.int .i64 s) ∧ KeepsL [] w w' :=
  (markSentZ a 0 c s z [] w hz hs0 hs1 (by simp) GR.W.nil).mono (fun _ _ h => ⟨h.1.trans (ret_int (by simp)), fp_emp h.2.2⟩)
theorem heldSentR (a : Option Addr) (c s : Nat) (z : Int) (w : World) (hz : z = (s : Int)) (hs0 : 0 < s) (hs1 : s ≤ 4000000000000) :
    Calls Tryz.prog 60 #[.slice a 0 c, .int .i64 z] w fun e w' => e = .returned (.int .i64 s) ∧ Below w.heap.size w w' :=
  (heldSentZ a 0 c 0 s z [] w hz rfl hs0 hs1 (by simp) GR.W.nil).mono (fun _ _ h => ⟨h.1.trans (ret_int (by simp)), h.2⟩)
theorem markReqR (a : Option Addr) (c s : Nat) (z : Int) (w : World) (hz : z = (s : Int)) (hs0 : 0 < s) (hs1 : s ≤ 4000000000000) :
    Calls Tryz.prog 54 #[.slice a 0 c, .int .i64 z] w fun e w' => e = .returned (.int .i64 s) ∧ KeepsL [] w w' :=
  (markReqZ a 0 c s z [] w hz hs0 hs1 (by simp) GR.W.nil).mono (fun _ _ h => ⟨h.1.trans (ret_int (by simp)), fp_emp h.2.2⟩)
theorem heldReqR (a : Option Addr) (c s : Nat) (z : Int) (w : World) (hz : z = (s : Int)) (hs0 : 0 < s) (hs1 : s ≤ 4000000000000) :
    Calls Tryz.prog 62 #[.slice a 0 c, .int .i64 z] w fun e w' => e = .returned (.int .i64 s) ∧ Below w.heap.size w w' :=
  (heldReqZ a 0 c 0 s z [] w hz rfl hs0 hs1 (by simp) GR.W.nil).mono (fun _ _ h => ⟨h.1.trans (ret_int (by simp)), h.2⟩)
theorem mKe_row (m n1 n2 n4 n5 n6 n7 n9 n10 : Nat) (bid bpar bnext bold nid npar nnext nold sf : Int) (bk nk : List Int) (bs ns : List Sn) (lg : ByteArray) (A2 A1 : Ads) (G2 G1 : Blks) (h1 : n1 = m + 2 + bk.length) (h2 : n2 = n1 + 1) (h4 : n4 = eSeen n2 bs) (h5 : n5 = n4 + 1) (h6 : n6 = n5 + 2 + nk.length) (h7 : n7 = n6 + 1) (h9 : n9 = eSeen n7 ns) (h10 : n10 = n9 + 1) :
    r22 (mKe m ((⟨⟨bid, bpar, bk, bnext, [], [], bs, bold, []⟩, ⟨nid, npar, nk, nnext, [], [], ns, nold, []⟩, lg, sf⟩, (A2, G2), (A1, G1)) : KdI)) = (⟨⟨((m : Int)), ((m : Int) + 1), ((n1 : Int)), ((n4 : Int)), .slice A2.k bk.length A2.ck, .slice A2.p 0 A2.cp, .slice A2.o 0 A2.co, .slice A2.s bs.length A2.cs, .slice A2.r 0 A2.cr⟩, ⟨((n5 : Int)), ((n5 : Int) + 1), ((n6 : Int)), ((n9 : Int)), .slice A1.k nk.length A1.ck, .slice A1.p 0 A1.cp, .slice A1.o 0 A1.co, .slice A1.s ns.length A1.cs, .slice A1.r 0 A1.cr⟩, (mark n10), ((n10 : Int) + 1)⟩ : R22) ∧ eKe m ((⟨⟨bid, bpar, bk, bnext, [], [], bs, bold, []⟩, ⟨nid, npar, nk, nnext, [], [], ns, nold, []⟩, lg, sf⟩, (A2, G2), (A1, G1)) : KdI) = n10 + 2 ∧ mKe m ((⟨⟨bid, bpar, bk, bnext, [], [], bs, bold, []⟩, ⟨nid, npar, nk, nnext, [], [], ns, nold, []⟩, lg, sf⟩, (A2, G2), (A1, G1)) : KdI) = (⟨⟨(m : Int), (m : Int) + 1, mks mkInt 1 (m + 2) bk bk.length, (n1 : Int), [], [], mSeen n2 bs, (n4 : Int), []⟩, ⟨(n5 : Int), (n5 : Int) + 1, mks mkInt 1 (n5 + 2) nk nk.length, (n6 : Int), [], [], mSeen n7 ns, (n9 : Int), []⟩, mark n10, (n10 : Int) + 1⟩, (A2, G2), (A1, G1)) := by
  have e2 : m + 3 + bk.length = n2 := by omega
  have e5 : eNd m ⟨bid, bpar, bk, bnext, [], [], bs, bold, []⟩ = n5 := by
    unfold eNd
    dsimp only
    rw [e2, ← h4, h5]
  have e7 : n5 + 3 + nk.length = n7 := by omega
  have e10 : eNd n5 ⟨nid, npar, nk, nnext, [], [], ns, nold, []⟩ = n10 := by
    unfold eNd
    dsimp only
    rw [e7, ← h9, h10]
  have c1 : (m : Int) + 2 + (bk.length : Int) = (n1 : Int) := by omega
  have c6 : (n5 : Int) + 2 + (nk.length : Int) = (n6 : Int) := by omega
  have hm : mKe m ((⟨⟨bid, bpar, bk, bnext, [], [], bs, bold, []⟩, ⟨nid, npar, nk, nnext, [], [], ns, nold, []⟩, lg, sf⟩, (A2, G2), (A1, G1)) : KdI) = (⟨⟨(m : Int), (m : Int) + 1, mks mkInt 1 (m + 2) bk bk.length, (n1 : Int), [], [], mSeen n2 bs, (n4 : Int), []⟩, ⟨(n5 : Int), (n5 : Int) + 1, mks mkInt 1 (n5 + 2) nk nk.length, (n6 : Int), [], [], mSeen n7 ns, (n9 : Int), []⟩, mark n10, (n10 : Int) + 1⟩, (A2, G2), (A1, G1)) := by
    unfold mKe
    dsimp only
    rw [e5, e10]
    unfold mNd
    dsimp only
    rw [e2, e7, c1, c6, ← h4, ← h9]
  refine ⟨?_, ?_, hm⟩
  · rw [hm]
    simp [r22, r9, mks_length mkInt 1 (m + 2) bk bk.length (Nat.le_refl _), mks_length mkInt 1 (n5 + 2) nk nk.length (Nat.le_refl _), mSeen_length]
  · unfold eKe
    dsimp only
    rw [e5, e10]
end Go.Proofs.YtbanjohfcnadfaaGreatDoor
