/- Parts. -/
import Derived.Test.YtbanjohfcnadfaaGreatDoorPw10
import Derived.Test.YtbanjohfcnadfaaGreatDoorPw13
import Derived.Test.YtbanjohfcnadfaaGreatDoorPw1
import Derived.Test.YtbanjohfcnadfaaGreatDoorPw3
import Derived.Test.YtbanjohfcnadfaaGreatDoorPw4
import Derived.Sort.Walk0
import Derived.Deep.RegionHeld
namespace Go.Proofs.YtbanjohfcnadfaaGreatDoor
open Go.RowKit
open Mth

/-- All blocks but those of one colour read as before; new ones may lie behind. -/
structure KC (c : Nat → Nat) (k : Nat) (w w' : World) : Prop where
  os : w'.os = w.os
  tape : w'.tape = w.tape
  output : w'.output = w.output
  size : w.heap.size ≤ w'.heap.size
  block : ∀ x, x < w.heap.size → c x ≠ k → w'.heap[x]? = w.heap[x]?
theorem KC.of_below {c : Nat → Nat} {k : Nat} {w w' : World} (h : Below w.heap.size w w') : KC c k w w' := ⟨h.os, h.tape, h.output, h.size, fun x hx _ => h.block x hx⟩
theorem KC.trans {c : Nat → Nat} {k : Nat} {a b d : World} (h : KC c k a b) (h' : KC c k b d) : KC c k a d :=
  ⟨h'.os.trans h.os, h'.tape.trans h.tape, h'.output.trans h.output, Nat.le_trans h.size h'.size, fun x hx hc => (h'.block x (Nat.lt_of_lt_of_le hx h.size) hc).trans (h.block x hx hc)⟩
theorem KC.set {c : Nat → Nat} {k g i : Nat} {w : World} {v : Value} (hc : c g = k) : KC c k w (w.setCell ⟨g, i, none⟩ v) :=
  ⟨rfl, rfl, rfl, by simp [World.setCell], fun x _ hx => Below.heap_setCell _ _ _ _ (fun e => hx (by rw [e]; exact hc))⟩
theorem KC.keeps {c : Nat → Nat} {k : Nat} {F : List Nat} {w w' : World} (h : KeepsL F w w') (hF : ∀ x ∈ F, c x = k) : KC c k w w' := ⟨h.os, h.tape, h.output, h.size, fun x hx hc => h.block x hx (fun hm => hc (hF x hm))⟩
theorem KC.grown {c : Nat → Nat} {k : Nat} {row : Option Nat} {w w' : World} (h : w.grownBy w' row) (hF : ∀ x, row = some x → c x = k) : KC c k w w' := ⟨h.os, h.tape, h.output, h.size, fun x hx hc => h.block x hx (fun hm => hc (hF x hm.symm))⟩
theorem KC.below {c : Nat → Nat} {k B : Nat} {a w w' : World} (hb : Below B a w) (h : KC c k w w') (hlo : ∀ x, x < B → c x = 0) (hk : k ≠ 0) (hB : B ≤ w.heap.size) : Below B a w' :=
  ⟨h.os.trans hb.os, h.tape.trans hb.tape, h.output.trans hb.output, Nat.le_trans hb.size h.size, fun x hx => (h.block x (by omega) (by rw [hlo x hx]; omega)).trans (hb.block x hx)⟩
theorem KC.obj {c : Nat → Nat} {k g : Nat} {w w' : World} {o : Obj} (h : KC c k w w') (ho : w.heap[g]? = some o) (hg : c g ≠ k) : w'.heap[g]? = some o := by rw [h.block g (obj_lt ho) hg]; exact ho
theorem KC.w {α : Type} {enc : α → List Value} {sz : Nat} {c : Nat → Nat} {k j : Nat} {w w' : World} {a : Option Addr} {g : Nat} {l : List α} (h : KC c k w w') (hw : GR.W enc sz w a g l) (hc : ∀ x ∈ fp g l, c x = j) (hj : j ≠ k) : GR.W enc sz w' a g l := fun i hi => by
  obtain ⟨e, hg, hcell⟩ := hw i hi
  have hb := h.block g hg (by rw [hc g (fp_mem (by omega))]; exact hj)
  exact ⟨e, Nat.lt_of_lt_of_le hg h.size, fun q hq => ⟨(World.cell?_of_block (w := w) hb).trans (hcell q hq).1, (World.frozen?_of_block (w := w) hb).trans (hcell q hq).2⟩⟩
theorem KC.own {c : Nat → Nat} {k j B : Nat} {w w' : World} {e : TypeId} {sz n : Nat} {v : Value} {xs : List Value} (h : KC c k w w') (ho : w.ownsRow B e sz v n xs) (hc : ∀ x, v.ownBlock = some x → c x = j) (hj : j ≠ k) : w'.ownsRow B e sz v n xs := by
  refine ⟨ho.1, ?_⟩
  rcases ho.2 with hn | ⟨g, cap, cur, rfl, hb, hgg, rest⟩
  · exact .inl hn
  · exact .inr ⟨g, cap, cur, rfl, hb, h.obj hgg (by rw [hc g rfl]; exact hj), rest⟩
theorem KC.seen {c : Nat → Nat} {k : Nat} {w w' : World} {a : Option Addr} {g : Nat} {I : Nat → Nat} {l : List Sn} (h : KC c k w w') (hs : SeenW w a g I l) (h4 : ∀ x ∈ fp g l, c x = 4) (h5 : ∀ x ∈ fpI I l, c x = 5) (hk4 : 4 ≠ k) (hk5 : 5 ≠ k) : SeenW w' a g I l := by
  obtain ⟨T, hT, hl, hr⟩ := hs
  refine ⟨T, h.w hT (fun x hx => h4 x ?_) hk4, hl, fun i hi => ?_⟩
  · have := of_fp hx
    rw [this.1]
    exact fp_mem (by omega)
  · obtain ⟨b, d, ht, hi2⟩ := hr i hi
    exact ⟨b, d, ht, h.w hi2 (fun x hx => h5 x (fpI_mem hi x hx)) hk5⟩

/-- A node's rows, in blocks of one's own; what lies below B is not. -/
structure NO (w : World) (B : Nat) (n : Nd) (A : Ads) (G : Blks) (c : Nat → Nat) : Prop where
  k : GR.W encNum 1 w A.k G.k n.kids
  p : GR.W encP 4 w A.p G.p n.pu
  o : w.ownsRow B 105 4 (.slice A.o n.out.length A.co) n.out.length (GR.flat encSnt n.out)
  s : SeenW w A.s G.s G.i n.seen
  r : w.ownsRow B 108 4 (.slice A.r n.reqs.length A.cr) n.reqs.length (GR.flat encRq n.reqs)
  lo : ∀ x, x < B → c x = 0
  ck : ∀ x ∈ fp G.k n.kids, c x = 1
  cp : ∀ x ∈ fp G.p n.pu, c x = 2
  co : ∀ x, (Value.slice A.o n.out.length A.co).ownBlock = some x → c x = 3
  c4 : ∀ x ∈ fp G.s n.seen, c x = 4
  ci : ∀ x ∈ fpI G.i n.seen, c x = 5
  cr : ∀ x, (Value.slice A.r n.reqs.length A.cr).ownBlock = some x → c x = 6
  ni : (fpI G.i n.seen).Nodup
theorem NO.kc {w w' : World} {B : Nat} {n : Nd} {A : Ads} {G : Blks} {c : Nat → Nat} {k : Nat} (h : NO w B n A G c) (hk : KC c k w w') (h7 : 6 < k) : NO w' B n A G c :=
  ⟨hk.w h.k h.ck (by omega), hk.w h.p h.cp (by omega), hk.own h.o h.co (by omega), hk.seen h.s h.c4 h.ci (by omega) (by omega), hk.own h.r h.cr (by omega), h.lo, h.ck, h.cp, h.co, h.c4, h.ci, h.cr, h.ni⟩
theorem fpW_lt {α : Type} {enc : α → List Value} {sz : Nat} {w : World} {a : Option Addr} {g : Nat} {l : List α} (h : GR.W enc sz w a g l) : ∀ x ∈ fp g l, x < w.heap.size := fun x hx => by
  have := of_fp hx
  rw [this.1]
  exact (h 0 this.2).2.1
theorem seen_lt {w : World} {a : Option Addr} {g : Nat} {I : Nat → Nat} {l : List Sn} (h : SeenW w a g I l) : (∀ x ∈ fp g l, x < w.heap.size) ∧ ∀ x ∈ fpI I l, x < w.heap.size := by
  obtain ⟨T, hT, hl, hr⟩ := h
  refine ⟨fun x hx => fpW_lt hT x ?_, fun x hx => ?_⟩
  · have := of_fp hx
    rw [this.1]
    exact fp_mem (by omega)
  · obtain ⟨i, hi, rfl, hpos⟩ := of_fpI hx
    obtain ⟨b, d, ht, hi2⟩ := hr i hi
    exact fpW_lt hi2 _ (fp_mem hpos)
/-- Blocks that are not there yet may get another colour. -/
theorem NO.recol {w : World} {B : Nat} {n : Nd} {A : Ads} {G : Blks} {c c' : Nat → Nat} (h : NO w B n A G c) (hB : B ≤ w.heap.size) (hc : ∀ x, x < w.heap.size → c' x = c x) : NO w B n A G c' :=
  ⟨h.k, h.p, h.o, h.s, h.r, fun x hx => (hc x (by omega)).trans (h.lo x hx), fun x hx => (hc x (fpW_lt h.k x hx)).trans (h.ck x hx), fun x hx => (hc x (fpW_lt h.p x hx)).trans (h.cp x hx),
    fun x hx => (hc x (h.o.lt x hx).2).trans (h.co x hx), fun x hx => (hc x ((seen_lt h.s).1 x hx)).trans (h.c4 x hx), fun x hx => (hc x ((seen_lt h.s).2 x hx)).trans (h.ci x hx), fun x hx => (hc x (h.r.lt x hx).2).trans (h.cr x hx), h.ni⟩
theorem NO.at {w : World} {B : Nat} {n : Nd} {A : Ads} {G : Blks} {c : Nat → Nat} (h : NO w B n A G c) : NodeAt w A n := by
  refine ⟨h.k.at, h.p.at, ?_, h.s.at, ?_⟩
  · obtain ⟨a, cp, he, ha⟩ := GR.own_at (enc := encSnt) (sz := 4) (l := n.out) encSnt_length h.o
    cases he
    exact ha
  · obtain ⟨a, cp, he, ha⟩ := GR.own_at (enc := encRq) (sz := 4) (l := n.reqs) encRq_length h.r
    cases he
    exact ha
/-- A worker: its block, its node, what was said. -/
structure WK (w0 w : World) (wb : Nat) (n : Nd) (A : Ads) (G : Blks) (c : Nat → Nat) (v : Value) (L : List Mg) : Prop where
  keep : Below w0.heap.size w0 w
  blk : w.heap[wb]? = some (.cells (wkc n A v) 186 (0, 0))
  no : NO w w0.heap.size n A G c
  m : w.ownsRow w0.heap.size 82 7 v L.length (GR.flat encM L)
  cm : ∀ x, v.ownBlock = some x → c x = 7
  cw : c wb = 8
theorem WK.kc {w0 w w' : World} {wb : Nat} {n : Nd} {A : Ads} {G : Blks} {c : Nat → Nat} {v : Value} {L : List Mg} {k : Nat} (h : WK w0 w wb n A G c v L) (hk : KC c k w w') (h8 : 8 < k) : WK w0 w' wb n A G c v L :=
  ⟨hk.below h.keep h.no.lo (by omega) h.keep.size, hk.obj h.blk (by rw [h.cw]; omega), h.no.kc hk (by omega), hk.own h.m h.cm (by omega), h.cm, h.cw⟩
theorem WK.step {w0 w w' : World} {wb : Nat} {n : Nd} {A : Ads} {G : Blks} {c : Nat → Nat} {v : Value} {L : List Mg} (h : WK w0 w wb n A G c v L) (hb : Below w.heap.size w w') : WK w0 w' wb n A G c v L := h.kc (k := 9) (KC.of_below hb) (by omega)
theorem WK.recol {w0 w : World} {wb : Nat} {n : Nd} {A : Ads} {G : Blks} {c c' : Nat → Nat} {v : Value} {L : List Mg} (h : WK w0 w wb n A G c v L) (hc : ∀ x, x < w.heap.size → c' x = c x) : WK w0 w wb n A G c' v L :=
  ⟨h.keep, h.blk, h.no.recol h.keep.size hc, h.m, fun x hx => (hc x (h.m.lt x hx).2).trans (h.cm x hx), (hc wb (obj_lt h.blk)).trans h.cw⟩
/-- A block of the worker's own that is none of the node's is written. -/
theorem WK.lo {w0 w : World} {wb : Nat} {n : Nd} {A : Ads} {G : Blks} {c : Nat → Nat} {v : Value} {L : List Mg} (h : WK w0 w wb n A G c v L) : w0.heap.size ≤ wb := by
  rcases Nat.lt_or_ge wb w0.heap.size with h' | h'
  · have := h.no.lo wb h'
    rw [h.cw] at this
    cases this
  · exact h'
/-- Another colouring for what is new since a world. -/
def newC (B k : Nat) (c : Nat → Nat) : Nat → Nat := fun x => if B ≤ x then k else c x
theorem newC_old {B k x : Nat} {c : Nat → Nat} (h : x < B) : newC B k c x = c x := by unfold newC; rw [if_neg (by omega)]
theorem newC_new {B k x : Nat} {c : Nat → Nat} (h : B ≤ x) : newC B k c x = k := by unfold newC; rw [if_pos h]

/-- Blocks of numbers differ. -/
theorem fpI_nodup (I : Nat → Nat) (l : List Sn) : (fpI I l).Nodup ↔ ∀ i j (hi : i < l.length) (hj : j < l.length), i < j → 0 < l[i].ids.length → 0 < l[j].ids.length → I i ≠ I j := by
  have hg : ∀ i (hi : i < l.length), l.getD i default = l[i] := fun i hi => by rw [List.getD_eq_getElem?_getD, List.getElem?_eq_getElem hi]; rfl
  unfold fpI List.Nodup
  rw [List.pairwise_flatMap]
  constructor
  · rintro ⟨_, h⟩ i j hi hj hij h1 h2 e
    rw [List.pairwise_iff_getElem] at h
    have := h i j (by simpa using hi) (by simpa using hj) hij
    rw [List.getElem_range, List.getElem_range, hg i hi, hg j hj] at this
    exact this (I i) (fp_mem h1) (I j) (fp_mem h2) e
  · intro h
    refine ⟨fun i _ => fp_nodup _ _, ?_⟩
    rw [List.pairwise_iff_getElem]
    intro i j hi hj hij x hx y hy
    have hi' : i < l.length := by simpa using hi
    have hj' : j < l.length := by simpa using hj
    rw [List.getElem_range, hg i hi'] at hx
    rw [List.getElem_range, hg j hj'] at hy
    obtain ⟨rfl, h1⟩ := of_fp hx
    obtain ⟨rfl, h2⟩ := of_fp hy
    exact h i j hi' hj' hij h1 h2
theorem flat_num (l : List Int) : GR.flat encNum l = l.map (Value.int .i64) := by
  induction l with
  | nil => rfl
  | cons x l ih => rw [GR.flat_cons, ih]; rfl
theorem encRq_one (q : Rq) : ∀ u ∈ encRq q, u.oneCell' = true := by
  intro u hu
  simp only [encRq, List.mem_cons, List.not_mem_nil, or_false] at hu
  rcases hu with rfl | rfl | rfl | rfl <;> rfl
theorem flatRq_one (l : List Rq) : ∀ u ∈ GR.flat encRq l, u.oneCell' = true := by
  intro u hu
  unfold GR.flat at hu
  obtain ⟨q, _, hq⟩ := List.mem_flatMap.1 hu
  exact encRq_one q u hq
namespace Mth

theorem less_iff (a b : ByteArray) : Op.bytesLess a.toList b.toList = true ↔ a.toList < b.toList := by
  rw [bytesLess_eq, decide_eq_true_iff]
theorem sle_false_iff (a b : ByteArray) : sle a b = false ↔ b.toList < a.toList := by
  unfold sle
  rw [bytesLess_eq, Bool.or_eq_false_iff, decide_eq_false_iff_not, beq_eq_false_iff_ne]
  constructor
  · rintro ⟨h1, h2⟩
    rcases List.le_iff_lt_or_eq.1 (List.not_lt.1 h1) with h | h
    · exact h
    · exact absurd h.symm h2
  · intro h
    exact ⟨List.lt_asymm h, fun e => by rw [e] at h; exact List.lt_irrefl _ h⟩
end Mth

theorem implAm (n : Int) (w : World) : Calls Tryz.prog 119 #[.int .i64 n] w fun e w' => e = .returned (.bool (decide (Inn n 0 1000000000))) ∧ w = w' := by
  by_cases h0 : 0 ≤ n
  · by_cases h1 : n ≤ 1000000000
    · rw [decide_eq_true (show Inn n 0 1000000000 from ⟨h0, h1⟩)]
      go_enter Tryz.func119, Tryz.ntmps119
      go_wp2
      go_ret
      exact ⟨rfl, rfl⟩
    · rw [decide_eq_false (show ¬ Inn n 0 1000000000 from fun h => h1 h.2)]
      go_enter Tryz.func119, Tryz.ntmps119
      go_wp2
      go_ret
      exact ⟨rfl, rfl⟩
  · rw [decide_eq_false (show ¬ Inn n 0 1000000000 from fun h => h0 h.1)]
    go_enter Tryz.func119, Tryz.ntmps119
    go_wp2
    go_ret
    exact ⟨rfl, rfl⟩
theorem implAmB (n : Int) (b : Bool) (w : World) (h : amB n = b) : Calls Tryz.prog 119 #[.int .i64 n] w fun e w' => e = .returned (.bool b) ∧ w = w' := by
  have e : decide (Inn n 0 1000000000) = b := h
  rw [← e]
  exact implAm n w
theorem implKeyB (s : ByteArray) (b : Bool) (w : World) (h : keyOk s.data.toList = b) : Calls Tryz.prog 117 #[.string s] w fun e w' => e = .returned (.bool b) ∧ w = w' := by
  rw [← h]
  exact implKeyOk s w

set_option maxRecDepth 100000 in
set_option maxHeartbeats 2000000 in
theorem implPuOk (p : Pu) (w : World) : Calls Tryz.prog 115 #[puv p] w fun e w' => e = .returned (.bool (puOk p)) ∧ Below w.heap.size w w' := by
  obtain ⟨pk, pm, pf, ps⟩ := p
  cases hk : keyOk pk.data.toList
  case' false =>
    have HP := hide (show puOk ⟨pk, pm, pf, ps⟩ = false by simp [puOk, hk])
    have HK := hide (fun w1 => implKeyB pk false w1 hk)
    clear hk
    go_enter Tryz.func115, Tryz.ntmps115
    go_wp2_with (go_at_call 117; refine (unhide HK _).mono ?_; rintro e w1 ⟨rfl, rfl⟩)
    go_ret
    exact ⟨ret_bool (unhide HP).symm, below_one' w _⟩
  have HK := hide (fun w1 => implKeyB pk true w1 hk)
  cases h1 : amB pm
  case' false =>
    have HP := hide (show puOk ⟨pk, pm, pf, ps⟩ = false by simp [puOk, h1])
    have H1 := hide (fun w1 => implAmB pm false w1 h1)
    clear hk h1
    go_enter Tryz.func115, Tryz.ntmps115
    go_wp2_with (first | (go_at_call 117; refine (unhide HK _).mono ?_; rintro e w1 ⟨rfl, rfl⟩) | (go_at_call 119; refine (unhide H1 _).mono ?_; rintro e w1 ⟨rfl, rfl⟩))
    go_ret
    exact ⟨ret_bool (unhide HP).symm, below_one' w _⟩
  have H1 := hide (fun w1 => implAmB pm true w1 h1)
  cases h2 : amB pf
  case' false =>
    have HP := hide (show puOk ⟨pk, pm, pf, ps⟩ = false by simp [puOk, h2])
    have H2 := hide (fun w1 => implAmB pf false w1 h2)
    clear hk h1 h2
    go_enter Tryz.func115, Tryz.ntmps115
    go_wp2_with (first | (go_at_call 117; refine (unhide HK _).mono ?_; rintro e w1 ⟨rfl, rfl⟩) | (go_at_call_of 119 pm; refine (unhide H1 _).mono ?_; rintro e w1 ⟨rfl, rfl⟩) | (go_at_call_of 119 pf; refine (unhide H2 _).mono ?_; rintro e w1 ⟨rfl, rfl⟩))
    go_ret
    exact ⟨ret_bool (unhide HP).symm, below_one' w _⟩
  have H2 := hide (fun w1 => implAmB pf true w1 h2)
  cases h3 : amB ps
  case' false =>
    have HP := hide (show puOk ⟨pk, pm, pf, ps⟩ = false by simp [puOk, h3])
    have H3 := hide (fun w1 => implAmB ps false w1 h3)
    clear hk h1 h2 h3
    go_enter Tryz.func115, Tryz.ntmps115
    go_wp2_with (first | (go_at_call 117; refine (unhide HK _).mono ?_; rintro e w1 ⟨rfl, rfl⟩) | (go_at_call_of 119 pm; refine (unhide H1 _).mono ?_; rintro e w1 ⟨rfl, rfl⟩) | (go_at_call_of 119 pf; refine (unhide H2 _).mono ?_; rintro e w1 ⟨rfl, rfl⟩) | (go_at_call_of 119 ps; refine (unhide H3 _).mono ?_; rintro e w1 ⟨rfl, rfl⟩))
    go_ret
    exact ⟨ret_bool (unhide HP).symm, below_one' w _⟩
  have H3 := hide (fun w1 => implAmB ps true w1 h3)
  have g2 : 0 ≤ pf ∧ pf ≤ 1000000000 := of_decide_eq_true h2
  have g3 : 0 ≤ ps ∧ ps ≤ 1000000000 := of_decide_eq_true h3
  obtain ⟨g20, g21⟩ := g2
  obtain ⟨g30, g31⟩ := g3
  have HP := hide (show puOk ⟨pk, pm, pf, ps⟩ = amB (pf + ps) by simp [puOk, hk, h1, h2, h3])
  have H4 := hide (fun w1 => implAmB (pf + ps) _ w1 rfl)
  clear hk h1 h2 h3
  go_enter Tryz.func115, Tryz.ntmps115
  go_wp2_with (first | (go_at_call 117; refine (unhide HK _).mono ?_; rintro e w1 ⟨rfl, rfl⟩) | (go_at_call_of 119 pm; refine (unhide H1 _).mono ?_; rintro e w1 ⟨rfl, rfl⟩) | (go_at_call_of 119 pf; refine (unhide H2 _).mono ?_; rintro e w1 ⟨rfl, rfl⟩) | (go_at_call_of 119 ps; refine (unhide H3 _).mono ?_; rintro e w1 ⟨rfl, rfl⟩) | (go_at_call_of 119 (pf + ps); refine (unhide H4 _).mono ?_; rintro e w1 ⟨rfl, rfl⟩))
  go_ret
  exact ⟨ret_bool (unhide HP).symm, below_one' w _⟩
namespace Fo
open Go.RowKit

/-- Two blocks laid one behind the other, behind calls that make memory alone. -/
theorem two_blocks {w w1 : World} {A B : Obj} (hb : Below ((w.alloc A).alloc B).heap.size ((w.alloc A).alloc B) w1) :
    w1.heap[w.heap.size]? = some A ∧ w1.heap[w.heap.size + 1]? = some B ∧ w.heap.size + 1 < w1.heap.size ∧ Below w.heap.size w w1 := by
  have hs : ((w.alloc A).alloc B).heap.size = w.heap.size + 1 + 1 := by simp
  have hz := hb.size
  refine ⟨?_, ?_, by omega, (((Below.refl _ _).alloc (Nat.le_refl _) _).alloc (by simp) _).trans (hb.mono (by omega))⟩
  · rw [hb.block _ (by omega), Below.heap_alloc _ _ _ (by simp)]
    exact heap_alloc_new w A
  · rw [hb.block _ (by omega)]
    have h := heap_alloc_new (w.alloc A) B
    rwa [show (w.alloc A).heap.size = w.heap.size + 1 by simp] at h
/-- One block, behind a call that makes memory alone. -/
theorem one_block {w w1 : World} {A : Obj} (hb : Below (w.alloc A).heap.size (w.alloc A) w1) :
    w1.heap[w.heap.size]? = some A ∧ w.heap.size < w1.heap.size ∧ Below w.heap.size w w1 := by
  have hs : (w.alloc A).heap.size = w.heap.size + 1 := by simp
  have hz := hb.size
  refine ⟨?_, by omega, ((Below.refl _ _).alloc (Nat.le_refl _) _).trans (hb.mono (by omega))⟩
  rw [hb.block _ (by omega)]
  exact heap_alloc_new w A
theorem blk_set {w : World} {c : Nat} {cs : Array Value} {t : TypeId} (h : w.heap[c]? = some (.cells cs t (0, 0))) (i : Nat) (v : Value) : (w.setCell ⟨c, i, none⟩ v).heap[c]? = some (.cells (cs.setIfInBounds i v) t (0, 0)) := by
  unfold World.setCell
  simp only [Array.getElem?_modify]
  rw [if_pos trivial, h]
  rfl
theorem four_set {w : World} {g : Nat} {a0 a1 a2 a3 b0 b1 b2 b3 : Value} {t : TypeId} (h : w.heap[g]? = some (.cells #[a0, a1, a2, a3] t (0, 0))) :
    ((((w.setCell ⟨g, 0, none⟩ b0).setCell ⟨g, 1, none⟩ b1).setCell ⟨g, 2, none⟩ b2).setCell ⟨g, 3, none⟩ b3).heap[g]? = some (.cells #[b0, b1, b2, b3] t (0, 0)) :=
  blk_set (blk_set (blk_set (blk_set h 0 b0) 1 b1) 2 b2) 3 b3
theorem four_below {a w : World} {B g : Nat} {b0 b1 b2 b3 : Value} (h : Below B a w) (hg : B ≤ g) :
    Below B a ((((w.setCell ⟨g, 0, none⟩ b0).setCell ⟨g, 1, none⟩ b1).setCell ⟨g, 2, none⟩ b2).setCell ⟨g, 3, none⟩ b3) :=
  (((h.setCell (p := ⟨g, 0, none⟩) hg b0).setCell (p := ⟨g, 1, none⟩) hg b1).setCell (p := ⟨g, 2, none⟩) hg b2).setCell (p := ⟨g, 3, none⟩) hg b3
theorem one_other {w : World} {g g' i : Nat} {v : Value} {o : Option Obj} (h : w.heap[g']? = o) (hne : g' ≠ g) : (w.setCell ⟨g, i, none⟩ v).heap[g']? = o := by
  rw [Below.heap_setCell _ _ _ _ hne, h]
theorem bodyPost_at {P : Program} {fn : Func} {Q : Ending → World → Prop} {x : Exit} {act : Act} {W : World} (h : ∀ W', W' = W → bodyPost P fn Q x act W') : bodyPost P fn Q x act W := h W rfl
theorem wp_at {P : Program} {c : Code} {Q : Exit → Act → World → Prop} {a : Act} {W : World} (h : ∀ W', W' = W → Code.wp P c Q a W') : Code.wp P c Q a W := h W rfl
theorem lt_of_blk {w : World} {g : Nat} {o : Obj} (h : w.heap[g]? = some o) : g < w.heap.size := by
  rcases Nat.lt_or_ge g w.heap.size with h' | h'
  · exact h'
  · rw [Array.getElem?_eq_none h'] at h; cases h
end Fo

set_option maxRecDepth 100000 in
set_option maxHeartbeats 2000000 in
theorem implOwnKey (p : Pu) (w : World) (hk : p.k.size ≤ 1048576) : Calls Tryz.prog 121 #[puv p] w fun e w' => e = .returned (puv p) ∧ Below w.heap.size w w' := by
  obtain ⟨pk, pm, pf, ps⟩ := p
  have HC := hide (fun w1 => clone pk w1 (by dsimp only at hk; omega))
  clear hk
  go_enter Tryz.func121, Tryz.ntmps121
  go_wp2_with fail
  refine (unhide HC _).mono ?_
  rintro e w1 ⟨rfl, hb1⟩
  obtain ⟨hA, hB, hz, hbel⟩ := Fo.two_blocks hb1
  have HB := hide hB
  have HBL := hide hbel
  obtain ⟨⟨p0, p1, p2, p3⟩, q0, q1, q2, q3⟩ := four_at hA
  obtain ⟨⟨r0, r1, r2, r3⟩, s0, s1, s2, s3⟩ := four_at hB
  clear hb1 hA hB hbel
  go_wp2_with fail
  clear r0 r1 r2 r3
  refine Fo.bodyPost_at (fun W' hW' => ?_)
  obtain ⟨⟨r0, r1, r2, r3⟩, _⟩ := four_at (show W'.heap[w.heap.size + 1]? = some (.cells #[.string pk, .int .i64 pm, .int .i64 pf, .int .i64 ps] 128 (0, 0)) by rw [hW']; exact Fo.four_set (Fo.one_other (unhide HB) (by omega)))
  have hbb : Below w.heap.size w W' := by rw [hW']; exact Fo.four_below ((unhide HBL).setCell (p := ⟨w.heap.size, 0, none⟩) (Nat.le_refl _) _) (by omega)
  refine bodyPost_ret (v := .agg #[.string pk, .int .i64 pm, .int .i64 pf, .int .i64 ps]) (by simp [results, Tryz.results121, go_sem, r0, r1, r2, r3]) rfl ⟨rfl, hbb⟩


/-- A row of purses in a block of its own, which may be written. -/
def PuW (w : World) (a : Option Addr) (g : Nat) (l : List Pu) : Prop := ∀ i (hi : i < l.length), a = some ⟨g, 0, none⟩ ∧ g < w.heap.size ∧ ∀ j, j < 4 → w.cell? ⟨g, i * 4 + j, none⟩ = (encP l[i])[j]? ∧ w.frozen? ⟨g, i * 4 + j, none⟩ = false
theorem PuW.at {w : World} {a : Option Addr} {g : Nat} {l : List Pu} (h : PuW w a g l) : PursesAt w a l := fun i hi =>
  ⟨g, 0, (h i hi).1, (h i hi).2.1, fun j hj => by rw [Nat.zero_add]; exact ((h i hi).2.2 j hj).1⟩
theorem PuW.of_blk {w : World} {g : Nat} {l : List Pu} (h : puBlk w g l) : PuW w (some ⟨g, 0, none⟩) g l := fun i hi =>
  ⟨rfl, GR.Blk.lt h, fun j hj => ⟨GR.Blk.cell h encP_length i hi j hj, GR.Blk.free h _⟩⟩
theorem PuW.nil {w : World} {a : Option Addr} {g : Nat} : PuW w a g [] := fun i hi => by simp at hi
theorem PuW.below {w w' : World} {a : Option Addr} {g : Nat} {l : List Pu} (h : PuW w a g l) (hb : Below w.heap.size w w') : PuW w' a g l := fun i hi => by
  obtain ⟨e, hg, hc⟩ := h i hi
  exact ⟨e, Nat.lt_of_lt_of_le hg hb.size, fun j hj => ⟨(hb.cell (p := ⟨g, i * 4 + j, none⟩) hg).trans (hc j hj).1, (hb.frozen (p := ⟨g, i * 4 + j, none⟩) hg).trans (hc j hj).2⟩⟩
theorem PuW.keeps {w w' : World} {a : Option Addr} {g g' : Nat} {l : List Pu} (h : PuW w a g l) (hk : Keeps g' w w') (hne : l = [] ∨ g ≠ g') : PuW w' a g l := by
  rcases hne with rfl | hne
  · exact PuW.nil
  · intro i hi
    obtain ⟨e, hg, hc⟩ := h i hi
    exact ⟨e, Nat.lt_of_lt_of_le hg hk.size, fun j hj => ⟨(World.cell?_of_block (w := w) (hk.block g hg hne)).trans (hc j hj).1, (World.frozen?_of_block (w := w) (hk.block g hg hne)).trans (hc j hj).2⟩⟩
theorem PuW.four {w : World} {a : Option Addr} {g : Nat} {l : List Pu} (h : PuW w a g l) (i : Nat) (hi : i < l.length) : a = some ⟨g, 0, none⟩ ∧ g < w.heap.size ∧ (w.cell? ⟨g, i * 4, none⟩ = some (.string l[i].k) ∧ w.cell? ⟨g, i * 4 + 1, none⟩ = some (.int .i64 l[i].m) ∧ w.cell? ⟨g, i * 4 + 2, none⟩ = some (.int .i64 l[i].f) ∧ w.cell? ⟨g, i * 4 + 3, none⟩ = some (.int .i64 l[i].s)) ∧ w.frozen? ⟨g, i * 4, none⟩ = false ∧ w.frozen? ⟨g, i * 4 + 1, none⟩ = false ∧ w.frozen? ⟨g, i * 4 + 2, none⟩ = false ∧ w.frozen? ⟨g, i * 4 + 3, none⟩ = false := by
  obtain ⟨e, hg, hc⟩ := h i hi
  exact ⟨e, hg, ⟨by simpa using (hc 0 (by omega)).1, by simpa using (hc 1 (by omega)).1, by simpa using (hc 2 (by omega)).1, by simpa using (hc 3 (by omega)).1⟩, by simpa using (hc 0 (by omega)).2, (hc 1 (by omega)).2, (hc 2 (by omega)).2, (hc 3 (by omega)).2⟩
theorem setW_cell_other {g k : Nat} : ∀ (vs : List Value) (w : World) (o : Nat), k < o ∨ o + vs.length ≤ k → (GR.setW w g o vs).cell? ⟨g, k, none⟩ = w.cell? ⟨g, k, none⟩ := by
  intro vs
  induction vs with
  | nil => intro w o _; rfl
  | cons v vs ih =>
    intro w o h
    rw [List.length_cons] at h
    exact (ih (w.setCell ⟨g, o, none⟩ v) (o + 1) (by omega)).trans (World.cell?_setCell_other _ _ _ _ (by simp <;> omega))
theorem setW_cell_same {g : Nat} : ∀ (vs : List Value) (w : World) (o : Nat), (∀ j, j < vs.length → ∃ v, w.cell? ⟨g, o + j, none⟩ = some v) → ∀ j, j < vs.length → (GR.setW w g o vs).cell? ⟨g, o + j, none⟩ = vs[j]? := by
  intro vs
  induction vs with
  | nil => intro w o _ j hj; simp at hj
  | cons v vs ih =>
    intro w o h j hj
    cases j with
    | zero =>
      obtain ⟨v0, hv0⟩ := h 0 (by simp)
      rw [Nat.add_zero] at hv0 ⊢
      refine (setW_cell_other vs (w.setCell ⟨g, o, none⟩ v) (o + 1) (by omega)).trans ?_
      rw [World.cell?_setCell_same _ _ _ hv0]
      rfl
    | succ j =>
      have h2 := ih (w.setCell ⟨g, o, none⟩ v) (o + 1) (fun j' hj' => by
        obtain ⟨v1, hv1⟩ := h (j' + 1) (by simpa using hj')
        refine ⟨v1, (World.cell?_setCell_other _ _ _ _ (by simp <;> omega)).trans ?_⟩
        rw [← hv1, show o + 1 + j' = o + (j' + 1) by omega]) j (by simpa using hj)
      rw [show o + 1 + j = o + (j + 1) by omega] at h2
      exact h2
theorem setW_frozen {g k : Nat} : ∀ (vs : List Value) (w : World) (o : Nat), (GR.setW w g o vs).frozen? ⟨g, k, none⟩ = w.frozen? ⟨g, k, none⟩ := by
  intro vs
  induction vs with
  | nil => intro w o; rfl
  | cons v vs ih => intro w o; exact (ih (w.setCell ⟨g, o, none⟩ v) (o + 1)).trans (by rw [World.frozen?_setCell])
theorem setW_size {g : Nat} : ∀ (vs : List Value) (w : World) (o : Nat), (GR.setW w g o vs).heap.size = w.heap.size := by
  intro vs
  induction vs with
  | nil => intro w o; rfl
  | cons v vs ih => intro w o; exact (ih (w.setCell ⟨g, o, none⟩ v) (o + 1)).trans (by simp [World.setCell])
theorem PuW.set {w : World} {a : Option Addr} {g : Nat} {l : List Pu} (h : PuW w a g l) (k : Nat) (x : Pu) (hk : k < l.length) : PuW (GR.setW w g (k * 4) (encP x)) a g (l.set k x) := fun i hi => by
  have hi' : i < l.length := by simpa using hi
  obtain ⟨e, hg, hc⟩ := h i hi'
  refine ⟨e, by rw [setW_size]; exact hg, fun j hj => ⟨?_, by rw [setW_frozen]; exact (hc j hj).2⟩⟩
  by_cases hik : i = k
  · subst hik
    rw [setW_cell_same (encP x) w (i * 4) (fun j' hj' => by
      have hj4 : j' < 4 := by rw [encP_length] at hj'; exact hj'
      have h1 := (hc j' hj4).1
      rw [List.getElem?_eq_getElem (by rw [encP_length]; exact hj4)] at h1
      exact ⟨_, h1⟩) j (by rw [encP_length]; exact hj)]
    simp
  · rw [setW_cell_other (encP x) w (k * 4) (by rw [encP_length]; omega), (hc j hj).1, List.getElem_set_ne (by omega)]

end Go.Proofs.YtbanjohfcnadfaaGreatDoor
