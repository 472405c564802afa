/-
  A new node in plain terms, and the row of what was seen while it is made.
-/
import Derived.Test.YtdlhlfndobbocaaNdI2
import Derived.Test.YtdlhlfndobbocaaNdSeenL
import Derived.Test.YtdlhlfndobbocaaNdMark
namespace Go.Proofs.Ytdlhlfndobbocaa
open Go.RowKit
open Mth

namespace Mth
def nnode (id par : Int) (kids fs : List Int) : Nd := ⟨id, par, kids, 1, [], [], fs.map (fun x => ⟨x, 1, []⟩), 0, []⟩
def zeroNd : Nd := ⟨0, 0, [], 0, [], [], [], 0, []⟩
/-- A new node, and whether it is right. -/
def newN (id par : Int) (kids : List Int) : Nd × Bool := if placeB (nnode id par kids []) then (nnode id par kids (srt (nbrs (nnode id par kids []))), true) else (zeroNd, false)
theorem place_new (id par : Int) (kids fs : List Int) : placeB (nnode id par kids fs) = placeB (nnode id par kids []) := rfl
theorem nbrs_new (id par : Int) (kids fs : List Int) : nbrs (nnode id par kids fs) = nbrs (nnode id par kids []) := rfl
theorem near_new (id par : Int) (kids fs : List Int) : nearB (nnode id par kids fs) = nearB (nnode id par kids []) := rfl
theorem ok_new (id par : Int) (kids fs : List Int) (h : placeB (nnode id par kids []) = true) (hf : fs = srt (nbrs (nnode id par kids []))) : ndOk (nnode id par kids fs) = true := by
  have hp : placeB (nnode id par kids fs) = true := h
  have hm : (nnode id par kids fs).seen.map (·.f) = srt (nbrs (nnode id par kids fs)) := by
    rw [nbrs_new, ← hf]
    simp [nnode, Function.comp_def]
  have ha : (nnode id par kids fs).seen.all snB = true := by
    rw [List.all_eq_true]
    intro s hs
    obtain ⟨x, _, rfl⟩ := List.mem_map.1 hs
    rfl
  unfold ndOk
  rw [hp, told_eq hp, decide_eq_true hm, ha]
  rfl
theorem ok_not (id par : Int) (kids fs : List Int) (h : placeB (nnode id par kids []) = false) : ndOk (nnode id par kids fs) = false := by
  unfold ndOk
  rw [place_new, h]
  rfl
/-- The model's way: the numbers of 0 .. 29 that are neighbours. -/
def nearUp (n : Nd) (k : Nat) : List Int := (upTo k).filter (nearB n)
theorem upTo_succ (k : Nat) : upTo (k + 1) = upTo k ++ [(k : Int)] := by
  unfold upTo
  rw [List.range_succ, List.map_append]
  rfl
theorem nearUp_succ (n : Nd) (k : Nat) : nearUp n (k + 1) = if nearB n k then nearUp n k ++ [(k : Int)] else nearUp n k := by
  unfold nearUp
  rw [upTo_succ, List.filter_append, List.filter_cons]
  split <;> simp
theorem near_all {n : Nd} (h : placeB n = true) : nearUp n 30 = srt (nbrs n) := by
  have hk := place_kids h
  have hp : n.par ≤ 29 := by
    unfold placeB at h
    simp only [Bool.and_eq_true] at h
    exact (of_decide_eq_true h.1.1.1.2).2
  refine (asc_eq _ _ (srt_asc (nbrs_nodup h)) ((upTo_asc 30).sublist List.filter_sublist) ?_ ?_).symm
  · intro x hx
    rw [srt_mem] at hx
    (try unfold nearUp)
    rw [List.mem_filter]
    refine ⟨?_, (near_iff h x).2 hx⟩
    rw [upTo_mem]
    unfold nbrs at hx
    rcases List.mem_append.1 hx with hx | hx
    · have := hk.1 x hx
      unfold kidB ndB at this
      simp only [Bool.and_eq_true, decide_eq_true_eq] at this
      omega
    · split at hx
      · simp at hx
      · have : x = n.par := by simpa using hx
        omega
  · refine asc_le _ _ ((upTo_asc 30).sublist List.filter_sublist) (srt_asc (nbrs_nodup h)) ?_
    intro x hx
    (try unfold nearUp at hx)
    rw [List.mem_filter] at hx
    rw [srt_mem]
    exact (near_iff h x).1 hx.2
theorem new_yes {id par : Int} {kids fs : List Int} (h : placeB (nnode id par kids []) = true) (hf : fs = srt (nbrs (nnode id par kids []))) : newN id par kids = (nnode id par kids fs, true) := by
  unfold newN
  rw [if_pos h, hf]
theorem new_no {id par : Int} {kids : List Int} (h : placeB (nnode id par kids []) = false) : newN id par kids = (zeroNd, false) := by
  unfold newN
  rw [if_neg (by rw [h]; simp)]
end Mth
def r3of (x : Int) : R3 := ⟨x, 1, .slice none 0 0⟩
/-- The cells of a node in the making. -/
abbrev nnc (id par : Int) (kv v : Value) : Array Value := #[.int .i64 id, .int .i64 par, kv, .int .i64 1, .slice none 0 0, .slice none 0 0, v, .int .i64 0, .slice none 0 0]
structure NN (w2 wr : World) (nb : Nat) (id par : Int) (kv v : Value) (fs : List Int) : Prop where
  keep : KeepsL [nb] w2 wr
  blk : wr.heap[nb]? = some (.cells (nnc id par kv v) 36 (0, 0))
  own : wr.ownsRow w2.heap.size 70 3 v fs.length (GR.flat encR3 (fs.map r3of))
  lt : nb < w2.heap.size
theorem NN.step {w2 wr w' : World} {nb : Nat} {id par : Int} {kv v : Value} {fs : List Int} (h : NN w2 wr nb id par kv v fs) (hb : Below wr.heap.size wr w') : NN w2 w' nb id par kv v fs :=
  ⟨h.keep.trans (KeepsL.of_below hb), obj_step h.blk hb, GR.own_below h.own hb, h.lt⟩
theorem NN.app {w2 wr w6 : World} {nb : Nat} {id par : Int} {kv v v' : Value} {fs : List Int} {o : Obj} (h : NN w2 wr nb id par kv v fs) (x : Int)
    (hown : w6.ownsRow w2.heap.size 70 3 v' (fs.length + 1) (GR.flat encR3 (fs.map r3of) ++ encR3 (r3of x))) (hg : (wr.alloc o).grownBy w6 v.ownBlock) :
    NN w2 (w6.setCell ⟨nb, 6, none⟩ v') nb id par kv v' (fs ++ [x]) := by
  have hvb : ∀ k, v.ownBlock = some k → w2.heap.size ≤ k := fun k hk => (h.own.lt k hk).1
  have hlt := h.lt
  have hsz := h.keep.size
  have hblk6 : w6.heap[nb]? = some (.cells (nnc id par kv v) 36 (0, 0)) := by
    rw [hg.block nb (by simp; omega) (fun e => by have := hvb nb e.symm; omega), Below.heap_alloc _ _ _ (by omega)]
    exact h.blk
  have hne : ∀ k, v'.ownBlock = some k → k ≠ nb := fun k hk => by have := (hown.lt k hk).1; omega
  refine ⟨?_, ?_, ?_, hlt⟩
  · refine ⟨hg.os.trans h.keep.os, hg.tape.trans h.keep.tape, hg.output.trans h.keep.output, ?_, fun k hk hkn => ?_⟩
    · have := hg.size
      simp [World.setCell] at this ⊢
      omega
    · have hkn' : k ≠ nb := by simpa using hkn
      rw [Below.heap_setCell _ _ _ _ hkn', hg.block k (by simp; omega) (fun e => by have := hvb k e.symm; omega), Below.heap_alloc _ _ _ (by omega)]
      exact h.keep.block k hk hkn
  · exact blk_setO hblk6 6 v'
  · have e1 : (fs ++ [x]).length = fs.length + 1 := by simp
    have e2 : GR.flat encR3 ((fs ++ [x]).map r3of) = GR.flat encR3 (fs.map r3of) ++ encR3 (r3of x) := by rw [List.map_append, GR.flat_append]; simp [GR.flat]
    rw [e1, e2]
    refine hown.kept (row := some nb) ⟨rfl, rfl, rfl, by simp [World.setCell], fun k _ hk => Below.heap_setCell _ _ _ _ (fun e => hk (by rw [e]))⟩ ?_
    cases hv : v'.ownBlock with
    | none => exact .inl rfl
    | some k => exact .inr (fun e => hne k hv (by injection e))
theorem r3_one (x : Int) : ∀ u ∈ encR3 (r3of x), u.oneCell' = true := by
  intro u hu
  simp only [encR3, r3of, List.mem_cons, List.not_mem_nil, or_false] at hu
  rcases hu with rfl | rfl | rfl <;> rfl
/-- What was seen of a new node. -/
theorem SeenW.new {w : World} {B : Nat} {v : Value} {fs : List Int} (h : w.ownsRow B 70 3 v fs.length (GR.flat encR3 (fs.map r3of))) : ∃ a c g, v = .slice a fs.length c ∧ SeenW w a g (fun _ => 0) (fs.map (fun x => ⟨x, 1, []⟩)) ∧ (∀ x ∈ fp g fs, B ≤ x ∧ x < w.heap.size) := by
  have h' : w.ownsRow B 70 3 v (fs.map r3of).length (GR.flat encR3 (fs.map r3of)) := by rw [List.length_map]; exact h
  obtain ⟨a, c, g, e, hW, hr, _⟩ := GR.W.of_own encR3_length h'
  refine ⟨a, c, g, by rw [e, List.length_map], ⟨fs.map r3of, hW, by simp, fun i hi => ?_⟩, fun x hx => hr x ?_⟩
  · refine ⟨none, 0, ?_, ?_⟩
    · have hi' : i < fs.length := by simpa using hi
      simp [hi', r3of]
    · simp only [List.getElem_map]
      exact GR.W.nil
  · have := of_fp hx
    rw [this.1]
    exact fp_mem (by simpa using this.2)
theorem fpI_new (I : Nat → Nat) (fs : List Int) : fpI I (fs.map (fun x => (⟨x, 1, []⟩ : Sn))) = [] := by
  apply List.eq_nil_iff_forall_not_mem.2
  intro x hx
  obtain ⟨i, hi, _, hp⟩ := of_fpI hx
  simp at hp
/-- A new node's rows. -/
theorem NodeW.new {w : World} {B B2 : Nat} {id par : Int} {kv v : Value} {kids fs : List Int} (hk : w.ownsRow B 3 1 kv kids.length (GR.flat encNum kids)) (hkl : ∀ x, kv.ownBlock = some x → x < B2) (hs : w.ownsRow B2 70 3 v fs.length (GR.flat encR3 (fs.map r3of))) (hB : B ≤ B2) :
    ∃ A G, Value.agg (nnc id par kv v) = ndv (nnode id par kids fs) A ∧ NodeW w A G (nnode id par kids fs) ∧ G.Sep (nnode id par kids fs) B w.heap.size := by
  obtain ⟨a1, c1, g1, rfl, hW1, hr1, ho1⟩ := GR.W.of_own encNum_length hk
  obtain ⟨a2, c2, g2, rfl, hW2, hr2⟩ := SeenW.new hs
  have hall : ∀ x, x ∈ Blks.all ⟨g1, 0, 0, g2, 0, fun _ => 0⟩ (nnode id par kids fs) → x ∈ fp g1 kids ∨ x ∈ fp g2 fs := fun x hx => by
    rcases Blks.mem_all.1 hx with h | h | h | h | h | h
    · exact .inl h
    · simp [nnode, fp] at h
    · simp [nnode, fp] at h
    · right
      rw [fp_len (l' := fs) (by simp [nnode])] at h
      exact h
    · simp only [nnode] at h
      rw [fpI_new] at h
      simp at h
    · simp [nnode, fp] at h
  refine ⟨⟨a1, none, none, a2, none, c1, 0, 0, c2, 0⟩, ⟨g1, 0, 0, g2, 0, fun _ => 0⟩, by simp [nnc, ndv, ndc, nnode], ⟨hW1, GR.W.nil, GR.W.nil, hW2, GR.W.nil⟩, ⟨?_, fun x hx => ?_⟩⟩
  · have e : Blks.all ⟨g1, 0, 0, g2, 0, fun _ => 0⟩ (nnode id par kids fs) = fp g1 kids ++ fp g2 fs := by
      unfold Blks.all
      simp only [nnode]
      rw [fpI_new, fp_len (l := fs.map _) (l' := fs) (by simp)]
      simp [fp]
    rw [e, List.nodup_append]
    refine ⟨fp_nodup _ _, fp_nodup _ _, fun a ha b hb => ?_⟩
    have h1 := hkl a (ho1 a ha)
    have h2 := (hr2 b hb).1
    omega
  · rcases hall x hx with h | h
    · exact hr1 x h
    · have := hr2 x h
      omega
theorem NodeW.zero {w : World} : NodeW w ⟨none, none, none, none, none, 0, 0, 0, 0, 0⟩ ⟨0, 0, 0, 0, 0, fun _ => 0⟩ zeroNd ∧ Blks.Sep ⟨0, 0, 0, 0, 0, fun _ => 0⟩ zeroNd w.heap.size w.heap.size :=
  ⟨⟨GR.W.nil, GR.W.nil, GR.W.nil, ⟨[], GR.W.nil, rfl, fun i hi => by simp [zeroNd] at hi⟩, GR.W.nil⟩, ⟨by simp [Blks.all, zeroNd, fp, fpI], fun x hx => by simp [Blks.all, zeroNd, fp, fpI] at hx⟩⟩
end Go.Proofs.Ytdlhlfndobbocaa
