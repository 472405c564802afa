/-
  A row of purses that is being drawn, beside the cursor: what becomes of it behind draws, behind the model's own calls, and behind an append.
-/
import Derived.Test.YtpglekkaplfdgaaDoorPuAdd
import Derived.Test.YtpglekkaplfdgaaDoorDrawPick
import Derived.Test.YtpglekkaplfdgaaDoorDrawBase
namespace Go.Proofs.YtpglekkaplfdgaaDoor
open Go.RowKit
open Mth

/-- A row of purses of the call's own, and the cursor. -/
structure PR (w wr : World) (c : Nat) (v : Value) (l : List Pu) : Prop where
  nn : v ≠ .slice none 0 0
  own : wr.ownsRow w.heap.size 32 4 v l.length (GR.flat encP l)
  keys : ∀ p ∈ l, p.k.size ≤ 100
  cur : Cur wr c
  keeps : Keeps c w wr
  low : c < w.heap.size
theorem PR.form {w wr : World} {c : Nat} {v : Value} {l : List Pu} (h : PR w wr c v l) : ∃ g cap, v = .slice (some ⟨g, 0, none⟩) l.length cap ∧ l.length ≤ cap ∧ w.heap.size ≤ g ∧ g < wr.heap.size ∧ PursesAt wr (some ⟨g, 0, none⟩) l := by
  obtain ⟨a, cp, e, hat⟩ := GR.own_at encP_length h.own
  rcases h.own.2 with ⟨h1, _⟩ | ⟨g, cap, cur, h1, h2, h3, h4, _⟩
  · exact absurd h1 h.nn
  · rw [h1] at e
    injection e with e1 e2 e3
    subst e1
    exact ⟨g, cap, h1, h4, h2, Fo.lt_of_blk h3, hat⟩
theorem PR.draw {w wr w' : World} {c : Nat} {v : Value} {l : List Pu} (h : PR w wr c v l) (hc : Cur w' c) (hk : Keeps c wr w') : PR w w' c v l := by
  refine ⟨h.nn, h.own.kept (row := some c) ⟨hk.os, hk.tape, hk.output, hk.size, fun k hl hne => hk.block k hl (fun e => hne (by rw [e]))⟩ (.inr fun e => ?_), h.keys, hc, h.keeps.trans hk, h.low⟩
  have := (h.own.lt c e).1
  have := h.low
  omega
theorem PR.grow {w wr w' : World} {c : Nat} {v : Value} {l : List Pu} (h : PR w wr c v l) (hb : Below wr.heap.size wr w') : PR w w' c v l :=
  h.draw (h.cur.keep_below hb) (Keeps.of_below hb)
theorem Mth.addP_len1 (l : List Pu) (key : ByteArray) (dm df ds n : Int) : (addP l key dm df ds n).1.length ≤ l.length + 1 := by
  unfold addP withP
  split
  · show (putP l (shiftP (purseOf l key) dm df ds n)).length ≤ l.length + 1
    cases hf : found l (shiftP (purseOf l key) dm df ds n).k
    · rw [put_length_not hf]; omega
    · rw [put_length_found hf]; omega
  · show l.length ≤ l.length + 1
    omega
theorem Mth.addP_keys {l : List Pu} {key : ByteArray} {dm df ds n : Int} (hl : ∀ p ∈ l, p.k.size ≤ 100) (hk : key.size ≤ 100) : ∀ p ∈ (addP l key dm df ds n).1, p.k.size ≤ 100 := by
  unfold addP withP
  split
  · intro p hp
    rcases put_mem hp with rfl | hp
    · show (purseOf l key).k.size ≤ 100
      rw [purseOf_k]
      exact hk
    · exact hl p hp
  · exact hl
theorem PR.give {w wr w' : World} {c : Nat} {v : Value} {l : List Pu} {key : ByteArray} {dm df ds n : Int} {e : Ending} (h : PR w wr c v l) (hk : key.size ≤ 100) (hg : GivesO wr (addP l key dm df ds n) e w') :
    ∃ v', e = .returned (.tuple #[v', .bool (addP l key dm df ds n).2]) ∧ PR w w' c v' (addP l key dm df ds n).1 := by
  obtain ⟨v', rfl, hv, hown, hb⟩ := hg
  exact ⟨v', rfl, hv, own_lower hown h.keeps.size, addP_keys h.keys hk, h.cur.keep_below hb, h.keeps.trans (Keeps.of_below hb), h.low⟩
/-- Behind an append of one purse. -/
theorem PR.app {w wr w' : World} {c : Nat} {v v' : Value} {l : List Pu} {p : Pu} {o : Obj} (h : PR w wr c v l) (hp : p.k.size ≤ 100) (hown : w'.ownsRow w.heap.size 32 4 v' (l.length + 1) (GR.flat encP l ++ encP p)) (hg : (wr.alloc o).grownBy w' v.ownBlock) (hv : v' ≠ .slice none 0 0) : PR w w' c v' (l ++ [p]) := by
  have hb : Below w.heap.size wr w' := ((Below.refl w.heap.size wr).alloc h.keeps.size o).trans (grown_below' hg (fun k e => (h.own.lt k e).1) (by have := h.keeps.size; simp; omega))
  have hk : Keeps c w w' := ⟨hb.os.trans h.keeps.os, hb.tape.trans h.keeps.tape, hb.output.trans h.keeps.output, Nat.le_trans h.keeps.size hb.size, fun k hl hne => (hb.block k hl).trans (h.keeps.block k hl hne)⟩
  refine ⟨hv, ?_, fun q hq => ?_, h.cur.below hb h.low, hk, h.low⟩
  · rw [GR.flat_append, GR.flat_one, List.length_append]
    exact hown
  · rcases List.mem_append.1 hq with hq | hq
    · exact h.keys q hq
    · rw [List.mem_singleton.1 hq]; exact hp
end Go.Proofs.YtpglekkaplfdgaaDoor
