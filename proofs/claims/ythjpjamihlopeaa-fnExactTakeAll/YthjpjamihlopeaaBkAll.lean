/-
  What the program's TakeAll comes to.
-/
import Derived.Test.YthjpjamihlopeaaBkTakeS
import Derived.Laws.MakeOwn
namespace Go.Proofs.Ythjpjamihlopeaa
open Go.RowKit
open Mth

theorem alloc_size' (w : World) (o : Obj) : (w.alloc o).heap.size = w.heap.size + 1 := by simp
/-- Take of each, in order. -/
def Mth.Bk.takes (b : Bk) (l : List (Int × Int)) : Bk × List Bool := l.foldl (fun p a => ((p.1.take a.1 a.2).1, p.2 ++ [(p.1.take a.1 a.2).2])) (b, [])
/-- A slice of asks, as it lies. -/
def AsksAt (w : World) (a : Option Addr) (l : List (Int × Int)) : Prop := ∀ i (hi : i < l.length), ∃ g off, a = some ⟨g, off, none⟩ ∧ g < w.heap.size ∧ w.cell? ⟨g, off + i * 2, none⟩ = some (.int .i64 l[i].1) ∧ w.cell? ⟨g, off + i * 2 + 1, none⟩ = some (.int .i64 l[i].2)

/-- A block that holds just these truths. -/
def boolBlock (w : World) (g : Nat) (xs : List Bool) : Prop := w.heap[g]? = some (.cells (xs.map Value.bool).toArray 4 (0, 0))
theorem boolBlock.cell {w : World} {g : Nat} {xs : List Bool} (h : boolBlock w g xs) (i : Nat) (hi : i < xs.length) : w.cell? ⟨g, i, none⟩ = some (.bool xs[i]) := by
  rw [cell_of_row w g i _ 4 (0, 0) h]; simp [hi]
theorem boolBlock.free {w : World} {g : Nat} {xs : List Bool} (h : boolBlock w g xs) (i : Nat) : w.frozen? ⟨g, i, none⟩ = false := by
  unfold World.frozen?; rw [h]; simp
theorem boolBlock.set {w : World} {g : Nat} {xs : List Bool} (h : boolBlock w g xs) (i : Nat) (t : Bool) : boolBlock (w.setCell ⟨g, i, none⟩ (.bool t)) g (xs.set i t) := by
  unfold boolBlock World.setCell
  simp only [Array.getElem?_modify]
  rw [if_pos trivial, h]
  simp
theorem infoBool : (Try.prog.info? 4).map (fun i => (i.zero, i.size, i.bytes)) = some (some (.bool false), 1, 1) := by kernel_rfl
/-- 'make([]bool, n)': a new row of n false ones. -/
theorem make_bools (n : Nat) (hn : n ≤ 1000000) : ∀ W : World, (Instr.makeSlice 34 (.int .i64 (n : Int)) (.int .i64 (n : Int))).run Try.prog W = .ok (.slice (some ⟨W.heap.size, 0, none⟩) n n) (W.alloc (.cells ((List.replicate n false).map Value.bool).toArray 4)) := by
  obtain ⟨i0, hi, hz0, hz1, hz2⟩ := info_parts infoBool
  intro W
  have h := run_make (P := Try.prog) W 34 4 i0 (.bool false) Try.underlying34 hi hz0 .i64 .i64 (n : Int) (n : Int) (by omega) (by omega) (by rw [hz2]; omega) (by omega)
  have e : madeCells (Value.bool false).cells n = ((List.replicate n false).map Value.bool).toArray := by
    apply Array.ext
    · simp [madeCells]
    · intro i h1 h2
      simp [madeCells, Value.cells, Nat.mod_one]
  rw [hz1] at h
  simpa [e] using h

theorem Mth.takes_succ (b : Bk) (l : List (Int × Int)) (k : Nat) (hk : k < l.length) : b.takes (l.take (k + 1)) = (((b.takes (l.take k)).1.take l[k].1 l[k].2).1, (b.takes (l.take k)).2 ++ [((b.takes (l.take k)).1.take l[k].1 l[k].2).2]) := by
  unfold Bk.takes
  rw [List.take_succ_eq_append_getElem hk, List.foldl_append]
  rfl
theorem Mth.takes_length (b : Bk) (l : List (Int × Int)) : ∀ k, k ≤ l.length → (b.takes (l.take k)).2.length = k := by
  intro k
  induction k with
  | zero => intro _; simp [Bk.takes]
  | succ k ih => intro hk; rw [takes_succ b l k (by omega)]; simp [ih (by omega)]
theorem row_set (oks : List Bool) (k n : Nat) (ok : Bool) (h : oks.length = k) (hk : k < n) : (oks ++ List.replicate (n - k) false).set k ok = (oks ++ [ok]) ++ List.replicate (n - (k + 1)) false := by
  subst h
  rw [List.set_append_right _ _ (Nat.le_refl _), Nat.sub_self]
  have e : n - oks.length = (n - (oks.length + 1)) + 1 := by omega
  rw [e, List.replicate_succ]
  simp

/-- Where the round stands: the bucket, the result, the row of answers. -/
structure TMid (w : World) (b : Bk) (l : List (Int × Int)) (k : Nat) (wr : World) : Prop where
  own : wr.heap[w.heap.size]? = some (.cells #[.int .i64 (b.takes (l.take k)).1.S, .int .i64 (b.takes (l.take k)).1.R, .int .i64 (b.takes (l.take k)).1.P, .int .i64 (b.takes (l.take k)).1.H, .int .i64 (b.takes (l.take k)).1.T, .int .i64 (b.takes (l.take k)).1.L] 25 (0, 0))
  res : wr.heap[w.heap.size + 1]? = some (.cells #[.int .i64 0, .int .i64 0, .int .i64 0, .int .i64 0, .int .i64 0, .int .i64 0] 25 (0, 0))
  row : boolBlock wr (w.heap.size + 1 + 1) ((b.takes (l.take k)).2 ++ List.replicate (l.length - k) false)
  below : Below w.heap.size w wr
theorem TMid.step {w w1 w2 : World} {b : Bk} {l : List (Int × Int)} {k : Nat} (h : TMid w b l k w1) (hb : Below w1.heap.size w1 w2) : TMid w b l k w2 :=
  ⟨blk_step h.own hb, blk_step h.res hb, blk_step h.row hb, h.below.trans (hb.mono h.below.size)⟩
theorem TMid.next {w w1 : World} {b : Bk} {l : List (Int × Int)} {k : Nat} (h : TMid w b l k w1) (hk : k < l.length) {b0 b1 b2 b3 b4 b5 : Int} {ok : Bool} (hp : (b.takes (l.take k)).1.take l[k].1 l[k].2 = (⟨b0, b1, b2, b3, b4, b5⟩, ok)) :
    TMid w b l (k + 1) (((((((w1.setCell ⟨w.heap.size, 0, none⟩ (.int .i64 b0)).setCell ⟨w.heap.size, 1, none⟩ (.int .i64 b1)).setCell ⟨w.heap.size, 2, none⟩ (.int .i64 b2)).setCell ⟨w.heap.size, 3, none⟩ (.int .i64 b3)).setCell ⟨w.heap.size, 4, none⟩ (.int .i64 b4)).setCell ⟨w.heap.size, 5, none⟩ (.int .i64 b5)).setCell ⟨w.heap.size + 1 + 1, k, none⟩ (.bool ok)) := by
  have e := takes_succ b l k hk
  rw [hp] at e
  have hlen := takes_length b l k (by omega)
  refine ⟨?_, ?_, ?_, ?_⟩
  · rw [e]
    exact one_other (six_set h.own) (by omega)
  · exact one_other (six_other h.res (by omega)) (by omega)
  · rw [e]
    have hr : boolBlock ((((((w1.setCell ⟨w.heap.size, 0, none⟩ (.int .i64 b0)).setCell ⟨w.heap.size, 1, none⟩ (.int .i64 b1)).setCell ⟨w.heap.size, 2, none⟩ (.int .i64 b2)).setCell ⟨w.heap.size, 3, none⟩ (.int .i64 b3)).setCell ⟨w.heap.size, 4, none⟩ (.int .i64 b4)).setCell ⟨w.heap.size, 5, none⟩ (.int .i64 b5)) (w.heap.size + 1 + 1) ((b.takes (l.take k)).2 ++ List.replicate (l.length - k) false) := six_other h.row (by omega)
    have h2 := hr.set k ok
    rw [row_set _ k l.length ok hlen hk] at h2
    exact h2
  · exact (six_below h.below (Nat.le_refl _)).setCell (p := ⟨w.heap.size + 1 + 1, k, none⟩) (by dsimp only; omega) _

set_option maxRecDepth 100000 in
set_option maxHeartbeats 4000000 in
theorem implTakeAll (b : Bk) (a : Option Addr) (cap : Nat) (l : List (Int × Int)) (w : World) (hl : l.length ≤ 300) (ha : AsksAt w a l) :
    Calls Try.prog 18 #[bkv b, .slice a l.length cap] w fun e w' => ∃ g, e = .returned (.tuple #[bkv (b.takes l).1, .slice (some ⟨g, 0, none⟩) l.length l.length]) ∧ boolBlock w' g (b.takes l).2 ∧ w.heap.size ≤ g ∧ Below w.heap.size w w' := by
  have HA := hide ha
  have hmk := make_bools l.length (by omega)
  have hgt : decide (300 < (l.length : Int)) = false := by simp; omega
  clear ha
  obtain ⟨S, R, P, H, T, L⟩ := b
  go_enter Try.func18, Try.ntmps18
  go_wp2_with fail
  go_loopw [18] (fun i wr => ∃ k : Nat, k ≤ l.length ∧ i = .int .i64 k ∧ TMid w ⟨S, R, P, H, T, L⟩ l k wr) (fun i _ => l.length - (intOf i).toNat)
  case atStart =>
    refine ⟨0, Nat.zero_le _, rfl, ?_, ?_, ?_, ?_⟩
    · rw [Below.heap_alloc _ _ _ (by simp; omega), Below.heap_alloc _ _ _ (by simp)]
      exact heap_alloc_new w _
    · rw [Below.heap_alloc _ _ _ (by simp)]
      have h := heap_alloc_new (w.alloc (.cells #[.int .i64 S, .int .i64 R, .int .i64 P, .int .i64 H, .int .i64 T, .int .i64 L] 25)) (.cells #[.int .i64 0, .int .i64 0, .int .i64 0, .int .i64 0, .int .i64 0, .int .i64 0] 25)
      rwa [alloc_size'] at h
    · have h := heap_alloc_new ((w.alloc (.cells #[.int .i64 S, .int .i64 R, .int .i64 P, .int .i64 H, .int .i64 T, .int .i64 L] 25)).alloc (.cells #[.int .i64 0, .int .i64 0, .int .i64 0, .int .i64 0, .int .i64 0, .int .i64 0] 25)) (.cells (Array.replicate l.length (Value.bool false)) 4)
      rw [alloc_size', alloc_size'] at h
      unfold boolBlock
      rw [h]
      simp [Bk.takes]
    · exact (((Below.refl _ _).alloc (Nat.le_refl _) _).alloc (by simp) _).alloc (by simp; omega) _
  case round =>
    obtain ⟨k, hk, rfl, hM⟩ := hrel
    have HM := hide hM
    clear hM hmk
    by_cases hlt : k < l.length
    · obtain ⟨g, off, rfl, hgw, hc1, hc2⟩ := unhide HA k hlt
      have q1 := ((unhide HM).below.cell (p := ⟨g, off + k * 2, none⟩) hgw).trans hc1
      have q2 := ((unhide HM).below.cell (p := ⟨g, off + k * 2 + 1, none⟩) hgw).trans hc2
      have hgr : g < wr.heap.size := Nat.lt_of_lt_of_le hgw (unhide HM).below.size
      clear hc1 hc2
      obtain ⟨q, hq⟩ : ∃ q, (Bk.takes ⟨S, R, P, H, T, L⟩ (l.take k)).1.take l[k].1 l[k].2 = q := ⟨_, rfl⟩
      have HT := hide (fun w1 => implTake (Bk.takes ⟨S, R, P, H, T, L⟩ (l.take k)).1 l[k].1 l[k].2 w1)
      rw [hq] at HT
      obtain ⟨⟨b0, b1, b2, b3, b4, b5⟩, ok⟩ := q
      dsimp only at HT
      have HN := hide (fun (w1 : World) (h : TMid w ⟨S, R, P, H, T, L⟩ l k w1) => h.next hlt hq)
      clear hq
      generalize l[k].1 = n at *
      generalize l[k].2 = m at *
      obtain ⟨⟨c0, c1, c2, c3, c4, c5⟩, _⟩ := six_at (unhide HM).own
      have hz0 := blk_lt (unhide HM).own
      go_wp2_with fail
      refine (unhide HT _).mono ?_
      rintro e w5 ⟨rfl, hb5⟩
      have HM5 := hide (((unhide HM).step (below_one wr _)).step hb5)
      clear hb5 c0 c1 c2 c3 c4 c5 q1 q2 hgr hz0 HT
      obtain ⟨⟨c0, c1, c2, c3, c4, c5⟩, k0, k1, k2, k3, k4, k5⟩ := six_at (unhide HM5).own
      have rk := (unhide HM5).row.cell k (by simp [takes_length _ l k hk]; omega)
      have fk := (unhide HM5).row.free k
      generalize ((Bk.takes ⟨S, R, P, H, T, L⟩ (l.take k)).2 ++ List.replicate (l.length - k) false)[k]'(by simp [takes_length _ l k hk]; omega) = old at rk
      go_wp2_with fail
      go_roundw
      case rel => exact ⟨k + 1, by omega, by go_num, unhide HN _ (unhide HM5)⟩
      case measure => simp [intOf]; omega
    · have hke : k = l.length := by omega
      subst hke
      have hM := unhide HM
      have e1 : l.take l.length = l := List.take_length
      obtain ⟨m1, m2, m3, m4⟩ := hM
      rw [e1] at m1 m3
      rw [Nat.sub_self, List.replicate_zero, List.append_nil] at m3
      have HM2 := hide m2
      have HM3 := hide m3
      have hlt' : decide ((l.length : Int) < (l.length : Int)) = false := by simp
      obtain ⟨⟨c0, c1, c2, c3, c4, c5⟩, _⟩ := six_at m1
      obtain ⟨⟨d0, d1, d2, d3, d4, d5⟩, f0, f1, f2, f3, f4, f5⟩ := six_at m2
      clear m1 m2 m3 HM HA
      obtain ⟨p, hp⟩ : ∃ p, Bk.takes ⟨S, R, P, H, T, L⟩ l = p := ⟨_, rfl⟩
      rw [hp] at c0 c1 c2 c3 c4 c5 HM3
      have HP := hide hp
      clear hp
      obtain ⟨⟨p0, p1, p2, p3, p4, p5⟩, oks⟩ := p
      dsimp only at c0 c1 c2 c3 c4 c5 HM3
      go_wp2_with fail
      refine bodyPost_at (fun W' hW' => ?_)
      obtain ⟨⟨r0, r1, r2, r3, r4, r5⟩, _⟩ := six_at (show W'.heap[w.heap.size + 1]? = some (.cells #[.int .i64 p0, .int .i64 p1, .int .i64 p2, .int .i64 p3, .int .i64 p4, .int .i64 p5] 25 (0, 0)) by rw [hW']; exact six_set (unhide HM2))
      have hrow : boolBlock W' (w.heap.size + 1 + 1) oks := by rw [hW']; exact six_other (unhide HM3) (by omega)
      have hbb : Below w.heap.size w W' := by rw [hW']; exact six_below m4 (by omega)
      refine bodyPost_ret (v := .tuple #[.agg #[.int .i64 p0, .int .i64 p1, .int .i64 p2, .int .i64 p3, .int .i64 p4, .int .i64 p5], .slice (some ⟨w.heap.size + 1 + 1, 0, none⟩) l.length l.length]) (by simp [results, Try.results18, go_sem, r0, r1, r2, r3, r4, r5]) rfl ⟨w.heap.size + 1 + 1, by rw [unhide HP], by rw [unhide HP]; exact hrow, by omega, hbb⟩

set_option maxRecDepth 100000 in
set_option maxHeartbeats 1000000 in
theorem implTakeAll_many (b : Bk) (a : Option Addr) (len cap : Nat) (w : World) (hl : 300 < len) :
    Calls Try.prog 18 #[bkv b, .slice a len cap] w fun e w' => e = .returned (.tuple #[bkv b, .slice none 0 0]) ∧ Below w.heap.size w w' := by
  have hgt : decide (300 < (len : Int)) = true := by simp; omega
  obtain ⟨S, R, P, H, T, L⟩ := b
  go_enter Try.func18, Try.ntmps18
  go_wp2_with fail
  refine bodyPost_ret (v := .tuple #[.agg #[.int .i64 S, .int .i64 R, .int .i64 P, .int .i64 H, .int .i64 T, .int .i64 L], .slice none 0 0]) (by simp [results, Try.results18, go_sem]) rfl ⟨rfl, ?_⟩
  exact ((Below.refl _ _).alloc (Nat.le_refl _) _).alloc (by simp) _
end Go.Proofs.Ythjpjamihlopeaa
