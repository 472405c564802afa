/-
  What the model's TakeAll comes to.
-/
import Derived.Test.YthjpjamihlopeaaBkAll
import Derived.Test.YthjpjamihlopeaaBytes
import Derived.Test.YthjpjamihlopeaaKeeps
import Derived.Deep.RegionHeld
namespace Go.Proofs.Ythjpjamihlopeaa
open Go.RowKit
open Mth

theorem own_below {w w' : World} {base size n : Nat} {e : TypeId} {v : Value} {xs : List Value} (h : w.ownsRow base e size v n xs) (hb : Below w.heap.size w w') : w'.ownsRow base e size v n xs := by
  refine h.kept (row := none) ⟨hb.os, hb.tape, hb.output, hb.size, fun k hk _ => hb.block k hk⟩ ?_
  cases hv : v.ownBlock with
  | none => exact .inl rfl
  | some k => right; simp
theorem own_bool {w : World} {base : Nat} {v : Value} {oks : List Bool} {ok : Bool} (h : w.ownsRow base 4 1 v (oks.length + 1) (oks.map Value.bool ++ [.bool ok])) : w.ownsRow base 4 1 v (oks ++ [ok]).length ((oks ++ [ok]).map Value.bool) := by
  have e1 : (oks ++ [ok]).map Value.bool = oks.map Value.bool ++ [.bool ok] := by simp
  rw [e1]; simpa using h

theorem own_le {w : World} {base base' size n : Nat} {e : TypeId} {v : Value} {xs : List Value} (h : w.ownsRow base e size v n xs) (hb : base' ≤ base) : w.ownsRow base' e size v n xs := by
  refine ⟨h.1, ?_⟩
  rcases h.2 with h2 | ⟨g, cap, cur, e1, e2, e3⟩
  · exact .inl h2
  · exact .inr ⟨g, cap, cur, e1, Nat.le_trans hb e2, e3⟩
/-- Where the round stands: the bucket, the result, the row of answers. -/
structure SMid (w : World) (b : Bk) (l : List (Int × Int)) (k : Nat) (v : Value) (wr : World) : Prop where
  own : wr.heap[w.heap.size]? = some (.cells #[.int .i64 (b.takes (l.take k)).1.S, .int .i64 (b.takes (l.take k)).1.R, .int .i64 (b.takes (l.take k)).1.P, .int .i64 (b.takes (l.take k)).1.H, .int .i64 (b.takes (l.take k)).1.T, .int .i64 (b.takes (l.take k)).1.L] 25 (0, 0))
  res : wr.heap[w.heap.size + 1]? = some (.cells #[.int .i64 0, .int .i64 0, .int .i64 0, .int .i64 0, .int .i64 0, .int .i64 0] 25 (0, 0))
  row : wr.ownsRow (w.heap.size + 1 + 1) 4 1 v (b.takes (l.take k)).2.length ((b.takes (l.take k)).2.map Value.bool)
  below : Below w.heap.size w wr
theorem SMid.step {w w1 w2 : World} {b : Bk} {l : List (Int × Int)} {k : Nat} {v : Value} (h : SMid w b l k v w1) (hb : Below w1.heap.size w1 w2) : SMid w b l k v w2 :=
  ⟨blk_step h.own hb, blk_step h.res hb, own_below h.row hb, h.below.trans (hb.mono h.below.size)⟩

theorem below_of_drew' {w w' : World} (h : Below w.drew.heap.size w.drew w') : Below w.heap.size w w' := ⟨h.os, h.tape, h.output, h.size, h.block⟩
theorem grown_of_keeps {c : Nat} {w w' : World} (h : Keeps c w w') : w.grownBy w' (some c) := ⟨h.os, h.tape, h.output, h.size, fun k hk hne => h.block k hk (fun e => hne (by rw [e]))⟩
theorem six_grown {w : World} {g : Nat} {b0 b1 b2 b3 b4 b5 : Value} : w.grownBy ((((((w.setCell ⟨g, 0, none⟩ b0).setCell ⟨g, 1, none⟩ b1).setCell ⟨g, 2, none⟩ b2).setCell ⟨g, 3, none⟩ b3).setCell ⟨g, 4, none⟩ b4).setCell ⟨g, 5, none⟩ b5) (some g) :=
  grown_of_keeps ((((((Keeps.set b0).trans (Keeps.set b1)).trans (Keeps.set b2)).trans (Keeps.set b3)).trans (Keeps.set b4)).trans (Keeps.set b5))
theorem SMid.ownNe {w w1 : World} {b : Bk} {l : List (Int × Int)} {k : Nat} {v : Value} (h : SMid w b l k v w1) : v.ownBlock ≠ some w1.heap.size := fun e => by have := (h.row.lt _ e).2; omega
/-- A block of six beyond all others written over. -/
theorem SMid.far {w w1 : World} {b : Bk} {l : List (Int × Int)} {k gn : Nat} {v : Value} (h : SMid w b l k v w1) (hv : v.ownBlock ≠ some gn) (hg : w.heap.size + 1 < gn) {b0 b1 b2 b3 b4 b5 : Value} :
    SMid w b l k v ((((((w1.setCell ⟨gn, 0, none⟩ b0).setCell ⟨gn, 1, none⟩ b1).setCell ⟨gn, 2, none⟩ b2).setCell ⟨gn, 3, none⟩ b3).setCell ⟨gn, 4, none⟩ b4).setCell ⟨gn, 5, none⟩ b5) :=
  ⟨six_other h.own (by omega), six_other h.res (by omega), h.row.kept six_grown (.inr hv), six_below h.below (by omega)⟩
/-- The bucket written over by the next one. -/
theorem SMid.own_set {w w1 : World} {b : Bk} {l : List (Int × Int)} {k : Nat} {v : Value} (h : SMid w b l k v w1) {b0 b1 b2 b3 b4 b5 : Value} :
    (((((((w1.setCell ⟨w.heap.size, 0, none⟩ b0).setCell ⟨w.heap.size, 1, none⟩ b1).setCell ⟨w.heap.size, 2, none⟩ b2).setCell ⟨w.heap.size, 3, none⟩ b3).setCell ⟨w.heap.size, 4, none⟩ b4).setCell ⟨w.heap.size, 5, none⟩ b5).heap[w.heap.size]? = some (.cells #[b0, b1, b2, b3, b4, b5] 25 (0, 0))) ∧
    (((((((w1.setCell ⟨w.heap.size, 0, none⟩ b0).setCell ⟨w.heap.size, 1, none⟩ b1).setCell ⟨w.heap.size, 2, none⟩ b2).setCell ⟨w.heap.size, 3, none⟩ b3).setCell ⟨w.heap.size, 4, none⟩ b4).setCell ⟨w.heap.size, 5, none⟩ b5).heap[w.heap.size + 1]? = some (.cells #[.int .i64 0, .int .i64 0, .int .i64 0, .int .i64 0, .int .i64 0, .int .i64 0] 25 (0, 0))) ∧
    ((((((w1.setCell ⟨w.heap.size, 0, none⟩ b0).setCell ⟨w.heap.size, 1, none⟩ b1).setCell ⟨w.heap.size, 2, none⟩ b2).setCell ⟨w.heap.size, 3, none⟩ b3).setCell ⟨w.heap.size, 4, none⟩ b4).setCell ⟨w.heap.size, 5, none⟩ b5).ownsRow (w.heap.size + 1 + 1) 4 1 v (b.takes (l.take k)).2.length ((b.takes (l.take k)).2.map Value.bool) ∧
    Below w.heap.size w ((((((w1.setCell ⟨w.heap.size, 0, none⟩ b0).setCell ⟨w.heap.size, 1, none⟩ b1).setCell ⟨w.heap.size, 2, none⟩ b2).setCell ⟨w.heap.size, 3, none⟩ b3).setCell ⟨w.heap.size, 4, none⟩ b4).setCell ⟨w.heap.size, 5, none⟩ b5) :=
  ⟨six_set h.own, six_other h.res (by omega), h.row.kept six_grown (.inr (fun e => by have := (h.row.lt _ e).1; omega)), six_below h.below (Nat.le_refl _)⟩

abbrev z6 : Obj := .cells #[.int .i64 0, .int .i64 0, .int .i64 0, .int .i64 0, .int .i64 0, .int .i64 0] 25
/-- Behind the call of Take, no variable laid ahead of it. -/
theorem far1 {w wr w5 : World} {b : Bk} {l : List (Int × Int)} {k g off : Nat} {v : Value} {n m : Int} (h : SMid w b l k v wr) (hg : g < w.heap.size) (q1 : wr.cell? ⟨g, off + k * 2, none⟩ = some (.int .i64 n)) (q2 : wr.cell? ⟨g, off + k * 2 + 1, none⟩ = some (.int .i64 m)) (hb5 : Below wr.drew.heap.size wr.drew w5) :
    SMid w b l k v w5 ∧ w5.cell? ⟨g, off + k * 2, none⟩ = some (.int .i64 n) ∧ w5.cell? ⟨g, off + k * 2 + 1, none⟩ = some (.int .i64 m) ∧ w5.heap.size ≠ w.heap.size ∧ w.heap.size ≠ w5.heap.size ∧ w5.heap.size ≠ g ∧ g ≠ w5.heap.size := by
  have hb := below_of_drew' hb5
  have h5 := h.step hb
  have h1 := blk_lt h5.res
  have h2 := h.below.size
  exact ⟨h5, (hb.cell (p := ⟨g, off + k * 2, none⟩) (by dsimp only; omega)).trans q1, (hb.cell (p := ⟨g, off + k * 2 + 1, none⟩) (by dsimp only; omega)).trans q2, by omega, by omega, by omega, by omega⟩
/-- Behind the call of Take, the variable laid ahead of it. -/
theorem far2 {w wr w5 : World} {b : Bk} {l : List (Int × Int)} {k g off : Nat} {v : Value} {n m : Int} (h : SMid w b l k v wr) (hg : g < w.heap.size) (q1 : wr.cell? ⟨g, off + k * 2, none⟩ = some (.int .i64 n)) (q2 : wr.cell? ⟨g, off + k * 2 + 1, none⟩ = some (.int .i64 m)) (hb5 : Below (wr.alloc z6).drew.heap.size (wr.alloc z6).drew w5) :
    SMid w b l k v w5 ∧ w5.cell? ⟨g, off + k * 2, none⟩ = some (.int .i64 n) ∧ w5.cell? ⟨g, off + k * 2 + 1, none⟩ = some (.int .i64 m) ∧ w5.heap[wr.heap.size]? = some z6 := by
  have hb := below_of_drew' hb5
  have h5 := (h.step (below_one wr z6)).step hb
  have h2 := h.below.size
  have hbb : Below wr.heap.size wr w5 := (below_one wr z6).trans (hb.mono (by simp))
  exact ⟨h5, (hbb.cell (p := ⟨g, off + k * 2, none⟩) (by dsimp only; omega)).trans q1, (hbb.cell (p := ⟨g, off + k * 2 + 1, none⟩) (by dsimp only; omega)).trans q2, blk_step (heap_alloc_new wr z6) hb⟩

/-- A round more. -/
theorem smid_next {w W7 w8 : World} {b : Bk} {l : List (Int × Int)} {k n : Nat} {v v' : Value} {xs : List Value} {o : Obj} {b0 b1 b2 b3 b4 b5 : Int} {oks : List Bool} {ok : Bool}
    (h1 : W7.heap[w.heap.size]? = some (.cells #[.int .i64 b0, .int .i64 b1, .int .i64 b2, .int .i64 b3, .int .i64 b4, .int .i64 b5] 25 (0, 0)))
    (h2 : W7.heap[w.heap.size + 1]? = some (.cells #[.int .i64 0, .int .i64 0, .int .i64 0, .int .i64 0, .int .i64 0, .int .i64 0] 25 (0, 0)))
    (h3 : W7.ownsRow (w.heap.size + 1 + 1) 4 1 v n xs) (h4 : Below w.heap.size w W7) (hN : b.takes (l.take (k + 1)) = (⟨b0, b1, b2, b3, b4, b5⟩, oks ++ [ok])) (hg : (W7.alloc o).grownBy w8 v.ownBlock)
    (ho : w8.ownsRow (w.heap.size + 1 + 1) 4 1 v' (oks.length + 1) (oks.map Value.bool ++ [.bool ok])) : SMid w b l (k + 1) v' w8 := by
  have z1 := blk_lt h1
  have z2 := blk_lt h2
  refine ⟨?_, ?_, ?_, ?_⟩
  · rw [hN, hg.block _ (by simp; omega) (fun e' => by have := (h3.lt _ e'.symm).1; omega), Below.heap_alloc _ _ _ z1]
    exact h1
  · rw [hg.block _ (by simp; omega) (fun e' => by have := (h3.lt _ e'.symm).1; omega), Below.heap_alloc _ _ _ z2]
    exact h2
  · rw [hN]
    exact own_bool ho
  · exact (h4.alloc h4.size o).grown hg (by have := h4.size; simp; omega) (fun k hk => by have := (h3.lt k hk).1; omega)

set_option maxRecDepth 100000 in
set_option maxHeartbeats 4000000 in
theorem specTakeAll (b : Bk) (a : Option Addr) (cap : Nat) (l : List (Int × Int)) (w : World) (hl : l.length ≤ 300) (ha : AsksAt w a l) :
    Calls Try.prog 19 #[bkv b, .slice a l.length cap] w fun e w' => ∃ v, e = .returned (.tuple #[bkv (b.takes l).1, v]) ∧ w'.ownsRow w.heap.size 4 1 v (b.takes l).2.length ((b.takes l).2.map Value.bool) ∧ Below w.heap.size w w' := by
  obtain ⟨i0, hi, hz0, hz1, hz2⟩ := info_parts infoBool
  have HA := hide ha
  clear ha
  obtain ⟨S, R, P, H, T, L⟩ := b
  go_enter Try.func19, Try.ntmps19
  go_wp2_with fail
  go_loopw [6, 7] (fun v i wr => ∃ k : Nat, k ≤ l.length ∧ i = .int .i64 k ∧ SMid w ⟨S, R, P, H, T, L⟩ l k v wr) (fun _ i _ => l.length - (intOf i).toNat)
  case atStart =>
    refine ⟨0, Nat.zero_le _, rfl, ?_, ?_, ?_, ?_⟩
    · rw [Below.heap_alloc _ _ _ (by simp; omega), Below.heap_alloc _ _ _ (by simp)]
      exact heap_alloc_new w _
    · rw [Below.heap_alloc _ _ _ (by simp)]
      have h := heap_alloc_new (w.alloc (.cells #[.int .i64 S, .int .i64 R, .int .i64 P, .int .i64 H, .int .i64 T, .int .i64 L] 25)) (.cells #[.int .i64 0, .int .i64 0, .int .i64 0, .int .i64 0, .int .i64 0, .int .i64 0] 25)
      rwa [alloc_size'] at h
    · have h := World.ownsRow_lit (base := w.heap.size + 1 + 1) (e := 4) (size := 1) ((w.alloc (.cells #[.int .i64 S, .int .i64 R, .int .i64 P, .int .i64 H, .int .i64 T, .int .i64 L] 25)).alloc (.cells #[.int .i64 0, .int .i64 0, .int .i64 0, .int .i64 0, .int .i64 0, .int .i64 0] 25)) #[] 0 (by simp) (by decide) rfl
      rw [alloc_size', alloc_size'] at h
      simpa [Bk.takes] using h
    · exact (((Below.refl _ _).alloc (Nat.le_refl _) _).alloc (by simp) _).alloc (by simp; omega) _
  case round =>
    obtain ⟨k, hk, rfl, hM⟩ := hrel
    have HM := hide hM
    clear hM
    by_cases hlt : k < l.length
    · obtain ⟨g, off, rfl, hgw, hc1, hc2⟩ := unhide HA k hlt
      have q1 := ((unhide HM).below.cell (p := ⟨g, off + k * 2, none⟩) hgw).trans hc1
      have q2 := ((unhide HM).below.cell (p := ⟨g, off + k * 2 + 1, none⟩) hgw).trans hc2
      have hwr := (unhide HM).below.size
      have hzr := blk_lt (unhide HM).res
      clear hc1 hc2
      obtain ⟨q, hq⟩ : ∃ q, (Bk.takes ⟨S, R, P, H, T, L⟩ (l.take k)).1.take l[k].1 l[k].2 = q := ⟨_, rfl⟩
      have HT := hide (fun w1 => specTake (Bk.takes ⟨S, R, P, H, T, L⟩ (l.take k)).1 l[k].1 l[k].2 w1)
      rw [hq] at HT
      obtain ⟨⟨b0, b1, b2, b3, b4, b5⟩, ok⟩ := q
      dsimp only at HT
      have hnx := takes_succ ⟨S, R, P, H, T, L⟩ l k hlt
      rw [hq] at hnx
      have HN := hide hnx
      clear hq hnx
      generalize l[k].1 = n at *
      generalize l[k].2 = m at *
      obtain ⟨⟨c0, c1, c2, c3, c4, c5⟩, _⟩ := six_at (unhide HM).own
      have hvo := (unhide HM).ownNe
      have z1 : wr.heap.size ≠ w.heap.size := by omega
      have z2 : w.heap.size ≠ wr.heap.size := by omega
      have z3 : wr.heap.size ≠ g := by omega
      have z4 : g ≠ wr.heap.size := by omega
      go_wp2_with fail
      go_region_held (fun w' => (w'.cell? ⟨w.heap.size, 0, none⟩ = some (.int .i64 (Bk.takes ⟨S, R, P, H, T, L⟩ (l.take k)).1.S) ∧ w'.cell? ⟨w.heap.size, 1, none⟩ = some (.int .i64 (Bk.takes ⟨S, R, P, H, T, L⟩ (l.take k)).1.R) ∧ w'.cell? ⟨w.heap.size, 2, none⟩ = some (.int .i64 (Bk.takes ⟨S, R, P, H, T, L⟩ (l.take k)).1.P) ∧ w'.cell? ⟨w.heap.size, 3, none⟩ = some (.int .i64 (Bk.takes ⟨S, R, P, H, T, L⟩ (l.take k)).1.H) ∧ w'.cell? ⟨w.heap.size, 4, none⟩ = some (.int .i64 (Bk.takes ⟨S, R, P, H, T, L⟩ (l.take k)).1.T) ∧ w'.cell? ⟨w.heap.size, 5, none⟩ = some (.int .i64 (Bk.takes ⟨S, R, P, H, T, L⟩ (l.take k)).1.L)) ∧
          w'.cell? ⟨g, off + k * 2, none⟩ = some (.int .i64 n) ∧ w'.cell? ⟨g, off + k * 2 + 1, none⟩ = some (.int .i64 m)) (go_keep)
        (first
          | (go_at_call 22; refine (unhide HT _).mono ?_; rintro e w5 ⟨rfl, hb5⟩; obtain ⟨hM5, y1, y2, x1, x2, x3, x4⟩ := far1 (unhide HM) hgw q1 q2 hb5; have HM5 := hide hM5; clear hb5 hM5; obtain ⟨⟨e0, e1, e2, e3, e4, e5⟩, _⟩ := six_at (unhide HM5).own)
          | (go_at_call 22; refine (unhide HT _).mono ?_; rintro e w5 ⟨rfl, hb5⟩; obtain ⟨hM5, y1, y2, hN5⟩ := far2 (unhide HM) hgw q1 q2 hb5; have HM5 := hide hM5; have HN5 := hide hN5; clear hb5 hM5 hN5; obtain ⟨⟨e0, e1, e2, e3, e4, e5⟩, _⟩ := six_at (unhide HM5).own; obtain ⟨⟨j0, j1, j2, j3, j4, j5⟩, l0, l1, l2, l3, l4, l5⟩ := six_at (unhide HN5)))
      all_goals
        go_upto_region 6 with fail
        refine wp_at (fun W6 hW6 => ?_)
        first
          | (have hN5 := unhide HN5; have HM6 := hide (hW6 ▸ (unhide HM5).far hvo hzr : SMid w ⟨S, R, P, H, T, L⟩ l k _ W6); obtain ⟨⟨t0, t1, t2, t3, t4, t5⟩, _⟩ := six_at (show W6.heap[wr.heap.size]? = some (.cells #[.int .i64 b0, .int .i64 b1, .int .i64 b2, .int .i64 b3, .int .i64 b4, .int .i64 b5] 25 (0, 0)) by rw [hW6]; exact six_set hN5); clear hN5 HN5)
          | (have HM6 := hide (hW6 ▸ (unhide HM5).step (below_one w5 _) : SMid w ⟨S, R, P, H, T, L⟩ l k _ W6); obtain ⟨⟨t0, t1, t2, t3, t4, t5⟩, _⟩ := six_at (show W6.heap[w5.heap.size]? = some (.cells #[.int .i64 b0, .int .i64 b1, .int .i64 b2, .int .i64 b3, .int .i64 b4, .int .i64 b5] 25 (0, 0)) by rw [hW6]; exact heap_alloc_new w5 _))
        clear hW6 e0 e1 e2 e3 e4 e5 c0 c1 c2 c3 c4 c5 q1 q2 y1 y2 HT
        obtain ⟨⟨c0, c1, c2, c3, c4, c5⟩, k0, k1, k2, k3, k4, k5⟩ := six_at (unhide HM6).own
        go_upto_region 7 with fail
        refine wp_at (fun W7 hW7 => ?_)
        obtain ⟨s1, s2, s3, s4⟩ := (unhide HM6).own_set (b0 := .int .i64 b0) (b1 := .int .i64 b1) (b2 := .int .i64 b2) (b3 := .int .i64 b3) (b4 := .int .i64 b4) (b5 := .int .i64 b5)
        rw [← hW7] at s1 s2 s3 s4
        have hln := takes_length ⟨S, R, P, H, T, L⟩ l k hk
        have HS1 := hide s1
        have HS2 := hide s2
        have HS4 := hide s4
        have hz7 := s4.size
        have hz8 := blk_lt s2
        clear hW7 s1 s2 s4 c0 c1 c2 c3 c4 c5 k0 k1 k2 k3 k4 k5 t0 t1 t2 t3 t4 t5 HM6 HM5
        generalize (Bk.takes ⟨S, R, P, H, T, L⟩ (l.take k)).2 = oks at *
        go_wp2_with (at_builtin; refine wpList_append_own _ rfl _ _ 34 rfl (w.heap.size + 1 + 1) 4 i0 (.bool false) 1 1 Try.underlying34 hi hz0 hz1 hz2 rfl (by decide) _ _ _ rfl (s3.alloc _) ⟨W7.heap.size, 0, none⟩ 1 1 [.bool ok] rfl rfl ?c1 ?c2 ?c3 ?c4 ?c5 ?_)
        case c1 => exact cell_one_new _ _ _
        case c2 => intro u hu; simp at hu; subst hu; rfl
        case c3 => unfold maxLen; omega
        case c4 => omega
        case c5 => simp; omega
        intro v' w8 hown' hgrow _
        have HX := hide (smid_next (unhide HS1) (unhide HS2) s3 (unhide HS4) (unhide HN) hgrow (by rw [hln]; exact hown'))
        clear hown' hgrow s3
        go_wp2
        go_roundw
        case rel => exact ⟨k + 1, by omega, by go_num, unhide HX⟩
        case measure => simp [intOf]; omega
    · have hke : k = l.length := by omega
      subst hke
      have hM := unhide HM
      have e1 : l.take l.length = l := List.take_length
      obtain ⟨m1, m2, m3, m4⟩ := hM
      rw [e1] at m1 m3
      have HM2 := hide m2
      have HM3 := hide m3
      obtain ⟨⟨c0, c1, c2, c3, c4, c5⟩, _⟩ := six_at m1
      obtain ⟨⟨d0, d1, d2, d3, d4, d5⟩, f0, f1, f2, f3, f4, f5⟩ := six_at m2
      clear m1 m2 m3 HM HA
      obtain ⟨p, hp⟩ : ∃ p, Bk.takes ⟨S, R, P, H, T, L⟩ l = p := ⟨_, rfl⟩
      rw [hp] at c0 c1 c2 c3 c4 c5 HM3
      have HP := hide hp
      clear hp
      obtain ⟨⟨p0, p1, p2, p3, p4, p5⟩, oks⟩ := p
      dsimp only at c0 c1 c2 c3 c4 c5 HM3
      go_wp2_with fail
      refine bodyPost_at (fun W' hW' => ?_)
      obtain ⟨⟨r0, r1, r2, r3, r4, r5⟩, _⟩ := six_at (show W'.heap[w.heap.size + 1]? = some (.cells #[.int .i64 p0, .int .i64 p1, .int .i64 p2, .int .i64 p3, .int .i64 p4, .int .i64 p5] 25 (0, 0)) by rw [hW']; exact six_set (unhide HM2))
      have hrow := hide ((unhide HM3).kept (six_grown (g := w.heap.size + 1) (b0 := .int .i64 p0) (b1 := .int .i64 p1) (b2 := .int .i64 p2) (b3 := .int .i64 p3) (b4 := .int .i64 p4) (b5 := .int .i64 p5)) (.inr (fun e => by have := ((unhide HM3).lt _ e).1; omega)))
      rw [← hW'] at hrow
      have hbb : Below w.heap.size w W' := by rw [hW']; exact six_below m4 (by omega)
      refine bodyPost_ret (by simp [results, Try.results19, go_sem, r0, r1, r2, r3, r4, r5]; rfl) rfl ⟨_, by rw [unhide HP], by rw [unhide HP]; exact own_le (unhide hrow) (by omega), hbb⟩

set_option maxRecDepth 100000 in
set_option maxHeartbeats 1000000 in
theorem specTakeAll_many (b : Bk) (a : Option Addr) (len cap : Nat) (w : World) (hl : 300 < len) :
    Calls Try.prog 19 #[bkv b, .slice a len cap] w fun e w' => ∃ g, e = .returned (.tuple #[bkv b, .slice (some ⟨g, 0, none⟩) 0 0]) ∧ Below w.heap.size w w' := by
  have hgt : decide ((len : Int) ≤ 300) = false := by simp; omega
  obtain ⟨S, R, P, H, T, L⟩ := b
  go_enter Try.func19, Try.ntmps19
  go_wp2_with fail
  go_loopw [6, 7] (fun v i wr => v = .slice (some ⟨w.heap.size + 1 + 1, 0, none⟩) 0 0 ∧ i = .int .i64 0 ∧ wr.heap[w.heap.size]? = some (.cells #[.int .i64 S, .int .i64 R, .int .i64 P, .int .i64 H, .int .i64 T, .int .i64 L] 25 (0, 0)) ∧ wr.heap[w.heap.size + 1]? = some (.cells #[.int .i64 0, .int .i64 0, .int .i64 0, .int .i64 0, .int .i64 0, .int .i64 0] 25 (0, 0)) ∧ Below w.heap.size w wr) (fun _ _ _ => 0)
  case atStart =>
    refine ⟨rfl, rfl, ?_, ?_, ?_⟩
    · rw [Below.heap_alloc _ _ _ (by simp; omega), Below.heap_alloc _ _ _ (by simp)]
      exact heap_alloc_new w _
    · rw [Below.heap_alloc _ _ _ (by simp)]
      have h := heap_alloc_new (w.alloc (.cells #[.int .i64 S, .int .i64 R, .int .i64 P, .int .i64 H, .int .i64 T, .int .i64 L] 25)) (.cells #[.int .i64 0, .int .i64 0, .int .i64 0, .int .i64 0, .int .i64 0, .int .i64 0] 25)
      rwa [alloc_size'] at h
    · exact (((Below.refl _ _).alloc (Nat.le_refl _) _).alloc (by simp) _).alloc (by simp; omega) _
  case round =>
    obtain ⟨rfl, rfl, m1, m2, m4⟩ := hrel
    have HM2 := hide m2
    have hlt : decide ((0 : Int) < (len : Int)) = true := by simp; omega
    obtain ⟨⟨c0, c1, c2, c3, c4, c5⟩, _⟩ := six_at m1
    obtain ⟨⟨d0, d1, d2, d3, d4, d5⟩, f0, f1, f2, f3, f4, f5⟩ := six_at m2
    clear m1 m2
    go_wp2_with fail
    refine bodyPost_at (fun W' hW' => ?_)
    obtain ⟨⟨r0, r1, r2, r3, r4, r5⟩, _⟩ := six_at (show W'.heap[w.heap.size + 1]? = some (.cells #[.int .i64 S, .int .i64 R, .int .i64 P, .int .i64 H, .int .i64 T, .int .i64 L] 25 (0, 0)) by rw [hW']; exact six_set (unhide HM2))
    have hbb : Below w.heap.size w W' := by rw [hW']; exact six_below m4 (by omega)
    refine bodyPost_ret (v := .tuple #[.agg #[.int .i64 S, .int .i64 R, .int .i64 P, .int .i64 H, .int .i64 T, .int .i64 L], .slice (some ⟨w.heap.size + 1 + 1, 0, none⟩) 0 0]) (by simp [results, Try.results19, go_sem, r0, r1, r2, r3, r4, r5]) rfl ⟨_, rfl, hbb⟩
end Go.Proofs.Ythjpjamihlopeaa
