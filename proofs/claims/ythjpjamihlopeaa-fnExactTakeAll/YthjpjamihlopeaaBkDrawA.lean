/-
  The draw of chapter 2 for TakeAll: a bucket and some asks.
-/
import Derived.Test.YthjpjamihlopeaaBkDrawF
import Derived.Test.YthjpjamihlopeaaBkAllS
namespace Go.Proofs.Ythjpjamihlopeaa
open Go.RowKit
open Mth

theorem addr_add' (b off i : Nat) : (⟨b, off, none⟩ : Addr).add i = ⟨b, off + i, none⟩ := by
  unfold Addr.add; split <;> simp_all
/-- Asks as a row of cells. -/
def flat (l : List (Int × Int)) : List Value := l.flatMap fun p => [.int .i64 p.1, .int .i64 p.2]
theorem flat_length (l : List (Int × Int)) : (flat l).length = l.length * 2 := by
  induction l with
  | nil => rfl
  | cons p r ih => simp [flat] at ih ⊢; omega
theorem flat_at : ∀ (l : List (Int × Int)) (i : Nat) (hi : i < l.length), (flat l)[i * 2]? = some (.int .i64 l[i].1) ∧ (flat l)[i * 2 + 1]? = some (.int .i64 l[i].2) := by
  intro l
  induction l with
  | nil => intro i hi; simp at hi
  | cons p r ih =>
    intro i hi
    have e : flat (p :: r) = .int .i64 p.1 :: .int .i64 p.2 :: flat r := rfl
    cases i with
    | zero => rw [e]; exact ⟨rfl, rfl⟩
    | succ j =>
      have h := ih j (by simpa using hi)
      rw [e, show (j + 1) * 2 = j * 2 + 2 by omega]
      exact h
theorem flat_snoc (l : List (Int × Int)) (p : Int × Int) : flat (l ++ [p]) = flat l ++ [.int .i64 p.1, .int .i64 p.2] := by simp [flat]
theorem infoAsk : (Try.prog.info? 43).map (fun i => (i.zero, i.size, i.bytes)) = some (some (.agg #[.int .i64 0, .int .i64 0]), 2, 16) := by kernel_rfl
/-- A row of asks of the call's own can be read as asks. -/
theorem asks_own {w : World} {base : Nat} {v : Value} {l : List (Int × Int)} (h : w.ownsRow base 43 2 v l.length (flat l)) : ∃ a cap, v = .slice a l.length cap ∧ AsksAt w a l := by
  rcases h.2 with ⟨rfl, hn⟩ | ⟨g, cap, cur, rfl, hg, hblk, _⟩
  · exact ⟨none, 0, by rw [hn], fun i hi => by omega⟩
  · refine ⟨_, cap, rfl, fun i hi => ⟨g, 0, rfl, blk_lt hblk, ?_, ?_⟩⟩
    · have := h.cells rfl (i * 2) _ (flat_at l i hi).1
      rwa [addr_add'] at this
    · have := h.cells rfl (i * 2 + 1) _ (flat_at l i hi).2
      rwa [addr_add'] at this

/-- Where the walk of the draw stands: as of a bucket's, and the row of asks. -/
structure AMid (w : World) (g : Nat) (b : Bk) (v : Value) (l : List (Int × Int)) (w' : World) : Prop where
  mid : DMid w bk0 g b w'
  row : w'.ownsRow (g + 1) 43 2 v l.length (flat l)
theorem AMid.step {w w1 w2 : World} {g : Nat} {b : Bk} {v : Value} {l : List (Int × Int)} (h : AMid w g b v l w1) (hc : Cur w2 (w.heap.size + 1)) (hk : Keeps (w.heap.size + 1) w1 w2) : AMid w g b v l w2 :=
  ⟨h.mid.step hc hk, h.row.kept (grown_of_keeps hk) (.inr (fun e => by have := (h.row.lt _ e).1; have := h.mid.beyond; omega))⟩

theorem cells_two_new (w : World) (a b : Value) (t : TypeId) : ∀ (j : Nat) (u : Value), [a, b][j]? = some u → (w.alloc (.cells #[a, b] t)).cell? ((⟨w.heap.size, 0, none⟩ : Addr).add j) = some u := by
  intro j u h
  rw [addr_add', Nat.zero_add, cell_of_row _ _ j #[a, b] t (0, 0) (heap_alloc_new w _)]
  simpa using h
/-- An ask more. -/
theorem amid_next {w w8 w9 : World} {g : Nat} {b : Bk} {v v' : Value} {l : List (Int × Int)} {y t : Int} {o : Obj} (h : AMid w g b v l w8) (hg : (w8.alloc o).grownBy w9 v.ownBlock)
    (ho : w9.ownsRow (g + 1) 43 2 v' (l.length + 1) (flat l ++ [.int .i64 y, .int .i64 t])) : AMid w g b v' (l ++ [(y, t)]) w9 := by
  have hgl := blk_lt h.mid.own
  have hbe := h.mid.beyond
  have hne : ∀ k, k < g + 1 → some k ≠ v.ownBlock := fun k hk e => by have := (h.row.lt _ e.symm).1; omega
  have hblk : ∀ k, k < g + 1 → w9.heap[k]? = w8.heap[k]? := fun k hk => by
    rw [hg.block k (by simp; omega) (hne k hk), Below.heap_alloc _ _ _ (by omega)]
  have hbl : Below (g + 1) w8 w9 := ((Below.refl _ _).alloc (by omega) o).grown hg (by simp; omega) (fun k hk => (h.row.lt k hk).1)
  refine ⟨⟨?_, h.mid.cur.below hbl (by omega), ?_, ?_, hbe⟩, ?_⟩
  · rw [hblk _ (by omega)]; exact h.mid.res
  · exact h.mid.below.trans (hbl.mono (by omega))
  · rw [hblk _ (by omega)]; exact h.mid.own
  · rw [flat_snoc]
    simpa using ho

set_option maxRecDepth 100000 in
set_option maxHeartbeats 4000000 in
theorem drawTakeAll (a : Option Addr) (len cap : Nat) (w : World) (hcode : CodeOk w a len) : Calls Try.prog 17 #[.slice a len cap] w fun e w' => ∃ (b : Bk) (l : List (Int × Int)) (v : Value), e = .returned (.tuple #[bkv b, v]) ∧ l.length ≤ 301 ∧ (∀ p ∈ l, 0 ≤ p.2 ∧ p.2 < 6) ∧ w'.ownsRow w.heap.size 43 2 v l.length (flat l) ∧ Below w.heap.size w w' := by
  obtain ⟨i0, hi, hz0, hz1, hz2⟩ := info_parts infoAsk
  have HC := hide hcode
  clear hcode
  go_enter Try.func17, Try.ntmps17
  go_wp2_with fail
  refine (l01NewC a len cap w _ (unhide HC)).mono ?_
  rintro e w1 ⟨rfl, hc1, hr1, hb1⟩
  go_wp2_with fail
  refine (l02Bucket _ _ hc1).mono ?_
  rintro e w2 ⟨b, rfl, hd, hc2, hk2⟩
  have HR2 := hide (blk_keeps hr1 hk2 (by omega))
  have HB2 := hide (hb1.trans (hk2.below (B := w.heap.size) (by omega) hb1.size))
  have HC2 := hide hc2
  clear hr1 hb1 hc1 hc2 hk2
  obtain ⟨S, R, P, H, T, L⟩ := b
  unfold Drawn at hd
  dsimp only at hd
  go_upto_region 3 with fail
  refine wp_at (fun W3 hW3 => ?_)
  have HM : Hid (DMid w bk0 w2.heap.size ⟨S, R, P, H, T, L⟩ W3) := by
    subst hW3
    exact DMid.make (unhide HR2) (unhide HC2) (unhide HB2)
  have hz3 : W3.heap.size = w2.heap.size + 1 := by rw [hW3]; simp
  clear hW3 HR2 HC2 HB2
  have hbg := (unhide HM).beyond
  generalize w2.heap.size = g at *
  go_wp2_with fail
  refine (l01Below _ 10 _ (cur_new (unhide HM).cur _) (by omega) (by omega)).mono ?_
  rintro e w4 ⟨x, rfl, hx0, hx1, hc4, hk4⟩
  have HA4 : Hid (AMid w g ⟨S, R, P, H, T, L⟩ (.slice (some ⟨g + 1, 0, none⟩) 0 0) [] w4) := by
    have h0 : AMid w g ⟨S, R, P, H, T, L⟩ (.slice (some ⟨g + 1, 0, none⟩) 0 0) [] (W3.alloc (.cells #[] 43)) := by
      refine ⟨(unhide HM).step (cur_new (unhide HM).cur _) (keeps_new _), ?_⟩
      have h := World.ownsRow_lit (base := g + 1) (e := 43) (size := 2) W3 #[] 0 (by omega) (by decide) rfl
      rw [hz3] at h
      exact h
    exact h0.step hc4 hk4
  clear hc4 hk4 HM hz3
  go_wp2_with fail
  refine (l01Once _ 60 _ (unhide HA4).mid.cur (by omega) (by omega)).mono ?_
  rintro e w5 ⟨tf, rfl, hc5, hk5⟩
  have HA5 := hide ((unhide HA4).step hc5 hk5)
  clear hc5 hk5 HA4
  cases tf
  case' true =>
    go_wp2_with fail
    refine (l01Below _ 2 _ (unhide HA5).mid.cur (by omega) (by omega)).mono ?_
    rintro e w6 ⟨y, rfl, hy0, hy1, hc6, hk6⟩
    have HA6 := hide ((unhide HA5).step hc6 hk6)
    clear hc6 hk6 HA5
    obtain ⟨N, hN⟩ := Int.eq_ofNat_of_zero_le (show 0 ≤ 300 + y by omega)
    have hN1 : N ≤ 301 := by omega
    obtain ⟨⟨c0, c1, c2, c3, c4, c5⟩, _⟩ := six_at (unhide HA6).mid.own
    dsimp only at c0 c1 c2 c3 c4 c5
    go_wp2_with fail
    try rw [hN]
  case' false =>
    obtain ⟨w6, hw6⟩ : ∃ w6, w6 = w5 := ⟨_, rfl⟩
    have HA6 := HA5
    rw [← hw6] at HA6
    rw [← hw6]
    clear HA5 hw6
    obtain ⟨N, hN⟩ := Int.eq_ofNat_of_zero_le hx0
    have hN1 : N ≤ 301 := by omega
    obtain ⟨⟨c0, c1, c2, c3, c4, c5⟩, _⟩ := six_at (unhide HA6).mid.own
    dsimp only at c0 c1 c2 c3 c4 c5
    go_wp2_with fail
    try rw [hN]
  all_goals
    clear hN c0 c1 c2 c3 c4 c5
    go_loopw [6, 8, 9] (fun v nw i wr => ∃ (k : Nat) (l : List (Int × Int)) (y : Int), k ≤ N ∧ i = .int .i64 k ∧ nw = .int .i64 y ∧ -1 ≤ y ∧ y ≤ 1000000001 + 5 * k ∧ l.length = k ∧ (∀ p ∈ l, 0 ≤ p.2 ∧ p.2 < 6) ∧ AMid w g ⟨S, R, P, H, T, L⟩ v l wr) (fun _ _ i _ => N - (intOf i).toNat)
    case atStart => exact ⟨0, [], L, Nat.zero_le _, rfl, rfl, by omega, by omega, rfl, by simp, unhide HA6⟩
    case round =>
      obtain ⟨k, l, y, hk, rfl, rfl, hy0, hy1, hlen, hall, hA⟩ := hrel
      have HAL := hide hall
      have HLN := hide hlen
      have HAR := hide hA
      clear hall hA hlen
      by_cases hlt : k < N
      · go_wp2_with fail
        refine (l01Below _ 5 _ (unhide HAR).mid.cur (by omega) (by omega)).mono ?_
        rintro e w7 ⟨z, rfl, hz0', hz1', hc7, hk7⟩
        have HA7 := hide ((unhide HAR).step hc7 hk7)
        clear hc7 hk7 HAR
        go_wp2_with fail
        refine (l01Below _ 6 _ (unhide HA7).mid.cur (by omega) (by omega)).mono ?_
        rintro e w8 ⟨t, rfl, ht0, ht1, hc8, hk8⟩
        have HA8 := hide ((unhide HA7).step hc8 hk8)
        clear hc8 hk8 HA7
        have hrow := (unhide HA8).row
        go_wp2_with (at_builtin; refine wpList_append_own _ rfl _ _ 31 rfl (g + 1) 43 i0 (.agg #[.int .i64 0, .int .i64 0]) 2 16 Try.underlying31 hi hz0 hz1 hz2 rfl (by decide) _ _ _ rfl (hrow.alloc _) ⟨w8.heap.size, 0, none⟩ 1 1 [.int .i64 (y + z), .int .i64 t] rfl rfl ?c1 ?c2 ?c3 ?c4 ?c5 ?_)
        case c1 => exact cells_two_new _ _ _ _
        case c2 =>
          intro u hu
          simp at hu
          rcases hu with rfl | rfl <;> rfl
        case c3 => have := unhide HLN; unfold maxLen; omega
        case c4 => have := unhide HLN; omega
        case c5 => have := blk_lt (unhide HA8).mid.own; simp; omega
        intro v' w9 hown' hgrow _
        have HX := hide (amid_next (unhide HA8) hgrow hown')
        clear hown' hgrow hrow
        go_wp2
        go_roundw
        case rel =>
          refine ⟨k + 1, l ++ [(y + z, t)], y + z, by omega, by go_num, rfl, by omega, by omega, by have := unhide HLN; simp; omega, ?_, unhide HX⟩
          intro p hp
          rcases List.mem_append.1 hp with h | h
          · exact unhide HAL p h
          · simp at h; subst h; exact ⟨ht0, ht1⟩
        case measure => simp [intOf]; omega
      · have hnlt : decide ((k : Int) < (N : Int)) = false := by simp; omega
        obtain ⟨⟨c0, c1, c2, c3, c4, c5⟩, _⟩ := six_at (unhide HAR).mid.own
        obtain ⟨⟨d0, d1, d2, d3, d4, d5⟩, f0, f1, f2, f3, f4, f5⟩ := six_at (unhide HAR).mid.res
        dsimp only at c0 c1 c2 c3 c4 c5
        go_wp2_with fail
        refine bodyPost_at (fun W' hW' => ?_)
        obtain ⟨hblk, hbl⟩ := (unhide HAR).mid.done hW'
        have hrow := hide ((unhide HAR).row.kept (six_grown (g := w.heap.size) (b0 := .int .i64 S) (b1 := .int .i64 R) (b2 := .int .i64 P) (b3 := .int .i64 H) (b4 := .int .i64 T) (b5 := .int .i64 L)) (.inr (fun e => by have := ((unhide HAR).row.lt _ e).1; omega)))
        rw [← hW'] at hrow
        obtain ⟨⟨r0, r1, r2, r3, r4, r5⟩, _⟩ := six_at hblk
        dsimp only at r0 r1 r2 r3 r4 r5
        refine bodyPost_ret (by simp [results, Try.results17, go_sem, r0, r1, r2, r3, r4, r5]) rfl ⟨⟨S, R, P, H, T, L⟩, l, _, rfl, by have := unhide HLN; omega, unhide HAL, own_le (unhide hrow) (by omega), hbl⟩
end Go.Proofs.Ythjpjamihlopeaa
