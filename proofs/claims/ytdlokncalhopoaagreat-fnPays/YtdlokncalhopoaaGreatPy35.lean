/- Parts. -/
import Derived.Test.YtdlokncalhopoaaGreatPy15
import Derived.Test.YtdlokncalhopoaaGreatPy3
import Derived.Deep.QuietTactic
import Derived.BigQuiet
import Derived.Laws.Bits64b
namespace Go.Proofs.YtdlokncalhopoaaGreat
open Go.RowKit

theorem and255 (y : Int) : 0 ≤ bits .and .i64 y 255 ∧ bits .and .i64 y 255 ≤ 255 := by
  have h : bits .and .i64 y 255 = IntKind.i64.wrap ((BitVec.ofInt 64 y &&& BitVec.ofInt 64 255).toNat : Int) := rfl
  have h2 : (BitVec.ofInt 64 y &&& BitVec.ofInt 64 255).toNat ≤ 255 := by
    rw [BitVec.toNat_and]
    exact Nat.le_trans Nat.and_le_right (by decide)
  rw [h, IntWalk.i64_in _ ⟨by omega, by omega⟩]
  omega

/-- A cursor in block c: over a code that lies ahead of it. -/
def Cur (w : World) (c : Nat) : Prop :=
  ∃ (a : Option Addr) (len cap i : Nat) (h : Int), w.heap[c]? = some (.cells #[.slice a len cap, .int .i64 i, .int .i64 h] 73 (0, 0)) ∧ i ≤ len ∧ len ≤ 1048576 ∧
    (∀ j < len, ∃ (b off : Nat) (z : Int), a = some ⟨b, off, none⟩ ∧ b < c ∧ 0 ≤ z ∧ z ≤ 255 ∧ w.cell? ⟨b, off + j, none⟩ = some (.int .u8 z))
theorem Cur.lt {w : World} {c : Nat} (h : Cur w c) : c < w.heap.size := by
  obtain ⟨a, len, cap, i, hh, hb, _⟩ := h
  rcases Nat.lt_or_ge c w.heap.size with h' | h'
  · exact h'
  · rw [Array.getElem?_eq_none h'] at hb; cases hb
/-- It stays while nothing up to its block turns. -/
theorem Cur.below {w w' : World} {c B : Nat} (h : Cur w c) (hb : Below B w w') (hB : c < B) : Cur w' c := by
  obtain ⟨a, len, cap, i, hh, hblk, h1, h2, h3⟩ := h
  refine ⟨a, len, cap, i, hh, by rw [hb.block c hB]; exact hblk, h1, h2, fun j hj => ?_⟩
  obtain ⟨b, off, z, e, hbc, z0, z1, hc⟩ := h3 j hj
  exact ⟨b, off, z, e, hbc, z0, z1, by rw [hb.cell (p := ⟨b, off + j, none⟩) (show b < B by omega)]; exact hc⟩

/-- A block written over. -/
theorem block_set {w : World} {c : Nat} {cs : Array Value} {t : TypeId} (h : w.heap[c]? = some (.cells cs t (0, 0))) (i : Nat) (v : Value) : (w.setCell ⟨c, i, none⟩ v).heap[c]? = some (.cells (cs.setIfInBounds i v) t (0, 0)) := by
  unfold World.setCell
  simp only [Array.getElem?_modify]
  rw [if_pos trivial, h]
  rfl

/-- The cursor behind a draw. -/
theorem cur_after {w : World} {a : Option Addr} {c len cap i i' : Nat} {h h' : Int} (hblk : w.heap[c]? = some (.cells #[.slice a len cap, .int .i64 i, .int .i64 h] 73 (0, 0))) (hi : i' ≤ len) (hlen : len ≤ 1048576)
    (hcode : ∀ j < len, ∃ (b off : Nat) (z : Int), a = some ⟨b, off, none⟩ ∧ b < c ∧ 0 ≤ z ∧ z ≤ 255 ∧ w.cell? ⟨b, off + j, none⟩ = some (.int .u8 z)) :
    Cur ((w.setCell ⟨c, 2, none⟩ (.int .i64 h')).setCell ⟨c, 1, none⟩ (.int .i64 (i' : Int))) c := by
  have h1 := block_set (block_set hblk 2 (.int .i64 h')) 1 (.int .i64 (i' : Int))
  refine ⟨a, len, cap, i', h', by simpa using h1, hi, hlen, fun j hj => ?_⟩
  obtain ⟨b, off, z, e, hbc, z0, z1, hc⟩ := hcode j hj
  refine ⟨b, off, z, e, hbc, z0, z1, ?_⟩
  rw [World.cell?_setCell_other _ _ _ _ (by intro e; have := congrArg Addr.block e; simp at this; omega), World.cell?_setCell_other _ _ _ _ (by intro e; have := congrArg Addr.block e; simp at this; omega)]
  exact hc
theorem cur_after1 {w : World} {a : Option Addr} {c len cap i : Nat} {h h' : Int} (hblk : w.heap[c]? = some (.cells #[.slice a len cap, .int .i64 i, .int .i64 h] 73 (0, 0))) (hi : i ≤ len) (hlen : len ≤ 1048576)
    (hcode : ∀ j < len, ∃ (b off : Nat) (z : Int), a = some ⟨b, off, none⟩ ∧ b < c ∧ 0 ≤ z ∧ z ≤ 255 ∧ w.cell? ⟨b, off + j, none⟩ = some (.int .u8 z)) :
    Cur (w.setCell ⟨c, 2, none⟩ (.int .i64 h')) c := by
  have h1 := block_set hblk 2 (.int .i64 h')
  refine ⟨a, len, cap, i, h', by simpa using h1, hi, hlen, fun j hj => ?_⟩
  obtain ⟨b, off, z, e, hbc, z0, z1, hc⟩ := hcode j hj
  refine ⟨b, off, z, e, hbc, z0, z1, ?_⟩
  rw [World.cell?_setCell_other _ _ _ _ (by intro e; have := congrArg Addr.block e; simp at this; omega)]
  exact hc
theorem Keeps.drewN {c q : Nat} {w w' : World} (h : Keeps c w w') : Keeps c w (w'.drewN q) := ⟨h.os, h.tape, h.output, h.size, h.block⟩
theorem Cur.drewN {c q : Nat} {w : World} (h : Cur w c) : Cur (w.drewN q) c := h

set_option maxRecDepth 100000 in
set_option maxHeartbeats 2000000 in
theorem l01Byte (c : Nat) (w : World) (hc : Cur w c) :
    Calls Tryz.prog 44 #[.pointer (some ⟨c, 0, none⟩)] w fun e w' => ∃ x : Int, e = .returned (.int .i64 x) ∧ 0 ≤ x ∧ x ≤ 255 ∧ Cur w' c ∧ Keeps c w w' := by
  obtain ⟨a, len, cap, i, h, hblk, hil, hlen, hcode⟩ := hc
  have c0 : w.cell? ⟨c, 0, none⟩ = some (.slice a len cap) := by rw [cell_of_row w c 0 _ _ (0, 0) hblk]; rfl
  have c1 : w.cell? ⟨c, 1, none⟩ = some (.int .i64 i) := by rw [cell_of_row w c 1 _ _ (0, 0) hblk]; rfl
  have c2 : w.cell? ⟨c, 2, none⟩ = some (.int .i64 h) := by rw [cell_of_row w c 2 _ _ (0, 0) hblk]; rfl
  have f1 : w.frozen? ⟨c, 1, none⟩ = false := by unfold World.frozen?; rw [hblk]; rfl
  have f2 : w.frozen? ⟨c, 2, none⟩ = false := by unfold World.frozen?; rw [hblk]; rfl
  have HB := hide hblk
  have HCODE := hide hcode
  clear hblk hcode
  by_cases hlt : i < len
  · obtain ⟨b, off, z, rfl, hbc, z0, z1, hz⟩ := unhide HCODE i hlt
    have hne : b ≠ c := by omega
    go_enter Tryz.func44, Tryz.ntmps44
    go_wp2_with fail
    generalize wrap64 (wrap64 (h * 6364136223846793005) + 1442695040888963407) = h'
    go_quiet (fail)
    go_wp2_with fail
    have hx := and255 (bits BinOp.xor IntKind.i64 (h' / 8589934592) (h' / 35184372088832))
    generalize bits BinOp.and IntKind.i64 (bits BinOp.xor IntKind.i64 (h' / 8589934592) (h' / 35184372088832)) 255 = x at *
    obtain ⟨hx0, hx1⟩ := hx
    go_quiet (fail)
    go_wp2_with fail
    go_quiet (fail)
    have hy := and255 (x + z)
    generalize bits BinOp.and IntKind.i64 (x + z) 255 = y at *
    obtain ⟨hy0, hy1⟩ := hy
    go_wp2
    go_ret
    refine ⟨y, rfl, hy0, hy1, ?_, ?_⟩
    · have := cur_after (i' := i + 1) (h' := h') (unhide HB) (by omega) hlen (unhide HCODE)
      simp only [Int.natCast_add, Int.natCast_one] at this
      first | exact this | exact this.drewN
    · first | exact ((Keeps.set _).trans (Keeps.set _)) | exact ((Keeps.set _).trans (Keeps.set _)).drewN
  · have hnlt : decide ((i : Int) < (len : Int)) = false := by simp; omega
    go_enter Tryz.func44, Tryz.ntmps44
    go_wp2_with fail
    generalize wrap64 (wrap64 (h * 6364136223846793005) + 1442695040888963407) = h'
    go_quiet (fail)
    go_wp2_with fail
    have hx := and255 (bits BinOp.xor IntKind.i64 (h' / 8589934592) (h' / 35184372088832))
    generalize bits BinOp.and IntKind.i64 (bits BinOp.xor IntKind.i64 (h' / 8589934592) (h' / 35184372088832)) 255 = x at *
    obtain ⟨hx0, hx1⟩ := hx
    go_quiet (fail)
    go_wp2
    go_ret
    refine ⟨x, rfl, hx0, hx1, ?_, ?_⟩
    · have := cur_after1 (h' := h') (unhide HB) hil hlen (unhide HCODE)
      first | exact this | exact this.drewN
    · first | exact Keeps.set _ | exact (Keeps.set _).drewN | exact (Keeps.set _).drewN.drewN

/-- A cursor drawn on: it stays one, and all else stays. -/
theorem Cur.keep_below {w w' : World} {c : Nat} (h : Cur w c) (hb : Below w.heap.size w w') : Cur w' c := h.below hb h.lt

set_option maxRecDepth 100000 in
set_option maxHeartbeats 1000000 in
theorem l01Below (c : Nat) (n : Int) (w : World) (hc : Cur w c) (hn : 0 < n) (hm : n ≤ 4000000000) :
    Calls Tryz.prog 28 #[.pointer (some ⟨c, 0, none⟩), .int .i64 n] w fun e w' => ∃ x : Int, e = .returned (.int .i64 x) ∧ 0 ≤ x ∧ x < n ∧ Cur w' c ∧ Keeps c w w' := by
  have HC := hide hc
  clear hc
  have hm1 : ∀ x : Int, 0 ≤ x → x % n < n := fun x _ => Int.emod_lt_of_pos x hn
  have hm2 : ∀ x : Int, 0 ≤ x % n := fun x => Int.emod_nonneg x (by omega)
  by_cases hs : n ≤ 256
  · have H1 := hide hm1
    have H2 := hide hm2
    clear hm1 hm2
    go_enter Tryz.func28, Tryz.ntmps28
    go_wp2_with (go_at_call 44; refine (l01Byte c _ (unhide HC)).mono ?_; rintro e w1 ⟨x, rfl, hx0, hx1, hc1, hk1⟩; have HC1 := hide hc1; clear hc1)
    go_ret
    exact ⟨_, rfl, unhide H2 _, unhide H1 _ hx0, unhide HC1, hk1⟩
  · have H1 := hide hm1
    have H2 := hide hm2
    clear hm1 hm2
    go_enter Tryz.func28, Tryz.ntmps28
    go_wp2_with fail
    refine (l01Byte c _ (unhide HC)).mono ?_
    rintro e w1 ⟨x, rfl, hx0, hx1, hc1, hk1⟩
    have HC1 := hide hc1
    clear hc1
    go_wp2_with fail
    refine (l01Byte c _ (unhide HC1)).mono ?_
    rintro e w2 ⟨y, rfl, hy0, hy1, hc2, hk2⟩
    have HC2 := hide hc2
    clear hc2
    go_wp2_with fail
    refine (l01Byte c _ (unhide HC2)).mono ?_
    rintro e w3 ⟨z, rfl, hz0, hz1, hc3, hk3⟩
    have HC3 := hide hc3
    clear hc3
    go_wp2_with fail
    refine (l01Byte c _ (unhide HC3)).mono ?_
    rintro e w4 ⟨t, rfl, ht0, ht1, hc4, hk4⟩
    have HC4 := hide hc4
    clear hc4
    go_wp2
    go_ret
    exact ⟨_, rfl, unhide H2 _, unhide H1 _ (by omega), unhide HC4, ((hk1.trans hk2).trans hk3).trans hk4⟩

set_option maxRecDepth 100000 in
set_option maxHeartbeats 1000000 in
theorem l01PickInt (c g cap : Nat) (zs : List Int) (w : World) (hc : Cur w c) (hne : g ≠ c) (hp : 0 < zs.length) (hm : zs.length ≤ 1000) (hcell : ∀ i (hi : i < zs.length), w.cell? ⟨g, i, none⟩ = some (.int .i64 zs[i])) (hgl : g < w.heap.size) :
    Calls Tryz.prog 26 #[.pointer (some ⟨c, 0, none⟩), .slice (some ⟨g, 0, none⟩) zs.length cap] w fun e w' => ∃ z : Int, e = .returned (.int .i64 z) ∧ z ∈ zs ∧ Cur w' c ∧ Keeps c w w' := by
  have HC := hide hc
  have HL := hide hcell
  clear hc hcell
  go_enter Tryz.func26, Tryz.ntmps26
  go_wp2_with fail
  refine (l01Below c _ _ (unhide HC) (by omega) (by omega)).mono ?_
  rintro e w1 ⟨x, rfl, hx0, hx1, hc1, hk1⟩
  obtain ⟨k, rfl⟩ := Int.eq_ofNat_of_zero_le hx0
  have hk : k < zs.length := by omega
  have hcell1 : w1.cell? ⟨g, k, none⟩ = some (.int .i64 zs[k]) := (World.cell?_of_block (w := w) (hk1.block g hgl hne)).trans (unhide HL k hk)
  have HC1 := hide hc1
  clear hc1
  go_wp2
  go_ret
  exact ⟨_, rfl, List.getElem_mem hk, unhide HC1, hk1⟩

set_option maxRecDepth 100000 in
set_option maxHeartbeats 1000000 in
theorem l01New (a : Option Addr) (len cap : Nat) (w : World) (hlen : len ≤ 1048576) (hcode : ∀ j < len, ∃ (b off : Nat) (z : Int), a = some ⟨b, off, none⟩ ∧ b < w.heap.size ∧ 0 ≤ z ∧ z ≤ 255 ∧ w.cell? ⟨b, off + j, none⟩ = some (.int .u8 z)) :
    Calls Tryz.prog 12 #[.slice a len cap] w fun e w' => e = .returned (.pointer (some ⟨w.heap.size, 0, none⟩)) ∧ Cur w' w.heap.size ∧ Below w.heap.size w w' := by
  have HCODE := hide hcode
  clear hcode
  go_enter Tryz.func12, Tryz.ntmps12
  go_wp2
  go_loop [3, 4] (fun h i => ∃ (k : Nat) (x : Int), k ≤ len ∧ i = .int .i64 k ∧ h = .int .i64 x) (fun _ i => len - (intOf i).toNat)
  case atStart => exact ⟨0, _, Nat.zero_le _, rfl, rfl⟩
  case round =>
    obtain ⟨k, x, hk, rfl, rfl⟩ := hrel
    by_cases hlt : k < len
    · obtain ⟨b, off, z, rfl, hb, z0, z1, hz⟩ := unhide HCODE k hlt
      by_cases h4 : k < 4000
      · go_wp2
        go_round
        case rel => exact ⟨k + 1, _, by omega, by go_num, rfl⟩
        case measure => simp [intOf]; omega
      · go_wp2
        go_ret
        refine ⟨rfl, ?_, (Below.refl _ _).alloc (Nat.le_refl _) _⟩
        exact ⟨_, len, cap, 0, x, heap_alloc_new w _, Nat.zero_le _, hlen, fun j hj => by
          obtain ⟨b', off', z', e, hb', z0', z1', hz'⟩ := unhide HCODE j hj
          exact ⟨b', off', z', e, hb', z0', z1', by rw [World.cell?_alloc_lt _ _ ⟨b', off' + j, none⟩ hb']; exact hz'⟩⟩
    · have hd : decide ((k : Int) < (len : Int)) = false := by simp; omega
      go_wp2
      go_ret
      refine ⟨rfl, ?_, (Below.refl _ _).alloc (Nat.le_refl _) _⟩
      exact ⟨_, len, cap, 0, x, heap_alloc_new w _, Nat.zero_le _, hlen, fun j hj => by
        obtain ⟨b', off', z', e, hb', z0', z1', hz'⟩ := unhide HCODE j hj
        exact ⟨b', off', z', e, hb', z0', z1', by rw [World.cell?_alloc_lt _ _ ⟨b', off' + j, none⟩ hb']; exact hz'⟩⟩

theorem lit_ints (w : World) (zs : List Int) (t : TypeId) (i : Nat) (hi : i < zs.length) : (w.alloc (.cells (zs.map (Value.int .i64)).toArray t)).cell? ⟨w.heap.size, i, none⟩ = some (.int .i64 zs[i]) := by
  rw [World.cell?_alloc_mark]; simp [hi]

theorem lit_strs (w : World) (xs : List ByteArray) (t : TypeId) (i : Nat) (hi : i < xs.length) : (w.alloc (.cells (xs.map Value.string).toArray t)).cell? ⟨w.heap.size, i, none⟩ = some (.string xs[i]) := by
  rw [World.cell?_alloc_mark]; simp [hi]

theorem keeps_new {c : Nat} {w : World} (o : Obj) : Keeps c w (w.alloc o) := Keeps.of_below ((Below.refl _ _).alloc (Nat.le_refl _) _)

theorem cur_new {c : Nat} {w : World} (h : Cur w c) (o : Obj) : Cur (w.alloc o) c := h.keep_below ((Below.refl _ _).alloc (Nat.le_refl _) _)

/-- What every draw is told of the code: its length, and that its bytes can be read. -/
def CodeOk (w : World) (a : Option Addr) (len : Nat) : Prop := len ≤ 1048576 ∧ ∀ j < len, ∃ (b off : Nat) (z : Int), a = some ⟨b, off, none⟩ ∧ b < w.heap.size ∧ 0 ≤ z ∧ z ≤ 255 ∧ w.cell? ⟨b, off + j, none⟩ = some (.int .u8 z)

theorem CodeOk.below {w w' : World} {a : Option Addr} {len : Nat} (h : CodeOk w a len) (hb : Below w.heap.size w w') : CodeOk w' a len := by
  refine ⟨h.1, fun j hj => ?_⟩
  obtain ⟨b, off, z, e, hbl, z0, z1, hc⟩ := h.2 j hj
  exact ⟨b, off, z, e, Nat.lt_of_lt_of_le hbl hb.size, z0, z1, by rw [hb.cell (p := ⟨b, off + j, none⟩) hbl]; exact hc⟩

end Go.Proofs.YtdlokncalhopoaaGreat
