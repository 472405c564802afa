/-
  Texts of ours in one, so that the claim keeps to its count: Cur, Draw, DrawP, DrawPick, DrawBase, DrawPu, DrawPurses, DrawAsk.
-/
import Derived.Test.YtdlhlfndobbocaaDoorKeeps
import Derived.Deep.QuietTactic
import Derived.BigQuiet
import Derived.Laws.Bits64b
import Derived.Test.YtdlhlfndobbocaaDoorBytes
import Derived.Test.YtdlhlfndobbocaaDoorPuAdd
import Derived.Test.YtdlhlfndobbocaaDoorDecS
import Derived.Deep.DeepCutAuto
import Derived.Deep.CutBlock
namespace Go.Proofs.YtdlhlfndobbocaaDoor
open Go.RowKit

theorem and255 (y : Int) : 0 ≤ bits .and .i64 y 255 ∧ bits .and .i64 y 255 ≤ 255 := by
  have h : bits .and .i64 y 255 = IntKind.i64.wrap ((BitVec.ofInt 64 y &&& BitVec.ofInt 64 255).toNat : Int) := rfl
  have h2 : (BitVec.ofInt 64 y &&& BitVec.ofInt 64 255).toNat ≤ 255 := by
    rw [BitVec.toNat_and]
    exact Nat.le_trans Nat.and_le_right (by decide)
  rw [h, IntWalk.i64_in _ ⟨by omega, by omega⟩]
  omega

/-- A cursor in block c: over a code that lies ahead of it. -/
def Cur (w : World) (c : Nat) : Prop :=
  ∃ (a : Option Addr) (len cap i : Nat) (h : Int), w.heap[c]? = some (.cells #[.slice a len cap, .int .i64 i, .int .i64 h] 69 (0, 0)) ∧ i ≤ len ∧ len ≤ 1048576 ∧
    (∀ j < len, ∃ (b off : Nat) (z : Int), a = some ⟨b, off, none⟩ ∧ b < c ∧ 0 ≤ z ∧ z ≤ 255 ∧ w.cell? ⟨b, off + j, none⟩ = some (.int .u8 z))
theorem Cur.lt {w : World} {c : Nat} (h : Cur w c) : c < w.heap.size := by
  obtain ⟨a, len, cap, i, hh, hb, _⟩ := h
  rcases Nat.lt_or_ge c w.heap.size with h' | h'
  · exact h'
  · rw [Array.getElem?_eq_none h'] at hb; cases hb
/-- It stays while nothing up to its block turns. -/
theorem Cur.below {w w' : World} {c B : Nat} (h : Cur w c) (hb : Below B w w') (hB : c < B) : Cur w' c := by
  obtain ⟨a, len, cap, i, hh, hblk, h1, h2, h3⟩ := h
  refine ⟨a, len, cap, i, hh, by rw [hb.block c hB]; exact hblk, h1, h2, fun j hj => ?_⟩
  obtain ⟨b, off, z, e, hbc, z0, z1, hc⟩ := h3 j hj
  exact ⟨b, off, z, e, hbc, z0, z1, by rw [hb.cell (p := ⟨b, off + j, none⟩) (show b < B by omega)]; exact hc⟩

/-- A block written over. -/
theorem block_set {w : World} {c : Nat} {cs : Array Value} {t : TypeId} (h : w.heap[c]? = some (.cells cs t (0, 0))) (i : Nat) (v : Value) : (w.setCell ⟨c, i, none⟩ v).heap[c]? = some (.cells (cs.setIfInBounds i v) t (0, 0)) := by
  unfold World.setCell
  simp only [Array.getElem?_modify]
  rw [if_pos trivial, h]
  rfl

/-- The cursor behind a draw. -/
theorem cur_after {w : World} {a : Option Addr} {c len cap i i' : Nat} {h h' : Int} (hblk : w.heap[c]? = some (.cells #[.slice a len cap, .int .i64 i, .int .i64 h] 69 (0, 0))) (hi : i' ≤ len) (hlen : len ≤ 1048576)
    (hcode : ∀ j < len, ∃ (b off : Nat) (z : Int), a = some ⟨b, off, none⟩ ∧ b < c ∧ 0 ≤ z ∧ z ≤ 255 ∧ w.cell? ⟨b, off + j, none⟩ = some (.int .u8 z)) :
    Cur ((w.setCell ⟨c, 2, none⟩ (.int .i64 h')).setCell ⟨c, 1, none⟩ (.int .i64 (i' : Int))) c := by
  have h1 := block_set (block_set hblk 2 (.int .i64 h')) 1 (.int .i64 (i' : Int))
  refine ⟨a, len, cap, i', h', by simpa using h1, hi, hlen, fun j hj => ?_⟩
  obtain ⟨b, off, z, e, hbc, z0, z1, hc⟩ := hcode j hj
  refine ⟨b, off, z, e, hbc, z0, z1, ?_⟩
  rw [World.cell?_setCell_other _ _ _ _ (by intro e; have := congrArg Addr.block e; simp at this; omega), World.cell?_setCell_other _ _ _ _ (by intro e; have := congrArg Addr.block e; simp at this; omega)]
  exact hc
theorem cur_after1 {w : World} {a : Option Addr} {c len cap i : Nat} {h h' : Int} (hblk : w.heap[c]? = some (.cells #[.slice a len cap, .int .i64 i, .int .i64 h] 69 (0, 0))) (hi : i ≤ len) (hlen : len ≤ 1048576)
    (hcode : ∀ j < len, ∃ (b off : Nat) (z : Int), a = some ⟨b, off, none⟩ ∧ b < c ∧ 0 ≤ z ∧ z ≤ 255 ∧ w.cell? ⟨b, off + j, none⟩ = some (.int .u8 z)) :
    Cur (w.setCell ⟨c, 2, none⟩ (.int .i64 h')) c := by
  have h1 := block_set hblk 2 (.int .i64 h')
  refine ⟨a, len, cap, i, h', by simpa using h1, hi, hlen, fun j hj => ?_⟩
  obtain ⟨b, off, z, e, hbc, z0, z1, hc⟩ := hcode j hj
  refine ⟨b, off, z, e, hbc, z0, z1, ?_⟩
  rw [World.cell?_setCell_other _ _ _ _ (by intro e; have := congrArg Addr.block e; simp at this; omega)]
  exact hc
theorem Keeps.drewN {c q : Nat} {w w' : World} (h : Keeps c w w') : Keeps c w (w'.drewN q) := ⟨h.os, h.tape, h.output, h.size, h.block⟩
theorem Cur.drewN {c q : Nat} {w : World} (h : Cur w c) : Cur (w.drewN q) c := h

set_option maxRecDepth 100000 in
set_option maxHeartbeats 2000000 in
theorem l01Byte (c : Nat) (w : World) (hc : Cur w c) :
    Calls Tryd.prog 70 #[.pointer (some ⟨c, 0, none⟩)] w fun e w' => ∃ x : Int, e = .returned (.int .i64 x) ∧ 0 ≤ x ∧ x ≤ 255 ∧ Cur w' c ∧ Keeps c w w' := by
  obtain ⟨a, len, cap, i, h, hblk, hil, hlen, hcode⟩ := hc
  have c0 : w.cell? ⟨c, 0, none⟩ = some (.slice a len cap) := by rw [cell_of_row w c 0 _ _ (0, 0) hblk]; rfl
  have c1 : w.cell? ⟨c, 1, none⟩ = some (.int .i64 i) := by rw [cell_of_row w c 1 _ _ (0, 0) hblk]; rfl
  have c2 : w.cell? ⟨c, 2, none⟩ = some (.int .i64 h) := by rw [cell_of_row w c 2 _ _ (0, 0) hblk]; rfl
  have f1 : w.frozen? ⟨c, 1, none⟩ = false := by unfold World.frozen?; rw [hblk]; rfl
  have f2 : w.frozen? ⟨c, 2, none⟩ = false := by unfold World.frozen?; rw [hblk]; rfl
  have HB := hide hblk
  have HCODE := hide hcode
  clear hblk hcode
  by_cases hlt : i < len
  · obtain ⟨b, off, z, rfl, hbc, z0, z1, hz⟩ := unhide HCODE i hlt
    have hne : b ≠ c := by omega
    go_enter Tryd.func70, Tryd.ntmps70
    go_wp2_with fail
    generalize wrap64 (wrap64 (h * 6364136223846793005) + 1442695040888963407) = h'
    go_quiet (fail)
    go_wp2_with fail
    have hx := and255 (bits BinOp.xor IntKind.i64 (h' / 8589934592) (h' / 35184372088832))
    generalize bits BinOp.and IntKind.i64 (bits BinOp.xor IntKind.i64 (h' / 8589934592) (h' / 35184372088832)) 255 = x at *
    obtain ⟨hx0, hx1⟩ := hx
    go_quiet (fail)
    go_wp2_with fail
    go_quiet (fail)
    have hy := and255 (x + z)
    generalize bits BinOp.and IntKind.i64 (x + z) 255 = y at *
    obtain ⟨hy0, hy1⟩ := hy
    go_wp2
    go_ret
    refine ⟨y, rfl, hy0, hy1, ?_, ?_⟩
    · have := cur_after (i' := i + 1) (h' := h') (unhide HB) (by omega) hlen (unhide HCODE)
      simp only [Int.natCast_add, Int.natCast_one] at this
      first | exact this | exact this.drewN
    · first | exact ((Keeps.set _).trans (Keeps.set _)) | exact ((Keeps.set _).trans (Keeps.set _)).drewN
  · have hnlt : decide ((i : Int) < (len : Int)) = false := by simp; omega
    go_enter Tryd.func70, Tryd.ntmps70
    go_wp2_with fail
    generalize wrap64 (wrap64 (h * 6364136223846793005) + 1442695040888963407) = h'
    go_quiet (fail)
    go_wp2_with fail
    have hx := and255 (bits BinOp.xor IntKind.i64 (h' / 8589934592) (h' / 35184372088832))
    generalize bits BinOp.and IntKind.i64 (bits BinOp.xor IntKind.i64 (h' / 8589934592) (h' / 35184372088832)) 255 = x at *
    obtain ⟨hx0, hx1⟩ := hx
    go_quiet (fail)
    go_wp2
    go_ret
    refine ⟨x, rfl, hx0, hx1, ?_, ?_⟩
    · have := cur_after1 (h' := h') (unhide HB) hil hlen (unhide HCODE)
      first | exact this | exact this.drewN
    · first | exact Keeps.set _ | exact (Keeps.set _).drewN | exact (Keeps.set _).drewN.drewN
end Go.Proofs.YtdlhlfndobbocaaDoor
namespace Go.Proofs.YtdlhlfndobbocaaDoor
open Go.RowKit

/-- A cursor drawn on: it stays one, and all else stays. -/
theorem Cur.keep_below {w w' : World} {c : Nat} (h : Cur w c) (hb : Below w.heap.size w w') : Cur w' c := h.below hb h.lt

theorem l01Below_none (c : Nat) (n : Int) (w : World) (hn : n ≤ 0) : Calls Tryd.prog 57 #[.pointer (some ⟨c, 0, none⟩), .int .i64 n] w fun e w' => e = .returned (.int .i64 0) ∧ w = w' := by
  go_enter Tryd.func57, Tryd.ntmps57
  go_wp2
  go_ret
  exact ⟨rfl, rfl⟩

set_option maxRecDepth 100000 in
set_option maxHeartbeats 1000000 in
theorem l01Below (c : Nat) (n : Int) (w : World) (hc : Cur w c) (hn : 0 < n) (hm : n ≤ 4000000000) :
    Calls Tryd.prog 57 #[.pointer (some ⟨c, 0, none⟩), .int .i64 n] w fun e w' => ∃ x : Int, e = .returned (.int .i64 x) ∧ 0 ≤ x ∧ x < n ∧ Cur w' c ∧ Keeps c w w' := by
  have HC := hide hc
  clear hc
  have hm1 : ∀ x : Int, 0 ≤ x → x % n < n := fun x _ => Int.emod_lt_of_pos x hn
  have hm2 : ∀ x : Int, 0 ≤ x % n := fun x => Int.emod_nonneg x (by omega)
  by_cases hs : n ≤ 256
  · have H1 := hide hm1
    have H2 := hide hm2
    clear hm1 hm2
    go_enter Tryd.func57, Tryd.ntmps57
    go_wp2_with (go_at_call 70; refine (l01Byte c _ (unhide HC)).mono ?_; rintro e w1 ⟨x, rfl, hx0, hx1, hc1, hk1⟩; have HC1 := hide hc1; clear hc1)
    go_ret
    exact ⟨_, rfl, unhide H2 _, unhide H1 _ hx0, unhide HC1, hk1⟩
  · have H1 := hide hm1
    have H2 := hide hm2
    clear hm1 hm2
    go_enter Tryd.func57, Tryd.ntmps57
    go_wp2_with fail
    refine (l01Byte c _ (unhide HC)).mono ?_
    rintro e w1 ⟨x, rfl, hx0, hx1, hc1, hk1⟩
    have HC1 := hide hc1
    clear hc1
    go_wp2_with fail
    refine (l01Byte c _ (unhide HC1)).mono ?_
    rintro e w2 ⟨y, rfl, hy0, hy1, hc2, hk2⟩
    have HC2 := hide hc2
    clear hc2
    go_wp2_with fail
    refine (l01Byte c _ (unhide HC2)).mono ?_
    rintro e w3 ⟨z, rfl, hz0, hz1, hc3, hk3⟩
    have HC3 := hide hc3
    clear hc3
    go_wp2_with fail
    refine (l01Byte c _ (unhide HC3)).mono ?_
    rintro e w4 ⟨t, rfl, ht0, ht1, hc4, hk4⟩
    have HC4 := hide hc4
    clear hc4
    go_wp2
    go_ret
    exact ⟨_, rfl, unhide H2 _, unhide H1 _ (by omega), unhide HC4, ((hk1.trans hk2).trans hk3).trans hk4⟩
end Go.Proofs.YtdlhlfndobbocaaDoor
namespace Go.Proofs.YtdlhlfndobbocaaDoor
open Go.RowKit

set_option maxRecDepth 100000 in
set_option maxHeartbeats 1000000 in
theorem l01Once (c : Nat) (n : Int) (w : World) (hc : Cur w c) (hn : 0 < n) (hm : n ≤ 4000000000) :
    Calls Tryd.prog 60 #[.pointer (some ⟨c, 0, none⟩), .int .i64 n] w fun e w' => ∃ b : Bool, e = .returned (.bool b) ∧ Cur w' c ∧ Keeps c w w' := by
  have HC := hide hc
  clear hc
  go_enter Tryd.func60, Tryd.ntmps60
  go_wp2_with (go_at_call 57; refine (l01Below c n _ (unhide HC) hn hm).mono ?_; rintro e w1 ⟨x, rfl, hx0, hx1, hc1, hk1⟩; have HC1 := hide hc1; clear hc1)
  all_goals
    go_ret
    exact ⟨_, rfl, unhide HC1, hk1⟩

set_option maxRecDepth 100000 in
set_option maxHeartbeats 1000000 in
theorem l01PickInt (c g cap : Nat) (zs : List Int) (w : World) (hc : Cur w c) (hne : g ≠ c) (hp : 0 < zs.length) (hm : zs.length ≤ 1000) (hcell : ∀ i (hi : i < zs.length), w.cell? ⟨g, i, none⟩ = some (.int .i64 zs[i])) (hgl : g < w.heap.size) :
    Calls Tryd.prog 48 #[.pointer (some ⟨c, 0, none⟩), .slice (some ⟨g, 0, none⟩) zs.length cap] w fun e w' => ∃ z : Int, e = .returned (.int .i64 z) ∧ z ∈ zs ∧ Cur w' c ∧ Keeps c w w' := by
  have HC := hide hc
  have HL := hide hcell
  clear hc hcell
  go_enter Tryd.func48, Tryd.ntmps48
  go_wp2_with fail
  refine (l01Below c _ _ (unhide HC) (by omega) (by omega)).mono ?_
  rintro e w1 ⟨x, rfl, hx0, hx1, hc1, hk1⟩
  obtain ⟨k, rfl⟩ := Int.eq_ofNat_of_zero_le hx0
  have hk : k < zs.length := by omega
  have hcell1 : w1.cell? ⟨g, k, none⟩ = some (.int .i64 zs[k]) := (World.cell?_of_block (w := w) (hk1.block g hgl hne)).trans (unhide HL k hk)
  have HC1 := hide hc1
  clear hc1
  go_wp2
  go_ret
  exact ⟨_, rfl, List.getElem_mem hk, unhide HC1, hk1⟩

set_option maxRecDepth 100000 in
set_option maxHeartbeats 1000000 in
theorem l01New (a : Option Addr) (len cap : Nat) (w : World) (hlen : len ≤ 1048576) (hcode : ∀ j < len, ∃ (b off : Nat) (z : Int), a = some ⟨b, off, none⟩ ∧ b < w.heap.size ∧ 0 ≤ z ∧ z ≤ 255 ∧ w.cell? ⟨b, off + j, none⟩ = some (.int .u8 z)) :
    Calls Tryd.prog 45 #[.slice a len cap] w fun e w' => e = .returned (.pointer (some ⟨w.heap.size, 0, none⟩)) ∧ Cur w' w.heap.size ∧ Below w.heap.size w w' := by
  have HCODE := hide hcode
  clear hcode
  go_enter Tryd.func45, Tryd.ntmps45
  go_wp2
  go_loop [3, 4] (fun h i => ∃ (k : Nat) (x : Int), k ≤ len ∧ i = .int .i64 k ∧ h = .int .i64 x) (fun _ i => len - (intOf i).toNat)
  case atStart => exact ⟨0, _, Nat.zero_le _, rfl, rfl⟩
  case round =>
    obtain ⟨k, x, hk, rfl, rfl⟩ := hrel
    by_cases hlt : k < len
    · obtain ⟨b, off, z, rfl, hb, z0, z1, hz⟩ := unhide HCODE k hlt
      by_cases h4 : k < 4000
      · go_wp2
        go_round
        case rel => exact ⟨k + 1, _, by omega, by go_num, rfl⟩
        case measure => simp [intOf]; omega
      · go_wp2
        go_ret
        refine ⟨rfl, ?_, (Below.refl _ _).alloc (Nat.le_refl _) _⟩
        exact ⟨_, len, cap, 0, x, heap_alloc_new w _, Nat.zero_le _, hlen, fun j hj => by
          obtain ⟨b', off', z', e, hb', z0', z1', hz'⟩ := unhide HCODE j hj
          exact ⟨b', off', z', e, hb', z0', z1', by rw [World.cell?_alloc_lt _ _ ⟨b', off' + j, none⟩ hb']; exact hz'⟩⟩
    · have hd : decide ((k : Int) < (len : Int)) = false := by simp; omega
      go_wp2
      go_ret
      refine ⟨rfl, ?_, (Below.refl _ _).alloc (Nat.le_refl _) _⟩
      exact ⟨_, len, cap, 0, x, heap_alloc_new w _, Nat.zero_le _, hlen, fun j hj => by
        obtain ⟨b', off', z', e, hb', z0', z1', hz'⟩ := unhide HCODE j hj
        exact ⟨b', off', z', e, hb', z0', z1', by rw [World.cell?_alloc_lt _ _ ⟨b', off' + j, none⟩ hb']; exact hz'⟩⟩
end Go.Proofs.YtdlhlfndobbocaaDoor
namespace Go.Proofs.YtdlhlfndobbocaaDoor
open Go.RowKit

set_option maxRecDepth 100000 in
set_option maxHeartbeats 1000000 in
theorem l01Pick (c g cap : Nat) (xs : List ByteArray) (w : World) (hc : Cur w c) (hne : g ≠ c) (hp : 0 < xs.length) (hm : xs.length ≤ 1000) (hcell : ∀ i (hi : i < xs.length), w.cell? ⟨g, i, none⟩ = some (.string xs[i])) (hgl : g < w.heap.size) :
    Calls Tryd.prog 58 #[.pointer (some ⟨c, 0, none⟩), .slice (some ⟨g, 0, none⟩) xs.length cap] w fun e w' => ∃ x : ByteArray, e = .returned (.string x) ∧ x ∈ xs ∧ Cur w' c ∧ Keeps c w w' := by
  have HC := hide hc
  have HL := hide hcell
  clear hc hcell
  go_enter Tryd.func58, Tryd.ntmps58
  go_wp2_with fail
  refine (l01Below c _ _ (unhide HC) (by omega) (by omega)).mono ?_
  rintro e w1 ⟨x, rfl, hx0, hx1, hc1, hk1⟩
  obtain ⟨k, rfl⟩ := Int.eq_ofNat_of_zero_le hx0
  have hk : k < xs.length := by omega
  have hcell1 : w1.cell? ⟨g, k, none⟩ = some (.string xs[k]) := (World.cell?_of_block (w := w) (hk1.block g hgl hne)).trans (unhide HL k hk)
  have HC1 := hide hc1
  clear hc1
  go_wp2
  go_ret
  exact ⟨_, rfl, List.getElem_mem hk, unhide HC1, hk1⟩
end Go.Proofs.YtdlhlfndobbocaaDoor
namespace Go.Proofs.YtdlhlfndobbocaaDoor
open Go.RowKit

theorem lit_ints (w : World) (zs : List Int) (t : TypeId) (i : Nat) (hi : i < zs.length) : (w.alloc (.cells (zs.map (Value.int .i64)).toArray t)).cell? ⟨w.heap.size, i, none⟩ = some (.int .i64 zs[i]) := by
  rw [World.cell?_alloc_mark]; simp [hi]

theorem lit_strs (w : World) (xs : List ByteArray) (t : TypeId) (i : Nat) (hi : i < xs.length) : (w.alloc (.cells (xs.map Value.string).toArray t)).cell? ⟨w.heap.size, i, none⟩ = some (.string xs[i]) := by
  rw [World.cell?_alloc_mark]; simp [hi]

theorem keeps_new {c : Nat} {w : World} (o : Obj) : Keeps c w (w.alloc o) := Keeps.of_below ((Below.refl _ _).alloc (Nat.le_refl _) _)

theorem cur_new {c : Nat} {w : World} (h : Cur w c) (o : Obj) : Cur (w.alloc o) c := h.keep_below ((Below.refl _ _).alloc (Nat.le_refl _) _)

/-- What every draw is told of the code: its length, and that its bytes can be read. -/
def CodeOk (w : World) (a : Option Addr) (len : Nat) : Prop := len ≤ 1048576 ∧ ∀ j < len, ∃ (b off : Nat) (z : Int), a = some ⟨b, off, none⟩ ∧ b < w.heap.size ∧ 0 ≤ z ∧ z ≤ 255 ∧ w.cell? ⟨b, off + j, none⟩ = some (.int .u8 z)

theorem CodeOk.below {w w' : World} {a : Option Addr} {len : Nat} (h : CodeOk w a len) (hb : Below w.heap.size w w') : CodeOk w' a len := by
  refine ⟨h.1, fun j hj => ?_⟩
  obtain ⟨b, off, z, e, hbl, z0, z1, hc⟩ := h.2 j hj
  exact ⟨b, off, z, e, Nat.lt_of_lt_of_le hbl hb.size, z0, z1, by rw [hb.cell (p := ⟨b, off + j, none⟩) hbl]; exact hc⟩

theorem Keeps.to_below {w w' : World} (h : Keeps w.heap.size w w') : Below w.heap.size w w' := ⟨h.os, h.tape, h.output, h.size, fun k hk => h.block k hk (by omega)⟩

theorem below_then_keeps {w w1 w2 : World} (h : Below w.heap.size w w1) (k : Keeps w.heap.size w1 w2) : Below w.heap.size w w2 := h.trans (k.below (Nat.le_refl _) h.size)
end Go.Proofs.YtdlhlfndobbocaaDoor
namespace Go.Proofs.YtdlhlfndobbocaaDoor
open Go.RowKit
open Mth

/-- A row of purses of the call's own, and the cursor. -/
structure PR (w wr : World) (c : Nat) (v : Value) (l : List Pu) : Prop where
  nn : v ≠ .slice none 0 0
  own : wr.ownsRow w.heap.size 32 4 v l.length (GR.flat encP l)
  keys : ∀ p ∈ l, p.k.size ≤ 100
  cur : Cur wr c
  keeps : Keeps c w wr
  low : c < w.heap.size
theorem PR.form {w wr : World} {c : Nat} {v : Value} {l : List Pu} (h : PR w wr c v l) : ∃ g cap, v = .slice (some ⟨g, 0, none⟩) l.length cap ∧ l.length ≤ cap ∧ w.heap.size ≤ g ∧ g < wr.heap.size ∧ PursesAt wr (some ⟨g, 0, none⟩) l := by
  obtain ⟨a, cp, e, hat⟩ := GR.own_at encP_length h.own
  rcases h.own.2 with ⟨h1, _⟩ | ⟨g, cap, cur, h1, h2, h3, h4, _⟩
  · exact absurd h1 h.nn
  · rw [h1] at e
    injection e with e1 e2 e3
    subst e1
    exact ⟨g, cap, h1, h4, h2, Fo.lt_of_blk h3, hat⟩
theorem PR.draw {w wr w' : World} {c : Nat} {v : Value} {l : List Pu} (h : PR w wr c v l) (hc : Cur w' c) (hk : Keeps c wr w') : PR w w' c v l := by
  refine ⟨h.nn, h.own.kept (row := some c) ⟨hk.os, hk.tape, hk.output, hk.size, fun k hl hne => hk.block k hl (fun e => hne (by rw [e]))⟩ (.inr fun e => ?_), h.keys, hc, h.keeps.trans hk, h.low⟩
  have := (h.own.lt c e).1
  have := h.low
  omega
theorem PR.grow {w wr w' : World} {c : Nat} {v : Value} {l : List Pu} (h : PR w wr c v l) (hb : Below wr.heap.size wr w') : PR w w' c v l :=
  h.draw (h.cur.keep_below hb) (Keeps.of_below hb)
theorem Mth.addP_len1 (l : List Pu) (key : ByteArray) (dm df ds n : Int) : (addP l key dm df ds n).1.length ≤ l.length + 1 := by
  unfold addP withP
  split
  · show (putP l (shiftP (purseOf l key) dm df ds n)).length ≤ l.length + 1
    cases hf : found l (shiftP (purseOf l key) dm df ds n).k
    · rw [put_length_not hf]; omega
    · rw [put_length_found hf]; omega
  · show l.length ≤ l.length + 1
    omega
theorem Mth.addP_keys {l : List Pu} {key : ByteArray} {dm df ds n : Int} (hl : ∀ p ∈ l, p.k.size ≤ 100) (hk : key.size ≤ 100) : ∀ p ∈ (addP l key dm df ds n).1, p.k.size ≤ 100 := by
  unfold addP withP
  split
  · intro p hp
    rcases put_mem hp with rfl | hp
    · show (purseOf l key).k.size ≤ 100
      rw [purseOf_k]
      exact hk
    · exact hl p hp
  · exact hl
theorem PR.give {w wr w' : World} {c : Nat} {v : Value} {l : List Pu} {key : ByteArray} {dm df ds n : Int} {e : Ending} (h : PR w wr c v l) (hk : key.size ≤ 100) (hg : GivesO wr (addP l key dm df ds n) e w') :
    ∃ v', e = .returned (.tuple #[v', .bool (addP l key dm df ds n).2]) ∧ PR w w' c v' (addP l key dm df ds n).1 := by
  obtain ⟨v', rfl, hv, hown, hb⟩ := hg
  exact ⟨v', rfl, hv, own_lower hown h.keeps.size, addP_keys h.keys hk, h.cur.keep_below hb, h.keeps.trans (Keeps.of_below hb), h.low⟩
/-- Behind an append of one purse. -/
theorem PR.app {w wr w' : World} {c : Nat} {v v' : Value} {l : List Pu} {p : Pu} {o : Obj} (h : PR w wr c v l) (hp : p.k.size ≤ 100) (hown : w'.ownsRow w.heap.size 32 4 v' (l.length + 1) (GR.flat encP l ++ encP p)) (hg : (wr.alloc o).grownBy w' v.ownBlock) (hv : v' ≠ .slice none 0 0) : PR w w' c v' (l ++ [p]) := by
  have hb : Below w.heap.size wr w' := ((Below.refl w.heap.size wr).alloc h.keeps.size o).trans (grown_below' hg (fun k e => (h.own.lt k e).1) (by have := h.keeps.size; simp; omega))
  have hk : Keeps c w w' := ⟨hb.os.trans h.keeps.os, hb.tape.trans h.keeps.tape, hb.output.trans h.keeps.output, Nat.le_trans h.keeps.size hb.size, fun k hl hne => (hb.block k hl).trans (h.keeps.block k hl hne)⟩
  refine ⟨hv, ?_, fun q hq => ?_, h.cur.below hb h.low, hk, h.low⟩
  · rw [GR.flat_append, GR.flat_one, List.length_append]
    exact hown
  · rcases List.mem_append.1 hq with hq | hq
    · exact h.keys q hq
    · rw [List.mem_singleton.1 hq]; exact hp
end Go.Proofs.YtdlhlfndobbocaaDoor
namespace Go.Proofs.YtdlhlfndobbocaaDoor
open Go.RowKit
open Mth

abbrev puKeys : List ByteArray := [⟨#[97]⟩, ⟨#[98]⟩, ⟨#[107, 49]⟩]
abbrev puKeys2 : List ByteArray := [⟨#[97]⟩, ⟨#[122, 122]⟩, ⟨#[]⟩]
theorem puKeys_size : ∀ x ∈ puKeys, x.size ≤ 10 := by decide
theorem puKeys2_size : ∀ x ∈ puKeys2, x.size ≤ 10 := by decide
theorem PR.form_at {w wr : World} {c g cap : Nat} {l : List Pu} (h : PR w wr c (.slice (some ⟨g, 0, none⟩) l.length cap) l) : PursesAt wr (some ⟨g, 0, none⟩) l := by
  obtain ⟨g', cap', e, _, _, _, hat⟩ := h.form
  injection e with e1 e2 e3
  injection e1 with e1
  injection e1 with e1 _
  subst e1
  exact hat
theorem PursesAt.at0 {w : World} {g : Nat} {p : Pu} {r : List Pu} (h : PursesAt w (some ⟨g, 0, none⟩) (p :: r)) : w.cell? ⟨g, 0, none⟩ = some (.string p.k) ∧ w.cell? ⟨g, 1, none⟩ = some (.int .i64 p.m) ∧ w.cell? ⟨g, 2, none⟩ = some (.int .i64 p.f) ∧ w.cell? ⟨g, 3, none⟩ = some (.int .i64 p.s) := by
  obtain ⟨g1, o1, e1, _, s0, s1, s2, s3⟩ := PursesAt.four h 0 (by simp)
  injection e1 with e1
  injection e1 with e1 e2
  subst e1 e2
  exact ⟨by simpa using s0, by simpa using s1, by simpa using s2, by simpa using s3⟩
theorem PR.spec {w wr : World} {c : Nat} {v : Value} {l : List Pu} (h : PR w wr c v l) : ∀ p ∈ l, p.k.size ≤ 1048576 := fun p hp => by have := h.keys p hp; omega

/-- How long a slice is. -/
def lenV : Value → Nat
  | .slice _ n _ => n
  | _ => 0
theorem decAny (n : Int) (w : World) (h0 : 0 ≤ n) (h1 : n ≤ 1000) : Calls Tryd.prog 59 #[.int .i64 n] w fun e w' => ∃ s : ByteArray, e = .returned (.string s) ∧ s.size ≤ 25 ∧ w = w' := by
  refine (specDec n w (by omega) (by omega)).mono ?_
  rintro e w' ⟨rfl, rfl⟩
  refine ⟨_, rfl, ?_, rfl⟩
  have := Lib.itoa_length_le n (by omega) (by omega)
  have h2 : ((Lib.itoa n).toArray).size ≤ 25 := by rw [List.size_toArray]; omega
  exact h2
theorem PR.setF {w wr : World} {c g cap : Nat} {p : Pu} {r : List Pu} (z : Int) (h : PR w wr c (.slice (some ⟨g, 0, none⟩) (p :: r).length cap) (p :: r)) : PR w (wr.setCell ⟨g, 2, none⟩ (.int .i64 z)) c (.slice (some ⟨g, 0, none⟩) (p :: r).length cap) (⟨p.k, p.m, z, p.s⟩ :: r) := by
  have hst := (h.own.stored 2 (.int .i64 z)).1
  rw [show (GR.flat encP (p :: r)).set 2 (.int .i64 z) = GR.flat encP (⟨p.k, p.m, z, p.s⟩ :: r) by rw [GR.flat_cons, GR.flat_cons]; rfl] at hst
  have hgl : w.heap.size ≤ g := (h.own.lt g rfl).1
  have hgw : g < wr.heap.size := (h.own.lt g rfl).2
  have hlow := h.low
  refine ⟨h.nn, hst, fun q hq => ?_, ?_, ?_, h.low⟩
  · rcases List.mem_cons.1 hq with rfl | hq
    · exact h.keys p (List.mem_cons_self)
    · exact h.keys q (List.mem_cons_of_mem _ hq)
  · exact h.cur.below (B := w.heap.size) ((Below.refl _ _).setCell (p := ⟨g, 2, none⟩) hgl _) hlow
  · refine ⟨h.keeps.os, h.keeps.tape, h.keeps.output, by rw [Fo.setCell_size]; exact h.keeps.size, fun k hk hne => ?_⟩
    rw [Below.heap_setCell _ _ _ _ (by show k ≠ g; omega)]
    exact h.keeps.block k hk hne

set_option maxRecDepth 100000 in
set_option maxHeartbeats 8000000 in
theorem l03Purses (c : Nat) (w : World) (hc : Cur w c) :
    Calls Tryd.prog 46 #[.pointer (some ⟨c, 0, none⟩)] w fun e w' => ∃ v l, e = .returned v ∧ l.length ≤ 30 ∧ PR w w' c v l := by
  obtain ⟨i0, hi, hz0, hz1, hz2⟩ := info_parts infoPu
  have HC := hide hc
  have hcl := hc.lt
  have hlit : (w.alloc (.cells #[] 32)).ownsRow w.heap.size 32 4 (.slice (some ⟨w.heap.size, 0, none⟩) 0 0) 0 [] := World.ownsRow_lit (base := w.heap.size) (e := 32) (size := 4) w #[] 0 (Nat.le_refl _) (by decide) rfl
  have HP0 := hide (show PR w (w.alloc (.cells #[] 32)) c (.slice (some ⟨w.heap.size, 0, none⟩) 0 0) [] from ⟨(by intro h; cases h), hlit, fun p hp => by simp at hp, cur_new hc _, keeps_new _, hc.lt⟩)
  clear hc hlit
  go_enter Tryd.func46, Tryd.ntmps46
  go_wp2_with fail
  refine (l01Below c 7 _ (unhide HP0).cur (by omega) (by omega)).mono ?_
  rintro e w1 ⟨x, rfl, hx0, hx1, hc1, hk1⟩
  have HP1 := hide ((unhide HP0).draw hc1 hk1)
  obtain ⟨nn, rfl⟩ := Int.eq_ofNat_of_zero_le hx0
  have hnn : nn < 7 := by omega
  clear hc1 hk1 HP0 hx0 hx1
  go_upto_block 0 with fail
  go_cut [3] (fun v wx => ∃ l, l.length ≤ 7 ∧ PR w wx c v l)
  case first =>
    go_wp2_with fail
    go_loopw [3, 5] (fun v i wr => ∃ (k : Nat) (l : List Pu), k ≤ nn ∧ i = .int .i64 k ∧ l.length ≤ k ∧ PR w wr c v l) (fun _ i _ => nn - (intOf i).toNat)
    case atStart => exact ⟨0, [], Nat.zero_le _, rfl, Nat.le_refl _, unhide HP1⟩
    case round =>
      obtain ⟨k, l, hk, rfl, hlk, hPR⟩ := hrel
      obtain ⟨g, cap, rfl, hcap, hgl, hgw, _⟩ := hPR.form
      have HPR := hide hPR
      clear hPR
      by_cases hlt : k < nn
      · go_wp2_with fail
        refine (l01Pick c wr.heap.size 3 puKeys _ (cur_new (unhide HPR).cur _) (by have := (unhide HPR).cur.lt; omega) (by decide) (by decide) (fun i hi => lit_strs wr puKeys _ i hi) (by simp)).mono ?_
        rintro e w2 ⟨key, rfl, hkey, hc2, hk2⟩
        have hks := puKeys_size key hkey
        have HP2 := hide (((unhide HPR).grow (below_one' wr _)).draw hc2 hk2)
        clear hc2 hk2 hkey HPR
        go_wp2_with fail
        refine (l01Below c 20 _ (unhide HP2).cur (by omega) (by omega)).mono ?_
        rintro e w3 ⟨y, rfl, hy0, hy1, hc3, hk3⟩
        have HP3 := hide ((unhide HP2).draw hc3 hk3)
        clear hc3 hk3 HP2
        go_wp2_with fail
        refine (l01Below c 4 _ (unhide HP3).cur (by omega) (by omega)).mono ?_
        rintro e w4 ⟨z, rfl, hz0', hz1', hc4, hk4⟩
        have HP4 := hide ((unhide HP3).draw hc4 hk4)
        clear hc4 hk4 HP3
        have hzc : z = 0 ∨ z = 1 ∨ z = 2 ∨ z = 3 := by omega
        clear hz0' hz1'
        rcases hzc with rfl | rfl | rfl | rfl
        · have HSP := hide (specMint g 0 cap l key (1 + y) w4 (by omega) hcap (unhide HP4).spec (by omega) (unhide HP4).form_at)
          have HLN := hide (addP_len1 l key (1) (1) (0) (1 + y))
          go_wp2_with fail
          refine (unhide HSP).mono ?_
          intro e w5 hgv
          obtain ⟨v', rfl, hP5⟩ := (unhide HP4).give (by omega) hgv
          obtain ⟨g', cap', rfl, _, _, _, _⟩ := hP5.form
          have HP5 := hide hP5
          clear hgv hP5 HSP HP4
          go_wp2_with fail
          go_roundw
          case rel => exact ⟨k + 1, _, by omega, by go_num, by have := unhide HLN; omega, unhide HP5⟩
          case measure => simp [intOf]; omega
        · have HSP := hide (specGain g 0 cap l key (1 + y) w4 (by omega) hcap (unhide HP4).spec (by omega) (unhide HP4).form_at)
          have HLN := hide (addP_len1 l key (0) (1) (0) (1 + y))
          go_wp2_with fail
          refine (unhide HSP).mono ?_
          intro e w5 hgv
          obtain ⟨v', rfl, hP5⟩ := (unhide HP4).give (by omega) hgv
          obtain ⟨g', cap', rfl, _, _, _, _⟩ := hP5.form
          have HP5 := hide hP5
          clear hgv hP5 HSP HP4
          go_wp2_with fail
          go_roundw
          case rel => exact ⟨k + 1, _, by omega, by go_num, by have := unhide HLN; omega, unhide HP5⟩
          case measure => simp [intOf]; omega
        · have HSP := hide (specSpend g 0 cap l key (1 + y) w4 (by omega) hcap (unhide HP4).spec (by omega) (unhide HP4).form_at)
          have HLN := hide (addP_len1 l key (0) (-1) (1) (1 + y))
          go_wp2_with fail
          refine (unhide HSP).mono ?_
          intro e w5 hgv
          obtain ⟨v', rfl, hP5⟩ := (unhide HP4).give (by omega) hgv
          obtain ⟨g', cap', rfl, _, _, _, _⟩ := hP5.form
          have HP5 := hide hP5
          clear hgv hP5 HSP HP4
          go_wp2_with fail
          go_roundw
          case rel => exact ⟨k + 1, _, by omega, by go_num, by have := unhide HLN; omega, unhide HP5⟩
          case measure => simp [intOf]; omega
        · have HSP := hide (specPart g 0 cap l key (1 + y) w4 (by omega) hcap (unhide HP4).spec (by omega) (unhide HP4).form_at)
          have HLN := hide (addP_len1 l key (0) (-1) (0) (1 + y))
          go_wp2_with fail
          refine (unhide HSP).mono ?_
          intro e w5 hgv
          obtain ⟨v', rfl, hP5⟩ := (unhide HP4).give (by omega) hgv
          obtain ⟨g', cap', rfl, _, _, _, _⟩ := hP5.form
          have HP5 := hide hP5
          clear hgv hP5 HSP HP4
          go_wp2_with fail
          go_roundw
          case rel => exact ⟨k + 1, _, by omega, by go_num, by have := unhide HLN; omega, unhide HP5⟩
          case measure => simp [intOf]; omega
      · have hke : k = nn := by omega
        subst hke
        have hnlt : decide ((k : Int) < (k : Int)) = false := by simp
        go_wp2_with fail
        go_meet
        case rel => exact ⟨l, by omega, unhide HPR⟩
  case rest =>
    obtain ⟨l, hl, hPR⟩ := hcut
    obtain ⟨g, cap, rfl, hcap, hgl, hgw, _⟩ := hPR.form
    have HPR := hide hPR
    clear hPR HP1
    go_wp2_with fail
    refine (l01Below c 16 _ (unhide HPR).cur (by omega) (by omega)).mono ?_
    rintro e w2 ⟨x, rfl, hx0, hx1, hc2, hk2⟩
    have HP2 := hide ((unhide HPR).draw hc2 hk2)
    have hgw2 : g < w2.heap.size := Nat.lt_of_lt_of_le hgw hk2.size
    clear hc2 hk2 HPR hgw
    by_cases hxa : x = 0
    · subst hxa
      go_wp2_with fail
      refine (l01Pick c w2.heap.size 3 puKeys2 _ (cur_new (unhide HP2).cur _) (by have := (unhide HP2).cur.lt; omega) (by decide) (by decide) (fun i hi => lit_strs w2 puKeys2 _ i hi) (by simp)).mono ?_
      rintro e w3 ⟨key, rfl, hkey, hc3, hk3⟩
      have hks := puKeys2_size key hkey
      have HP3 := hide (((unhide HP2).grow (below_one' w2 _)).draw hc3 hk3)
      clear hc3 hk3 hkey HP2
      go_wp2_with fail
      refine (l01PickInt c w3.heap.size 3 [-1, 5, 1000000000] _ (cur_new (unhide HP3).cur _) (by have := (unhide HP3).cur.lt; omega) (by decide) (by decide) (fun i hi => lit_ints w3 [-1, 5, 1000000000] _ i hi) (by simp)).mono ?_
      rintro e w4 ⟨fz, rfl, _, hc4, hk4⟩
      have HP4 := hide (((unhide HP3).grow (below_one' w3 _)).draw hc4 hk4)
      clear hc4 hk4 HP3
      go_wp2_with (at_builtin; refine wpList_append_own _ rfl _ _ 24 rfl w.heap.size 32 i0 (.agg #[.string ByteArray.empty, .int .i64 0, .int .i64 0, .int .i64 0]) 4 40 Tryd.underlying24 hi hz0 hz1 hz2 rfl (by decide) _ l.length (GR.flat encP l) rfl ((unhide HP4).own.alloc _) ⟨w4.heap.size, 0, none⟩ 1 1 (encP ⟨key, 0, fz, 0⟩) rfl rfl (World.news_of_block (heap_alloc_new w4 _)) (encP_one1 ⟨key, 0, fz, 0⟩) (by unfold maxLen; omega) (by omega) (by have := (unhide HP4).keeps.size; simp; omega) ?_; intro v' w5 hown hgrow hnil)
      have HP5 := hide ((unhide HP4).app (p := ⟨key, 0, fz, 0⟩) (by show key.size ≤ 100; omega) hown hgrow (by first | exact hnil | exact fun h => absurd (hnil.1 h).2 (by decide)))
      clear hown hgrow hnil
      go_wp2_with fail
      go_ret
      exact ⟨v', _, rfl, by rw [List.length_append]; simp; omega, unhide HP5⟩
    by_cases hxb : x = 1
    · subst hxb
      cases l with
      | nil =>
        go_wp2_with fail
        go_ret
        exact ⟨_, [], rfl, by simp, unhide HP2⟩
      | cons p r =>
        have hpos : decide ((0 : Int) < (((p :: r).length : Nat) : Int)) = true := decide_eq_true (by simp <;> omega)
        go_wp2_with fail
        refine (l01PickInt c w2.heap.size 3 [1000000000, 999999995, 1000000001] _ (cur_new (unhide HP2).cur _) (by have := (unhide HP2).cur.lt; omega) (by decide) (by decide) (fun i hi => lit_ints w2 [1000000000, 999999995, 1000000001] _ i hi) (by simp)).mono ?_
        rintro e w3 ⟨fz, rfl, _, hc3, hk3⟩
        have hP3 := ((unhide HP2).grow (below_one' w2 _)).draw hc3 hk3
        have HP3 := hide hP3
        obtain ⟨pc0, pc1, pc2, pc3⟩ := PursesAt.at0 hP3.form_at
        have hfz : w3.frozen? ⟨g, 2, none⟩ = false := hP3.own.frozenAt 2
        clear hc3 hk3 HP2 hP3
        go_wp2_with fail
        go_ret
        exact ⟨_, _, rfl, by simp at hl ⊢; omega, (unhide HP3).setF fz⟩
    by_cases hxc : x = 2
    · subst hxc
      go_wp2_with fail
      go_loopw [3] (fun v wr => ∃ l : List Pu, l.length ≤ 22 ∧ PR w wr c v l) (fun v _ => 40 - lenV v)
      case atStart => exact ⟨l, by omega, unhide HP2⟩
      case round =>
        clear hgl hgw2 hcap HP2 hl
        obtain ⟨l2, hl2, hPR⟩ := hrel
        obtain ⟨g2, cap2, rfl, hcap2, hgl2, hgw2, _⟩ := hPR.form
        have HPR := hide hPR
        clear hPR
        go_wp2_with fail
        refine (l01Below c 2 _ (unhide HPR).cur (by omega) (by omega)).mono ?_
        rintro e w3 ⟨y, rfl, hy0, hy1, hc3, hk3⟩
        have HP3 := hide ((unhide HPR).draw hc3 hk3)
        clear hc3 hk3 HPR
        by_cases hlt : (l2.length : Int) < 20 + y
        · go_wp2_with fail
          refine (decAny _ _ (by omega) (by omega)).mono ?_
          rintro e w4 ⟨ds, rfl, hds, rfl⟩
          have hks : ((⟨#[122]⟩ : ByteArray) ++ ds).size ≤ 100 := by rw [ByteArray.size_append]; show 1 + ds.size ≤ 100; omega
          go_wp2_with (at_builtin; refine wpList_append_own _ rfl _ _ 24 rfl w.heap.size 32 i0 (.agg #[.string ByteArray.empty, .int .i64 0, .int .i64 0, .int .i64 0]) 4 40 Tryd.underlying24 hi hz0 hz1 hz2 rfl (by decide) _ l2.length (GR.flat encP l2) rfl ((unhide HP3).own.alloc _) ⟨w3.heap.size, 0, none⟩ 1 1 (encP ⟨(⟨#[122]⟩ : ByteArray) ++ ds, 0, 0, 0⟩) rfl rfl (World.news_of_block (heap_alloc_new w3 _)) (encP_one1 ⟨(⟨#[122]⟩ : ByteArray) ++ ds, 0, 0, 0⟩) (by unfold maxLen; omega) (by omega) (by have := (unhide HP3).keeps.size; simp; omega) ?_; intro v' w5 hown hgrow hnil)
          have hP5 := (unhide HP3).app (p := ⟨(⟨#[122]⟩ : ByteArray) ++ ds, 0, 0, 0⟩) hks hown hgrow (by first | exact hnil | exact fun h => absurd (hnil.1 h).2 (by decide))
          obtain ⟨g5, cap5, rfl, _, _, _, _⟩ := hP5.form
          have HP5 := hide hP5
          clear hown hgrow hnil hP5
          go_wp2_with fail
          go_roundw
          case rel => exact ⟨_, by rw [List.length_append]; simp; omega, unhide HP5⟩
          case measure => simp [lenV]; omega
        · go_wp2_with fail
          go_ret
          exact ⟨_, l2, rfl, by omega, unhide HP3⟩
    · have hxd : ¬ x = 0 := hxa
      go_wp2_with fail
      go_ret
      exact ⟨_, l, rfl, by omega, unhide HP2⟩
end Go.Proofs.YtdlhlfndobbocaaDoor
namespace Go.Proofs.YtdlhlfndobbocaaDoor
open Go.RowKit
open Mth

theorem bigNo (a : Option Addr) (len cap : Nat) (w : World) (h : len ≤ 1048576) : Calls Tryd.prog 9 #[.slice a len cap] w fun e w' => e = .returned (.bool false) ∧ w = w' := by
  go_enter Tryd.func9, Tryd.ntmps9
  go_wp2
  go_ret
  exact ⟨by simp; omega, rfl⟩
theorem bigYes (a : Option Addr) (len cap : Nat) (w : World) (h : 1048576 < len) : Calls Tryd.prog 9 #[.slice a len cap] w fun e w' => e = .returned (.bool true) ∧ w = w' := by
  go_enter Tryd.func9, Tryd.ntmps9
  go_wp2
  go_ret
  exact ⟨by simp; omega, rfl⟩
abbrev keyBad : List ByteArray := [⟨#[]⟩, ⟨#[65]⟩, ⟨#[48, 49, 50, 51, 52, 53, 54, 55, 56, 57]⟩, ⟨#[48, 49, 50, 51, 52, 53, 54, 55, 56, 57, 48]⟩, ⟨#[97, 32, 98]⟩]
theorem keyBad_size : ∀ x ∈ keyBad, x.size ≤ 20 := by decide

set_option maxRecDepth 100000 in
set_option maxHeartbeats 1000000 in
theorem l01Key (c : Nat) (w : World) (hc : Cur w c) : Calls Tryd.prog 47 #[.pointer (some ⟨c, 0, none⟩)] w fun e w' => ∃ t : ByteArray, e = .returned (.string t) ∧ t.size ≤ 20 ∧ Cur w' c ∧ Keeps c w w' := by
  have HC := hide hc
  clear hc
  go_enter Tryd.func47, Tryd.ntmps47
  go_wp2_with fail
  refine (l01Once c 16 _ (unhide HC) (by omega) (by omega)).mono ?_
  rintro e w1 ⟨b, rfl, hc1, hk1⟩
  have HC1 := hide hc1
  clear hc1
  cases b
  · go_wp2_with fail
    refine (l01Pick c w1.heap.size 3 puKeys _ (cur_new (unhide HC1) _) (by have := (unhide HC1).lt; omega) (by decide) (by decide) (fun i hi => lit_strs w1 puKeys _ i hi) (by simp)).mono ?_
    rintro e w2 ⟨x, rfl, hx, hc2, hk2⟩
    have HX := hide (puKeys_size x hx)
    have HC2 := hide hc2
    clear hc2 hx
    go_wp2
    go_ret
    exact ⟨_, rfl, Nat.le_trans (unhide HX) (by omega), unhide HC2, (hk1.trans (keeps_new _)).trans hk2⟩
  · go_wp2_with fail
    refine (l01Pick c w1.heap.size 5 keyBad _ (cur_new (unhide HC1) _) (by have := (unhide HC1).lt; omega) (by decide) (by decide) (fun i hi => lit_strs w1 keyBad _ i hi) (by simp)).mono ?_
    rintro e w2 ⟨x, rfl, hx, hc2, hk2⟩
    have HX := hide (keyBad_size x hx)
    have HC2 := hide hc2
    clear hc2 hx
    go_wp2
    go_ret
    exact ⟨_, rfl, unhide HX, unhide HC2, (hk1.trans (keeps_new _)).trans hk2⟩

/-- What is drawn. -/
def DrawsP (w : World) (e : Ending) (w' : World) : Prop := ∃ (g cap : Nat) (l : List Pu) (key : ByteArray) (n : Int), e = .returned (.tuple #[.slice (some ⟨g, 0, none⟩) l.length cap, .string key, .int .i64 n]) ∧ l.length ≤ 30 ∧ l.length ≤ cap ∧ (∀ p ∈ l, p.k.size ≤ 100) ∧ key.size ≤ 20 ∧ PursesAt w' (some ⟨g, 0, none⟩) l ∧ Below w.heap.size w w'
abbrev askNs : List Int := [1, 3, 5, 20, 0, -1, 1000000000, 1000000001, -9223372036854775808]

set_option maxRecDepth 100000 in
set_option maxHeartbeats 2000000 in
theorem l03Asked (a : Option Addr) (len cap : Nat) (w : World) (hcode : CodeOk w a len) : Calls Tryd.prog 33 #[.slice a len cap] w (DrawsP w) := by
  have HN := hide (l01New a len cap w hcode.1 hcode.2)
  unfold DrawsP
  clear hcode
  go_enter Tryd.func33, Tryd.ntmps33
  go_wp2_with fail
  refine (unhide HN).mono ?_
  rintro e w1 ⟨rfl, hc1, hb1⟩
  have HC1 := hide hc1
  have HB1 := hide hb1
  clear hc1 hb1 HN
  go_wp2_with fail
  refine (l03Purses _ _ (unhide HC1)).mono ?_
  rintro e w2 ⟨v, l, rfl, hl, hPR⟩
  obtain ⟨g, cp, rfl, hcp, _, _, _⟩ := hPR.form
  have HP2 := hide hPR
  clear hPR
  go_wp2_with fail
  refine (l01Key _ _ (unhide HP2).cur).mono ?_
  rintro e w3 ⟨key, rfl, hkey, hc3, hk3⟩
  have HP3 := hide ((unhide HP2).draw hc3 hk3)
  clear hc3 hk3 HP2
  go_wp2_with fail
  refine (l01PickInt w.heap.size w3.heap.size 9 askNs _ (cur_new (unhide HP3).cur _) (by have := (unhide HP3).cur.lt; omega) (by decide) (by decide) (fun i hi => lit_ints w3 askNs _ i hi) (by simp)).mono ?_
  rintro e w4 ⟨n, rfl, _, hc4, hk4⟩
  have HP4 := hide (((unhide HP3).grow (below_one' w3 _)).draw hc4 hk4)
  clear hc4 hk4 HP3
  go_wp2_with fail
  exact bodyPost_ret (v := .tuple #[.slice (some ⟨g, 0, none⟩) l.length cp, .string key, .int .i64 n]) (by simp [results, Tryd.results33, go_sem]) rfl ⟨g, cp, l, key, n, rfl, hl, hcp, (unhide HP4).keys, hkey, (unhide HP4).form_at, below_then_keeps (unhide HB1) (unhide HP4).keeps⟩

set_option maxRecDepth 100000 in
set_option maxHeartbeats 1000000 in
theorem drawSpend (a : Option Addr) (len cap : Nat) (w : World) (hcode : CodeOk w a len) : Calls Tryd.prog 10 #[.slice a len cap] w (DrawsP w) := by
  have H := hide (l03Asked a len cap w hcode)
  unfold DrawsP at *
  clear hcode
  go_enter Tryd.func10, Tryd.ntmps10
  go_wp2_with fail
  refine (unhide H).mono ?_
  rintro e w1 ⟨g, cp, l, key, n, rfl, h1, h2, h3, h4, h5, h6⟩
  have HS := hide (show l.length ≤ 30 ∧ l.length ≤ cp ∧ (∀ p ∈ l, p.k.size ≤ 100) ∧ key.size ≤ 20 ∧ PursesAt w1 (some ⟨g, 0, none⟩) l ∧ Below w.heap.size w w1 from ⟨h1, h2, h3, h4, h5, h6⟩)
  clear h1 h2 h3 h4 h5 h6
  go_wp2_with fail
  exact bodyPost_ret (v := .tuple #[.slice (some ⟨g, 0, none⟩) l.length cp, .string key, .int .i64 n]) (by simp [results, Tryd.results10, go_sem]) rfl ⟨g, cp, l, key, n, rfl, unhide HS⟩
end Go.Proofs.YtdlhlfndobbocaaDoor
