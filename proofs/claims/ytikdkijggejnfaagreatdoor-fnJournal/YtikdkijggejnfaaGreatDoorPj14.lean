/- Parts. -/
import Derived.Test.YtikdkijggejnfaaGreatDoorPj1
import Derived.OneCell
import Derived.Deep.Draws
import Derived.Deep.QuietTactic
import Derived.BigQuiet
import Derived.Laws.Bits64b
import Derived.Laws.MakeOwn
namespace Go.Proofs.YtikdkijggejnfaaGreatDoor
open Go.RowKit

/-- A block that holds just these texts. -/
def strBlock (w : World) (g : Nat) (xs : List ByteArray) : Prop := w.heap[g]? = some (.cells (xs.map Value.string).toArray 9 (0, 0))
theorem strBlock.cell {w : World} {g : Nat} {xs : List ByteArray} (h : strBlock w g xs) (i : Nat) (hi : i < xs.length) : w.cell? ⟨g, i, none⟩ = some (.string xs[i]) := by
  rw [cell_of_row w g i _ 9 (0, 0) h]; simp [hi]
theorem strBlock.free {w : World} {g : Nat} {xs : List ByteArray} (h : strBlock w g xs) (i : Nat) : w.frozen? ⟨g, i, none⟩ = false := by
  unfold World.frozen?; rw [h]; simp
theorem strBlock.lt {w : World} {g : Nat} {xs : List ByteArray} (h : strBlock w g xs) : g < w.heap.size := by
  rcases Nat.lt_or_ge g w.heap.size with h' | h'
  · exact h'
  · rw [strBlock, Array.getElem?_eq_none h'] at h; cases h
theorem strBlock.below {w w' : World} {g B : Nat} {xs : List ByteArray} (h : strBlock w g xs) (hb : Below B w w') (hg : g < B) : strBlock w' g xs := by
  unfold strBlock; rw [hb.block g hg]; exact h
theorem strBlock.set {w : World} {g : Nat} {xs : List ByteArray} (h : strBlock w g xs) (i : Nat) (t : ByteArray) : strBlock (w.setCell ⟨g, i, none⟩ (.string t)) g (xs.set i t) := by
  unfold strBlock World.setCell
  simp only [Array.getElem?_modify]
  rw [if_pos trivial, h]
  simp

/-- All but one block reads as before; new blocks may lie behind. -/
structure Keeps (g : Nat) (w w' : World) : Prop where
  os : w'.os = w.os
  tape : w'.tape = w.tape
  output : w'.output = w.output
  size : w.heap.size ≤ w'.heap.size
  block : ∀ k, k < w.heap.size → k ≠ g → w'.heap[k]? = w.heap[k]?
theorem Keeps.refl (g : Nat) (w : World) : Keeps g w w := ⟨rfl, rfl, rfl, Nat.le_refl _, fun _ _ _ => rfl⟩
theorem Keeps.trans {g : Nat} {a b c : World} (h : Keeps g a b) (k : Keeps g b c) : Keeps g a c :=
  ⟨k.os.trans h.os, k.tape.trans h.tape, k.output.trans h.output, Nat.le_trans h.size k.size, fun i hi hg => (k.block i (Nat.lt_of_lt_of_le hi h.size) hg).trans (h.block i hi hg)⟩
theorem Keeps.of_below {g : Nat} {w w' : World} (h : Below w.heap.size w w') : Keeps g w w' := ⟨h.os, h.tape, h.output, h.size, fun k hk _ => h.block k hk⟩
theorem Keeps.set {g i : Nat} {w : World} (v : Value) : Keeps g w (w.setCell ⟨g, i, none⟩ v) :=
  ⟨rfl, rfl, rfl, by simp [World.setCell], fun k _ hg => Below.heap_setCell _ _ _ _ hg⟩
theorem Keeps.below {g B : Nat} {w w' : World} (h : Keeps g w w') (hB : B ≤ g) (hs : B ≤ w.heap.size) : Below B w w' := ⟨h.os, h.tape, h.output, h.size, fun k hk => h.block k (by omega) (by omega)⟩
theorem strBlock.keeps {w w' : World} {g g' : Nat} {xs : List ByteArray} (h : strBlock w g' xs) (hk : Keeps g w w') (hne : g' ≠ g) : strBlock w' g' xs := by
  unfold strBlock; rw [hk.block g' h.lt hne]; exact h


theorem and255 (y : Int) : 0 ≤ bits .and .i64 y 255 ∧ bits .and .i64 y 255 ≤ 255 := by
  have h : bits .and .i64 y 255 = IntKind.i64.wrap ((BitVec.ofInt 64 y &&& BitVec.ofInt 64 255).toNat : Int) := rfl
  have h2 : (BitVec.ofInt 64 y &&& BitVec.ofInt 64 255).toNat ≤ 255 := by
    rw [BitVec.toNat_and]
    exact Nat.le_trans Nat.and_le_right (by decide)
  rw [h, IntWalk.i64_in _ ⟨by omega, by omega⟩]
  omega

/-- A cursor in block c: over a code that lies ahead of it. -/
def Cur (w : World) (c : Nat) : Prop :=
  ∃ (a : Option Addr) (len cap i : Nat) (h : Int), w.heap[c]? = some (.cells #[.slice a len cap, .int .i64 i, .int .i64 h] 78 (0, 0)) ∧ i ≤ len ∧ len ≤ 1048576 ∧
    (∀ j < len, ∃ (b off : Nat) (z : Int), a = some ⟨b, off, none⟩ ∧ b < c ∧ 0 ≤ z ∧ z ≤ 255 ∧ w.cell? ⟨b, off + j, none⟩ = some (.int .u8 z))
theorem Cur.lt {w : World} {c : Nat} (h : Cur w c) : c < w.heap.size := by
  obtain ⟨a, len, cap, i, hh, hb, _⟩ := h
  rcases Nat.lt_or_ge c w.heap.size with h' | h'
  · exact h'
  · rw [Array.getElem?_eq_none h'] at hb; cases hb
/-- It stays while nothing up to its block turns. -/
theorem Cur.below {w w' : World} {c B : Nat} (h : Cur w c) (hb : Below B w w') (hB : c < B) : Cur w' c := by
  obtain ⟨a, len, cap, i, hh, hblk, h1, h2, h3⟩ := h
  refine ⟨a, len, cap, i, hh, by rw [hb.block c hB]; exact hblk, h1, h2, fun j hj => ?_⟩
  obtain ⟨b, off, z, e, hbc, z0, z1, hc⟩ := h3 j hj
  exact ⟨b, off, z, e, hbc, z0, z1, by rw [hb.cell (p := ⟨b, off + j, none⟩) (show b < B by omega)]; exact hc⟩

/-- A block written over. -/
theorem block_set {w : World} {c : Nat} {cs : Array Value} {t : TypeId} (h : w.heap[c]? = some (.cells cs t (0, 0))) (i : Nat) (v : Value) : (w.setCell ⟨c, i, none⟩ v).heap[c]? = some (.cells (cs.setIfInBounds i v) t (0, 0)) := by
  unfold World.setCell
  simp only [Array.getElem?_modify]
  rw [if_pos trivial, h]
  rfl

/-- The cursor behind a draw. -/
theorem cur_after {w : World} {a : Option Addr} {c len cap i i' : Nat} {h h' : Int} (hblk : w.heap[c]? = some (.cells #[.slice a len cap, .int .i64 i, .int .i64 h] 78 (0, 0))) (hi : i' ≤ len) (hlen : len ≤ 1048576)
    (hcode : ∀ j < len, ∃ (b off : Nat) (z : Int), a = some ⟨b, off, none⟩ ∧ b < c ∧ 0 ≤ z ∧ z ≤ 255 ∧ w.cell? ⟨b, off + j, none⟩ = some (.int .u8 z)) :
    Cur ((w.setCell ⟨c, 2, none⟩ (.int .i64 h')).setCell ⟨c, 1, none⟩ (.int .i64 (i' : Int))) c := by
  have h1 := block_set (block_set hblk 2 (.int .i64 h')) 1 (.int .i64 (i' : Int))
  refine ⟨a, len, cap, i', h', by simpa using h1, hi, hlen, fun j hj => ?_⟩
  obtain ⟨b, off, z, e, hbc, z0, z1, hc⟩ := hcode j hj
  refine ⟨b, off, z, e, hbc, z0, z1, ?_⟩
  rw [World.cell?_setCell_other _ _ _ _ (by intro e; have := congrArg Addr.block e; simp at this; omega), World.cell?_setCell_other _ _ _ _ (by intro e; have := congrArg Addr.block e; simp at this; omega)]
  exact hc
theorem cur_after1 {w : World} {a : Option Addr} {c len cap i : Nat} {h h' : Int} (hblk : w.heap[c]? = some (.cells #[.slice a len cap, .int .i64 i, .int .i64 h] 78 (0, 0))) (hi : i ≤ len) (hlen : len ≤ 1048576)
    (hcode : ∀ j < len, ∃ (b off : Nat) (z : Int), a = some ⟨b, off, none⟩ ∧ b < c ∧ 0 ≤ z ∧ z ≤ 255 ∧ w.cell? ⟨b, off + j, none⟩ = some (.int .u8 z)) :
    Cur (w.setCell ⟨c, 2, none⟩ (.int .i64 h')) c := by
  have h1 := block_set hblk 2 (.int .i64 h')
  refine ⟨a, len, cap, i, h', by simpa using h1, hi, hlen, fun j hj => ?_⟩
  obtain ⟨b, off, z, e, hbc, z0, z1, hc⟩ := hcode j hj
  refine ⟨b, off, z, e, hbc, z0, z1, ?_⟩
  rw [World.cell?_setCell_other _ _ _ _ (by intro e; have := congrArg Addr.block e; simp at this; omega)]
  exact hc
theorem Keeps.drewN {c q : Nat} {w w' : World} (h : Keeps c w w') : Keeps c w (w'.drewN q) := ⟨h.os, h.tape, h.output, h.size, h.block⟩
theorem Cur.drewN {c q : Nat} {w : World} (h : Cur w c) : Cur (w.drewN q) c := h

set_option maxRecDepth 100000 in
set_option maxHeartbeats 2000000 in
theorem l01Byte (c : Nat) (w : World) (hc : Cur w c) :
    Calls Tryz.prog 88 #[.pointer (some ⟨c, 0, none⟩)] w fun e w' => ∃ x : Int, e = .returned (.int .i64 x) ∧ 0 ≤ x ∧ x ≤ 255 ∧ Cur w' c ∧ Keeps c w w' := by
  obtain ⟨a, len, cap, i, h, hblk, hil, hlen, hcode⟩ := hc
  have c0 : w.cell? ⟨c, 0, none⟩ = some (.slice a len cap) := by rw [cell_of_row w c 0 _ _ (0, 0) hblk]; rfl
  have c1 : w.cell? ⟨c, 1, none⟩ = some (.int .i64 i) := by rw [cell_of_row w c 1 _ _ (0, 0) hblk]; rfl
  have c2 : w.cell? ⟨c, 2, none⟩ = some (.int .i64 h) := by rw [cell_of_row w c 2 _ _ (0, 0) hblk]; rfl
  have f1 : w.frozen? ⟨c, 1, none⟩ = false := by unfold World.frozen?; rw [hblk]; rfl
  have f2 : w.frozen? ⟨c, 2, none⟩ = false := by unfold World.frozen?; rw [hblk]; rfl
  have HB := hide hblk
  have HCODE := hide hcode
  clear hblk hcode
  by_cases hlt : i < len
  · obtain ⟨b, off, z, rfl, hbc, z0, z1, hz⟩ := unhide HCODE i hlt
    have hne : b ≠ c := by omega
    go_enter Tryz.func88, Tryz.ntmps88
    go_wp2_with fail
    generalize wrap64 (wrap64 (h * 6364136223846793005) + 1442695040888963407) = h'
    go_quiet (fail)
    go_wp2_with fail
    have hx := and255 (bits BinOp.xor IntKind.i64 (h' / 8589934592) (h' / 35184372088832))
    generalize bits BinOp.and IntKind.i64 (bits BinOp.xor IntKind.i64 (h' / 8589934592) (h' / 35184372088832)) 255 = x at *
    obtain ⟨hx0, hx1⟩ := hx
    go_quiet (fail)
    go_wp2_with fail
    go_quiet (fail)
    have hy := and255 (x + z)
    generalize bits BinOp.and IntKind.i64 (x + z) 255 = y at *
    obtain ⟨hy0, hy1⟩ := hy
    go_wp2
    go_ret
    refine ⟨y, rfl, hy0, hy1, ?_, ?_⟩
    · have := cur_after (i' := i + 1) (h' := h') (unhide HB) (by omega) hlen (unhide HCODE)
      simp only [Int.natCast_add, Int.natCast_one] at this
      first | exact this | exact this.drewN
    · first | exact ((Keeps.set _).trans (Keeps.set _)) | exact ((Keeps.set _).trans (Keeps.set _)).drewN
  · have hnlt : decide ((i : Int) < (len : Int)) = false := by simp; omega
    go_enter Tryz.func88, Tryz.ntmps88
    go_wp2_with fail
    generalize wrap64 (wrap64 (h * 6364136223846793005) + 1442695040888963407) = h'
    go_quiet (fail)
    go_wp2_with fail
    have hx := and255 (bits BinOp.xor IntKind.i64 (h' / 8589934592) (h' / 35184372088832))
    generalize bits BinOp.and IntKind.i64 (bits BinOp.xor IntKind.i64 (h' / 8589934592) (h' / 35184372088832)) 255 = x at *
    obtain ⟨hx0, hx1⟩ := hx
    go_quiet (fail)
    go_wp2
    go_ret
    refine ⟨x, rfl, hx0, hx1, ?_, ?_⟩
    · have := cur_after1 (h' := h') (unhide HB) hil hlen (unhide HCODE)
      first | exact this | exact this.drewN
    · first | exact Keeps.set _ | exact (Keeps.set _).drewN | exact (Keeps.set _).drewN.drewN

/-- A cursor drawn on: it stays one, and all else stays. -/
theorem Cur.keep_below {w w' : World} {c : Nat} (h : Cur w c) (hb : Below w.heap.size w w') : Cur w' c := h.below hb h.lt

set_option maxRecDepth 100000 in
set_option maxHeartbeats 1000000 in
theorem l01Below (c : Nat) (n : Int) (w : World) (hc : Cur w c) (hn : 0 < n) (hm : n ≤ 4000000000) :
    Calls Tryz.prog 63 #[.pointer (some ⟨c, 0, none⟩), .int .i64 n] w fun e w' => ∃ x : Int, e = .returned (.int .i64 x) ∧ 0 ≤ x ∧ x < n ∧ Cur w' c ∧ Keeps c w w' := by
  have HC := hide hc
  clear hc
  have hm1 : ∀ x : Int, 0 ≤ x → x % n < n := fun x _ => Int.emod_lt_of_pos x hn
  have hm2 : ∀ x : Int, 0 ≤ x % n := fun x => Int.emod_nonneg x (by omega)
  by_cases hs : n ≤ 256
  · have H1 := hide hm1
    have H2 := hide hm2
    clear hm1 hm2
    go_enter Tryz.func63, Tryz.ntmps63
    go_wp2_with (go_at_call 88; refine (l01Byte c _ (unhide HC)).mono ?_; rintro e w1 ⟨x, rfl, hx0, hx1, hc1, hk1⟩; have HC1 := hide hc1; clear hc1)
    go_ret
    exact ⟨_, rfl, unhide H2 _, unhide H1 _ hx0, unhide HC1, hk1⟩
  · have H1 := hide hm1
    have H2 := hide hm2
    clear hm1 hm2
    go_enter Tryz.func63, Tryz.ntmps63
    go_wp2_with fail
    refine (l01Byte c _ (unhide HC)).mono ?_
    rintro e w1 ⟨x, rfl, hx0, hx1, hc1, hk1⟩
    have HC1 := hide hc1
    clear hc1
    go_wp2_with fail
    refine (l01Byte c _ (unhide HC1)).mono ?_
    rintro e w2 ⟨y, rfl, hy0, hy1, hc2, hk2⟩
    have HC2 := hide hc2
    clear hc2
    go_wp2_with fail
    refine (l01Byte c _ (unhide HC2)).mono ?_
    rintro e w3 ⟨z, rfl, hz0, hz1, hc3, hk3⟩
    have HC3 := hide hc3
    clear hc3
    go_wp2_with fail
    refine (l01Byte c _ (unhide HC3)).mono ?_
    rintro e w4 ⟨t, rfl, ht0, ht1, hc4, hk4⟩
    have HC4 := hide hc4
    clear hc4
    go_wp2
    go_ret
    exact ⟨_, rfl, unhide H2 _, unhide H1 _ (by omega), unhide HC4, ((hk1.trans hk2).trans hk3).trans hk4⟩

set_option maxRecDepth 100000 in
set_option maxHeartbeats 1000000 in
theorem l01PickInt (c g cap : Nat) (zs : List Int) (w : World) (hc : Cur w c) (hne : g ≠ c) (hp : 0 < zs.length) (hm : zs.length ≤ 1000) (hcell : ∀ i (hi : i < zs.length), w.cell? ⟨g, i, none⟩ = some (.int .i64 zs[i])) (hgl : g < w.heap.size) :
    Calls Tryz.prog 65 #[.pointer (some ⟨c, 0, none⟩), .slice (some ⟨g, 0, none⟩) zs.length cap] w fun e w' => ∃ z : Int, e = .returned (.int .i64 z) ∧ z ∈ zs ∧ Cur w' c ∧ Keeps c w w' := by
  have HC := hide hc
  have HL := hide hcell
  clear hc hcell
  go_enter Tryz.func65, Tryz.ntmps65
  go_wp2_with fail
  refine (l01Below c _ _ (unhide HC) (by omega) (by omega)).mono ?_
  rintro e w1 ⟨x, rfl, hx0, hx1, hc1, hk1⟩
  obtain ⟨k, rfl⟩ := Int.eq_ofNat_of_zero_le hx0
  have hk : k < zs.length := by omega
  have hcell1 : w1.cell? ⟨g, k, none⟩ = some (.int .i64 zs[k]) := (World.cell?_of_block (w := w) (hk1.block g hgl hne)).trans (unhide HL k hk)
  have HC1 := hide hc1
  clear hc1
  go_wp2
  go_ret
  exact ⟨_, rfl, List.getElem_mem hk, unhide HC1, hk1⟩

set_option maxRecDepth 100000 in
set_option maxHeartbeats 1000000 in
theorem l01New (a : Option Addr) (len cap : Nat) (w : World) (hlen : len ≤ 1048576) (hcode : ∀ j < len, ∃ (b off : Nat) (z : Int), a = some ⟨b, off, none⟩ ∧ b < w.heap.size ∧ 0 ≤ z ∧ z ≤ 255 ∧ w.cell? ⟨b, off + j, none⟩ = some (.int .u8 z)) :
    Calls Tryz.prog 31 #[.slice a len cap] w fun e w' => e = .returned (.pointer (some ⟨w.heap.size, 0, none⟩)) ∧ Cur w' w.heap.size ∧ Below w.heap.size w w' := by
  have HCODE := hide hcode
  clear hcode
  go_enter Tryz.func31, Tryz.ntmps31
  go_wp2
  go_loop [3, 4] (fun h i => ∃ (k : Nat) (x : Int), k ≤ len ∧ i = .int .i64 k ∧ h = .int .i64 x) (fun _ i => len - (intOf i).toNat)
  case atStart => exact ⟨0, _, Nat.zero_le _, rfl, rfl⟩
  case round =>
    obtain ⟨k, x, hk, rfl, rfl⟩ := hrel
    by_cases hlt : k < len
    · obtain ⟨b, off, z, rfl, hb, z0, z1, hz⟩ := unhide HCODE k hlt
      by_cases h4 : k < 4000
      · go_wp2
        go_round
        case rel => exact ⟨k + 1, _, by omega, by go_num, rfl⟩
        case measure => simp [intOf]; omega
      · go_wp2
        go_ret
        refine ⟨rfl, ?_, (Below.refl _ _).alloc (Nat.le_refl _) _⟩
        exact ⟨_, len, cap, 0, x, heap_alloc_new w _, Nat.zero_le _, hlen, fun j hj => by
          obtain ⟨b', off', z', e, hb', z0', z1', hz'⟩ := unhide HCODE j hj
          exact ⟨b', off', z', e, hb', z0', z1', by rw [World.cell?_alloc_lt _ _ ⟨b', off' + j, none⟩ hb']; exact hz'⟩⟩
    · have hd : decide ((k : Int) < (len : Int)) = false := by simp; omega
      go_wp2
      go_ret
      refine ⟨rfl, ?_, (Below.refl _ _).alloc (Nat.le_refl _) _⟩
      exact ⟨_, len, cap, 0, x, heap_alloc_new w _, Nat.zero_le _, hlen, fun j hj => by
        obtain ⟨b', off', z', e, hb', z0', z1', hz'⟩ := unhide HCODE j hj
        exact ⟨b', off', z', e, hb', z0', z1', by rw [World.cell?_alloc_lt _ _ ⟨b', off' + j, none⟩ hb']; exact hz'⟩⟩

theorem lit_ints (w : World) (zs : List Int) (t : TypeId) (i : Nat) (hi : i < zs.length) : (w.alloc (.cells (zs.map (Value.int .i64)).toArray t)).cell? ⟨w.heap.size, i, none⟩ = some (.int .i64 zs[i]) := by
  rw [World.cell?_alloc_mark]; simp [hi]

theorem lit_strs (w : World) (xs : List ByteArray) (t : TypeId) (i : Nat) (hi : i < xs.length) : (w.alloc (.cells (xs.map Value.string).toArray t)).cell? ⟨w.heap.size, i, none⟩ = some (.string xs[i]) := by
  rw [World.cell?_alloc_mark]; simp [hi]

theorem keeps_new {c : Nat} {w : World} (o : Obj) : Keeps c w (w.alloc o) := Keeps.of_below ((Below.refl _ _).alloc (Nat.le_refl _) _)

theorem cur_new {c : Nat} {w : World} (h : Cur w c) (o : Obj) : Cur (w.alloc o) c := h.keep_below ((Below.refl _ _).alloc (Nat.le_refl _) _)

/-- What every draw is told of the code: its length, and that its bytes can be read. -/
def CodeOk (w : World) (a : Option Addr) (len : Nat) : Prop := len ≤ 1048576 ∧ ∀ j < len, ∃ (b off : Nat) (z : Int), a = some ⟨b, off, none⟩ ∧ b < w.heap.size ∧ 0 ≤ z ∧ z ≤ 255 ∧ w.cell? ⟨b, off + j, none⟩ = some (.int .u8 z)

theorem CodeOk.below {w w' : World} {a : Option Addr} {len : Nat} (h : CodeOk w a len) (hb : Below w.heap.size w w') : CodeOk w' a len := by
  refine ⟨h.1, fun j hj => ?_⟩
  obtain ⟨b, off, z, e, hbl, z0, z1, hc⟩ := h.2 j hj
  exact ⟨b, off, z, e, Nat.lt_of_lt_of_le hbl hb.size, z0, z1, by rw [hb.cell (p := ⟨b, off + j, none⟩) hbl]; exact hc⟩

theorem below_then_keeps {w w1 w2 : World} (h : Below w.heap.size w w1) (k : Keeps w.heap.size w1 w2) : Below w.heap.size w w2 := h.trans (k.below (Nat.le_refl _) h.size)

set_option maxRecDepth 100000 in
set_option maxHeartbeats 1000000 in
theorem l01Pick (c g cap : Nat) (xs : List ByteArray) (w : World) (hc : Cur w c) (hne : g ≠ c) (hp : 0 < xs.length) (hm : xs.length ≤ 1000) (hcell : ∀ i (hi : i < xs.length), w.cell? ⟨g, i, none⟩ = some (.string xs[i])) (hgl : g < w.heap.size) :
    Calls Tryz.prog 64 #[.pointer (some ⟨c, 0, none⟩), .slice (some ⟨g, 0, none⟩) xs.length cap] w fun e w' => ∃ x : ByteArray, e = .returned (.string x) ∧ x ∈ xs ∧ Cur w' c ∧ Keeps c w w' := by
  have HC := hide hc
  have HL := hide hcell
  clear hc hcell
  go_enter Tryz.func64, Tryz.ntmps64
  go_wp2_with fail
  refine (l01Below c _ _ (unhide HC) (by omega) (by omega)).mono ?_
  rintro e w1 ⟨x, rfl, hx0, hx1, hc1, hk1⟩
  obtain ⟨k, rfl⟩ := Int.eq_ofNat_of_zero_le hx0
  have hk : k < xs.length := by omega
  have hcell1 : w1.cell? ⟨g, k, none⟩ = some (.string xs[k]) := (World.cell?_of_block (w := w) (hk1.block g hgl hne)).trans (unhide HL k hk)
  have HC1 := hide hc1
  clear hc1
  go_wp2
  go_ret
  exact ⟨_, rfl, List.getElem_mem hk, unhide HC1, hk1⟩

theorem infoU8d : (Tryz.prog.info? 5).map (fun i => (i.zero, i.size, i.bytes)) = some (some (.int .u8 0), 1, 1) := by kernel_rfl

theorem Keeps.grown {c : Nat} {w w' : World} (h : Keeps c w w') : w.grownBy w' (some c) := ⟨h.os, h.tape, h.output, h.size, fun k hk hne => h.block k hk (fun e => hne (by rw [e]))⟩

theorem own_keeps {w w' : World} {base c : Nat} {e : TypeId} {v : Value} {n : Nat} {xs : List Value} (h : w.ownsRow base e 1 v n xs) (hk : Keeps c w w') (hc : c < base) : w'.ownsRow base e 1 v n xs := by
  apply h.kept hk.grown
  cases hv : v.ownBlock with
  | none => exact .inl rfl
  | some k =>
    right
    intro e'
    have := (h.lt k hv).1
    cases e'
    omega

/-- Behind calls that turn the cursor, and append to a row of the call's own, all but the cursor's block is as it was. -/
theorem keeps_append {w wr w1 : World} {c : Nat} {e : TypeId} {v : Value} {n : Nat} {xs : List Value} {o : Obj} (hk : Keeps c w wr) (hown : wr.ownsRow w.heap.size e 1 v n xs) (hg : (wr.alloc o).grownBy w1 v.ownBlock) : Keeps c w w1 := by
  refine ⟨hg.os.trans hk.os, hg.tape.trans hk.tape, hg.output.trans hk.output, by have h1 := hg.size; have h2 := hk.size; simp at h1; omega, fun k hkl hne => ?_⟩
  have hs := hk.size
  rw [hg.block k (by simp; omega) (fun e' => by have := (hown.lt k e'.symm).1; omega), Below.heap_alloc _ _ _ (by omega)]
  exact hk.block k hkl hne

theorem cur_append {w wr w1 : World} {c : Nat} {e : TypeId} {v : Value} {n : Nat} {xs : List Value} {o : Obj} (hc : Cur wr c) (hcl : c < w.heap.size) (hs : w.heap.size ≤ wr.heap.size) (hown : wr.ownsRow w.heap.size e 1 v n xs) (hg : (wr.alloc o).grownBy w1 v.ownBlock) : Cur w1 c := by
  refine hc.below (B := w.heap.size) ?_ hcl
  exact ((Below.refl _ _).alloc hs o).grown hg (by simp; omega) (fun k hk => (hown.lt k hk).1)

set_option maxRecDepth 100000 in
set_option maxHeartbeats 2000000 in
theorem l01Bytes (c : Nat) (n : Nat) (w : World) (hc : Cur w c) (hm : n ≤ 2000) :
    Calls Tryz.prog 69 #[.pointer (some ⟨c, 0, none⟩), .int .i64 n] w fun e w' => ∃ t : ByteArray, e = .returned (.string t) ∧ t.size = n ∧ Cur w' c ∧ Keeps c w w' := by
  obtain ⟨i0, hi, hz0, hz1, hz2⟩ := info_parts infoU8d
  have hcl := hc.lt
  have HC := hide hc
  clear hc
  go_enter Tryz.func69, Tryz.ntmps69
  go_wp2
  go_loopw [5, 6] (fun v i wr => ∃ (k : Nat) (l : List UInt8), k ≤ n ∧ l.length = k ∧ i = .int .i64 k ∧ wr.ownsRow w.heap.size 5 1 v l.length (l.map bv) ∧ Cur wr c ∧ Keeps c w wr) (fun _ i _ => n - (intOf i).toNat)
  case atStart => exact ⟨0, [], Nat.zero_le _, rfl, rfl, World.ownsRow_lit _ #[] 0 (Nat.le_refl _) (by decide) rfl, (unhide HC).keep_below ((Below.refl _ _).alloc (Nat.le_refl _) _), Keeps.of_below ((Below.refl _ _).alloc (Nat.le_refl _) _)⟩
  case round =>
    obtain ⟨k, l, hk, hl, rfl, hown, hcr, hkr⟩ := hrel
    have HL := hide hl
    have HCR := hide hcr
    have HKR := hide hkr
    have HO := hide hown
    have hll : l.length ≤ 2000 := by omega
    clear hl hcr hkr hown
    by_cases hlt : k < n
    · go_wp2_with fail
      refine (l01Below c 256 _ (unhide HCR) (by omega) (by omega)).mono ?_
      rintro e w1 ⟨x, rfl, hx0, hx1, hc1, hk1⟩
      obtain ⟨b, hb⟩ : ∃ b : UInt8, x = b.toNat := ⟨UInt8.ofNat x.toNat, by rw [Mth.toNat_byte _ (by omega)]; omega⟩
      have hown1 := own_keeps (unhide HO) hk1 hcl
      have HC1 := hide hc1
      have HK1 := hide ((unhide HKR).trans hk1)
      have hsz1 : w.heap.size ≤ w1.heap.size := (unhide HK1).size
      have HB := hide hb
      clear hc1 hk1 hb
      go_wp2_with (at_builtin; refine wpList_append_own _ rfl _ _ 30 rfl w.heap.size 5 i0 (.int .u8 0) 1 1 Tryz.underlying30 hi hz0 hz1 hz2 rfl (by decide) _ _ _ rfl (hown1.alloc _) ⟨w1.heap.size, 0, none⟩ 1 1 [.int .u8 x] rfl rfl ?c1 ?c2 ?c3 ?c4 ?c5 ?_)
      case c1 => exact cell_one_new _ _ _
      case c2 => intro u hu; simp at hu; subst hu; rfl
      case c3 => unfold maxLen; omega
      case c4 => omega
      case c5 => simp; omega
      intro v' w2 hown' hgrow _
      have HK2 := hide (keeps_append (unhide HK1) hown1 hgrow)
      have HC2 := hide (cur_append (unhide HC1) hcl hsz1 hown1 hgrow)
      have HO2 := hide (own_snoc b (unhide HB) hown')
      clear hown' hgrow hown1
      go_wp2
      go_roundw
      case rel => exact ⟨k + 1, l ++ [b], by omega, by have := unhide HL; simp; omega, by go_num, unhide HO2, unhide HC2, unhide HK2⟩
      case measure => simp [intOf]; omega
    · have hconv := conv_owned 30 9 Tryz.underlying30 Tryz.underlying5 Tryz.underlying9 (unhide HO)
      go_wp2
      go_ret
      exact ⟨_, rfl, by rw [size_of_list, unhide HL]; omega, unhide HCR, unhide HKR⟩
namespace GR
open Go.RowKit

section
variable {α : Type} (enc : α → List Value) (sz : Nat)

/-- The cells of a row. -/
def flat (l : List α) : List Value := l.flatMap enc
theorem flat_cons (x : α) (r : List α) : flat enc (x :: r) = enc x ++ flat enc r := rfl
theorem flat_append (l r : List α) : flat enc (l ++ r) = flat enc l ++ flat enc r := by simp [flat]
theorem flat_one (x : α) : flat enc [x] = enc x := by simp [flat]
theorem flat_length (h : ∀ x, (enc x).length = sz) (l : List α) : (flat enc l).length = l.length * sz := by
  induction l with
  | nil => simp [flat]
  | cons x r ih => rw [flat_cons, List.length_append, ih, h, List.length_cons, Nat.add_mul, Nat.one_mul, Nat.add_comm]
theorem flat_at (h : ∀ x, (enc x).length = sz) : ∀ (l : List α) (i : Nat) (hi : i < l.length) (j : Nat), j < sz → (flat enc l)[i * sz + j]? = (enc l[i])[j]? := by
  intro l
  induction l with
  | nil => intro i hi; simp at hi
  | cons x r ih =>
    intro i hi j hj
    rw [flat_cons]
    cases i with
    | zero =>
      rw [Nat.zero_mul, Nat.zero_add, List.getElem?_append_left (by rw [h]; exact hj)]
      rfl
    | succ i =>
      have e : (i + 1) * sz + j = sz + (i * sz + j) := by rw [Nat.add_mul, Nat.one_mul]; omega
      rw [List.getElem?_append_right (by rw [h]; omega), h, e, Nat.add_sub_cancel_left, ih i (by simpa using hi) j hj]
      rfl
/-- A run of cells written over. -/
def setRun (xs : List Value) (o : Nat) : List Value → List Value
  | [] => xs
  | v :: vs => setRun (xs.set o v) (o + 1) vs
theorem setRun_append_right (a : List Value) : ∀ (vs : List Value) (o : Nat) (b : List Value), setRun (a ++ b) (a.length + o) vs = a ++ setRun b o vs := by
  intro vs
  induction vs with
  | nil => intro o b; rfl
  | cons v vs ih =>
    intro o b
    show setRun ((a ++ b).set (a.length + o) v) (a.length + o + 1) vs = a ++ setRun (b.set o v) (o + 1) vs
    rw [List.set_append_right _ _ (by omega), Nat.add_sub_cancel_left, Nat.add_assoc, ih]
theorem setRun_head : ∀ (vs a b : List Value), vs.length = a.length → setRun (a ++ b) 0 vs = vs ++ b := by
  intro vs
  induction vs with
  | nil => intro a b h; have : a = [] := List.eq_nil_of_length_eq_zero (by simpa using h.symm); subst this; rfl
  | cons v vs ih =>
    intro a b h
    cases a with
    | nil => simp at h
    | cons y a =>
      show setRun (((y :: a) ++ b).set 0 v) (0 + 1) vs = v :: vs ++ b
      have e : ((y :: a) ++ b).set 0 v = [v] ++ (a ++ b) := rfl
      rw [e, Nat.zero_add]
      have h2 := setRun_append_right [v] vs 0 (a ++ b)
      simp only [List.length_singleton, Nat.add_zero] at h2
      rw [h2, ih a b (by simpa using h)]
      rfl
theorem flat_set (h : ∀ x, (enc x).length = sz) : ∀ (l : List α) (i : Nat) (x : α), i < l.length → setRun (flat enc l) (i * sz) (enc x) = flat enc (l.set i x) := by
  intro l
  induction l with
  | nil => intro i x hi; simp at hi
  | cons y r ih =>
    intro i x hi
    cases i with
    | zero =>
      rw [Nat.zero_mul, flat_cons, setRun_head _ _ _ (by rw [h, h])]
      rfl
    | succ i =>
      have e : (i + 1) * sz = (enc y).length + i * sz := by rw [h, Nat.add_mul, Nat.one_mul, Nat.add_comm]
      rw [flat_cons, e, setRun_append_right _, ih i x (by simpa using hi)]
      rfl

/-- A slice of structs, as it lies. -/
def At (w : World) (a : Option Addr) (l : List α) : Prop := ∀ i (hi : i < l.length), ∃ g off, a = some ⟨g, off, none⟩ ∧ g < w.heap.size ∧ ∀ j, j < sz → w.cell? ⟨g, off + (i * sz + j), none⟩ = (enc l[i])[j]?
theorem At.below {enc : α → List Value} {sz : Nat} {w w' : World} {a : Option Addr} {l : List α} (h : At enc sz w a l) (hb : Below w.heap.size w w') : At enc sz w' a l := fun i hi => by
  obtain ⟨g, off, e, hg, hc⟩ := h i hi
  exact ⟨g, off, e, Nat.lt_of_lt_of_le hg hb.size, fun j hj => (hb.cell (p := ⟨g, off + (i * sz + j), none⟩) hg).trans (hc j hj)⟩
/-- A block that holds just these structs. -/
def Blk (t : TypeId) (w : World) (g : Nat) (l : List α) : Prop := w.heap[g]? = some (.cells (flat enc l).toArray t (0, 0))
theorem Blk.cell {enc : α → List Value} {sz : Nat} {t : TypeId} {w : World} {g : Nat} {l : List α} (h : Blk enc t w g l) (hs : ∀ x, (enc x).length = sz) (i : Nat) (hi : i < l.length) (j : Nat) (hj : j < sz) : w.cell? ⟨g, i * sz + j, none⟩ = (enc l[i])[j]? := by
  rw [cell_of_row w g _ _ t (0, 0) h]
  simpa using flat_at enc sz hs l i hi j hj
theorem Blk.free {enc : α → List Value} {t : TypeId} {w : World} {g : Nat} {l : List α} (h : Blk enc t w g l) (i : Nat) : w.frozen? ⟨g, i, none⟩ = false := by
  unfold World.frozen?; rw [h]; simp
theorem Blk.lt {enc : α → List Value} {t : TypeId} {w : World} {g : Nat} {l : List α} (h : Blk enc t w g l) : g < w.heap.size := by
  rcases Nat.lt_or_ge g w.heap.size with h' | h'
  · exact h'
  · rw [Blk, Array.getElem?_eq_none h'] at h; cases h
theorem Blk.at {enc : α → List Value} {sz : Nat} {t : TypeId} {w : World} {g : Nat} {l : List α} (h : Blk enc t w g l) (hs : ∀ x, (enc x).length = sz) : At enc sz w (some ⟨g, 0, none⟩) l := fun i hi =>
  ⟨g, 0, rfl, h.lt, fun j hj => by rw [Nat.zero_add]; exact h.cell hs i hi j hj⟩
/-- The world with a run of cells written over. -/
def setW (w : World) (g o : Nat) : List Value → World
  | [] => w
  | v :: vs => setW (w.setCell ⟨g, o, none⟩ v) g (o + 1) vs
theorem setW_blk : ∀ (vs : List Value) {w : World} {g o : Nat} {xs : List Value} {t : TypeId}, w.heap[g]? = some (.cells xs.toArray t (0, 0)) → (setW w g o vs).heap[g]? = some (.cells (setRun xs o vs).toArray t (0, 0)) := by
  intro vs
  induction vs with
  | nil => intro w g o xs t h; exact h
  | cons v vs ih =>
    intro w g o xs t h
    refine ih (xs := xs.set o v) ?_
    unfold World.setCell
    simp only [Array.getElem?_modify]
    rw [if_pos trivial, h]
    simp
theorem Blk.set {enc : α → List Value} {sz : Nat} {t : TypeId} {w : World} {g : Nat} {l : List α} (h : Blk enc t w g l) (hs : ∀ x, (enc x).length = sz) (i : Nat) (hi : i < l.length) (x : α) : Blk enc t (setW w g (i * sz) (enc x)) g (l.set i x) := by
  have h2 := setW_blk (enc x) (o := i * sz) h
  rw [flat_set enc sz hs l i x hi] at h2
  exact h2
theorem setW_below {B : Nat} {a : World} {g : Nat} (hg : B ≤ g) : ∀ (vs : List Value) {w : World} {o : Nat}, Below B a w → Below B a (setW w g o vs) := by
  intro vs
  induction vs with
  | nil => intro w o h; exact h
  | cons v vs ih => intro w o h; exact ih (h.setCell (p := ⟨g, o, none⟩) hg v)
/-- A row of the call's own. -/
theorem own_at {enc : α → List Value} {sz : Nat} {w : World} {base : Nat} {e : TypeId} {v : Value} {l : List α} (hs : ∀ x, (enc x).length = sz) (h : w.ownsRow base e sz v l.length (flat enc l)) : ∃ a cap, v = .slice a l.length cap ∧ At enc sz w a l := by
  rcases h.2 with ⟨rfl, hn⟩ | ⟨g, cap, cur, rfl, hg, hblk, _⟩
  · exact ⟨none, 0, by rw [hn], fun i hi => by omega⟩
  · refine ⟨_, cap, rfl, fun i hi => ⟨g, 0, rfl, ?_, fun j hj => ?_⟩⟩
    · rcases Nat.lt_or_ge g w.heap.size with h' | h'
      · exact h'
      · rw [Array.getElem?_eq_none h'] at hblk; cases hblk
    · have hf := flat_at enc sz hs l i hi j hj
      have hj' : j < (enc l[i]).length := by rw [hs]; exact hj
      rw [List.getElem?_eq_getElem hj'] at hf ⊢
      have := h.cells rfl (i * sz + j) _ hf
      have ea : (⟨g, 0, none⟩ : Addr).add (i * sz + j) = ⟨g, 0 + (i * sz + j), none⟩ := by unfold Addr.add; split <;> simp_all
      rw [ea] at this
      exact this
end
end GR
end Go.Proofs.YtikdkijggejnfaaGreatDoor
