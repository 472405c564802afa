/-
  Texts of ours in one, so that the claim keeps to its count: Keeps, Cur, Draw, DrawP, DrawBase, DrawPick, Draw2, DrawMg, DrawMg2, CodeRow.
-/
import Derived.Test.YtlopllgioobcjaaGreatDoorBase
import Derived.OneCell
import Derived.Deep.Draws
import Derived.Deep.QuietTactic
import Derived.BigQuiet
import Derived.Laws.Bits64b
import Derived.Test.YtlopllgioobcjaaGreatDoorBytes
import Derived.Test.YtlopllgioobcjaaGreatDoorSevens
import Derived.Deep.DeepCutAuto
import Derived.Deep.CutBlock
import Derived.Test.YtlopllgioobcjaaGreatDoorMgFrS
import Derived.Laws.DeepStrings4
import Derived.OpenShut
namespace Go.Proofs.YtlopllgioobcjaaGreatDoor
open Go.RowKit

/-- A block that holds just these texts. -/
def strBlock (w : World) (g : Nat) (xs : List ByteArray) : Prop := w.heap[g]? = some (.cells (xs.map Value.string).toArray 9 (0, 0))
theorem strBlock.cell {w : World} {g : Nat} {xs : List ByteArray} (h : strBlock w g xs) (i : Nat) (hi : i < xs.length) : w.cell? ⟨g, i, none⟩ = some (.string xs[i]) := by
  rw [cell_of_row w g i _ 9 (0, 0) h]; simp [hi]
theorem strBlock.free {w : World} {g : Nat} {xs : List ByteArray} (h : strBlock w g xs) (i : Nat) : w.frozen? ⟨g, i, none⟩ = false := by
  unfold World.frozen?; rw [h]; simp
theorem strBlock.lt {w : World} {g : Nat} {xs : List ByteArray} (h : strBlock w g xs) : g < w.heap.size := by
  rcases Nat.lt_or_ge g w.heap.size with h' | h'
  · exact h'
  · rw [strBlock, Array.getElem?_eq_none h'] at h; cases h
theorem strBlock.below {w w' : World} {g B : Nat} {xs : List ByteArray} (h : strBlock w g xs) (hb : Below B w w') (hg : g < B) : strBlock w' g xs := by
  unfold strBlock; rw [hb.block g hg]; exact h
theorem strBlock.set {w : World} {g : Nat} {xs : List ByteArray} (h : strBlock w g xs) (i : Nat) (t : ByteArray) : strBlock (w.setCell ⟨g, i, none⟩ (.string t)) g (xs.set i t) := by
  unfold strBlock World.setCell
  simp only [Array.getElem?_modify]
  rw [if_pos trivial, h]
  simp

/-- All but one block reads as before; new blocks may lie behind. -/
structure Keeps (g : Nat) (w w' : World) : Prop where
  os : w'.os = w.os
  tape : w'.tape = w.tape
  output : w'.output = w.output
  size : w.heap.size ≤ w'.heap.size
  block : ∀ k, k < w.heap.size → k ≠ g → w'.heap[k]? = w.heap[k]?
theorem Keeps.refl (g : Nat) (w : World) : Keeps g w w := ⟨rfl, rfl, rfl, Nat.le_refl _, fun _ _ _ => rfl⟩
theorem Keeps.trans {g : Nat} {a b c : World} (h : Keeps g a b) (k : Keeps g b c) : Keeps g a c :=
  ⟨k.os.trans h.os, k.tape.trans h.tape, k.output.trans h.output, Nat.le_trans h.size k.size, fun i hi hg => (k.block i (Nat.lt_of_lt_of_le hi h.size) hg).trans (h.block i hi hg)⟩
theorem Keeps.of_below {g : Nat} {w w' : World} (h : Below w.heap.size w w') : Keeps g w w' := ⟨h.os, h.tape, h.output, h.size, fun k hk _ => h.block k hk⟩
theorem Keeps.set {g i : Nat} {w : World} (v : Value) : Keeps g w (w.setCell ⟨g, i, none⟩ v) :=
  ⟨rfl, rfl, rfl, by simp [World.setCell], fun k _ hg => Below.heap_setCell _ _ _ _ hg⟩
theorem Keeps.below {g B : Nat} {w w' : World} (h : Keeps g w w') (hB : B ≤ g) (hs : B ≤ w.heap.size) : Below B w w' := ⟨h.os, h.tape, h.output, h.size, fun k hk => h.block k (by omega) (by omega)⟩
theorem strBlock.keeps {w w' : World} {g g' : Nat} {xs : List ByteArray} (h : strBlock w g' xs) (hk : Keeps g w w') (hne : g' ≠ g) : strBlock w' g' xs := by
  unfold strBlock; rw [hk.block g' h.lt hne]; exact h

theorem below_of_drewN {B q : Nat} {w w' : World} (h : Below B (w.drewN q) w') : Below B w w' := ⟨h.os, h.tape, h.output, h.size, h.block⟩
end Go.Proofs.YtlopllgioobcjaaGreatDoor
namespace Go.Proofs.YtlopllgioobcjaaGreatDoor
open Go.RowKit

theorem and255 (y : Int) : 0 ≤ bits .and .i64 y 255 ∧ bits .and .i64 y 255 ≤ 255 := by
  have h : bits .and .i64 y 255 = IntKind.i64.wrap ((BitVec.ofInt 64 y &&& BitVec.ofInt 64 255).toNat : Int) := rfl
  have h2 : (BitVec.ofInt 64 y &&& BitVec.ofInt 64 255).toNat ≤ 255 := by
    rw [BitVec.toNat_and]
    exact Nat.le_trans Nat.and_le_right (by decide)
  rw [h, IntWalk.i64_in _ ⟨by omega, by omega⟩]
  omega

/-- A cursor in block c: over a code that lies ahead of it. -/
def Cur (w : World) (c : Nat) : Prop :=
  ∃ (a : Option Addr) (len cap i : Nat) (h : Int), w.heap[c]? = some (.cells #[.slice a len cap, .int .i64 i, .int .i64 h] 64 (0, 0)) ∧ i ≤ len ∧ len ≤ 1048576 ∧
    (∀ j < len, ∃ (b off : Nat) (z : Int), a = some ⟨b, off, none⟩ ∧ b < c ∧ 0 ≤ z ∧ z ≤ 255 ∧ w.cell? ⟨b, off + j, none⟩ = some (.int .u8 z))
theorem Cur.lt {w : World} {c : Nat} (h : Cur w c) : c < w.heap.size := by
  obtain ⟨a, len, cap, i, hh, hb, _⟩ := h
  rcases Nat.lt_or_ge c w.heap.size with h' | h'
  · exact h'
  · rw [Array.getElem?_eq_none h'] at hb; cases hb
/-- It stays while nothing up to its block turns. -/
theorem Cur.below {w w' : World} {c B : Nat} (h : Cur w c) (hb : Below B w w') (hB : c < B) : Cur w' c := by
  obtain ⟨a, len, cap, i, hh, hblk, h1, h2, h3⟩ := h
  refine ⟨a, len, cap, i, hh, by rw [hb.block c hB]; exact hblk, h1, h2, fun j hj => ?_⟩
  obtain ⟨b, off, z, e, hbc, z0, z1, hc⟩ := h3 j hj
  exact ⟨b, off, z, e, hbc, z0, z1, by rw [hb.cell (p := ⟨b, off + j, none⟩) (show b < B by omega)]; exact hc⟩

/-- A block written over. -/
theorem block_set {w : World} {c : Nat} {cs : Array Value} {t : TypeId} (h : w.heap[c]? = some (.cells cs t (0, 0))) (i : Nat) (v : Value) : (w.setCell ⟨c, i, none⟩ v).heap[c]? = some (.cells (cs.setIfInBounds i v) t (0, 0)) := by
  unfold World.setCell
  simp only [Array.getElem?_modify]
  rw [if_pos trivial, h]
  rfl

/-- The cursor behind a draw. -/
theorem cur_after {w : World} {a : Option Addr} {c len cap i i' : Nat} {h h' : Int} (hblk : w.heap[c]? = some (.cells #[.slice a len cap, .int .i64 i, .int .i64 h] 64 (0, 0))) (hi : i' ≤ len) (hlen : len ≤ 1048576)
    (hcode : ∀ j < len, ∃ (b off : Nat) (z : Int), a = some ⟨b, off, none⟩ ∧ b < c ∧ 0 ≤ z ∧ z ≤ 255 ∧ w.cell? ⟨b, off + j, none⟩ = some (.int .u8 z)) :
    Cur ((w.setCell ⟨c, 2, none⟩ (.int .i64 h')).setCell ⟨c, 1, none⟩ (.int .i64 (i' : Int))) c := by
  have h1 := block_set (block_set hblk 2 (.int .i64 h')) 1 (.int .i64 (i' : Int))
  refine ⟨a, len, cap, i', h', by simpa using h1, hi, hlen, fun j hj => ?_⟩
  obtain ⟨b, off, z, e, hbc, z0, z1, hc⟩ := hcode j hj
  refine ⟨b, off, z, e, hbc, z0, z1, ?_⟩
  rw [World.cell?_setCell_other _ _ _ _ (by intro e; have := congrArg Addr.block e; simp at this; omega), World.cell?_setCell_other _ _ _ _ (by intro e; have := congrArg Addr.block e; simp at this; omega)]
  exact hc
theorem cur_after1 {w : World} {a : Option Addr} {c len cap i : Nat} {h h' : Int} (hblk : w.heap[c]? = some (.cells #[.slice a len cap, .int .i64 i, .int .i64 h] 64 (0, 0))) (hi : i ≤ len) (hlen : len ≤ 1048576)
    (hcode : ∀ j < len, ∃ (b off : Nat) (z : Int), a = some ⟨b, off, none⟩ ∧ b < c ∧ 0 ≤ z ∧ z ≤ 255 ∧ w.cell? ⟨b, off + j, none⟩ = some (.int .u8 z)) :
    Cur (w.setCell ⟨c, 2, none⟩ (.int .i64 h')) c := by
  have h1 := block_set hblk 2 (.int .i64 h')
  refine ⟨a, len, cap, i, h', by simpa using h1, hi, hlen, fun j hj => ?_⟩
  obtain ⟨b, off, z, e, hbc, z0, z1, hc⟩ := hcode j hj
  refine ⟨b, off, z, e, hbc, z0, z1, ?_⟩
  rw [World.cell?_setCell_other _ _ _ _ (by intro e; have := congrArg Addr.block e; simp at this; omega)]
  exact hc
theorem Keeps.drewN {c q : Nat} {w w' : World} (h : Keeps c w w') : Keeps c w (w'.drewN q) := ⟨h.os, h.tape, h.output, h.size, h.block⟩
theorem Cur.drewN {c q : Nat} {w : World} (h : Cur w c) : Cur (w.drewN q) c := h

set_option maxRecDepth 100000 in
set_option maxHeartbeats 2000000 in
theorem l01Byte (c : Nat) (w : World) (hc : Cur w c) :
    Calls Tryz.prog 58 #[.pointer (some ⟨c, 0, none⟩)] w fun e w' => ∃ x : Int, e = .returned (.int .i64 x) ∧ 0 ≤ x ∧ x ≤ 255 ∧ Cur w' c ∧ Keeps c w w' := by
  obtain ⟨a, len, cap, i, h, hblk, hil, hlen, hcode⟩ := hc
  have c0 : w.cell? ⟨c, 0, none⟩ = some (.slice a len cap) := by rw [cell_of_row w c 0 _ _ (0, 0) hblk]; rfl
  have c1 : w.cell? ⟨c, 1, none⟩ = some (.int .i64 i) := by rw [cell_of_row w c 1 _ _ (0, 0) hblk]; rfl
  have c2 : w.cell? ⟨c, 2, none⟩ = some (.int .i64 h) := by rw [cell_of_row w c 2 _ _ (0, 0) hblk]; rfl
  have f1 : w.frozen? ⟨c, 1, none⟩ = false := by unfold World.frozen?; rw [hblk]; rfl
  have f2 : w.frozen? ⟨c, 2, none⟩ = false := by unfold World.frozen?; rw [hblk]; rfl
  have HB := hide hblk
  have HCODE := hide hcode
  clear hblk hcode
  by_cases hlt : i < len
  · obtain ⟨b, off, z, rfl, hbc, z0, z1, hz⟩ := unhide HCODE i hlt
    have hne : b ≠ c := by omega
    go_enter Tryz.func58, Tryz.ntmps58
    go_wp2_with fail
    generalize wrap64 (wrap64 (h * 6364136223846793005) + 1442695040888963407) = h'
    go_quiet (fail)
    go_wp2_with fail
    have hx := and255 (bits BinOp.xor IntKind.i64 (h' / 8589934592) (h' / 35184372088832))
    generalize bits BinOp.and IntKind.i64 (bits BinOp.xor IntKind.i64 (h' / 8589934592) (h' / 35184372088832)) 255 = x at *
    obtain ⟨hx0, hx1⟩ := hx
    go_quiet (fail)
    go_wp2_with fail
    go_quiet (fail)
    have hy := and255 (x + z)
    generalize bits BinOp.and IntKind.i64 (x + z) 255 = y at *
    obtain ⟨hy0, hy1⟩ := hy
    go_wp2
    go_ret
    refine ⟨y, rfl, hy0, hy1, ?_, ?_⟩
    · have := cur_after (i' := i + 1) (h' := h') (unhide HB) (by omega) hlen (unhide HCODE)
      simp only [Int.natCast_add, Int.natCast_one] at this
      first | exact this | exact this.drewN
    · first | exact ((Keeps.set _).trans (Keeps.set _)) | exact ((Keeps.set _).trans (Keeps.set _)).drewN
  · have hnlt : decide ((i : Int) < (len : Int)) = false := by simp; omega
    go_enter Tryz.func58, Tryz.ntmps58
    go_wp2_with fail
    generalize wrap64 (wrap64 (h * 6364136223846793005) + 1442695040888963407) = h'
    go_quiet (fail)
    go_wp2_with fail
    have hx := and255 (bits BinOp.xor IntKind.i64 (h' / 8589934592) (h' / 35184372088832))
    generalize bits BinOp.and IntKind.i64 (bits BinOp.xor IntKind.i64 (h' / 8589934592) (h' / 35184372088832)) 255 = x at *
    obtain ⟨hx0, hx1⟩ := hx
    go_quiet (fail)
    go_wp2
    go_ret
    refine ⟨x, rfl, hx0, hx1, ?_, ?_⟩
    · have := cur_after1 (h' := h') (unhide HB) hil hlen (unhide HCODE)
      first | exact this | exact this.drewN
    · first | exact Keeps.set _ | exact (Keeps.set _).drewN | exact (Keeps.set _).drewN.drewN
end Go.Proofs.YtlopllgioobcjaaGreatDoor
namespace Go.Proofs.YtlopllgioobcjaaGreatDoor
open Go.RowKit

/-- A cursor drawn on: it stays one, and all else stays. -/
theorem Cur.keep_below {w w' : World} {c : Nat} (h : Cur w c) (hb : Below w.heap.size w w') : Cur w' c := h.below hb h.lt

theorem l01Below_none (c : Nat) (n : Int) (w : World) (hn : n ≤ 0) : Calls Tryz.prog 45 #[.pointer (some ⟨c, 0, none⟩), .int .i64 n] w fun e w' => e = .returned (.int .i64 0) ∧ w = w' := by
  go_enter Tryz.func45, Tryz.ntmps45
  go_wp2
  go_ret
  exact ⟨rfl, rfl⟩

set_option maxRecDepth 100000 in
set_option maxHeartbeats 1000000 in
theorem l01Below (c : Nat) (n : Int) (w : World) (hc : Cur w c) (hn : 0 < n) (hm : n ≤ 4000000000) :
    Calls Tryz.prog 45 #[.pointer (some ⟨c, 0, none⟩), .int .i64 n] w fun e w' => ∃ x : Int, e = .returned (.int .i64 x) ∧ 0 ≤ x ∧ x < n ∧ Cur w' c ∧ Keeps c w w' := by
  have HC := hide hc
  clear hc
  have hm1 : ∀ x : Int, 0 ≤ x → x % n < n := fun x _ => Int.emod_lt_of_pos x hn
  have hm2 : ∀ x : Int, 0 ≤ x % n := fun x => Int.emod_nonneg x (by omega)
  by_cases hs : n ≤ 256
  · have H1 := hide hm1
    have H2 := hide hm2
    clear hm1 hm2
    go_enter Tryz.func45, Tryz.ntmps45
    go_wp2_with (go_at_call 58; refine (l01Byte c _ (unhide HC)).mono ?_; rintro e w1 ⟨x, rfl, hx0, hx1, hc1, hk1⟩; have HC1 := hide hc1; clear hc1)
    go_ret
    exact ⟨_, rfl, unhide H2 _, unhide H1 _ hx0, unhide HC1, hk1⟩
  · have H1 := hide hm1
    have H2 := hide hm2
    clear hm1 hm2
    go_enter Tryz.func45, Tryz.ntmps45
    go_wp2_with fail
    refine (l01Byte c _ (unhide HC)).mono ?_
    rintro e w1 ⟨x, rfl, hx0, hx1, hc1, hk1⟩
    have HC1 := hide hc1
    clear hc1
    go_wp2_with fail
    refine (l01Byte c _ (unhide HC1)).mono ?_
    rintro e w2 ⟨y, rfl, hy0, hy1, hc2, hk2⟩
    have HC2 := hide hc2
    clear hc2
    go_wp2_with fail
    refine (l01Byte c _ (unhide HC2)).mono ?_
    rintro e w3 ⟨z, rfl, hz0, hz1, hc3, hk3⟩
    have HC3 := hide hc3
    clear hc3
    go_wp2_with fail
    refine (l01Byte c _ (unhide HC3)).mono ?_
    rintro e w4 ⟨t, rfl, ht0, ht1, hc4, hk4⟩
    have HC4 := hide hc4
    clear hc4
    go_wp2
    go_ret
    exact ⟨_, rfl, unhide H2 _, unhide H1 _ (by omega), unhide HC4, ((hk1.trans hk2).trans hk3).trans hk4⟩
end Go.Proofs.YtlopllgioobcjaaGreatDoor
namespace Go.Proofs.YtlopllgioobcjaaGreatDoor
open Go.RowKit

set_option maxRecDepth 100000 in
set_option maxHeartbeats 1000000 in
theorem l01Once (c : Nat) (n : Int) (w : World) (hc : Cur w c) (hn : 0 < n) (hm : n ≤ 4000000000) :
    Calls Tryz.prog 59 #[.pointer (some ⟨c, 0, none⟩), .int .i64 n] w fun e w' => ∃ b : Bool, e = .returned (.bool b) ∧ Cur w' c ∧ Keeps c w w' := by
  have HC := hide hc
  clear hc
  go_enter Tryz.func59, Tryz.ntmps59
  go_wp2_with (go_at_call 45; refine (l01Below c n _ (unhide HC) hn hm).mono ?_; rintro e w1 ⟨x, rfl, hx0, hx1, hc1, hk1⟩; have HC1 := hide hc1; clear hc1)
  all_goals
    go_ret
    exact ⟨_, rfl, unhide HC1, hk1⟩

set_option maxRecDepth 100000 in
set_option maxHeartbeats 1000000 in
theorem l01PickInt (c g cap : Nat) (zs : List Int) (w : World) (hc : Cur w c) (hne : g ≠ c) (hp : 0 < zs.length) (hm : zs.length ≤ 1000) (hcell : ∀ i (hi : i < zs.length), w.cell? ⟨g, i, none⟩ = some (.int .i64 zs[i])) (hgl : g < w.heap.size) :
    Calls Tryz.prog 47 #[.pointer (some ⟨c, 0, none⟩), .slice (some ⟨g, 0, none⟩) zs.length cap] w fun e w' => ∃ z : Int, e = .returned (.int .i64 z) ∧ z ∈ zs ∧ Cur w' c ∧ Keeps c w w' := by
  have HC := hide hc
  have HL := hide hcell
  clear hc hcell
  go_enter Tryz.func47, Tryz.ntmps47
  go_wp2_with fail
  refine (l01Below c _ _ (unhide HC) (by omega) (by omega)).mono ?_
  rintro e w1 ⟨x, rfl, hx0, hx1, hc1, hk1⟩
  obtain ⟨k, rfl⟩ := Int.eq_ofNat_of_zero_le hx0
  have hk : k < zs.length := by omega
  have hcell1 : w1.cell? ⟨g, k, none⟩ = some (.int .i64 zs[k]) := (World.cell?_of_block (w := w) (hk1.block g hgl hne)).trans (unhide HL k hk)
  have HC1 := hide hc1
  clear hc1
  go_wp2
  go_ret
  exact ⟨_, rfl, List.getElem_mem hk, unhide HC1, hk1⟩

set_option maxRecDepth 100000 in
set_option maxHeartbeats 1000000 in
theorem l01New (a : Option Addr) (len cap : Nat) (w : World) (hlen : len ≤ 1048576) (hcode : ∀ j < len, ∃ (b off : Nat) (z : Int), a = some ⟨b, off, none⟩ ∧ b < w.heap.size ∧ 0 ≤ z ∧ z ≤ 255 ∧ w.cell? ⟨b, off + j, none⟩ = some (.int .u8 z)) :
    Calls Tryz.prog 22 #[.slice a len cap] w fun e w' => e = .returned (.pointer (some ⟨w.heap.size, 0, none⟩)) ∧ Cur w' w.heap.size ∧ Below w.heap.size w w' := by
  have HCODE := hide hcode
  clear hcode
  go_enter Tryz.func22, Tryz.ntmps22
  go_wp2
  go_loop [3, 4] (fun h i => ∃ (k : Nat) (x : Int), k ≤ len ∧ i = .int .i64 k ∧ h = .int .i64 x) (fun _ i => len - (intOf i).toNat)
  case atStart => exact ⟨0, _, Nat.zero_le _, rfl, rfl⟩
  case round =>
    obtain ⟨k, x, hk, rfl, rfl⟩ := hrel
    by_cases hlt : k < len
    · obtain ⟨b, off, z, rfl, hb, z0, z1, hz⟩ := unhide HCODE k hlt
      by_cases h4 : k < 4000
      · go_wp2
        go_round
        case rel => exact ⟨k + 1, _, by omega, by go_num, rfl⟩
        case measure => simp [intOf]; omega
      · go_wp2
        go_ret
        refine ⟨rfl, ?_, (Below.refl _ _).alloc (Nat.le_refl _) _⟩
        exact ⟨_, len, cap, 0, x, heap_alloc_new w _, Nat.zero_le _, hlen, fun j hj => by
          obtain ⟨b', off', z', e, hb', z0', z1', hz'⟩ := unhide HCODE j hj
          exact ⟨b', off', z', e, hb', z0', z1', by rw [World.cell?_alloc_lt _ _ ⟨b', off' + j, none⟩ hb']; exact hz'⟩⟩
    · have hd : decide ((k : Int) < (len : Int)) = false := by simp; omega
      go_wp2
      go_ret
      refine ⟨rfl, ?_, (Below.refl _ _).alloc (Nat.le_refl _) _⟩
      exact ⟨_, len, cap, 0, x, heap_alloc_new w _, Nat.zero_le _, hlen, fun j hj => by
        obtain ⟨b', off', z', e, hb', z0', z1', hz'⟩ := unhide HCODE j hj
        exact ⟨b', off', z', e, hb', z0', z1', by rw [World.cell?_alloc_lt _ _ ⟨b', off' + j, none⟩ hb']; exact hz'⟩⟩
end Go.Proofs.YtlopllgioobcjaaGreatDoor
namespace Go.Proofs.YtlopllgioobcjaaGreatDoor
open Go.RowKit

theorem lit_ints (w : World) (zs : List Int) (t : TypeId) (i : Nat) (hi : i < zs.length) : (w.alloc (.cells (zs.map (Value.int .i64)).toArray t)).cell? ⟨w.heap.size, i, none⟩ = some (.int .i64 zs[i]) := by
  rw [World.cell?_alloc_mark]; simp [hi]

theorem lit_strs (w : World) (xs : List ByteArray) (t : TypeId) (i : Nat) (hi : i < xs.length) : (w.alloc (.cells (xs.map Value.string).toArray t)).cell? ⟨w.heap.size, i, none⟩ = some (.string xs[i]) := by
  rw [World.cell?_alloc_mark]; simp [hi]

theorem keeps_new {c : Nat} {w : World} (o : Obj) : Keeps c w (w.alloc o) := Keeps.of_below ((Below.refl _ _).alloc (Nat.le_refl _) _)

theorem cur_new {c : Nat} {w : World} (h : Cur w c) (o : Obj) : Cur (w.alloc o) c := h.keep_below ((Below.refl _ _).alloc (Nat.le_refl _) _)

/-- What every draw is told of the code: its length, and that its bytes can be read. -/
def CodeOk (w : World) (a : Option Addr) (len : Nat) : Prop := len ≤ 1048576 ∧ ∀ j < len, ∃ (b off : Nat) (z : Int), a = some ⟨b, off, none⟩ ∧ b < w.heap.size ∧ 0 ≤ z ∧ z ≤ 255 ∧ w.cell? ⟨b, off + j, none⟩ = some (.int .u8 z)

theorem CodeOk.below {w w' : World} {a : Option Addr} {len : Nat} (h : CodeOk w a len) (hb : Below w.heap.size w w') : CodeOk w' a len := by
  refine ⟨h.1, fun j hj => ?_⟩
  obtain ⟨b, off, z, e, hbl, z0, z1, hc⟩ := h.2 j hj
  exact ⟨b, off, z, e, Nat.lt_of_lt_of_le hbl hb.size, z0, z1, by rw [hb.cell (p := ⟨b, off + j, none⟩) hbl]; exact hc⟩

theorem Keeps.to_below {w w' : World} (h : Keeps w.heap.size w w') : Below w.heap.size w w' := ⟨h.os, h.tape, h.output, h.size, fun k hk => h.block k hk (by omega)⟩

theorem below_then_keeps {w w1 w2 : World} (h : Below w.heap.size w w1) (k : Keeps w.heap.size w1 w2) : Below w.heap.size w w2 := h.trans (k.below (Nat.le_refl _) h.size)
end Go.Proofs.YtlopllgioobcjaaGreatDoor
namespace Go.Proofs.YtlopllgioobcjaaGreatDoor
open Go.RowKit

set_option maxRecDepth 100000 in
set_option maxHeartbeats 1000000 in
theorem l01Pick (c g cap : Nat) (xs : List ByteArray) (w : World) (hc : Cur w c) (hne : g ≠ c) (hp : 0 < xs.length) (hm : xs.length ≤ 1000) (hcell : ∀ i (hi : i < xs.length), w.cell? ⟨g, i, none⟩ = some (.string xs[i])) (hgl : g < w.heap.size) :
    Calls Tryz.prog 60 #[.pointer (some ⟨c, 0, none⟩), .slice (some ⟨g, 0, none⟩) xs.length cap] w fun e w' => ∃ x : ByteArray, e = .returned (.string x) ∧ x ∈ xs ∧ Cur w' c ∧ Keeps c w w' := by
  have HC := hide hc
  have HL := hide hcell
  clear hc hcell
  go_enter Tryz.func60, Tryz.ntmps60
  go_wp2_with fail
  refine (l01Below c _ _ (unhide HC) (by omega) (by omega)).mono ?_
  rintro e w1 ⟨x, rfl, hx0, hx1, hc1, hk1⟩
  obtain ⟨k, rfl⟩ := Int.eq_ofNat_of_zero_le hx0
  have hk : k < xs.length := by omega
  have hcell1 : w1.cell? ⟨g, k, none⟩ = some (.string xs[k]) := (World.cell?_of_block (w := w) (hk1.block g hgl hne)).trans (unhide HL k hk)
  have HC1 := hide hc1
  clear hc1
  go_wp2
  go_ret
  exact ⟨_, rfl, List.getElem_mem hk, unhide HC1, hk1⟩
end Go.Proofs.YtlopllgioobcjaaGreatDoor
namespace Go.Proofs.YtlopllgioobcjaaGreatDoor
open Go.RowKit

theorem infoU8d : (Tryz.prog.info? 5).map (fun i => (i.zero, i.size, i.bytes)) = some (some (.int .u8 0), 1, 1) := by kernel_rfl

theorem Keeps.grown {c : Nat} {w w' : World} (h : Keeps c w w') : w.grownBy w' (some c) := ⟨h.os, h.tape, h.output, h.size, fun k hk hne => h.block k hk (fun e => hne (by rw [e]))⟩

theorem own_keeps {w w' : World} {base c : Nat} {e : TypeId} {v : Value} {n : Nat} {xs : List Value} (h : w.ownsRow base e 1 v n xs) (hk : Keeps c w w') (hc : c < base) : w'.ownsRow base e 1 v n xs := by
  apply h.kept hk.grown
  cases hv : v.ownBlock with
  | none => exact .inl rfl
  | some k =>
    right
    intro e'
    have := (h.lt k hv).1
    cases e'
    omega

/-- Behind calls that turn the cursor, and append to a row of the call's own, all but the cursor's block is as it was. -/
theorem keeps_append {w wr w1 : World} {c : Nat} {e : TypeId} {v : Value} {n : Nat} {xs : List Value} {o : Obj} (hk : Keeps c w wr) (hown : wr.ownsRow w.heap.size e 1 v n xs) (hg : (wr.alloc o).grownBy w1 v.ownBlock) : Keeps c w w1 := by
  refine ⟨hg.os.trans hk.os, hg.tape.trans hk.tape, hg.output.trans hk.output, by have h1 := hg.size; have h2 := hk.size; simp at h1; omega, fun k hkl hne => ?_⟩
  have hs := hk.size
  rw [hg.block k (by simp; omega) (fun e' => by have := (hown.lt k e'.symm).1; omega), Below.heap_alloc _ _ _ (by omega)]
  exact hk.block k hkl hne

theorem cur_append {w wr w1 : World} {c : Nat} {e : TypeId} {v : Value} {n : Nat} {xs : List Value} {o : Obj} (hc : Cur wr c) (hcl : c < w.heap.size) (hs : w.heap.size ≤ wr.heap.size) (hown : wr.ownsRow w.heap.size e 1 v n xs) (hg : (wr.alloc o).grownBy w1 v.ownBlock) : Cur w1 c := by
  refine hc.below (B := w.heap.size) ?_ hcl
  exact ((Below.refl _ _).alloc hs o).grown hg (by simp; omega) (fun k hk => (hown.lt k hk).1)

set_option maxRecDepth 100000 in
set_option maxHeartbeats 2000000 in
theorem l01Bytes (c : Nat) (n : Nat) (w : World) (hc : Cur w c) (hm : n ≤ 2000) :
    Calls Tryz.prog 49 #[.pointer (some ⟨c, 0, none⟩), .int .i64 n] w fun e w' => ∃ t : ByteArray, e = .returned (.string t) ∧ t.size = n ∧ Cur w' c ∧ Keeps c w w' := by
  obtain ⟨i0, hi, hz0, hz1, hz2⟩ := info_parts infoU8d
  have hcl := hc.lt
  have HC := hide hc
  clear hc
  go_enter Tryz.func49, Tryz.ntmps49
  go_wp2
  go_loopw [5, 6] (fun v i wr => ∃ (k : Nat) (l : List UInt8), k ≤ n ∧ l.length = k ∧ i = .int .i64 k ∧ wr.ownsRow w.heap.size 5 1 v l.length (l.map bv) ∧ Cur wr c ∧ Keeps c w wr) (fun _ i _ => n - (intOf i).toNat)
  case atStart => exact ⟨0, [], Nat.zero_le _, rfl, rfl, World.ownsRow_lit _ #[] 0 (Nat.le_refl _) (by decide) rfl, (unhide HC).keep_below ((Below.refl _ _).alloc (Nat.le_refl _) _), Keeps.of_below ((Below.refl _ _).alloc (Nat.le_refl _) _)⟩
  case round =>
    obtain ⟨k, l, hk, hl, rfl, hown, hcr, hkr⟩ := hrel
    have HL := hide hl
    have HCR := hide hcr
    have HKR := hide hkr
    have HO := hide hown
    have hll : l.length ≤ 2000 := by omega
    clear hl hcr hkr hown
    by_cases hlt : k < n
    · go_wp2_with fail
      refine (l01Below c 256 _ (unhide HCR) (by omega) (by omega)).mono ?_
      rintro e w1 ⟨x, rfl, hx0, hx1, hc1, hk1⟩
      obtain ⟨b, hb⟩ : ∃ b : UInt8, x = b.toNat := ⟨UInt8.ofNat x.toNat, by rw [Mth.toNat_byte _ (by omega)]; omega⟩
      have hown1 := own_keeps (unhide HO) hk1 hcl
      have HC1 := hide hc1
      have HK1 := hide ((unhide HKR).trans hk1)
      have hsz1 : w.heap.size ≤ w1.heap.size := (unhide HK1).size
      have HB := hide hb
      clear hc1 hk1 hb
      go_wp2_with (at_builtin; refine wpList_append_own _ rfl _ _ 22 rfl w.heap.size 5 i0 (.int .u8 0) 1 1 Tryz.underlying22 hi hz0 hz1 hz2 rfl (by decide) _ _ _ rfl (hown1.alloc _) ⟨w1.heap.size, 0, none⟩ 1 1 [.int .u8 x] rfl rfl ?c1 ?c2 ?c3 ?c4 ?c5 ?_)
      case c1 => exact cell_one_new _ _ _
      case c2 => intro u hu; simp at hu; subst hu; rfl
      case c3 => unfold maxLen; omega
      case c4 => omega
      case c5 => simp; omega
      intro v' w2 hown' hgrow _
      have HK2 := hide (keeps_append (unhide HK1) hown1 hgrow)
      have HC2 := hide (cur_append (unhide HC1) hcl hsz1 hown1 hgrow)
      have HO2 := hide (own_snoc b (unhide HB) hown')
      clear hown' hgrow hown1
      go_wp2
      go_roundw
      case rel => exact ⟨k + 1, l ++ [b], by omega, by have := unhide HL; simp; omega, by go_num, unhide HO2, unhide HC2, unhide HK2⟩
      case measure => simp [intOf]; omega
    · have hconv := conv_owned 22 9 Tryz.underlying22 Tryz.underlying5 Tryz.underlying9 (unhide HO)
      go_wp2
      go_ret
      exact ⟨_, rfl, by rw [size_of_list, unhide HL]; omega, unhide HCR, unhide HKR⟩
end Go.Proofs.YtlopllgioobcjaaGreatDoor
namespace Go.Proofs.YtlopllgioobcjaaGreatDoor
open Go.RowKit
open Mth

theorem bigNo (a : Option Addr) (len cap : Nat) (w : World) (h : len ≤ 1048576) : Calls Tryz.prog 4 #[.slice a len cap] w fun e w' => e = .returned (.bool false) ∧ w = w' := by
  go_enter Tryz.func4, Tryz.ntmps4
  go_wp2
  go_ret
  exact ⟨by simp; omega, rfl⟩
theorem bigYes (a : Option Addr) (len cap : Nat) (w : World) (h : 1048576 < len) : Calls Tryz.prog 4 #[.slice a len cap] w fun e w' => e = .returned (.bool true) ∧ w = w' := by
  go_enter Tryz.func4, Tryz.ntmps4
  go_wp2
  go_ret
  exact ⟨by simp; omega, rfl⟩
abbrev puKeys : List ByteArray := [⟨#[97]⟩, ⟨#[98]⟩, ⟨#[107, 49]⟩]
theorem puKeys_size : ∀ x ∈ puKeys, x.size ≤ 10 := by decide

abbrev keyBad : List ByteArray := [⟨#[]⟩, ⟨#[65]⟩, ⟨#[48, 49, 50, 51, 52, 53, 54, 55, 56, 57]⟩, ⟨#[48, 49, 50, 51, 52, 53, 54, 55, 56, 57, 48]⟩, ⟨#[97, 32, 98]⟩]
theorem keyBad_size : ∀ x ∈ keyBad, x.size ≤ 20 := by decide

set_option maxRecDepth 100000 in
set_option maxHeartbeats 1000000 in
theorem l01Key (c : Nat) (w : World) (hc : Cur w c) : Calls Tryz.prog 46 #[.pointer (some ⟨c, 0, none⟩)] w fun e w' => ∃ t : ByteArray, e = .returned (.string t) ∧ t.size ≤ 20 ∧ Cur w' c ∧ Keeps c w w' := by
  have HC := hide hc
  clear hc
  go_enter Tryz.func46, Tryz.ntmps46
  go_wp2_with fail
  refine (l01Once c 16 _ (unhide HC) (by omega) (by omega)).mono ?_
  rintro e w1 ⟨b, rfl, hc1, hk1⟩
  have HC1 := hide hc1
  clear hc1
  cases b
  · go_wp2_with fail
    refine (l01Pick c w1.heap.size 3 puKeys _ (cur_new (unhide HC1) _) (by have := (unhide HC1).lt; omega) (by decide) (by decide) (fun i hi => lit_strs w1 puKeys _ i hi) (by simp)).mono ?_
    rintro e w2 ⟨x, rfl, hx, hc2, hk2⟩
    have HX := hide (puKeys_size x hx)
    have HC2 := hide hc2
    clear hc2 hx
    go_wp2
    go_ret
    exact ⟨_, rfl, Nat.le_trans (unhide HX) (by omega), unhide HC2, (hk1.trans (keeps_new _)).trans hk2⟩
  · go_wp2_with fail
    refine (l01Pick c w1.heap.size 5 keyBad _ (cur_new (unhide HC1) _) (by have := (unhide HC1).lt; omega) (by decide) (by decide) (fun i hi => lit_strs w1 keyBad _ i hi) (by simp)).mono ?_
    rintro e w2 ⟨x, rfl, hx, hc2, hk2⟩
    have HX := hide (keyBad_size x hx)
    have HC2 := hide hc2
    clear hc2 hx
    go_wp2
    go_ret
    exact ⟨_, rfl, unhide HX, unhide HC2, (hk1.trans (keeps_new _)).trans hk2⟩

abbrev mgC (m : Mg) : Array Value := #[.int .i64 m.K, .int .i64 m.F, .int .i64 m.T, .int .i64 m.I, .int .i64 m.L, .string m.k, .int .i64 m.N]
/-- While a message is drawn: the cursor, the result's block, the message's own. -/
structure MSt (w : World) (c g : Nat) (m : Mg) (W : World) : Prop where
  cur : Cur W c
  keep : Keeps c w W
  clt : c < w.heap.size
  glt : w.heap.size < g
  res : W.heap[w.heap.size]? = some (.cells #[.int .i64 0, .int .i64 0, .int .i64 0, .int .i64 0, .int .i64 0, .string ⟨#[]⟩, .int .i64 0] 25 (0, 0))
  own : W.heap[g]? = some (.cells (mgC m) 25 (0, 0))
theorem MSt.draw {w W W' : World} {c g : Nat} {m : Mg} (h : MSt w c g m W) (hc : Cur W' c) (hk : Keeps c W W') : MSt w c g m W' := by
  have h1 := blk_lt h.res
  have h2 := blk_lt h.own
  have h3 := h.clt
  have h4 := h.glt
  exact ⟨hc, h.keep.trans hk, h.clt, h.glt, by rw [hk.block _ h1 (by omega)]; exact h.res, by rw [hk.block _ h2 (by omega)]; exact h.own⟩
theorem MSt.new {w W : World} {c g : Nat} {m : Mg} (h : MSt w c g m W) (o : Obj) : MSt w c g m (W.alloc o) := h.draw (cur_new h.cur o) (keeps_new o)
theorem MSt.put {w W : World} {c g : Nat} {m m' : Mg} (h : MSt w c g m W) (i : Nat) (v : Value) (e : (mgC m).setIfInBounds i v = mgC m') : MSt w c g m' (W.setCell ⟨g, i, none⟩ v) := by
  have h3 := h.clt
  have h4 := h.glt
  refine ⟨?_, ?_, h.clt, h.glt, one_other h.res (by omega), by rw [← e]; exact blk_set h.own i v⟩
  · exact h.cur.below (B := c + 1) ((Below.refl _ _).setCell (p := ⟨g, i, none⟩) (show c + 1 ≤ g by omega) v) (by omega)
  · have hk := h.keep
    exact ⟨hk.os, hk.tape, hk.output, by have := hk.size; simpa [World.setCell] using this, fun k hk1 hk2 => by rw [Below.heap_setCell _ _ _ _ (show k ≠ g by omega)]; exact hk.block k hk1 hk2⟩
theorem MSt.at {w W V : World} {c g : Nat} {m : Mg} (h : MSt w c g m W) (e : V = W) : MSt w c g m V := by rw [e]; exact h
def Good (m : Mg) : Prop := (0 ≤ m.I ∧ m.I ≤ 9) ∧ (m.K ≠ 0 → 1 ≤ m.I) ∧ m.k.size ≤ 20

set_option maxRecDepth 100000 in
set_option maxHeartbeats 4000000 in
theorem l04Msg (c : Nat) (w : World) (hc : Cur w c) : Calls Tryz.prog 21 #[.pointer (some ⟨c, 0, none⟩)] w fun e w' => ∃ m : Mg, e = .returned (mgv m) ∧ m.k.size ≤ 20 ∧ Cur w' c ∧ Keeps c w w' := by
  have hcl := hc.lt
  have HC := hide hc
  clear hc
  go_enter Tryz.func21, Tryz.ntmps21
  go_wp2_with fail
  refine (l01Below c 3 _ (cur_new (unhide HC) _) (by omega) (by omega)).mono ?_
  rintro e w1 ⟨K, rfl, hK0, hK1, hc1, hk1⟩
  have HC1 := hide hc1
  have HK1 := hide ((keeps_new _).trans hk1)
  have HR1 := hide (show w1.heap[w.heap.size]? = some (.cells #[.int .i64 0, .int .i64 0, .int .i64 0, .int .i64 0, .int .i64 0, .string ⟨#[]⟩, .int .i64 0] 25 (0, 0)) by rw [hk1.block _ (by simp) (by omega)]; exact heap_alloc_new w _)
  clear hc1 hk1 HC
  go_wp2_with fail
  refine (l01Below c 3 _ (unhide HC1) (by omega) (by omega)).mono ?_
  rintro e w2 ⟨F, rfl, hF0, hF1, hc2, hk2⟩
  have HC2 := hide hc2
  have HK2 := hide ((unhide HK1).trans hk2)
  have HR2 := hide (show w2.heap[w.heap.size]? = some (.cells #[.int .i64 0, .int .i64 0, .int .i64 0, .int .i64 0, .int .i64 0, .string ⟨#[]⟩, .int .i64 0] 25 (0, 0)) by rw [hk2.block _ (blk_lt (unhide HR1)) (by omega)]; exact unhide HR1)
  clear hc2 hk2 HC1 HK1 HR1
  go_wp2_with fail
  refine (l01Below c 2 _ (unhide HC2) (by omega) (by omega)).mono ?_
  rintro e w3 ⟨T, rfl, hT0, hT1, hc3, hk3⟩
  have HC3 := hide hc3
  have HK3 := hide ((unhide HK2).trans hk3)
  have HR3 := hide (show w3.heap[w.heap.size]? = some (.cells #[.int .i64 0, .int .i64 0, .int .i64 0, .int .i64 0, .int .i64 0, .string ⟨#[]⟩, .int .i64 0] 25 (0, 0)) by rw [hk3.block _ (blk_lt (unhide HR2)) (by omega)]; exact unhide HR2)
  have hr3 := blk_lt (unhide HR3)
  clear hc3 hk3 HC2 HK2 HR2
  go_upto_region 2 with fail
  refine wp_at (fun V0 hV => ?_)
  have HS := hide (show MSt w c w3.heap.size ⟨K, F, 3 + T, 0, 0, ⟨#[]⟩, 0⟩ V0 by
    rw [hV]
    refine ⟨cur_new (unhide HC3) _, (unhide HK3).trans (keeps_new _), hcl, hr3, ?_, heap_alloc_new w3 _⟩
    rw [Below.heap_alloc _ _ _ hr3]
    exact unhide HR3)
  clear hV HC3 HK3 HR3 hF0 hF1 hT0 hT1
  generalize 3 + T = T3 at *
  generalize w3.heap.size = g at *
  go_cut [3, 14] (fun p b wx => p = .pointer (some ⟨g, 0, none⟩) ∧ b = .bool (K != 2) ∧ wx = V0)
  case first =>
    obtain ⟨⟨c0, c1, c2, c3, c4, c5, c6⟩, f0, f1, f2, f3, f4, f5, f6⟩ := seven_at (unhide HS).own
    have hzg := blk_lt (unhide HS).own
    go_wp2_with fail
    go_meet
    case rel => exact ⟨rfl, rfl, rfl⟩
  case rest =>
  obtain ⟨rfl, rfl, rfl⟩ := hcut
  go_upto_if 14 with fail
  go_cut [3] (fun p wx => p = .pointer (some ⟨g, 0, none⟩) ∧ ∃ m : Mg, m.K = K ∧ MSt w c g m wx ∧ m.I = 0 ∧ m.k.size ≤ 20)
  case first =>
    by_cases hk : K = 2
    · have hq : (K != 2) = false := by simpa using hk
      rw [hq]
      clear hk hq
      go_wp2_with fail
      go_meet
      case rel => exact ⟨rfl, ⟨K, F, T3, 0, 0, ⟨#[]⟩, 0⟩, rfl, unhide HS, rfl, Nat.zero_le _⟩
    · have hq : (K != 2) = true := by simpa using hk
      rw [hq]
      clear hk hq
      go_wp2_with fail
      refine (l01Key c _ (unhide HS).cur).mono ?_
      rintro e x1 ⟨key, rfl, hks, hc1, hk1⟩
      have HS1 := hide ((unhide HS).draw hc1 hk1)
      clear hc1 hk1 HS
      obtain ⟨⟨c0, c1, c2, c3, c4, c5, c6⟩, f0, f1, f2, f3, f4, f5, f6⟩ := seven_at (unhide HS1).own
      have hzg := blk_lt (unhide HS1).own
      go_upto_region 4 with fail
      refine wp_at (fun V1 hV => ?_)
      have HS := hide (((unhide HS1).put (m' := ⟨K, F, T3, 0, 0, key, 0⟩) 5 (.string key) rfl).at hV)
      clear hV HS1 c0 c1 c2 c3 c4 c5 c6 f0 f1 f2 f3 f4 f5 f6 hzg
      go_wp2_with fail
      refine (l01PickInt c V1.heap.size 4 [1, 5, 20, 1000000000] _ (cur_new (unhide HS).cur _) (by have := (unhide HS).cur.lt; omega) (by decide) (by decide) (fun i hi => lit_ints V1 [1, 5, 20, 1000000000] _ i hi) (by simp)).mono ?_
      rintro e x2 ⟨N, rfl, _, hc2, hk2⟩
      have HS2 := hide (((unhide HS).new _).draw hc2 hk2)
      clear hc2 hk2 HS
      obtain ⟨⟨c0, c1, c2, c3, c4, c5, c6⟩, f0, f1, f2, f3, f4, f5, f6⟩ := seven_at (unhide HS2).own
      have hzg := blk_lt (unhide HS2).own
      go_wp2_with fail
      go_meet
      case rel => exact ⟨rfl, ⟨K, F, T3, 0, 0, key, N⟩, rfl, (unhide HS2).put 6 (.int .i64 N) rfl, rfl, hks⟩
  case rest =>
  obtain ⟨rfl, ⟨K', F', T', I', L', k', N'⟩, hKK, hst, hI, hks⟩ := hcut
  dsimp only at hKK hI hks
  subst hKK hI
  clear HS
  have HS := hide hst
  clear hst
  go_upto_region 5 with fail
  refine wp_at (fun V2 hV => ?_)
  subst hV
  go_cut [3, 24] (fun p b wx => p = .pointer (some ⟨g, 0, none⟩) ∧ b = .bool (K' != 0) ∧ wx = V2)
  case first =>
    obtain ⟨⟨c0, c1, c2, c3, c4, c5, c6⟩, f0, f1, f2, f3, f4, f5, f6⟩ := seven_at (unhide HS).own
    have hzg := blk_lt (unhide HS).own
    go_wp2_with fail
    go_meet
    case rel => exact ⟨rfl, rfl, rfl⟩
  case rest =>
  obtain ⟨rfl, rfl, rfl⟩ := hcut
  go_upto_if 24 with fail
  go_cut [3] (fun p wx => p = .pointer (some ⟨g, 0, none⟩) ∧ ∃ m : Mg, m.K = K' ∧ MSt w c g m wx ∧ Good m)
  case first =>
    by_cases hk : K' = 0
    · have hq : (K' != 0) = false := by simpa using hk
      rw [hq]
      clear hq
      go_wp2_with fail
      go_meet
      case rel => exact ⟨rfl, ⟨K', F', T', 0, L', k', N'⟩, rfl, unhide HS, ⟨by dsimp only; omega, by dsimp only; omega⟩, fun h => absurd hk h, hks⟩
    · have hq : (K' != 0) = true := by simpa using hk
      rw [hq]
      clear hk hq
      go_wp2_with fail
      refine (l01Below c 9 _ (unhide HS).cur (by omega) (by omega)).mono ?_
      rintro e x1 ⟨i, rfl, hi0, hi1, hc1, hk1⟩
      have HS1 := hide ((unhide HS).draw hc1 hk1)
      clear hc1 hk1 HS
      obtain ⟨⟨c0, c1, c2, c3, c4, c5, c6⟩, f0, f1, f2, f3, f4, f5, f6⟩ := seven_at (unhide HS1).own
      have hzg := blk_lt (unhide HS1).own
      go_wp2_with fail
      go_meet
      case rel => exact ⟨rfl, ⟨K', F', T', 1 + i, L', k', N'⟩, rfl, (unhide HS1).put 3 (.int .i64 (1 + i)) rfl, ⟨by dsimp only; omega, by dsimp only; omega⟩, fun _ => by dsimp only; omega, hks⟩
  case rest =>
  obtain ⟨rfl, ⟨Ka, Fa, Ta, Ia, La, ka, Na⟩, hKK, hst, hgd⟩ := hcut
  dsimp only at hKK
  subst hKK
  clear HS
  have HS := hide hst
  have HG := hide hgd
  clear hst hgd
  go_upto_region 7 with fail
  refine wp_at (fun V3 hV => ?_)
  subst hV
  go_cut [3, 31] (fun p b wx => p = .pointer (some ⟨g, 0, none⟩) ∧ b = .bool (Ka == 1) ∧ wx = V3)
  case first =>
    obtain ⟨⟨c0, c1, c2, c3, c4, c5, c6⟩, f0, f1, f2, f3, f4, f5, f6⟩ := seven_at (unhide HS).own
    have hzg := blk_lt (unhide HS).own
    go_wp2_with fail
    go_meet
    case rel => exact ⟨rfl, rfl, rfl⟩
  case rest =>
  obtain ⟨rfl, rfl, rfl⟩ := hcut
  go_upto_if 31 with fail
  go_cut [3] (fun p wx => p = .pointer (some ⟨g, 0, none⟩) ∧ ∃ m : Mg, MSt w c g m wx ∧ (0 ≤ m.I ∧ m.I ≤ 9) ∧ m.k.size ≤ 20)
  case first =>
    obtain ⟨⟨gi0, gi1⟩, gk, gs⟩ := unhide HG
    dsimp only at gi0 gi1 gk gs
    by_cases hk : Ka = 1
    · have hq : (Ka == 1) = true := by simpa using hk
      rw [hq]
      have hI1 := gk (by omega)
      clear hq gk
      obtain ⟨⟨c0, c1, c2, c3, c4, c5, c6⟩, f0, f1, f2, f3, f4, f5, f6⟩ := seven_at (unhide HS).own
      have hzg := blk_lt (unhide HS).own
      go_wp2_with fail
      refine (l01Below c Ia _ (unhide HS).cur (by omega) (by omega)).mono ?_
      rintro e x1 ⟨l, rfl, hl0, hl1, hc1, hk1⟩
      have HS1 := hide ((unhide HS).draw hc1 hk1)
      clear hc1 hk1 HS c0 c1 c2 c3 c4 c5 c6 f0 f1 f2 f3 f4 f5 f6 hzg
      obtain ⟨⟨c0, c1, c2, c3, c4, c5, c6⟩, f0, f1, f2, f3, f4, f5, f6⟩ := seven_at (unhide HS1).own
      have hzg := blk_lt (unhide HS1).own
      go_wp2_with fail
      go_meet
      case rel => exact ⟨rfl, ⟨Ka, Fa, Ta, Ia, 1 + l, ka, Na⟩, (unhide HS1).put 4 (.int .i64 (1 + l)) rfl, ⟨gi0, gi1⟩, gs⟩
    · have hq : (Ka == 1) = false := by simpa using hk
      rw [hq]
      clear hk hq
      go_wp2_with fail
      go_meet
      case rel => exact ⟨rfl, ⟨Ka, Fa, Ta, Ia, La, ka, Na⟩, unhide HS, ⟨gi0, gi1⟩, gs⟩
  case rest =>
  obtain ⟨rfl, ⟨Kb, Fb, Tb, Ib, Lb, kb', Nb⟩, hst, ⟨gi0, gi1⟩, gs⟩ := hcut
  dsimp only at gi0 gi1 gs
  clear HS HG hks hK0 hK1
  have HS := hide hst
  clear hst
  go_wp2_with fail
  refine (l01Below c 16 _ (unhide HS).cur (by omega) (by omega)).mono ?_
  rintro e x1 ⟨z, rfl, hz0, hz1, hc1, hk1⟩
  have HS1 := hide ((unhide HS).draw hc1 hk1)
  clear hc1 hk1 HS
  go_upto_block 0 with fail
  go_cut [3] (fun p wx => p = .pointer (some ⟨g, 0, none⟩) ∧ ∃ m : Mg, MSt w c g m wx ∧ m.k.size ≤ 20)
  case first =>
    have hzc : z = 0 ∨ z = 1 ∨ z = 2 ∨ z = 3 ∨ 4 ≤ z := by omega
    rcases hzc with rfl | rfl | rfl | rfl | h4
    · clear hz0 hz1
      obtain ⟨⟨c0, c1, c2, c3, c4, c5, c6⟩, f0, f1, f2, f3, f4, f5, f6⟩ := seven_at (unhide HS1).own
      have hzg := blk_lt (unhide HS1).own
      go_wp2_with fail
      refine (l01PickInt c x1.heap.size 2 [-1, 3] _ (cur_new (unhide HS1).cur _) (by have := (unhide HS1).cur.lt; omega) (by simp) (by simp) (fun i hi => lit_ints x1 [-1, 3] _ i hi) (by simp)).mono ?_
      rintro e x2 ⟨y, rfl, _, hc2, hk2⟩
      have HS2 := hide (((unhide HS1).new _).draw hc2 hk2)
      clear hc2 hk2 HS1 c0 c1 c2 c3 c4 c5 c6 f0 f1 f2 f3 f4 f5 f6 hzg
      obtain ⟨⟨c0, c1, c2, c3, c4, c5, c6⟩, f0, f1, f2, f3, f4, f5, f6⟩ := seven_at (unhide HS2).own
      have hzg := blk_lt (unhide HS2).own
      go_wp2_with fail
      go_meet
      case rel => exact ⟨rfl, ⟨y, Fb, Tb, Ib, Lb, kb', Nb⟩, (unhide HS2).put 0 (.int .i64 y) rfl, gs⟩
    · clear hz0 hz1
      obtain ⟨⟨c0, c1, c2, c3, c4, c5, c6⟩, f0, f1, f2, f3, f4, f5, f6⟩ := seven_at (unhide HS1).own
      have hzg := blk_lt (unhide HS1).own
      go_wp2_with fail
      refine (l01PickInt c x1.heap.size 4 [Fb, -1, 29, 30] _ (cur_new (unhide HS1).cur _) (by have := (unhide HS1).cur.lt; omega) (by simp) (by simp) (fun i hi => lit_ints x1 [Fb, -1, 29, 30] _ i hi) (by simp)).mono ?_
      rintro e x2 ⟨y, rfl, _, hc2, hk2⟩
      have HS2 := hide (((unhide HS1).new _).draw hc2 hk2)
      clear hc2 hk2 HS1 c0 c1 c2 c3 c4 c5 c6 f0 f1 f2 f3 f4 f5 f6 hzg
      obtain ⟨⟨c0, c1, c2, c3, c4, c5, c6⟩, f0, f1, f2, f3, f4, f5, f6⟩ := seven_at (unhide HS2).own
      have hzg := blk_lt (unhide HS2).own
      go_wp2_with fail
      go_meet
      case rel => exact ⟨rfl, ⟨Kb, Fb, y, Ib, Lb, kb', Nb⟩, (unhide HS2).put 2 (.int .i64 y) rfl, gs⟩
    · clear hz0 hz1
      obtain ⟨⟨c0, c1, c2, c3, c4, c5, c6⟩, f0, f1, f2, f3, f4, f5, f6⟩ := seven_at (unhide HS1).own
      have hzg := blk_lt (unhide HS1).own
      go_wp2_with fail
      refine (l01PickInt c x1.heap.size 2 [0, 1000000001] _ (cur_new (unhide HS1).cur _) (by have := (unhide HS1).cur.lt; omega) (by simp) (by simp) (fun i hi => lit_ints x1 [0, 1000000001] _ i hi) (by simp)).mono ?_
      rintro e x2 ⟨y, rfl, _, hc2, hk2⟩
      have HS2 := hide (((unhide HS1).new _).draw hc2 hk2)
      clear hc2 hk2 HS1 c0 c1 c2 c3 c4 c5 c6 f0 f1 f2 f3 f4 f5 f6 hzg
      obtain ⟨⟨c0, c1, c2, c3, c4, c5, c6⟩, f0, f1, f2, f3, f4, f5, f6⟩ := seven_at (unhide HS2).own
      have hzg := blk_lt (unhide HS2).own
      go_wp2_with fail
      go_meet
      case rel => exact ⟨rfl, ⟨Kb, Fb, Tb, Ib, Lb, kb', y⟩, (unhide HS2).put 6 (.int .i64 y) rfl, gs⟩
    · clear hz0 hz1
      obtain ⟨⟨c0, c1, c2, c3, c4, c5, c6⟩, f0, f1, f2, f3, f4, f5, f6⟩ := seven_at (unhide HS1).own
      have hzg := blk_lt (unhide HS1).own
      go_wp2_with fail
      refine (l01PickInt c x1.heap.size 2 [0, Ib + 1] _ (cur_new (unhide HS1).cur _) (by have := (unhide HS1).cur.lt; omega) (by simp) (by simp) (fun i hi => lit_ints x1 [0, Ib + 1] _ i hi) (by simp)).mono ?_
      rintro e x2 ⟨y, rfl, _, hc2, hk2⟩
      have HS2 := hide (((unhide HS1).new _).draw hc2 hk2)
      clear hc2 hk2 HS1 c0 c1 c2 c3 c4 c5 c6 f0 f1 f2 f3 f4 f5 f6 hzg
      obtain ⟨⟨c0, c1, c2, c3, c4, c5, c6⟩, f0, f1, f2, f3, f4, f5, f6⟩ := seven_at (unhide HS2).own
      have hzg := blk_lt (unhide HS2).own
      go_wp2_with fail
      go_meet
      case rel => exact ⟨rfl, ⟨Kb, Fb, Tb, Ib, y, kb', Nb⟩, (unhide HS2).put 4 (.int .i64 y) rfl, gs⟩
    · have q0 : (z == 0) = false := by simp; omega
      have q1 : (z == 1) = false := by simp; omega
      have q2 : (z == 2) = false := by simp; omega
      have q3 : (z == 3) = false := by simp; omega
      clear hz0 hz1
      go_wp2_with fail
      go_meet
      case rel => exact ⟨rfl, ⟨Kb, Fb, Tb, Ib, Lb, kb', Nb⟩, unhide HS1, gs⟩
  case rest =>
  obtain ⟨rfl, ⟨Kc, Fc, Tc, Ic, Lc, kc, Nc⟩, hst, gs2⟩ := hcut
  dsimp only at gs2
  clear HS1
  go_upto_region 18 with fail
  refine wp_at (fun U hU => ?_)
  subst hU
  obtain ⟨⟨c0, c1, c2, c3, c4, c5, c6⟩, _⟩ := seven_at hst.own
  obtain ⟨⟨d0, d1, d2, d3, d4, d5, d6⟩, f0, f1, f2, f3, f4, f5, f6⟩ := seven_at hst.res
  have hzg := blk_lt hst.own
  have hzr := blk_lt hst.res
  have HS := hide hst
  clear hst
  go_wp2_with fail
  refine bodyPost_at (fun W' hW' => ?_)
  obtain ⟨⟨r0, r1, r2, r3, r4, r5, r6⟩, _⟩ := seven_at (show W'.heap[w.heap.size]? = some (.cells #[.int .i64 Kc, .int .i64 Fc, .int .i64 Tc, .int .i64 Ic, .int .i64 Lc, .string kc, .int .i64 Nc] 25 (0, 0)) by rw [hW']; exact seven_set (unhide HS).res)
  have hbc := seven_below (b0 := .int .i64 Kc) (b1 := .int .i64 Fc) (b2 := .int .i64 Tc) (b3 := .int .i64 Ic) (b4 := .int .i64 Lc) (b5 := .string kc) (b6 := .int .i64 Nc) (g := w.heap.size) (Below.refl w.heap.size U) (Nat.le_refl _)
  have hcur : Cur W' c := by rw [hW']; exact (unhide HS).cur.below hbc hcl
  have hkp : Keeps c w W' := by
    rw [hW']
    have hk := (unhide HS).keep
    exact ⟨hbc.os.trans hk.os, hbc.tape.trans hk.tape, hbc.output.trans hk.output, Nat.le_trans hk.size hbc.size, fun k h1 h2 => (hbc.block k h1).trans (hk.block k h1 h2)⟩
  exact bodyPost_ret (v := .agg #[.int .i64 Kc, .int .i64 Fc, .int .i64 Tc, .int .i64 Ic, .int .i64 Lc, .string kc, .int .i64 Nc]) (by simp [results, Tryz.results21, go_sem, r0, r1, r2, r3, r4, r5, r6]) rfl ⟨⟨Kc, Fc, Tc, Ic, Lc, kc, Nc⟩, rfl, gs2, hcur, hkp⟩
end Go.Proofs.YtlopllgioobcjaaGreatDoor
namespace Go.Proofs.YtlopllgioobcjaaGreatDoor
open Go.RowKit
open Mth

theorem l01Bytes1 (c : Nat) (w : World) (hc : Cur w c) : Calls Tryz.prog 49 #[.pointer (some ⟨c, 0, none⟩), .int .i64 1] w.drew fun e w' => ∃ t : ByteArray, e = .returned (.string t) ∧ t.size = 1 ∧ Cur w' c ∧ Keeps c w w' :=
  (l01Bytes c 1 w.drew (show Cur w.drew c from hc) (by omega)).mono fun _ _ ⟨t, h1, h2, h3, h4⟩ => ⟨t, h1, h2, h3, ⟨h4.os, h4.tape, h4.output, h4.size, h4.block⟩⟩
set_option maxRecDepth 100000 in
set_option maxHeartbeats 2000000 in
theorem l01Spoil (c : Nat) (s : ByteArray) (w : World) (hs : s.size ≤ 2000) (hc : Cur w c) : Calls Tryz.prog 26 #[.pointer (some ⟨c, 0, none⟩), .string s] w fun e w' => ∃ t : ByteArray, e = .returned (.string t) ∧ t.size ≤ 2001 ∧ Cur w' c ∧ Keeps c w w' := by
  have HC := hide hc
  clear hc
  go_enter Tryz.func26, Tryz.ntmps26
  go_wp2_with fail
  refine (l01Below c _ _ (unhide HC) (by omega) (by omega)).mono ?_
  rintro e w1 ⟨i, rfl, hi0, hi1, hc1, hk1⟩
  obtain ⟨k, rfl⟩ := Int.eq_ofNat_of_zero_le hi0
  have hk : k ≤ s.size := by omega
  have HC1 := hide hc1
  have HK1 := hide hk1
  clear hc1 hk1 HC hi0 hi1
  go_wp2_with fail
  refine (l01Below c 8 _ (unhide HC1) (by omega) (by omega)).mono ?_
  rintro e w2 ⟨z, rfl, hz0, hz1, hc2, hk2⟩
  have HC2 := hide hc2
  have HK2 := hide ((unhide HK1).trans hk2)
  clear hc2 hk2 HC1 HK1
  have hki : (k : Int) ≤ (s.size : Int) := by omega
  have hzc : z = 0 ∨ z = 1 ∨ 2 ≤ z := by omega
  rcases hzc with rfl | rfl | h2z
  · clear hz0 hz1
    go_wp2_with fail
    go_ret
    exact ⟨_, rfl, by rw [ByteArray.size_extract]; omega, unhide HC2, unhide HK2⟩
  · clear hz0 hz1
    have hl1 : (s.extract 0 k).size = k := by rw [ByteArray.size_extract]; omega
    have hl2 : (s.extract k s.size).size = s.size - k := by rw [ByteArray.size_extract]; omega
    go_upto_region 6 with fail
    go_region_with (go_at_call 49; refine (l01Bytes1 c w2 (unhide HC2)).mono ?_; rintro e w5 ⟨t, rfl, ht, hc5, hk5⟩; have a1 := fun w1 => run_string_add_sum (P := Tryz.prog) w1 (s.extract 0 k) t (by omega); have a2 := fun w1 => run_string_add_sum (P := Tryz.prog) w1 (s.extract 0 k ++ t) (s.extract k s.size) (by rw [ByteArray.size_append]; omega))
    go_simp
    go_wp2_with fail
    go_ret
    exact ⟨_, rfl, by simp only [ByteArray.size_append]; omega, hc5, (unhide HK2).trans hk5⟩
  · have q0 : (z == 0) = false := by simp; omega
    have q1 : (z == 1) = false := by simp; omega
    clear hz0 hz1
    go_wp2_with fail
    go_ret
    exact ⟨_, rfl, by omega, unhide HC2, unhide HK2⟩
theorem putMsg_le (m : Mg) : (putMsg m).size ≤ 1037 := by
  unfold putMsg
  split
  · exact mgBytes_le m
  · decide
theorem frm_le (m : Mg) : (frm m).size ≤ 1010 := by
  unfold frm
  split
  · unfold frameT
    have := putT_size (mgBytes m)
    rw [ByteArray.size_append, wordB_size]
    omega
  · decide
theorem alloc_size (w : World) (o : Obj) : (w.alloc o).heap.size = w.heap.size + 1 := by simp
theorem l01NewC (a : Option Addr) (len cap : Nat) (w : World) (o : Obj) (h : CodeOk w a len) : Calls Tryz.prog 22 #[.slice a len cap] (w.alloc o) fun e w' => e = .returned (.pointer (some ⟨w.heap.size + 1, 0, none⟩)) ∧ Cur w' (w.heap.size + 1) ∧ w'.heap[w.heap.size]? = some o ∧ Below w.heap.size w w' := by
  have h1 := h.below (below_one w o)
  refine (l01New a len cap _ h1.1 h1.2).mono ?_
  rintro e w' ⟨rfl, hc, hb⟩
  rw [alloc_size] at hc hb ⊢
  have hb' : Below (w.alloc o).heap.size (w.alloc o) w' := by rw [alloc_size]; exact hb
  exact ⟨rfl, hc, blk_step (heap_alloc_new w o) hb', (below_one w o).trans (hb.mono (by omega))⟩
set_option maxRecDepth 100000 in
set_option maxHeartbeats 2000000 in
theorem drawPutMsg (a : Option Addr) (len cap : Nat) (w : World) (hcode : CodeOk w a len) : Calls Tryz.prog 5 #[.slice a len cap] w fun e w' => ∃ m : Mg, e = .returned (mgv m) ∧ m.k.size ≤ 20 ∧ Below w.heap.size w w' := by
  have HN := hide (l01NewC a len cap w (.cells #[.int .i64 0, .int .i64 0, .int .i64 0, .int .i64 0, .int .i64 0, .string ⟨#[]⟩, .int .i64 0] 25) hcode)
  clear hcode
  go_enter Tryz.func5, Tryz.ntmps5
  go_wp2_with fail
  refine (unhide HN).mono ?_
  rintro e w1 ⟨rfl, hc1, hr1, hb1⟩
  go_wp2_with fail
  refine (l04Msg (w.heap.size + 1) _ hc1).mono ?_
  rintro e w2 ⟨⟨K, F, T, I, L, k, N⟩, rfl, hks, hc2, hk2⟩
  have hR2 : w2.heap[w.heap.size]? = some (.cells #[.int .i64 0, .int .i64 0, .int .i64 0, .int .i64 0, .int .i64 0, .string ⟨#[]⟩, .int .i64 0] 25 (0, 0)) := by rw [hk2.block _ (blk_lt hr1) (by omega)]; exact hr1
  have hB2 : Below w.heap.size w w2 := hb1.trans (hk2.below (by omega) hb1.size)
  have hz2 := blk_lt hR2
  obtain ⟨⟨d0, d1, d2, d3, d4, d5, d6⟩, f0, f1, f2, f3, f4, f5, f6⟩ := seven_at hR2
  have HR := hide hR2
  have HB := hide hB2
  clear hR2 hB2 hc1 hr1 hb1 hc2 hk2
  go_wp2_with fail
  refine bodyPost_at (fun W' hW' => ?_)
  obtain ⟨⟨r0, r1, r2, r3, r4, r5, r6⟩, _⟩ := seven_at (show W'.heap[w.heap.size]? = some (.cells #[.int .i64 K, .int .i64 F, .int .i64 T, .int .i64 I, .int .i64 L, .string k, .int .i64 N] 25 (0, 0)) by rw [hW']; exact seven_set (unhide HR))
  have hbb : Below w.heap.size w W' := by rw [hW']; exact seven_below (unhide HB) (Nat.le_refl _)
  exact bodyPost_ret (v := .agg #[.int .i64 K, .int .i64 F, .int .i64 T, .int .i64 I, .int .i64 L, .string k, .int .i64 N]) (by simp [results, Tryz.results5, go_sem, r0, r1, r2, r3, r4, r5, r6]) rfl ⟨⟨K, F, T, I, L, k, N⟩, rfl, hks, hbb⟩

set_option maxRecDepth 100000 in
set_option maxHeartbeats 2000000 in
theorem drawGetMsg (a : Option Addr) (len cap : Nat) (w : World) (hcode : CodeOk w a len) : Calls Tryz.prog 8 #[.slice a len cap] w fun e w' => ∃ t : ByteArray, e = .returned (.string t) ∧ t.size ≤ 2001 ∧ Below w.heap.size w w' := by
  have HN := hide (l01New a len cap w hcode.1 hcode.2)
  clear hcode
  go_enter Tryz.func8, Tryz.ntmps8
  go_wp2_with fail
  refine (unhide HN).mono ?_
  rintro e w1 ⟨rfl, hc1, hb1⟩
  have HB1 := hide hb1
  clear hb1
  go_wp2_with fail
  refine (l04Msg w.heap.size _ hc1).mono ?_
  rintro e w2 ⟨m, rfl, hks, hc2, hk2⟩
  have HB2 := hide (below_then_keeps (unhide HB1) hk2)
  have HP := hide (specPutMsg m w2 (Nat.le_trans hks (by unfold maxLen; omega)))
  have hsz := putMsg_le m
  clear hc1 hk2 HB1 hks
  obtain ⟨K, F, T, I, L, k, N⟩ := m
  go_wp2_with fail
  refine (unhide HP).mono ?_
  rintro e w3 ⟨rfl, hb3⟩
  have HC3 := hide (hc2.keep_below hb3)
  have HB3 := hide ((unhide HB2).trans (hb3.mono (unhide HB2).size))
  clear hb3 hc2 HB2 HP
  go_wp2_with fail
  refine (l01Spoil w.heap.size _ _ (by omega) (unhide HC3)).mono ?_
  rintro e w4 ⟨t, rfl, ht, hc4, hk4⟩
  have HB4 := hide (below_then_keeps (unhide HB3) hk4)
  clear hc4 hk4 HB3 HC3
  go_wp2_with fail
  go_ret
  exact ⟨t, rfl, ht, unhide HB4⟩

set_option maxRecDepth 100000 in
set_option maxHeartbeats 2000000 in
theorem drawUnframe (a : Option Addr) (len cap : Nat) (w : World) (hcode : CodeOk w a len) : Calls Tryz.prog 11 #[.slice a len cap] w fun e w' => ∃ t : ByteArray, e = .returned (.string t) ∧ t.size ≤ 2001 ∧ Below w.heap.size w w' := by
  have HN := hide (l01New a len cap w hcode.1 hcode.2)
  clear hcode
  go_enter Tryz.func11, Tryz.ntmps11
  go_wp2_with fail
  refine (unhide HN).mono ?_
  rintro e w1 ⟨rfl, hc1, hb1⟩
  have HB1 := hide hb1
  clear hb1
  go_wp2_with fail
  refine (l04Msg w.heap.size _ hc1).mono ?_
  rintro e w2 ⟨m, rfl, hks, hc2, hk2⟩
  have HB2 := hide (below_then_keeps (unhide HB1) hk2)
  have HP := hide (specFrame m w2 (Nat.le_trans hks (by unfold maxLen; omega)))
  have hsz := frm_le m
  clear hc1 hk2 HB1 hks
  obtain ⟨K, F, T, I, L, k, N⟩ := m
  go_wp2_with fail
  refine (unhide HP).mono ?_
  rintro e w3 ⟨rfl, hb3⟩
  have HC3 := hide (hc2.keep_below hb3)
  have HB3 := hide ((unhide HB2).trans (hb3.mono (unhide HB2).size))
  clear hb3 hc2 HB2 HP
  go_wp2_with fail
  refine (l01Spoil w.heap.size _ _ (by omega) (unhide HC3)).mono ?_
  rintro e w4 ⟨t, rfl, ht, hc4, hk4⟩
  have HB4 := hide (below_then_keeps (unhide HB3) hk4)
  clear hc4 hk4 HB3 HC3
  go_wp2_with fail
  go_ret
  exact ⟨t, rfl, ht, unhide HB4⟩
end Go.Proofs.YtlopllgioobcjaaGreatDoor
namespace Go.Proofs.YtlopllgioobcjaaGreatDoor
open Go.RowKit

/-- A slice of integers that came in: it is nil; or it leads to a row of 'cap' cells, the numbers 'zs', each fitting its kind. -/
def IsRow (k : IntKind) (w : World) (a : Option Addr) (len cap : Nat) (zs : List Int) : Prop :=
  (a = none ∧ len = 0 ∧ cap = 0 ∧ zs = []) ∨
  ∃ x, a = some x ∧ len ≤ cap ∧ cap ≤ maxLen ∧ zs.length = cap ∧ (∀ i, i < zs.length → w.cell? (x.add i) = some (.int k (zs.getD i 0))) ∧ ∀ n ∈ zs, (Lit.int k n).wf = true

theorem code_ok {w : World} {a : Option Addr} {len cap : Nat} {zs : List Int} (h : IsRow .u8 w a len cap zs) (hl : len ≤ 1048576) : CodeOk w a len := by
  rcases h with ⟨_, rfl, _⟩ | ⟨x, rfl, h1, _, h3, hc, hw⟩
  · exact ⟨by omega, fun j hj => by omega⟩
  · refine ⟨hl, fun j hj => ?_⟩
    have hj' : j < zs.length := by omega
    obtain ⟨b, off, spot⟩ := x
    have hc0 := hc 0 (by omega)
    have hspot : spot = none := by simpa [Addr.add] using World.cell?_spot hc0
    subst hspot
    have hcj := hc j hj'
    have hcj' : w.cell? ⟨b, off + j, none⟩ = some (.int .u8 (zs.getD j 0)) := by
      by_cases h0 : j = 0
      · subst h0; simpa [Addr.add] using hcj
      · simpa [Addr.add, h0] using hcj
    have hbl : b < w.heap.size := by
      rcases Nat.lt_or_ge b w.heap.size with h' | h'
      · exact h'
      · simp [World.cell?, Array.getElem?_eq_none h'] at hcj'
    have hz := bounds_u8 (hw (zs.getD j 0) (by simp [List.getD, hj']))
    exact ⟨b, off, zs.getD j 0, rfl, hbl, hz.1, hz.2, hcj'⟩
end Go.Proofs.YtlopllgioobcjaaGreatDoor
