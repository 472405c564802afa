/-
  The draws of chapter 1 for numbers and texts: each hands something back, of a bounded size, and turns nothing that was there.
-/
import Derived.Test.YthjpjamihlopeaaDoorDraw2
import Derived.Test.YthjpjamihlopeaaDoorPutNumS
import Derived.Test.YthjpjamihlopeaaDoorPutTextS
import Derived.Laws.DeepStrings4
namespace Go.Proofs.YthjpjamihlopeaaDoor
open Go.RowKit

theorem lit_ints (w : World) (zs : List Int) (t : TypeId) (i : Nat) (hi : i < zs.length) : (w.alloc (.cells (zs.map (Value.int .i64)).toArray t)).cell? ⟨w.heap.size, i, none⟩ = some (.int .i64 zs[i]) := by
  rw [World.cell?_alloc_mark]; simp [hi]
theorem lit_strs (w : World) (xs : List ByteArray) (t : TypeId) (i : Nat) (hi : i < xs.length) : (w.alloc (.cells (xs.map Value.string).toArray t)).cell? ⟨w.heap.size, i, none⟩ = some (.string xs[i]) := by
  rw [World.cell?_alloc_mark]; simp [hi]
theorem keeps_new {c : Nat} {w : World} (o : Obj) : Keeps c w (w.alloc o) := Keeps.of_below ((Below.refl _ _).alloc (Nat.le_refl _) _)
theorem cur_new {c : Nat} {w : World} (h : Cur w c) (o : Obj) : Cur (w.alloc o) c := h.keep_below ((Below.refl _ _).alloc (Nat.le_refl _) _)

def numChoices : List Int := [0, 127, 128, 16383, 16384, 1000000000, 1000000001, 4000000000, 4000000001, -1, 9223372036854775807]

set_option maxRecDepth 100000 in
set_option maxHeartbeats 1000000 in
theorem l01Num (c : Nat) (w : World) (hc : Cur w c) : Calls Tryd.prog 35 #[.pointer (some ⟨c, 0, none⟩)] w fun e w' => ∃ z : Int, e = .returned (.int .i64 z) ∧ -1 ≤ z ∧ z ≤ 9223372036854775807 ∧ Cur w' c ∧ Keeps c w w' := by
  have HC := hide hc
  clear hc
  go_enter Tryd.func35, Tryd.ntmps35
  go_wp2_with fail
  refine (l01Once c 3 _ (unhide HC) (by omega) (by omega)).mono ?_
  rintro e w1 ⟨b, rfl, hc1, hk1⟩
  have HC1 := hide hc1
  clear hc1
  cases b
  · go_wp2_with fail
    refine (l01Below c 1000 _ (unhide HC1) (by omega) (by omega)).mono ?_
    rintro e w2 ⟨x, rfl, hx0, hx1, hc2, hk2⟩
    have HC2 := hide hc2
    clear hc2
    go_wp2
    go_ret
    exact ⟨_, rfl, by omega, by omega, unhide HC2, hk1.trans hk2⟩
  · go_wp2_with fail
    refine (l01PickInt c w1.heap.size 11 numChoices _ (cur_new (unhide HC1) _) (by have := (unhide HC1).lt; omega) (by decide) (by decide) (fun i hi => lit_ints w1 numChoices _ i hi) (by simp)).mono ?_
    rintro e w2 ⟨z, rfl, hz, hc2, hk2⟩
    have HC2 := hide hc2
    have HZ := hide (show -1 ≤ z ∧ z ≤ 9223372036854775807 by
      simp only [numChoices, List.mem_cons, List.not_mem_nil, or_false] at hz
      omega)
    clear hc2 hz
    go_wp2
    go_ret
    exact ⟨_, rfl, (unhide HZ).1, (unhide HZ).2, unhide HC2, hk1.trans ((keeps_new _).trans hk2)⟩

/-- What every draw is told of the code: its length, and that its bytes can be read. -/
def CodeOk (w : World) (a : Option Addr) (len : Nat) : Prop := len ≤ 1048576 ∧ ∀ j < len, ∃ (b off : Nat) (z : Int), a = some ⟨b, off, none⟩ ∧ b < w.heap.size ∧ 0 ≤ z ∧ z ≤ 255 ∧ w.cell? ⟨b, off + j, none⟩ = some (.int .u8 z)
theorem CodeOk.below {w w' : World} {a : Option Addr} {len : Nat} (h : CodeOk w a len) (hb : Below w.heap.size w w') : CodeOk w' a len := by
  refine ⟨h.1, fun j hj => ?_⟩
  obtain ⟨b, off, z, e, hbl, z0, z1, hc⟩ := h.2 j hj
  exact ⟨b, off, z, e, Nat.lt_of_lt_of_le hbl hb.size, z0, z1, by rw [hb.cell (p := ⟨b, off + j, none⟩) hbl]; exact hc⟩
theorem Keeps.to_below {w w' : World} (h : Keeps w.heap.size w w') : Below w.heap.size w w' := ⟨h.os, h.tape, h.output, h.size, fun k hk => h.block k hk (by omega)⟩
theorem below_then_keeps {w w1 w2 : World} (h : Below w.heap.size w w1) (k : Keeps w.heap.size w1 w2) : Below w.heap.size w w2 := h.trans (k.below (Nat.le_refl _) h.size)

set_option maxRecDepth 100000 in
set_option maxHeartbeats 1000000 in
theorem drawPutNum (a : Option Addr) (len cap : Nat) (w : World) (hcode : CodeOk w a len) : Calls Tryd.prog 6 #[.slice a len cap] w fun e w' => ∃ z : Int, e = .returned (.int .i64 z) ∧ -1 ≤ z ∧ z ≤ 9223372036854775807 ∧ Below w.heap.size w w' := by
  have HC := hide hcode
  clear hcode
  go_enter Tryd.func6, Tryd.ntmps6
  go_wp2_with fail
  refine (l01New a len cap _ (unhide HC).1 (unhide HC).2).mono ?_
  rintro e w1 ⟨rfl, hc1, hb1⟩
  have HC1 := hide hc1
  clear hc1
  go_wp2_with fail
  refine (l01Num _ _ (unhide HC1)).mono ?_
  rintro e w2 ⟨z, rfl, hz0, hz1, hc2, hk2⟩
  clear hc2
  go_wp2
  go_ret
  exact ⟨_, rfl, hz0, hz1, below_then_keeps hb1 hk2⟩
end Go.Proofs.YthjpjamihlopeaaDoor
