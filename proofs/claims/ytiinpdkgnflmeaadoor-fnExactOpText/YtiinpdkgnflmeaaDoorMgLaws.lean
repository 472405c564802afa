/-
  The laws' own helpers on messages, and a message that came in as a value.
-/
import Derived.Test.YtiinpdkgnflmeaaDoorMgI
import Derived.ProofKit
namespace Go.Proofs.YtiinpdkgnflmeaaDoor
open Go.RowKit
open Go.WideShapes
open Mth

set_option maxRecDepth 100000 in
theorem szMsg_big (m : Mg) (w : World) (h : 1048576 < m.k.size) (h2 : m.k.size ≤ maxLen) : Calls Tryd.prog 31 #[mgv m, .int .i64 1048576] w fun e w' => e = .returned (.int .i64 (-1)) ∧ Below w.heap.size w w' := by
  obtain ⟨K, F, T, I, L, k, N⟩ := m
  dsimp only at h h2
  unfold maxLen at h2
  have hn : (1048576 : Int) - k.size < 0 := by omega
  go_enter Tryd.func31, Tryd.ntmps31
  go_wp2_with fail
  go_ret
  exact ⟨rfl, below_one w _⟩
set_option maxRecDepth 100000 in
theorem szMsg (m : Mg) (w : World) (h : m.k.size ≤ 1048576) : Calls Tryd.prog 31 #[mgv m, .int .i64 1048576] w fun e w' => e = .returned (.int .i64 (1048576 - m.k.size)) ∧ Below w.heap.size w w' := by
  obtain ⟨K, F, T, I, L, k, N⟩ := m
  dsimp only at h
  have hn : ¬ ((1048576 : Int) - k.size < 0) := by omega
  go_enter Tryd.func31, Tryd.ntmps31
  go_wp2_with fail
  go_ret
  exact ⟨rfl, below_one w _⟩
set_option maxRecDepth 100000 in
set_option maxHeartbeats 1000000 in
theorem toMsg (m : Mg) (w : World) : Calls Tryd.prog 35 #[mgv m] w fun e w' => e = .returned (mgv m) ∧ Below w.heap.size w w' := by
  obtain ⟨K, F, T, I, L, k, N⟩ := m
  go_enter Tryd.func35, Tryd.ntmps35
  go_wp2_with fail
  refine bodyPost_ret (v := .agg #[.int .i64 K, .int .i64 F, .int .i64 T, .int .i64 I, .int .i64 L, .string k, .int .i64 N]) (by simp [results, Tryd.results35, go_sem]) rfl ⟨rfl, ?_⟩
  exact (((Below.refl _ _).alloc (Nat.le_refl _) _).alloc (by simp) _).alloc (by simp; omega) _

theorem array_seven {α : Type} {cs : Array α} (h : cs.size = 7) : ∃ a b c d e f g, cs = #[a, b, c, d, e, f, g] := by
  obtain ⟨l⟩ := cs
  match l, h with
  | [a, b, c, d, e, f, g], _ => exact ⟨a, b, c, d, e, f, g, rfl⟩
theorem mgTypes : Tryd.prog.cellTypes Tryd.prog.depth 35 = some [3, 3, 3, 3, 3, 9, 3] := by kernel_rfl
theorem mgCells : Tryd.prog.cellsOf 35 = 7 := by kernel_rfl
theorem mgIntCells : Tryd.prog.cellsOf 3 = 1 := by kernel_rfl
theorem mgStrCells : Tryd.prog.cellsOf 9 = 1 := by kernel_rfl
set_option maxRecDepth 100000 in
theorem open_msg {H : Type} {enc : TypeId × Value → H} {W : World} {r : Reach} {base : Nat} {v : Value} {d : DataW H} {p : List MemPlace} (hv : Value.okWide Tryd.prog W r base 35 v) (h : DataW.Trod enc Tryd.prog W 0 (fun _ => true) true 35 v d p) :
    ∃ m : Mg, v = mgv m ∧ m.k.size ≤ maxLen := by
  simp only [Value.okWide, Tryd.underlying35] at hv
  obtain ⟨cs, rfl, hsz, ts, hts, _, hall⟩ := hv
  obtain ⟨fuel, hf⟩ := h
  obtain ⟨a, b, c, d, e, f, g, rfl⟩ := array_seven (hsz.trans mgCells)
  obtain ⟨xs, k, _, _, _, hxl, hfl⟩ := DataW.trod_struct Tryd.underlying35 hf
  match xs, hxl with
  | [y0, y1, y2, y3, y4, y5, y6], _ =>
    have g0 := hfl 0 _ rfl
    have g1 := hfl 1 _ rfl
    have g2 := hfl 2 _ rfl
    have g3 := hfl 3 _ rfl
    have g4 := hfl 4 _ rfl
    have g5 := hfl 5 _ rfl
    have g6 := hfl 6 _ rfl
    simp [mgIntCells, mgStrCells, Value.cells] at g0 g1 g2 g3 g4 g5 g6
    obtain ⟨n0, q0, _⟩ := DataW.trod_int Tryd.underlying3 g0
    obtain ⟨n1, q1, _⟩ := DataW.trod_int Tryd.underlying3 g1
    obtain ⟨n2, q2, _⟩ := DataW.trod_int Tryd.underlying3 g2
    obtain ⟨n3, q3, _⟩ := DataW.trod_int Tryd.underlying3 g3
    obtain ⟨n4, q4, _⟩ := DataW.trod_int Tryd.underlying3 g4
    obtain ⟨s5, q5, _, hs5⟩ := DataW.trod_string Tryd.underlying9 g5
    obtain ⟨n6, q6, _⟩ := DataW.trod_int Tryd.underlying3 g6
    simp at q0 q1 q2 q3 q4 q5 q6
    subst q0 q1 q2 q3 q4 q5 q6
    exact ⟨⟨n0, n1, n2, n3, n4, s5, n6⟩, rfl, hs5⟩
end Go.Proofs.YtiinpdkgnflmeaaDoor
