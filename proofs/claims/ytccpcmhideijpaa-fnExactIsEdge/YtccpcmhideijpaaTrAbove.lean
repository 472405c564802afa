/-
  The nodes above a node as a function that takes a yield: its contract.
-/
import Derived.Test.YtccpcmhideijpaaTrUp
import Derived.Test.YtccpcmhideijpaaTrOk
import Derived.RangeFuncNested
import Derived.RangeFuncBound
import Derived.RangeFuncCalls
import Derived.RangeFuncLeaves
import Derived.Shelf.Abstract
import Derived.Shelf.RegionOpen
import Derived.WalkKit
import Derived.OwnWalkIn
import Derived.TacticsInMore
import Derived.LoopNIn
import Derived.LoopIn
namespace Go.Proofs.Ytccpcmhideijpaa
open Go.RowKit Go.Shelf
open Mth
attribute [local go_sem] Oper.semAt_some

set_option maxRecDepth 100000 in
theorem implAbove (v : Value) (n : Int) (w : World) :
    Calls Try.prog 34 #[.agg #[v], .int .i64 n] w fun e w' => e = .returned (.func (.func 47) #[] #[.pointer (some ⟨w.heap.size, 0, none⟩), .pointer (some ⟨w.heap.size + 1, 0, none⟩)]) ∧ w' = (w.alloc (.cells #[v] 27)).alloc (.cells #[.int .i64 n] 3) := by
  go_enter Try.func34, Try.ntmps34
  go_wp2_with fail
  go_ret
  exact ⟨rfl, rfl⟩

/-- What a round of a loop over the nodes above keeps: all blocks below M but D. -/
def KX (D M : Nat) (W W' : World) : Prop := W.heap.size ≤ W'.heap.size ∧ ∀ b, b < M → b ≠ D → W'.heap[b]? = W.heap[b]?
theorem KX.refl (D M : Nat) (W : World) : KX D M W W := ⟨Nat.le_refl _, fun _ _ _ => rfl⟩
theorem KX.trans {D M : Nat} {A B C : World} (h : KX D M A B) (k : KX D M B C) : KX D M A C := ⟨Nat.le_trans h.1 k.1, fun b h1 h2 => (k.2 b h1 h2).trans (h.2 b h1 h2)⟩
theorem KX.put {D M : Nat} {w : World} (hM : M ≤ w.heap.size) (W : World) (l : Nat) (o o' : Obj) (hl : w.heap.size ≤ l) (_ : W.heap[l]? = some o) (_ : o.isCells = false) (_ : o.isWalk = false) : KX D M W (W.putObj l o') :=
  ⟨by simp [World.putObj], fun b h1 _ => World.putObj_heap_other (by omega)⟩
theorem KX.set {D M : Nat} (W : World) (v : Value) : KX D M W (W.setCell ⟨D, 0, none⟩ v) := ⟨by simp [World.setCell], fun b _ h2 => Below.heap_setCell _ _ _ _ h2⟩
theorem KX.cell {D M b o : Nat} {W W' : World} (h : KX D M W W') (h1 : b < M) (h2 : b ≠ D) : W'.cell? ⟨b, o, none⟩ = W.cell? ⟨b, o, none⟩ := by
  unfold World.cell?
  rw [h.2 b h1 h2]
/-- The list of parents lies where a round does not write. -/
def FarFrom (D M : Nat) (a : Option Addr) : Prop := ∀ g off, a = some ⟨g, off, none⟩ → g < M ∧ g ≠ D
theorem KX.at {D M : Nat} {W W' : World} {a : Option Addr} {l : List Int} (h : KX D M W W') (hf : FarFrom D M a) (ha : IntsAt W a l) : IntsAt W' a l := fun i hi => by
  obtain ⟨g, off, e, hg, hc⟩ := ha i hi
  obtain ⟨f1, f2⟩ := hf g off e
  exact ⟨g, off, e, Nat.lt_of_lt_of_le hg h.1, fun j hj => (h.cell f1 f2).trans (hc j hj)⟩

set_option maxRecDepth 100000 in
set_option maxHeartbeats 2000000 in
theorem above1 (n : Nat) (hn : 1 ≤ n) (q Bt Bn D M : Nat) (a : Option Addr) (cap : Nat) (l : List Int) (k : Nat) (hT : TreeP l) (hk : k < l.length) (hfa : FarFrom D M a) (hft : Bt < M ∧ Bt ≠ D) (J Jx : List Nat → World → Prop)
    (hY : ∀ (pre : List Nat) (x : Nat) (W : World), J pre W → pre.length < (upN l k).length → YieldAt Fence.wide (n - 1) Try.prog q #[.int .i64 (x : Int)] W fun e W' =>
      (e = .returned (.bool true) ∧ J (pre ++ [x]) W' ∧ KX D M W W') ∨ (e = .returned (.bool false) ∧ Jx (pre ++ [x]) W'))
    (W : World) (hBt : W.cell? ⟨Bt, 0, none⟩ = some (.slice a l.length cap)) (hBn : W.cell? ⟨Bn, 0, none⟩ = some (.int .i64 k)) (hL : IntsAt W a l) (h0 : J [] W) :
    CallsIn Fence.wide n Try.prog 47 #[.func (.yield q) #[] #[], .pointer (some ⟨Bt, 0, none⟩), .pointer (some ⟨Bn, 0, none⟩)] W fun e W' => (∃ v, e = .returned v) ∧
      ((∃ ys, ys = upN l k ∧ J ys W') ∨ (∃ pre, pre <+: upN l k ∧ Jx pre W')) := by
  refine callsIn_of_wp Try.func47 rfl trivial ?_ rfl
  simp only [Try.ntmps47, List.size_toArray, List.length_cons, List.length_nil, Nat.reduceAdd, Nat.reduceSub, Array.replicate_succ, Array.replicate_zero, List.push_toArray, List.append_toArray, List.nil_append, List.cons_append]
  obtain ⟨g, off, rfl, hgw, q0⟩ := IntsAt.one hL k hk
  gi_wp2
  gi_loopw [4] (fun p wr => ∃ (pre : List Nat) (m : Nat) (u : Int), m < l.length ∧ l[m]? = some u ∧ p = .int .i64 u ∧ upN l k = pre ++ upN l m ∧ wr.cell? ⟨Bt, 0, none⟩ = some (.slice (some ⟨g, off, none⟩) l.length cap) ∧ IntsAt wr (some ⟨g, off, none⟩) l ∧ J pre wr) (fun p _ => (intOf p + 1).toNat)
  case atStart =>
    exact ⟨[], k, l[k], hk, List.getElem?_eq_getElem hk, rfl, rfl, hBt, hL, h0⟩
  case round =>
    obtain ⟨pre, m, u, hm, hu, rfl, hx, hct, hLr, hJs⟩ := hrel
    rw [List.getElem?_eq_getElem hm] at hu
    have hu' : l[m] = u := Option.some.inj hu
    clear hu q0
    by_cases hm0 : m = 0
    · subst hm0
      rw [hT.at_zero] at hu'
      subst hu'
      have HX := hide hx
      clear hx
      gi_wp2
      go_end0
      exact ⟨⟨_, rfl⟩, .inl ⟨pre, by rw [unhide HX, upN_zero]; simp, hJs⟩⟩
    · obtain ⟨h1, h2⟩ := hT.up m hm (by omega)
      have hup := upN_pos hT m hm (by omega)
      rw [hu'] at h1 h2 hup
      obtain ⟨c, rfl⟩ : ∃ c : Nat, u = (c : Int) := ⟨u.toNat, by omega⟩
      rw [Int.toNat_natCast] at hup
      rw [hup] at hx
      have HX := hide hx
      clear hx hup
      have hc : c < l.length := by omega
      obtain ⟨fn, tmps, assign, body, hy, hR⟩ := hY pre c wr hJs (by rw [unhide HX]; simp)
      have hne : ((c : Int) != -1) = true := by simp
      gi_wp2
      refine hR.mono ?_
      rintro e W3 (⟨rfl, hJ3, hk3⟩ | ⟨rfl, hJx3⟩)
      · have hct3 := (hk3.cell (o := 0) hft.1 hft.2).trans hct
        have hL3 := hk3.at hfa hLr
        obtain ⟨g', off', e', hgw', q3⟩ := IntsAt.one hL3 c hc
        cases e'
        have HL3 := hide hL3
        clear hL3 hLr hL
        gi_wp2
        go_roundw
        case rel => exact ⟨pre ++ [c], c, l[c], hc, List.getElem?_eq_getElem hc, rfl, by rw [unhide HX]; simp, hct3, unhide HL3, hJ3⟩
        case measure =>
          have : l[c] < (c : Int) ∨ l[c] = -1 := by
            by_cases hc0 : c = 0
            · subst hc0; exact .inr hT.at_zero
            · exact .inl (hT.up c hc (by omega)).2
          simp [intOf]; omega
      · gi_wp2
        refine bodyPost_ret (results_none rfl _ _ _) rfl ?_
        exact ⟨⟨_, rfl⟩, .inr ⟨pre ++ [c], ⟨upN l c, by rw [unhide HX]; simp⟩, hJx3⟩⟩

theorem above_stops (n : Nat) (hn : 1 ≤ n) (Bt Bn D M : Nat) (a : Option Addr) (cap : Nat) (l : List Int) (k : Nat) (hT : TreeP l) (hk : k < l.length) (hfa : FarFrom D M a) (hft : Bt < M ∧ Bt ≠ D) (w : World) (hM : M = w.heap.size) (hbn : Bn < M)
    (hBt : w.cell? ⟨Bt, 0, none⟩ = some (.slice a l.length cap)) (hBn : w.cell? ⟨Bn, 0, none⟩ = some (.int .i64 k)) (hL : IntsAt w a l) :
    SeqStopsK Fence.wide n Try.prog 47 #[.pointer (some ⟨Bt, 0, none⟩), .pointer (some ⟨Bn, 0, none⟩)] (fun x : Nat => #[Value.int .i64 (x : Int)]) (KX D M) (fun ys => ys = upN l k) (fun pre => pre <+: upN l k) (upN l k).length w :=
  fun q J Jx W hW _ _ hY h0 =>
    above1 n hn q Bt Bn D M a cap l k hT hk hfa hft J Jx hY W ((hW.cell (p := ⟨Bt, 0, none⟩) (by simp; omega)).trans hBt) ((hW.cell (p := ⟨Bn, 0, none⟩) (by simp; omega)).trans hBn) (GR.At.below hL hW) h0
theorem far_of {w : World} {a : Option Addr} {l : List Int} (h : IntsAt w a l) (hl : 0 < l.length) {D M : Nat} (hD : w.heap.size ≤ D) (hM : w.heap.size ≤ M) : FarFrom D M a := fun g off e => by
  obtain ⟨g', off', e', hg, _⟩ := h 0 hl
  rw [e] at e'
  cases e'
  exact ⟨by omega, by omega⟩
theorem box_new {W : World} {v : Value} {t : TypeId} : (W.alloc (.cells #[v] t)).cell? ⟨W.heap.size, 0, none⟩ = some v ∧ (W.alloc (.cells #[v] t)).frozen? ⟨W.heap.size, 0, none⟩ = false := one_at (heap_alloc_new W _)
theorem box_old {W W' : World} {b : Nat} {v : Value} (hb : Below W.heap.size W W') (h : W.cell? ⟨b, 0, none⟩ = some v ∧ W.frozen? ⟨b, 0, none⟩ = false) : W'.cell? ⟨b, 0, none⟩ = some v ∧ W'.frozen? ⟨b, 0, none⟩ = false := by
  have hl : b < W.heap.size := World.block_lt_of_cell? _ _ h.1
  exact ⟨(hb.cell (p := ⟨b, 0, none⟩) hl).trans h.1, (hb.frozen (p := ⟨b, 0, none⟩) hl).trans h.2⟩
end Go.Proofs.Ytccpcmhideijpaa
