/-
  What the model's functions on demand come to, in plain numbers.
-/
import Derived.Test.YtmflajfddjnmhaaDmMath
import Derived.OneCell
namespace Go.Proofs.Ytmflajfddjnmhaa
open Go.RowKit
open Mth

theorem dm_one (w : World) (o : Obj) : Below w.heap.size w (w.alloc o) := (Below.refl _ _).alloc (Nat.le_refl _) _
theorem dm_lt {w : World} {g : Nat} {o : Obj} (h : w.heap[g]? = some o) : g < w.heap.size := by
  rcases Nat.lt_or_ge g w.heap.size with h' | h'
  · exact h'
  · rw [Array.getElem?_eq_none h'] at h; cases h
/-- A block stays behind a call that makes memory alone. -/
theorem dm_step {w w' : World} {g : Nat} {o : Obj} (h : w.heap[g]? = some o) (hb : Below w.heap.size w w') : w'.heap[g]? = some o := by
  rw [hb.block g (dm_lt h)]
  exact h
/-- What a block of three cells reads as. -/
theorem dm_at {w : World} {g : Nat} {a0 a1 a2 : Value} {t : TypeId} (h : w.heap[g]? = some (.cells #[a0, a1, a2] t (0, 0))) :
    (w.cell? ⟨g, 0, none⟩ = some a0 ∧ w.cell? ⟨g, 1, none⟩ = some a1 ∧ w.cell? ⟨g, 2, none⟩ = some a2) ∧
      w.frozen? ⟨g, 0, none⟩ = false ∧ w.frozen? ⟨g, 1, none⟩ = false ∧ w.frozen? ⟨g, 2, none⟩ = false := by
  have hc : ∀ i, w.cell? ⟨g, i, none⟩ = #[a0, a1, a2][i]? := fun i => cell_of_row w g i _ t (0, 0) h
  have hf : ∀ i, w.frozen? ⟨g, i, none⟩ = false := fun i => by unfold World.frozen?; rw [h]; simp
  exact ⟨⟨hc 0, hc 1, hc 2⟩, hf 0, hf 1, hf 2⟩
theorem dm_set {w : World} {c : Nat} {cs : Array Value} {t : TypeId} (h : w.heap[c]? = some (.cells cs t (0, 0))) (i : Nat) (v : Value) : (w.setCell ⟨c, i, none⟩ v).heap[c]? = some (.cells (cs.setIfInBounds i v) t (0, 0)) := by
  unfold World.setCell
  simp only [Array.getElem?_modify]
  rw [if_pos trivial, h]
  rfl
/-- Two blocks laid one behind the other, behind calls that make memory alone. -/
theorem dm_two {w w1 : World} {A B : Obj} (hb : Below ((w.alloc A).alloc B).heap.size ((w.alloc A).alloc B) w1) :
    w1.heap[w.heap.size]? = some A ∧ w1.heap[w.heap.size + 1]? = some B ∧ w.heap.size + 1 < w1.heap.size ∧ Below w.heap.size w w1 := by
  have hs : ((w.alloc A).alloc B).heap.size = w.heap.size + 1 + 1 := by simp
  have hz := hb.size
  refine ⟨?_, ?_, by omega, (((Below.refl _ _).alloc (Nat.le_refl _) _).alloc (by simp) _).trans (hb.mono (by omega))⟩
  · rw [hb.block _ (by omega), Below.heap_alloc _ _ _ (by simp)]
    exact heap_alloc_new w A
  · rw [hb.block _ (by omega)]
    have h := heap_alloc_new (w.alloc A) B
    rwa [show (w.alloc A).heap.size = w.heap.size + 1 by simp] at h
theorem dm_post {P : Program} {fn : Func} {Q : Ending → World → Prop} {x : Exit} {act : Act} {W : World} (h : ∀ W', W' = W → bodyPost P fn Q x act W') : bodyPost P fn Q x act W := h W rfl
theorem dm_true {p : Prop} [Decidable p] (h : p) : Ending.returned (.bool true) = .returned (.bool (decide p)) := by rw [decide_eq_true h]
theorem dm_false {p : Prop} [Decidable p] (h : ¬ p) : Ending.returned (.bool false) = .returned (.bool (decide p)) := by rw [decide_eq_false h]
theorem dm_dec {p q : Prop} [Decidable p] [Decidable q] (h : p ↔ q) : Ending.returned (.bool (decide p)) = .returned (.bool (decide q)) := by rw [decide_eq_decide.2 h]
theorem dm_int {a b : Int} (h : a = b) : Ending.returned (.int .i64 a) = .returned (.int .i64 b) := by rw [h]

set_option maxRecDepth 100000 in
set_option maxHeartbeats 2000000 in
theorem specDemandOk (d : Dm) (w : World) : Calls Try.prog 26 #[dmv d] w fun e w' => e = .returned (.bool (decide d.Ok)) ∧ Below w.heap.size w w' := by
  obtain ⟨A, C, O⟩ := d
  have HB := hide (fun o => dm_one w o)
  have HD := hide (show Dm.Ok ⟨A, C, O⟩ ↔ Inn A 0 16000000000 ∧ Inn C 0 1000000000 ∧ Inn O 0 1000000000 from Iff.rfl)
  by_cases h1 : Inn A 0 16000000000
  · have g1 := decide_eq_true h1
    by_cases h2 : Inn C 0 1000000000
    · have g2 := decide_eq_true h2
      have H1 := hide h1
      have H2 := hide h2
      clear h1 h2
      go_enter Try.func26, Try.ntmps26
      go_wp2_with (first | (go_at_call 39; refine (l01InB _ _ _ _).mono ?_; rintro e w1 ⟨rfl, rfl⟩) | (go_at_call 37; refine (l01Amount _ _).mono ?_; rintro e w1 ⟨rfl, rfl⟩))
      go_ret
      exact ⟨dm_dec ⟨fun h => (unhide HD).2 ⟨unhide H1, unhide H2, h⟩, fun h => ((unhide HD).1 h).2.2⟩, unhide HB _⟩
    · have g2 := decide_eq_false h2
      have H2 := hide h2
      clear h1 h2
      go_enter Try.func26, Try.ntmps26
      go_wp2_with (first | (go_at_call 39; refine (l01InB _ _ _ _).mono ?_; rintro e w1 ⟨rfl, rfl⟩) | (go_at_call 37; refine (l01Amount _ _).mono ?_; rintro e w1 ⟨rfl, rfl⟩))
      go_ret
      exact ⟨dm_false (fun h => unhide H2 ((unhide HD).1 h).2.1), unhide HB _⟩
  · have g1 := decide_eq_false h1
    have H1 := hide h1
    clear h1
    go_enter Try.func26, Try.ntmps26
    go_wp2_with (first | (go_at_call 39; refine (l01InB _ _ _ _).mono ?_; rintro e w1 ⟨rfl, rfl⟩) | (go_at_call 37; refine (l01Amount _ _).mono ?_; rintro e w1 ⟨rfl, rfl⟩))
    go_ret
    exact ⟨dm_false (fun h => unhide H1 ((unhide HD).1 h).1), unhide HB _⟩

theorem l11Most (n : Int) (w : World) : Calls Try.prog 38 #[.int .i64 n] w fun e w' => e = .returned (.int .i64 (most n)) ∧ w = w' := by
  by_cases h : n > 1000000000
  · have HM := hide (show most n = 1000000000 from if_pos h)
    have g : decide (1000000000 < n) = true := decide_eq_true h
    go_enter Try.func38, Try.ntmps38
    go_wp2
    go_ret
    exact ⟨dm_int (unhide HM).symm, rfl⟩
  · have HM := hide (show most n = n from if_neg h)
    have g : decide (1000000000 < n) = false := decide_eq_false h
    go_enter Try.func38, Try.ntmps38
    go_wp2
    go_ret
    exact ⟨dm_int (unhide HM).symm, rfl⟩
end Go.Proofs.Ytmflajfddjnmhaa
