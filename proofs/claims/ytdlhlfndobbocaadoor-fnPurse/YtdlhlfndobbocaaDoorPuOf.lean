/-
  What the model's PurseOf and Holding come to.
-/
import Derived.Test.YtdlhlfndobbocaaDoorPuS
namespace Go.Proofs.YtdlhlfndobbocaaDoor
open Go.RowKit
open Mth

set_option maxRecDepth 100000 in
set_option maxHeartbeats 2000000 in
theorem specPurseOf (a : Option Addr) (cap : Nat) (l : List Pu) (key : ByteArray) (w : World) (hl : l.length ≤ 1048600) (ha : PursesAt w a l) :
    Calls Tryd.prog 25 #[.slice a l.length cap, .string key] w fun e w' => e = .returned (puv (purseOf l key)) ∧ Below w.heap.size w w' := by
  have HA := hide ha
  clear ha
  go_enter Tryd.func25, Tryd.ntmps25
  go_wp2_with fail
  go_loopw [5] (fun i wr => ∃ k : Nat, k ≤ l.length ∧ i = .int .i64 k ∧ (l.take k).find? (fun p => p.k.toList == key.toList) = none ∧ wr = w.alloc (.cells #[.string ⟨#[]⟩, .int .i64 0, .int .i64 0, .int .i64 0] 32)) (fun i _ => l.length - (intOf i).toNat)
  case atStart => exact ⟨0, Nat.zero_le _, rfl, rfl, rfl⟩
  case round =>
    obtain ⟨k, hk, rfl, hnone, rfl⟩ := hrel
    have HN := hide hnone
    clear hnone
    by_cases hlt : k < l.length
    · obtain ⟨g, off, rfl, hgw, c0, c1, c2, c3⟩ := PursesAt.four (unhide HA) k hlt
      have hfs := find_step (fun p => p.k.toList == key.toList) l k hlt (unhide HN)
      cases hf : l[k].k.toList == key.toList
      · have HX := hide (hfs.2 hf)
        clear hfs HN
        generalize l[k] = pu at *
        obtain ⟨pk, pm, pf, ps⟩ := pu
        dsimp only at c0 c1 c2 c3 hf
        go_wp2_with fail
        go_roundw
        case rel => exact ⟨k + 1, by omega, by go_num, unhide HX, by first | rfl | trivial⟩
        case measure => simp [intOf]; omega
      · have HX := hide (show purseOf l key = l[k] by unfold purseOf; rw [hfs.1 hf]; rfl)
        clear hfs HN
        generalize l[k] = pu at *
        obtain ⟨pk, pm, pf, ps⟩ := pu
        dsimp only at c0 c1 c2 c3 hf
        go_wp2_with fail
        refine bodyPost_ret (v := .agg #[.string pk, .int .i64 pm, .int .i64 pf, .int .i64 ps]) (by simp [results, Tryd.results25, go_sem]) rfl ⟨by rw [unhide HX], ?_⟩
        exact (Below.refl _ _).alloc (Nat.le_refl _) _
    · have hke : k = l.length := by omega
      subst hke
      have hnlt : decide ((l.length : Int) < (l.length : Int)) = false := by simp
      have HX := hide (show purseOf l key = ⟨key, 0, 0, 0⟩ by
        have h := unhide HN
        rw [List.take_length] at h
        unfold purseOf
        rw [h]
        rfl)
      go_wp2_with fail
      refine bodyPost_ret (v := .agg #[.string key, .int .i64 0, .int .i64 0, .int .i64 0]) (by simp [results, Tryd.results25, go_sem]) rfl ⟨by rw [unhide HX], ?_⟩
      exact (Below.refl _ _).alloc (Nat.le_refl _) _

theorem four_at {w : World} {g : Nat} {a0 a1 a2 a3 : Value} {t : TypeId} (h : w.heap[g]? = some (.cells #[a0, a1, a2, a3] t (0, 0))) :
    (w.cell? ⟨g, 0, none⟩ = some a0 ∧ w.cell? ⟨g, 1, none⟩ = some a1 ∧ w.cell? ⟨g, 2, none⟩ = some a2 ∧ w.cell? ⟨g, 3, none⟩ = some a3) ∧ (w.frozen? ⟨g, 0, none⟩ = false ∧ w.frozen? ⟨g, 1, none⟩ = false ∧ w.frozen? ⟨g, 2, none⟩ = false ∧ w.frozen? ⟨g, 3, none⟩ = false) := by
  have hc : ∀ i, w.cell? ⟨g, i, none⟩ = #[a0, a1, a2, a3][i]? := fun i => cell_of_row w g i _ t (0, 0) h
  have hf : ∀ i, w.frozen? ⟨g, i, none⟩ = false := fun i => by unfold World.frozen?; rw [h]; simp
  exact ⟨⟨hc 0, hc 1, hc 2, hc 3⟩, hf 0, hf 1, hf 2, hf 3⟩

set_option maxRecDepth 100000 in
set_option maxHeartbeats 1000000 in
theorem specHolding (a : Option Addr) (cap : Nat) (l : List Pu) (key : ByteArray) (w : World) (hl : l.length ≤ 1048600) (ha : PursesAt w a l) :
    Calls Tryd.prog 27 #[.slice a l.length cap, .string key] w fun e w' => e = .returned (.int .i64 (wrap64 ((purseOf l key).f + (purseOf l key).s))) ∧ Below w.heap.size w w' := by
  have HP := hide (specPurseOf a cap l key w hl ha)
  clear ha
  generalize purseOf l key = p at *
  obtain ⟨pk, pm, pf, ps⟩ := p
  go_enter Tryd.func27, Tryd.ntmps27
  go_wp2_with fail
  refine (unhide HP).mono ?_
  rintro e w1 ⟨rfl, hb1⟩
  go_wp2_with fail
  go_ret
  exact ⟨rfl, hb1.alloc hb1.size _⟩
end Go.Proofs.YtdlhlfndobbocaaDoor
