/-
  An operation's bytes, in plain terms.
-/
import Derived.Test.YtiinpdkgnflmeaaDoorNdOpM
import Derived.Test.YtiinpdkgnflmeaaDoorMgPutD
namespace Go.Proofs.YtiinpdkgnflmeaaDoor
open Go.RowKit
open Mth

/-- An operation's bytes. -/
def opBytes (o : Op5) : ByteArray := kb o.K ++ putS o.no ++ putT o.k ++ putS o.n ++ putT (putMsg o.m)
def putOp (o : Op5) : ByteArray := if opOk o = true then opBytes o else ByteArray.empty
theorem putOp_yes {o : Op5} (h : opOk o = true) : putOp o = opBytes o := by unfold putOp; rw [if_pos h]
theorem putOp_no {o : Op5} (h : opOk o = false) : putOp o = ByteArray.empty := by unfold putOp; rw [if_neg (by rw [h]; simp)]
theorem opKind_in {o : Op5} (h : opOk o = true) : 0 ≤ o.K ∧ o.K ≤ 6 := by
  unfold opOk at h
  split at h
  · omega
  · split at h
    · omega
    · split at h
      · omega
      · split at h
        · omega
        · split at h
          · omega
          · cases h
theorem opBytes_pos (o : Op5) : 0 < (opBytes o).size := by
  unfold opBytes
  simp only [ByteArray.size_append, kb_size]
  omega
theorem opBytes_le (o : Op5) : (opBytes o).size ≤ 2025 := by
  unfold opBytes
  have s1 := putS_size o.no
  have s2 := putT_size o.k
  have s3 := putS_size o.n
  have s4 := putT_size (putMsg o.m)
  simp only [ByteArray.size_append, kb_size]
  omega
theorem conv_kind6 (w : World) (g : Nat) (K : Int) (h : 0 ≤ K ∧ K ≤ 6) (hc : w.cell? ⟨g, 0, none⟩ = some (.int .u8 K)) : (convert 68 9 (.slice (some ⟨g, 0, none⟩) 1 1)).run Tryd.prog w = .ok (.string (kb K)) w := by
  refine run_convert_bytes_back (P := Tryd.prog) w 68 9 5 ⟨g, 0, none⟩ 1 [UInt8.ofNat K.toNat] Tryd.underlying68 Tryd.underlying5 Tryd.underlying9 ?_
  intro j hj
  obtain rfl : j = 0 := by simpa using hj
  show w.cell? ⟨g, 0, none⟩ = _
  rw [hc]
  simp only [List.getElem_cons_zero]
  rw [toNat_byte _ (by omega)]
  congr 2
  omega
theorem wrap_kind6 (K : Int) (h0 : 0 ≤ K) (h6 : K ≤ 6) : IntKind.u8.wrap K = K := by
  have h3 : K = 0 ∨ K = 1 ∨ K = 2 ∨ K = 3 ∨ K = 4 ∨ K = 5 ∨ K = 6 := by omega
  rcases h3 with rfl | rfl | rfl | rfl | rfl | rfl | rfl <;> rfl
theorem elevenP {w : World} {g : Nat} {v0 v1 v2 v3 v4 v5 v6 v7 v8 v9 v10 : Value} {t : TypeId} (h : w.heap[g]? = some (.cells #[v0, v1, v2, v3, v4, v5, v6, v7, v8, v9, v10] t (0, 0))) :
    w.cell? ⟨g, 0, none⟩ = some v0 ∧ w.cell? ⟨g, 1, none⟩ = some v1 ∧ w.cell? ⟨g, 2, none⟩ = some v2 ∧ w.cell? ⟨g, 3, none⟩ = some v3 ∧ w.cell? ⟨g, 4, none⟩ = some v4 ∧ w.cell? ⟨g, 5, none⟩ = some v5 ∧ w.cell? ⟨g, 6, none⟩ = some v6 ∧ w.cell? ⟨g, 7, none⟩ = some v7 ∧ w.cell? ⟨g, 8, none⟩ = some v8 ∧ w.cell? ⟨g, 9, none⟩ = some v9 ∧ w.cell? ⟨g, 10, none⟩ = some v10 := by
  have hc : ∀ i, w.cell? ⟨g, i, none⟩ = #[v0, v1, v2, v3, v4, v5, v6, v7, v8, v9, v10][i]? := fun i => cell_of_row w g i _ t (0, 0) h
  exact ⟨hc 0, hc 1, hc 2, hc 3, hc 4, hc 5, hc 6, hc 7, hc 8, hc 9, hc 10⟩
end Go.Proofs.YtiinpdkgnflmeaaDoor
