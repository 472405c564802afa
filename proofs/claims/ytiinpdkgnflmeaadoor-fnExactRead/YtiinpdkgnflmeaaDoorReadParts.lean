/-
  What GetNum and GetText hand back, part by part; what was read was put so.
-/
import Derived.Test.YtiinpdkgnflmeaaDoorNumsMath
import Derived.Test.YtiinpdkgnflmeaaDoorGetTextI
import Derived.Test.YtiinpdkgnflmeaaDoorPutAnyS
namespace Go.Proofs.YtiinpdkgnflmeaaDoor
open Go.RowKit

/-- The two results of GetNum, each by itself. -/
def numN (o : Option (Nat × Nat)) : Int := match o with | none => 0 | some (n, _) => n
def numT (o : Option (Nat × Nat)) (i : Int) : Int := match o with | none => -1 | some (_, c) => i + c
theorem getRes_two (o : Option (Nat × Nat)) (i : Int) : getRes o i = .tuple #[.int .i64 (numN o), .int .i64 (numT o i)] := by cases o <;> rfl
def txtS (o : Option (ByteArray × Nat)) : ByteArray := match o with | none => ByteArray.empty | some (t, _) => t
def txtE (o : Option (ByteArray × Nat)) : Int := match o with | none => -1 | some (_, b) => b
theorem textRes_two (o : Option (ByteArray × Nat)) : textRes o = .tuple #[.string (txtS o), .int .i64 (txtE o)] := by cases o <;> rfl

/-- What was read was put so. -/
theorem read_put {s : ByteArray} {i : Int} {n c : Nat} (h : getAt s i = some (n, c)) : ∃ k : Nat, i = k ∧ k + c ≤ s.size ∧ 0 < c ∧ n ≤ 4000000000 ∧ (putS n).toList = (s.extract k (k + c)).toList := by
  obtain ⟨k, rfl, hg, hn, hk⟩ := get_some_nat h
  have hb := Mth.get_bound _ _ _ _ hg
  refine ⟨k, rfl, hk, hb.2.1, hn, ?_⟩
  unfold putS
  rw [if_pos (by omega), Int.toNat_natCast, ByteArray.toList_mk, Lib.extract_toList, Mth.get_was_put _ _ _ _ hg]
  congr 1; omega
theorem read_text {s : ByteArray} {i : Int} {t : ByteArray} {e : Nat} (h : textOf s i.toNat (getAt s i) = some (t, e)) : ∃ k : Nat, i = k ∧ k < e ∧ e ≤ s.size ∧ t.size ≤ 1000 ∧ (putT t).toList = (s.extract k e).toList := by
  cases hG : getAt s i with
  | none => rw [hG] at h; simp [textOf] at h
  | some p =>
    obtain ⟨n, c⟩ := p
    obtain ⟨k, rfl, hk, hc, hn, hput⟩ := read_put hG
    rw [hG, Int.toNat_natCast] at h
    unfold textOf at h
    simp only at h
    split at h
    · cases h
    · rename_i hbad
      simp only [Option.some.injEq, Prod.mk.injEq] at h
      obtain ⟨rfl, rfl⟩ := h
      have hsz : (s.extract (k + c) (k + c + n)).size = n := by rw [ByteArray.size_extract]; omega
      refine ⟨k, rfl, by omega, by omega, by omega, ?_⟩
      unfold putT
      rw [if_pos (by omega)]
      unfold putText
      rw [ByteArray.toList_mk, hsz]
      have e1 : Mth.put n = (s.extract k (k + c)).toList := by
        rw [← hput]; unfold putS; rw [if_pos (by omega), Int.toNat_natCast, ByteArray.toList_mk]
      rw [e1, Lib.extract_toList, Lib.extract_data, Lib.extract_toList]
      have h1 : k + c - k = c := by omega
      have h2 : k + c + n - (k + c) = n := by omega
      have h3 : k + c + n - k = c + n := by omega
      rw [h1, h2, h3, ← List.drop_drop, List.take_add]
end Go.Proofs.YtiinpdkgnflmeaaDoor
