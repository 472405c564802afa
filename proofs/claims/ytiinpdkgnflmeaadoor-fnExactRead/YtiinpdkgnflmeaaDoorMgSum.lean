/-
  The four bytes of a sum, the highest first: the model's l04Word, the program's sumBytes.
-/
import Derived.Test.YtiinpdkgnflmeaaDoorSums
import Derived.Test.YtiinpdkgnflmeaaDoorBytes
import Derived.Test.YtiinpdkgnflmeaaDoorMgI
namespace Go.Proofs.YtiinpdkgnflmeaaDoor
open Go.RowKit
open Mth

def sumN (s : ByteArray) : Nat := 65536 * (sums s.data.toList).2 + (sums s.data.toList).1
theorem sumN_lt (s : ByteArray) : sumN s < 4294967296 := by
  have := sums_lt s.data.toList
  unfold sumN
  omega
/-- The four bytes of a number below 2^32. -/
def four (n : Nat) : List UInt8 := [UInt8.ofNat (n / 16777216), UInt8.ofNat (n / 65536 % 256), UInt8.ofNat (n / 256 % 256), UInt8.ofNat (n % 256)]
def wordB (n : Nat) : ByteArray := ⟨(four n).toArray⟩
theorem wordB_size (n : Nat) : (wordB n).size = 4 := rfl
theorem conv_four (w : World) (g n cap : Nat) (h : n < 4294967296) (c0 : w.cell? ⟨g, 0, none⟩ = some (.int .u8 ((n : Int) / 16777216))) (c1 : w.cell? ⟨g, 1, none⟩ = some (.int .u8 ((n : Int) / 65536 % 256)))
    (c2 : w.cell? ⟨g, 2, none⟩ = some (.int .u8 ((n : Int) / 256 % 256))) (c3 : w.cell? ⟨g, 3, none⟩ = some (.int .u8 ((n : Int) % 256))) :
    (convert 68 9 (.slice (some ⟨g, 0, none⟩) 4 cap)).run Tryd.prog w = .ok (.string (wordB n)) w := by
  refine run_convert_bytes_back (P := Tryd.prog) w 68 9 5 ⟨g, 0, none⟩ cap (four n) Tryd.underlying68 Tryd.underlying5 Tryd.underlying9 ?_
  intro j hj
  have hj4 : j < 4 := hj
  have hcase : j = 0 ∨ j = 1 ∨ j = 2 ∨ j = 3 := by omega
  rcases hcase with rfl | rfl | rfl | rfl
  · show w.cell? ⟨g, 0, none⟩ = _
    rw [c0]; simp only [four, List.getElem_cons_zero]; rw [toNat_byte _ (by omega)]; rfl
  · show w.cell? ⟨g, 1, none⟩ = _
    rw [c1]; simp only [four, List.getElem_cons_succ, List.getElem_cons_zero]; rw [toNat_byte _ (by omega)]; rfl
  · show w.cell? ⟨g, 2, none⟩ = _
    rw [c2]; simp only [four, List.getElem_cons_succ, List.getElem_cons_zero]; rw [toNat_byte _ (by omega)]; rfl
  · show w.cell? ⟨g, 3, none⟩ = _
    rw [c3]; simp only [four, List.getElem_cons_succ, List.getElem_cons_zero]; rw [toNat_byte _ (by omega)]; rfl

set_option maxRecDepth 100000 in
set_option maxHeartbeats 2000000 in
theorem l04Word (n : Nat) (h : n < 4294967296) (w : World) : Calls Tryd.prog 26 #[.int .u32 n] w fun e w' => e = .returned (.string (wordB n)) ∧ Below w.heap.size w w' := by
  have hcv := conv_four (w.alloc (.cells #[.int .u8 ((n : Int) / 16777216), .int .u8 ((n : Int) / 65536 % 256), .int .u8 ((n : Int) / 256 % 256), .int .u8 ((n : Int) % 256)] 5)) w.heap.size n 4 h (by simp) (by simp) (by simp) (by simp)
  go_enter Tryd.func26, Tryd.ntmps26
  go_wp2_with fail
  go_ret
  exact ⟨rfl, below_one w _⟩

set_option maxRecDepth 100000 in
set_option maxHeartbeats 2000000 in
theorem sumBytes (s : ByteArray) (hs : s.size ≤ maxLen) (w : World) : Calls Tryd.prog 61 #[.string s] w fun e w' => ∃ g, e = .returned (.slice (some ⟨g, 0, none⟩) 4 4) ∧ w.heap.size ≤ g ∧ w'.heap[g]? = some (.cells #[.int .u8 ((sumN s : Int) / 16777216), .int .u8 ((sumN s : Int) / 65536 % 256), .int .u8 ((sumN s : Int) / 256 % 256), .int .u8 ((sumN s : Int) % 256)] 5 (0, 0)) ∧ Below w.heap.size w w' := by
  have hn := sumN_lt s
  have HC := hide (fun w1 => implCheckSum s w1 hs)
  have e : (65536 * (sums s.data.toList).2 + (sums s.data.toList).1 : Int) = (sumN s : Int) := by unfold sumN; omega
  rw [e] at HC
  clear e hs
  generalize sumN s = n at *
  go_enter Tryd.func61, Tryd.ntmps61
  go_wp2_with fail
  refine (unhide HC _).mono ?_
  rintro e w1 ⟨rfl, rfl⟩
  go_wp2_with fail
  go_ret
  exact ⟨w.heap.size, rfl, Nat.le_refl _, heap_alloc_new w _, below_one w _⟩
end Go.Proofs.YtiinpdkgnflmeaaDoor
