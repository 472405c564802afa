/-
  The laws' own helpers: the text that marks a place, by its number.
-/
import Derived.Test.YtdlhlfndobbocaaGreatDecS
import Derived.Test.YtdlhlfndobbocaaGreatBytes
namespace Go.Proofs.YtdlhlfndobbocaaGreat
open Go.RowKit
open Go.Lib (decDigits)

/-- The mark of a number above 0. -/
def mark (k : Nat) : ByteArray := ⟨(109 :: decDigits k).toArray⟩
theorem one_add (b : UInt8) (l : List UInt8) : (ByteArray.mk #[b]) ++ ⟨l.toArray⟩ = ⟨(b :: l).toArray⟩ := by
  apply ByteArray.ext; simp
theorem conv_one (w : World) (z : Int) (b : UInt8) (hz : z = b.toNat) (cap : Nat) : (convert 108 9 (.slice (some ⟨w.heap.size, 0, none⟩) 1 cap)).run Tryz.prog (w.alloc (.cells #[.int .u8 z] 5)) = .ok (.string ⟨#[b]⟩) (w.alloc (.cells #[.int .u8 z] 5)) := by
  subst hz
  have := run_convert_bytes_back (P := Tryz.prog) (w.alloc (.cells #[.int .u8 (b.toNat : Int)] 5)) 108 9 5 ⟨w.heap.size, 0, none⟩ cap [b] Tryz.underlying108 Tryz.underlying5 Tryz.underlying9 (fun j hj => by
    have : j = 0 := by simpa using hj
    subst this; simp [Addr.add])
  simpa using this

set_option maxHeartbeats 1000000 in
set_option maxRecDepth 100000 in
theorem markText (k : Nat) (w : World) (h0 : 0 < k) (hk : (k : Int) ≤ 9223372036854775807) :
    Calls Tryz.prog 38 #[.int .i64 k] w fun e w' => e = .returned (.string (mark k)) ∧ Below w.heap.size w w' := by
  have hlen : (decDigits k).length ≤ 21 := by have := Lib.itoa_length_le k (by omega) hk; rw [Lib.itoa, if_neg (by omega)] at this; simpa using this
  have hpos : decide ((k : Int) ≤ 0) = false := by simp; omega
  go_enter Tryz.func38, Tryz.ntmps38
  go_wp2
  go_loopw [0, 3] (fun m o wr => ∃ (a : Nat) (l : List UInt8), a ≤ k ∧ m = .int .i64 a ∧ o = .string ⟨l.toArray⟩ ∧ leftDigits a ++ l = decDigits k ∧ Below w.heap.size w wr) (fun m _ _ => (intOf m).toNat)
  case atStart => exact ⟨k, [], Nat.le_refl _, rfl, rfl, by unfold leftDigits; rw [if_neg (by omega)]; simp, Below.refl _ _⟩
  case round =>
    obtain ⟨a, l, ha, rfl, rfl, hl, hbel⟩ := hrel
    have HL := hide hl
    have hll : l.length ≤ 21 := by have := congrArg List.length hl; rw [List.length_append] at this; omega
    clear hl
    by_cases hz : a = 0
    · subst hz
      have HE := hide (show l = decDigits k by have := unhide HL; simpa [leftDigits] using this)
      have hA := hide (one_add 109 l)
      clear HL
      go_wp2
      go_ret
      exact ⟨ret_string (by unfold mark; rw [← unhide HE]; exact unhide hA), hbel⟩
    · have HS := hide (left_step a l _ hz (unhide HL))
      obtain ⟨b, hb⟩ : ∃ b, b = UInt8.ofNat (48 + a % 10) := ⟨_, rfl⟩
      rw [← hb] at HS
      have hA := hide (one_add b l)
      have hconv := conv_one wr (48 + (a : Int) % 10) b (by rw [hb, Mth.toNat_byte _ (by omega)]; omega) 1
      clear HL hb
      go_wp2
      go_roundw
      case rel => exact ⟨a / 10, _, by omega, by go_num, by rw [unhide hA], unhide HS, by first | exact hbel.alloc (by have := hbel.size; omega) _ | exact (hbel.alloc (by have := hbel.size; omega) _).drew⟩
      case measure => simp [intOf]; omega
end Go.Proofs.YtdlhlfndobbocaaGreat
