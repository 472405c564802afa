/-
  The laws' own helpers: the text that marks a place, by its number.
-/
import Derived.Test.YtccpcmhideijpaaDoorDecS
import Derived.Test.YtccpcmhideijpaaDoorBytes
namespace Go.Proofs.YtccpcmhideijpaaDoor
open Go.RowKit
open Go.Lib (decDigits)

/-- The mark of a number above 0. -/
def mark (k : Nat) : ByteArray := ⟨(109 :: decDigits k).toArray⟩
theorem one_add (b : UInt8) (l : List UInt8) : (ByteArray.mk #[b]) ++ ⟨l.toArray⟩ = ⟨(b :: l).toArray⟩ := by
  apply ByteArray.ext; simp
theorem conv_one (w : World) (z : Int) (b : UInt8) (hz : z = b.toNat) (cap : Nat) : (convert 54 9 (.slice (some ⟨w.heap.size, 0, none⟩) 1 cap)).run Tryd.prog (w.alloc (.cells #[.int .u8 z] 5)) = .ok (.string ⟨#[b]⟩) (w.alloc (.cells #[.int .u8 z] 5)) := by
  subst hz
  have := run_convert_bytes_back (P := Tryd.prog) (w.alloc (.cells #[.int .u8 (b.toNat : Int)] 5)) 54 9 5 ⟨w.heap.size, 0, none⟩ cap [b] Tryd.underlying54 Tryd.underlying5 Tryd.underlying9 (fun j hj => by
    have : j = 0 := by simpa using hj
    subst this; simp [Addr.add])
  simpa using this

end Go.Proofs.YtccpcmhideijpaaDoor
