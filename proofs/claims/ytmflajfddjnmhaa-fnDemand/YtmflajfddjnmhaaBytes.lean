/-
  Small laws of ours on a row of bytes that a call has made: read back as a text.
-/
import Derived.Test.YtmflajfddjnmhaaBase
import Derived.Laws.IdiomStrings
import Derived.Laws.BytesString
namespace Go.Proofs.Ytmflajfddjnmhaa
open Go.RowKit

/-- A byte as a cell's value. -/
def bv (c : UInt8) : Value := .int .u8 (c.toNat : Int)

theorem bv_of (n : Nat) (h : n < 256) : Value.int .u8 (n : Int) = bv (UInt8.ofNat n) := by
  unfold bv; rw [Mth.toNat_byte n h]
theorem bv_one (l : List UInt8) : ∀ u ∈ l.map bv, u.oneCell' = true := by
  intro u hu; simp only [List.mem_map] at hu; obtain ⟨c, _, rfl⟩ := hu; rfl

/-- 'string(b)' of a row of the call's own. -/
theorem conv_owned {P : Program} {w : World} {base : Nat} {e : TypeId} {v : Value} {l : List UInt8} (src dst : TypeId) (hs : P.underlying src = some (.slice e)) (he : P.underlying e = some (.int .u8)) (hd : P.underlying dst = some .string)
    (h : w.ownsRow base e 1 v l.length (l.map bv)) : (convert src dst v).run P w = .ok (.string ⟨l.toArray⟩) w := by
  rcases h.2 with ⟨rfl, hn⟩ | ⟨g, cap, cur, rfl, _⟩
  · rw [run_convert_bytes_string w src dst e none 0 0 hs he hd]
    have : l = [] := List.length_eq_zero_iff.1 hn
    subst this
    rfl
  · apply run_convert_bytes_back w src dst e _ cap l hs he hd
    intro j hj
    exact h.cells rfl j (bv l[j]) (by simp [hj])

/-- A byte more in a row of the call's own. -/
theorem own_snoc {w : World} {base : Nat} {e : TypeId} {v : Value} {l : List UInt8} {z : Int} (b : UInt8) (hz : z = b.toNat) (h : w.ownsRow base e 1 v (l.length + 1) (l.map bv ++ [.int .u8 z])) :
    w.ownsRow base e 1 v (l ++ [b]).length ((l ++ [b]).map bv) := by
  subst hz
  have e1 : (l ++ [b]).map bv = l.map bv ++ [.int .u8 (b.toNat : Int)] := by simp [bv]
  rw [e1]; simpa using h
/-- Below stays so behind an append to a row of the call's own. -/
theorem below_append {w wr w1 : World} {e : TypeId} {v : Value} {n : Nat} {xs : List Value} {o : Obj} (hb : Below w.heap.size w wr) (hown : wr.ownsRow w.heap.size e 1 v n xs) (hg : (wr.alloc o).grownBy w1 v.ownBlock) : Below w.heap.size w w1 :=
  (hb.alloc (by have := hb.size; omega) o).grown hg (by have := hb.size; simp; omega) (fun k hk => (hown.lt k hk).1)
end Go.Proofs.Ytmflajfddjnmhaa
