/-
  A number that was read, as its text again; a text as bytes, one of them written over, and as a text again.
-/
import Derived.Test.YthjpjamihlopeaaDoorSumsParts
import Derived.Test.YthjpjamihlopeaaDoorNumsLaw
import Derived.Test.YthjpjamihlopeaaDoorSums
import Derived.Test.YthjpjamihlopeaaDoorKeyImpl
import Derived.Test.YthjpjamihlopeaaDoorReadDecI
import Derived.Test.YthjpjamihlopeaaDoorDec
import Derived.Test.YthjpjamihlopeaaDoorWordsI
import Derived.Laws.IdiomStrings
import Derived.Lib.AppendIntMem
namespace Go.Proofs.YthjpjamihlopeaaDoor
open Go.RowKit
open Go.Lib (decDigits itoa)

/-- A number that was read comes back as the text that it was read from. -/
theorem dec_back (s : ByteArray) (h : 0 ≤ readDec s.data.toList) : (⟨(itoa (readDec s.data.toList)).toArray⟩ : ByteArray) = s ∧ readDec s.data.toList ≤ 999999999 := by
  by_cases hd : Mth.decOk s.data.toList
  · rw [readDec_yes hd]
    obtain ⟨h1, h2, h3, h4⟩ := hd
    have hv := Mth.val10_lt _ h2
    have hp : 10 ^ s.data.toList.length ≤ 10 ^ 9 := Nat.pow_le_pow_right (by decide) h4
    refine ⟨?_, by omega⟩
    rw [itoa, if_neg (by omega)]
    simp only [Int.toNat_natCast]
    rw [Mth.digits_val _ h1 h2 h3]
  · rw [readDec_no hd] at h
    omega

theorem addr_add (b off i : Nat) : (⟨b, off, none⟩ : Addr).add i = ⟨b, off + i, none⟩ := by
  unfold Addr.add; split <;> simp_all
/-- The bytes of a text, in new memory. -/
theorem conv_bytes (s : ByteArray) (w : World) : ∃ (cap : Nat) (w1 : World), (convert 9 22 (.string s)).run Tryd.prog w = .ok (.slice (some ⟨w.heap.size, 0, none⟩) s.size cap) w1 ∧ (∀ i (hi : i < s.size), w1.cell? ⟨w.heap.size, i, none⟩ = some (.int .u8 (s[i].toNat : Int))) ∧ (∀ i, i < s.size → w1.frozen? ⟨w.heap.size, i, none⟩ = false) ∧ Below w.heap.size w w1 := by
  refine ⟨_, _, run_bytes_of_string (P := Tryd.prog) w 9 22 5 s Tryd.underlying9 Tryd.underlying22 Tryd.underlying5, ?_, ?_, ?_⟩
  · intro i hi
    have h := World.cell?_alloc_mark w.drew (bytesRow s (grownCap w s.size 0 5)) 5 ((bytesRow s (grownCap w s.size 0 5)).size, (bytesRow s (grownCap w s.size 0 5)).size + 1) i
    refine Eq.trans h ?_
    rw [bytesRow_at s _ i hi]
    rfl
  · intro i hi
    have h := World.frozen?_alloc_mark w.drew (bytesRow s (grownCap w s.size 0 5)) 5 (bytesRow s (grownCap w s.size 0 5)).size ((bytesRow s (grownCap w s.size 0 5)).size + 1) i
    refine Eq.trans h ?_
    have hz : s.size ≤ (bytesRow s (grownCap w s.size 0 5)).size := by simp [bytesRow]
    simp
    omega
  · exact ((Below.refl _ w).drew).alloc (Nat.le_refl _) _

/-- A byte of the code, or another number below 256: the same one in every world with this memory. -/
theorem lawsAtX (a : Option Addr) (len cap i : Nat) (w : World) (hcode : CodeOk w a len) (hi : i ≤ 1000) : ∃ x : Int, 0 ≤ x ∧ x ≤ 255 ∧ ∀ w' : World, w'.heap = w.heap → Calls Tryd.prog 34 #[.slice a len cap, .int .i64 i] w' fun e w'' => e = .returned (.int .i64 x) ∧ w'' = w' := by
  have hl := hcode.1
  by_cases hlt : i < len
  · obtain ⟨b, off, z, rfl, hb, z0, z1, hz⟩ := hcode.2 i hlt
    refine ⟨z, z0, z1, fun w' hw => ?_⟩
    have hz' : w'.cell? ⟨b, off + i, none⟩ = some (.int .u8 z) := by rw [← hz]; unfold World.cell?; rw [hw]
    clear hcode hz
    go_enter Tryd.func34, Tryd.ntmps34
    go_wp2
    go_ret
    exact ⟨rfl, rfl⟩
  · refine ⟨((i : Int) * 7 + (len : Int)) % 256, by omega, by omega, fun w' hw => ?_⟩
    clear hcode
    go_enter Tryd.func34, Tryd.ntmps34
    go_wp2
    go_ret
    exact ⟨rfl, rfl⟩

/-- The text back from its bytes, one of them written over. -/
theorem conv_changed (s : ByteArray) (w : World) (g i cap : Nat) (c : UInt8) (hi : i < s.size) (hc : ∀ j (hj : j < s.size), w.cell? ⟨g, j, none⟩ = some (.int .u8 (s[j].toNat : Int))) :
    (convert 22 9 (.slice (some ⟨g, 0, none⟩) s.size cap)).run Tryd.prog (w.setCell ⟨g, i, none⟩ (.int .u8 (c.toNat : Int))) = .ok (.string ⟨(s.data.toList.set i c).toArray⟩) (w.setCell ⟨g, i, none⟩ (.int .u8 (c.toNat : Int))) := by
  have h := run_convert_bytes_back (P := Tryd.prog) (w.setCell ⟨g, i, none⟩ (.int .u8 (c.toNat : Int))) 22 9 5 ⟨g, 0, none⟩ cap (s.data.toList.set i c) Tryd.underlying22 Tryd.underlying5 Tryd.underlying9 (fun j hj => by
    have hj' : j < s.size := by simpa using hj
    rw [addr_add, Nat.zero_add]
    by_cases e : j = i
    · subst e
      rw [World.cell?_setCell_same _ _ _ (hc j hj')]
      simp
    · rw [World.cell?_setCell_other _ _ _ _ (by simp <;> omega), hc j hj']
      rw [List.getElem_set_ne (by omega)]
      simp [ByteArray.getElem_eq_getElem_data])
  simpa using h
end Go.Proofs.YthjpjamihlopeaaDoor
