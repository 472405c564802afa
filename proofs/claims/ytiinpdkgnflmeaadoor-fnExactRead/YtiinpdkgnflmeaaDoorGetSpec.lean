/-
  What the model's GetNum comes to: the same as the program's numAt reads.
-/
import Derived.Test.YtiinpdkgnflmeaaDoorNumAt
import Derived.Test.YtiinpdkgnflmeaaDoorPutNumS
import Derived.Lib.Strings
import Derived.Deep.RegionWith
import Derived.Laws.DeepStrings4
namespace Go.Proofs.YtiinpdkgnflmeaaDoor
open Go.RowKit

/-- What GetNum hands back. -/
def getRes (o : Option (Nat × Nat)) (i : Int) : Value :=
  match o with
  | none => .tuple #[.int .i64 0, .int .i64 (-1)]
  | some (n, c) => .tuple #[.int .i64 n, .int .i64 (i + c)]
theorem get_some {G : Option (Nat × Nat)} {i a b : Int} {n c : Nat} (hG : G = some (n, c)) (ha : a = n) (hb : b = i + c) : Ending.returned (.tuple #[.int .i64 a, .int .i64 b]) = .returned (getRes G i) := by
  subst hG; subst ha; subst hb; rfl
theorem get_none {G : Option (Nat × Nat)} {i : Int} (hG : G = none) : Ending.returned (.tuple #[.int .i64 0, .int .i64 (-1)]) = .returned (getRes G i) := by
  subst hG; rfl

/-- A piece of a text. -/
theorem slice_str {P : Program} (t : TypeId) (hu : P.underlying t = some .string) (s : ByteArray) (lo hi : Nat) (z : Int) (hz : z = hi) (h1 : lo ≤ hi) (h2 : hi ≤ s.size) (wx : World) :
    (Instr.slice t (.string s) (some (.int .i64 (lo : Int))) (some (.int .i64 z)) none).run P wx = .ok (.string (s.extract lo hi)) wx := by
  subst hz
  rw [run_slice_string_if wx t s .i64 .i64 lo hi hu, if_pos (by omega), if_pos (by omega)]
  simp
/-- The bytes that were read, as the text's piece. -/
theorem ext_take (s : ByteArray) (i j k : Nat) (hk : k = i + j) (hlt : k < s.size) : (s.extract i (k + 1)).toList = (s.data.toList.drop i).take j ++ [s[k]] := by
  subst hk
  rw [Lib.extract_toList]
  have e : i + j + 1 - i = j + 1 := by omega
  rw [e, List.take_succ_eq_append_getElem (by simp; show j < s.size - i; omega)]
  simp; rfl
theorem unit_pow {j v : Nat} (h : unitAt j v) : v = 128 ^ j := by
  unfold unitAt at h
  rcases h with ⟨rfl, rfl⟩ | ⟨rfl, rfl⟩ | ⟨rfl, rfl⟩ | ⟨rfl, rfl⟩ | ⟨rfl, rfl⟩ | ⟨rfl, rfl⟩ <;> rfl

/-- What was read: all but the last byte bear 128, and they are worth what was gathered. -/
def readSo (s : ByteArray) (i j m : Nat) : Prop := ((s.data.toList.drop i).take j).length = j ∧ (∀ c ∈ (s.data.toList.drop i).take j, 128 ≤ c.toNat) ∧ m = Mth.val ((s.data.toList.drop i).take j)
theorem read_nil (s : ByteArray) (i : Nat) : readSo s i 0 0 := ⟨by simp, by simp, by simp [Mth.val]⟩
theorem take_next (s : ByteArray) (i j k : Nat) (hk : k = i + j) (hlt : k < s.size) : (s.data.toList.drop i).take (j + 1) = (s.data.toList.drop i).take j ++ [s[k]] := by
  have h := ext_take s i j k hk hlt
  rw [Lib.extract_toList] at h
  have e : k + 1 - i = j + 1 := by omega
  rw [e] at h; exact h
theorem val_next (s : ByteArray) (i j k m v : Nat) (hk : k = i + j) (hlt : k < s.size) (hu : unitAt j v) (h : readSo s i j m) : Mth.val ((s.data.toList.drop i).take (j + 1)) = m + s[k].toNat % 128 * v := by
  rw [take_next s i j k hk hlt, Mth.val_snoc, h.1, ← h.2.2, unit_pow hu]
theorem read_next (s : ByteArray) (i j k m v : Nat) (hk : k = i + j) (hlt : k < s.size) (hu : unitAt j v) (hb : 128 ≤ s[k].toNat) (h : readSo s i j m) : readSo s i (j + 1) (m + s[k].toNat % 128 * v) := by
  refine ⟨?_, ?_, (val_next s i j k m v hk hlt hu h).symm⟩
  · rw [take_next s i j k hk hlt, List.length_append, h.1]; rfl
  · intro c hc
    rw [take_next s i j k hk hlt, List.mem_append] at hc
    rcases hc with hc | hc
    · exact h.2.1 c hc
    · simp at hc; subst hc; exact hb
theorem cmp_yes (s : ByteArray) (i j k m v : Nat) (hk : k = i + j) (hlt : k < s.size) (hu : unitAt j v) (hj : j < 5) (hb : ¬ 128 ≤ s[k].toNat) (h : readSo s i j m) (hz : s[k].toNat ≠ 0 ∨ j = 0) :
    Mth.put (m + s[k].toNat * v) = (s.extract i (k + 1)).toList := by
  have e : m + s[k].toNat * v = Mth.val ((s.data.toList.drop i).take j ++ [s[k]]) := by
    rw [← take_next s i j k hk hlt, val_next s i j k m v hk hlt hu h, Nat.mod_eq_of_lt (by omega)]
  rw [e, ext_take s i j k hk hlt]
  exact Mth.putF_val _ _ (by omega) 5 (by rw [h.1]; omega) h.2.1 (by
    rcases hz with hz | hz
    · exact .inl hz
    · subst hz; exact .inr (by simp))
theorem cmp_no (s : ByteArray) (i j k m v : Nat) (hk : k = i + j) (hlt : k < s.size) (hu : unitAt j v) (hj : j < 5) (h : readSo s i j m) (hz : s[k].toNat = 0) (hj0 : 0 < j) :
    Mth.put (m + s[k].toNat * v) ≠ (s.extract i (k + 1)).toList := by
  have e : m + s[k].toNat * v = Mth.val ((s.data.toList.drop i).take j ++ [s[k]]) := by
    rw [← take_next s i j k hk hlt, val_next s i j k m v hk hlt hu h, Nat.mod_eq_of_lt (by omega)]
  rw [e, ext_take s i j k hk hlt]
  exact Mth.putF_nought _ _ hz (by intro hn; have := h.1; rw [hn] at this; simp at this; omega) 5 (by rw [h.1]; omega)
end Go.Proofs.YtiinpdkgnflmeaaDoor
