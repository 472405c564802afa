/-
  The parts of the law FnSums: two lists of texts held against each other; a byte of the code; a text with one byte changed has another sum.
-/
import Derived.Test.YthjpjamihlopeaaDoorDrawSums
import Derived.Test.YthjpjamihlopeaaDoorKeeps
import Derived.Deep.QuietTactic
import Derived.BigQuiet
namespace Go.Proofs.YthjpjamihlopeaaDoor
open Go.RowKit

set_option maxRecDepth 100000 in
set_option maxHeartbeats 1000000 in
theorem sameTexts (ga gb ca cb : Nat) (xs : List ByteArray) (w : World) (hmax : xs.length ≤ 9223372036854775807) (ha : ∀ i (hi : i < xs.length), w.cell? ⟨ga, i, none⟩ = some (.string xs[i])) (hb : ∀ i (hi : i < xs.length), w.cell? ⟨gb, i, none⟩ = some (.string xs[i])) :
    Calls Tryd.prog 29 #[.slice (some ⟨ga, 0, none⟩) xs.length ca, .slice (some ⟨gb, 0, none⟩) xs.length cb] w fun e w' => e = .returned (.bool true) ∧ ∃ q, w' = w.drewN q := by
  have HA := hide ha
  have HB := hide hb
  clear ha hb
  go_enter Tryd.func29, Tryd.ntmps29
  go_wp2
  go_loopw [5] (fun i wr => ∃ k q : Nat, k ≤ xs.length ∧ i = .int .i64 k ∧ wr = w.drewN q) (fun i _ => xs.length - (intOf i).toNat)
  case atStart => exact ⟨0, 0, Nat.zero_le _, rfl, rfl⟩
  case round =>
    obtain ⟨k, q, hk, rfl, rfl⟩ := hrel
    by_cases hlt : k < xs.length
    · have c1 := unhide HA k hlt
      have c2 := unhide HB k hlt
      go_wp2_with fail
      go_quiet (fail)
      go_wp2
      go_roundw
      case rel => exact ⟨k + 1, _, by omega, by go_num, rfl⟩
      case measure => simp [intOf]; omega
    · go_wp2
      go_ret
      exact ⟨rfl, q, rfl⟩

/-- A byte of the code, or another number below 256. -/
theorem lawsAt (a : Option Addr) (len cap i : Nat) (w : World) (hcode : CodeOk w a len) (hi : i ≤ 1000) : Calls Tryd.prog 34 #[.slice a len cap, .int .i64 i] w fun e w' => (∃ x : Int, e = .returned (.int .i64 x) ∧ 0 ≤ x ∧ x ≤ 255) ∧ w = w' := by
  have hl := hcode.1
  by_cases hlt : i < len
  · obtain ⟨b, off, z, rfl, hb, z0, z1, hz⟩ := hcode.2 i hlt
    clear hcode
    go_enter Tryd.func34, Tryd.ntmps34
    go_wp2
    go_ret
    exact ⟨⟨_, rfl, z0, z1⟩, rfl⟩
  · clear hcode
    go_enter Tryd.func34, Tryd.ntmps34
    go_wp2
    go_ret
    exact ⟨⟨_, rfl, by omega, by omega⟩, rfl⟩

/-- The first of the two sums is one and all the bytes. -/
theorem fold_first (l : List UInt8) : ∀ (p : Nat × Nat), (l.foldl Mth.sumStep p).1 % 65521 = (p.1 + (l.map UInt8.toNat).sum) % 65521 := by
  induction l with
  | nil => intro p; simp
  | cons c r ih => intro p; simp only [List.foldl_cons, ih, Mth.sumStep, List.map_cons, List.sum_cons]; omega
theorem sum_first (l : List UInt8) : (Mth.sums l).1 = (1 + (l.map UInt8.toNat).sum) % 65521 := by
  have h := fold_first l (1, 0)
  have h2 := (Mth.sums_lt l).1
  unfold Mth.sums at *
  rw [Nat.mod_eq_of_lt h2] at h
  exact h
theorem sum_set (l : List UInt8) : ∀ (i : Nat) (c : UInt8) (hi : i < l.length), ((l.set i c).map UInt8.toNat).sum + l[i].toNat = (l.map UInt8.toNat).sum + c.toNat := by
  induction l with
  | nil => intro i c hi; simp at hi
  | cons x r ih =>
    intro i c hi
    cases i with
    | zero => simp; omega
    | succ j =>
      have := ih j c (by simpa using hi)
      simp only [List.set_cons_succ, List.map_cons, List.sum_cons, List.getElem_cons_succ]
      omega
/-- A text with one byte changed has another sum. -/
theorem sum_change (l : List UInt8) (i : Nat) (c : UInt8) (hi : i < l.length) (hne : c ≠ l[i]) : (65536 * (Mth.sums (l.set i c)).2 + (Mth.sums (l.set i c)).1 : Nat) ≠ 65536 * (Mth.sums l).2 + (Mth.sums l).1 := by
  intro e
  have a1 := (Mth.sums_lt l).1
  have a2 := (Mth.sums_lt (l.set i c)).1
  have e1 : (Mth.sums (l.set i c)).1 = (Mth.sums l).1 := by omega
  rw [sum_first, sum_first] at e1
  have hs := sum_set l i c hi
  have hc := c.toNat_lt
  have hx := l[i].toNat_lt
  have hn : c.toNat ≠ l[i].toNat := fun h => hne (UInt8.toNat_inj.1 h)
  omega
/-- A byte that is xored with something is another byte. -/
theorem xor_byte (x : UInt8) (y : Int) (h1 : 1 ≤ y) (h2 : y ≤ 255) : ∃ c : UInt8, bits .xor .u8 (x.toNat : Int) y = (c.toNat : Int) ∧ c ≠ x := by
  obtain ⟨n, rfl⟩ := Int.eq_ofNat_of_zero_le (show 0 ≤ y by omega)
  have hx := x.toNat_lt
  have hn : n < 256 := by omega
  have hlt : x.toNat ^^^ n < 256 := Nat.xor_lt_two_pow (n := 8) hx hn
  refine ⟨UInt8.ofNat (x.toNat ^^^ n), ?_, ?_⟩
  · rw [Mth.toNat_byte _ hlt]
    have e1 : (BitVec.ofInt 8 (x.toNat : Int)).toNat = x.toNat := by rw [BitVec.ofInt_natCast, BitVec.toNat_ofNat]; exact Nat.mod_eq_of_lt (by omega)
    have e2 : (BitVec.ofInt 8 (n : Int)).toNat = n := by rw [BitVec.ofInt_natCast, BitVec.toNat_ofNat]; exact Nat.mod_eq_of_lt (by omega)
    show IntKind.u8.wrap ((BitVec.ofInt 8 (x.toNat : Int) ^^^ BitVec.ofInt 8 (n : Int)).toNat : Int) = _
    rw [BitVec.toNat_xor, e1, e2, IntWalk.u8_in _ ⟨by omega, by omega⟩]
  · intro e
    have := congrArg UInt8.toNat e
    rw [Mth.toNat_byte _ hlt] at this
    have h0 : x.toNat ^^^ (x.toNat ^^^ n) = x.toNat ^^^ x.toNat := by rw [this]
    rw [← Nat.xor_assoc, Nat.xor_self, Nat.zero_xor] at h0
    omega
end Go.Proofs.YthjpjamihlopeaaDoor
