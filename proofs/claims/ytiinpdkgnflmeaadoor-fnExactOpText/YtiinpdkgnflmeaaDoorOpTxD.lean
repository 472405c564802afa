/-
  An operation's text, in plain terms.
-/
import Derived.Test.YtiinpdkgnflmeaaDoorNdOpM
import Derived.Test.YtiinpdkgnflmeaaDoorMgTxD
namespace Go.Proofs.YtiinpdkgnflmeaaDoor
open Go.RowKit
open Mth

def tx3 (w k d : ByteArray) : ByteArray := w ++ (⟨#[32]⟩ : ByteArray) ++ k ++ (⟨#[32]⟩ : ByteArray) ++ d
def tx4 (w c k d : ByteArray) : ByteArray := w ++ (⟨#[32]⟩ : ByteArray) ++ c ++ (⟨#[32]⟩ : ByteArray) ++ k ++ (⟨#[32]⟩ : ByteArray) ++ d
def tx2 (w c : ByteArray) : ByteArray := w ++ (⟨#[32]⟩ : ByteArray) ++ c
def opTx (o : Op5) : ByteArray :=
  if opOk o = true then
    (if o.K = 0 then tx3 (⟨#[109, 105, 110, 116]⟩ : ByteArray) o.k (dec o.n)
     else if o.K = 1 then tx4 (⟨#[97, 100, 109, 105, 116]⟩ : ByteArray) (dec o.no) o.k (dec o.n)
     else if o.K = 2 then tx2 (⟨#[114, 101, 108, 101, 97, 115, 101]⟩ : ByteArray) (dec o.no)
     else if o.K = 3 then tx3 (⟨#[119, 97, 110, 116]⟩ : ByteArray) o.k (dec o.n)
     else if o.K = 4 then tx3 (⟨#[98, 97, 99, 107]⟩ : ByteArray) o.k (dec o.n)
     else if o.K = 5 then (⟨#[116, 105, 99, 107]⟩ : ByteArray)
     else tx2 (⟨#[104, 101, 97, 114]⟩ : ByteArray) (msgTx o.m))
  else ByteArray.empty
theorem opTx_no {o : Op5} (h : opOk o = false) : opTx o = ByteArray.empty := by unfold opTx; rw [if_neg (by rw [h]; simp)]
theorem opTx_yes {o : Op5} (h : opOk o = true) : opTx o = (if o.K = 0 then tx3 (⟨#[109, 105, 110, 116]⟩ : ByteArray) o.k (dec o.n)
     else if o.K = 1 then tx4 (⟨#[97, 100, 109, 105, 116]⟩ : ByteArray) (dec o.no) o.k (dec o.n)
     else if o.K = 2 then tx2 (⟨#[114, 101, 108, 101, 97, 115, 101]⟩ : ByteArray) (dec o.no)
     else if o.K = 3 then tx3 (⟨#[119, 97, 110, 116]⟩ : ByteArray) o.k (dec o.n)
     else if o.K = 4 then tx3 (⟨#[98, 97, 99, 107]⟩ : ByteArray) o.k (dec o.n)
     else if o.K = 5 then (⟨#[116, 105, 99, 107]⟩ : ByteArray)
     else tx2 (⟨#[104, 101, 97, 114]⟩ : ByteArray) (msgTx o.m)) := by unfold opTx; rw [if_pos h]
theorem key_le {s : ByteArray} (hs : keyOk s.data.toList = true) : s.size ≤ 10 := by
  unfold keyOk at hs
  simp only [Bool.and_eq_true, decide_eq_true_iff] at hs
  have := size_toList s
  omega
/-- What a right operation's parts are. -/
theorem op_parts {o : Op5} (h : opOk o = true) : ((o.K = 0 ∨ o.K = 3 ∨ o.K = 4) ∧ (0 ≤ o.n ∧ o.n ≤ 1000000000) ∧ o.k.size ≤ 10) ∨ (o.K = 1 ∧ (0 ≤ o.n ∧ o.n ≤ 1000000000) ∧ (0 ≤ o.no ∧ o.no ≤ 1000000000) ∧ o.k.size ≤ 10) ∨ (o.K = 2 ∧ (0 ≤ o.no ∧ o.no ≤ 1000000000)) ∨ o.K = 5 ∨ (o.K = 6 ∧ mgOk o.m = true) := by
  unfold opOk at h
  split at h
  · rename_i h0
    simp only [Bool.and_eq_true, smB, decide_eq_true_iff] at h
    have := key_le h.1.1.1
    exact .inl ⟨h0, by omega, this⟩
  · split at h
    · rename_i h0
      simp only [Bool.and_eq_true, smB, decide_eq_true_iff] at h
      have := key_le h.1.1.1
      exact .inr (.inl ⟨h0, by omega, by omega, this⟩)
    · split at h
      · rename_i h0
        simp only [Bool.and_eq_true, smB, decide_eq_true_iff] at h
        exact .inr (.inr (.inl ⟨h0, by omega⟩))
      · split at h
        · rename_i h0
          exact .inr (.inr (.inr (.inl h0)))
        · split at h
          · rename_i h0
            simp only [Bool.and_eq_true] at h
            exact .inr (.inr (.inr (.inr ⟨h0, h.2⟩)))
          · cases h
theorem msgTx_le (m : Mg) : (msgTx m).size ≤ 300 := by
  cases h : mgOk m
  · rw [msgTx_no h]; decide
  obtain ⟨hF, hT, hc⟩ := mg_parts h
  have a1 := dec_size m.F (by omega) (by omega)
  have a2 := dec_size m.T (by omega) (by omega)
  have hw1 : (⟨#[32]⟩ : ByteArray).size = 1 := rfl
  have hwg : (⟨#[32, 62, 32]⟩ : ByteArray).size = 3 := rfl
  have hw4 : (⟨#[119, 97, 110, 116]⟩ : ByteArray).size = 4 := rfl
  have hw3 : (⟨#[112, 97, 121]⟩ : ByteArray).size = 3 := rfl
  have hw5 : (⟨#[97, 99, 107]⟩ : ByteArray).size = 3 := rfl
  unfold msgTx
  rw [if_pos h]
  rcases hc with ⟨e, hN, hk⟩ | ⟨e, hN, hI, hL, hk⟩ | ⟨e, hI⟩
  · rw [if_pos e]
    have a3 := dec_size m.N (by omega) (by omega)
    unfold txWant
    simp only [ByteArray.size_append]
    omega
  · rw [if_neg (by omega), if_pos e]
    have a3 := dec_size m.N (by omega) (by omega)
    have a4 := dec_size m.I (by omega) (by omega)
    have a5 := dec_size m.L (by omega) (by omega)
    unfold txPay
    simp only [ByteArray.size_append]
    omega
  · rw [if_neg (by omega), if_neg (by omega)]
    have a4 := dec_size m.I (by omega) (by omega)
    unfold txAck
    simp only [ByteArray.size_append]
    omega
theorem join3 (w k d : ByteArray) : (⟨(Lib.join (([w, k, d] : List ByteArray).map (·.data.toList)) [32]).toArray⟩ : ByteArray) = tx3 w k d := by
  apply ByteArray.ext
  apply Array.ext'
  simp [Lib.join, List.intercalate, List.intersperse, tx3]
theorem join4 (w c k d : ByteArray) : (⟨(Lib.join (([w, c, k, d] : List ByteArray).map (·.data.toList)) [32]).toArray⟩ : ByteArray) = tx4 w c k d := by
  apply ByteArray.ext
  apply Array.ext'
  simp [Lib.join, List.intercalate, List.intersperse, tx4]
theorem join2 (w c : ByteArray) : (⟨(Lib.join (([w, c] : List ByteArray).map (·.data.toList)) [32]).toArray⟩ : ByteArray) = tx2 w c := by
  apply ByteArray.ext
  apply Array.ext'
  simp [Lib.join, List.intercalate, List.intersperse, tx2]
theorem join1 (w : ByteArray) : (⟨(Lib.join (([w] : List ByteArray).map (·.data.toList)) [32]).toArray⟩ : ByteArray) = w := by
  apply ByteArray.ext
  apply Array.ext'
  simp [Lib.join, List.intercalate]
theorem elevenT {w : World} {g : Nat} {v0 v1 v2 v3 v4 v5 v6 v7 v8 v9 v10 : Value} {t : TypeId} (h : w.heap[g]? = some (.cells #[v0, v1, v2, v3, v4, v5, v6, v7, v8, v9, v10] t (0, 0))) :
    w.cell? ⟨g, 0, none⟩ = some v0 ∧ w.cell? ⟨g, 1, none⟩ = some v1 ∧ w.cell? ⟨g, 2, none⟩ = some v2 ∧ w.cell? ⟨g, 3, none⟩ = some v3 ∧ w.cell? ⟨g, 4, none⟩ = some v4 ∧ w.cell? ⟨g, 5, none⟩ = some v5 ∧ w.cell? ⟨g, 6, none⟩ = some v6 ∧ w.cell? ⟨g, 7, none⟩ = some v7 ∧ w.cell? ⟨g, 8, none⟩ = some v8 ∧ w.cell? ⟨g, 9, none⟩ = some v9 ∧ w.cell? ⟨g, 10, none⟩ = some v10 := by
  have hc : ∀ i, w.cell? ⟨g, i, none⟩ = #[v0, v1, v2, v3, v4, v5, v6, v7, v8, v9, v10][i]? := fun i => cell_of_row w g i _ t (0, 0) h
  exact ⟨hc 0, hc 1, hc 2, hc 3, hc 4, hc 5, hc 6, hc 7, hc 8, hc 9, hc 10⟩
end Go.Proofs.YtiinpdkgnflmeaaDoor
