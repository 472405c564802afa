/-
  A message's text, in plain terms.
-/
import Derived.Test.YtiinpdkgnflmeaaDoorMgI
import Derived.Test.YtiinpdkgnflmeaaDoorDecS
import Derived.Lib.Join
namespace Go.Proofs.YtiinpdkgnflmeaaDoor
open Go.RowKit
open Mth

def dec (n : Int) : ByteArray := ⟨(Lib.itoa n).toArray⟩
theorem dec_size (n : Int) (h0 : 0 ≤ n) (h1 : n ≤ 1000000000) : (dec n).size ≤ 21 := by
  unfold dec
  show (Lib.itoa n).toArray.size ≤ 21
  have := Lib.itoa_length_le n (by omega) (by omega)
  simpa using this

def txWant (dF dT k dN : ByteArray) : ByteArray := (⟨#[119, 97, 110, 116]⟩ : ByteArray) ++ ((⟨#[32]⟩ : ByteArray) ++ dF ++ (⟨#[32, 62, 32]⟩ : ByteArray) ++ dT) ++ (⟨#[32]⟩ : ByteArray) ++ k ++ (⟨#[32]⟩ : ByteArray) ++ dN
def txPay (dF dT dI dL k dN : ByteArray) : ByteArray := (⟨#[112, 97, 121]⟩ : ByteArray) ++ ((⟨#[32]⟩ : ByteArray) ++ dF ++ (⟨#[32, 62, 32]⟩ : ByteArray) ++ dT) ++ (⟨#[32]⟩ : ByteArray) ++ dI ++ (⟨#[32]⟩ : ByteArray) ++ dL ++ (⟨#[32]⟩ : ByteArray) ++ k ++ (⟨#[32]⟩ : ByteArray) ++ dN
def txAck (dF dT dI : ByteArray) : ByteArray := (⟨#[97, 99, 107]⟩ : ByteArray) ++ ((⟨#[32]⟩ : ByteArray) ++ dF ++ (⟨#[32, 62, 32]⟩ : ByteArray) ++ dT) ++ (⟨#[32]⟩ : ByteArray) ++ dI
def msgTx (m : Mg) : ByteArray :=
  if mgOk m = true then
    (if m.K = 0 then txWant (dec m.F) (dec m.T) m.k (dec m.N)
     else if m.K = 1 then txPay (dec m.F) (dec m.T) (dec m.I) (dec m.L) m.k (dec m.N)
     else txAck (dec m.F) (dec m.T) (dec m.I))
  else ByteArray.empty
theorem msgTx_no {m : Mg} (h : mgOk m = false) : msgTx m = ByteArray.empty := by unfold msgTx; rw [if_neg (by rw [h]; simp)]
/-- What a right message's numbers are. -/
theorem mg_parts {m : Mg} (h : mgOk m = true) : (0 ≤ m.F ∧ m.F ≤ 29) ∧ (0 ≤ m.T ∧ m.T ≤ 29) ∧
    ((m.K = 0 ∧ (1 ≤ m.N ∧ m.N ≤ 1000000000) ∧ m.k.size ≤ 10) ∨ (m.K = 1 ∧ (1 ≤ m.N ∧ m.N ≤ 1000000000) ∧ (1 ≤ m.I ∧ m.I ≤ 1000000000) ∧ (1 ≤ m.L ∧ m.L ≤ m.I) ∧ m.k.size ≤ 10) ∨ (m.K = 2 ∧ (1 ≤ m.I ∧ m.I ≤ 1000000000))) := by
  have hkey : ∀ s : ByteArray, keyOk s.data.toList = true → s.size ≤ 10 := by
    intro s hs
    unfold keyOk at hs
    simp only [Bool.and_eq_true, decide_eq_true_iff] at hs
    have := size_toList s
    omega
  unfold mgOk rtB ndB at h
  simp only [Bool.and_eq_true, decide_eq_true_iff] at h
  obtain ⟨⟨⟨hF, hT⟩, _⟩, h⟩ := h
  refine ⟨hF, hT, ?_⟩
  split at h
  · rename_i h0
    simp only [Bool.and_eq_true, smB, decide_eq_true_iff] at h
    exact .inl ⟨h0, h.1.1.2, hkey _ h.1.1.1⟩
  · split at h
    · rename_i h0
      simp only [Bool.and_eq_true, smB, decide_eq_true_iff] at h
      exact .inr (.inl ⟨h0, h.1.1.2, h.1.2, h.2, hkey _ h.1.1.1⟩)
    · split at h
      · rename_i h0
        simp only [Bool.and_eq_true, smB, decide_eq_true_iff] at h
        exact .inr (.inr ⟨h0, h.1.1.1⟩)
      · cases h

theorem joinWant (dF dT k dN : ByteArray) : (⟨(Lib.join (([(⟨#[119, 97, 110, 116]⟩ : ByteArray), dF, (⟨#[62]⟩ : ByteArray), dT, k, dN] : List ByteArray).map (·.data.toList)) [32]).toArray⟩ : ByteArray) = txWant dF dT k dN := by
  apply ByteArray.ext
  apply Array.ext'
  simp [Lib.join, List.intercalate, List.intersperse, txWant]
theorem joinPay (dF dT dI dL k dN : ByteArray) : (⟨(Lib.join (([(⟨#[112, 97, 121]⟩ : ByteArray), dF, (⟨#[62]⟩ : ByteArray), dT, dI, dL, k, dN] : List ByteArray).map (·.data.toList)) [32]).toArray⟩ : ByteArray) = txPay dF dT dI dL k dN := by
  apply ByteArray.ext
  apply Array.ext'
  simp [Lib.join, List.intercalate, List.intersperse, txPay]
theorem joinAck (dF dT dI : ByteArray) : (⟨(Lib.join (([(⟨#[97, 99, 107]⟩ : ByteArray), dF, (⟨#[62]⟩ : ByteArray), dT, dI] : List ByteArray).map (·.data.toList)) [32]).toArray⟩ : ByteArray) = txAck dF dT dI := by
  apply ByteArray.ext
  apply Array.ext'
  simp [Lib.join, List.intercalate, List.intersperse, txAck]
end Go.Proofs.YtiinpdkgnflmeaaDoor
