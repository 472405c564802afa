/- Parts. -/
import Derived.Test.YtikdkijggejnfaaGreatDoorPr2
import Derived.Test.YtikdkijggejnfaaGreatDoorPr1
import Derived.Lib.Join
import Derived.Lib.Split
import Derived.Lib.SplitLaws
import Derived.Lib.Strings
import Derived.OneCell
import Derived.Deep.Draws
import Derived.Laws.IdiomStrings
import Derived.Laws.BytesString
import Derived.Laws.DeepStrings4
import Derived.Lib.BufferWrite
import Derived.Lib.UnsafeStr
import Derived.Laws.MakeOwn
import Derived.Laws.CopyOwn
namespace Go.Proofs.YtikdkijggejnfaaGreatDoor
open Go.RowKit
open Mth

def dec (n : Int) : ByteArray := ⟨(Lib.itoa n).toArray⟩
theorem dec_size (n : Int) (h0 : 0 ≤ n) (h1 : n ≤ 1000000000) : (dec n).size ≤ 21 := by
  unfold dec
  show (Lib.itoa n).toArray.size ≤ 21
  have := Lib.itoa_length_le n (by omega) (by omega)
  simpa using this

def txWant (dF dT k dN : ByteArray) : ByteArray := (⟨#[119, 97, 110, 116]⟩ : ByteArray) ++ ((⟨#[32]⟩ : ByteArray) ++ dF ++ (⟨#[32, 62, 32]⟩ : ByteArray) ++ dT) ++ (⟨#[32]⟩ : ByteArray) ++ k ++ (⟨#[32]⟩ : ByteArray) ++ dN
def txPay (dF dT dI dL k dN : ByteArray) : ByteArray := (⟨#[112, 97, 121]⟩ : ByteArray) ++ ((⟨#[32]⟩ : ByteArray) ++ dF ++ (⟨#[32, 62, 32]⟩ : ByteArray) ++ dT) ++ (⟨#[32]⟩ : ByteArray) ++ dI ++ (⟨#[32]⟩ : ByteArray) ++ dL ++ (⟨#[32]⟩ : ByteArray) ++ k ++ (⟨#[32]⟩ : ByteArray) ++ dN
def txAck (dF dT dI : ByteArray) : ByteArray := (⟨#[97, 99, 107]⟩ : ByteArray) ++ ((⟨#[32]⟩ : ByteArray) ++ dF ++ (⟨#[32, 62, 32]⟩ : ByteArray) ++ dT) ++ (⟨#[32]⟩ : ByteArray) ++ dI
def msgTx (m : Mg) : ByteArray :=
  if mgOk m = true then
    (if m.K = 0 then txWant (dec m.F) (dec m.T) m.k (dec m.N)
     else if m.K = 1 then txPay (dec m.F) (dec m.T) (dec m.I) (dec m.L) m.k (dec m.N)
     else txAck (dec m.F) (dec m.T) (dec m.I))
  else ByteArray.empty
theorem msgTx_no {m : Mg} (h : mgOk m = false) : msgTx m = ByteArray.empty := by unfold msgTx; rw [if_neg (by rw [h]; simp)]
/-- What a right message's numbers are. -/
theorem mg_parts {m : Mg} (h : mgOk m = true) : (0 ≤ m.F ∧ m.F ≤ 29) ∧ (0 ≤ m.T ∧ m.T ≤ 29) ∧
    ((m.K = 0 ∧ (1 ≤ m.N ∧ m.N ≤ 1000000000) ∧ m.k.size ≤ 10) ∨ (m.K = 1 ∧ (1 ≤ m.N ∧ m.N ≤ 1000000000) ∧ (1 ≤ m.I ∧ m.I ≤ 1000000000) ∧ (1 ≤ m.L ∧ m.L ≤ m.I) ∧ m.k.size ≤ 10) ∨ (m.K = 2 ∧ (1 ≤ m.I ∧ m.I ≤ 1000000000))) := by
  have hkey : ∀ s : ByteArray, keyOk s.data.toList = true → s.size ≤ 10 := by
    intro s hs
    unfold keyOk at hs
    simp only [Bool.and_eq_true, decide_eq_true_iff] at hs
    have := size_toList s
    omega
  unfold mgOk rtB ndB at h
  simp only [Bool.and_eq_true, decide_eq_true_iff] at h
  obtain ⟨⟨⟨hF, hT⟩, _⟩, h⟩ := h
  refine ⟨hF, hT, ?_⟩
  split at h
  · rename_i h0
    simp only [Bool.and_eq_true, smB, decide_eq_true_iff] at h
    exact .inl ⟨h0, h.1.1.2, hkey _ h.1.1.1⟩
  · split at h
    · rename_i h0
      simp only [Bool.and_eq_true, smB, decide_eq_true_iff] at h
      exact .inr (.inl ⟨h0, h.1.1.2, h.1.2, h.2, hkey _ h.1.1.1⟩)
    · split at h
      · rename_i h0
        simp only [Bool.and_eq_true, smB, decide_eq_true_iff] at h
        exact .inr (.inr ⟨h0, h.1.1.1⟩)
      · cases h

theorem joinWant (dF dT k dN : ByteArray) : (⟨(Lib.join (([(⟨#[119, 97, 110, 116]⟩ : ByteArray), dF, (⟨#[62]⟩ : ByteArray), dT, k, dN] : List ByteArray).map (·.data.toList)) [32]).toArray⟩ : ByteArray) = txWant dF dT k dN := by
  apply ByteArray.ext
  apply Array.ext'
  simp [Lib.join, List.intercalate, List.intersperse, txWant]
theorem joinPay (dF dT dI dL k dN : ByteArray) : (⟨(Lib.join (([(⟨#[112, 97, 121]⟩ : ByteArray), dF, (⟨#[62]⟩ : ByteArray), dT, dI, dL, k, dN] : List ByteArray).map (·.data.toList)) [32]).toArray⟩ : ByteArray) = txPay dF dT dI dL k dN := by
  apply ByteArray.ext
  apply Array.ext'
  simp [Lib.join, List.intercalate, List.intersperse, txPay]
theorem joinAck (dF dT dI : ByteArray) : (⟨(Lib.join (([(⟨#[97, 99, 107]⟩ : ByteArray), dF, (⟨#[62]⟩ : ByteArray), dT, dI] : List ByteArray).map (·.data.toList)) [32]).toArray⟩ : ByteArray) = txAck dF dT dI := by
  apply ByteArray.ext
  apply Array.ext'
  simp [Lib.join, List.intercalate, List.intersperse, txAck]
end Go.Proofs.YtikdkijggejnfaaGreatDoor
namespace Go.Proofs.YtikdkijggejnfaaGreatDoor
open Go.RowKit
open Mth

def tx3 (w k d : ByteArray) : ByteArray := w ++ (⟨#[32]⟩ : ByteArray) ++ k ++ (⟨#[32]⟩ : ByteArray) ++ d
def tx4 (w c k d : ByteArray) : ByteArray := w ++ (⟨#[32]⟩ : ByteArray) ++ c ++ (⟨#[32]⟩ : ByteArray) ++ k ++ (⟨#[32]⟩ : ByteArray) ++ d
def tx2 (w c : ByteArray) : ByteArray := w ++ (⟨#[32]⟩ : ByteArray) ++ c
def opTx (o : Op5) : ByteArray :=
  if opOk o = true then
    (if o.K = 0 then tx3 (⟨#[109, 105, 110, 116]⟩ : ByteArray) o.k (dec o.n)
     else if o.K = 1 then tx4 (⟨#[97, 100, 109, 105, 116]⟩ : ByteArray) (dec o.no) o.k (dec o.n)
     else if o.K = 2 then tx2 (⟨#[114, 101, 108, 101, 97, 115, 101]⟩ : ByteArray) (dec o.no)
     else if o.K = 3 then tx3 (⟨#[119, 97, 110, 116]⟩ : ByteArray) o.k (dec o.n)
     else if o.K = 4 then tx3 (⟨#[98, 97, 99, 107]⟩ : ByteArray) o.k (dec o.n)
     else if o.K = 5 then (⟨#[116, 105, 99, 107]⟩ : ByteArray)
     else tx2 (⟨#[104, 101, 97, 114]⟩ : ByteArray) (msgTx o.m))
  else ByteArray.empty
theorem opTx_no {o : Op5} (h : opOk o = false) : opTx o = ByteArray.empty := by unfold opTx; rw [if_neg (by rw [h]; simp)]
theorem opTx_yes {o : Op5} (h : opOk o = true) : opTx o = (if o.K = 0 then tx3 (⟨#[109, 105, 110, 116]⟩ : ByteArray) o.k (dec o.n)
     else if o.K = 1 then tx4 (⟨#[97, 100, 109, 105, 116]⟩ : ByteArray) (dec o.no) o.k (dec o.n)
     else if o.K = 2 then tx2 (⟨#[114, 101, 108, 101, 97, 115, 101]⟩ : ByteArray) (dec o.no)
     else if o.K = 3 then tx3 (⟨#[119, 97, 110, 116]⟩ : ByteArray) o.k (dec o.n)
     else if o.K = 4 then tx3 (⟨#[98, 97, 99, 107]⟩ : ByteArray) o.k (dec o.n)
     else if o.K = 5 then (⟨#[116, 105, 99, 107]⟩ : ByteArray)
     else tx2 (⟨#[104, 101, 97, 114]⟩ : ByteArray) (msgTx o.m)) := by unfold opTx; rw [if_pos h]
theorem key_le {s : ByteArray} (hs : keyOk s.data.toList = true) : s.size ≤ 10 := by
  unfold keyOk at hs
  simp only [Bool.and_eq_true, decide_eq_true_iff] at hs
  have := size_toList s
  omega
/-- What a right operation's parts are. -/
theorem op_parts {o : Op5} (h : opOk o = true) : ((o.K = 0 ∨ o.K = 3 ∨ o.K = 4) ∧ (0 ≤ o.n ∧ o.n ≤ 1000000000) ∧ o.k.size ≤ 10) ∨ (o.K = 1 ∧ (0 ≤ o.n ∧ o.n ≤ 1000000000) ∧ (0 ≤ o.no ∧ o.no ≤ 1000000000) ∧ o.k.size ≤ 10) ∨ (o.K = 2 ∧ (0 ≤ o.no ∧ o.no ≤ 1000000000)) ∨ o.K = 5 ∨ (o.K = 6 ∧ mgOk o.m = true) := by
  unfold opOk at h
  split at h
  · rename_i h0
    simp only [Bool.and_eq_true, smB, decide_eq_true_iff] at h
    have := key_le h.1.1.1
    exact .inl ⟨h0, by omega, this⟩
  · split at h
    · rename_i h0
      simp only [Bool.and_eq_true, smB, decide_eq_true_iff] at h
      have := key_le h.1.1.1
      exact .inr (.inl ⟨h0, by omega, by omega, this⟩)
    · split at h
      · rename_i h0
        simp only [Bool.and_eq_true, smB, decide_eq_true_iff] at h
        exact .inr (.inr (.inl ⟨h0, by omega⟩))
      · split at h
        · rename_i h0
          exact .inr (.inr (.inr (.inl h0)))
        · split at h
          · rename_i h0
            simp only [Bool.and_eq_true] at h
            exact .inr (.inr (.inr (.inr ⟨h0, h.2⟩)))
          · cases h
theorem msgTx_le (m : Mg) : (msgTx m).size ≤ 300 := by
  cases h : mgOk m
  · rw [msgTx_no h]; decide
  obtain ⟨hF, hT, hc⟩ := mg_parts h
  have a1 := dec_size m.F (by omega) (by omega)
  have a2 := dec_size m.T (by omega) (by omega)
  have hw1 : (⟨#[32]⟩ : ByteArray).size = 1 := rfl
  have hwg : (⟨#[32, 62, 32]⟩ : ByteArray).size = 3 := rfl
  have hw4 : (⟨#[119, 97, 110, 116]⟩ : ByteArray).size = 4 := rfl
  have hw3 : (⟨#[112, 97, 121]⟩ : ByteArray).size = 3 := rfl
  have hw5 : (⟨#[97, 99, 107]⟩ : ByteArray).size = 3 := rfl
  unfold msgTx
  rw [if_pos h]
  rcases hc with ⟨e, hN, hk⟩ | ⟨e, hN, hI, hL, hk⟩ | ⟨e, hI⟩
  · rw [if_pos e]
    have a3 := dec_size m.N (by omega) (by omega)
    unfold txWant
    simp only [ByteArray.size_append]
    omega
  · rw [if_neg (by omega), if_pos e]
    have a3 := dec_size m.N (by omega) (by omega)
    have a4 := dec_size m.I (by omega) (by omega)
    have a5 := dec_size m.L (by omega) (by omega)
    unfold txPay
    simp only [ByteArray.size_append]
    omega
  · rw [if_neg (by omega), if_neg (by omega)]
    have a4 := dec_size m.I (by omega) (by omega)
    unfold txAck
    simp only [ByteArray.size_append]
    omega
theorem join3 (w k d : ByteArray) : (⟨(Lib.join (([w, k, d] : List ByteArray).map (·.data.toList)) [32]).toArray⟩ : ByteArray) = tx3 w k d := by
  apply ByteArray.ext
  apply Array.ext'
  simp [Lib.join, List.intercalate, List.intersperse, tx3]
theorem join4 (w c k d : ByteArray) : (⟨(Lib.join (([w, c, k, d] : List ByteArray).map (·.data.toList)) [32]).toArray⟩ : ByteArray) = tx4 w c k d := by
  apply ByteArray.ext
  apply Array.ext'
  simp [Lib.join, List.intercalate, List.intersperse, tx4]
theorem join2 (w c : ByteArray) : (⟨(Lib.join (([w, c] : List ByteArray).map (·.data.toList)) [32]).toArray⟩ : ByteArray) = tx2 w c := by
  apply ByteArray.ext
  apply Array.ext'
  simp [Lib.join, List.intercalate, List.intersperse, tx2]
theorem join1 (w : ByteArray) : (⟨(Lib.join (([w] : List ByteArray).map (·.data.toList)) [32]).toArray⟩ : ByteArray) = w := by
  apply ByteArray.ext
  apply Array.ext'
  simp [Lib.join, List.intercalate]
theorem elevenT {w : World} {g : Nat} {v0 v1 v2 v3 v4 v5 v6 v7 v8 v9 v10 : Value} {t : TypeId} (h : w.heap[g]? = some (.cells #[v0, v1, v2, v3, v4, v5, v6, v7, v8, v9, v10] t (0, 0))) :
    w.cell? ⟨g, 0, none⟩ = some v0 ∧ w.cell? ⟨g, 1, none⟩ = some v1 ∧ w.cell? ⟨g, 2, none⟩ = some v2 ∧ w.cell? ⟨g, 3, none⟩ = some v3 ∧ w.cell? ⟨g, 4, none⟩ = some v4 ∧ w.cell? ⟨g, 5, none⟩ = some v5 ∧ w.cell? ⟨g, 6, none⟩ = some v6 ∧ w.cell? ⟨g, 7, none⟩ = some v7 ∧ w.cell? ⟨g, 8, none⟩ = some v8 ∧ w.cell? ⟨g, 9, none⟩ = some v9 ∧ w.cell? ⟨g, 10, none⟩ = some v10 := by
  have hc : ∀ i, w.cell? ⟨g, i, none⟩ = #[v0, v1, v2, v3, v4, v5, v6, v7, v8, v9, v10][i]? := fun i => cell_of_row w g i _ t (0, 0) h
  exact ⟨hc 0, hc 1, hc 2, hc 3, hc 4, hc 5, hc 6, hc 7, hc 8, hc 9, hc 10⟩
end Go.Proofs.YtikdkijggejnfaaGreatDoor
namespace Go.Proofs.YtikdkijggejnfaaGreatDoor.Mth
open Go.Lib (split splitK splitB index indexByte count)

theorem index_blank (p r : List UInt8) (h : ∀ c ∈ p, c ≠ 32) : index (p ++ 32 :: r) [32] = p.length := by
  rw [Lib.index_one]
  induction p with
  | nil => simp [indexByte]
  | cons c t ih =>
    have hc : c ≠ 32 := h c (by simp)
    have := ih (fun x hx => h x (by simp [hx]))
    simp only [List.cons_append, indexByte, this]
    rw [if_neg (by simpa using hc), if_neg (by simp)]
    simp
theorem index_none (p : List UInt8) (h : ∀ c ∈ p, c ≠ 32) : index p [32] = -1 := by
  rw [Lib.index_one]
  induction p with
  | nil => simp [indexByte]
  | cons c t ih =>
    have hc : c ≠ 32 := h c (by simp)
    have := ih (fun x hx => h x (by simp [hx]))
    simp only [indexByte, this]
    rw [if_neg (by simpa using hc)]
    simp
theorem split_blank (p r : List UInt8) (h : ∀ c ∈ p, c ≠ 32) : split (p ++ 32 :: r) [32] = p :: split r [32] := by
  have hi := index_blank p r h
  have hc := Lib.count_hit (s := p ++ 32 :: r) (sub := [32]) (i := p.length) (by simp) hi
  unfold split
  rw [hc, Nat.add_comm 1]
  have e1 : (p ++ 32 :: r).drop (p.length + ([32] : List UInt8).length) = r := by simp
  rw [e1]
  simp only [splitK, hi]
  rw [if_neg (by simp)]
  simp
theorem split_none (p : List UInt8) (h : ∀ c ∈ p, c ≠ 32) : split p [32] = [p] := by
  have hi := index_none p h
  unfold split
  rw [Lib.count_miss hi]
  rfl
end Go.Proofs.YtikdkijggejnfaaGreatDoor.Mth
namespace Go.Proofs.YtikdkijggejnfaaGreatDoor
open Go.RowKit

/-- A block that holds just these texts. -/
def strBlock (w : World) (g : Nat) (xs : List ByteArray) : Prop := w.heap[g]? = some (.cells (xs.map Value.string).toArray 9 (0, 0))
theorem strBlock.cell {w : World} {g : Nat} {xs : List ByteArray} (h : strBlock w g xs) (i : Nat) (hi : i < xs.length) : w.cell? ⟨g, i, none⟩ = some (.string xs[i]) := by
  rw [cell_of_row w g i _ 9 (0, 0) h]; simp [hi]
theorem strBlock.free {w : World} {g : Nat} {xs : List ByteArray} (h : strBlock w g xs) (i : Nat) : w.frozen? ⟨g, i, none⟩ = false := by
  unfold World.frozen?; rw [h]; simp
theorem strBlock.lt {w : World} {g : Nat} {xs : List ByteArray} (h : strBlock w g xs) : g < w.heap.size := by
  rcases Nat.lt_or_ge g w.heap.size with h' | h'
  · exact h'
  · rw [strBlock, Array.getElem?_eq_none h'] at h; cases h
theorem strBlock.below {w w' : World} {g B : Nat} {xs : List ByteArray} (h : strBlock w g xs) (hb : Below B w w') (hg : g < B) : strBlock w' g xs := by
  unfold strBlock; rw [hb.block g hg]; exact h
theorem strBlock.set {w : World} {g : Nat} {xs : List ByteArray} (h : strBlock w g xs) (i : Nat) (t : ByteArray) : strBlock (w.setCell ⟨g, i, none⟩ (.string t)) g (xs.set i t) := by
  unfold strBlock World.setCell
  simp only [Array.getElem?_modify]
  rw [if_pos trivial, h]
  simp

/-- All but one block reads as before; new blocks may lie behind. -/
structure Keeps (g : Nat) (w w' : World) : Prop where
  os : w'.os = w.os
  tape : w'.tape = w.tape
  output : w'.output = w.output
  size : w.heap.size ≤ w'.heap.size
  block : ∀ k, k < w.heap.size → k ≠ g → w'.heap[k]? = w.heap[k]?
theorem Keeps.refl (g : Nat) (w : World) : Keeps g w w := ⟨rfl, rfl, rfl, Nat.le_refl _, fun _ _ _ => rfl⟩
theorem Keeps.trans {g : Nat} {a b c : World} (h : Keeps g a b) (k : Keeps g b c) : Keeps g a c :=
  ⟨k.os.trans h.os, k.tape.trans h.tape, k.output.trans h.output, Nat.le_trans h.size k.size, fun i hi hg => (k.block i (Nat.lt_of_lt_of_le hi h.size) hg).trans (h.block i hi hg)⟩
theorem Keeps.set {g i : Nat} {w : World} (v : Value) : Keeps g w (w.setCell ⟨g, i, none⟩ v) :=
  ⟨rfl, rfl, rfl, by simp [World.setCell], fun k _ hg => Below.heap_setCell _ _ _ _ hg⟩
theorem Keeps.below {g B : Nat} {w w' : World} (h : Keeps g w w') (hB : B ≤ g) (hs : B ≤ w.heap.size) : Below B w w' := ⟨h.os, h.tape, h.output, h.size, fun k hk => h.block k (by omega) (by omega)⟩
end Go.Proofs.YtikdkijggejnfaaGreatDoor
namespace Go.Proofs.YtikdkijggejnfaaGreatDoor
open Go.RowKit

/-- A byte as a cell's value. -/
def bv (c : UInt8) : Value := .int .u8 (c.toNat : Int)

/-- Below stays so behind an append to a row of the call's own. -/
theorem below_append {w wr w1 : World} {e : TypeId} {v : Value} {n : Nat} {xs : List Value} {o : Obj} (hb : Below w.heap.size w wr) (hown : wr.ownsRow w.heap.size e 1 v n xs) (hg : (wr.alloc o).grownBy w1 v.ownBlock) : Below w.heap.size w w1 :=
  (hb.alloc (by have := hb.size; omega) o).grown hg (by have := hb.size; simp; omega) (fun k hk => (hown.lt k hk).1)
end Go.Proofs.YtikdkijggejnfaaGreatDoor
namespace Go.Proofs.YtikdkijggejnfaaGreatDoor
open Go.RowKit

/-- The words of a text. -/
def words (s : ByteArray) : List ByteArray := (Lib.split s.data.toList [32]).map fun l => (⟨l.toArray⟩ : ByteArray)
def strv (l : List UInt8) : Value := .string ⟨l.toArray⟩
theorem words_strv (s : ByteArray) : (words s).map Value.string = (Lib.split s.data.toList [32]).map strv := by simp [words, strv]

theorem infoStr : (Tryz.prog.info? 9).map (fun i => (i.zero, i.size, i.bytes)) = some (some (.string ByteArray.empty), 1, 16) := by kernel_rfl

/-- A piece more. -/
theorem own_piece {w : World} {base : Nat} {v : Value} {l : List (List UInt8)} {t : ByteArray} (p : List UInt8) (ht : t = ⟨p.toArray⟩) (h : w.ownsRow base 9 1 v (l.length + 1) (l.map strv ++ [.string t])) :
    w.ownsRow base 9 1 v (l ++ [p]).length ((l ++ [p]).map strv) := by
  subst ht
  have e1 : (l ++ [p]).map strv = l.map strv ++ [.string ⟨p.toArray⟩] := by simp [strv]
  rw [e1]; simpa using h
theorem drop_blank (s : ByteArray) (f i : Nat) (hf : f ≤ i) (hlt : i < s.size) (hb : s[i] = 32) : s.data.toList.drop f = (s.data.toList.drop f).take (i - f) ++ 32 :: s.data.toList.drop (i + 1) := by
  conv => lhs; rw [← List.take_append_drop (i - f) (s.data.toList.drop f)]
  congr 1
  rw [List.drop_drop]
  have e : f + (i - f) = i := by omega
  rw [e, List.drop_eq_getElem_cons (by simpa using hlt)]
  congr 1
theorem take_more (s : ByteArray) (f i : Nat) (hf : f ≤ i) (hlt : i < s.size) : (s.data.toList.drop f).take (i + 1 - f) = (s.data.toList.drop f).take (i - f) ++ [s[i]] := by
  have e : i + 1 - f = i - f + 1 := by omega
  rw [e, List.take_succ_eq_append_getElem (by simp; show i - f < s.size - f; omega)]
  congr 1
  have : f + (i - f) = i := by omega
  simp [this]; rfl

set_option maxHeartbeats 1000000 in
set_option maxRecDepth 100000 in
theorem specWords (s : ByteArray) (w : World) (hs : s.size ≤ 1048576) :
    Calls Tryz.prog 24 #[.string s] w fun e w' => ∃ v, e = .returned v ∧ w'.ownsRow w.heap.size 9 1 v (words s).length ((words s).map Value.string) ∧ Below w.heap.size w w' := by
  obtain ⟨i0, hi, hz0, hz1, hz2⟩ := info_parts infoStr
  go_enter Tryz.func24, Tryz.ntmps24
  go_wp2
  go_loopw [3, 4, 5] (fun v f i wr => ∃ (k a : Nat) (l : List (List UInt8)), k ≤ s.size ∧ a ≤ k ∧ l.length ≤ a ∧ i = .int .i64 k ∧ f = .int .i64 a ∧ wr.ownsRow w.heap.size 9 1 v l.length (l.map strv) ∧ Below w.heap.size w wr ∧ l ++ Lib.split (s.data.toList.drop a) [32] = Lib.split s.data.toList [32] ∧ (∀ c ∈ (s.data.toList.drop a).take (k - a), c ≠ 32)) (fun _ _ i _ => s.size - (intOf i).toNat)
  case atStart => exact ⟨0, 0, [], Nat.zero_le _, Nat.le_refl _, Nat.le_refl _, rfl, rfl, World.ownsRow_lit _ #[] 0 (Nat.le_refl _) (by decide) rfl, (Below.refl _ _).alloc (Nat.le_refl _) _, by simp, by simp⟩
  case round =>
    obtain ⟨k, a, l, hk, hak, hla, rfl, rfl, hown, hbel, hsp, hno⟩ := hrel
    have HSP := hide hsp
    have HNO := hide hno
    clear hsp hno
    by_cases hlt : k < s.size
    · by_cases hb : s[k] = 32
      · have HS2 : Hid (l ++ [(s.data.toList.drop a).take (k - a)] ++ Lib.split (s.data.toList.drop (k + 1)) [32] = Lib.split s.data.toList [32]) := by
          have h := unhide HSP
          rw [drop_blank s a k hak hlt hb, Mth.split_blank _ _ (unhide HNO)] at h
          unfold Hid
          rw [← h]; simp
        have hbb : ((s[k].toNat : Int) == 32) = true := by rw [hb]; rfl
        have HX := hide (Lib.extract_eq s a k)
        clear HSP HNO hb
        go_wp2_with (at_builtin; refine wpList_append_own _ rfl _ _ 43 rfl w.heap.size 9 i0 (.string ByteArray.empty) 1 16 Tryz.underlying43 hi hz0 hz1 hz2 rfl (by decide) _ _ _ rfl (hown.alloc _) ⟨wr.heap.size, 0, none⟩ 1 1 [.string (s.extract a k)] rfl rfl ?c1 ?c2 ?c3 ?c4 ?c5 ?_)
        case c1 => exact cell_one_new _ _ _
        case c2 => intro u hu; simp at hu; subst hu; rfl
        case c3 => unfold maxLen; omega
        case c4 => omega
        case c5 => have := hbel.size; simp; omega
        intro v' w1 hown' hgrow _
        have hbel' := below_append hbel hown hgrow
        have hown2 := own_piece _ (unhide HX) hown'
        clear hown' hgrow hown hbel
        go_wp2
        go_roundw
        case rel => exact ⟨k + 1, k + 1, _, by omega, Nat.le_refl _, by simp; omega, by go_num, by go_num, hown2, hbel', unhide HS2, by simp⟩
        case measure => simp [intOf]; omega
      · have hbb : ((s[k].toNat : Int) == 32) = false := beq_eq_false_iff_ne.2 (fun e => hb (UInt8.toNat_inj.1 (by simp; omega)))
        have HN2 : Hid (∀ c ∈ (s.data.toList.drop a).take (k + 1 - a), c ≠ 32) := by
          intro c hc
          rw [take_more s a k hak hlt, List.mem_append] at hc
          rcases hc with hc | hc
          · exact unhide HNO c hc
          · simp at hc; subst hc; exact hb
        clear HNO hb
        go_wp2
        go_roundw
        case rel => exact ⟨k + 1, a, l, by omega, by omega, hla, by go_num, rfl, hown, hbel, unhide HSP, unhide HN2⟩
        case measure => simp [intOf]; omega
    · have hks : k = s.size := by omega
      subst hks
      have HW : Hid (l ++ [s.data.toList.drop a] = Lib.split s.data.toList [32]) := by
        have h := unhide HSP
        rw [Mth.split_none _ (by
          have h2 := unhide HNO
          rw [List.take_of_length_le (by simp)] at h2
          exact h2)] at h
        exact h
      have HX : Hid (s.extract a s.size = ⟨(s.data.toList.drop a).toArray⟩) := by
        unfold Hid
        rw [Lib.extract_eq, List.take_of_length_le (by simp)]
      clear HSP HNO
      go_wp2_with (at_builtin; refine wpList_append_own _ rfl _ _ 43 rfl w.heap.size 9 i0 (.string ByteArray.empty) 1 16 Tryz.underlying43 hi hz0 hz1 hz2 rfl (by decide) _ _ _ rfl (hown.alloc _) ⟨wr.heap.size, 0, none⟩ 1 1 [.string (s.extract a s.size)] rfl rfl ?d1 ?d2 ?d3 ?d4 ?d5 ?_)
      case d1 => exact cell_one_new _ _ _
      case d2 => intro u hu; simp at hu; subst hu; rfl
      case d3 => unfold maxLen; omega
      case d4 => omega
      case d5 => have := hbel.size; simp; omega
      intro v' w1 hown' hgrow _
      have hbel' := below_append hbel hown hgrow
      have hown2 := own_piece _ (unhide HX) hown'
      rw [unhide HW] at hown2
      have HO := hide hown2
      clear hown' hgrow hown hown2
      go_wp2
      go_ret
      refine ⟨_, rfl, ?_, hbel'⟩
      rw [words_strv]
      have e : (words s).length = (Lib.split s.data.toList [32]).length := by simp [words]
      rw [e]; exact unhide HO
end Go.Proofs.YtikdkijggejnfaaGreatDoor
namespace Go.Proofs.YtikdkijggejnfaaGreatDoor
open Go.RowKit

theorem infoByte : (Tryz.prog.info? 5).map (fun i => (i.zero, i.size, i.bytes)) = some (some (.int .u8 0), 1, 1) := by kernel_rfl
theorem sizeByte : (Tryz.prog.info? 5).map (·.size) = some 1 := by kernel_rfl
theorem cellsByte : Tryz.prog.cellsOf 5 = 1 := by kernel_rfl

theorem cloneIn_empty (w : World) : Calls Tryz.prog 83 #[.string ByteArray.empty] w fun e w' => e = .returned (.string ByteArray.empty) ∧ w = w' := by
  go_enter Tryz.func83, Tryz.ntmps83
  go_wp2
  go_ret
  exact ⟨rfl, rfl⟩

/-- 'make([]byte, n)': a new row of n noughts, under a name. -/
theorem make_bytes (n : Nat) (hn : n ≤ 281474976710656) : ∃ M : Array Value, M.size = n ∧ ∀ W : World, (Instr.makeSlice 30 (.int .i64 (n : Int)) (.int .i64 (n : Int))).run Tryz.prog W = .ok (.slice (some ⟨W.heap.size, 0, none⟩) n n) (W.alloc (.cells M 5)) := by
  obtain ⟨i0, hi, hz0, hz1, hz2⟩ := info_parts infoByte
  refine ⟨madeCells (Value.int .u8 0).cells (((n : Nat) : Int).toNat * i0.size), by rw [size_madeCells, hz1]; simp, fun W => ?_⟩
  simpa using run_make (P := Tryz.prog) W 30 5 i0 (.int .u8 0) Tryz.underlying30 hi hz0 .i64 .i64 (n : Int) (n : Int) (by omega) (by omega) (by rw [hz2]; omega) (by omega)

/-- 'copy(b, s)' over a whole new row: the row then holds the text's bytes. -/
theorem copy_all (w : World) (s : ByteArray) (M : Array Value) (hM : M.size = s.size) : ∃ Y : Array Value, Y.toList = s.data.toList.map bv ∧
    (Builtin.copy_ #[30, 9] 3 #[.slice (some ⟨w.heap.size, 0, none⟩) s.size s.size, .string s]).run Tryz.prog (w.alloc (.cells M 5)) = .ok (goInt s.size) ((w.alloc (.cells M 5)).setRow w.heap.size Y) := by
  have h := Lib.run_copy_row_string (P := Tryz.prog) (w.alloc (.cells M 5)) 30 9 3 5 w.heap.size 0 s.size s.size s M 5 Tryz.underlying30 sizeByte (heap_alloc_new w _) (Nat.le_refl _) (by omega)
  refine ⟨_, ?_, h⟩
  rw [List.toList_toArray, List.take_zero, List.nil_append, List.drop_of_length_le (by rw [Array.length_toList]; omega), List.append_nil]
  rfl

set_option maxHeartbeats 1000000 in
set_option maxRecDepth 100000 in
theorem cloneIn (s : ByteArray) (w : World) (h0 : 0 < s.size) (hlim : s.size ≤ 281474976710656) :
    Calls Tryz.prog 83 #[.string s] w fun e w' => e = .returned (.string s) ∧ Below w.heap.size w w' := by
  obtain ⟨M, hMs, hmk⟩ := make_bytes s.size hlim
  obtain ⟨Y, hY, hcp⟩ := copy_all w s M hMs
  have hYs : Y.size = s.size := by rw [← Array.length_toList, hY]; simp
  have hg : ((w.alloc (.cells M 5)).setRow w.heap.size Y).heap[w.heap.size]? = some (.cells Y 5 (0, 0)) := setRow_heap _ _ M _ 5 (0, 0) (heap_alloc_new w _)
  have hus := Lib.run_unsafeString_row (P := Tryz.prog) ((w.alloc (.cells M 5)).setRow w.heap.size Y) 117 3 9 5 Tryz.underlying117 cellsByte w.heap.size Y.size (by unfold World.shape?; rw [hg]) s.data.toList
    (fun e => by have := size_toList s; rw [e] at this; simp at this; omega) (by rw [size_toList]; omega) (by rw [size_toList]; omega)
    (fun j x hx => Lib.cells_of_row hg Y.size j _ (by rw [List.take_of_length_le (by rw [Array.length_toList]; exact Nat.le_refl _), hY]; simp [bv, hx]))
  rw [size_toList, Lib.mk_data] at hus
  have hne : ((s.size : Int) == 0) = false := beq_eq_false_iff_ne.2 (by omega)
  have hlt : (0 : Int) < (s.size : Int) := by omega
  clear hY hMs hg
  go_enter Tryz.func83, Tryz.ntmps83
  go_wp2
  go_ret
  exact ⟨rfl, Lib.below_freeze (below_setRow ((Below.refl _ w).alloc (Nat.le_refl _) _) (Nat.le_refl _) Y) (p := ⟨w.heap.size, 0, none⟩) (Nat.le_refl _) _⟩

theorem clone (s : ByteArray) (w : World) (hlim : s.size ≤ 281474976710656) :
    Calls Tryz.prog 58 #[.string s] w fun e w' => e = .returned (.string s) ∧ Below w.heap.size w w' := by
  by_cases h0 : 0 < s.size
  · go_enter Tryz.func58, Tryz.ntmps58
    go_wp2_with (go_at_call 83; refine (cloneIn s _ h0 hlim).mono ?_; rintro e w' ⟨rfl, hbel⟩)
    go_ret
    exact ⟨rfl, hbel⟩
  · obtain rfl := eq_empty s (by omega)
    go_enter Tryz.func58, Tryz.ntmps58
    go_wp2_with (go_at_call 83; refine (cloneIn_empty _).mono ?_; rintro e w' ⟨rfl, rfl⟩)
    go_ret
    exact ⟨rfl, Below.refl _ _⟩
end Go.Proofs.YtikdkijggejnfaaGreatDoor
