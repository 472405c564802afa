/- Parts. -/
import Derived.Test.YtikdkijggejnfaaGreatDoorPj10
import Derived.Test.YtikdkijggejnfaaGreatDoorPj12
namespace Go.Proofs.YtikdkijggejnfaaGreatDoor
open Go.RowKit
open Mth

def tx3 (w k d : ByteArray) : ByteArray := w ++ (⟨#[32]⟩ : ByteArray) ++ k ++ (⟨#[32]⟩ : ByteArray) ++ d
def tx4 (w c k d : ByteArray) : ByteArray := w ++ (⟨#[32]⟩ : ByteArray) ++ c ++ (⟨#[32]⟩ : ByteArray) ++ k ++ (⟨#[32]⟩ : ByteArray) ++ d
def tx2 (w c : ByteArray) : ByteArray := w ++ (⟨#[32]⟩ : ByteArray) ++ c
def opTx (o : Op5) : ByteArray :=
  if opOk o = true then
    (if o.K = 0 then tx3 (⟨#[109, 105, 110, 116]⟩ : ByteArray) o.k (dec o.n)
     else if o.K = 1 then tx4 (⟨#[97, 100, 109, 105, 116]⟩ : ByteArray) (dec o.no) o.k (dec o.n)
     else if o.K = 2 then tx2 (⟨#[114, 101, 108, 101, 97, 115, 101]⟩ : ByteArray) (dec o.no)
     else if o.K = 3 then tx3 (⟨#[119, 97, 110, 116]⟩ : ByteArray) o.k (dec o.n)
     else if o.K = 4 then tx3 (⟨#[98, 97, 99, 107]⟩ : ByteArray) o.k (dec o.n)
     else if o.K = 5 then (⟨#[116, 105, 99, 107]⟩ : ByteArray)
     else tx2 (⟨#[104, 101, 97, 114]⟩ : ByteArray) (msgTx o.m))
  else ByteArray.empty
theorem opTx_no {o : Op5} (h : opOk o = false) : opTx o = ByteArray.empty := by unfold opTx; rw [if_neg (by rw [h]; simp)]
theorem opTx_yes {o : Op5} (h : opOk o = true) : opTx o = (if o.K = 0 then tx3 (⟨#[109, 105, 110, 116]⟩ : ByteArray) o.k (dec o.n)
     else if o.K = 1 then tx4 (⟨#[97, 100, 109, 105, 116]⟩ : ByteArray) (dec o.no) o.k (dec o.n)
     else if o.K = 2 then tx2 (⟨#[114, 101, 108, 101, 97, 115, 101]⟩ : ByteArray) (dec o.no)
     else if o.K = 3 then tx3 (⟨#[119, 97, 110, 116]⟩ : ByteArray) o.k (dec o.n)
     else if o.K = 4 then tx3 (⟨#[98, 97, 99, 107]⟩ : ByteArray) o.k (dec o.n)
     else if o.K = 5 then (⟨#[116, 105, 99, 107]⟩ : ByteArray)
     else tx2 (⟨#[104, 101, 97, 114]⟩ : ByteArray) (msgTx o.m)) := by unfold opTx; rw [if_pos h]
theorem key_le {s : ByteArray} (hs : keyOk s.data.toList = true) : s.size ≤ 10 := by
  unfold keyOk at hs
  simp only [Bool.and_eq_true, decide_eq_true_iff] at hs
  have := size_toList s
  omega
/-- What a right operation's parts are. -/
theorem op_parts {o : Op5} (h : opOk o = true) : ((o.K = 0 ∨ o.K = 3 ∨ o.K = 4) ∧ (0 ≤ o.n ∧ o.n ≤ 1000000000) ∧ o.k.size ≤ 10) ∨ (o.K = 1 ∧ (0 ≤ o.n ∧ o.n ≤ 1000000000) ∧ (0 ≤ o.no ∧ o.no ≤ 1000000000) ∧ o.k.size ≤ 10) ∨ (o.K = 2 ∧ (0 ≤ o.no ∧ o.no ≤ 1000000000)) ∨ o.K = 5 ∨ (o.K = 6 ∧ mgOk o.m = true) := by
  unfold opOk at h
  split at h
  · rename_i h0
    simp only [Bool.and_eq_true, smB, decide_eq_true_iff] at h
    have := key_le h.1.1.1
    exact .inl ⟨h0, by omega, this⟩
  · split at h
    · rename_i h0
      simp only [Bool.and_eq_true, smB, decide_eq_true_iff] at h
      have := key_le h.1.1.1
      exact .inr (.inl ⟨h0, by omega, by omega, this⟩)
    · split at h
      · rename_i h0
        simp only [Bool.and_eq_true, smB, decide_eq_true_iff] at h
        exact .inr (.inr (.inl ⟨h0, by omega⟩))
      · split at h
        · rename_i h0
          exact .inr (.inr (.inr (.inl h0)))
        · split at h
          · rename_i h0
            simp only [Bool.and_eq_true] at h
            exact .inr (.inr (.inr (.inr ⟨h0, h.2⟩)))
          · cases h
theorem msgTx_le (m : Mg) : (msgTx m).size ≤ 300 := by
  cases h : mgOk m
  · rw [msgTx_no h]; decide
  obtain ⟨hF, hT, hc⟩ := mg_parts h
  have a1 := dec_size m.F (by omega) (by omega)
  have a2 := dec_size m.T (by omega) (by omega)
  have hw1 : (⟨#[32]⟩ : ByteArray).size = 1 := rfl
  have hwg : (⟨#[32, 62, 32]⟩ : ByteArray).size = 3 := rfl
  have hw4 : (⟨#[119, 97, 110, 116]⟩ : ByteArray).size = 4 := rfl
  have hw3 : (⟨#[112, 97, 121]⟩ : ByteArray).size = 3 := rfl
  have hw5 : (⟨#[97, 99, 107]⟩ : ByteArray).size = 3 := rfl
  unfold msgTx
  rw [if_pos h]
  rcases hc with ⟨e, hN, hk⟩ | ⟨e, hN, hI, hL, hk⟩ | ⟨e, hI⟩
  · rw [if_pos e]
    have a3 := dec_size m.N (by omega) (by omega)
    unfold txWant
    simp only [ByteArray.size_append]
    omega
  · rw [if_neg (by omega), if_pos e]
    have a3 := dec_size m.N (by omega) (by omega)
    have a4 := dec_size m.I (by omega) (by omega)
    have a5 := dec_size m.L (by omega) (by omega)
    unfold txPay
    simp only [ByteArray.size_append]
    omega
  · rw [if_neg (by omega), if_neg (by omega)]
    have a4 := dec_size m.I (by omega) (by omega)
    unfold txAck
    simp only [ByteArray.size_append]
    omega
theorem join3 (w k d : ByteArray) : (⟨(Lib.join (([w, k, d] : List ByteArray).map (·.data.toList)) [32]).toArray⟩ : ByteArray) = tx3 w k d := by
  apply ByteArray.ext
  apply Array.ext'
  simp [Lib.join, List.intercalate, List.intersperse, tx3]
theorem join4 (w c k d : ByteArray) : (⟨(Lib.join (([w, c, k, d] : List ByteArray).map (·.data.toList)) [32]).toArray⟩ : ByteArray) = tx4 w c k d := by
  apply ByteArray.ext
  apply Array.ext'
  simp [Lib.join, List.intercalate, List.intersperse, tx4]
theorem join2 (w c : ByteArray) : (⟨(Lib.join (([w, c] : List ByteArray).map (·.data.toList)) [32]).toArray⟩ : ByteArray) = tx2 w c := by
  apply ByteArray.ext
  apply Array.ext'
  simp [Lib.join, List.intercalate, List.intersperse, tx2]
theorem join1 (w : ByteArray) : (⟨(Lib.join (([w] : List ByteArray).map (·.data.toList)) [32]).toArray⟩ : ByteArray) = w := by
  apply ByteArray.ext
  apply Array.ext'
  simp [Lib.join, List.intercalate]
theorem elevenT {w : World} {g : Nat} {v0 v1 v2 v3 v4 v5 v6 v7 v8 v9 v10 : Value} {t : TypeId} (h : w.heap[g]? = some (.cells #[v0, v1, v2, v3, v4, v5, v6, v7, v8, v9, v10] t (0, 0))) :
    w.cell? ⟨g, 0, none⟩ = some v0 ∧ w.cell? ⟨g, 1, none⟩ = some v1 ∧ w.cell? ⟨g, 2, none⟩ = some v2 ∧ w.cell? ⟨g, 3, none⟩ = some v3 ∧ w.cell? ⟨g, 4, none⟩ = some v4 ∧ w.cell? ⟨g, 5, none⟩ = some v5 ∧ w.cell? ⟨g, 6, none⟩ = some v6 ∧ w.cell? ⟨g, 7, none⟩ = some v7 ∧ w.cell? ⟨g, 8, none⟩ = some v8 ∧ w.cell? ⟨g, 9, none⟩ = some v9 ∧ w.cell? ⟨g, 10, none⟩ = some v10 := by
  have hc : ∀ i, w.cell? ⟨g, i, none⟩ = #[v0, v1, v2, v3, v4, v5, v6, v7, v8, v9, v10][i]? := fun i => cell_of_row w g i _ t (0, 0) h
  exact ⟨hc 0, hc 1, hc 2, hc 3, hc 4, hc 5, hc 6, hc 7, hc 8, hc 9, hc 10⟩

/-- The first of the two sums is one and all the bytes. -/
theorem fold_first (l : List UInt8) : ∀ (p : Nat × Nat), (l.foldl Mth.sumStep p).1 % 65521 = (p.1 + (l.map UInt8.toNat).sum) % 65521 := by
  induction l with
  | nil => intro p; simp
  | cons c r ih => intro p; simp only [List.foldl_cons, ih, Mth.sumStep, List.map_cons, List.sum_cons]; omega
theorem sum_first (l : List UInt8) : (Mth.sums l).1 = (1 + (l.map UInt8.toNat).sum) % 65521 := by
  have h := fold_first l (1, 0)
  have h2 := (Mth.sums_lt l).1
  unfold Mth.sums at *
  rw [Nat.mod_eq_of_lt h2] at h
  exact h
theorem sum_set (l : List UInt8) : ∀ (i : Nat) (c : UInt8) (hi : i < l.length), ((l.set i c).map UInt8.toNat).sum + l[i].toNat = (l.map UInt8.toNat).sum + c.toNat := by
  induction l with
  | nil => intro i c hi; simp at hi
  | cons x r ih =>
    intro i c hi
    cases i with
    | zero => simp; omega
    | succ j =>
      have := ih j c (by simpa using hi)
      simp only [List.set_cons_succ, List.map_cons, List.sum_cons, List.getElem_cons_succ]
      omega
/-- A text with one byte changed has another sum. -/
theorem sum_change (l : List UInt8) (i : Nat) (c : UInt8) (hi : i < l.length) (hne : c ≠ l[i]) : (65536 * (Mth.sums (l.set i c)).2 + (Mth.sums (l.set i c)).1 : Nat) ≠ 65536 * (Mth.sums l).2 + (Mth.sums l).1 := by
  intro e
  have a1 := (Mth.sums_lt l).1
  have a2 := (Mth.sums_lt (l.set i c)).1
  have e1 : (Mth.sums (l.set i c)).1 = (Mth.sums l).1 := by omega
  rw [sum_first, sum_first] at e1
  have hs := sum_set l i c hi
  have hc := c.toNat_lt
  have hx := l[i].toNat_lt
  have hn : c.toNat ≠ l[i].toNat := fun h => hne (UInt8.toNat_inj.1 h)
  omega
/-- A byte that is xored with something is another byte. -/
theorem xor_byte (x : UInt8) (y : Int) (h1 : 1 ≤ y) (h2 : y ≤ 255) : ∃ c : UInt8, bits .xor .u8 (x.toNat : Int) y = (c.toNat : Int) ∧ c ≠ x := by
  obtain ⟨n, rfl⟩ := Int.eq_ofNat_of_zero_le (show 0 ≤ y by omega)
  have hx := x.toNat_lt
  have hn : n < 256 := by omega
  have hlt : x.toNat ^^^ n < 256 := Nat.xor_lt_two_pow (n := 8) hx hn
  refine ⟨UInt8.ofNat (x.toNat ^^^ n), ?_, ?_⟩
  · rw [Mth.toNat_byte _ hlt]
    have e1 : (BitVec.ofInt 8 (x.toNat : Int)).toNat = x.toNat := by rw [BitVec.ofInt_natCast, BitVec.toNat_ofNat]; exact Nat.mod_eq_of_lt (by omega)
    have e2 : (BitVec.ofInt 8 (n : Int)).toNat = n := by rw [BitVec.ofInt_natCast, BitVec.toNat_ofNat]; exact Nat.mod_eq_of_lt (by omega)
    show IntKind.u8.wrap ((BitVec.ofInt 8 (x.toNat : Int) ^^^ BitVec.ofInt 8 (n : Int)).toNat : Int) = _
    rw [BitVec.toNat_xor, e1, e2, IntWalk.u8_in _ ⟨by omega, by omega⟩]
  · intro e
    have := congrArg UInt8.toNat e
    rw [Mth.toNat_byte _ hlt] at this
    have h0 : x.toNat ^^^ (x.toNat ^^^ n) = x.toNat ^^^ x.toNat := by rw [this]
    rw [← Nat.xor_assoc, Nat.xor_self, Nat.zero_xor] at h0
    omega

theorem zm_zero {m : Mg} (h : zmB m = true) : m = mg0 := by
  obtain ⟨K, F, T, I, L, k, N⟩ := m
  unfold zmB at h
  simp only [decide_eq_true_iff] at h
  obtain ⟨rfl, rfl, rfl, rfl, rfl, hk, rfl⟩ := h
  have : k = ByteArray.empty := by
    rw [ByteArray.toList_eq] at hk
    exact ByteArray.ext (Array.ext' hk)
  rw [this]
  rfl
theorem no_key {k : ByteArray} (h : k.toList = []) : k.size ≤ 10 := by
  rw [ByteArray.toList_eq] at h
  have := size_toList k
  rw [h] at this
  simp at this
  omega
/-- What a right operation's parts are, each within its bounds. -/
theorem op_all {o : Op5} (h : opOk o = true) : (0 ≤ o.K ∧ o.K ≤ 6) ∧ (0 ≤ o.no ∧ o.no ≤ 1000000000) ∧ o.k.size ≤ 10 ∧ (0 ≤ o.n ∧ o.n ≤ 1000000000) ∧ (o.m = mg0 ∨ mgOk o.m = true) := by
  have hK := opKind_in h
  unfold opOk at h
  split at h
  · simp only [Bool.and_eq_true, smB, decide_eq_true_iff] at h
    exact ⟨hK, by omega, key_le h.1.1.1, by omega, .inl (zm_zero h.2)⟩
  · split at h
    · simp only [Bool.and_eq_true, smB, decide_eq_true_iff] at h
      exact ⟨hK, by omega, key_le h.1.1.1, by omega, .inl (zm_zero h.2)⟩
    · split at h
      · simp only [Bool.and_eq_true, smB, decide_eq_true_iff] at h
        exact ⟨hK, by omega, no_key h.1.1.1, by omega, .inl (zm_zero h.2)⟩
      · split at h
        · simp only [Bool.and_eq_true, decide_eq_true_iff] at h
          exact ⟨hK, by omega, no_key h.1.1.1, by omega, .inl (zm_zero h.2)⟩
        · split at h
          · simp only [Bool.and_eq_true, decide_eq_true_iff] at h
            exact ⟨hK, by omega, no_key h.1.1.1, by omega, .inr h.2⟩
          · cases h
theorem put_small {m : Mg} (h : m = mg0 ∨ mgOk m = true) : (putMsg m).size ≤ 1000 ∧ getMg (putMsg m) = m ∧ (decide ((putMsg m).size = 0) || getOk (putMsg m)) = true := by
  rcases h with rfl | h
  · rw [putMsg_no mg0_not]
    exact ⟨by decide, (getMg_nil rfl).1, rfl⟩
  · rw [putMsg_yes h]
    exact ⟨mgBytes_small h, get_back h, by rw [(back_msg h).2]; simp⟩
theorem putT_ten {t : ByteArray} (h : t.size ≤ 10) : (putT t).size ≤ 16 := by
  unfold putT
  rw [if_pos (by omega)]
  unfold putText
  have := put_length t.size
  rw [size_of_list, List.length_append, size_toList]
  omega
theorem mgBytes_tiny {m : Mg} (h : m = mg0 ∨ mgOk m = true) : (putMsg m).size ≤ 60 := by
  rcases h with rfl | h
  · rw [putMsg_no mg0_not]; decide
  · rw [putMsg_yes h]
    obtain ⟨_, _, _, _, _, _, hk⟩ := mg_all h
    unfold mgBytes
    have s1 := putS_size m.F
    have s2 := putS_size m.T
    have s3 := putS_size m.I
    have s4 := putS_size m.L
    have s6 := putS_size m.N
    have s5 := putT_ten hk
    simp only [ByteArray.size_append, kb_size]
    omega
theorem opBytes_small {o : Op5} (h : opOk o = true) : (opBytes o).size ≤ 1000 := by
  obtain ⟨_, _, hk, _, hm⟩ := op_all h
  have s0 := mgBytes_tiny hm
  have s1 := putS_size o.no
  have s2 := putS_size o.n
  have s3 := putT_ten hk
  have s4 : (putT (putMsg o.m)).size ≤ 70 := by
    unfold putT
    rw [if_pos (by omega)]
    unfold putText
    have := put_length (putMsg o.m).size
    rw [size_of_list, List.length_append, size_toList]
    omega
  unfold opBytes
  simp only [ByteArray.size_append, kb_size]
  omega
/-- An operation comes back from its bytes. -/
theorem back_op {o : Op5} (h : opOk o = true) : opC (opBytes o) = o ∧ gopB (opBytes o) = true := by
  obtain ⟨hK, hno, hk, hn, hm⟩ := op_all h
  obtain ⟨hB1, hB2, hB3⟩ := put_small hm
  obtain ⟨K, no, k, n, m⟩ := o
  dsimp only at *
  have hs : (opBytes ⟨K, no, k, n, m⟩).data.toList = [UInt8.ofNat K.toNat] ++ (Mth.put no.toNat ++ ((Mth.put k.size ++ k.data.toList) ++ (Mth.put n.toNat ++ (Mth.put (putMsg m).size ++ (putMsg m).data.toList)))) := by
    unfold opBytes
    simp only [ByteArray.data_append, Array.toList_append]
    rw [putS_nat hno.1 (by omega), putS_nat hn.1 (by omega), putT_list (by omega), putT_list hB1]
    simp [kb]
  have h0 : 0 < (opBytes ⟨K, no, k, n, m⟩).size := opBytes_pos _
  generalize hB : opBytes ⟨K, no, k, n, m⟩ = B at *
  obtain ⟨n1, e1⟩ := rd_pre (pre := [UInt8.ofNat K.toNat]) (n := no.toNat) hs (by omega) 1 rfl
  obtain ⟨n2, e2⟩ := rt_pre (pre := [UInt8.ofNat K.toNat] ++ Mth.put no.toNat) (t := k) (y := Mth.put n.toNat ++ (Mth.put (putMsg m).size ++ (putMsg m).data.toList)) (s := B) (by rw [hs]; simp only [List.append_assoc]) (by omega) (rdE B 1) (by rw [e1, List.length_append])
  have hpk : (putT k).size = (Mth.put k.size ++ k.data.toList).length := by rw [← putT_list (by omega), size_toList]
  obtain ⟨n3, e3⟩ := rd_pre (pre := [UInt8.ofNat K.toNat] ++ Mth.put no.toNat ++ (Mth.put k.size ++ k.data.toList)) (n := n.toNat) (y := Mth.put (putMsg m).size ++ (putMsg m).data.toList) (s := B) (by rw [hs]; simp only [List.append_assoc]) (by omega) (rtE B (rdE B 1)) (by rw [e2, hpk]; simp only [List.length_append])
  obtain ⟨n4, e4⟩ := rt_pre (pre := [UInt8.ofNat K.toNat] ++ Mth.put no.toNat ++ (Mth.put k.size ++ k.data.toList) ++ Mth.put n.toNat) (t := putMsg m) (y := []) (s := B) (by rw [hs]; simp only [List.append_assoc, List.append_nil]) hB1 (rdE B (rtE B (rdE B 1))) (by rw [e3]; simp only [List.length_append])
  have hOB : opB B = putMsg m := n4
  have hc : opC B = ⟨K, no, k, n, m⟩ := by
    unfold opC
    rw [hOB, n1, n2, n3, hs, hB2]
    simp only [List.cons_append, List.nil_append, List.headD_cons, Op5.mk.injEq]
    have := toNat_byte K.toNat (by omega)
    exact ⟨by omega, by omega, trivial, by omega, trivial⟩
  have hpb : (putT (putMsg m)).size = (Mth.put (putMsg m).size ++ (putMsg m).data.toList).length := by rw [← putT_list hB1, size_toList]
  have hE : opE B = B.size := by
    show rtE B (rdE B (rtE B (rdE B 1))) = _
    rw [e4, ← size_toList B, hs, hpb]
    simp only [List.length_append]
    omega
  refine ⟨hc, ?_⟩
  unfold gopB
  rw [decide_eq_true h0, decide_eq_true hE, hc, h, show bodyB B = true by unfold bodyB; rw [hOB]; exact hB3]
  rfl
theorem get_op {o : Op5} (h : opOk o = true) : getOp (putOp o) = o ∧ gopB (putOp o) = true := by
  rw [putOp_yes h]
  obtain ⟨h1, h2⟩ := back_op h
  exact ⟨by unfold getOp; rw [if_pos h2, h1], h2⟩
theorem got_op {u : ByteArray} (h : gopB u = true) : opOk (opC u) = true ∧ opBytes (opC u) = u := by
  have h0 : 0 < u.size := by unfold gopB at h; simp only [Bool.and_eq_true, decide_eq_true_iff] at h; exact h.1.1.1
  have ho : opOk (opC u) = true := by unfold gopB at h; simp only [Bool.and_eq_true] at h; exact h.2
  have hs := h
  rw [gopB_spec h0] at hs
  simp only [Bool.and_eq_true, decide_eq_true_iff] at hs
  rw [putOp_yes ho] at hs
  exact ⟨ho, hs.2⟩
theorem put_got {u : ByteArray} (h : gopB u = true) : putOp (getOp u) = u := by
  obtain ⟨h1, h2⟩ := got_op h
  unfold getOp
  rw [if_pos h, putOp_yes h1, h2]
/-- Where an entry stands the bytes are those of its operation. -/
theorem st_entry {s : ByteArray} {a : Nat} (h : stB s a = true) : opOk (opC (faT s a)) = true ∧ s.data.toList = s.data.toList.take a ++ ((entryB (opC (faT s a))).data.toList ++ s.data.toList.drop (faE s a).toNat) ∧ (faE s a).toNat = a + (entryB (opC (faT s a))).size := by
  obtain ⟨p1, p2, p3, p4, p5, p6, p7⟩ := st_parts h
  obtain ⟨g1, g2⟩ := got_op p6
  have hf : faB s a := by unfold stB at h; simp only [Bool.and_eq_true, decide_eq_true_iff] at h; exact h.1
  have hw := hf.2.2
  rw [tl_cut s a 0 4 (by omega), show unT (tl s a) = faT s a from (if_pos hf).symm] at hw
  obtain ⟨_, _, k1, k2, k3⟩ := text_piece (s := s) (i := (a : Int) + 4) (by omega)
  rw [← p2, ← p3, show ((a : Int) + 4).toNat = a + 4 by omega] at k3
  have hl := size_toList s
  have hen : (entryB (opC (faT s a))).data.toList = (s.data.toList.drop a).take ((faE s a).toNat - a) := by
    unfold entryB
    rw [g2]
    unfold frameT
    rw [ByteArray.data_append, Array.toList_append, hw, k3, Lib.extract_data, List.drop_take]
    have e1 : (faE s a).toNat - a = 4 + ((faE s a).toNat - (a + 4)) := by omega
    rw [e1, List.take_add, List.drop_drop, show a + 4 - (a + 0) = 4 by omega, show a + 0 = a by omega]
  refine ⟨g1, ?_, ?_⟩
  · have e4 : s.data.toList.drop (faE s a).toNat = (s.data.toList.drop a).drop ((faE s a).toNat - a) := by rw [List.drop_drop]; congr 1; omega
    rw [hen, e4, List.take_append_drop, List.take_append_drop]
  · rw [← size_toList, hen, List.length_take, List.length_drop]
    omega
/-- Where the bytes of an operation's entry stand it is read. -/
theorem entry_st {s : ByteArray} {p r : List UInt8} {o : Op5} (hs : s.data.toList = p ++ ((entryB o).data.toList ++ r)) (h : opOk o = true) : stB s p.length = true ∧ (faE s p.length).toNat = p.length + (entryB o).size ∧ opC (faT s p.length) = o := by
  have hz := opBytes_small h
  have hfl := frame_list hz
  have hw : (wordB (sumN (opBytes o))).data.toList.length = 4 := by rw [size_toList]; exact wordB_size _
  have hes : (entryB o).size = 4 + (putT (opBytes o)).size := by unfold entryB frameT; rw [ByteArray.size_append, wordB_size]
  have hpos := opBytes_pos o
  have hpt : (putT (opBytes o)).size = (Mth.put (opBytes o).size).length + (opBytes o).size := by rw [← size_toList, putT_list hz, List.length_append, size_toList]
  have hs2 : s.data.toList = (p ++ (wordB (sumN (opBytes o))).data.toList) ++ (Mth.put (opBytes o).size ++ ((opBytes o).data.toList ++ r)) := by
    rw [hs]
    unfold entryB
    rw [hfl]
    simp only [List.append_assoc]
  have hl := congrArg List.length hs
  simp only [List.length_append, size_toList] at hl
  obtain ⟨r1, r2⟩ := rt_pre hs2 hz ((p.length : Int) + 4) (by rw [List.length_append, hw]; omega)
  have hst : stB s p.length = true := by
    rw [stB_spec s p.length (by omega), r1, r2, (back_op h).2, decide_eq_true (by omega)]
    have he : s.extract p.length (p.length + 4) = wordB (sumN (opBytes o)) := by
      apply ByteArray.ext
      apply Array.ext'
      rw [Lib.extract_data, hs2, List.append_assoc, List.drop_left, show p.length + 4 - p.length = (wordB (sumN (opBytes o))).data.toList.length by rw [hw]; omega, List.take_left]
    rw [decide_eq_true he]
    rfl
  obtain ⟨_, p2, p3, _⟩ := st_parts hst
  refine ⟨hst, ?_, ?_⟩
  · rw [p3, r2, List.length_append, hw, hes]
    omega
  · rw [p2, r1]
    exact (back_op h).1
/-- The bytes of many entries. -/
def catE (L : List Op5) : List UInt8 := (L.map fun o => (entryB o).data.toList).flatten
theorem catE_snoc (L : List Op5) (o : Op5) : catE (L ++ [o]) = catE L ++ (entryB o).data.toList := by simp [catE]
theorem catE_cons (M : List Op5) (o : Op5) (L : List Op5) : catE (M ++ o :: L) = catE M ++ ((entryB o).data.toList ++ catE L) := by simp [catE]
theorem sofar_cat {s : ByteArray} (L : List Op5) : ∀ (M : List Op5) (r : List UInt8), s.data.toList = catE (M ++ L) ++ r → (∀ o ∈ L, opOk o = true) → Sofar s (catE M).length M → Sofar s (catE (M ++ L)).length (M ++ L) := by
  induction L with
  | nil => intro M r _ _ h; rw [List.append_nil]; exact h
  | cons o L ih =>
    intro M r hs hok h
    have hs2 : s.data.toList = catE M ++ ((entryB o).data.toList ++ (catE L ++ r)) := by rw [hs, catE_cons]; simp only [List.append_assoc]
    obtain ⟨h1, h2, h3⟩ := entry_st hs2 (hok o (by simp))
    have h4 := sofar_step h h1
    rw [h2, h3, show (catE M).length + (entryB o).size = (catE (M ++ [o])).length by rw [catE_snoc, List.length_append, size_toList]] at h4
    have h5 := ih (M ++ [o]) r (by rw [hs]; simp [List.append_assoc]) (fun x hx => hok x (by simp [hx])) h4
    rw [List.append_assoc] at h5
    exact h5
theorem read_cat {s : ByteArray} {L : List Op5} {x : List UInt8} (hs : s.data.toList = catE L ++ x) (hok : ∀ o ∈ L, opOk o = true) (hz : s.size ≤ 60000) (hst : stB s (catE L).length = false) : rdAll s = (L, (catE L).length) := by
  have h := sofar_cat (s := s) L [] x (by simpa using hs) hok (by simpa [catE] using sofar_start s hz)
  rw [List.nil_append] at h
  exact sofar_end h hst
theorem readN_cat {s : ByteArray} : ∀ (f a : Nat) (M : List Op5), a ≤ s.size → s.data.toList.take a = catE M → (∀ o ∈ M, opOk o = true) →
    (readN s f a).2 ≤ s.size ∧ s.data.toList.take (readN s f a).2 = catE (M ++ (readN s f a).1) ∧ ∀ o ∈ M ++ (readN s f a).1, opOk o = true := by
  intro f
  induction f with
  | zero => intro a M h1 h2 h3; simp only [readN, List.append_nil]; exact ⟨h1, h2, h3⟩
  | succ f ih =>
    intro a M h1 h2 h3
    by_cases hst : stB s a = true
    · obtain ⟨g1, g2, g3⟩ := st_entry hst
      obtain ⟨_, _, _, p4, p5, _⟩ := st_parts hst
      simp only [readN, if_pos hst]
      have hl := size_toList s
      have ht : s.data.toList.take (faE s a).toNat = catE (M ++ [opC (faT s a)]) := by
        rw [catE_snoc, ← h2, g2, List.take_append, List.take_append]
        have hla : (s.data.toList.take a).length = a := by rw [List.length_take]; omega
        rw [← g2, hla]
        rw [List.take_of_length_le (show (s.data.toList.take a).length ≤ (faE s a).toNat by omega), List.take_of_length_le (show (entryB (opC (faT s a))).data.toList.length ≤ (faE s a).toNat - a by rw [size_toList]; omega), show (faE s a).toNat - a - (entryB (opC (faT s a))).data.toList.length = 0 by rw [size_toList]; omega]
        simp
      have h := ih (faE s a).toNat (M ++ [opC (faT s a)]) (by omega) ht (fun o ho => by
        rcases List.mem_append.1 ho with ho | ho
        · exact h3 o ho
        · rw [List.mem_singleton.1 ho]; exact g1)
      simp only [List.append_assoc, List.singleton_append] at h
      exact h
    · simp only [readN, if_neg hst, List.append_nil]
      exact ⟨h1, h2, h3⟩
/-- What is read of a log, its bytes are those ahead. -/
theorem rdAll_cat (s : ByteArray) (hz : s.size ≤ 60000) : (rdAll s).2 ≤ s.size ∧ s.data.toList.take (rdAll s).2 = catE (rdAll s).1 ∧ ∀ o ∈ (rdAll s).1, opOk o = true := by
  unfold rdAll
  rw [if_pos hz]
  have h := readN_cat (s := s) (s.size + 1) 0 [] (Nat.zero_le _) (by simp [catE]) (by simp)
  simpa using h
theorem four_inj {n m : Nat} (hn : n < 4294967296) (hm : m < 4294967296) (h : (wordB n).data.toList = (wordB m).data.toList) : n = m := by
  have h' : four n = four m := h
  unfold four at h'
  simp only [List.cons.injEq, and_true] at h'
  obtain ⟨a, b, c, d⟩ := h'
  have a' := congrArg UInt8.toNat a
  have b' := congrArg UInt8.toNat b
  have c' := congrArg UInt8.toNat c
  have d' := congrArg UInt8.toNat d
  rw [toNat_byte _ (by omega), toNat_byte _ (by omega)] at a' b' c' d'
  omega
/-- A beginning of an entry that is not the whole of it is none, and so is one with a byte of its operation changed. -/
theorem cut_st {s : ByteArray} {L : List Op5} {x z : List UInt8} {o : Op5} (hs : s.data.toList = catE L ++ x) (ho : opOk o = true) (hx : (entryB o).data.toList = x ++ z) (hz : z ≠ []) : stB s (catE L).length = false := by
  cases hst : stB s (catE L).length with
  | false => rfl
  | true =>
    exfalso
    obtain ⟨g1, g2, g3⟩ := st_entry hst
    generalize opC (faT s (catE L).length) = o' at *
    generalize s.data.toList.drop (faE s (catE L).length).toNat = y at *
    rw [hs, List.take_left] at g2
    have g4 := List.append_cancel_left g2
    rw [g4, List.append_assoc] at hx
    unfold entryB at hx
    have := frame_pre (opBytes_small ho) (opBytes_small g1) hx
    simp at this
    exact hz this.2
theorem spoilt_st {s : ByteArray} {L : List Op5} {o : Op5} {j : Nat} {c : UInt8} (ho : opOk o = true) (hj : j < (opBytes o).data.toList.length) (hc : c ≠ (opBytes o).data.toList[j]) (hs : s.data.toList = catE L ++ ((wordB (sumN (opBytes o))).data.toList ++ (Mth.put (opBytes o).size ++ (opBytes o).data.toList.set j c))) : stB s (catE L).length = false := by
  cases hst : stB s (catE L).length with
  | false => rfl
  | true =>
    exfalso
    obtain ⟨g1, g2, g3⟩ := st_entry hst
    generalize opC (faT s (catE L).length) = o' at *
    generalize s.data.toList.drop (faE s (catE L).length).toNat = y at *
    rw [hs, List.take_left] at g2
    have g4 := List.append_cancel_left g2
    have hT := opBytes_small ho
    have hB := opBytes_small g1
    have hchg := sum_change (opBytes o).data.toList j c hj hc
    unfold entryB at g4
    rw [frame_list hB] at g4
    have lt1 := sumN_lt (opBytes o)
    have lt2 := sumN_lt (opBytes o')
    have hsum : ∀ q : ByteArray, sumN q = 65536 * (sums q.data.toList).2 + (sums q.data.toList).1 := fun _ => rfl
    generalize opBytes o = T at *
    generalize opBytes o' = B at *
    have hw1 : (wordB (sumN T)).data.toList.length = 4 := by rw [size_toList]; exact wordB_size _
    have hw2 : (wordB (sumN B)).data.toList.length = 4 := by rw [size_toList]; exact wordB_size _
    rw [List.append_assoc] at g4
    obtain ⟨k1, k2⟩ := List.append_inj g4 (by rw [hw1, hw2])
    have e1 := get_pre [] (T.data.toList.set j c) T.size (by omega)
    have e2 := get_pre [] (B.data.toList ++ y) B.size (by omega)
    rw [List.nil_append] at e1 e2
    rw [k2, List.append_assoc, e2] at e1
    have he : B.size = T.size := by injection e1 with e1; injection e1
    rw [he, List.append_assoc] at k2
    have k3 := List.append_cancel_left k2
    have hlb := size_toList B
    have hlt := size_toList T
    have k4 : T.data.toList.set j c = B.data.toList := (List.append_inj (s₁ := T.data.toList.set j c) (t₁ := []) (by rw [List.append_nil]; exact k3) (by rw [List.length_set]; omega)).1
    have k5 := four_inj lt1 lt2 k1
    rw [hsum T, hsum B, ← k4] at k5
    exact hchg k5.symm
/-- What FnJournal asks of a log and an operation behind it. -/
theorem jn_all (log : ByteArray) (o : Op5) (hlog : log.size ≤ 50000) (ho : opOk o = true) :
    (rdAll (log.extract 0 (rdAll log).2 ++ entryB o) = ((rdAll log).1 ++ [o], (log.extract 0 (rdAll log).2 ++ entryB o).size)) ∧
    rdAll ((log.extract 0 (rdAll log).2 ++ entryB o).extract 0 ((log.extract 0 (rdAll log).2 ++ entryB o).size - 1)) = rdAll log ∧
    ∀ (i : Nat) (c : UInt8) (hi : i < (log.extract 0 (rdAll log).2 ++ entryB o).data.toList.length), (log.extract 0 (rdAll log).2 ++ entryB o).size ≤ i + (opBytes o).size → c ≠ (log.extract 0 (rdAll log).2 ++ entryB o).data.toList[i] → rdAll ⟨((log.extract 0 (rdAll log).2 ++ entryB o).data.toList.set i c).toArray⟩ = rdAll log := by
  obtain ⟨c1, c2, c3⟩ := rdAll_cat log (by omega)
  have hes : (entryB o).size ≤ 1010 := frameT_le (opBytes o)
  have hpl : (log.extract 0 (rdAll log).2).data.toList = catE (rdAll log).1 := by rw [Lib.extract_data, ← c2]; simp
  have hps : (log.extract 0 (rdAll log).2).size = (rdAll log).2 := by rw [ByteArray.size_extract]; omega
  have hml : (log.extract 0 (rdAll log).2 ++ entryB o).data.toList = catE (rdAll log).1 ++ (entryB o).data.toList := by rw [ByteArray.data_append, Array.toList_append, hpl]
  have hms : (log.extract 0 (rdAll log).2 ++ entryB o).size = (rdAll log).2 + (entryB o).size := by rw [ByteArray.size_append, hps]
  have hcl : (catE (rdAll log).1).length = (rdAll log).2 := by rw [← hpl, size_toList, hps]
  have hfin : rdAll log = ((rdAll log).1, (catE (rdAll log).1).length) := by rw [hcl]
  have hel := frame_list (opBytes_small ho)
  have hpos := opBytes_pos o
  have hez : (entryB o).size = 4 + ((Mth.put (opBytes o).size).length + (opBytes o).size) := by
    rw [← size_toList]
    unfold entryB
    rw [hel]
    simp only [List.length_append, size_toList, wordB_size]
  generalize rdAll log = RD at *
  obtain ⟨L, e⟩ := RD
  dsimp only at *
  generalize log.extract 0 e ++ entryB o = X at *
  refine ⟨?_, ?_, ?_⟩
  · have h := read_cat (s := X) (L := L ++ [o]) (x := []) (by rw [catE_snoc, List.append_nil]; exact hml) (fun q hq => by
      rcases List.mem_append.1 hq with hq | hq
      · exact c3 q hq
      · rw [List.mem_singleton.1 hq]; exact ho) (by omega) (st_short (by rw [catE_snoc, List.length_append, size_toList]; omega))
    rw [h, catE_snoc, List.length_append, size_toList, hcl, hms]
  · rw [hfin]
    have hnl : (entryB o).data.toList ≠ [] := fun h => by have := size_toList (entryB o); rw [h] at this; simp at this; omega
    have hxl : (X.extract 0 (X.size - 1)).data.toList = catE L ++ (entryB o).data.toList.dropLast := by
      rw [Lib.extract_data, hml, List.drop_zero, List.dropLast_eq_take, List.take_append, List.take_of_length_le (by omega)]
      congr 2
      rw [size_toList]
      omega
    exact read_cat hxl c3 (by rw [ByteArray.size_extract]; omega) (cut_st hxl ho (List.dropLast_concat_getLast hnl).symm (by simp))
  · intro i c hi hlo hc
    rw [hfin]
    have hlx := size_toList X
    have hxs : (X.data.toList.set i c) = catE L ++ ((wordB (sumN (opBytes o))).data.toList ++ (Mth.put (opBytes o).size ++ (opBytes o).data.toList.set (i + (opBytes o).size - X.size) c)) := by
      rw [hml]
      unfold entryB
      rw [hel]
      have hw : (wordB (sumN (opBytes o))).data.toList.length = 4 := by rw [size_toList]; exact wordB_size _
      rw [List.set_append_right _ _ (by omega), List.set_append_right _ _ (by omega), List.set_append_right _ _ (by omega)]
      congr 4
      omega
    have hj : i + (opBytes o).size - X.size < (opBytes o).data.toList.length := by rw [size_toList]; omega
    refine read_cat (s := ⟨(X.data.toList.set i c).toArray⟩) hxs c3 (by rw [size_of_list, List.length_set]; omega) (spoilt_st (s := ⟨(X.data.toList.set i c).toArray⟩) ho hj (fun h => hc ?_) hxs)
    rw [h]
    have hxx : X.data.toList = catE L ++ ((wordB (sumN (opBytes o))).data.toList ++ (Mth.put (opBytes o).size ++ (opBytes o).data.toList)) := by rw [hml]; unfold entryB; rw [hel]
    have hw : (wordB (sumN (opBytes o))).data.toList.length = 4 := by rw [size_toList]; exact wordB_size _
    apply Option.some.inj
    rw [← List.getElem?_eq_getElem, ← List.getElem?_eq_getElem, hxx, List.getElem?_append_right (by omega), List.getElem?_append_right (by omega), List.getElem?_append_right (by omega)]
    congr 1
    omega
end Go.Proofs.YtikdkijggejnfaaGreatDoor
