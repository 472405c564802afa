/- Parts. -/
import Derived.Test.YtikdkijggejnfaaGreatDoorPj6
import Derived.Test.YtikdkijggejnfaaGreatDoorPj4
import Derived.Test.YtikdkijggejnfaaGreatDoorPj9
namespace Go.Proofs.YtikdkijggejnfaaGreatDoor
open Go.RowKit
open Mth

theorem get_pre (pre y : List UInt8) (n : Nat) (h : n ≤ 4000000000) : Mth.get (pre ++ (Mth.put n ++ y)) pre.length = some (n, (Mth.put n).length) := by
  have := getF_put 5 n 5 0 1 0 y (by omega) (by omega) (by omega) (.inr rfl) (by omega)
  unfold Mth.get
  rw [List.drop_left]
  simpa [Mth.put] using this
theorem rd_pre {s : ByteArray} {pre y : List UInt8} {n : Nat} (hs : s.data.toList = pre ++ (Mth.put n ++ y)) (h : n ≤ 4000000000) (i : Int) (hi : i = pre.length) : rdN s i = n ∧ rdE s i = (pre.length + (Mth.put n).length : Nat) := by
  subst hi
  have hg : getAt s (pre.length : Int) = some (n, (Mth.put n).length) := by rw [getAt_nat, hs]; exact get_pre pre y n h
  unfold rdN rdE
  rw [hg]
  simp only [numN, numT]
  exact ⟨trivial, by omega⟩
theorem rt_pre {s : ByteArray} {pre y : List UInt8} {t : ByteArray} (hs : s.data.toList = pre ++ (Mth.put t.size ++ (t.data.toList ++ y))) (h : t.size ≤ 1000) (i : Int) (hi : i = pre.length) : rtS s i = t ∧ rtE s i = (pre.length + (putT t).size : Nat) := by
  subst hi
  have hg : getAt s (pre.length : Int) = some (t.size, (Mth.put t.size).length) := by rw [getAt_nat, hs]; exact get_pre pre _ t.size (by omega)
  have hl := congrArg List.length hs
  rw [size_toList] at hl
  simp only [List.length_append, size_toList] at hl
  have hps : (putT t).size = (Mth.put t.size).length + t.size := by unfold putT; rw [if_pos h]; unfold putText; rw [size_of_list, List.length_append, size_toList]
  have ht : textOf s (pre.length : Int).toNat (getAt s (pre.length : Int)) = some (t, pre.length + (Mth.put t.size).length + t.size) := by
    rw [hg]
    unfold textOf
    simp only [Int.toNat_natCast]
    rw [if_neg (by omega)]
    congr 2
    apply ByteArray.ext
    apply Array.ext'
    rw [Lib.extract_data, hs]
    have e : pre ++ (Mth.put t.size ++ (t.data.toList ++ y)) = (pre ++ Mth.put t.size) ++ (t.data.toList ++ y) := by simp
    rw [e, show pre.length + (Mth.put t.size).length = (pre ++ Mth.put t.size).length by simp, List.drop_left]
    rw [show (pre ++ Mth.put t.size).length + t.size - (pre ++ Mth.put t.size).length = t.data.toList.length by rw [size_toList]; omega, List.take_left]
  unfold rtS rtE
  rw [ht]
  simp only [txtS, txtE]
  exact ⟨trivial, by omega⟩
/-- What a right message's parts are, each within its bounds. -/
theorem mg_all {m : Mg} (h : mgOk m = true) : (0 ≤ m.K ∧ m.K ≤ 2) ∧ (0 ≤ m.F ∧ m.F ≤ 29) ∧ (0 ≤ m.T ∧ m.T ≤ 29) ∧ (0 ≤ m.I ∧ m.I ≤ 1000000000) ∧ (0 ≤ m.L ∧ m.L ≤ 1000000000) ∧ (0 ≤ m.N ∧ m.N ≤ 1000000000) ∧ m.k.size ≤ 10 := by
  have hkey : ∀ s : ByteArray, keyOk s.data.toList = true → s.size ≤ 10 := by
    intro s hs
    unfold keyOk at hs
    simp only [Bool.and_eq_true, decide_eq_true_iff] at hs
    have := size_toList s
    omega
  unfold mgOk rtB ndB at h
  simp only [Bool.and_eq_true, decide_eq_true_iff] at h
  obtain ⟨⟨⟨hF, hT⟩, _⟩, h⟩ := h
  split at h
  · simp only [Bool.and_eq_true, smB, decide_eq_true_iff] at h
    have := hkey _ h.1.1.1
    omega
  · split at h
    · simp only [Bool.and_eq_true, smB, decide_eq_true_iff] at h
      have := hkey _ h.1.1.1
      omega
    · split at h
      · simp only [Bool.and_eq_true, smB, decide_eq_true_iff] at h
        omega
      · cases h
theorem putS_nat {n : Int} (h0 : 0 ≤ n) (h1 : n ≤ 1000000000) : (putS n).data.toList = Mth.put n.toNat := by
  unfold putS
  rw [if_pos (by omega)]
theorem putT_list {t : ByteArray} (h : t.size ≤ 1000) : (putT t).data.toList = Mth.put t.size ++ t.data.toList := by
  unfold putT
  rw [if_pos h]
  rfl
/-- A message comes back from its bytes. -/
theorem back_msg {m : Mg} (h : mgOk m = true) : cand (mgBytes m) = m ∧ getOk (mgBytes m) = true := by
  obtain ⟨hK, hF, hT, hI, hL, hN, hk⟩ := mg_all h
  obtain ⟨K, F, T, I, L, k, N⟩ := m
  dsimp only at *
  have hs : (mgBytes ⟨K, F, T, I, L, k, N⟩).data.toList = [UInt8.ofNat K.toNat] ++ (Mth.put F.toNat ++ (Mth.put T.toNat ++ (Mth.put I.toNat ++ (Mth.put L.toNat ++ ((Mth.put k.size ++ k.data.toList) ++ Mth.put N.toNat))))) := by
    unfold mgBytes
    simp only [ByteArray.data_append, Array.toList_append]
    rw [putS_nat hF.1 (by omega), putS_nat hT.1 (by omega), putS_nat hI.1 (by omega), putS_nat hL.1 (by omega), putS_nat hN.1 (by omega), putT_list (by omega)]
    simp [kb]
  generalize hB : mgBytes ⟨K, F, T, I, L, k, N⟩ = B at *
  obtain ⟨n1, e1⟩ := rd_pre (pre := [UInt8.ofNat K.toNat]) (n := F.toNat) hs (by omega) 1 rfl
  obtain ⟨n2, e2⟩ := rd_pre (pre := [UInt8.ofNat K.toNat] ++ Mth.put F.toNat) (n := T.toNat) (s := B) (by rw [hs]; simp only [List.append_assoc]; rfl) (by omega) (rdE B 1) (by rw [e1, List.length_append])
  obtain ⟨n3, e3⟩ := rd_pre (pre := [UInt8.ofNat K.toNat] ++ Mth.put F.toNat ++ Mth.put T.toNat) (n := I.toNat) (s := B) (by rw [hs]; simp only [List.append_assoc]; rfl) (by omega) (rdE B (rdE B 1)) (by rw [e2]; simp only [List.length_append])
  obtain ⟨n4, e4⟩ := rd_pre (pre := [UInt8.ofNat K.toNat] ++ Mth.put F.toNat ++ Mth.put T.toNat ++ Mth.put I.toNat) (n := L.toNat) (s := B) (by rw [hs]; simp only [List.append_assoc]; rfl) (by omega) (rdE B (rdE B (rdE B 1))) (by rw [e3]; simp only [List.length_append])
  obtain ⟨n5, e5⟩ := rt_pre (pre := [UInt8.ofNat K.toNat] ++ Mth.put F.toNat ++ Mth.put T.toNat ++ Mth.put I.toNat ++ Mth.put L.toNat) (t := k) (y := Mth.put N.toNat) (s := B) (by rw [hs]; simp only [List.append_assoc]) (by omega) (rdE B (rdE B (rdE B (rdE B 1)))) (by rw [e4]; simp only [List.length_append])
  have hpk : (putT k).size = (Mth.put k.size ++ k.data.toList).length := by rw [← putT_list (by omega), size_toList]
  obtain ⟨n6, e6⟩ := rd_pre (pre := [UInt8.ofNat K.toNat] ++ Mth.put F.toNat ++ Mth.put T.toNat ++ Mth.put I.toNat ++ Mth.put L.toNat ++ (Mth.put k.size ++ k.data.toList)) (n := N.toNat) (y := []) (s := B) (by rw [hs]; simp only [List.append_assoc, List.append_nil]) (by omega) (rtE B (rdE B (rdE B (rdE B (rdE B 1))))) (by rw [e5, hpk]; simp only [List.length_append])
  have hc : cand B = ⟨K, F, T, I, L, k, N⟩ := by
    unfold cand
    rw [n1, n2, n3, n4, n5, n6, hs]
    simp only [List.cons_append, List.nil_append, List.headD_cons, Mg.mk.injEq]
    have := toNat_byte K.toNat (by omega)
    refine ⟨?_, ?_, ?_, ?_, ?_, trivial, ?_⟩ <;> omega
  have hE : candE B = B.size := by
    unfold candE
    rw [e6, ← size_toList B, hs]
    simp only [List.length_append]
    omega
  refine ⟨hc, ?_⟩
  have h0 : 0 < B.size := by rw [← hB]; exact mgBytes_pos _
  unfold getOk
  rw [decide_eq_true h0, decide_eq_true hE, hc, h]
  rfl
theorem get_back {m : Mg} (h : mgOk m = true) : getMg (mgBytes m) = m := by
  obtain ⟨h1, h2⟩ := back_msg h
  unfold getMg
  rw [if_pos h2, h1]
theorem mgBytes_small {m : Mg} (h : mgOk m = true) : (mgBytes m).size ≤ 1000 := by
  obtain ⟨_, _, _, _, _, _, hk⟩ := mg_all h
  unfold mgBytes
  have s1 := putS_size m.F
  have s2 := putS_size m.T
  have s3 := putS_size m.I
  have s4 := putS_size m.L
  have s6 := putS_size m.N
  have s5 : (putT m.k).size ≤ 16 := by
    unfold putT
    rw [if_pos (by omega)]
    unfold putText
    have := put_length m.k.size
    rw [size_of_list, List.length_append, size_toList]
    omega
  simp only [ByteArray.size_append, kb_size]
  omega
theorem frame_list {t : ByteArray} (h : t.size ≤ 1000) : (frameT t).data.toList = (wordB (sumN t)).data.toList ++ (Mth.put t.size ++ t.data.toList) := by
  unfold frameT
  rw [ByteArray.data_append, Array.toList_append, putT_list h]
/-- One frame is no beginning of another. -/
theorem frame_pre {t b : ByteArray} {z : List UInt8} (ht : t.size ≤ 1000) (hb : b.size ≤ 1000) (h : (frameT t).data.toList = (frameT b).data.toList ++ z) : z = [] := by
  rw [frame_list ht, frame_list hb] at h
  have hw1 : (wordB (sumN t)).data.toList.length = 4 := by rw [size_toList]; exact wordB_size _
  have hw2 : (wordB (sumN b)).data.toList.length = 4 := by rw [size_toList]; exact wordB_size _
  rw [List.append_assoc] at h
  have hd := (List.append_inj h (by rw [hw1, hw2])).2
  have g1 := get_pre [] t.data.toList t.size (by omega)
  have g2 := get_pre [] (b.data.toList ++ z) b.size (by omega)
  rw [List.nil_append] at g1 g2
  rw [hd, List.append_assoc] at g1
  rw [g2] at g1
  have he : b.size = t.size := by injection g1 with g1; injection g1
  have hl := congrArg List.length hd
  simp only [List.length_append, size_toList, he] at hl
  exact List.length_eq_zero_iff.1 (by omega)

namespace Mth
/-- An operation: kind, number, key, amount, message. -/
structure Op5 where
  K : Int
  no : Int
  k : ByteArray
  n : Int
  m : Mg
def zmB (m : Mg) : Bool := decide (m.K = 0 ∧ m.F = 0 ∧ m.T = 0 ∧ m.I = 0 ∧ m.L = 0 ∧ m.k.toList = [] ∧ m.N = 0)
def opOk (o : Op5) : Bool :=
  if o.K = 0 ∨ o.K = 3 ∨ o.K = 4 then keyOk o.k.data.toList && smB o.n && decide (o.no = 0) && zmB o.m
  else if o.K = 1 then keyOk o.k.data.toList && smB o.n && smB o.no && zmB o.m
  else if o.K = 2 then decide (o.k.toList = []) && decide (o.n = 0) && smB o.no && zmB o.m
  else if o.K = 5 then decide (o.k.toList = []) && decide (o.n = 0) && decide (o.no = 0) && zmB o.m
  else if o.K = 6 then decide (o.k.toList = []) && decide (o.n = 0) && decide (o.no = 0) && mgOk o.m
  else false
end Mth
abbrev opw (o : Op5) : Value := .agg #[.int .i64 o.K, .int .i64 o.no, .string o.k, .int .i64 o.n, .int .i64 o.m.K, .int .i64 o.m.F, .int .i64 o.m.T, .int .i64 o.m.I, .int .i64 o.m.L, .string o.m.k, .int .i64 o.m.N]

/-- An operation's bytes. -/
def opBytes (o : Op5) : ByteArray := kb o.K ++ putS o.no ++ putT o.k ++ putS o.n ++ putT (putMsg o.m)
def putOp (o : Op5) : ByteArray := if opOk o = true then opBytes o else ByteArray.empty
theorem putOp_yes {o : Op5} (h : opOk o = true) : putOp o = opBytes o := by unfold putOp; rw [if_pos h]
theorem putOp_no {o : Op5} (h : opOk o = false) : putOp o = ByteArray.empty := by unfold putOp; rw [if_neg (by rw [h]; simp)]
theorem opKind_in {o : Op5} (h : opOk o = true) : 0 ≤ o.K ∧ o.K ≤ 6 := by
  unfold opOk at h
  split at h
  · omega
  · split at h
    · omega
    · split at h
      · omega
      · split at h
        · omega
        · split at h
          · omega
          · cases h
theorem opBytes_pos (o : Op5) : 0 < (opBytes o).size := by
  unfold opBytes
  simp only [ByteArray.size_append, kb_size]
  omega
theorem opBytes_le (o : Op5) : (opBytes o).size ≤ 2025 := by
  unfold opBytes
  have s1 := putS_size o.no
  have s2 := putT_size o.k
  have s3 := putS_size o.n
  have s4 := putT_size (putMsg o.m)
  simp only [ByteArray.size_append, kb_size]
  omega
theorem conv_kind6 (w : World) (g : Nat) (K : Int) (h : 0 ≤ K ∧ K ≤ 6) (hc : w.cell? ⟨g, 0, none⟩ = some (.int .u8 K)) : (convert 30 9 (.slice (some ⟨g, 0, none⟩) 1 1)).run Tryz.prog w = .ok (.string (kb K)) w := by
  refine run_convert_bytes_back (P := Tryz.prog) w 30 9 5 ⟨g, 0, none⟩ 1 [UInt8.ofNat K.toNat] Tryz.underlying30 Tryz.underlying5 Tryz.underlying9 ?_
  intro j hj
  obtain rfl : j = 0 := by simpa using hj
  show w.cell? ⟨g, 0, none⟩ = _
  rw [hc]
  simp only [List.getElem_cons_zero]
  rw [toNat_byte _ (by omega)]
  congr 2
  omega
theorem wrap_kind6 (K : Int) (h0 : 0 ≤ K) (h6 : K ≤ 6) : IntKind.u8.wrap K = K := by
  have h3 : K = 0 ∨ K = 1 ∨ K = 2 ∨ K = 3 ∨ K = 4 ∨ K = 5 ∨ K = 6 := by omega
  rcases h3 with rfl | rfl | rfl | rfl | rfl | rfl | rfl <;> rfl
theorem elevenP {w : World} {g : Nat} {v0 v1 v2 v3 v4 v5 v6 v7 v8 v9 v10 : Value} {t : TypeId} (h : w.heap[g]? = some (.cells #[v0, v1, v2, v3, v4, v5, v6, v7, v8, v9, v10] t (0, 0))) :
    w.cell? ⟨g, 0, none⟩ = some v0 ∧ w.cell? ⟨g, 1, none⟩ = some v1 ∧ w.cell? ⟨g, 2, none⟩ = some v2 ∧ w.cell? ⟨g, 3, none⟩ = some v3 ∧ w.cell? ⟨g, 4, none⟩ = some v4 ∧ w.cell? ⟨g, 5, none⟩ = some v5 ∧ w.cell? ⟨g, 6, none⟩ = some v6 ∧ w.cell? ⟨g, 7, none⟩ = some v7 ∧ w.cell? ⟨g, 8, none⟩ = some v8 ∧ w.cell? ⟨g, 9, none⟩ = some v9 ∧ w.cell? ⟨g, 10, none⟩ = some v10 := by
  have hc : ∀ i, w.cell? ⟨g, i, none⟩ = #[v0, v1, v2, v3, v4, v5, v6, v7, v8, v9, v10][i]? := fun i => cell_of_row w g i _ t (0, 0) h
  exact ⟨hc 0, hc 1, hc 2, hc 3, hc 4, hc 5, hc 6, hc 7, hc 8, hc 9, hc 10⟩

/-- The message's bytes, and the place behind them. -/
def opX (s : ByteArray) : Int := rdE s (rtE s (rdE s 1))
def opB (s : ByteArray) : ByteArray := rtS s (opX s)
def opE (s : ByteArray) : Int := rtE s (opX s)
/-- What stands in a text as an operation, right or not. -/
def opC (s : ByteArray) : Op5 := ⟨(s.data.toList.headD 0).toNat, rdN s 1, rtS s (rdE s 1), rdN s (rtE s (rdE s 1)), getMg (opB s)⟩
def bodyB (s : ByteArray) : Bool := decide ((opB s).size = 0) || getOk (opB s)
theorem mg0_not : mgOk mg0 = false := by decide
theorem size_zero {s : ByteArray} (h : s.size = 0) : s = ByteArray.empty := eq_empty s h
theorem getMg_nil {b : ByteArray} (h : b.size = 0) : getMg b = mg0 ∧ getOk b = false := by
  have ho : getOk b = false := by unfold getOk; rw [decide_eq_false (by omega)]; rfl
  refine ⟨?_, ho⟩
  unfold getMg
  rw [ho, if_neg (by simp)]
theorem body_back {s : ByteArray} (h : bodyB s = true) : putMsg (getMg (opB s)) = opB s := by
  by_cases h0 : (opB s).size = 0
  · rw [(getMg_nil h0).1, putMsg_no mg0_not, size_zero h0]
  · unfold bodyB at h
    rw [decide_eq_false h0, Bool.false_or] at h
    have h2 := getOk_spec (s := opB s) (by omega)
    rw [h] at h2
    unfold getMg
    rw [if_pos h]
    have h3 := h2.symm
    simp only [Bool.and_eq_true, decide_eq_true_iff] at h3
    exact h3.2
/-- Where an operation could be read its bytes stand there. -/
theorem opC_bytes {s : ByteArray} (hs : 0 < s.size) (h : 0 ≤ opE s) (hb : bodyB s = true) : opE s ≤ s.size ∧ (opBytes (opC s)).data.toList = s.data.toList.take (opE s).toNat := by
  have hq := body_back hb
  unfold opE opB at *
  obtain ⟨g3, l4, e4, _, q4⟩ := text_piece h
  unfold opX at g3 l4 e4 q4 hq h ⊢
  obtain ⟨g2, l3, e3, q3⟩ := num_piece g3
  obtain ⟨g1, l2, e2, _, q2⟩ := text_piece g2
  obtain ⟨g0, l1, e1, q1⟩ := num_piece g1
  refine ⟨e4, ?_⟩
  unfold opBytes opC opB opX
  simp only [ByteArray.data_append, Array.toList_append]
  rw [hq, q1, q2, q3, q4]
  have q0 : (kb ((s.data.toList.headD 0).toNat : Int)).data.toList = s.data.toList.take (1 : Int).toNat := by
    have hl := size_toList s
    unfold kb
    cases hd : s.data.toList with
    | nil => rw [hd] at hl; simp at hl; omega
    | cons b r => simp
  rw [q0, cut_cut _ _ _ (by omega), cut_cut _ _ _ (by omega), cut_cut _ _ _ (by omega), cut_cut _ _ _ (by omega)]
/-- The zero operation. -/
def op0 : Op5 := ⟨0, 0, ByteArray.empty, 0, mg0⟩
def gopB (s : ByteArray) : Bool := decide (0 < s.size) && decide (opE s = s.size) && bodyB s && opOk (opC s)
def getOp (s : ByteArray) : Op5 := if gopB s = true then opC s else op0
/-- The model's own test comes to the same. -/
theorem gopB_spec {s : ByteArray} (hs : 0 < s.size) : gopB s = (decide (0 ≤ opE s) && bodyB s && decide (putOp (opC s) = s)) := by
  rw [Bool.eq_iff_iff]
  unfold gopB
  simp only [Bool.and_eq_true, decide_eq_true_iff]
  constructor
  · rintro ⟨⟨⟨_, h1⟩, hb⟩, h2⟩
    have h0 : 0 ≤ opE s := by omega
    refine ⟨⟨h0, hb⟩, ?_⟩
    rw [putOp_yes h2]
    apply ByteArray.ext
    apply Array.ext'
    rw [(opC_bytes hs h0 hb).2, h1, Int.toNat_natCast, List.take_of_length_le (by rw [size_toList]; exact Nat.le_refl _)]
  · rintro ⟨⟨h0, hb⟩, h1⟩
    obtain ⟨hl, hq⟩ := opC_bytes hs h0 hb
    cases hm : opOk (opC s) with
    | false =>
      rw [putOp_no hm] at h1
      rw [← h1] at hs
      exact absurd hs (by decide)
    | true =>
      rw [putOp_yes hm] at h1
      refine ⟨⟨⟨hs, ?_⟩, hb⟩, rfl⟩
      rw [h1] at hq
      have := congrArg List.length hq
      rw [List.length_take, size_toList] at this
      omega
theorem rtS_sizeO (s : ByteArray) (i : Int) : (rtS s i).size ≤ 1000 := by
  by_cases h : 0 ≤ rtE s i
  · exact (text_piece h).2.2.2.1
  · unfold rtE at h
    unfold rtS
    cases hG : textOf s i.toNat (getAt s i) with
    | none => simp [txtS]
    | some p => rw [hG] at h; exact absurd (by simp [txtE]) h
theorem opMg_key (s : ByteArray) : (getMg s).k.size ≤ 1000 := by
  unfold getMg
  split
  · exact rtS_sizeO _ _
  · decide

theorem at_text (s : ByteArray) (a : Nat) (h : a + 4 ≤ s.size) : (unZ (tl s a) < 0 ∧ rtE s ((a : Int) + 4) < 0) ∨ (0 ≤ unZ (tl s a) ∧ rtE s ((a : Int) + 4) = a + 4 + unZ (tl s a) ∧ rtS s ((a : Int) + 4) = unT (tl s a)) := by
  have hR : (restOf (tl s a)).data.toList = (s.data.toList.drop (a + 4)).take (min (s.size - a) 1006 - 4) := by
    rw [rest_tl s a h, Lib.extract_data]
    congr 1
    omega
  have hRs : (restOf (tl s a)).size = min (s.size - a) 1006 - 4 := by rw [rest_size, tl_size]
  unfold unZ unT
  generalize restOf (tl s a) = R at *
  have hl := size_toList s
  have hpl : (a : Int) + 4 = ((s.data.toList.take (a + 4)).length : Int) := by rw [List.length_take, hl]; omega
  by_cases hz : 0 ≤ rtE R 0
  · right
    obtain ⟨_, _, hle, hsz, hput⟩ := text_piece hz
    have hq := putT_list hsz
    have hzl : (putT (rtS R 0)).size = (rtE R 0).toNat := by
      have := congrArg List.length hput
      rw [size_toList, List.length_drop, List.length_take, size_toList] at this
      have e0 : (0 : Int).toNat = 0 := rfl
      omega
    rw [hR] at hput
    simp only [Int.toNat_zero, List.drop_zero] at hput
    rw [List.take_take, Nat.min_eq_left (by omega)] at hput
    have hs : s.data.toList = s.data.toList.take (a + 4) ++ (Mth.put (rtS R 0).size ++ ((rtS R 0).data.toList ++ (s.data.toList.drop (a + 4)).drop (rtE R 0).toNat)) := by
      rw [← List.append_assoc (Mth.put _), ← hq, hput, List.take_append_drop, List.take_append_drop]
    obtain ⟨h1, h2⟩ := rt_pre hs hsz ((a : Int) + 4) hpl
    refine ⟨hz, ?_, h1⟩
    rw [h2, hzl]
    omega
  · left
    refine ⟨by omega, ?_⟩
    rcases Int.lt_or_le (rtE s ((a : Int) + 4)) 0 with h0 | h0
    · exact h0
    · exfalso
      obtain ⟨_, g2, hle, hsz, hput⟩ := text_piece h0
      have hq := putT_list hsz
      have hp2 := putT_two (rtS s ((a : Int) + 4))
      have ea : ((a : Int) + 4).toNat = a + 4 := by omega
      rw [ea, List.drop_take] at hput
      have hzl : (putT (rtS s ((a : Int) + 4))).size = (rtE s ((a : Int) + 4)).toNat - (a + 4) := by
        have := congrArg List.length hput
        rw [size_toList, List.length_take, List.length_drop, size_toList] at this
        omega
      have hs : R.data.toList = [] ++ (Mth.put (rtS s ((a : Int) + 4)).size ++ ((rtS s ((a : Int) + 4)).data.toList ++ R.data.toList.drop ((rtE s ((a : Int) + 4)).toNat - (a + 4)))) := by
        rw [← List.append_assoc (Mth.put _), ← hq, hput, List.nil_append]
        conv => lhs; rw [← List.take_append_drop ((rtE s ((a : Int) + 4)).toNat - (a + 4)) R.data.toList]
        congr 1
        rw [hR, List.take_take, Nat.min_eq_left (by omega)]
      obtain ⟨_, h2⟩ := rt_pre hs hsz 0 rfl
      rw [h2] at hz
      omega
/-- An entry stands at a place. -/
def stB (s : ByteArray) (a : Nat) : Bool := decide (faB s a) && gopB (faT s a)
/-- The model's test of it. -/
theorem stB_spec (s : ByteArray) (a : Nat) (h : a + 4 < s.size) : stB s a = (decide (0 ≤ rtE s ((a : Int) + 4)) && gopB (rtS s ((a : Int) + 4)) && decide (s.extract a (a + 4) = wordB (sumN (rtS s ((a : Int) + 4))))) := by
  unfold stB faT
  have hc := tl_cut s a 0 4 (by omega)
  have hs := tl_size s a
  rcases at_text s a (by omega) with ⟨h1, h2⟩ | ⟨h1, h2, h3⟩
  · have hn : ¬ faB s a := fun h => absurd h.2.1 (by omega)
    rw [decide_eq_false hn, decide_eq_false (show ¬ 0 ≤ rtE s ((a : Int) + 4) by omega)]
    rfl
  · rw [decide_eq_true (show 0 ≤ rtE s ((a : Int) + 4) by omega), h3]
    by_cases hq : wordB (sumN (unT (tl s a))) = s.extract a (a + 4)
    · have hy : faB s a := ⟨by omega, h1, by rw [hc]; exact hq⟩
      rw [decide_eq_true hy, if_pos hy, decide_eq_true hq.symm]
      simp
    · have hn : ¬ faB s a := fun h => hq (by have := h.2.2; rw [hc] at this; exact this)
      rw [decide_eq_false hn, decide_eq_false (fun h => hq h.symm)]
      simp
theorem st_parts {s : ByteArray} {a : Nat} (h : stB s a = true) : a + 4 < s.size ∧ faT s a = rtS s ((a : Int) + 4) ∧ faE s a = rtE s ((a : Int) + 4) ∧ (a : Int) + 4 < faE s a ∧ faE s a ≤ s.size ∧ gopB (faT s a) = true ∧ (faT s a).size ≤ 1000 := by
  unfold stB at h
  simp only [Bool.and_eq_true, decide_eq_true_iff] at h
  obtain ⟨hf, hg⟩ := h
  have hs := tl_size s a
  have h4 := hf.1
  have hne : (tl s a).size ≠ 4 := fun he => by have := unZ_four _ he; have := hf.2.1; omega
  have hT : faT s a = unT (tl s a) := if_pos hf
  have hE : faE s a = a + 4 + unZ (tl s a) := if_pos hf
  rcases at_text s a (by omega) with ⟨h1, _⟩ | ⟨h1, h2, h3⟩
  · have := hf.2.1; omega
  · obtain ⟨_, _, k1, k2, k3⟩ := text_piece (s := s) (i := (a : Int) + 4) (by omega)
    have hgs : 0 < (faT s a).size := by unfold gopB at hg; simp only [Bool.and_eq_true, decide_eq_true_iff] at hg; exact hg.1.1.1
    have hpos : 0 < unZ (tl s a) := by
      have hq := putT_list k2
      have := congrArg List.length (k3.symm.trans hq)
      rw [List.length_append, List.length_drop, List.length_take, size_toList, size_toList] at this
      rw [h3] at this
      rw [hT] at hgs
      omega
    exact ⟨by omega, by rw [hT, h3], by rw [hE, h2], by omega, by omega, hg, by rw [hT, ← h3]; exact k2⟩
/-- What is read from a place on, and the place behind it. -/
def readN (s : ByteArray) : Nat → Nat → List Op5 × Nat
  | 0, a => ([], a)
  | f + 1, a => if stB s a = true then (opC (faT s a) :: (readN s f (faE s a).toNat).1, (readN s f (faE s a).toNat).2) else ([], a)
def rdAll (s : ByteArray) : List Op5 × Nat := if s.size ≤ 60000 then readN s (s.size + 1) 0 else ([], 0)
/-- So far L was read, a is the place behind it. -/
def Sofar (s : ByteArray) (a : Nat) (L : List Op5) : Prop := L.length ≤ a ∧ a ≤ s.size ∧ ∃ f, s.size < a + f ∧ rdAll s = (L ++ (readN s f a).1, (readN s f a).2)
theorem sofar_start (s : ByteArray) (h : s.size ≤ 60000) : Sofar s 0 [] := ⟨Nat.le_refl _, Nat.zero_le _, s.size + 1, by omega, by unfold rdAll; rw [if_pos h]; simp⟩
theorem sofar_step {s : ByteArray} {a : Nat} {L : List Op5} (h : Sofar s a L) (hs : stB s a = true) : Sofar s (faE s a).toNat (L ++ [opC (faT s a)]) := by
  obtain ⟨h1, h2, f, h3, h4⟩ := h
  obtain ⟨p1, _, _, p2, p3, _⟩ := st_parts hs
  refine ⟨by rw [List.length_append]; simp; omega, by omega, ?_⟩
  cases f with
  | zero => omega
  | succ f =>
    refine ⟨f, by omega, ?_⟩
    rw [h4]
    simp only [readN, if_pos hs]
    rw [List.append_assoc]
    rfl
theorem sofar_end {s : ByteArray} {a : Nat} {L : List Op5} (h : Sofar s a L) (hs : stB s a = false) : rdAll s = (L, a) := by
  obtain ⟨_, h2, f, h3, h4⟩ := h
  cases f with
  | zero => omega
  | succ f =>
    rw [h4]
    simp only [readN, hs, Bool.false_eq_true, if_false]
    rw [List.append_nil]
theorem st_short {s : ByteArray} {a : Nat} (h : ¬ a + 4 < s.size) : stB s a = false := by
  cases hs : stB s a with
  | false => rfl
  | true => exact absurd (st_parts hs).1 h
end Go.Proofs.YtikdkijggejnfaaGreatDoor
