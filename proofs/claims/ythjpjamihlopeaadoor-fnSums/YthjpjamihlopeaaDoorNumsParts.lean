/-
  The parts of the law FnNums, each as one equation: what is put is read back; what was read was put so.
-/
import Derived.Test.YthjpjamihlopeaaDoorNumsMath
import Derived.Test.YthjpjamihlopeaaDoorGetTextI
import Derived.Test.YthjpjamihlopeaaDoorPutText
namespace Go.Proofs.YthjpjamihlopeaaDoor
open Go.RowKit

/-- What PutNum hands back at whatever number. -/
def putS (n : Int) : ByteArray := if 0 ≤ n ∧ n ≤ 4000000000 then ⟨(Mth.put n.toNat).toArray⟩ else ByteArray.empty
theorem implPutAny (n : Int) (w : World) : Calls Tryd.prog 7 #[.int .i64 n] w fun e w' => e = .returned (.string (putS n)) ∧ Below w.heap.size w w' := by
  unfold putS
  by_cases h : 0 ≤ n ∧ n ≤ 4000000000
  · rw [if_pos h]
    obtain ⟨m, rfl⟩ := Int.eq_ofNat_of_zero_le h.1
    exact implPutNum m w (by omega)
  · rw [if_neg h]
    exact (implPutNum_none n w (by omega)).mono fun e w' ⟨he, hw⟩ => ⟨he, hw ▸ Below.refl _ _⟩
theorem specPutAny (n : Int) (w : World) : Calls Tryd.prog 16 #[.int .i64 n] w fun e w' => e = .returned (.string (putS n)) ∧ Below w.heap.size w w' := by
  unfold putS
  by_cases h : 0 ≤ n ∧ n ≤ 4000000000
  · rw [if_pos h]
    exact specPutNumI n w h.1 h.2
  · rw [if_neg h]
    exact (specPutNum_none n w (by omega)).mono fun e w' ⟨he, hw⟩ => ⟨he, hw ▸ Below.refl _ _⟩
/-- What PutText hands back at whatever text. -/
def putT (s : ByteArray) : ByteArray := if s.size ≤ 1000 then putText s else ByteArray.empty
theorem implPutTAny (s : ByteArray) (w : World) : Calls Tryd.prog 12 #[.string s] w fun e w' => e = .returned (.string (putT s)) ∧ Below w.heap.size w w' := by
  unfold putT
  by_cases h : s.size ≤ 1000
  · rw [if_pos h]; exact implPutText s w h
  · rw [if_neg h]; exact (implPutText_none s w (by omega)).mono fun e w' ⟨he, hw⟩ => ⟨he, hw ▸ Below.refl _ _⟩
theorem specPutTAny (s : ByteArray) (w : World) : Calls Tryd.prog 17 #[.string s] w fun e w' => e = .returned (.string (putT s)) ∧ Below w.heap.size w w' := by
  unfold putT
  by_cases h : s.size ≤ 1000
  · rw [if_pos h]; exact specPutText s w h
  · rw [if_neg h]; exact (specPutText_none s w (by omega)).mono fun e w' ⟨he, hw⟩ => ⟨he, hw ▸ Below.refl _ _⟩

/-- The two results of GetNum, each by itself. -/
def numN (o : Option (Nat × Nat)) : Int := match o with | none => 0 | some (n, _) => n
def numT (o : Option (Nat × Nat)) (i : Int) : Int := match o with | none => -1 | some (_, c) => i + c
theorem getRes_two (o : Option (Nat × Nat)) (i : Int) : getRes o i = .tuple #[.int .i64 (numN o), .int .i64 (numT o i)] := by cases o <;> rfl
def txtS (o : Option (ByteArray × Nat)) : ByteArray := match o with | none => ByteArray.empty | some (t, _) => t
def txtE (o : Option (ByteArray × Nat)) : Int := match o with | none => -1 | some (_, b) => b
theorem textRes_two (o : Option (ByteArray × Nat)) : textRes o = .tuple #[.string (txtS o), .int .i64 (txtE o)] := by cases o <;> rfl

/-- What was read was put so. -/
theorem read_put {s : ByteArray} {i : Int} {n c : Nat} (h : getAt s i = some (n, c)) : ∃ k : Nat, i = k ∧ k + c ≤ s.size ∧ 0 < c ∧ n ≤ 4000000000 ∧ (putS n).toList = (s.extract k (k + c)).toList := by
  obtain ⟨k, rfl, hg, hn, hk⟩ := get_some_nat h
  have hb := Mth.get_bound _ _ _ _ hg
  refine ⟨k, rfl, hk, hb.2.1, hn, ?_⟩
  unfold putS
  rw [if_pos (by omega), Int.toNat_natCast, ByteArray.toList_mk, Lib.extract_toList, Mth.get_was_put _ _ _ _ hg]
  congr 1; omega
theorem read_text {s : ByteArray} {i : Int} {t : ByteArray} {e : Nat} (h : textOf s i.toNat (getAt s i) = some (t, e)) : ∃ k : Nat, i = k ∧ k < e ∧ e ≤ s.size ∧ t.size ≤ 1000 ∧ (putT t).toList = (s.extract k e).toList := by
  cases hG : getAt s i with
  | none => rw [hG] at h; simp [textOf] at h
  | some p =>
    obtain ⟨n, c⟩ := p
    obtain ⟨k, rfl, hk, hc, hn, hput⟩ := read_put hG
    rw [hG, Int.toNat_natCast] at h
    unfold textOf at h
    simp only at h
    split at h
    · cases h
    · rename_i hbad
      simp only [Option.some.injEq, Prod.mk.injEq] at h
      obtain ⟨rfl, rfl⟩ := h
      have hsz : (s.extract (k + c) (k + c + n)).size = n := by rw [ByteArray.size_extract]; omega
      refine ⟨k, rfl, by omega, by omega, by omega, ?_⟩
      unfold putT
      rw [if_pos (by omega)]
      unfold putText
      rw [ByteArray.toList_mk, hsz]
      have e1 : Mth.put n = (s.extract k (k + c)).toList := by
        rw [← hput]; unfold putS; rw [if_pos (by omega), Int.toNat_natCast, ByteArray.toList_mk]
      rw [e1, Lib.extract_toList, Lib.extract_data, Lib.extract_toList]
      have h1 : k + c - k = c := by omega
      have h2 : k + c + n - (k + c) = n := by omega
      have h3 : k + c + n - k = c + n := by omega
      rw [h1, h2, h3, ← List.drop_drop, List.take_add]
/-- A number comes back. -/
theorem back_num (n : Nat) (h : n ≤ 4000000000) : getAt (ByteArray.mk #[97] ++ ⟨(Mth.put n).toArray⟩ ++ ByteArray.mk #[98]) 1 = some (n, (Mth.put n).length) := by
  have e : (ByteArray.mk #[97] ++ ⟨(Mth.put n).toArray⟩ ++ ByteArray.mk #[98]).data.toList = 97 :: (Mth.put n ++ [98]) := by simp
  have h1 := getAt_nat (ByteArray.mk #[97] ++ ⟨(Mth.put n).toArray⟩ ++ ByteArray.mk #[98]) 1
  rw [show ((1 : Nat) : Int) = 1 from rfl] at h1
  rw [h1, e]
  exact Mth.get_put 97 [98] n h
/-- A text comes back. -/
theorem back_text (s : ByteArray) (h : s.size ≤ 1000) : textOf (ByteArray.mk #[97] ++ putText s ++ ByteArray.mk #[98]) 1 (getAt (ByteArray.mk #[97] ++ putText s ++ ByteArray.mk #[98]) 1) = some (s, 1 + (putText s).size) := by
  have e : (ByteArray.mk #[97] ++ putText s ++ ByteArray.mk #[98]).data.toList = 97 :: (Mth.put s.size ++ (s.data.toList ++ [98])) := by simp [putText]
  have h1 := getAt_nat (ByteArray.mk #[97] ++ putText s ++ ByteArray.mk #[98]) 1
  rw [show ((1 : Nat) : Int) = 1 from rfl] at h1
  have h2 : getAt (ByteArray.mk #[97] ++ putText s ++ ByteArray.mk #[98]) 1 = some (s.size, (Mth.put s.size).length) := by
    rw [h1, e]; exact Mth.get_put 97 _ s.size (by omega)
  have hps : (putText s).size = (Mth.put s.size).length + s.size := by unfold putText; rw [size_of_list, List.length_append, size_toList]
  have hsz : (ByteArray.mk #[97] ++ putText s ++ ByteArray.mk #[98]).size = (Mth.put s.size).length + s.size + 2 := by
    rw [← size_toList, e]; simp; omega
  rw [h2]
  unfold textOf
  simp only
  rw [if_neg (by rw [hsz]; omega), hps]
  have hx : (ByteArray.mk #[97] ++ putText s ++ ByteArray.mk #[98]).extract (1 + (Mth.put s.size).length) (1 + (Mth.put s.size).length + s.size) = s := by
    rw [Lib.extract_eq, e]
    have h3 : 1 + (Mth.put s.size).length + s.size - (1 + (Mth.put s.size).length) = s.size := by omega
    rw [h3, Nat.add_comm 1]
    have h4 : (s.data.toList ++ [98]).take s.size = s.data.toList := by
      have := size_toList s
      rw [List.take_append_of_le_length (by omega), List.take_of_length_le (by omega)]
    simp only [List.drop_succ_cons, List.drop_left, h4]
  rw [hx]
  congr 2; omega

/-- Either nothing was read, or the piece that was read is what is put for it. -/
theorem num_prop (u : ByteArray) (i : Int) : numT (getAt u i) i ≤ 0 ∨ (0 < numT (getAt u i) i ∧ numT (getAt u i) i ≤ u.size ∧ 0 ≤ i ∧ i ≤ numT (getAt u i) i ∧ (putS (numN (getAt u i))).toList = (u.extract i.toNat (numT (getAt u i) i).toNat).toList) := by
  cases hG : getAt u i with
  | none => left; simp [numT]
  | some p =>
    obtain ⟨n, c⟩ := p
    obtain ⟨k, rfl, hk, hc, hn, hput⟩ := read_put hG
    right
    refine ⟨by simp only [numT]; omega, by simp only [numT]; omega, by omega, by simp only [numT]; omega, ?_⟩
    simp only [numT, numN]
    rw [Int.toNat_natCast, show ((k : Int) + (c : Int)).toNat = k + c by omega]
    exact hput
theorem txt_prop (v : ByteArray) (k : Int) : txtE (textOf v k.toNat (getAt v k)) ≤ 0 ∨ (0 < txtE (textOf v k.toNat (getAt v k)) ∧ txtE (textOf v k.toNat (getAt v k)) ≤ v.size ∧ 0 ≤ k ∧ k ≤ txtE (textOf v k.toNat (getAt v k)) ∧ (putT (txtS (textOf v k.toNat (getAt v k)))).toList = (v.extract k.toNat (txtE (textOf v k.toNat (getAt v k))).toNat).toList) := by
  cases hT : textOf v k.toNat (getAt v k) with
  | none => left; simp [txtE]
  | some p =>
    obtain ⟨t, e⟩ := p
    obtain ⟨m, rfl, hm, he, ht, hput⟩ := read_text hT
    right
    refine ⟨by simp only [txtE]; omega, by simp only [txtE]; omega, by omega, by simp only [txtE]; omega, ?_⟩
    simp only [txtE, txtS]
    rw [Int.toNat_natCast, Int.toNat_natCast]
    exact hput

theorem putS_size (n : Int) : (putS n).size ≤ 6 := by
  unfold putS
  split
  · rw [size_of_list]; exact Mth.put_length _
  · decide
theorem putT_size (x : ByteArray) : (putT x).size ≤ 1006 := by
  unfold putT
  split
  · unfold putText; rw [size_of_list, List.length_append, size_toList]; have := Mth.put_length x.size; omega
  · decide
/-- A number in its range: its bytes are some, and it comes back from them. -/
theorem num_back (n : Int) (h : 0 ≤ n ∧ n ≤ 4000000000) : (putS n).toList.isEmpty = false ∧ getRes (getAt (ByteArray.mk #[97] ++ putS n ++ ByteArray.mk #[98]) 1) 1 = .tuple #[.int .i64 n, .int .i64 (1 + ((putS n).size : Int))] := by
  obtain ⟨m, rfl⟩ := Int.eq_ofNat_of_zero_le h.1
  have e : putS (m : Int) = ⟨(Mth.put m).toArray⟩ := by unfold putS; rw [if_pos (by omega)]; rfl
  rw [e]
  refine ⟨not_empty _ (by rw [size_of_list]; exact Mth.put_pos m), ?_⟩
  rw [back_num m (by omega), size_of_list]
  rfl
theorem num_out (n : Int) (h : ¬ (0 ≤ n ∧ n ≤ 4000000000)) : putS n = ByteArray.empty := by unfold putS; rw [if_neg h]
theorem text_back (x : ByteArray) (h : x.size ≤ 1000) : (putT x).toList.isEmpty = false ∧ textRes (textOf (ByteArray.mk #[97] ++ putT x ++ ByteArray.mk #[98]) (1 : Int).toNat (getAt (ByteArray.mk #[97] ++ putT x ++ ByteArray.mk #[98]) 1)) = .tuple #[.string x, .int .i64 (1 + ((putT x).size : Int))] := by
  have e : putT x = putText x := by unfold putT; rw [if_pos h]
  rw [e]
  refine ⟨not_empty _ (by unfold putText; rw [size_of_list, List.length_append]; have := Mth.put_pos x.size; omega), ?_⟩
  rw [show ((1 : Int).toNat) = 1 from rfl, back_text x h]
  simp [textRes]
theorem text_out (x : ByteArray) (h : ¬ x.size ≤ 1000) : putT x = ByteArray.empty := by unfold putT; rw [if_neg h]
theorem size_ends (t : ByteArray) (h : t.size ≤ 1006) : (ByteArray.mk #[97] ++ t ++ ByteArray.mk #[98]).size ≤ maxLen := by
  rw [ByteArray.size_append, ByteArray.size_append]
  have h1 : (ByteArray.mk #[97]).size = 1 := rfl
  have h2 : (ByteArray.mk #[98]).size = 1 := rfl
  rw [h1, h2]; unfold maxLen; omega
end Go.Proofs.YthjpjamihlopeaaDoor
