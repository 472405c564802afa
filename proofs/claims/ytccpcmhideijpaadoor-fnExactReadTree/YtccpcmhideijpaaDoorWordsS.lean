/-
  What the model's Words comes to: the pieces of the text between its blanks, in a row of its own.
-/
import Derived.Test.YtccpcmhideijpaaDoorWordsMath
import Derived.Test.YtccpcmhideijpaaDoorKeeps
import Derived.Test.YtccpcmhideijpaaDoorBytes
import Derived.Laws.DeepStrings4
namespace Go.Proofs.YtccpcmhideijpaaDoor
open Go.RowKit

/-- The words of a text. -/
def words (s : ByteArray) : List ByteArray := (Lib.split s.data.toList [32]).map fun l => (⟨l.toArray⟩ : ByteArray)
def strv (l : List UInt8) : Value := .string ⟨l.toArray⟩
theorem words_strv (s : ByteArray) : (words s).map Value.string = (Lib.split s.data.toList [32]).map strv := by simp [words, strv]

theorem infoStr : (Tryd.prog.info? 9).map (fun i => (i.zero, i.size, i.bytes)) = some (some (.string ByteArray.empty), 1, 16) := by kernel_rfl

/-- A piece more. -/
theorem own_piece {w : World} {base : Nat} {v : Value} {l : List (List UInt8)} {t : ByteArray} (p : List UInt8) (ht : t = ⟨p.toArray⟩) (h : w.ownsRow base 9 1 v (l.length + 1) (l.map strv ++ [.string t])) :
    w.ownsRow base 9 1 v (l ++ [p]).length ((l ++ [p]).map strv) := by
  subst ht
  have e1 : (l ++ [p]).map strv = l.map strv ++ [.string ⟨p.toArray⟩] := by simp [strv]
  rw [e1]; simpa using h
theorem drop_blank (s : ByteArray) (f i : Nat) (hf : f ≤ i) (hlt : i < s.size) (hb : s[i] = 32) : s.data.toList.drop f = (s.data.toList.drop f).take (i - f) ++ 32 :: s.data.toList.drop (i + 1) := by
  conv => lhs; rw [← List.take_append_drop (i - f) (s.data.toList.drop f)]
  congr 1
  rw [List.drop_drop]
  have e : f + (i - f) = i := by omega
  rw [e, List.drop_eq_getElem_cons (by simpa using hlt)]
  congr 1
theorem take_more (s : ByteArray) (f i : Nat) (hf : f ≤ i) (hlt : i < s.size) : (s.data.toList.drop f).take (i + 1 - f) = (s.data.toList.drop f).take (i - f) ++ [s[i]] := by
  have e : i + 1 - f = i - f + 1 := by omega
  rw [e, List.take_succ_eq_append_getElem (by simp; show i - f < s.size - f; omega)]
  congr 1
  have : f + (i - f) = i := by omega
  simp [this]; rfl

set_option maxHeartbeats 1000000 in
set_option maxRecDepth 100000 in
theorem specWords (s : ByteArray) (w : World) (hs : s.size ≤ 1048576) :
    Calls Tryd.prog 14 #[.string s] w fun e w' => ∃ v, e = .returned v ∧ w'.ownsRow w.heap.size 9 1 v (words s).length ((words s).map Value.string) ∧ Below w.heap.size w w' := by
  obtain ⟨i0, hi, hz0, hz1, hz2⟩ := info_parts infoStr
  go_enter Tryd.func14, Tryd.ntmps14
  go_wp2
  go_loopw [3, 4, 5] (fun v f i wr => ∃ (k a : Nat) (l : List (List UInt8)), k ≤ s.size ∧ a ≤ k ∧ l.length ≤ a ∧ i = .int .i64 k ∧ f = .int .i64 a ∧ wr.ownsRow w.heap.size 9 1 v l.length (l.map strv) ∧ Below w.heap.size w wr ∧ l ++ Lib.split (s.data.toList.drop a) [32] = Lib.split s.data.toList [32] ∧ (∀ c ∈ (s.data.toList.drop a).take (k - a), c ≠ 32)) (fun _ _ i _ => s.size - (intOf i).toNat)
  case atStart => exact ⟨0, 0, [], Nat.zero_le _, Nat.le_refl _, Nat.le_refl _, rfl, rfl, World.ownsRow_lit _ #[] 0 (Nat.le_refl _) (by decide) rfl, (Below.refl _ _).alloc (Nat.le_refl _) _, by simp, by simp⟩
  case round =>
    obtain ⟨k, a, l, hk, hak, hla, rfl, rfl, hown, hbel, hsp, hno⟩ := hrel
    have HSP := hide hsp
    have HNO := hide hno
    clear hsp hno
    by_cases hlt : k < s.size
    · by_cases hb : s[k] = 32
      · have HS2 : Hid (l ++ [(s.data.toList.drop a).take (k - a)] ++ Lib.split (s.data.toList.drop (k + 1)) [32] = Lib.split s.data.toList [32]) := by
          have h := unhide HSP
          rw [drop_blank s a k hak hlt hb, Mth.split_blank _ _ (unhide HNO)] at h
          unfold Hid
          rw [← h]; simp
        have hbb : ((s[k].toNat : Int) == 32) = true := by rw [hb]; rfl
        have HX := hide (Lib.extract_eq s a k)
        clear HSP HNO hb
        go_wp2_with (at_builtin; refine wpList_append_own _ rfl _ _ 35 rfl w.heap.size 9 i0 (.string ByteArray.empty) 1 16 Tryd.underlying35 hi hz0 hz1 hz2 rfl (by decide) _ _ _ rfl (hown.alloc _) ⟨wr.heap.size, 0, none⟩ 1 1 [.string (s.extract a k)] rfl rfl ?c1 ?c2 ?c3 ?c4 ?c5 ?_)
        case c1 => exact cell_one_new _ _ _
        case c2 => intro u hu; simp at hu; subst hu; rfl
        case c3 => unfold maxLen; omega
        case c4 => omega
        case c5 => have := hbel.size; simp; omega
        intro v' w1 hown' hgrow _
        have hbel' := below_append hbel hown hgrow
        have hown2 := own_piece _ (unhide HX) hown'
        clear hown' hgrow hown hbel
        go_wp2
        go_roundw
        case rel => exact ⟨k + 1, k + 1, _, by omega, Nat.le_refl _, by simp; omega, by go_num, by go_num, hown2, hbel', unhide HS2, by simp⟩
        case measure => simp [intOf]; omega
      · have hbb : ((s[k].toNat : Int) == 32) = false := beq_eq_false_iff_ne.2 (fun e => hb (UInt8.toNat_inj.1 (by simp; omega)))
        have HN2 : Hid (∀ c ∈ (s.data.toList.drop a).take (k + 1 - a), c ≠ 32) := by
          intro c hc
          rw [take_more s a k hak hlt, List.mem_append] at hc
          rcases hc with hc | hc
          · exact unhide HNO c hc
          · simp at hc; subst hc; exact hb
        clear HNO hb
        go_wp2
        go_roundw
        case rel => exact ⟨k + 1, a, l, by omega, by omega, hla, by go_num, rfl, hown, hbel, unhide HSP, unhide HN2⟩
        case measure => simp [intOf]; omega
    · have hks : k = s.size := by omega
      subst hks
      have HW : Hid (l ++ [s.data.toList.drop a] = Lib.split s.data.toList [32]) := by
        have h := unhide HSP
        rw [Mth.split_none _ (by
          have h2 := unhide HNO
          rw [List.take_of_length_le (by simp)] at h2
          exact h2)] at h
        exact h
      have HX : Hid (s.extract a s.size = ⟨(s.data.toList.drop a).toArray⟩) := by
        unfold Hid
        rw [Lib.extract_eq, List.take_of_length_le (by simp)]
      clear HSP HNO
      go_wp2_with (at_builtin; refine wpList_append_own _ rfl _ _ 35 rfl w.heap.size 9 i0 (.string ByteArray.empty) 1 16 Tryd.underlying35 hi hz0 hz1 hz2 rfl (by decide) _ _ _ rfl (hown.alloc _) ⟨wr.heap.size, 0, none⟩ 1 1 [.string (s.extract a s.size)] rfl rfl ?d1 ?d2 ?d3 ?d4 ?d5 ?_)
      case d1 => exact cell_one_new _ _ _
      case d2 => intro u hu; simp at hu; subst hu; rfl
      case d3 => unfold maxLen; omega
      case d4 => omega
      case d5 => have := hbel.size; simp; omega
      intro v' w1 hown' hgrow _
      have hbel' := below_append hbel hown hgrow
      have hown2 := own_piece _ (unhide HX) hown'
      rw [unhide HW] at hown2
      have HO := hide hown2
      clear hown' hgrow hown hown2
      go_wp2
      go_ret
      refine ⟨_, rfl, ?_, hbel'⟩
      rw [words_strv]
      have e : (words s).length = (Lib.split s.data.toList [32]).length := by simp [words]
      rw [e]; exact unhide HO
end Go.Proofs.YtccpcmhideijpaaDoor
