/- Parts. -/
import Derived.Test.YtikdkijggejnfaaGreatDoorPr4
import Derived.Test.YtikdkijggejnfaaGreatDoorPr2
import Derived.Test.YtikdkijggejnfaaGreatDoorPr1
import Derived.Test.YtikdkijggejnfaaGreatDoorPr3
import Derived.Deep.RegionWith
namespace Go.Proofs.YtikdkijggejnfaaGreatDoor
open Go.RowKit Go.Extern.Stop Go.Stop Go.Extern

set_option maxRecDepth 100000 in
set_option maxHeartbeats 2000000 in
theorem errorsAs (err : Value) (tb : Nat) (old : Value) (w : World) (hne : ∃ v, err = .iface 145 v)
    (has : ∀ (tg : Value) (t a : Addr) (old : Value) (w : World), w.cell? a = some (.pointer (some t)) → w.cell? t = some old → w.frozen? t = false →
      Calls Tryz.prog 124 #[err, tg, .agg #[.pointer (some ⟨7, 125, none⟩), .pointer (some a), .int .u64 150], .iface 167 (.agg #[.pointer (some ⟨7, 123, none⟩)])] w fun e w' => e = .returned (.bool true) ∧ Below t.block w w')
    (hg : w.cell? ⟨0, 0, none⟩ = some (.iface 167 (.agg #[.pointer (some ⟨7, 101, none⟩)])))
    (ht : w.cell? ⟨tb, 0, none⟩ = some old) (hf : w.frozen? ⟨tb, 0, none⟩ = false) :
    Calls Tryz.prog 108 #[err, .iface 125 (.pointer (some ⟨tb, 0, none⟩))] w fun e w' => e = .returned (.bool true) ∧ Below tb w w' := by
  obtain ⟨v, rfl⟩ := hne
  have HAS := hide has
  clear has
  have hVO := @run_callFunc_extern Tryz.prog 121 _ (fun args => ReflectliteValue.unpack (args.getD 0 (.tuple #[]))) Tryz.func121 (by kernel_rfl) (by kernel_rfl) (by kernel_rfl) (by kernel_rfl)
  have hTY := @run_callFunc_extern Tryz.prog 122 _ (ReflectliteValue.methodAny (ReflectliteValue.valueError "reflectlite.Value.Type" 0) (fun t _ _ _ => ReflectliteType.toType t)) Tryz.func122 (by kernel_rfl) (by kernel_rfl) (by kernel_rfl) (by kernel_rfl)
  have hIN := @run_callFunc_extern Tryz.prog 123 _ (ReflectliteValue.method (ReflectliteValue.valueError "reflectlite.Value.IsNil" 0) ReflectliteValue.isNil) Tryz.func123 (by kernel_rfl) (by kernel_rfl) (by kernel_rfl) (by kernel_rfl)
  have hKI := @run_callFunc_extern Tryz.prog 161 _ (ReflectliteType.abiMethod fun t => do pure (.int .u8 (← Rtype.kind t))) Tryz.func161 (by kernel_rfl) (by kernel_rfl) (by kernel_rfl) (by kernel_rfl)
  have hEL := @run_callFunc_extern Tryz.prog 180 _ (ReflectliteType.method ReflectliteType.elem) Tryz.func180 (by kernel_rfl) (by kernel_rfl) (by kernel_rfl) (by kernel_rfl)
  have hIM := @run_callFunc_extern Tryz.prog 181 _ (ReflectliteType.relation "Implements" ReflectliteType.implements_) Tryz.func181 (by kernel_rfl) (by kernel_rfl) (by kernel_rfl) (by kernel_rfl)
  have f1 := As.valueOfPtr
  have f2 := As.typePtr
  have f3 := As.methodKind
  have f4 := As.kindPtr
  have f5 := As.methodElem
  have f6 := As.elemType
  have f7 := As.kindStruct
  have f8 := As.methodImplements
  have f9 := As.implements
  have hgl := World.lt_of_cell hg
  have htl := World.lt_of_cell ht
  simp only at hgl htl
  have n8 := As.isNil ⟨w.heap.size, 0, none⟩ ⟨tb, 0, none⟩ ((w.alloc (.cells #[.pointer (some ⟨tb, 0, none⟩)] 125)).alloc (.cells #[.pointer (some ⟨7, 125, none⟩), .pointer (some ⟨w.heap.size, 0, none⟩), .int .u64 150] 148)) (by simp)
  have hg2 : ((w.alloc (.cells #[.pointer (some ⟨tb, 0, none⟩)] 125)).alloc (.cells #[.pointer (some ⟨7, 125, none⟩), .pointer (some ⟨w.heap.size, 0, none⟩), .int .u64 150] 148)).cell? ⟨0, 0, none⟩ = some (.iface 167 (.agg #[.pointer (some ⟨7, 101, none⟩)])) := by
    rw [World.cell?_alloc_lt _ _ ⟨0, 0, none⟩ (by simp <;> omega), World.cell?_alloc_lt _ _ ⟨0, 0, none⟩ hgl]; exact hg
  go_enter Tryz.func108, Tryz.ntmps108
  go_wp2_with (go_at_call 124; refine (unhide HAS _ ⟨tb, 0, none⟩ ⟨w.heap.size, 0, none⟩ old _ ?_ ?_ ?_).mono ?_; (simp); (rw [World.cell?_alloc_lt _ _ ⟨tb, 0, none⟩ (by simp; omega), World.cell?_alloc_lt _ _ ⟨tb, 0, none⟩ htl]; exact ht); (rw [World.frozen?_alloc_old _ _ ⟨tb, 0, none⟩ (by simp; omega), World.frozen?_alloc_old _ _ ⟨tb, 0, none⟩ (Nat.ne_of_lt htl)]; exact hf); rintro e w' ⟨rfl, hbel⟩)
  go_ret
  exact ⟨rfl, (((Below.refl _ _).alloc (by omega) _).alloc (by simp; omega) _).trans hbel⟩

/-- What the program needs of memory: the library's own handle of the type 'error'. -/
def Handle (w : World) : Prop := w.cell? ⟨0, 0, none⟩ = some (.iface 167 (.agg #[.pointer (some ⟨7, 101, none⟩)]))
theorem Handle.below {w w' : World} (h : Handle w) (hb : Below w.heap.size w w') : Handle w' := by
  have hl := World.lt_of_cell h
  unfold Handle; rw [hb.cell (p := ⟨0, 0, none⟩) hl]; exact h

theorem isNo_nil (w : World) : Calls Tryz.prog 87 #[.nilIface] w fun e w' => e = .returned (.bool false) ∧ Below w.heap.size w w' := by
  go_enter Tryz.func87, Tryz.ntmps87
  go_wp2_with (go_at_call 108; refine (as_nil _ _).mono ?_; rintro e w' ⟨rfl, rfl⟩)
  go_ret
  exact ⟨rfl, (Below.refl _ _).alloc (Nat.le_refl _) _⟩

theorem isNo_one (p : Int) (w : World) (h : Handle w) : Calls Tryz.prog 87 #[.iface 145 (.agg #[.iface 123 (.agg #[.int .i64 p])])] w fun e w' => e = .returned (.bool true) ∧ Below w.heap.size w w' := by
  have hl := World.lt_of_cell h
  have HG := hide (show Handle (w.alloc (.cells #[.int .i64 0] 123)) from h.below ((Below.refl _ _).alloc (Nat.le_refl _) _))
  clear h
  go_enter Tryz.func87, Tryz.ntmps87
  go_wp2_with (go_at_call 108; refine (errorsAs _ w.heap.size (.int .i64 0) _ ⟨_, rfl⟩ (fun tg t a old w h1 h2 h3 => as_one p tg t a old w h1 h2 h3) (unhide HG) ?_ ?_).mono ?_; (simp); (simp); rintro e w' ⟨rfl, hbel⟩)
  go_ret
  exact ⟨rfl, ((Below.refl _ _).alloc (Nat.le_refl _) _).trans hbel⟩

open Go.RowKit
open Go.Lib (decDigits itoa)

/-- What ReadDec hands back. -/
def readDec (l : List UInt8) : Int := if Mth.decOkB l then (Mth.val10 l : Int) else -1
theorem readDec_yes {l : List UInt8} (h : Mth.decOk l) : readDec l = Mth.val10 l := by unfold readDec; rw [if_pos ((Mth.decOkB_iff l).2 h)]
theorem readDec_no {l : List UInt8} (h : ¬ Mth.decOk l) : readDec l = -1 := by unfold readDec; rw [if_neg (fun h' => h ((Mth.decOkB_iff l).1 h'))]

theorem dig_bad {l : List UInt8} {k : Nat} (h : ¬ ∀ c ∈ l.take k, Mth.isDig c) : ¬ Mth.decOk l := fun ⟨_, h2, _⟩ => h fun c hc => h2 c (List.mem_of_mem_take hc)
theorem take_dig (s : ByteArray) (k : Nat) (hlt : k < s.size) (h : ∀ c ∈ s.data.toList.take k, Mth.isDig c) (hc : Mth.isDig s[k]) : ∀ c ∈ s.data.toList.take (k + 1), Mth.isDig c := by
  rw [Mth.take_snoc s k hlt]
  intro c hm
  rw [List.mem_append] at hm
  rcases hm with hm | hm
  · exact h c hm
  · simp at hm; subst hm; exact hc
theorem take_undig (s : ByteArray) (k : Nat) (hlt : k < s.size) (hc : ¬ Mth.isDig s[k]) : ¬ Mth.decOk s.data.toList := by
  apply dig_bad (k := k + 1)
  rw [Mth.take_snoc s k hlt]
  intro h
  exact hc (h s[k] (by simp))
theorem val_take (s : ByteArray) (k : Nat) (hlt : k < s.size) : Mth.val10 (s.data.toList.take (k + 1)) = Mth.val10 (s.data.toList.take k) * 10 + (s[k].toNat - 48) := by
  rw [Mth.take_snoc s k hlt, Mth.val10_snoc]
theorem val_bound (s : ByteArray) (k : Nat) (hk : k ≤ s.size) (h9 : s.size ≤ 9) (h : ∀ c ∈ s.data.toList.take k, Mth.isDig c) : Mth.val10 (s.data.toList.take k) ≤ 999999999 := by
  have h1 := Mth.val10_lt _ h
  have h2 : (s.data.toList.take k).length ≤ 9 := by rw [List.length_take, size_toList]; omega
  have h3 : 10 ^ (s.data.toList.take k).length ≤ 10 ^ 9 := Nat.pow_le_pow_right (by omega) h2
  omega

set_option maxRecDepth 100000 in
set_option maxHeartbeats 1000000 in
theorem specReadDec (s : ByteArray) (w : World) (hs : s.size ≤ maxLen) : Calls Tryz.prog 59 #[.string s] w fun e w' => e = .returned (.int .i64 (readDec s.data.toList)) ∧ w = w' := by
  unfold maxLen at hs
  go_enter Tryz.func59, Tryz.ntmps59
  go_wp2
  go_loop [3, 4] (fun n i => ∃ k m : Nat, k ≤ s.size ∧ i = .int .i64 k ∧ n = .int .i64 m ∧ m = Mth.val10 (s.data.toList.take k) ∧ (∀ c ∈ s.data.toList.take k, Mth.isDig c) ∧ (0 < k → s.size ≤ 9)) (fun _ i => s.size - (intOf i).toNat)
  case atStart => exact ⟨0, 0, Nat.zero_le _, rfl, rfl, rfl, by simp, by omega⟩
  case round =>
    obtain ⟨k, m, hk, rfl, rfl, hm, hd, h9⟩ := hrel
    have HM := hide hm
    have HD := hide hd
    clear hm hd
    by_cases hlt : k < s.size
    · have hc : s[k].toNat < 256 := s[k].toNat_lt
      by_cases hg : 48 ≤ (s[k].toNat : Int) ∧ (s[k].toNat : Int) ≤ 57
      · obtain ⟨hg1, hg2⟩ := hg
        by_cases hl9 : s.size ≤ 9
        · have HV := hide (val_take s k hlt)
          have HB := hide (take_dig s k hlt (unhide HD) ⟨by omega, by omega⟩)
          have hmb : m ≤ 999999999 := by rw [unhide HM]; exact val_bound s k hk hl9 (unhide HD)
          clear h9
          go_wp2_with (go_at_call 72; first | (refine (l01In_yes _ _ _ _ ?_ ?_).mono ?_; omega; omega; rintro e w' ⟨rfl, rfl⟩) | (refine (l01In_no _ _ _ _ ?_).mono ?_; omega; rintro e w' ⟨rfl, rfl⟩))
          go_round
          case rel => exact ⟨k + 1, m * 10 + (s[k].toNat - 48), by omega, by go_num, by go_num, by rw [unhide HV, unhide HM], unhide HB, by omega⟩
          case measure => simp [intOf]; omega
        · have HR := hide (readDec_no (l := s.data.toList) (fun h => hl9 (by have := h.2.2.2; rw [size_toList] at this; exact this)))
          have hb9 : decide (9 < (s.size : Int)) = true := by simp; omega
          clear h9
          go_wp2_with (go_at_call 72; first | (refine (l01In_yes _ _ _ _ ?_ ?_).mono ?_; omega; omega; rintro e w' ⟨rfl, rfl⟩) | (refine (l01In_no _ _ _ _ ?_).mono ?_; omega; rintro e w' ⟨rfl, rfl⟩))
          go_ret
          exact ⟨ret_int (unhide HR).symm, rfl⟩
      · have HR := hide (readDec_no (take_undig s k hlt (fun h => hg ⟨by have := h.1; omega, by have := h.2; omega⟩)))
        clear h9
        go_wp2_with (go_at_call 72; first | (refine (l01In_yes _ _ _ _ ?_ ?_).mono ?_; omega; omega; rintro e w' ⟨rfl, rfl⟩) | (refine (l01In_no _ _ _ _ ?_).mono ?_; omega; rintro e w' ⟨rfl, rfl⟩))
        go_ret
        exact ⟨ret_int (unhide HR).symm, rfl⟩
    · have hks : k = s.size := by omega
      have e := Mth.take_all s k hlt
      rw [e] at HM HD
      by_cases h0 : s.size = 0
      · obtain rfl := eq_empty s h0
        have HR := hide (readDec_no (l := ByteArray.empty.data.toList) (fun h => h.1 rfl))
        clear hks e h9
        go_wp2
        go_ret
        exact ⟨ret_int (unhide HR).symm, rfl⟩
      · have h9' := h9 (by omega)
        have hne := not_empty s (by omega)
        have hmb : m ≤ 999999999 := by
          have := val_bound s k hk h9' (by rw [e]; exact unhide HD)
          rw [e] at this; rw [unhide HM]; exact this
        clear h9 hks e
        by_cases hok : Mth.decOk s.data.toList
        · have HR := hide (readDec_yes hok)
          have heq : ((itoa (m : Int)) == s.toList) = true := by
            rw [ByteArray.toList_eq, beq_iff_eq]
            unfold itoa
            rw [if_neg (by omega), Int.toNat_natCast, unhide HM]
            exact Mth.digits_val _ hok.1 hok.2.1 hok.2.2.1
          have HO := hide hok
          clear hok
          go_wp2_with (go_at_call 55; refine (specDec _ _ (by omega) (by omega)).mono ?_; rintro e w' ⟨rfl, rfl⟩)
          go_ret
          exact ⟨ret_int (by rw [unhide HR, unhide HM]), rfl⟩
        · have HR := hide (readDec_no hok)
          have heq : ((itoa (m : Int)) == s.toList) = false := by
            rw [ByteArray.toList_eq, beq_eq_false_iff_ne]
            unfold itoa
            rw [if_neg (by omega), Int.toNat_natCast]
            have hz : s.data.toList.headD 0 = 48 ∧ s.data.toList.length ≠ 1 := by
              refine ⟨Decidable.byContradiction fun h => hok ⟨?_, unhide HD, .inl h, by rw [size_toList]; exact h9'⟩, fun h => hok ⟨?_, unhide HD, .inr h, by rw [size_toList]; exact h9'⟩⟩
              all_goals
                intro hn
                have := size_toList s
                rw [hn] at this
                simp at this
                omega
            exact Mth.digits_nought _ hz.1 hz.2 m
          have HO := hide hok
          clear hok
          go_wp2_with (go_at_call 55; refine (specDec _ _ (by omega) (by omega)).mono ?_; rintro e w' ⟨rfl, rfl⟩)
          go_ret
          exact ⟨ret_int (unhide HR).symm, rfl⟩
open Mth

def zMg : Mg := ⟨0, 0, 0, 0, 0, ByteArray.empty, 0⟩
def numB (x : ByteArray) : Int := if x = (⟨#[49, 48, 48, 48, 48, 48, 48, 48, 48, 48]⟩ : ByteArray) then 1000000000 else readDec x.data.toList
/-- The kind that a word tells, or -1. -/
def kindB (x : ByteArray) : Int :=
  if x = (⟨#[109, 105, 110, 116]⟩ : ByteArray) then 0 else if x = (⟨#[97, 100, 109, 105, 116]⟩ : ByteArray) then 1
  else if x = (⟨#[114, 101, 108, 101, 97, 115, 101]⟩ : ByteArray) then 2 else if x = (⟨#[119, 97, 110, 116]⟩ : ByteArray) then 3
  else if x = (⟨#[98, 97, 99, 107]⟩ : ByteArray) then 4 else if x = (⟨#[116, 105, 99, 107]⟩ : ByteArray) then 5 else -1
theorem kindB_cases (x : ByteArray) : kindB x = 0 ∨ kindB x = 1 ∨ kindB x = 2 ∨ kindB x = 3 ∨ kindB x = 4 ∨ kindB x = 5 ∨ kindB x = -1 := by
  unfold kindB
  repeat' split
  all_goals simp
theorem kindB_empty : kindB ByteArray.empty = -1 := by decide +kernel
/-- The operation as the program puts it together out of a kind and the words behind the first one. -/
def opI (k : Int) (r : List ByteArray) : Op5 :=
  let a := (k = 1 ∨ k = 2) ∧ 0 < r.length
  let q := if a then r.tail else r
  ⟨k, if a then numB (r.headD ByteArray.empty) else 0, if q.length = 2 then q.headD ByteArray.empty else ByteArray.empty, if q.length = 2 then numB (q.tail.headD ByteArray.empty) else 0, zMg⟩
/-- The operation as the model puts it together. -/
def opS (k : Int) (r : List ByteArray) : Op5 :=
  if k = 1 ∧ r.length = 3 then ⟨k, numB (r.headD ByteArray.empty), r.tail.headD ByteArray.empty, numB (r.tail.tail.headD ByteArray.empty), zMg⟩
  else if k = 2 ∧ r.length = 1 then ⟨k, numB (r.headD ByteArray.empty), ByteArray.empty, 0, zMg⟩
  else if (k = 0 ∨ k = 3 ∨ k = 4) ∧ r.length = 2 then ⟨k, 0, r.headD ByteArray.empty, numB (r.tail.headD ByteArray.empty), zMg⟩
  else ⟨k, 0, ByteArray.empty, 0, zMg⟩
theorem keyOk_none : keyOk ByteArray.empty.data.toList = false := by decide +kernel
theorem ne_of_size {s : ByteArray} (h : s.size ≠ 0) : ¬ (ByteArray.empty = s) := fun e => h (by rw [← e]; rfl)
theorem digits_noblank (v : Nat) : ∀ c ∈ Lib.decDigits v, c ≠ 32 := by
  induction v using Nat.strongRecOn with
  | ind v ih =>
    by_cases h : v < 10
    · rw [digits_small v h]
      intro c hc
      simp at hc
      subst hc
      intro e
      have := congrArg UInt8.toNat e
      simp [UInt8.toNat_ofNat'] at this
      omega
    · rw [digits_big v h]
      intro c hc
      rcases List.mem_append.1 hc with hc | hc
      · exact ih (v / 10) (by omega) c hc
      · simp at hc
        subst hc
        intro e
        have := congrArg UInt8.toNat e
        simp [UInt8.toNat_ofNat'] at this
        omega
theorem dec_noblank (n : Int) (h : 0 ≤ n) : ∀ c ∈ (dec n).data.toList, c ≠ 32 := by
  have e : (dec n).data.toList = Lib.decDigits n.toNat := by
    unfold dec
    show Lib.itoa n = _
    rw [Lib.itoa, if_neg (by omega)]
  rw [e]
  exact digits_noblank _
theorem words_two (a b : ByteArray) (ha : ∀ c ∈ a.data.toList, c ≠ 32) (hb : ∀ c ∈ b.data.toList, c ≠ 32) : (words (tx2 a b)).length = 2 := by
  unfold words tx2
  have e : (a ++ (⟨#[32]⟩ : ByteArray) ++ b).data.toList = a.data.toList ++ 32 :: b.data.toList := by simp [ByteArray.data_append]
  rw [e, split_blank _ _ ha, split_none _ hb]
  rfl
theorem words_tick1 : (words (⟨#[116, 105, 99, 107]⟩ : ByteArray)).length = 1 := by
  unfold words
  rw [split_none _ (by decide +kernel)]
  rfl
theorem words_none : words ByteArray.empty = [ByteArray.empty] := by
  unfold words
  rw [show ByteArray.empty.data.toList = [] from rfl, split_none _ (by simp)]
  rfl
theorem opTx_key {o : Op5} (hK : o.K = 0 ∨ o.K = 1 ∨ o.K = 3 ∨ o.K = 4) (hk : o.k = ByteArray.empty) : opTx o = ByteArray.empty := by
  apply opTx_no
  unfold opOk
  rcases hK with h | h | h | h <;> rw [h, hk, keyOk_none] <;> simp
theorem opTx_rel {o : Op5} (hK : o.K = 2) (s : ByteArray) (hs : s.size ≠ 0) (h : opTx o = s) : (words s).length = 2 ∧ 1 ≤ o.no := by
  by_cases ho : opOk o = true
  · have h2 : 1 ≤ o.no ∧ o.no ≤ 1000000000 := by
      unfold opOk at ho
      rw [hK] at ho
      simp [smB] at ho
      omega
    rw [opTx_yes ho, hK] at h
    simp only [show ¬ ((2 : Int) = 0) by decide, show ¬ ((2 : Int) = 1) by decide, if_false, if_true] at h
    refine ⟨?_, h2.1⟩
    rw [← h]
    exact words_two _ _ (by decide +kernel) (dec_noblank _ (by omega))
  · rw [opTx_no (by simpa using ho)] at h
    exact absurd h (ne_of_size hs)
theorem opTx_tick {o : Op5} (hK : o.K = 5) (s : ByteArray) (hs : s.size ≠ 0) (h : opTx o = s) : (words s).length = 1 := by
  by_cases ho : opOk o = true
  · rw [opTx_yes ho, hK] at h
    simp only [show ¬ ((5 : Int) = 0) by decide, show ¬ ((5 : Int) = 1) by decide, show ¬ ((5 : Int) = 2) by decide, show ¬ ((5 : Int) = 3) by decide, show ¬ ((5 : Int) = 4) by decide, if_false, if_true] at h
    rw [← h]
    exact words_tick1
  · rw [opTx_no (by simpa using ho)] at h
    exact absurd h (ne_of_size hs)
/-- What a text is read as. -/
def roS (s : ByteArray) : Op5 × Bool :=
  if s.size ≠ 0 ∧ opTx (opS (kindB ((words s).headD ByteArray.empty)) (words s).tail) = s then (opS (kindB ((words s).headD ByteArray.empty)) (words s).tail, true) else (⟨0, 0, ByteArray.empty, 0, zMg⟩, false)
def roI (s : ByteArray) : Op5 × Bool :=
  if 0 ≤ kindB ((words s).headD ByteArray.empty) ∧ opTx (opI (kindB ((words s).headD ByteArray.empty)) (words s).tail) = s then (opI (kindB ((words s).headD ByteArray.empty)) (words s).tail, true) else (⟨0, 0, ByteArray.empty, 0, zMg⟩, false)
theorem ro_no {s : ByteArray} (hI : ¬ (0 ≤ kindB ((words s).headD ByteArray.empty) ∧ opTx (opI (kindB ((words s).headD ByteArray.empty)) (words s).tail) = s)) (hS : ¬ (s.size ≠ 0 ∧ opTx (opS (kindB ((words s).headD ByteArray.empty)) (words s).tail) = s)) : roI s = roS s := by
  unfold roI roS
  rw [if_neg hI, if_neg hS]
theorem ro_same (s : ByteArray) : roI s = roS s := by
  by_cases h0 : s.size = 0
  · obtain rfl := eq_empty s h0
    apply ro_no
    · rw [words_none]; simp [kindB_empty]
    · simp
  have hp := words_pos s
  have hlen : (words s).length = (words s).tail.length + 1 := by rw [List.length_tail]; omega
  have hc := kindB_cases ((words s).headD ByteArray.empty)
  have hno := fun hI hS => ro_no (s := s) hI hS
  have hrel := fun (o : Op5) (hK : o.K = 2) (h : opTx o = s) => opTx_rel hK s h0 h
  have htk := fun (o : Op5) (hK : o.K = 5) (h : opTx o = s) => opTx_tick hK s h0 h
  have hne := ne_of_size h0
  unfold roI roS at *
  rw [hlen] at hrel htk
  generalize kindB ((words s).headD ByteArray.empty) = k at *
  generalize (words s).tail = r at *
  clear hp hlen
  by_cases heq : opI k r = opS k r ∧ 0 ≤ k
  · rw [heq.1]
    by_cases ht : opTx (opS k r) = s
    · rw [if_pos ⟨heq.2, ht⟩, if_pos ⟨h0, ht⟩]
    · rw [if_neg (fun h => ht h.2), if_neg (fun h => ht h.2)]
  · apply hno
    · rintro ⟨hk, ht⟩
      apply heq
      refine ⟨?_, hk⟩
      rcases hc with rfl | rfl | rfl | rfl | rfl | rfl | rfl
      · simp [opI, opS]; split <;> simp_all
      · by_cases hl : r.length = 3
        · match r, hl with
          | [a, b, c], _ => simp [opI, opS]
        · exfalso
          rw [opTx_key (.inr (.inl rfl)) ?_] at ht
          · exact hne ht
          · unfold opI
            simp only [true_or, true_and]
            by_cases h1 : 0 < r.length
            · simp only [h1, if_true]
              rw [if_neg (by rw [List.length_tail]; omega)]
            · simp only [h1, if_false]
              rw [if_neg (by omega)]
      · have := (hrel _ rfl ht).1
        match r, (show r.length = 1 by omega) with
        | [a], _ => simp [opI, opS]
      · simp [opI, opS]; split <;> simp_all
      · simp [opI, opS]; split <;> simp_all
      · have := htk _ rfl ht
        match r, (show r.length = 0 by omega) with
        | [], _ => simp [opI, opS]
      · omega
    · rintro ⟨_, ht⟩
      apply heq
      rcases hc with rfl | rfl | rfl | rfl | rfl | rfl | rfl
      · refine ⟨?_, by decide⟩; simp [opI, opS]; split <;> simp_all
      · refine ⟨?_, by decide⟩
        by_cases hl : r.length = 3
        · match r, hl with
          | [a, b, c], _ => simp [opI, opS]
        · exfalso
          rw [opTx_key ?_ ?_] at ht
          · exact hne ht
          · simp [opS, hl]
          · simp [opS, hl]
      · refine ⟨?_, by decide⟩
        by_cases hl : r.length = 1
        · match r, hl with
          | [a], _ => simp [opI, opS]
        · exfalso
          have := (hrel _ (by simp [opS, hl]) ht).2
          simp [opS, hl] at this
      · refine ⟨?_, by decide⟩; simp [opI, opS]; split <;> simp_all
      · refine ⟨?_, by decide⟩; simp [opI, opS]; split <;> simp_all
      · refine ⟨?_, by decide⟩
        have := htk _ (by simp [opS]) ht
        match r, (show r.length = 0 by omega) with
        | [], _ => simp [opI, opS]
      · exfalso
        rw [opTx_no (by simp [opS, opOk])] at ht
        exact hne ht
end Go.Proofs.YtikdkijggejnfaaGreatDoor
