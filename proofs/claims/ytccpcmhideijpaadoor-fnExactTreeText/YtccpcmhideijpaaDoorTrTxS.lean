/-
  What the model's TreeText comes to.
-/
import Derived.Test.YtccpcmhideijpaaDoorTrOk
import Derived.Test.YtccpcmhideijpaaDoorDecS
import Derived.Test.YtccpcmhideijpaaDoorBytes
import Derived.Lib.Join
import Derived.Lib.ItoaLen
namespace Go.Proofs.YtccpcmhideijpaaDoor
open Go.RowKit
open Go.Lib (decDigits itoa)
open Mth

def txL (xs : List ByteArray) : ByteArray := ⟨(Lib.join (xs.map (fun x => x.data.toList)) [32]).toArray⟩
def decB (n : Int) : ByteArray := ⟨(itoa n).toArray⟩
def dcs (l : List Int) : List ByteArray := (l.drop 1).map decB
def treeTx (l : List Int) : ByteArray := if treeB l = true then txL (dcs l) else ⟨#[]⟩
theorem txL_nil : txL [] = ⟨#[]⟩ := rfl
theorem txL_one (x : ByteArray) : txL ([] ++ [x]) = ⟨#[]⟩ ++ x := by
  apply ByteArray.ext
  simp [txL, Lib.join_one]
theorem txL_more (xs : List ByteArray) (x : ByteArray) (h : 0 < xs.length) : txL (xs ++ [x]) = txL xs ++ ⟨#[32]⟩ ++ x := by
  apply ByteArray.ext
  match xs, h with
  | y :: r, _ =>
    simp only [txL, List.cons_append, List.map_cons, List.map_append, List.map_nil]
    rw [Lib.join_cons, Lib.join_cons]
    simp [Lib.joinTail, ByteArray.data_append, ← Array.toList_inj]
theorem dcs_len (l : List Int) : (dcs l).length = l.length - 1 := by simp [dcs]
theorem dcs_take (l : List Int) (k : Nat) (h1 : 1 ≤ k) (h2 : k < l.length) : (dcs l).take k = (dcs l).take (k - 1) ++ [decB l[k]] := by
  have hk : k - 1 < (dcs l).length := by rw [dcs_len]; omega
  have e : k = (k - 1) + 1 := by omega
  rw [show (dcs l).take k = (dcs l).take ((k - 1) + 1) by rw [← e], List.take_succ_eq_append_getElem hk]
  congr 1
  have e4 : k - 1 + 1 = k := by omega
  simp [dcs, e4]
theorem decB_size (n : Int) (h0 : 0 ≤ n) (h1 : n ≤ 1000) : (decB n).size ≤ 21 := by
  have := Lib.itoa_length_le n (by omega) (by omega)
  unfold decB
  rw [size_of_list]
  exact this
set_option maxRecDepth 100000 in
set_option maxHeartbeats 4000000 in
theorem specTreeText (a : Option Addr) (cap : Nat) (l : List Int) (w : World) (hl : l.length ≤ 1048600) (ha : IntsAt w a l) :
    Calls Tryd.prog 11 #[trv a l cap] w fun e w' => e = .returned (.string (treeTx l)) ∧ Below w.heap.size w w' := by
  have hb1 : Below w.heap.size w (w.alloc (.cells #[.slice a l.length cap] 24)) := below_one' w _
  have HC := hide (fun W (hb : Below w.heap.size w W) => specTreeOk a cap l W hl (GR.At.below ha hb))
  have HT0 := hide (heap_alloc_new w (.cells #[.slice a l.length cap] 24))
  have HB := hide hb1
  have HA := hide ha
  clear hb1 ha
  cases htb : treeB l
  · have HE := hide (show treeTx l = ⟨#[]⟩ by unfold treeTx; rw [htb]; rfl)
    rw [htb] at HC
    go_enter Tryd.func11, Tryd.ntmps11
    go_wp2_with fail
    generalize w.alloc (.cells #[.slice a l.length cap] 24) = W0 at *
    go_loopw [3, 4] (fun o i wr => o = .string ⟨#[]⟩ ∧ i = .int .i64 1 ∧ wr = W0) (fun _ _ _ => 0)
    case atStart => exact ⟨rfl, rfl, rfl⟩
    case round =>
      obtain ⟨rfl, rfl, rfl⟩ := hrel
      obtain ⟨t1, _⟩ := one_at (unhide HT0)
      by_cases h1 : 1 < l.length
      · have hd : decide ((1 : Int) < (l.length : Int)) = true := decide_eq_true (by omega)
        go_wp2_with (go_at_call 16; refine (unhide HC _ (unhide HB)).mono ?_; rintro e w1 ⟨rfl, hb2⟩)
        go_ret
        exact ⟨ret_string (unhide HE).symm, (unhide HB).trans (hb2.mono (unhide HB).size)⟩
      · have hd : decide ((1 : Int) < (l.length : Int)) = false := decide_eq_false (by omega)
        go_wp2_with fail
        go_ret
        exact ⟨ret_string (unhide HE).symm, unhide HB⟩
  have HTP := hide (TreeP.of htb)
  have HE := hide (show treeTx l = txL ((dcs l).take (l.length - 1)) by unfold treeTx; rw [htb, ← dcs_len, List.take_length]; rfl)
  rw [htb] at HC
  clear htb
  have hl30 := (unhide HTP).le
  have hpos := (unhide HTP).pos
  go_enter Tryd.func11, Tryd.ntmps11
  go_wp2_with fail
  generalize w.alloc (.cells #[.slice a l.length cap] 24) = W0 at *
  go_loopw [3, 4] (fun o i wr => ∃ k : Nat, 1 ≤ k ∧ k ≤ l.length ∧ (∃ b, o = .string b ∧ b = txL ((dcs l).take (k - 1)) ∧ b.size ≤ 30 * k) ∧ i = .int .i64 k ∧ wr.heap[w.heap.size]? = some (.cells #[.slice a l.length cap] 24 (0, 0)) ∧ Below w.heap.size w wr) (fun _ i _ => l.length - (intOf i).toNat)
  case atStart => exact ⟨1, Nat.le_refl _, hpos, ⟨_, rfl, by simp [txL_nil], Nat.zero_le _⟩, rfl, unhide HT0, unhide HB⟩
  case round =>
    obtain ⟨k, hk1, hk, ⟨o, rfl, ho, hosz⟩, rfl, ht, hbel⟩ := hrel
    have HOO := hide ho
    clear ho
    have HT := hide ht
    have HBL := hide hbel
    obtain ⟨t1, _⟩ := one_at ht
    clear ht hbel
    by_cases hlt : k < l.length
    · obtain ⟨u1, u2⟩ := (unhide HTP).up k hlt (by omega)
      have HTK := hide (dcs_take l k hk1 hlt)
      have HML := hide (txL_more ((dcs l).take (k - 1)) (decB l[k]))
      have HLN := hide (show ((dcs l).take (k - 1)).length = k - 1 by rw [List.length_take, dcs_len]; omega)
      have HQ := hide (fun W (hb : Below w.heap.size w W) => IntsAt.one (GR.At.below (unhide HA) hb) k hlt)
      generalize l[k] = pu at *
      have HD := hide (fun W => specDec pu W (by omega) (by omega))
      rw [show (⟨(itoa pu).toArray⟩ : ByteArray) = decB pu from rfl] at HD
      have hdb : (decB pu).size ≤ 21 := decB_size pu (by omega) (by omega)
      generalize decB pu = db at *
      have HC1 := hide (unhide HC _ (unhide HBL))
      by_cases h1 : k = 1
      · subst h1
        have HO := hide (show txL ((dcs l).take 1) = ⟨#[]⟩ ++ db by rw [unhide HTK]; simpa using txL_one db)
        have hbeg : o = ⟨#[]⟩ := by rw [unhide HOO]; simp [txL_nil]
        subst hbeg
        go_wp2_with (go_at_call 16; refine (unhide HC1).mono ?_; rintro e w1 ⟨rfl, hb2⟩; have HB2 := hide ((unhide HBL).trans (hb2.mono (unhide HBL).size)); have HT2 := hide (tr_step (unhide HT) hb2); obtain ⟨t2, _⟩ := one_at (unhide HT2); obtain ⟨g, off, rfl, hgw, q0⟩ := unhide HQ w1 (unhide HB2); clear hb2)
        refine (unhide HD _).mono ?_
        rintro e w3 ⟨rfl, rfl⟩
        go_wp2_with fail
        go_roundw
        case rel => exact ⟨1 + 1, by omega, by omega, ⟨_, rfl, by rw [show 1 + 1 - 1 = 1 from rfl, unhide HO], by simp only [ByteArray.size_append]; omega⟩, by go_num, unhide HT2, unhide HB2⟩
        case measure => simp [intOf]; omega
      · have HO := hide (show txL ((dcs l).take k) = o ++ ⟨#[32]⟩ ++ db by rw [unhide HTK, unhide HOO]; exact unhide HML (by rw [unhide HLN]; omega))
        have hgt : decide ((1 : Int) < (k : Int)) = true := decide_eq_true (by omega)
        have h32 : (ByteArray.mk #[32]).size = 1 := rfl
        go_wp2_with (go_at_call 16; refine (unhide HC1).mono ?_; rintro e w1 ⟨rfl, hb2⟩; have HB2 := hide ((unhide HBL).trans (hb2.mono (unhide HBL).size)); have HT2 := hide (tr_step (unhide HT) hb2); obtain ⟨t2, _⟩ := one_at (unhide HT2); obtain ⟨g, off, rfl, hgw, q0⟩ := unhide HQ w1 (unhide HB2); clear hb2)
        refine (unhide HD _).mono ?_
        rintro e w3 ⟨rfl, rfl⟩
        go_wp2_with fail
        go_roundw
        case rel => exact ⟨k + 1, by omega, by omega, ⟨_, rfl, by rw [show k + 1 - 1 = k from rfl, unhide HO], by simp only [ByteArray.size_append]; omega⟩, by go_num, unhide HT2, unhide HB2⟩
        case measure => simp [intOf]; omega
    · have hke : k = l.length := by omega
      subst hke
      go_wp2_with fail
      go_ret
      exact ⟨ret_string (by rw [unhide HOO, unhide HE]), unhide HBL⟩
end Go.Proofs.YtccpcmhideijpaaDoor
