/-
  What the program's TreeText comes to.
-/
import Derived.Test.YtccpcmhideijpaaDoorTrTxS
import Derived.Test.YtccpcmhideijpaaDoorDec
import Derived.Test.YtccpcmhideijpaaDoorRows2
import Derived.Test.YtccpcmhideijpaaDoorKeeps
import Derived.Lib.AppendIntMem
namespace Go.Proofs.YtccpcmhideijpaaDoor
open Go.RowKit
open Go.Lib (decDigits itoa)
open Mth

theorem infoStrT : (Tryd.prog.info? 9).map (fun i => (i.zero, i.size, i.bytes)) = some (some (.string ByteArray.empty), 1, 16) := by kernel_rfl
set_option maxRecDepth 100000 in
theorem join_none (w : World) : Calls Tryd.prog 27 #[.slice none 0 0, .string ⟨#[32]⟩] w fun e w' => e = .returned (.string ⟨#[]⟩) ∧ w = w' := by
  go_enter Tryd.func27, Tryd.ntmps27
  go_wp2_with fail
  go_ret
  exact ⟨rfl, rfl⟩
theorem own_cellsT {w : World} {base : Nat} {v : Value} {xs : List ByteArray} (h : w.ownsRow base 9 1 v xs.length (xs.map Value.string)) (hp : 0 < xs.length) :
    ∃ g cap, v = .slice (some ⟨g, 0, none⟩) xs.length cap ∧ g < w.heap.size ∧ xs.length ≤ cap ∧ ∀ i x, xs[i]? = some x → w.cell? ⟨g, 0 + i, none⟩ = some (.string x) := by
  rcases h.2 with ⟨_, hn⟩ | ⟨g, cap, cur, rfl, hb, hh, hnc, _⟩
  · omega
  · refine ⟨g, cap, rfl, (h.lt g rfl).2, hnc, fun i x hi => ?_⟩
    have := h.cells rfl i (.string x) (by simp [hi])
    by_cases h0 : i = 0
    · subst h0; simpa [Addr.add] using this
    · simpa [Addr.add, h0] using this
theorem joinT_len (xs : List ByteArray) (h : xs.length ≤ 30) (hs : ∀ x ∈ xs, x.size ≤ 21) : (Lib.join (xs.map (·.data.toList)) [32]).length ≤ 1000 := by
  cases xs with
  | nil => simp [Lib.join_nil]
  | cons y r =>
    rw [List.map_cons, Lib.join_length]
    have hl : ∀ zs : List ByteArray, (∀ x ∈ zs, x.size ≤ 21) → Lib.lens (zs.map (·.data.toList)) ≤ 21 * zs.length := by
      intro zs
      induction zs with
      | nil => intro _; simp [Lib.lens]
      | cons z zs ih =>
        intro hz
        have h1 := hz z (by simp)
        have h2 := ih (fun x hx => hz x (by simp [hx]))
        simp only [Lib.lens, List.map_cons, List.sum_cons, List.length_cons] at h2 ⊢
        have h3 : z.data.toList.length = z.size := size_toList z
        omega
    have h1 := hl (y :: r) hs
    simp only [List.map_cons, List.length_cons] at h1 h
    simp
    omega
theorem Tens.below {w w' : World} (h : Tens w) (hb : Below w.heap.size w w') : Tens w' := Lib.tabBelow_of_tabIs h w' hb
set_option maxRecDepth 100000 in
set_option maxHeartbeats 4000000 in
theorem implTreeText (a : Option Addr) (cap : Nat) (l : List Int) (w : World) (hl : l.length ≤ 1048600) (hcap : l.length ≤ cap) (hTn : Tens w) (ha : IntsAt w a l) :
    Calls Tryd.prog 13 #[trv a l cap] w fun e w' => e = .returned (.string (treeTx l)) ∧ Below w.heap.size w w' := by
  obtain ⟨i0, hi, hz0, hz1, hz2⟩ := info_parts infoStrT
  have hb1 : Below w.heap.size w (w.alloc (.cells #[.slice a l.length cap] 24)) := below_one' w _
  have HC := hide (implOk a cap l _ hl (GR.At.below ha hb1))
  have HT0 := hide (heap_alloc_new w (.cells #[.slice a l.length cap] 24))
  have HB := hide hb1
  have HA := hide ha
  have HTN := hide hTn
  clear hb1 ha hTn
  cases htb : treeB l
  · have HE := hide (show treeTx l = ⟨#[]⟩ by unfold treeTx; rw [htb]; rfl)
    rw [htb] at HC
    go_enter Tryd.func13, Tryd.ntmps13
    go_wp2_with (go_at_call 19; refine (unhide HC).mono ?_; rintro e w1 ⟨rfl, hb2⟩)
    go_ret
    exact ⟨ret_string (unhide HE).symm, (unhide HB).trans (hb2.mono (unhide HB).size)⟩
  have HTP := hide (TreeP.of htb)
  have HE := hide (show treeTx l = txL (dcs l) by unfold treeTx; rw [htb]; rfl)
  rw [htb] at HC
  clear htb
  have hl30 := (unhide HTP).le
  have hpos := (unhide HTP).pos
  obtain ⟨g, off, rfl, hgw, _⟩ := IntsAt.one (unhide HA) 0 hpos
  go_enter Tryd.func13, Tryd.ntmps13
  go_wp2_with (go_at_call 19; refine (unhide HC).mono ?_; rintro e w1 ⟨rfl, hb2⟩; have HB2 := hide ((unhide HB).trans (hb2.mono (unhide HB).size)); obtain ⟨t1, _⟩ := one_at (tr_step (unhide HT0) hb2); clear hb2)
  · have hl1 : l.length = 1 := by omega
    have HF := hide (show treeTx l = ⟨#[]⟩ by rw [unhide HE]; have h : (dcs l).length = 0 := by { rw [dcs_len]; omega }; rw [List.eq_nil_of_length_eq_zero h, txL_nil])
    have hl2 : l.length - 1 = 0 := by omega
    go_loopw [3, 13] (fun v i wr => v = .slice none 0 0 ∧ i = .int .i64 0 ∧ wr = w1) (fun _ _ _ => 0)
    case atStart => exact ⟨rfl, rfl, rfl⟩
    case round =>
      obtain ⟨rfl, rfl, rfl⟩ := hrel
      rw [hl2] at *
      go_wp2_with (go_at_call 27; refine (join_none _).mono ?_; rintro e w3 ⟨rfl, rfl⟩)
      go_ret
      exact ⟨ret_string (unhide HF).symm, unhide HB2⟩
  · have HL := hide (dcs_len l)
    have HDS := hide (show ∀ x ∈ dcs l, x.size ≤ 21 by
      intro x hx
      unfold dcs at hx
      obtain ⟨n, hn, rfl⟩ := List.mem_map.1 hx
      obtain ⟨i, hi, rfl⟩ := List.getElem_of_mem hn
      rw [List.getElem_drop]
      obtain ⟨q1, q2⟩ := (unhide HTP).up (1 + i) (by rw [List.length_drop] at hi; omega) (by omega)
      exact decB_size _ q1 (by have := hi; rw [List.length_drop] at this; omega))
    go_loopw [3, 13] (fun v i wr => ∃ k : Nat, k ≤ l.length - 1 ∧ i = .int .i64 k ∧ wr.ownsRow w.heap.size 9 1 v ((dcs l).take k).length (((dcs l).take k).map Value.string) ∧ (k = 0 → v = .slice none 0 0) ∧ Below w.heap.size w wr) (fun _ i _ => l.length - 1 - (intOf i).toNat)
    case atStart => exact ⟨0, Nat.zero_le _, rfl, by simpa using World.ownsRow_nil _ _ _ _, fun _ => rfl, unhide HB2⟩
    case round =>
      obtain ⟨k, hk, rfl, hown, hnil, hbel⟩ := hrel
      have HBL := hide hbel
      have HLK := hide (show ((dcs l).take k).length = k by rw [List.length_take, unhide HL]; omega)
      have HNL := hide hnil
      clear hbel hnil
      by_cases hlt : k < l.length - 1
      · obtain ⟨u1, u2⟩ := (unhide HTP).up (k + 1) (by omega) (by omega)
        have HTK := hide (dcs_take l (k + 1) (by omega) (by omega))
        obtain ⟨g', off', e', hg', q0⟩ := IntsAt.one (GR.At.below (unhide HA) (unhide HBL)) (k + 1) (by omega)
        cases e'
        have q1 : wr.cell? ⟨g, off + 1 + k, none⟩ = some (.int .i64 l[k + 1]) := by rw [show off + 1 + k = off + (k + 1) by omega]; exact q0
        clear q0
        generalize l[k + 1] = pu at *
        have HD := hide (implDec pu wr (by omega) (by omega) ((unhide HTN).below (unhide HBL)))
        rw [show (⟨(itoa pu).toArray⟩ : ByteArray) = decB pu from rfl] at HD
        generalize decB pu = db at *
        rw [Nat.add_sub_cancel] at HTK
        have hd : decide ((k : Int) < ((l.length - 1 : Nat) : Int)) = true := decide_eq_true (by omega)
        go_wp2_with (first | (go_at_call 26; refine (unhide HD).mono ?_; rintro e w3 ⟨rfl, hb3⟩; have HB3 := hide ((unhide HBL).trans (hb3.mono (unhide HBL).size)); have hown3 := GR.own_below hown hb3; clear hb3) | (at_builtin; refine wpList_append_own _ rfl _ _ 35 rfl w.heap.size 9 i0 (.string ByteArray.empty) 1 16 Tryd.underlying35 hi hz0 hz1 hz2 rfl (by decide) _ _ _ rfl (hown3.alloc _) ⟨w3.heap.size, 0, none⟩ 1 1 [.string db] rfl rfl ?c1 ?c2 ?c3 ?c4 ?c5 ?_))
        case c1 => exact cell_one_new _ _ _
        case c2 => intro u hu; simp at hu; subst hu; rfl
        case c3 => unfold maxLen; rw [unhide HLK]; omega
        case c4 => rw [unhide HLK]; omega
        case c5 => have := (unhide HB3).size; simp; omega
        intro v' w4 hown' hgrow _
        have hbel' := hide (GR.below_append (unhide HB3) (unhide HB3).size hown3 hgrow)
        have hown2 : w4.ownsRow w.heap.size 9 1 v' ((dcs l).take (k + 1)).length (((dcs l).take (k + 1)).map Value.string) := by
          rw [unhide HTK, List.map_append, List.length_append, List.length_take, List.map_take]
          exact hown'
        have HO2 := hide hown2
        clear hown' hgrow hown3 hown hown2
        go_wp2_with fail
        go_roundw
        case rel => exact ⟨k + 1, by omega, by go_num, unhide HO2, fun h => by omega, unhide hbel'⟩
        case measure => simp [intOf]; omega
      · have hke : k = l.length - 1 := by omega
        subst hke
        have htl : (dcs l).take (l.length - 1) = dcs l := by rw [← unhide HL, List.take_length]
        rw [htl] at hown
        have hd : decide (((l.length - 1 : Nat) : Int) < ((l.length - 1 : Nat) : Int)) = false := decide_eq_false (by omega)
        by_cases h0 : l.length - 1 = 0
        · have hv := unhide HNL h0
          subst hv
          have HF := hide (show treeTx l = ⟨#[]⟩ by rw [unhide HE]; have h : (dcs l).length = 0 := by { rw [unhide HL]; omega }; rw [List.eq_nil_of_length_eq_zero h, txL_nil])
          clear hown htl
          go_wp2_with (go_at_call 27; refine (join_none _).mono ?_; rintro e w3 ⟨rfl, rfl⟩)
          go_ret
          exact ⟨ret_string (unhide HF).symm, unhide HBL⟩
        · obtain ⟨gv, cv, hv, hgv, hcv, hcells⟩ := own_cellsT hown (by rw [unhide HL]; omega)
          subst hv
          have HJ := hide (Tryd.strings_Join gv 0 cv (dcs l) ⟨#[32]⟩ wr hcells hgv (by rw [unhide HL]; omega) hcv (Nat.le_trans (joinT_len (dcs l) (by rw [unhide HL]; omega) (unhide HDS)) (by omega)))
          have HJ2 : Hid (Calls Tryd.prog 27 #[.slice (some ⟨gv, 0, none⟩) (dcs l).length cv, .string ⟨#[32]⟩] wr fun e w' => e = .returned (.string (txL (dcs l))) ∧ Below wr.heap.size wr w') := unhide HJ
          clear HJ hown htl hcells
          go_wp2_with (go_at_call 27; refine (unhide HJ2).mono ?_; rintro e w3 ⟨rfl, hb3⟩)
          go_ret
          exact ⟨ret_string (unhide HE).symm, (unhide HBL).trans (hb3.mono (unhide HBL).size)⟩
end Go.Proofs.YtccpcmhideijpaaDoor
