/-
  What the model's PutNum comes to: a number's bytes where it is one (0 .. 4000000000), the empty text where not.
-/
import Derived.Test.YtiinpdkgnflmeaaDoorBytes
import Derived.Test.YtiinpdkgnflmeaaDoorIn
namespace Go.Proofs.YtiinpdkgnflmeaaDoor
open Go.RowKit

theorem infoU8 : (Tryd.prog.info? 5).map (fun i => (i.zero, i.size, i.bytes)) = some (some (.int .u8 0), 1, 1) := by kernel_rfl

theorem specPutNum_none (n : Int) (w : World) (h : n < 0 ∨ 4000000000 < n) :
    Calls Tryd.prog 39 #[.int .i64 n] w fun e w' => e = .returned (.string ByteArray.empty) ∧ w = w' := by
  go_enter Tryd.func39, Tryd.ntmps39
  go_wp2_with (go_at_call 54; refine (l01In_no _ _ _ _ h).mono ?_; rintro e w' ⟨rfl, rfl⟩)
  go_ret
  exact ⟨rfl, rfl⟩

set_option maxRecDepth 100000 in
set_option maxHeartbeats 1000000 in
theorem specPutNum (n : Nat) (w : World) (h : n ≤ 4000000000) :
    Calls Tryd.prog 39 #[.int .i64 n] w fun e w' => e = .returned (.string ⟨(Mth.put n).toArray⟩) ∧ Below w.heap.size w w' := by
  obtain ⟨i0, hi, hz0, hz1, hz2⟩ := info_parts infoU8
  go_enter Tryd.func39, Tryd.ntmps39
  go_wp2_with (go_at_call 54; refine (l01In_yes _ _ _ _ ?_ ?_).mono ?_; omega; omega; rintro e w' ⟨rfl, rfl⟩)
  go_loopw [0, 3] (fun m v wr => ∃ f cur pre, f ≤ 5 ∧ cur ≤ 4000000000 ∧ cur < 128 ^ (f + 1) ∧ pre.length + f = 5 ∧ pre ++ Mth.putF f cur = Mth.put n ∧ m = .int .i64 (cur : Nat) ∧ wr.ownsRow w.heap.size 5 1 v pre.length (pre.map bv) ∧ Below w.heap.size w wr) (fun m _ _ => (intOf m).toNat)
  case atStart => exact ⟨5, n, [], by omega, by omega, by omega, rfl, rfl, rfl, World.ownsRow_lit _ #[] 0 (Nat.le_refl _) (by decide) rfl, (Below.refl _ _).alloc (Nat.le_refl _) _⟩
  case round =>
    obtain ⟨f, cur, pre, hf, hc9, hcur, hpf, hput, rfl, hown, hbel⟩ := hrel
    have HP := hide hput
    clear hput
    by_cases hbig : cur ≤ 127
    · have HE := hide (Mth.put_end n f cur pre hbig (unhide HP))
      go_wp2_with (at_builtin; refine wpList_append_own _ rfl _ _ 68 rfl w.heap.size 5 i0 (.int .u8 0) 1 1 Tryd.underlying68 hi hz0 hz1 hz2 rfl (by decide) _ _ _ rfl (hown.alloc _) ⟨wr.heap.size, 0, none⟩ 1 1 [.int .u8 (cur : Int)] rfl rfl ?c1 ?c2 ?c3 ?c4 ?c5 ?_)
      case c1 => exact cell_one_new _ _ _
      case c2 => intro u hu; simp at hu; subst hu; rfl
      case c3 => unfold maxLen; omega
      case c4 => omega
      case c5 => have := hbel.size; simp; omega
      intro v' w1 hown' hgrow _
      have hbel' := below_append hbel hown hgrow
      have hown2 := own_snoc (UInt8.ofNat cur) (by rw [Mth.toNat_byte _ (by omega)]) hown'
      rw [unhide HE] at hown2
      have hconv := conv_owned 68 9 Tryd.underlying68 Tryd.underlying5 Tryd.underlying9 hown2
      clear hown' hgrow hown hown2 hbel HE
      go_wp2
      go_ret
      exact ⟨rfl, hbel'⟩
    · obtain ⟨f', rfl, hc2, hl2, hp2⟩ := Mth.put_round n f cur pre hcur hbig hpf (unhide HP)
      have HP2 := hide hp2
      clear hp2 HP
      go_wp2_with (at_builtin; refine wpList_append_own _ rfl _ _ 68 rfl w.heap.size 5 i0 (.int .u8 0) 1 1 Tryd.underlying68 hi hz0 hz1 hz2 rfl (by decide) _ _ _ rfl (hown.alloc _) ⟨wr.heap.size, 0, none⟩ 1 1 [.int .u8 (128 + (cur : Int) % 128)] rfl rfl ?d1 ?d2 ?d3 ?d4 ?d5 ?_)
      case d1 => exact cell_one_new _ _ _
      case d2 => intro u hu; simp at hu; subst hu; rfl
      case d3 => unfold maxLen; omega
      case d4 => omega
      case d5 => have := hbel.size; simp; omega
      intro v' w1 hown' hgrow _
      have hbel' := below_append hbel hown hgrow
      have hown2 := own_snoc (UInt8.ofNat (128 + cur % 128)) (by rw [Mth.toNat_byte _ (by omega)]; omega) hown'
      clear hown' hgrow hown hbel
      go_wp2
      go_roundw
      case rel => exact ⟨f', cur / 128, _, by omega, by omega, hc2, hl2, unhide HP2, by go_num, hown2, hbel'⟩
      case measure => simp [intOf]; omega
/-- The same over the integers. -/
theorem specPutNumI (n : Int) (w : World) (h0 : 0 ≤ n) (h : n ≤ 4000000000) :
    Calls Tryd.prog 39 #[.int .i64 n] w fun e w' => e = .returned (.string ⟨(Mth.put n.toNat).toArray⟩) ∧ Below w.heap.size w w' := by
  obtain ⟨m, rfl⟩ := Int.eq_ofNat_of_zero_le h0
  exact specPutNum m w (by omega)
end Go.Proofs.YtiinpdkgnflmeaaDoor
