/-
  The walk of the model's GetNum.
-/
import Derived.Test.YtiinpdkgnflmeaaDoorGetSpec
namespace Go.Proofs.YtiinpdkgnflmeaaDoor
open Go.RowKit

theorem specGetNum_neg (s : ByteArray) (i : Int) (w : World) (h : i < 0) : Calls Tryd.prog 18 #[.string s, .int .i64 i] w fun e w' => e = .returned (getRes none i) ∧ w = w' := by
  have h0 : decide (0 ≤ i) = false := by simp; omega
  go_enter Tryd.func18, Tryd.ntmps18
  go_wp2
  refine wp_loop_rounds 1 ?_
  rw [rounds_succ]
  go_wp2
  go_ret2
  exact ⟨rfl, rfl⟩

theorem bne_lists {a b : List UInt8} (h : a = b) : (a == b) = true := by simp [h]
theorem nbe_lists {a b : List UInt8} (h : a ≠ b) : (a == b) = false := by simp [h]

set_option maxRecDepth 100000 in
set_option maxHeartbeats 4000000 in
theorem specGetNum (s : ByteArray) (i : Nat) (w : World) (hs : s.size ≤ maxLen) : Calls Tryd.prog 18 #[.string s, .int .i64 i] w fun e w' => e = .returned (getRes (Mth.get s.data.toList i) i) ∧ Below w.heap.size w w' := by
  unfold maxLen at hs
  go_enter Tryd.func18, Tryd.ntmps18
  go_wp2
  go_loop [6, 7, 8] (fun n u a => ∃ j m v k : Nat, unitAt j v ∧ m < v ∧ n = .int .i64 m ∧ u = .int .i64 v ∧ a = .int .i64 k ∧ k = i + j ∧ readSo s i j m ∧ Mth.getF (5 - j) (s.data.toList.drop k) m v j = Mth.get s.data.toList i) (fun _ _ a => s.size - (intOf a).toNat)
  case atStart => exact ⟨0, 0, 1, i, .inl ⟨rfl, rfl⟩, by omega, rfl, rfl, rfl, rfl, read_nil s i, rfl⟩
  case round =>
    obtain ⟨j, m, v, k, hu, hm, rfl, rfl, rfl, hk, hread, hget⟩ := hrel
    have HG := hide hget
    have HK := hide hk
    have HRD := hide hread
    have hki1 : (k : Int) - (i : Int) ≤ j := by omega
    have hki2 : (j : Int) ≤ (k : Int) - (i : Int) := by omega
    clear hget hk hread
    obtain ⟨hv1, hv2, hu2, hv5⟩ := unit_le hu
    have HU0 := hide hu
    by_cases hlt : k < s.size
    · by_cases hj : j < 5
      · have hc : s[k].toNat < 256 := s[k].toNat_lt
        have hv2' := hv2 hj
        have HU := hide (hu2 hj)
        clear hv2 hu2 hv5 hu
        obtain ⟨hp0, hp1⟩ := part_le s[k].toNat v
        by_cases hb : 128 ≤ s[k].toNat
        · have HR := hide (Mth.get_more s k _ m _ _ hlt hj hb (unhide HG))
          have HN := hide (read_next s i j k m v (unhide HK) hlt (unhide HU0) hb (unhide HRD))
          clear HG
          go_wp2
          go_round
          case rel => exact ⟨_, _, _, k + 1, unhide HU, part_next m _ v hm, by go_num, by go_num, by go_num, by have := unhide HK; omega, unhide HN, unhide HR⟩
          case measure => simp [intOf]; omega
        · go_wp2_with fail
          generalize hx : ((m : Int) + (s[k].toNat : Int) % 128 * (v : Int)) = x
          have hx0 : 0 ≤ x := by omega
          have hx1 : x ≤ 34359738368 := by omega
          have HX := hide hx
          clear hx hp0 hp1
          have hA : (0 : Int) ≤ (k : Int) + 1 := by omega
          have hB : (k : Int) + 1 ≤ (s.size : Int) := by omega
          have hC : (i : Int) ≤ (k : Int) + 1 := by omega
          have hW : IntKind.i64.wrap ((k : Int) + 1) = (k : Int) + 1 := IntWalk.i64_in _ ⟨by omega, by omega⟩
          by_cases hbig : 4000000000 < x
          · have HR := hide (Mth.get_bad s k _ m _ _ hlt hj hb (.inl (part_big m _ v hb (by rw [unhide HX]; exact hbig))) (unhide HG))
            have hne : (([] : List UInt8) == (s.extract i (k + 1)).toList) = false := nbe_lists (by rw [ext_take s i j k (unhide HK) hlt]; simp)
            go_region_with (go_at_call 39; refine (specPutNum_none _ _ (.inr hbig)).mono ?_; rintro e w' ⟨rfl, rfl⟩)
            all_goals
              go_wp2
              go_ret2
              exact ⟨get_none (unhide HR), (Below.refl _ _).drew⟩
          · have hsm : x ≤ 4000000000 := by omega
            have HV : Hid (x.toNat = m + s[k].toNat * v) := by have h1 := part_val m s[k].toNat v hb; rw [unhide HX] at h1; rw [h1]; rfl
            by_cases hbad : s[k].toNat = 0 ∧ 0 < j
            · have HR := hide (Mth.get_bad s k _ m _ _ hlt hj hb (.inr hbad) (unhide HG))
              have hne : (Mth.put x.toNat == (s.extract i (k + 1)).toList) = false := nbe_lists (by rw [unhide HV]; exact cmp_no s i j k m v (unhide HK) hlt (unhide HU0) hj (unhide HRD) hbad.1 hbad.2)
              clear hbad
              go_region_with (go_at_call 39; refine (specPutNumI _ _ hx0 hsm).mono ?_; rintro e w' ⟨rfl, hbel⟩)
              all_goals
                go_wp2
                go_ret2
                exact ⟨get_none (unhide HR), by first | exact hbel | exact ((Below.refl _ _).drew).trans hbel⟩
            · have HR := hide (Mth.get_hit s k _ m _ _ hlt hj hb (part_small m _ v hb (by rw [unhide HX]; omega)) (by omega) (unhide HG))
              have heq : (Mth.put x.toNat == (s.extract i (k + 1)).toList) = true := bne_lists (by rw [unhide HV]; exact cmp_yes s i j k m v (unhide HK) hlt (unhide HU0) hj hb (unhide HRD) (by omega))
              clear hbad
              go_region_with (go_at_call 39; refine (specPutNumI _ _ hx0 hsm).mono ?_; rintro e w' ⟨rfl, hbel⟩)
              all_goals
                go_wp2
                go_ret2
                exact ⟨get_some (unhide HR) (by have := unhide HV; omega) (by have := unhide HK; omega), by first | exact hbel | exact ((Below.refl _ _).drew).trans hbel⟩
      · obtain ⟨rfl, hbigu⟩ := hv5 hj
        have HR := hide (Mth.get_full _ _ _ _ (unhide HG))
        clear hv2 hu2 hv5 hu
        go_wp2
        go_ret2
        exact ⟨get_none (unhide HR), Below.refl _ _⟩
    · have HR := hide (Mth.get_end s k _ m _ _ hlt (unhide HG))
      clear hv2 hu2 hv5 hu
      go_wp2
      go_ret2
      exact ⟨get_none (unhide HR), Below.refl _ _⟩
end Go.Proofs.YtiinpdkgnflmeaaDoor
