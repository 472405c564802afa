/-
  What the program's numAt comes to: the number at a place and the place behind it; or an error of its own make.
-/
import Derived.Test.YtiinpdkgnflmeaaDoorGetMath
import Derived.Test.YtiinpdkgnflmeaaDoorBase
namespace Go.Proofs.YtiinpdkgnflmeaaDoor
open Go.RowKit

/-- The error that the program makes of a place. -/
theorem noNumberAt (i : Int) (w : World) : Calls Tryd.prog 86 #[.int .i64 i] w fun e w' => e = .returned (.iface 121 (.agg #[.iface 123 (.agg #[.int .i64 i])])) ∧ w = w' := by
  go_enter Tryd.func86, Tryd.ntmps86
  go_wp2
  go_ret
  exact ⟨rfl, rfl⟩

/-- What numAt hands back. -/
def numRes (o : Option (Nat × Nat)) (i : Int) : Value :=
  match o with
  | none => .tuple #[.int .i64 0, .int .i64 0, .iface 121 (.agg #[.iface 123 (.agg #[.int .i64 i])])]
  | some (n, c) => .tuple #[.int .i64 n, .int .i64 (i + c), .nilIface]

theorem numAt_neg (s : ByteArray) (i : Int) (w : World) (h : i < 0) : Calls Tryd.prog 85 #[.string s, .int .i64 i] w fun e w' => e = .returned (numRes none i) ∧ w = w' := by
  go_enter Tryd.func85, Tryd.ntmps85
  go_wp2_with (go_at_call 86; refine (noNumberAt _ _).mono ?_; rintro e w' ⟨rfl, rfl⟩)
  go_ret3
  exact ⟨rfl, rfl⟩

/-- Where the loop that reads stands: the unit goes with the count of bytes. -/
def unitAt (j u : Nat) : Prop := (j = 0 ∧ u = 1) ∨ (j = 1 ∧ u = 128) ∨ (j = 2 ∧ u = 16384) ∨ (j = 3 ∧ u = 2097152) ∨ (j = 4 ∧ u = 268435456) ∨ (j = 5 ∧ u = 34359738368)

theorem res_some {G : Option (Nat × Nat)} {i a b : Int} {n c : Nat} (hG : G = some (n, c)) (ha : a = n) (hb : b = i + c) : Ending.returned (.tuple #[.int .i64 a, .int .i64 b, .nilIface]) = .returned (numRes G i) := by
  subst hG; subst ha; subst hb; rfl
theorem res_none {G : Option (Nat × Nat)} {i : Int} (hG : G = none) : Ending.returned (.tuple #[.int .i64 0, .int .i64 0, .iface 121 (.agg #[.iface 123 (.agg #[.int .i64 i])])]) = .returned (numRes G i) := by
  subst hG; rfl

theorem unit_le {j u : Nat} (h : unitAt j u) : 1 ≤ u ∧ (j < 5 → u ≤ 268435456) ∧ (j < 5 → unitAt (j + 1) (u * 128)) ∧ (¬ j < 5 → j = 5 ∧ 4000000000 < u) := by
  unfold unitAt at *
  rcases h with ⟨rfl, rfl⟩ | ⟨rfl, rfl⟩ | ⟨rfl, rfl⟩ | ⟨rfl, rfl⟩ | ⟨rfl, rfl⟩ | ⟨rfl, rfl⟩ <;> simp
theorem part_le (b v : Nat) : 0 ≤ (b : Int) % 128 * (v : Int) ∧ (b : Int) % 128 * (v : Int) ≤ 127 * (v : Int) := by
  have h1 : 0 ≤ (b : Int) % 128 := by omega
  have h2 : (b : Int) % 128 ≤ 127 := by omega
  exact ⟨Int.mul_nonneg h1 (by omega), Int.mul_le_mul_of_nonneg_right h2 (by omega)⟩

theorem part_eq (b v : Nat) (hb : ¬ 128 ≤ b) : (b : Int) % 128 * (v : Int) = ((b * v : Nat) : Int) := by
  rw [Int.emod_eq_of_lt (by omega) (by omega)]; simp
theorem part_big (m b v : Nat) (hb : ¬ 128 ≤ b) (h : (4000000000 : Int) < (m : Int) + (b : Int) % 128 * (v : Int)) : 4000000000 < m + b * v := by
  rw [part_eq b v hb] at h; generalize b * v = x at *; omega
theorem part_small (m b v : Nat) (hb : ¬ 128 ≤ b) (h : ¬ (4000000000 : Int) < (m : Int) + (b : Int) % 128 * (v : Int)) : m + b * v ≤ 4000000000 := by
  rw [part_eq b v hb] at h; generalize b * v = x at *; omega
theorem part_next (m b v : Nat) (h : m < v) : m + b % 128 * v < v * 128 := by
  have h1 : b % 128 ≤ 127 := by omega
  have h2 := Nat.mul_le_mul_right v h1
  omega
theorem part_val (m b v : Nat) (hb : ¬ 128 ≤ b) : (m : Int) + (b : Int) % 128 * (v : Int) = ((m + b * v : Nat) : Int) := by
  rw [part_eq b v hb]; generalize b * v = x; omega
theorem part_nought (m b v : Nat) (hb : (b : Int) ≤ 0) : (m : Int) = ((m + b * v : Nat) : Int) := by
  have : b = 0 := by omega
  subst this; simp

set_option maxRecDepth 100000 in
set_option maxHeartbeats 4000000 in
theorem numAt (s : ByteArray) (i : Nat) (w : World) (hs : s.size ≤ maxLen) : Calls Tryd.prog 85 #[.string s, .int .i64 i] w fun e w' => e = .returned (numRes (Mth.get s.data.toList i) i) ∧ w = w' := by
  unfold maxLen at hs
  have h0 : decide ((i : Int) < 0) = false := by simp
  go_enter Tryd.func85, Tryd.ntmps85
  go_wp2
  go_loop [7, 8, 9] (fun n u a => ∃ j m v k : Nat, unitAt j v ∧ m < v ∧ n = .int .i64 m ∧ u = .int .i64 v ∧ a = .int .i64 k ∧ k = i + j ∧ Mth.getF (5 - j) (s.data.toList.drop k) m v j = Mth.get s.data.toList i) (fun _ _ a => s.size - (intOf a).toNat)
  case atStart => exact ⟨0, 0, 1, i, .inl ⟨rfl, rfl⟩, by omega, rfl, rfl, rfl, rfl, rfl⟩
  case round =>
    obtain ⟨j, m, v, k, hu, hm, rfl, rfl, rfl, hk, hget⟩ := hrel
    have HG := hide hget
    have HK := hide hk
    clear hget hk
    obtain ⟨hv1, hv2, hu2, hv5⟩ := unit_le hu
    by_cases hlt : k < s.size
    · by_cases hj : j < 5
      · have hc : s[k].toNat < 256 := s[k].toNat_lt
        have hv2' := hv2 hj
        have HU := hide (hu2 hj)
        clear hv2 hu2 hv5 hu
        obtain ⟨hp0, hp1⟩ := part_le s[k].toNat v
        by_cases hb : 128 ≤ s[k].toNat
        · have HR := hide (Mth.get_more s k _ m _ _ hlt hj hb (unhide HG))
          clear HG
          go_wp2
          go_round
          case rel => exact ⟨_, _, _, k + 1, unhide HU, part_next m _ v hm, by go_num, by go_num, by go_num, by have := unhide HK; omega, unhide HR⟩
          case measure => simp [intOf]; omega
        · by_cases hbig : (4000000000 : Int) < (m : Int) + (s[k].toNat : Int) % 128 * (v : Int)
          · have HR := hide (Mth.get_bad s k _ m _ _ hlt hj hb (.inl (part_big m _ v hb hbig)) (unhide HG))
            clear HG
            go_wp2_with (go_at_call 86; refine (noNumberAt _ _).mono ?_; rintro e w' ⟨rfl, rfl⟩)
            go_ret3
            exact ⟨res_none (unhide HR), rfl⟩
          · by_cases hz : (s[k].toNat : Int) ≤ 0
            · by_cases hj0 : 0 < j
              · have HR := hide (Mth.get_bad s k _ m _ _ hlt hj hb (.inr ⟨by omega, hj0⟩) (unhide HG))
                have hik : i < k := by have := unhide HK; omega
                clear HG
                go_wp2_with (go_at_call 86; refine (noNumberAt _ _).mono ?_; rintro e w' ⟨rfl, rfl⟩)
                go_ret3
                exact ⟨res_none (unhide HR), rfl⟩
              · have HR := hide (Mth.get_hit s k _ m _ _ hlt hj hb (part_small m _ v hb hbig) (.inr (by omega)) (unhide HG))
                have hik : k ≤ i := by have := unhide HK; omega
                clear HG
                go_wp2
                go_ret3
                exact ⟨res_some (unhide HR) (part_nought m _ v hz) (by have := unhide HK; omega), rfl⟩
            · have HR := hide (Mth.get_hit s k _ m _ _ hlt hj hb (part_small m _ v hb hbig) (.inl (by omega)) (unhide HG))
              have hz' : 0 < (s[k].toNat : Int) := by omega
              clear HG
              go_wp2
              go_ret3
              exact ⟨res_some (unhide HR) (part_val m _ v hb) (by have := unhide HK; omega), rfl⟩
      · obtain ⟨rfl, hbigu⟩ := hv5 hj
        have HR := hide (Mth.get_full _ _ _ _ (unhide HG))
        clear hv2 hu2 hv5 hu
        go_wp2_with (go_at_call 86; refine (noNumberAt _ _).mono ?_; rintro e w' ⟨rfl, rfl⟩)
        go_ret3
        exact ⟨res_none (unhide HR), rfl⟩
    · have HR := hide (Mth.get_end s k _ m _ _ hlt (unhide HG))
      clear hv2 hu2 hv5 hu
      go_wp2_with (go_at_call 86; refine (noNumberAt _ _).mono ?_; rintro e w' ⟨rfl, rfl⟩)
      go_ret3
      exact ⟨res_none (unhide HR), rfl⟩
end Go.Proofs.YtiinpdkgnflmeaaDoor
