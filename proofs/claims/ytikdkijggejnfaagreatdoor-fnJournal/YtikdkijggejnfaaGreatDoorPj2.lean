/- Parts. -/
import Derived.Test.YtikdkijggejnfaaGreatDoorPj1
import Derived.Lib.Strings
import Derived.Deep.RegionWith
import Derived.Laws.DeepStrings4
import Derived.LaidEql
import Derived.Stop.Asserts
import Derived.RowKitTokens
namespace Go.Proofs.YtikdkijggejnfaaGreatDoor
open Go.RowKit

theorem infoU8 : (Tryz.prog.info? 5).map (fun i => (i.zero, i.size, i.bytes)) = some (some (.int .u8 0), 1, 1) := by kernel_rfl

theorem specPutNum_none (n : Int) (w : World) (h : n < 0 ∨ 4000000000 < n) :
    Calls Tryz.prog 48 #[.int .i64 n] w fun e w' => e = .returned (.string ByteArray.empty) ∧ w = w' := by
  go_enter Tryz.func48, Tryz.ntmps48
  go_wp2_with (go_at_call 72; refine (l01In_no _ _ _ _ h).mono ?_; rintro e w' ⟨rfl, rfl⟩)
  go_ret
  exact ⟨rfl, rfl⟩

set_option maxRecDepth 100000 in
set_option maxHeartbeats 1000000 in
theorem specPutNum (n : Nat) (w : World) (h : n ≤ 4000000000) :
    Calls Tryz.prog 48 #[.int .i64 n] w fun e w' => e = .returned (.string ⟨(Mth.put n).toArray⟩) ∧ Below w.heap.size w w' := by
  obtain ⟨i0, hi, hz0, hz1, hz2⟩ := info_parts infoU8
  go_enter Tryz.func48, Tryz.ntmps48
  go_wp2_with (go_at_call 72; refine (l01In_yes _ _ _ _ ?_ ?_).mono ?_; omega; omega; rintro e w' ⟨rfl, rfl⟩)
  go_loopw [0, 3] (fun m v wr => ∃ f cur pre, f ≤ 5 ∧ cur ≤ 4000000000 ∧ cur < 128 ^ (f + 1) ∧ pre.length + f = 5 ∧ pre ++ Mth.putF f cur = Mth.put n ∧ m = .int .i64 (cur : Nat) ∧ wr.ownsRow w.heap.size 5 1 v pre.length (pre.map bv) ∧ Below w.heap.size w wr) (fun m _ _ => (intOf m).toNat)
  case atStart => exact ⟨5, n, [], by omega, by omega, by omega, rfl, rfl, rfl, World.ownsRow_lit _ #[] 0 (Nat.le_refl _) (by decide) rfl, (Below.refl _ _).alloc (Nat.le_refl _) _⟩
  case round =>
    obtain ⟨f, cur, pre, hf, hc9, hcur, hpf, hput, rfl, hown, hbel⟩ := hrel
    have HP := hide hput
    clear hput
    by_cases hbig : cur ≤ 127
    · have HE := hide (Mth.put_end n f cur pre hbig (unhide HP))
      go_wp2_with (at_builtin; refine wpList_append_own _ rfl _ _ 30 rfl w.heap.size 5 i0 (.int .u8 0) 1 1 Tryz.underlying30 hi hz0 hz1 hz2 rfl (by decide) _ _ _ rfl (hown.alloc _) ⟨wr.heap.size, 0, none⟩ 1 1 [.int .u8 (cur : Int)] rfl rfl ?c1 ?c2 ?c3 ?c4 ?c5 ?_)
      case c1 => exact cell_one_new _ _ _
      case c2 => intro u hu; simp at hu; subst hu; rfl
      case c3 => unfold maxLen; omega
      case c4 => omega
      case c5 => have := hbel.size; simp; omega
      intro v' w1 hown' hgrow _
      have hbel' := below_append hbel hown hgrow
      have hown2 := own_snoc (UInt8.ofNat cur) (by rw [Mth.toNat_byte _ (by omega)]) hown'
      rw [unhide HE] at hown2
      have hconv := conv_owned 30 9 Tryz.underlying30 Tryz.underlying5 Tryz.underlying9 hown2
      clear hown' hgrow hown hown2 hbel HE
      go_wp2
      go_ret
      exact ⟨rfl, hbel'⟩
    · obtain ⟨f', rfl, hc2, hl2, hp2⟩ := Mth.put_round n f cur pre hcur hbig hpf (unhide HP)
      have HP2 := hide hp2
      clear hp2 HP
      go_wp2_with (at_builtin; refine wpList_append_own _ rfl _ _ 30 rfl w.heap.size 5 i0 (.int .u8 0) 1 1 Tryz.underlying30 hi hz0 hz1 hz2 rfl (by decide) _ _ _ rfl (hown.alloc _) ⟨wr.heap.size, 0, none⟩ 1 1 [.int .u8 (128 + (cur : Int) % 128)] rfl rfl ?d1 ?d2 ?d3 ?d4 ?d5 ?_)
      case d1 => exact cell_one_new _ _ _
      case d2 => intro u hu; simp at hu; subst hu; rfl
      case d3 => unfold maxLen; omega
      case d4 => omega
      case d5 => have := hbel.size; simp; omega
      intro v' w1 hown' hgrow _
      have hbel' := below_append hbel hown hgrow
      have hown2 := own_snoc (UInt8.ofNat (128 + cur % 128)) (by rw [Mth.toNat_byte _ (by omega)]; omega) hown'
      clear hown' hgrow hown hbel
      go_wp2
      go_roundw
      case rel => exact ⟨f', cur / 128, _, by omega, by omega, hc2, hl2, unhide HP2, by go_num, hown2, hbel'⟩
      case measure => simp [intOf]; omega
/-- The same over the integers. -/
theorem specPutNumI (n : Int) (w : World) (h0 : 0 ≤ n) (h : n ≤ 4000000000) :
    Calls Tryz.prog 48 #[.int .i64 n] w fun e w' => e = .returned (.string ⟨(Mth.put n.toNat).toArray⟩) ∧ Below w.heap.size w w' := by
  obtain ⟨m, rfl⟩ := Int.eq_ofNat_of_zero_le h0
  exact specPutNum m w (by omega)

/-- What GetNum hands back. -/
def getRes (o : Option (Nat × Nat)) (i : Int) : Value :=
  match o with
  | none => .tuple #[.int .i64 0, .int .i64 (-1)]
  | some (n, c) => .tuple #[.int .i64 n, .int .i64 (i + c)]
theorem get_some {G : Option (Nat × Nat)} {i a b : Int} {n c : Nat} (hG : G = some (n, c)) (ha : a = n) (hb : b = i + c) : Ending.returned (.tuple #[.int .i64 a, .int .i64 b]) = .returned (getRes G i) := by
  subst hG; subst ha; subst hb; rfl
theorem get_none {G : Option (Nat × Nat)} {i : Int} (hG : G = none) : Ending.returned (.tuple #[.int .i64 0, .int .i64 (-1)]) = .returned (getRes G i) := by
  subst hG; rfl

/-- The bytes that were read, as the text's piece. -/
theorem ext_take (s : ByteArray) (i j k : Nat) (hk : k = i + j) (hlt : k < s.size) : (s.extract i (k + 1)).toList = (s.data.toList.drop i).take j ++ [s[k]] := by
  subst hk
  rw [Lib.extract_toList]
  have e : i + j + 1 - i = j + 1 := by omega
  rw [e, List.take_succ_eq_append_getElem (by simp; show j < s.size - i; omega)]
  simp; rfl
theorem unit_pow {j v : Nat} (h : unitAt j v) : v = 128 ^ j := by
  unfold unitAt at h
  rcases h with ⟨rfl, rfl⟩ | ⟨rfl, rfl⟩ | ⟨rfl, rfl⟩ | ⟨rfl, rfl⟩ | ⟨rfl, rfl⟩ | ⟨rfl, rfl⟩ <;> rfl

/-- What was read: all but the last byte bear 128, and they are worth what was gathered. -/
def readSo (s : ByteArray) (i j m : Nat) : Prop := ((s.data.toList.drop i).take j).length = j ∧ (∀ c ∈ (s.data.toList.drop i).take j, 128 ≤ c.toNat) ∧ m = Mth.val ((s.data.toList.drop i).take j)
theorem read_nil (s : ByteArray) (i : Nat) : readSo s i 0 0 := ⟨by simp, by simp, by simp [Mth.val]⟩
theorem take_next (s : ByteArray) (i j k : Nat) (hk : k = i + j) (hlt : k < s.size) : (s.data.toList.drop i).take (j + 1) = (s.data.toList.drop i).take j ++ [s[k]] := by
  have h := ext_take s i j k hk hlt
  rw [Lib.extract_toList] at h
  have e : k + 1 - i = j + 1 := by omega
  rw [e] at h; exact h
theorem val_next (s : ByteArray) (i j k m v : Nat) (hk : k = i + j) (hlt : k < s.size) (hu : unitAt j v) (h : readSo s i j m) : Mth.val ((s.data.toList.drop i).take (j + 1)) = m + s[k].toNat % 128 * v := by
  rw [take_next s i j k hk hlt, Mth.val_snoc, h.1, ← h.2.2, unit_pow hu]
theorem read_next (s : ByteArray) (i j k m v : Nat) (hk : k = i + j) (hlt : k < s.size) (hu : unitAt j v) (hb : 128 ≤ s[k].toNat) (h : readSo s i j m) : readSo s i (j + 1) (m + s[k].toNat % 128 * v) := by
  refine ⟨?_, ?_, (val_next s i j k m v hk hlt hu h).symm⟩
  · rw [take_next s i j k hk hlt, List.length_append, h.1]; rfl
  · intro c hc
    rw [take_next s i j k hk hlt, List.mem_append] at hc
    rcases hc with hc | hc
    · exact h.2.1 c hc
    · simp at hc; subst hc; exact hb
theorem cmp_yes (s : ByteArray) (i j k m v : Nat) (hk : k = i + j) (hlt : k < s.size) (hu : unitAt j v) (hj : j < 5) (hb : ¬ 128 ≤ s[k].toNat) (h : readSo s i j m) (hz : s[k].toNat ≠ 0 ∨ j = 0) :
    Mth.put (m + s[k].toNat * v) = (s.extract i (k + 1)).toList := by
  have e : m + s[k].toNat * v = Mth.val ((s.data.toList.drop i).take j ++ [s[k]]) := by
    rw [← take_next s i j k hk hlt, val_next s i j k m v hk hlt hu h, Nat.mod_eq_of_lt (by omega)]
  rw [e, ext_take s i j k hk hlt]
  exact Mth.putF_val _ _ (by omega) 5 (by rw [h.1]; omega) h.2.1 (by
    rcases hz with hz | hz
    · exact .inl hz
    · subst hz; exact .inr (by simp))
theorem cmp_no (s : ByteArray) (i j k m v : Nat) (hk : k = i + j) (hlt : k < s.size) (hu : unitAt j v) (hj : j < 5) (h : readSo s i j m) (hz : s[k].toNat = 0) (hj0 : 0 < j) :
    Mth.put (m + s[k].toNat * v) ≠ (s.extract i (k + 1)).toList := by
  have e : m + s[k].toNat * v = Mth.val ((s.data.toList.drop i).take j ++ [s[k]]) := by
    rw [← take_next s i j k hk hlt, val_next s i j k m v hk hlt hu h, Nat.mod_eq_of_lt (by omega)]
  rw [e, ext_take s i j k hk hlt]
  exact Mth.putF_nought _ _ hz (by intro hn; have := h.1; rw [hn] at this; simp at this; omega) 5 (by rw [h.1]; omega)

theorem specGetNum_neg (s : ByteArray) (i : Int) (w : World) (h : i < 0) : Calls Tryz.prog 46 #[.string s, .int .i64 i] w fun e w' => e = .returned (getRes none i) ∧ w = w' := by
  have h0 : decide (0 ≤ i) = false := by simp; omega
  go_enter Tryz.func46, Tryz.ntmps46
  go_wp2
  refine wp_loop_rounds 1 ?_
  rw [rounds_succ]
  go_wp2
  go_ret2
  exact ⟨rfl, rfl⟩

theorem bne_lists {a b : List UInt8} (h : a = b) : (a == b) = true := by simp [h]
theorem nbe_lists {a b : List UInt8} (h : a ≠ b) : (a == b) = false := by simp [h]

set_option maxRecDepth 100000 in
set_option maxHeartbeats 4000000 in
theorem specGetNum (s : ByteArray) (i : Nat) (w : World) (hs : s.size ≤ maxLen) : Calls Tryz.prog 46 #[.string s, .int .i64 i] w fun e w' => e = .returned (getRes (Mth.get s.data.toList i) i) ∧ Below w.heap.size w w' := by
  unfold maxLen at hs
  go_enter Tryz.func46, Tryz.ntmps46
  go_wp2
  go_loop [6, 7, 8] (fun n u a => ∃ j m v k : Nat, unitAt j v ∧ m < v ∧ n = .int .i64 m ∧ u = .int .i64 v ∧ a = .int .i64 k ∧ k = i + j ∧ readSo s i j m ∧ Mth.getF (5 - j) (s.data.toList.drop k) m v j = Mth.get s.data.toList i) (fun _ _ a => s.size - (intOf a).toNat)
  case atStart => exact ⟨0, 0, 1, i, .inl ⟨rfl, rfl⟩, by omega, rfl, rfl, rfl, rfl, read_nil s i, rfl⟩
  case round =>
    obtain ⟨j, m, v, k, hu, hm, rfl, rfl, rfl, hk, hread, hget⟩ := hrel
    have HG := hide hget
    have HK := hide hk
    have HRD := hide hread
    have hki1 : (k : Int) - (i : Int) ≤ j := by omega
    have hki2 : (j : Int) ≤ (k : Int) - (i : Int) := by omega
    clear hget hk hread
    obtain ⟨hv1, hv2, hu2, hv5⟩ := unit_le hu
    have HU0 := hide hu
    by_cases hlt : k < s.size
    · by_cases hj : j < 5
      · have hc : s[k].toNat < 256 := s[k].toNat_lt
        have hv2' := hv2 hj
        have HU := hide (hu2 hj)
        clear hv2 hu2 hv5 hu
        obtain ⟨hp0, hp1⟩ := part_le s[k].toNat v
        by_cases hb : 128 ≤ s[k].toNat
        · have HR := hide (Mth.get_more s k _ m _ _ hlt hj hb (unhide HG))
          have HN := hide (read_next s i j k m v (unhide HK) hlt (unhide HU0) hb (unhide HRD))
          clear HG
          go_wp2
          go_round
          case rel => exact ⟨_, _, _, k + 1, unhide HU, part_next m _ v hm, by go_num, by go_num, by go_num, by have := unhide HK; omega, unhide HN, unhide HR⟩
          case measure => simp [intOf]; omega
        · go_wp2_with fail
          generalize hx : ((m : Int) + (s[k].toNat : Int) % 128 * (v : Int)) = x
          have hx0 : 0 ≤ x := by omega
          have hx1 : x ≤ 34359738368 := by omega
          have HX := hide hx
          clear hx hp0 hp1
          have hA : (0 : Int) ≤ (k : Int) + 1 := by omega
          have hB : (k : Int) + 1 ≤ (s.size : Int) := by omega
          have hC : (i : Int) ≤ (k : Int) + 1 := by omega
          have hW : IntKind.i64.wrap ((k : Int) + 1) = (k : Int) + 1 := IntWalk.i64_in _ ⟨by omega, by omega⟩
          by_cases hbig : 4000000000 < x
          · have HR := hide (Mth.get_bad s k _ m _ _ hlt hj hb (.inl (part_big m _ v hb (by rw [unhide HX]; exact hbig))) (unhide HG))
            have hne : (([] : List UInt8) == (s.extract i (k + 1)).toList) = false := nbe_lists (by rw [ext_take s i j k (unhide HK) hlt]; simp)
            go_region_with (go_at_call 48; refine (specPutNum_none _ _ (.inr hbig)).mono ?_; rintro e w' ⟨rfl, rfl⟩)
            all_goals
              go_wp2
              go_ret2
              exact ⟨get_none (unhide HR), (Below.refl _ _).drew⟩
          · have hsm : x ≤ 4000000000 := by omega
            have HV : Hid (x.toNat = m + s[k].toNat * v) := by have h1 := part_val m s[k].toNat v hb; rw [unhide HX] at h1; rw [h1]; rfl
            by_cases hbad : s[k].toNat = 0 ∧ 0 < j
            · have HR := hide (Mth.get_bad s k _ m _ _ hlt hj hb (.inr hbad) (unhide HG))
              have hne : (Mth.put x.toNat == (s.extract i (k + 1)).toList) = false := nbe_lists (by rw [unhide HV]; exact cmp_no s i j k m v (unhide HK) hlt (unhide HU0) hj (unhide HRD) hbad.1 hbad.2)
              clear hbad
              go_region_with (go_at_call 48; refine (specPutNumI _ _ hx0 hsm).mono ?_; rintro e w' ⟨rfl, hbel⟩)
              all_goals
                go_wp2
                go_ret2
                exact ⟨get_none (unhide HR), by first | exact hbel | exact ((Below.refl _ _).drew).trans hbel⟩
            · have HR := hide (Mth.get_hit s k _ m _ _ hlt hj hb (part_small m _ v hb (by rw [unhide HX]; omega)) (by omega) (unhide HG))
              have heq : (Mth.put x.toNat == (s.extract i (k + 1)).toList) = true := bne_lists (by rw [unhide HV]; exact cmp_yes s i j k m v (unhide HK) hlt (unhide HU0) hj hb (unhide HRD) (by omega))
              clear hbad
              go_region_with (go_at_call 48; refine (specPutNumI _ _ hx0 hsm).mono ?_; rintro e w' ⟨rfl, hbel⟩)
              all_goals
                go_wp2
                go_ret2
                exact ⟨get_some (unhide HR) (by have := unhide HV; omega) (by have := unhide HK; omega), by first | exact hbel | exact ((Below.refl _ _).drew).trans hbel⟩
      · obtain ⟨rfl, hbigu⟩ := hv5 hj
        have HR := hide (Mth.get_full _ _ _ _ (unhide HG))
        clear hv2 hu2 hv5 hu
        go_wp2
        go_ret2
        exact ⟨get_none (unhide HR), Below.refl _ _⟩
    · have HR := hide (Mth.get_end s k _ m _ _ hlt (unhide HG))
      clear hv2 hu2 hv5 hu
      go_wp2
      go_ret2
      exact ⟨get_none (unhide HR), Below.refl _ _⟩
open Go.RowKit Go.Extern.Stop Go.Stop Go.Extern

/-- errors.As(nil, target). -/
theorem as_nil (t : Value) (w : World) :
    Calls Tryz.prog 108 #[.nilIface, t] w fun e w' => e = .returned (.bool false) ∧ w = w' := by
  go_enter Tryz.func108, Tryz.ntmps108
  go_wp2
  go_ret
  exact ⟨rfl, rfl⟩

namespace As
theorem valueOfPtr (t : Addr) (w : World) : (ReflectliteValue.unpack (.iface 125 (.pointer (some t)))).run Tryz.prog w
    = .ok (.agg #[.pointer (some ⟨7, 125, none⟩), .pointer (some ⟨w.heap.size, 0, none⟩), .int .u64 150]) (w.alloc (.cells #[.pointer (some t)] 125)) := by kernel_rfl
theorem typePtr (a : Addr) (w : World) : (ReflectliteValue.methodAny (ReflectliteValue.valueError "reflectlite.Value.Type" 0) (fun t _ _ _ => ReflectliteType.toType t) #[.agg #[.pointer (some ⟨7, 125, none⟩), .pointer (some a), .int .u64 150]]).run Tryz.prog w
    = .ok (.iface 167 (.agg #[.pointer (some ⟨7, 125, none⟩)])) w := by kernel_rfl
theorem methodKind (h : Value) (w : World) : (Go.method 319 167 (.agg #[h]) "Kind").run Tryz.prog w = .ok (161, h) w := by kernel_rfl
theorem methodElem (h : Value) (w : World) : (Go.method 319 167 (.agg #[h]) "Elem").run Tryz.prog w = .ok (180, .agg #[h]) w := by kernel_rfl
theorem methodImplements (h : Value) (w : World) : (Go.method 319 167 (.agg #[h]) "Implements").run Tryz.prog w = .ok (181, .agg #[h]) w := by kernel_rfl
theorem methodAssignableTo (h : Value) (w : World) : (Go.method 319 167 (.agg #[h]) "AssignableTo").run Tryz.prog w = .ok (178, .agg #[h]) w := by kernel_rfl
theorem methodUnwrap (h : Value) (w : World) : (Go.method 319 145 (.agg #[h]) "Unwrap").run Tryz.prog w = .ok (173, .agg #[h]) w := by kernel_rfl
theorem kindPtr (w : World) : ((ReflectliteType.abiMethod fun t => (fun a : Nat => Value.int IntKind.u8 (a : Int)) <$> Rtype.kind t) #[.pointer (some ⟨7, 125, none⟩)]).run Tryz.prog w = .ok (.int .u8 22) w := by kernel_rfl
theorem kindStruct (w : World) : ((ReflectliteType.abiMethod fun t => (fun a : Nat => Value.int IntKind.u8 (a : Int)) <$> Rtype.kind t) #[.pointer (some ⟨7, 123, none⟩)]).run Tryz.prog w = .ok (.int .u8 25) w := by kernel_rfl
theorem rlm (z : Sem Value) (f : TypeId → Addr → Nat → Nat → Sem Value) (v : Value) :
    ReflectliteValue.method z f #[v] = (do match ← ReflectliteValue.parts v with | none => z | some (t, a, fl) => f t a fl (fl % 32)) := rfl
theorem partsPtr (a : Addr) (w : World) : (ReflectliteValue.parts (.agg #[.pointer (some ⟨7, 125, none⟩), .pointer (some a), .int .u64 150])).run Tryz.prog w = .ok (some (125, a, 150)) w := by kernel_rfl
theorem isNil (a p : Addr) (W : World) (ha : W.cell? a = some (.pointer (some p))) :
    (ReflectliteValue.method (ReflectliteValue.valueError "reflectlite.Value.IsNil" 0) ReflectliteValue.isNil #[.agg #[.pointer (some ⟨7, 125, none⟩), .pointer (some a), .int .u64 150]]).run Tryz.prog W = .ok (.bool false) W := by
  rw [rlm]
  simp only [Sem.run_bind, partsPtr, Result.andThen]
  simp [ReflectliteValue.isNil, loadVar, isAgg, underlying, Tryz.underlying125, ha, Result.andThen]
theorem elemType (w : World) : (ReflectliteType.method ReflectliteType.elem #[.agg #[.pointer (some ⟨7, 125, none⟩)]]).run Tryz.prog w = .ok (.iface 167 (.agg #[.pointer (some ⟨7, 123, none⟩)])) w := by kernel_rfl
theorem implements (w : World) : (ReflectliteType.relation "Implements" ReflectliteType.implements_ #[.agg #[.pointer (some ⟨7, 123, none⟩)], .iface 167 (.agg #[.pointer (some ⟨7, 101, none⟩)])]).run Tryz.prog w = .ok (.bool true) w := by kernel_rfl
theorem typeOfNo (v : Value) (w : World) : (ReflectliteType.typeOf #[.iface 123 v]).run Tryz.prog w = .ok (.iface 167 (.agg #[.pointer (some ⟨7, 123, none⟩)])) w := by kernel_rfl
theorem typeOfUnread (v : Value) (w : World) : (ReflectliteType.typeOf #[.iface 145 v]).run Tryz.prog w = .ok (.iface 167 (.agg #[.pointer (some ⟨7, 145, none⟩)])) w := by kernel_rfl
theorem assignNo (w : World) : (ReflectliteType.relation "AssignableTo" ReflectliteType.assignableTo #[.agg #[.pointer (some ⟨7, 123, none⟩)], .iface 167 (.agg #[.pointer (some ⟨7, 123, none⟩)])]).run Tryz.prog w = .ok (.bool true) w := by kernel_rfl
theorem assignUnread (w : World) : (ReflectliteType.relation "AssignableTo" ReflectliteType.assignableTo #[.agg #[.pointer (some ⟨7, 145, none⟩)], .iface 167 (.agg #[.pointer (some ⟨7, 123, none⟩)])]).run Tryz.prog w = .ok (.bool false) w := by kernel_rfl
theorem valueOfNo (p : Int) (w : World) : (ReflectliteValue.unpack (.iface 123 (.agg #[.int .i64 p]))).run Tryz.prog w
    = .ok (.agg #[.pointer (some ⟨7, 123, none⟩), .pointer (some ⟨w.heap.size, 0, none⟩), .int .u64 153]) (w.alloc (.cells #[.int .i64 p] 123)) := by kernel_rfl
theorem elemOf (w : World) : (Rtype.elem? 125).run Tryz.prog w = .ok (some 123) w := by kernel_rfl
theorem mkNo (p : Addr) (w : World) : (ReflectliteValue.mk 123 p ReflectliteValue.flagAddr).run Tryz.prog w = .ok (.agg #[.pointer (some ⟨7, 123, none⟩), .pointer (some p), .int .u64 409]) w := by kernel_rfl
theorem elemV (a p : Addr) (W : World) (ha : W.cell? a = some (.pointer (some p))) :
    (ReflectliteValue.method (ReflectliteValue.valueError "reflectlite.Value.Elem" 0) ReflectliteValue.elem #[.agg #[.pointer (some ⟨7, 125, none⟩), .pointer (some a), .int .u64 150]]).run Tryz.prog W
      = .ok (.agg #[.pointer (some ⟨7, 123, none⟩), .pointer (some p), .int .u64 409]) W := by
  rw [rlm]
  simp only [Sem.run_bind, partsPtr, Result.andThen]
  simp [ReflectliteValue.elem, loadVar, isAgg, underlying, Tryz.underlying125, ha, Result.andThen, elemOf, mkNo]
theorem partsNoA (a : Addr) (w : World) : (ReflectliteValue.parts (.agg #[.pointer (some ⟨7, 123, none⟩), .pointer (some a), .int .u64 409])).run Tryz.prog w = .ok (some (123, a, 409)) w := by kernel_rfl
theorem partsNo (a : Addr) (w : World) : (ReflectliteValue.parts (.agg #[.pointer (some ⟨7, 123, none⟩), .pointer (some a), .int .u64 153])).run Tryz.prog w = .ok (some (123, a, 153)) w := by kernel_rfl
theorem directNo (w : World) : (Rtype.directlyAssignable 123 123).run Tryz.prog w = .ok true w := by kernel_rfl
end As
namespace As
theorem rls (v x : Value) : ReflectliteValue.set #[v, x] = (do
    let (some (dst, a, fl), some (src, b, _)) := (← ReflectliteValue.parts v, ← ReflectliteValue.parts x)
      | unsupported (.noEntry "extern/(internal/reflectlite.Value).Set.zeroValue")
    if fl / ReflectliteValue.flagAddr % 2 == 0 then unsupported (.noEntry "extern/(internal/reflectlite.Value).Set.unaddressable")
    let val ← loadVar src b
    if ← Rtype.directlyAssignable dst src then storeVar dst a val
    else if ← Rtype.implements dst src then
      if (← Rtype.kind src) == 20 then
        match val with
        | .nilIface => unsupported (.noEntry "extern/reflectlite: a nil value of one interface type handed on as a value of another")
        | _ => storeVar dst a val
      else storeVar dst a (.iface src val)
    else panicString ("reflectlite.Set: value of type " ++ (← Rtype.spelt src) ++ " is not assignable to type " ++ (← Rtype.spelt dst))
    pure (.tuple #[])) := rfl
theorem setNo (ta b : Addr) (p : Int) (old : Value) (W : World) (hb : W.cell? b = some (.int .i64 p)) (ht : W.cell? ta = some old) (hf : W.frozen? ta = false) :
    (ReflectliteValue.set #[.agg #[.pointer (some ⟨7, 123, none⟩), .pointer (some ta), .int .u64 409], .agg #[.pointer (some ⟨7, 123, none⟩), .pointer (some b), .int .u64 153]]).run Tryz.prog W
      = .ok (.tuple #[]) (W.setCell ta (.int .i64 p)) := by
  rw [rls]
  simp only [Sem.run_bind, partsNoA, partsNo, Result.andThen]
  have hl : (loadCells b 1).run Tryz.prog W = .ok #[.int .i64 p] W := run_loadCells_list W b [.int .i64 p] (fun j v hj => by
    match j, hj with
    | 0, hj => simp at hj; subst hj; simpa [Addr.add] using hb)
  simp [ReflectliteValue.flagAddr, loadVar, isAgg, underlying, Tryz.underlying123, hl, Result.andThen, directNo, storeVar, Value.cells, storeCells, Addr.add]
  rw [run_store Tryz.prog W ta _ _ (by rfl)]
  simp [ht, hf]
end As
namespace As
theorem noAs (v : Value) (xT : TypeId) (w : World) : (Instr.typeAssert (.iface 145 v) xT 172 true).run Tryz.prog w = .ok (.tuple #[.nilIface, .bool false]) w := run_typeAssert_lacksB Tryz.underlying172 (by kernel_rfl) (by kernel_rfl) v xT w
theorem hasUnwrap (v : Value) (xT : TypeId) (w : World) : (Instr.typeAssert (.iface 145 v) xT 175 true).run Tryz.prog w = .ok (.tuple #[.iface 145 v, .bool true]) w := run_typeAssert_hasB Tryz.underlying175 (by kernel_rfl) v xT w

/-- The two shapes of errors that the program makes. -/
def no (p : Int) : Value := .iface 123 (.agg #[.int .i64 p])
end As

theorem World.lt_of_cell {w : World} {a : Addr} {v : Value} (h : w.cell? a = some v) : a.block < w.heap.size := by
  rcases Nat.lt_or_ge a.block w.heap.size with h' | h'
  · exact h'
  · simp [World.cell?, Array.getElem?_eq_none h'] at h
set_option maxRecDepth 100000 in
set_option maxHeartbeats 2000000 in
theorem as_one (p : Int) (tg : Value) (t a : Addr) (old : Value) (w : World) (ha : w.cell? a = some (.pointer (some t))) (ht : w.cell? t = some old) (hf : w.frozen? t = false) :
    Calls Tryz.prog 124 #[.iface 145 (.agg #[.iface 123 (.agg #[.int .i64 p])]), tg, .agg #[.pointer (some ⟨7, 125, none⟩), .pointer (some a), .int .u64 150], .iface 167 (.agg #[.pointer (some ⟨7, 123, none⟩)])] w
      fun e w' => e = .returned (.bool true) ∧ Below t.block w w' := by
  have hTO := @run_callFunc_extern Tryz.prog 135 _ ReflectliteType.typeOf Tryz.func135 (by kernel_rfl) (by kernel_rfl) (by kernel_rfl) (by kernel_rfl)
  have hAT := @run_callFunc_extern Tryz.prog 178 _ (ReflectliteType.relation "AssignableTo" ReflectliteType.assignableTo) Tryz.func178 (by kernel_rfl) (by kernel_rfl) (by kernel_rfl) (by kernel_rfl)
  have hVO := @run_callFunc_extern Tryz.prog 121 _ (fun args => ReflectliteValue.unpack (args.getD 0 (.tuple #[]))) Tryz.func121 (by kernel_rfl) (by kernel_rfl) (by kernel_rfl) (by kernel_rfl)
  have hEL := @run_callFunc_extern Tryz.prog 136 _ (ReflectliteValue.method (ReflectliteValue.valueError "reflectlite.Value.Elem" 0) ReflectliteValue.elem) Tryz.func136 (by kernel_rfl) (by kernel_rfl) (by kernel_rfl) (by kernel_rfl)
  have hST := @run_callFunc_extern Tryz.prog 137 _ ReflectliteValue.set Tryz.func137 (by kernel_rfl) (by kernel_rfl) (by kernel_rfl) (by kernel_rfl)
  have f1 := As.typeOfNo
  have f2 := As.typeOfUnread
  have f3 := As.methodAssignableTo
  have f4 := As.assignNo
  have f5 := As.assignUnread
  have f6 := As.noAs
  have f7 := As.hasUnwrap
  have f8 := As.methodUnwrap
  have f9 := As.valueOfNo
  have hal : a.block < w.heap.size := World.lt_of_cell ha
  have htl : t.block < w.heap.size := World.lt_of_cell ht
  have el := As.elemV a t ((w.alloc (.cells #[.pointer (some ⟨7, 125, none⟩), .pointer (some a), .int .u64 150] 148)).alloc (.cells #[.iface 123 (.agg #[.int .i64 p])] 145))
    (by rw [World.cell?_alloc_lt _ _ a (by simp; omega), World.cell?_alloc_lt _ _ a hal]; exact ha)
  have st := As.setNo t ⟨w.heap.size + 1 + 1, 0, none⟩ p old (((w.alloc (.cells #[.pointer (some ⟨7, 125, none⟩), .pointer (some a), .int .u64 150] 148)).alloc (.cells #[.iface 123 (.agg #[.int .i64 p])] 145)).alloc (.cells #[.int .i64 p] 123))
    (by rw [World.cell?_alloc_at _ _ _ _ (by simp)]; rfl)
    (by rw [World.cell?_alloc_lt _ _ t (by simp; omega), World.cell?_alloc_lt _ _ t (by simp; omega), World.cell?_alloc_lt _ _ t htl]; exact ht)
    (by rw [World.frozen?_alloc_old _ _ t (by simp; omega), World.frozen?_alloc_old _ _ t (by simp; omega), World.frozen?_alloc_old _ _ t (Nat.ne_of_lt htl)]; exact hf)
  go_enter Tryz.func124, Tryz.ntmps124
  go_wp2
  refine wp_loop_rounds 2 ?_
  rw [rounds_succ]
  go_wp2
  rw [rounds_succ]
  go_wp2
  go_ret
  exact ⟨rfl, by exact ((((Below.refl _ _).alloc (by omega) _).alloc (by simp; omega) _).alloc (by simp; omega) _).setCell (Nat.le_refl _) _⟩

set_option maxRecDepth 100000 in
set_option maxHeartbeats 2000000 in
theorem as_two (p : Int) (tg : Value) (t a : Addr) (old : Value) (w : World) (ha : w.cell? a = some (.pointer (some t))) (ht : w.cell? t = some old) (hf : w.frozen? t = false) :
    Calls Tryz.prog 124 #[.iface 145 (.agg #[.iface 145 (.agg #[.iface 123 (.agg #[.int .i64 p])])]), tg, .agg #[.pointer (some ⟨7, 125, none⟩), .pointer (some a), .int .u64 150], .iface 167 (.agg #[.pointer (some ⟨7, 123, none⟩)])] w
      fun e w' => e = .returned (.bool true) ∧ Below t.block w w' := by
  have hTO := @run_callFunc_extern Tryz.prog 135 _ ReflectliteType.typeOf Tryz.func135 (by kernel_rfl) (by kernel_rfl) (by kernel_rfl) (by kernel_rfl)
  have hAT := @run_callFunc_extern Tryz.prog 178 _ (ReflectliteType.relation "AssignableTo" ReflectliteType.assignableTo) Tryz.func178 (by kernel_rfl) (by kernel_rfl) (by kernel_rfl) (by kernel_rfl)
  have hVO := @run_callFunc_extern Tryz.prog 121 _ (fun args => ReflectliteValue.unpack (args.getD 0 (.tuple #[]))) Tryz.func121 (by kernel_rfl) (by kernel_rfl) (by kernel_rfl) (by kernel_rfl)
  have hEL := @run_callFunc_extern Tryz.prog 136 _ (ReflectliteValue.method (ReflectliteValue.valueError "reflectlite.Value.Elem" 0) ReflectliteValue.elem) Tryz.func136 (by kernel_rfl) (by kernel_rfl) (by kernel_rfl) (by kernel_rfl)
  have hST := @run_callFunc_extern Tryz.prog 137 _ ReflectliteValue.set Tryz.func137 (by kernel_rfl) (by kernel_rfl) (by kernel_rfl) (by kernel_rfl)
  have f1 := As.typeOfNo
  have f2 := As.typeOfUnread
  have f3 := As.methodAssignableTo
  have f4 := As.assignNo
  have f5 := As.assignUnread
  have f6 := As.noAs
  have f7 := As.hasUnwrap
  have f8 := As.methodUnwrap
  have f9 := As.valueOfNo
  have hal : a.block < w.heap.size := World.lt_of_cell ha
  have htl : t.block < w.heap.size := World.lt_of_cell ht
  have el := As.elemV a t (((w.alloc (.cells #[.pointer (some ⟨7, 125, none⟩), .pointer (some a), .int .u64 150] 148)).alloc (.cells #[.iface 145 (.agg #[.iface 123 (.agg #[.int .i64 p])])] 145)).alloc (.cells #[.iface 123 (.agg #[.int .i64 p])] 145))
    (by rw [World.cell?_alloc_lt _ _ a (by simp; omega), World.cell?_alloc_lt _ _ a (by simp; omega), World.cell?_alloc_lt _ _ a hal]; exact ha)
  have st := As.setNo t ⟨w.heap.size + 1 + 1 + 1, 0, none⟩ p old ((((w.alloc (.cells #[.pointer (some ⟨7, 125, none⟩), .pointer (some a), .int .u64 150] 148)).alloc (.cells #[.iface 145 (.agg #[.iface 123 (.agg #[.int .i64 p])])] 145)).alloc (.cells #[.iface 123 (.agg #[.int .i64 p])] 145)).alloc (.cells #[.int .i64 p] 123))
    (by rw [World.cell?_alloc_at _ _ _ _ (by simp)]; rfl)
    (by rw [World.cell?_alloc_lt _ _ t (by simp; omega), World.cell?_alloc_lt _ _ t (by simp; omega), World.cell?_alloc_lt _ _ t (by simp; omega), World.cell?_alloc_lt _ _ t htl]; exact ht)
    (by rw [World.frozen?_alloc_old _ _ t (by simp; omega), World.frozen?_alloc_old _ _ t (by simp; omega), World.frozen?_alloc_old _ _ t (by simp; omega), World.frozen?_alloc_old _ _ t (Nat.ne_of_lt htl)]; exact hf)
  go_enter Tryz.func124, Tryz.ntmps124
  go_wp2
  refine wp_loop_rounds 3 ?_
  rw [rounds_succ]
  go_wp2
  rw [rounds_succ]
  go_wp2
  rw [rounds_succ]
  go_wp2
  go_ret
  exact ⟨rfl, by exact (((((Below.refl _ _).alloc (by omega) _).alloc (by simp; omega) _).alloc (by simp; omega) _).alloc (by simp; omega) _).setCell (Nat.le_refl _) _⟩
end Go.Proofs.YtikdkijggejnfaaGreatDoor
